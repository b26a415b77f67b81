import PyProof.Rows.All
import Wide.All
import OpenK.AllK
import Wide.FinOn
import PyProof.EqAt
import PyProof.EqKinds
import PyProof.TupleCall
import KE.BitLaws
import PyProof.FactsAll.range_2
import PyProof.FactsAll.int_6
import PyProof.FactsAll.int_0
import PyProof.FactsAll.tuple_2
import PyProof.ListMulRoad
import PyProof.StrOps2
import PyProof.ReprRoads
import KE.KFmtOwn
import PyProof.InstNe
import PyProof.Rows.SetFrom
import PyProof.SetRoads
import PyProof.FString
import PyProof.CallStr
import PyProof.CallFns
import PyProof.FitsInt
import PySem.Challenge.RW_digitway_k30_bounds

set_option Elab.async false
set_option linter.all false
set_option maxRecDepth 100000
/-! THE HAND LAYER, for ints, bools, texts, own classes, lists, tuples, dicts, comprehensions, walks over dicts, enumerate, zip, reversed, texts, calls, loops. Paste it whole ahead of your own text; what your proof does not reach may be deleted. -/
namespace L2
open PySem PySem.Spec PyProof.Rows

/-- a key: an int or a str -/
abbrev Key := Sum Int Str
def keyIs : Key → Value → Bool
  | .inl k, v => Value.isInt k v
  | .inr x, v => Value.isStrOf x v
def keyH (w : World) : Key → Int
  | .inl k => hashInt k
  | .inr x => hashStr w x
theorem keyIs_shape : ∀ {k : Key} {v : Value}, keyIs k v = true → (∃ i t, k = Sum.inl i ∧ v = Value.int i t) ∨ (∃ x t, k = Sum.inr x ∧ v = Value.str x t)
  | .inl i, v, h => by
    obtain ⟨t, e⟩ := Value.isInt_shape (k := i) (v := v) h
    exact .inl ⟨i, t, rfl, e⟩
  | .inr x, v, h => by
    obtain ⟨t, e⟩ := Value.isStrOf_shape (x := x) (v := v) h
    exact .inr ⟨x, t, rfl, e⟩
theorem keyIs_int (i : Int) (t : Tok) : keyIs (.inl i) (.int i t) = true := by simp [keyIs, Value.isInt]
theorem keyIs_str (x : Str) (t : Tok) : keyIs (.inr x) (.str x t) = true := by simp [keyIs, Value.isStrOf]
theorem key_ll (a b : Int) : decide ((Sum.inl a : Key) = Sum.inl b) = (a == b) := by
  by_cases e : a = b
  · subst e; simp
  · have h : ¬ (Sum.inl a : Key) = Sum.inl b := fun q => e (Sum.inl.inj q)
    rw [decide_eq_false h]
    exact (beq_eq_false_iff_ne.mpr e).symm
theorem key_rr (a b : Str) : decide ((Sum.inr a : Key) = Sum.inr b) = decide (a = b) := by
  by_cases e : a = b
  · subst e; simp
  · have h : ¬ (Sum.inr a : Key) = Sum.inr b := fun q => e (Sum.inr.inj q)
    rw [decide_eq_false h, decide_eq_false e]
theorem key_lr (a : Int) (b : Str) : decide ((Sum.inl a : Key) = Sum.inr b) = false := decide_eq_false (fun q => nomatch q)
theorem key_rl (a : Str) (b : Int) : decide ((Sum.inr a : Key) = Sum.inl b) = false := decide_eq_false (fun q => nomatch q)

def mixKind (prog : Program) (w : World) : PySem.KeyKind prog w Key where
  is := keyIs
  hash := keyH w
  inj := fun v a b ha hb => by
    rcases keyIs_shape ha with ⟨i, t, rfl, rfl⟩ | ⟨x, t, rfl, rfl⟩
    · rcases keyIs_shape hb with ⟨j, u, rfl, e⟩ | ⟨y, u, rfl, e⟩
      · injection e with e1 _; rw [e1]
      · exact nomatch e
    · rcases keyIs_shape hb with ⟨j, u, rfl, e⟩ | ⟨y, u, rfl, e⟩
      · exact nomatch e
      · injection e with e1 _; rw [e1]
  byValue := fun k v h => by
    rcases keyIs_shape h with ⟨i, t, rfl, rfl⟩ | ⟨x, t, rfl, rfl⟩ <;> rfl
  pyHash := fun hv h => by
    rcases keyIs_shape hv with ⟨i, t, rfl, rfl⟩ | ⟨x, t, rfl, rfl⟩
    · exact wpAny_pyHash_int h
    · exact wpAny_pyHash_str h
  eqBool := fun hu hv h => by
    rcases keyIs_shape hu with ⟨i, t, rfl, rfl⟩ | ⟨x, t, rfl, rfl⟩
    · rcases keyIs_shape hv with ⟨j, u, rfl, rfl⟩ | ⟨y, u, rfl, rfl⟩
      · rw [key_ll] at h; exact wpAny_eqBool_int h
      · rw [key_lr] at h; exact SeqAt.EqAt.int_str i t y u _ _ _ _ h
    · rcases keyIs_shape hv with ⟨j, u, rfl, rfl⟩ | ⟨y, u, rfl, rfl⟩
      · rw [key_rl] at h; exact SeqAt.EqAt.str_int x t j u _ _ _ _ h
      · rw [key_rr] at h; exact wpAny_eqBool_str h
  «strs» := fun k x t v h => by
    rcases keyIs_shape h with ⟨i, u, rfl, e⟩ | ⟨y, u, rfl, e⟩
    · exact nomatch e
    · injection e with e1 _
      subst e1
      cases v <;> rfl

theorem mixKind_is (prog : Program) (w : World) (k : Key) (v : Value) : (mixKind prog w).is k v = keyIs k v := rfl
theorem mixKind_int (prog : Program) (w : World) (i : Int) (t : Tok) : (mixKind prog w).is (.inl i) (.int i t) = true := keyIs_int i t
theorem mixKind_str (prog : Program) (w : World) (x : Str) (t : Tok) : (mixKind prog w).is (.inr x) (.str x t) = true := keyIs_str x t
end L2

namespace L2
open PySem PySem.Spec PyProof.Rows

/-- a value, without the heap -/
inductive V where
  | non | bl (b : Bool) | int (i : Int) | str (x : Str) | byt (b : Array UInt8) | flt (b : UInt64) | ref (a : Addr) | ty (n : String)
  deriving DecidableEq

def RelV : V → Value → Prop
  | .non, u => u = Value.none
  | .bl b, u => u = Value.bool b
  | .int i, u => ∃ t, u = Value.int i t
  | .str x, u => ∃ t, u = Value.str x t
  | .byt b, u => ∃ t, u = Value.bytes b t
  | .flt b, u => ∃ t, u = Value.float b t
  | .ref a, u => u = Value.ref a
  | .ty n, u => u = Value.type n

abbrev Vals : List V → List Value → Prop := Paired RelV
theorem Vals.length {xs : List V} {us : List Value} (r : Vals xs us) : xs.length = us.length := Paired.length r
theorem Vals.get : ∀ {xs : List V} {us : List Value} {i : Nat} {x : V}, Vals xs us → xs[i]? = some x → ∃ u, us[i]? = some u ∧ RelV x u
  | _, _, _, _, .nil, e => by simp at e
  | _, _, 0, _, .cons r _, e => by simp at e; subst e; exact ⟨_, rfl, r⟩
  | _, _, i + 1, x, .cons _ t, e => by
    obtain ⟨u, h1, h2⟩ := Vals.get (i := i) (x := x) t (by simpa using e)
    exact ⟨u, by simpa using h1, h2⟩
theorem Vals.set {x : V} {u : Value} (r : RelV x u) : ∀ {xs : List V} {us : List Value} (i : Nat), Vals xs us → Vals (xs.set i x) (us.set i u)
  | _, _, _, .nil => .nil
  | _, _, 0, .cons _ t => .cons r t
  | _, _, i + 1, .cons q t => .cons q (Vals.set r i t)
theorem Vals.append : ∀ {xs ys : List V} {us ws : List Value}, Vals xs us → Vals ys ws → Vals (xs ++ ys) (us ++ ws)
  | _, _, _, _, .nil, s => s
  | _, _, _, _, .cons r t, s => .cons r (Vals.append t s)
def RelO : Option V → Option Value → Prop
  | some v, some u => RelV v u
  | none, none => True
  | _, _ => False
def KV {κ : Type} : List (κ × V) → List (κ × Value) → Prop := Paired fun (p : κ × V) (q : κ × Value) => p.1 = q.1 ∧ RelV p.2 q.2

/-- a key of a dict (00_mix): an int or a text -/
def kV : Key → V
  | .inl i => .int i
  | .inr x => .str x

/-- what stands at a tracked address -/
inductive HO where
  /-- a list -/
  | lst (xs : List V)
  /-- a tuple (never changes) -/
  | tup (xs : List V)
  /-- a dict whose keys are ints and texts; one whose keys are tuples of ints and texts (the empty one is both) -/
  | dK (kvs : List (Key × V)) | dT (kvs : List (List Key × V))
  /-- a set of ints: its members, its size -/
  | set (S : Int → Bool) (n : Nat)
  /-- an instance of the class at C, its dict at dx, its attributes -/
  | ins (C dx : Addr) (fs : List (Str × V))
  /-- the dict of the instance at x -/
  | own (x : Addr)
  /-- the dict of an exception -/
  | xd (fs : List (Str × V))
  /-- a bound method, f of x -/
  | met (f x : Addr)
  /-- a range object lo, lo + 1, .. below hi -/
  | rng (lo hi : Int)
  /-- a thing that is known to the object (the script; a dict while a loop walks it): read, never written while it is so -/
  | frz (o : Obj) (u : HO)
  /-- a code object's table -/
  | tbl (ps : Array Value)
  /-- any other thing, by what is true of its one object (a def of one's own: SetO a S n := HO.ext fun h => ..) -/
  | ext (φ : Heap → Prop)

abbrev Hp := Addr → Option HO
def upd (H : Hp) (a : Addr) (o : HO) : Hp := fun b => if b = a then some o else H b
theorem upd_same {H : Hp} {a : Addr} {o : HO} : upd H a o a = some o := by unfold upd; rw [if_pos rfl]
theorem upd_ne {H : Hp} {a b : Addr} {o : HO} (h : b ≠ a) : upd H a o b = H b := by unfold upd; rw [if_neg h]
theorem upd_upd {H : Hp} {a : Addr} {o u : HO} : upd (upd H a o) a u = upd H a u := by
  funext b; unfold upd; split <;> rfl
/-- two objects of different content stand apart -/
theorem ne_of {H : Hp} {a b : Addr} {o u : HO} (h : H a = some o) (h' : H b = some u) (d : o ≠ u) : a ≠ b := by
  intro e; subst e; rw [h] at h'; exact d (Option.some.inj h')
theorem ne_of_none {H : Hp} {a b : Addr} {o : HO} (h : H a = some o) (h' : H b = none) : a ≠ b := by
  intro e; subst e; rw [h] at h'; cases h'

section
variable (P : Program) (w : World)
def ObjOk (H : Hp) (h : Heap) (a : Addr) : HO → Prop
  | .lst xs => xs.length ≤ sizeLine ∧ ∃ (its : List Value) (n : Nat), Vals xs its ∧ h.get? a = some { cls := .type "list", data := .seq its.toArray n }
  | .tup xs => xs.length ≤ sizeLine ∧ ∃ its : List Value, Vals xs its ∧ IsTup h a its.toArray
  | .dK kvs => kvs.length ≤ sizeLine ∧ (a == sysModules) = false ∧ ∃ vs, KV kvs vs ∧ h.DictOf (mixKind P w) a vs
  | .dT kvs => kvs.length ≤ sizeLine ∧ (a == sysModules) = false ∧ ∃ xs : List (List Key × Addr × Value),
      Paired (fun (p : List Key × V) (q : List Key × Addr × Value) => p.1 = q.1 ∧ H q.2.1 = some (.tup (p.1.map kV)) ∧ RelV p.2 q.2.2) kvs xs ∧
      ∃ o es ep, h.get? a = some o ∧ o.ExactDict ∧ o.data = .dict es ep ∧ es.toList = xs.map (entryOfKey (tupleKind (mixKind P w))) ∧ (xs.map (·.1)).Nodup
  | .set S n => h.SetOf (intKind P w) a S n
  | .ins C dx fs => H dx = some (.own a) ∧ fs.length ≤ 1000 ∧ dx ≠ a ∧ h.get? a = some (PySem.W.instObj C dx) ∧
      ∃ mA, h.Ns1 dx mA ∧ (∀ f, RelO (fs.lookup f) (mA f)) ∧ PySem.Within mA (fs.map (·.1))
  | .own _ => ∃ o, h.get? a = some o
  | .xd fs => ∃ mA, h.Ns1 a mA ∧ ∀ f, RelO (fs.lookup f) (mA f)
  | .rng lo hi => ∃ t u v, h.get? a = some { cls := .type "range", data := .fields #[.int lo t, .int hi u, .int 1 v] }
  | .frz o u => h.get? a = some o ∧ ObjOk H h a u
  | .tbl ps => h.get? a = some { cls := .none, data := .fields ps }
  | .met f x => h.get? a = some (PySem.W.methodObj (.ref f) (.ref x))
  | .ext φ => φ h ∧ (∃ o, h.get? a = some o) ∧ ∀ h1 h2 : Heap, φ h1 → (∀ o, h1.get? a = some o → h2.get? a = some o) → φ h2
/-- the abstract heap is held -/
def HOk (H : Hp) (h : Heap) : Prop := ∀ a o, H a = some o → ObjOk P w H h a o
end

section
variable {P : Program} {w : World} {H H' : Hp} {h h' : Heap} {a : Addr} {o : HO}
theorem ObjOk.lt (x : ObjOk P w H h a o) : a < h.objs.size := by
  cases o with
  | lst xs => obtain ⟨_, _, _, _, e⟩ := x; exact Heap.lt_size e
  | tup xs => obtain ⟨_, _, _, p⟩ := x; exact p.lt
  | dK kvs => obtain ⟨_, _, _, _, o, _, _, e, _⟩ := x; exact Heap.lt_size e
  | dT kvs => obtain ⟨_, _, _, _, o, _, _, e, _⟩ := x; exact Heap.lt_size e
  | set S n => obtain ⟨o, _, _, _, e, _⟩ := x; exact Heap.lt_size e
  | ins C dx fs => obtain ⟨_, _, _, e, _⟩ := x; exact Heap.lt_size e
  | own y => obtain ⟨_, e⟩ := x; exact Heap.lt_size e
  | xd fs => obtain ⟨_, ⟨_, _, _, e, _⟩, _⟩ := x; exact Heap.lt_size e
  | rng lo hi => obtain ⟨_, _, _, e⟩ := x; exact Heap.lt_size e
  | frz ob u => obtain ⟨e, _⟩ := x; exact Heap.lt_size e
  | tbl ps => exact Heap.lt_size (show h.get? a = some _ from x)
  | met f y => exact Heap.lt_size (show h.get? a = some _ from x)
  | ext φ => obtain ⟨_, ⟨_, e⟩, _⟩ := x; exact Heap.lt_size e
theorem Paired.mapP {α β : Type} {F G : α → β → Prop} : ∀ {l₁ : List α} {l₂ : List β}, Paired F l₁ l₂ → (∀ a b, F a b → G a b) → Paired G l₁ l₂
  | _, _, .nil, _ => .nil
  | _, _, .cons r t, f => .cons (f _ _ r) (Paired.mapP t f)
/-- what an object's description leans on: its own object, its own dict, the tuples -/
theorem ObjOk.stay (x : ObjOk P w H h a o) (k : ∀ b u, (b = a ∨ H b = some (.own a)) → h.get? b = some u → h'.get? b = some u)
    (ho : ∀ b, H b = some (.own a) → H' b = some (.own a)) (ht : ∀ b xs, H b = some (.tup xs) → H' b = some (.tup xs)) : ObjOk P w H' h' a o := by
  induction o with
  | lst xs => obtain ⟨z, its, n, r, e⟩ := x; exact ⟨z, its, n, r, k _ _ (.inl rfl) e⟩
  | tup xs => obtain ⟨z, its, r, ob, e, c⟩ := x; exact ⟨z, its, r, ob, k _ _ (.inl rfl) e, c⟩
  | dK kvs => obtain ⟨z, y, vs, r, ob, es, ep, e, c⟩ := x; exact ⟨z, y, vs, r, ob, es, ep, k _ _ (.inl rfl) e, c⟩
  | dT kvs =>
    obtain ⟨z, y, xs, r, ob, es, ep, e, c⟩ := x
    exact ⟨z, y, xs, Paired.mapP r fun p q z => ⟨z.1, ht _ _ z.2.1, z.2.2⟩, ob, es, ep, k _ _ (.inl rfl) e, c⟩
  | set S n => obtain ⟨ob, es, ep, t, e, c⟩ := x; exact ⟨ob, es, ep, t, k _ _ (.inl rfl) e, c⟩
  | ins C dx fs =>
    obtain ⟨d, z, ne, e, mA, ⟨od, es, ep, e2, c⟩, r⟩ := x
    exact ⟨ho _ d, z, ne, k _ _ (.inl rfl) e, mA, ⟨od, es, ep, k _ _ (.inr d) e2, c⟩, r⟩
  | own y => obtain ⟨ob, e⟩ := x; exact ⟨ob, k _ _ (.inl rfl) e⟩
  | xd fs => obtain ⟨mA, ⟨od, es, ep, e, c⟩, r⟩ := x; exact ⟨mA, ⟨od, es, ep, k _ _ (.inl rfl) e, c⟩, r⟩
  | rng lo hi => obtain ⟨t, u, v, e⟩ := x; exact ⟨t, u, v, k _ _ (.inl rfl) e⟩
  | frz ob u ih => obtain ⟨e, q⟩ := x; exact ⟨k _ _ (.inl rfl) e, ih q⟩
  | tbl ps =>
    have e : h.get? a = some { cls := .none, data := .fields ps } := x
    show h'.get? a = some { cls := .none, data := .fields ps }
    exact k a _ (.inl rfl) e
  | met f y =>
    have e : h.get? a = some (PySem.W.methodObj (.ref f) (.ref y)) := x
    show h'.get? a = some (PySem.W.methodObj (.ref f) (.ref y))
    exact k a _ (.inl rfl) e
  | ext φ => obtain ⟨p, ⟨o, e⟩, st⟩ := x; exact ⟨st _ _ p fun o q => k _ _ (.inl rfl) q, ⟨o, k _ _ (.inl rfl) e⟩, st⟩
theorem HOk.lt (x : HOk P w H h) (e : H a = some o) : a < h.objs.size := (x a o e).lt
theorem HOk.fresh (x : HOk P w H h) (e : h.objs.size ≤ a) : H a = none := by
  cases q : H a with
  | none => rfl
  | some u => exact absurd (Nat.lt_of_lt_of_le (x.lt q) e) (Nat.lt_irrefl _)
/-- every object of the heap is kept -/
theorem HOk.kept (x : HOk P w H h) (k : ∀ b u, h.get? b = some u → h'.get? b = some u) : HOk P w H h' := fun a o e =>
  (x a o e).stay (fun b u _ q => k b u q) (fun _ q => q) fun _ _ q => q
/-- a new object is laid and tracked -/
theorem HOk.laid (x : HOk P w H h) (k : ∀ b u, h.get? b = some u → h'.get? b = some u) (hp : h.objs.size ≤ a) (new : ObjOk P w (upd H a o) h' a o) : HOk P w (upd H a o) h' := fun b u e => by
  have hn := x.fresh hp
  by_cases hb : b = a
  · subst hb; rw [upd_same] at e; cases e; exact new
  · rw [upd_ne hb] at e
    exact (x b u e).stay (fun c v _ q => k c v q) (fun c q => by rw [upd_ne (ne_of_none q hn)]; exact q) fun c xs q => by rw [upd_ne (ne_of_none q hn)]; exact q
end

/-- what may be read as u: it is u, or a known u -/
def Rd (H : Hp) (a : Addr) (u : HO) : Prop := H a = some u ∨ ∃ o, H a = some (.frz o u)
theorem Rd.ok {P : Program} {w : World} {H : Hp} {h : Heap} {a : Addr} {u : HO} (r : Rd H a u) (x : HOk P w H h) : ObjOk P w H h a u := by
  rcases r with r | ⟨o, r⟩
  · exact x a u r
  · obtain ⟨_, q⟩ := x a _ r
    exact q
/-- what may be written -/
def Mut : Option HO → Prop
  | some (.lst _) => True
  | some (.dK _) => True
  | some (.dT _) => True
  | some (.set _ _) => True
  | some (.ins _ _ _) => True
  | some (.ext _) => True
  | _ => False
section
variable {P : Program} {w : World} {H : Hp} {h h' : Heap} {x e : Addr} {o' : HO}
/-- the object at e is changed: x itself, or the dict of the instance x -/
theorem HOk.write (ok : HOk P w H h) (mu : Mut (H x)) (he : e = x ∨ H e = some (.own x)) (k : ∀ b u, b ≠ e → h.get? b = some u → h'.get? b = some u) (heo : ∃ u, h'.get? e = some u)
    (new : ObjOk P w (upd H x o') h' x o') : HOk P w (upd H x o') h' := fun b u q => by
  have nown : ∀ c y, H c = some (.own y) → c ≠ x := fun c y r z => by subst z; rw [r] at mu; exact mu
  have ntup : ∀ c xs, H c = some (.tup xs) → c ≠ x := fun c xs r z => by subst z; rw [r] at mu; exact mu
  by_cases hb : b = x
  · subst hb; rw [upd_same] at q; cases q; exact new
  · rw [upd_ne hb] at q
    by_cases hbe : b = e
    · have q' : H b = some (.own x) := by
        rcases he with z | z
        · exact absurd (hbe.trans z) hb
        · rw [hbe]; exact z
      rw [q] at q'; cases q'
      obtain ⟨v, hv⟩ := heo
      exact ⟨v, by rw [hbe]; exact hv⟩
    · refine (ok b u q).stay (fun c v hc r => k c v ?_ r) (fun c r => by rw [upd_ne (nown c b r)]; exact r) fun c xs r => by rw [upd_ne (ntup c xs r)]; exact r
      rcases hc with rfl | hc
      · exact hbe
      · rintro rfl
        rcases he with z | z
        · exact nown c b hc z
        · rw [hc] at z; cases z; exact hb rfl
end

/-! ### kept unless tracked; of the frames at fs (the callers') the slots may change (an exception that passes writes there); of the records at ex (iterators) nothing is said -/
structure Un (fs ex : List Addr) (H H' : Hp) (h h' : Heap) : Prop where
  keep : ∀ b o, h.get? b = some o → H b = none → b ∉ fs → b ∉ ex → h'.get? b = some o
  slot : ∀ b o, h.get? b = some o → H b = none → b ∈ fs → b ∉ ex → ∃ sl, h'.get? b = some { o with slots := sl }
  free : ∀ b o, h.get? b = some o → H b = none → b ∉ ex → H' b = none
  there : ∀ b o, h.get? b = some o → b ∉ ex → ∃ o', h'.get? b = some o'
  tups : ∀ b xs, H b = some (.tup xs) → H' b = some (.tup xs)
  frzs : ∀ b o u, H b = some (.frz o u) → H' b = some (.frz o u)
  tbls : ∀ b ps, H b = some (.tbl ps) → ∃ more, H' b = some (.tbl (ps ++ more))
section
variable {fs fs' ex ex' : List Addr} {H H1 H2 : Hp} {h h1 h2 h' : Heap} {a x e : Addr} {o : HO}
theorem Un.any (u : Un fs ex H H1 h h1) {b : Addr} {ob : Obj} (q : h.get? b = some ob) (n : H b = none) (hx : b ∉ ex) : ∃ sl, h1.get? b = some { ob with slots := sl } := by
  by_cases hb : b ∈ fs
  · exact u.slot b ob q n hb hx
  · exact ⟨ob.slots, u.keep b ob q n hb hx⟩
theorem Un.kept (k : ∀ b u, h.get? b = some u → h'.get? b = some u) : Un fs ex H H h h' :=
  ⟨fun b ob q _ _ _ => k b ob q, fun b ob q _ _ _ => ⟨ob.slots, k b ob q⟩, fun _ _ _ n _ => n, fun b ob q _ => ⟨ob, k b ob q⟩, fun _ _ q => q, fun _ _ _ q => q, fun _ ps q => ⟨#[], by rw [q]; simp⟩⟩
theorem Un.refl : Un fs ex H H h h := Un.kept fun _ _ q => q
theorem Un.laid (k : ∀ b u, h.get? b = some u → h'.get? b = some u) (hp : h.objs.size ≤ a) (hn : H a = none) : Un fs ex H (upd H a o) h h' where
  keep := fun b u q _ _ _ => k b u q
  slot := fun b u q _ _ _ => ⟨u.slots, k b u q⟩
  free := fun b u q n _ => by rw [upd_ne (Nat.ne_of_lt (Nat.lt_of_lt_of_le (Heap.lt_size q) hp))]; exact n
  there := fun b u q _ => ⟨u, k b u q⟩
  tups := fun b xs q => by rw [upd_ne (ne_of_none q hn)]; exact q
  frzs := fun b u xs q => by rw [upd_ne (ne_of_none q hn)]; exact q
  tbls := fun b ps q => ⟨#[], by rw [upd_ne (ne_of_none q hn), q]; simp⟩
theorem Un.write (mu : Mut (H x)) (he : e = x ∨ H e = some (.own x)) (k : ∀ b u, b ≠ e → h.get? b = some u → h'.get? b = some u) (heo : ∃ u, h'.get? e = some u) : Un fs ex H (upd H x o) h h' := by
  have hx : ∀ b, H b = none → b ≠ x := fun b n z => by subst z; rw [n] at mu; exact mu
  have hb : ∀ b, H b = none → b ≠ e := fun b n z => by
    subst z
    rcases he with r | r
    · exact hx b n r
    · rw [n] at r; cases r
  have hm : ∀ b u, H b = some u → ¬ Mut (some u) → b ≠ x := fun b u q nm z => by subst z; rw [q] at mu; exact nm mu
  refine ⟨fun b u q n _ _ => k b u (hb b n) q, fun b u q n _ _ => ⟨u.slots, k b u (hb b n) q⟩, fun b u q n _ => by rw [upd_ne (hx b n)]; exact n, fun b u q _ => ?_,
    fun b xs q => by rw [upd_ne (hm b _ q fun z => z)]; exact q, fun b u xs q => by rw [upd_ne (hm b _ q fun z => z)]; exact q, fun b ps q => ⟨#[], by rw [upd_ne (hm b _ q fun z => z), q]; simp⟩⟩
  by_cases hbe : b = e
  · subst hbe; exact heo
  · exact ⟨u, k b u hbe q⟩
end

/-! ### the heap without what is tracked -/
def trk (h : Heap) (H : Hp) : List Addr := (List.range h.objs.size).filter fun a => (H a).isSome
def hidT (h : Heap) (H : Hp) : Heap := PySem.W.hideAll h (trk h H)
theorem hidT_size (h : Heap) (H : Hp) : (hidT h H).objs.size = h.objs.size := PySem.W.hideAll_size _ _
theorem hidT_get {h : Heap} {H : Hp} {b : Addr} {o : Obj} (e : h.get? b = some o) (n : H b = none) : (hidT h H).get? b = some o :=
  PySem.W.hideAll_get _ e fun hm => by
    have q : (H b).isSome = true := (List.mem_filter.mp hm).2
    rw [n] at q; simp at q
theorem of_hidT {h : Heap} {H : Hp} {b : Addr} {o : Obj} (e : (hidT h H).get? b = some o) : h.get? b = some o ∧ H b = none := by
  have e' : h.get? b = some o := PySem.W.of_hideAll (trk h H) e
  refine ⟨e', ?_⟩
  cases q : H b with
  | none => rfl
  | some x =>
    have hm : b ∈ trk h H := List.mem_filter.mpr ⟨List.mem_range.mpr (Heap.lt_size e'), by simp [q]⟩
    have z : (hidT h H).get? b = none := PySem.W.hideAll_none (trk h H) hm
    rw [z] at e; cases e

/-! ### OpenK's ledger, filled with every new object but one -/
def allNews (g h : Heap) (L : Addr) : List (Addr × Obj) := (List.range h.objs.size).filterMap fun a => if a = L ∨ (g.get? a).isSome = true then none else (h.get? a).map fun o => (a, o)
def rest (g h : Heap) (L d : Addr) : List (Addr × Obj) := (allNews g h L).filter fun p => decide (p.1 ≠ d)
end L2

namespace L2
open PySem PySem.Spec PyProof.Rows

/-- the module's facts, over the base: the heap at the law's entry without what is tracked there -/
structure Mod (K : PySem.W.Frag) (mg : Str → Option Value) (base : Heap) : Prop where
  kin : K.In base
  glob : base.Ns mainGlobals mg
  blt : ∃ mb, base.Ns builtinsNs mb ∧ ∀ x : Str, x ≠ "__name__" → mb x = bootBuiltins x
  nolimit : base.NoLimit
  digits : ∃ mc, base.Ns cStatics mc ∧ mc "sys.int_max_str_digits" = none

/-- the context: a def's body (or a comprehension's block) running. base: fixed through the whole law; s₀, H₀: the entry; outer: the frames whose slots others may change (a def's callers); stack: all frames that run;
   ex: iterators that were made ahead of the entry and are walked here (a comprehension's); fn: the names whose cells were made at the entry (a def: all; a comprehension's block: its own); calm: not within an except suite; pn: pins that every state bears; xe: what is wanted of an exception that leaves the code -/
structure Cx where
  prog : Program
  w : World
  K : PySem.W.Frag
  mg : Str → Option Value
  base : Heap
  A : Around
  N : List Str
  s_0 : Shared
  H_0 : Hp
  env : Env
  outer : List Env
  stack : List Env
  ex : List Addr
  fn : Str → Bool
  calm : Bool
  pn : List (Addr × Obj)
  xe : Value → Shared → Prop
/-- the callers' frames -/
def frs (l : List Env) : List Addr := l.filterMap (·.frame)
abbrev Cx.fs (X : Cx) : List Addr := frs X.outer

def Vis (sc : Scope) (x : Str) : Prop := sc.names.lookup x = some .local ∨ sc.names.lookup x = some .cell ∨ sc.names.lookup x = some .free
def Loc (sc : Scope) (x : Str) : Prop := sc.names.lookup x = some .local ∨ sc.names.lookup x = some .cell
def Look (env : Env) (h : Heap) (m : Str → Option Value) (x : Str) (u : Value) : Prop :=
  (env.kindOf x = some .local ∧ m x = some u) ∨ ((env.kindOf x = some .cell ∨ env.kindOf x = some .free) ∧ ∃ c, env.cells.lookup x = some c ∧ h.IsCell c (some u))

structure Cx.Ok (X : Cx) : Prop where
  mod : Mod X.K X.mg X.base
  kind : X.env.scope.kind = .function
  glob : X.env.globals = mainGlobals
  blt : X.env.builtins = builtinsNs
  above : X.s_0.heap.objs.size ≤ X.env.locals
  inj : ∀ x y c, X.env.cells.lookup x = some c → X.env.cells.lookup y = some c → x = y
  has : ∀ x, (X.env.kindOf x = some .cell ∨ X.env.kindOf x = some .free) → ∃ c, X.env.cells.lookup x = some c
  cab : ∀ x c, X.fn x = true → X.env.cells.lookup x = some c → X.s_0.heap.objs.size ≤ c
  hd : X.calm = true → X.A.handled = none
  frames : X.A.frames = some X.stack
  stk : X.stack = X.outer ∨ (X.stack = X.env :: X.outer ∧ X.env.frame = some X.env.locals)
  exf : ∀ b ∈ X.ex, b ≠ X.env.locals ∧ ∀ x c, X.env.cells.lookup x = some c → c ≠ b
  bs : ∀ b o, X.base.get? b = some o → X.s_0.heap.get? b = some o ∧ X.H_0 b = none
  bsz : X.base.objs.size ≤ X.s_0.heap.objs.size
  noex : ∀ b o, X.base.get? b = some o → b ∉ X.ex
  exfs : ∀ b ∈ X.ex, b ∉ X.fs
  funs : X.s_0.heap.FunFrames X.base X.outer
  frf : ∀ b ∈ X.fs, X.H_0 b = none

structure Inv (X : Cx) (pins : List (Addr × Obj)) (σ : List (Option V)) (H : Hp) (s : Shared) : Prop where
  ok : X.Ok
  os : s.os = X.s_0.os
  bare : AllBare s.gens
  base : Un X.fs X.ex X.H_0 H X.s_0.heap s.heap
  loc : ∃ m, s.heap.Ns X.env.locals m ∧ ∀ (i : Nat) (x : Str) (v : V), X.N[i]? = some x → σ[i]? = some (some v) → Vis X.env.scope x → ∃ u, RelV v u ∧ Look X.env s.heap m x u
  cell : ∀ x c, X.env.cells.lookup x = some c → ∃ v, s.heap.IsCell c v
  free : H X.env.locals = none
  freeC : ∀ x c, X.env.cells.lookup x = some c → H c = none
  pin : ∀ p ∈ X.pn ++ pins, s.heap.get? p.1 = some p.2 ∧ H p.1 = none ∧ p.1 ≠ X.env.locals ∧ p.1 ∉ X.fs ∧ ∀ v, p.2.data ≠ .cell v
  hok : HOk X.prog X.w H s.heap
  len : σ.length = X.N.length

section
variable {X : Cx} {pins : List (Addr × Obj)} {σ : List (Option V)} {H H' : Hp} {s : Shared} {h' : Heap}

theorem Cx.Ok.nofr (ok : X.Ok) {b : Addr} {o : Obj} (e : X.base.get? b = some o) : b ∉ X.fs := fun hb => by
  have := (ok.funs.mem hb).1
  rw [e] at this; cases this
theorem Inv.bs (I : Inv X pins σ H s) : ∀ b o, X.base.get? b = some o → s.heap.get? b = some o ∧ H b = none := fun b o e =>
  ⟨I.base.keep b o (I.ok.bs b o e).1 (I.ok.bs b o e).2 (I.ok.nofr e) (I.ok.noex b o e), I.base.free b o (I.ok.bs b o e).1 (I.ok.bs b o e).2 (I.ok.noex b o e)⟩
theorem Inv.bk (I : Inv X pins σ H s) : ∀ b o, X.base.get? b = some o → s.heap.get? b = some o := fun b o e => (I.bs b o e).1
theorem Inv.mod (I : Inv X pins σ H s) : Mod X.K X.mg X.base := I.ok.mod
theorem Inv.kIn (I : Inv X pins σ H s) : X.K.In s.heap := I.ok.mod.kin.keeps I.bk
theorem Inv.lt (I : Inv X pins σ H s) : X.env.locals < s.heap.objs.size := let ⟨_, hn, _⟩ := I.loc; hn.lt
theorem Inv.sz (I : Inv X pins σ H s) : X.s_0.heap.objs.size ≤ s.heap.objs.size := Nat.le_trans I.ok.above (Nat.le_of_lt I.lt)
theorem Inv.nofs (I : Inv X pins σ H s) {a : Addr} (h : s.heap.objs.size ≤ a) : a ∉ X.fs := fun hb => by
  obtain ⟨_, o, ho, _⟩ := I.ok.funs.mem hb
  exact absurd (Nat.lt_of_lt_of_le (Heap.lt_size ho) (Nat.le_trans I.sz h)) (Nat.lt_irrefl _)
theorem Inv.cne (I : Inv X pins σ H s) : ∀ x c, X.env.cells.lookup x = some c → c ≠ X.env.locals := fun x c e z => by
  obtain ⟨v, o, ho, hd⟩ := I.cell x c e
  obtain ⟨m, ⟨o', es, ep, ho', hd', _⟩, _⟩ := I.loc
  rw [z, ho'] at ho; cases ho; rw [hd'] at hd; cases hd
theorem Inv.funs (I : Inv X pins σ H s) : s.heap.FunFrames X.base X.outer := by
  have all : ∀ (l : List Env), (∀ b ∈ frs l, b ∈ X.fs) → X.s_0.heap.FunFrames X.base l → s.heap.FunFrames X.base l := by
    intro l
    induction l with
    | nil => intro _ _; trivial
    | cons env r ih =>
      intro hs hl
      obtain ⟨hk, ⟨L, o, hf, hn, ho, hd⟩, hr⟩ := hl
      have hL : L ∈ X.fs := hs L (by unfold frs; rw [List.filterMap_cons, hf]; exact List.mem_cons_self)
      obtain ⟨sl, e⟩ := I.base.slot L o ho (I.ok.frf L hL) hL fun z => I.ok.exfs L z hL
      exact ⟨hk, ⟨L, _, hf, hn, e, hd⟩, ih (fun b hb => hs b (by unfold frs; rw [List.filterMap_cons, hf]; exact List.mem_cons_of_mem _ hb)) hr⟩
  exact all X.outer (fun _ hb => hb) I.ok.funs

/-- the frames that run, for a call -/
theorem Inv.stack (I : Inv X pins σ H s) : s.heap.FunFrames X.base X.stack := by
  rcases I.ok.stk with e | ⟨e, hf⟩
  · rw [e]; exact I.funs
  · rw [e]
    obtain ⟨m, hn, _⟩ := I.loc
    refine .cons (by rw [I.ok.kind]; decide) hf hn ?_ I.funs
    exact Heap.get?_none_of_le (Nat.le_trans I.ok.bsz I.ok.above)
theorem Inv.stkSub (I : Inv X pins σ H s) : ∀ b ∈ frs X.stack, b ∈ X.env.locals :: X.fs := fun b hb => by
  rcases I.ok.stk with e | ⟨e, hf⟩
  · rw [e] at hb; exact List.mem_cons_of_mem _ hb
  · rw [e] at hb
    unfold frs at hb
    rw [List.filterMap_cons, hf] at hb
    exact hb
theorem Inv.stkFree (I : Inv X pins σ H s) : ∀ b ∈ frs X.stack, H b = none := fun b hb => by
  rcases List.mem_cons.mp (I.stkSub b hb) with e | hb
  · rw [e]; exact I.free
  · obtain ⟨_, o, ho, _⟩ := I.ok.funs.mem hb
    exact I.base.free b o ho (I.ok.frf b hb) fun z => I.ok.exfs b z hb

/-- THE STEP: the untracked objects but the frame and the records at ch are kept (the callers' frames up to slots), the frame's map is kept, the new abstract heap is held -/
theorem Inv.step {g' : Array GenState} {t' : Nat} {d' : Drawn} {ch : List Addr} (I : Inv X pins σ H s)
    (hch : ∀ b ∈ ch, (b ∈ X.ex ∨ X.s_0.heap.objs.size ≤ b) ∧ b ≠ X.env.locals ∧ (∀ x c, X.env.cells.lookup x = some c → c ≠ b) ∧ ∀ p ∈ X.pn ++ pins, p.1 ≠ b)
    (keep : ∀ b o, b ≠ X.env.locals → b ∉ X.fs → b ∉ ch → s.heap.get? b = some o → H b = none → h'.get? b = some o)
    (slot : ∀ b o, b ≠ X.env.locals → b ∈ X.fs → b ∉ ch → s.heap.get? b = some o → H b = none → ∃ sl, h'.get? b = some { o with slots := sl }) (free : ∀ b o, b ∉ ch → s.heap.get? b = some o → H b = none → H' b = none)
    (there : ∀ b o, b ∉ ch → s.heap.get? b = some o → ∃ o', h'.get? b = some o')
    (tups : ∀ b xs, H b = some (.tup xs) → H' b = some (.tup xs)) (frzs : ∀ b o u, H b = some (.frz o u) → H' b = some (.frz o u)) (tbls : ∀ b ps, H b = some (.tbl ps) → ∃ more, H' b = some (.tbl (ps ++ more)))
    (ns : ∀ m, s.heap.Ns X.env.locals m → h'.Ns X.env.locals m) (hok : HOk X.prog X.w H' h') (hg : AllBare g') :
    Inv X pins σ H' { s with heap := h', gens := g', drawn := d', toks := t' } := by
  have neL : ∀ b o, X.s_0.heap.get? b = some o → b ≠ X.env.locals := fun b o e => Nat.ne_of_lt (Nat.lt_of_lt_of_le (Heap.lt_size e) I.ok.above)
  have neC : ∀ b o, X.s_0.heap.get? b = some o → b ∉ X.ex → b ∉ ch := fun b o e hx hb => by
    rcases (hch b hb).1 with z | z
    · exact hx z
    · exact absurd (Nat.lt_of_lt_of_le (Heap.lt_size e) z) (Nat.lt_irrefl _)
  have cellK : ∀ x c, X.env.cells.lookup x = some c → ∀ v, s.heap.IsCell c v → h'.IsCell c v := fun x c e v ⟨o, ho, hd⟩ => by
    have nch : c ∉ ch := fun z => (hch c z).2.2.1 x c e rfl
    by_cases hc : c ∈ X.fs
    · obtain ⟨sl, q⟩ := slot c o (I.cne x c e) hc nch ho (I.freeC x c e)
      exact ⟨_, q, hd⟩
    · exact ⟨o, keep c o (I.cne x c e) hc nch ho (I.freeC x c e), hd⟩
  refine ⟨I.ok, I.os, hg, ⟨fun b o e n hb hx => ?_, fun b o e n hb hx => ?_, fun b o e n hx => ?_, fun b o e hx => ?_, fun b xs e => tups b xs (I.base.tups b xs e), fun b o xs e => frzs b o xs (I.base.frzs b o xs e), fun b ps e => ?_⟩, ?_, fun x c e => ?_, ?_, fun x c e => ?_, fun p hp => ?_, hok, I.len⟩
  · exact keep b o (neL b o e) hb (neC b o e hx) (I.base.keep b o e n hb hx) (I.base.free b o e n hx)
  · obtain ⟨sl, e1⟩ := I.base.slot b o e n hb hx
    obtain ⟨sl', e2⟩ := slot b _ (neL b o e) hb (neC b o e hx) e1 (I.base.free b o e n hx)
    exact ⟨sl', e2⟩
  · obtain ⟨o', e1⟩ := I.base.there b o e hx
    exact free b o' (neC b o e hx) e1 (I.base.free b o e n hx)
  · obtain ⟨o', e1⟩ := I.base.there b o e hx
    exact there b o' (neC b o e hx) e1
  · obtain ⟨m1, e1⟩ := I.base.tbls b ps e
    obtain ⟨m2, e2⟩ := tbls b _ e1
    exact ⟨m1 ++ m2, by rw [e2, Array.append_assoc]⟩
  · obtain ⟨m, hn, hl⟩ := I.loc
    refine ⟨m, ns m hn, fun i x v e1 e2 e3 => ?_⟩
    obtain ⟨u, r, l⟩ := hl i x v e1 e2 e3
    refine ⟨u, r, ?_⟩
    rcases l with l | ⟨k, c, e, z⟩
    · exact .inl l
    · exact .inr ⟨k, c, e, cellK x c e _ z⟩
  · obtain ⟨v, z⟩ := I.cell x c e
    exact ⟨v, cellK x c e v z⟩
  · obtain ⟨m, ⟨o, _, _, ho, _⟩, _⟩ := I.loc
    exact free _ o (fun z => (hch _ z).2.1 rfl) ho I.free
  · obtain ⟨v, o, ho, hd⟩ := I.cell x c e
    exact free c o (fun z => (hch c z).2.2.1 x c e rfl) ho (I.freeC x c e)
  · obtain ⟨e, n, ne, nf, d⟩ := I.pin p hp
    have nch : p.1 ∉ ch := fun z => (hch p.1 z).2.2.2 p hp rfl
    exact ⟨keep p.1 p.2 ne nf nch e n, free p.1 p.2 nch e n, ne, nf, d⟩
/-- .. where the frame's own object is kept too -/
theorem Inv.un {t' : Nat} (I : Inv X pins σ H s) (u : Un X.fs [] H H' s.heap h') (hok : HOk X.prog X.w H' h') : Inv X pins σ H' { s with heap := h', toks := t' } := by
  obtain ⟨m, ⟨o, es, ep, ho, r⟩, _⟩ := id I.loc
  obtain ⟨sl, hL⟩ := u.any ho I.free (by simp)
  exact I.step (g' := s.gens) (d' := s.drawn) (ch := []) (fun _ z => nomatch z) (fun b o _ hb _ e n => u.keep b o e n hb (by simp)) (fun b o _ hb _ e n => u.slot b o e n hb (by simp)) (fun b o _ e n => u.free b o e n (by simp)) (fun b o _ e => u.there b o e (by simp)) u.tups u.frzs u.tbls (fun m' hm => by
    obtain ⟨o', es', ep', ho', r'⟩ := hm
    rw [ho] at ho'; cases ho'
    exact ⟨_, es', ep', hL, r'⟩) hok I.bare
/-- behind a call (or a comprehension's block): the slots of this frame may have changed too, the records at ch may have turned -/
theorem Inv.call {g' : Array GenState} {t' : Nat} {d' : Drawn} {ch : List Addr} (I : Inv X pins σ H s) (u : Un (frs X.stack) ch H H' s.heap h') (hok : HOk X.prog X.w H' h') (hg : AllBare g')
    (hch : ∀ b ∈ ch, (b ∈ X.ex ∨ X.s_0.heap.objs.size ≤ b) ∧ b ≠ X.env.locals ∧ (∀ x c, X.env.cells.lookup x = some c → c ≠ b) ∧ ∀ p ∈ X.pn ++ pins, p.1 ≠ b) :
    Inv X pins σ H' { s with heap := h', gens := g', drawn := d', toks := t' } := by
  obtain ⟨m, ⟨o, es, ep, ho, r⟩, _⟩ := id I.loc
  obtain ⟨sl, hL⟩ := u.any ho I.free fun z => (hch _ z).2.1 rfl
  exact I.step (ch := ch) hch (fun b o hL hb hc e n => u.keep b o e n (fun z => (List.mem_cons.mp (I.stkSub b z)).elim hL hb) hc) (fun b o _ _ hc e n => u.any e n hc) (fun b o hc e n => u.free b o e n hc) (fun b o hc e => u.there b o e hc) u.tups u.frzs u.tbls (fun m' hm => by
    obtain ⟨o', es', ep', ho', r'⟩ := hm
    rw [ho] at ho'; cases ho'
    exact ⟨_, es', ep', hL, r'⟩) hok hg
/-- an untracked record of ours (an iterator) has turned -/
theorem Inv.turned {t' : Nat} {it : Addr} (I : Inv X pins σ H s) (k : ∀ b o, b ≠ it → s.heap.get? b = some o → h'.get? b = some o) (hn : H it = none) (hL : it ≠ X.env.locals)
    (h1 : it ∈ X.ex ∨ X.s_0.heap.objs.size ≤ it) (h2 : ∀ x c, X.env.cells.lookup x = some c → c ≠ it) (h3 : ∀ p ∈ X.pn ++ pins, p.1 ≠ it) : Inv X pins σ H { s with heap := h', toks := t' } := by
  have nit : ∀ b u, H b = some u → b ≠ it := fun b u e z => by rw [z, hn] at e; cases e
  refine I.step (g' := s.gens) (d' := s.drawn) (ch := [it]) (fun b hb => ?_) (fun b o _ _ hc e _ => k b o (fun z => hc (by simp [z])) e) (fun b o _ _ hc e _ => ⟨o.slots, k b o (fun z => hc (by simp [z])) e⟩) (fun _ _ _ _ n => n)
    (fun b o hc e => ⟨o, k b o (fun z => hc (by simp [z])) e⟩) (fun _ _ e => e) (fun _ _ _ e => e) (fun b ps e => ⟨#[], by rw [e]; simp⟩) (fun m hm => ?_) (fun b u e => ?_) I.bare
  · have e : b = it := by simpa using hb
    subst e
    exact ⟨h1, hL, h2, h3⟩
  · obtain ⟨o, es, ep, ho, r⟩ := hm
    exact ⟨o, es, ep, k _ o (Ne.symm hL) ho, r⟩
  · refine (I.hok b u e).stay (fun c v hc q => k c v ?_ q) (fun _ q => q) fun _ _ q => q
    rcases hc with z | z
    · rw [z]; exact nit b u e
    · exact nit c _ z
theorem Inv.tok (I : Inv X pins σ H s) (t : Nat) : Inv X pins σ H { s with toks := t } := I.un (h' := s.heap) (t' := t) Un.refl I.hok
/-- all objects kept -/
theorem Inv.kept {t' : Nat} (I : Inv X pins σ H s) (k : ∀ b u, s.heap.get? b = some u → h'.get? b = some u) : Inv X pins σ H { s with heap := h', toks := t' } := I.un (Un.kept k) (I.hok.kept k)
/-- a new object laid and tracked -/
theorem Inv.laid {a : Addr} {o : HO} {t' : Nat} (I : Inv X pins σ H s) (k : ∀ b u, s.heap.get? b = some u → h'.get? b = some u) (hp : s.heap.objs.size ≤ a) (new : ObjOk X.prog X.w (upd H a o) h' a o) :
    Inv X pins σ (upd H a o) { s with heap := h', toks := t' } := I.un (Un.laid k hp (I.hok.fresh hp)) (I.hok.laid k hp new)
/-- an object written -/
theorem Inv.write {x e : Addr} {o : HO} {t' : Nat} (I : Inv X pins σ H s) (mu : Mut (H x)) (he : e = x ∨ H e = some (.own x)) (k : ∀ b u, b ≠ e → s.heap.get? b = some u → h'.get? b = some u) (heo : ∃ u, h'.get? e = some u)
    (new : ObjOk X.prog X.w (upd H x o) h' x o) : Inv X pins σ (upd H x o) { s with heap := h', toks := t' } := I.un (Un.write mu he k heo) (I.hok.write mu he k heo new)
/-- forgetting slots, pins -/
theorem Inv.weak {σ' : List (Option V)} (I : Inv X pins σ H s) (hl : σ'.length = σ.length) (w : ∀ (i : Nat) v, σ'[i]? = some (some v) → σ[i]? = some (some v)) : Inv X pins σ' H s :=
  ⟨I.ok, I.os, I.bare, I.base, let ⟨m, hn, hl'⟩ := I.loc; ⟨m, hn, fun i x v e1 e2 e3 => hl' i x v e1 (w i v e2) e3⟩, I.cell, I.free, I.freeC, I.pin, I.hok, hl.trans I.len⟩
theorem Inv.pins_of {pins' : List (Addr × Obj)} (I : Inv X pins σ H s) (h : ∀ p ∈ pins', s.heap.get? p.1 = some p.2 ∧ H p.1 = none ∧ p.1 ≠ X.env.locals ∧ p.1 ∉ X.fs ∧ ∀ v, p.2.data ≠ .cell v) : Inv X pins' σ H s :=
  ⟨I.ok, I.os, I.bare, I.base, I.loc, I.cell, I.free, I.freeC, fun p hp => (List.mem_append.mp hp).elim (fun z => I.pin p (List.mem_append_left _ z)) (h p), I.hok, I.len⟩

theorem nodup_ix {N : List Str} (hN : N.Nodup) {i j : Nat} {x : Str} (a : N[i]? = some x) (b : N[j]? = some x) : i = j := by
  obtain ⟨h1, e1⟩ := List.getElem?_eq_some_iff.mp a
  obtain ⟨h2, e2⟩ := List.getElem?_eq_some_iff.mp b
  exact (List.getElem_inj hN).mp (e1.trans e2.symm)

/-- a name is stored; what changed -/
theorem store_ok2 {M : Model} {A : Around} {E : Value → Shared → Prop} {i : Nat} {x : Str} {v : V} {u : Value} {Q : Unit → Shared → Prop} (I : Inv X pins σ H s) (hN : X.N.Nodup) (hi : X.N[i]? = some x) (hx : Loc X.env.scope x) (r : RelV v u)
    (h : ∀ s', Inv X pins (σ.set i (some v)) H s' → (∃ a, Heap.SameBut a s.heap s'.heap ∧ (a = X.env.locals ∨ X.env.cells.lookup x = some a)) → Q () s') (hf : X.fn x = true ∨ X.env.scope.names.lookup x = some .local := by first | exact .inl rfl | exact .inr rfl | assumption) : wpAny M A (storeName X.env x u) Q E s := by
  obtain ⟨m, hn, hl⟩ := id I.loc
  have hcls : (X.env.scope.kind == .class || (X.env.scope.kind == .module && X.env.locals != X.env.globals)) = false := by rw [I.ok.kind]; rfl
  have hiσ : i < σ.length := by rw [I.len]; exact (List.getElem?_eq_some_iff.mp hi).1
  have cne := I.cne
  have tracked : ∀ {a : Addr} {h' : Heap}, (∃ o, s.heap.get? a = some o ∧ H a = none) → Heap.SameBut a s.heap h' → HOk X.prog X.w H h' := fun {a h'} ha hs b ob e => by
    obtain ⟨_, _, hfree⟩ := ha
    refine (I.hok b ob e).stay (fun c w' hc q => (hs.2 c ?_).trans q) (fun _ q => q) fun _ _ q => q
    rintro rfl
    rcases hc with rfl | hc
    · rw [hfree] at e; cases e
    · rw [hfree] at hc; cases hc
  rcases hx with hk | hk
  · refine wpAny_storeName_local hk hn (fun h' hn' hs => ?_) hcls
    obtain ⟨oL, _, _, hoL, _⟩ := id hn
    refine h _ ⟨I.ok, I.os, I.bare, ⟨fun b o e n hb hx => ?_, fun b o e n hb hx => ?_, I.base.free, fun b o e hx => ?_, I.base.tups, I.base.frzs, I.base.tbls⟩, ⟨_, hn', fun j y v' e1 e2 e3 => ?_⟩, fun y c e => ?_, I.free, I.freeC, fun p hp => ?_, tracked ⟨oL, hoL, I.free⟩ hs, by simpa using I.len⟩ ⟨_, hs, .inl rfl⟩
    · exact (hs.2 b (Nat.ne_of_lt (Nat.lt_of_lt_of_le (Heap.lt_size e) I.ok.above))).trans (I.base.keep b o e n hb hx)
    · obtain ⟨sl, e1⟩ := I.base.slot b o e n hb hx
      exact ⟨sl, (hs.2 b (Nat.ne_of_lt (Nat.lt_of_lt_of_le (Heap.lt_size e) I.ok.above))).trans e1⟩
    · obtain ⟨o', e1⟩ := I.base.there b o e hx
      exact ⟨o', (hs.2 b (Nat.ne_of_lt (Nat.lt_of_lt_of_le (Heap.lt_size e) I.ok.above))).trans e1⟩
    · by_cases hj : j = i
      · subst hj
        rw [hi] at e1; cases e1
        rw [List.getElem?_set_self hiσ] at e2
        cases e2
        exact ⟨u, r, .inl ⟨hk, by simp⟩⟩
      · rw [List.getElem?_set_ne (Ne.symm hj)] at e2
        obtain ⟨u', r', q⟩ := hl j y v' e1 e2 e3
        refine ⟨u', r', ?_⟩
        rcases q with ⟨k, e⟩ | ⟨k, c, e, z⟩
        · refine .inl ⟨k, ?_⟩
          have : y ≠ x := fun e => hj (nodup_ix hN e1 (e ▸ hi))
          simp [this, e]
        · exact .inr ⟨k, c, e, z.sameBut hs (cne y c e)⟩
    · obtain ⟨w', z⟩ := I.cell y c e
      exact ⟨w', z.sameBut hs (cne y c e)⟩
    · obtain ⟨e, n, ne, nf, d⟩ := I.pin p hp
      exact ⟨(hs.2 p.1 ne).trans e, n, ne, nf, d⟩
  · have hfn : X.fn x = true := by
      rcases hf with z | z
      · exact z
      · rw [z] at hk; cases hk
    obtain ⟨c, hc⟩ := I.ok.has x (.inl hk)
    obtain ⟨w', z⟩ := I.cell x c hc
    refine wpAny_storeName_cell I.ok.kind hk hc z (fun h' hc' hs => ?_)
    obtain ⟨oc, hoc, hocd⟩ := id z
    refine h { s with heap := h' } ⟨I.ok, I.os, I.bare, ⟨fun b o e n hb hx => ?_, fun b o e n hb hx => ?_, I.base.free, fun b o e hx => ?_, I.base.tups, I.base.frzs, I.base.tbls⟩, ⟨m, hn.sameBut hs (Ne.symm (cne x c hc)), fun j y v' e1 e2 e3 => ?_⟩, fun y c' e => ?_, I.free, I.freeC, fun p hp => ?_, tracked ⟨oc, hoc, I.freeC x c hc⟩ hs, by simpa using I.len⟩ ⟨c, hs, .inr hc⟩
    · exact (hs.2 b (Nat.ne_of_lt (Nat.lt_of_lt_of_le (Heap.lt_size e) (I.ok.cab x c hfn hc)))).trans (I.base.keep b o e n hb hx)
    · obtain ⟨sl, e1⟩ := I.base.slot b o e n hb hx
      exact ⟨sl, (hs.2 b (Nat.ne_of_lt (Nat.lt_of_lt_of_le (Heap.lt_size e) (I.ok.cab x c hfn hc)))).trans e1⟩
    · obtain ⟨o', e1⟩ := I.base.there b o e hx
      exact ⟨o', (hs.2 b (Nat.ne_of_lt (Nat.lt_of_lt_of_le (Heap.lt_size e) (I.ok.cab x c hfn hc)))).trans e1⟩
    · by_cases hj : j = i
      · subst hj
        rw [hi] at e1; cases e1
        rw [List.getElem?_set_self hiσ] at e2
        cases e2
        exact ⟨u, r, .inr ⟨.inl hk, c, hc, hc'⟩⟩
      · rw [List.getElem?_set_ne (Ne.symm hj)] at e2
        obtain ⟨u', r', q⟩ := hl j y v' e1 e2 e3
        refine ⟨u', r', ?_⟩
        rcases q with q | ⟨k, c', e, z'⟩
        · exact .inl q
        · refine .inr ⟨k, c', e, z'.sameBut hs ?_⟩
          rintro rfl
          exact hj (nodup_ix hN e1 (I.ok.inj _ _ _ e hc ▸ hi))
    · by_cases hcc : c' = c
      · subst hcc; exact ⟨_, hc'⟩
      · obtain ⟨w2, z2⟩ := I.cell y c' e
        exact ⟨w2, z2.sameBut hs hcc⟩
    · obtain ⟨e, n, ne, nf, d⟩ := I.pin p hp
      refine ⟨(hs.2 p.1 ?_).trans e, n, ne, nf, d⟩
      intro q
      rw [q, hoc] at e
      have q' : oc = p.2 := Option.some.inj e
      exact d w' (by rw [← q']; exact hocd)
theorem store_ok {M : Model} {A : Around} {E : Value → Shared → Prop} {i : Nat} {x : Str} {v : V} {u : Value} {Q : Unit → Shared → Prop} (I : Inv X pins σ H s) (hN : X.N.Nodup) (hi : X.N[i]? = some x) (hx : Loc X.env.scope x) (r : RelV v u)
    (h : ∀ s', Inv X pins (σ.set i (some v)) H s' → Q () s') (hf : X.fn x = true ∨ X.env.scope.names.lookup x = some .local := by first | exact .inl rfl | exact .inr rfl | assumption) : wpAny M A (storeName X.env x u) Q E s :=
  store_ok2 I hN hi hx r (fun s' I' _ => h s' I') hf
/-- behind a call or a block, the state as it is -/
theorem Inv.call' {s' : Shared} {ch : List Addr} (I : Inv X pins σ H s) (ho : s'.os = s.os) (u : Un (frs X.stack) ch H H' s.heap s'.heap) (hok : HOk X.prog X.w H' s'.heap) (hg : AllBare s'.gens)
    (hch : ∀ b ∈ ch, (b ∈ X.ex ∨ X.s_0.heap.objs.size ≤ b) ∧ b ≠ X.env.locals ∧ (∀ x c, X.env.cells.lookup x = some c → c ≠ b) ∧ ∀ p ∈ X.pn ++ pins, p.1 ≠ b) : Inv X pins σ H' s' := by
  obtain ⟨h', g', d', t', o'⟩ := s'
  have e : o' = s.os := ho
  subst e
  exact I.call (g' := g') (t' := t') (d' := d') u hok hg hch
end

/-! ### the judgements -/
/-- an exception: its class, its own dict's address (where it has one), the abstract heap behind it -/
abbrev XK := Value → Option Addr → Hp → Prop
abbrev St := List (Option V)
abbrev VK := V → Hp → Prop
/-- an expression's reading; a test's; an argument list's -/
abbrev TE := St → Hp → VK → Prop
abbrev TT := St → Hp → (Bool → Hp → Prop) → Prop
abbrev TA := St → Hp → (List V → Hp → Prop) → Prop
/-- what is wanted behind a statement -/
structure Ends where
  nx : St → Hp → Prop
  rt : VK
  bk : St → Hp → Prop := fun _ _ => False
  ct : St → Hp → Prop := fun _ _ => False
abbrev TS := Ends → St → Hp → Prop

def EP (X : Cx) (pins : List (Addr × Obj)) (σ : St) (Q : VK) (u : Value) (s' : Shared) : Prop := ∃ v H', Inv X pins σ H' s' ∧ RelV v u ∧ Q v H'
def TP (X : Cx) (pins : List (Addr × Obj)) (σ : St) (Q : Bool → Hp → Prop) (b : Bool) (s' : Shared) : Prop := ∃ H', Inv X pins σ H' s' ∧ Q b H'
def AP (X : Cx) (pins : List (Addr × Obj)) (σ : St) (Q : List V → Hp → Prop) (us : List Value) (s' : Shared) : Prop := ∃ vs H', Inv X pins σ H' s' ∧ Vals vs us ∧ Q vs H'
def SP (X : Cx) (pins : List (Addr × Obj)) (D : Ends) (f : Flow) (s' : Shared) : Prop :=
  match f with
  | .next => ∃ σ' H', Inv X pins σ' H' s' ∧ D.nx σ' H'
  | .brk => ∃ σ' H', Inv X pins σ' H' s' ∧ D.bk σ' H'
  | .cont => ∃ σ' H', Inv X pins σ' H' s' ∧ D.ct σ' H'
  | .ret u => ∃ v σ' H', Inv X pins σ' H' s' ∧ RelV v u ∧ D.rt v H'

def PE (X : Cx) (e : Expr) (t : TE) : Prop :=
  ∀ (pins : List (Addr × Obj)) (s : Shared) (σ : St) (H : Hp) (Q : VK), Inv X pins σ H s → t σ H Q → wpAny (model X.prog X.w) X.A (eval e X.env) (EP X pins σ Q) X.xe s
def PT (X : Cx) (e : Expr) (t : TT) : Prop :=
  ∀ (pins : List (Addr × Obj)) (s : Shared) (σ : St) (H : Hp) (Q : Bool → Hp → Prop), Inv X pins σ H s → t σ H Q → wpAny (model X.prog X.w) X.A (isTrue e X.env (eval e X.env)) (TP X pins σ Q) X.xe s
/-- a test whatever its 'whole' is (and, or) -/
def PW (X : Cx) (e : Expr) (t : TT) : Prop :=
  ∀ (whole : Sem Value) (pins : List (Addr × Obj)) (s : Shared) (σ : St) (H : Hp) (Q : Bool → Hp → Prop), Inv X pins σ H s → t σ H Q → wpAny (model X.prog X.w) X.A (isTrue e X.env whole) (TP X pins σ Q) X.xe s
theorem PW.pt {X : Cx} {e : Expr} {t : TT} (h : PW X e t) : PT X e t := h _
/-- an argument list (no star), from the left -/
def PA (X : Cx) (es : List Expr) (t : TA) : Prop :=
  ∀ (pos : Pos) (pins : List (Addr × Obj)) (s : Shared) (σ : St) (H : Hp) (Q : List V → Hp → Prop), Inv X pins σ H s → t σ H Q → wpAny (model X.prog X.w) X.A (spliced (backTo pos (starEach es X.env))) (AP X pins σ Q) X.xe s
def PS (X : Cx) (st : Stmt) (t : TS) : Prop :=
  ∀ (pins : List (Addr × Obj)) (s : Shared) (σ : St) (H : Hp) (D : Ends), Inv X pins σ H s → t D σ H → wpAny (model X.prog X.w) X.A (exec st X.env) (SP X pins D) X.xe s
def PSs (X : Cx) (st : List Stmt) (t : TS) : Prop :=
  ∀ (pins : List (Addr × Obj)) (s : Shared) (σ : St) (H : Hp) (D : Ends), Inv X pins σ H s → t D σ H → wpAny (model X.prog X.w) X.A (execs st X.env) (SP X pins D) X.xe s
/-- weaken the end -/
theorem thn {α : Type} {t : Sem α} {Q Q' : α → Shared → Prop} {M : Model} {A : Around} {E : Value → Shared → Prop} {s : Shared} (h : wpAny M A t Q E s) (hQ : ∀ a s, Q a s → Q' a s) : wpAny M A t Q' E s := wpAny_mono h hQ fun _ _ x => x
end L2

namespace L2
open PySem PySem.Spec PyProof.Rows
section
variable {X : Cx}

/-! ### names and constants -/
def tVar (i : Nat) : TE := fun σ H Q => ∃ v, σ[i]? = some (some v) ∧ Q v H
def tC (v : V) : TE := fun _ H Q => Q v H
theorem pe_var {i : Nat} {x : Str} {pos : Pos} (hN : X.N[i]? = some x) (hv : Vis X.env.scope x) (hd : (x == ("__debug__" : Str)) = false := by decide) (hcd : (x == ("__classdict__" : Str)) = false := by decide) : PE X (.Name x pos) (tVar i) := by
  intro pins s σ H Q I h
  obtain ⟨v, e, h⟩ := h
  obtain ⟨m, hn, hl⟩ := I.loc
  obtain ⟨u, r, l⟩ := hl i x v hN e hv
  have fin : EP X pins σ Q u s := ⟨v, H, I, r, h⟩
  rcases l with ⟨hk, hm⟩ | ⟨hk, c, hc, hcell⟩
  · exact wpAny_Name (wpAny_loadName_local I.ok.kind hk hn hm fin) hd
  · rcases hk with hk | hk
    · exact wpAny_Name (wpAny_loadName_cell I.ok.kind hk hc hcell fin) hd
    · exact wpAny_Name (wpAny_loadName_free I.ok.kind hk hc hcell fin hcd) hd
theorem pe_int {i j pos} : PE X (.Constant (.int i) j pos) (tC (.int i)) := fun _ _ _ H _ I h => wpAny_Constant_int ⟨.int i, H, I.tok _, ⟨_, rfl⟩, h⟩
theorem pe_bl {b j pos} : PE X (.Constant (.bool b) j pos) (tC (.bl b)) := fun _ _ _ H _ I h => Constant_bool ⟨.bl b, H, I, rfl, h⟩
theorem pe_non {j pos} : PE X (.Constant .none j pos) (tC .non) := fun _ _ _ H _ I h => Constant_none ⟨.non, H, I, rfl, h⟩
theorem pe_str {x j pos} : PE X (.Constant (.str x) j pos) (tC (.str x)) := fun _ _ _ H _ I h => Calls.Constant_str ⟨.str x, H, I.tok _, ⟨_, rfl⟩, h⟩

/-- a global name of the def -/
def Gl (X : Cx) (x : Str) : Prop := X.env.kindOf x = some .globalImplicit
theorem ld_glob {E : Value → Shared → Prop} {pins : List (Addr × Obj)} {s : Shared} {σ : St} {H : Hp} {x : Str} {u : Value} {pos : Pos} {Q : Value → Shared → Prop} (I : Inv X pins σ H s) (hg : Gl X x) (hm : X.mg x = some u) (h : Q u s)
    (hd : (x == ("__debug__" : Str)) = false := by decide) : wpAny (model X.prog X.w) X.A (eval (.Name x pos) X.env) Q E s :=
  Calls.Name_function_global I.ok.kind hg (Calls.loadGlobal_global (by rw [I.ok.glob]; exact I.mod.glob.keeps I.bk) hm h) hd
theorem ld_blt {E : Value → Shared → Prop} {pins : List (Addr × Obj)} {s : Shared} {σ : St} {H : Hp} {x : Str} {u : Value} {pos : Pos} {Q : Value → Shared → Prop} (I : Inv X pins σ H s) (hg : Gl X x) (hm : X.mg x = none) (hv : bootBuiltins x = some u) (h : Q u s)
    (hn : x ≠ "__name__" := by decide) (hd : (x == ("__debug__" : Str)) = false := by decide) : wpAny (model X.prog X.w) X.A (eval (.Name x pos) X.env) Q E s := by
  obtain ⟨mb, h1, h2⟩ := I.mod.blt
  exact Calls.Name_function_global I.ok.kind hg (Calls.loadGlobal_builtin (by rw [I.ok.glob]; exact I.mod.glob.keeps I.bk) hm (by rw [I.ok.blt]; exact h1.keeps I.bk) ((h2 x hn).trans hv) h) hd
/-- a module's constant, a class, a function, as a value -/
theorem pe_glob {x : Str} {v : V} {u : Value} {pos : Pos} (hg : Gl X x) (hm : X.mg x = some u) (r : RelV v u) (hd : (x == ("__debug__" : Str)) = false := by decide) : PE X (.Name x pos) (tC v) :=
  fun _ _ _ H _ I h => ld_glob I hg hm ⟨v, H, I, r, h⟩ hd
theorem pe_bltn {x : Str} {v : V} {u : Value} {pos : Pos} (hg : Gl X x) (hm : X.mg x = none) (hv : bootBuiltins x = some u) (r : RelV v u) (hn : x ≠ "__name__" := by decide) (hd : (x == ("__debug__" : Str)) = false := by decide) : PE X (.Name x pos) (tC v) :=
  fun _ _ _ H _ I h => ld_blt I hg hm hv ⟨v, H, I, r, h⟩ hn hd

/-! ### arithmetic -/
/-- two ints -/
def t2I (ta tb : TE) (k : Int → Int → Hp → Prop) : St → Hp → Prop := fun σ H => ta σ H fun x H1 => tb σ H1 fun y H2 => ∃ i j, x = .int i ∧ y = .int j ∧ k i j H2
def tAdd (ta tb : TE) : TE := fun σ H Q => t2I ta tb (fun i j H2 => Q (.int (i + j)) H2) σ H
def tSub (ta tb : TE) : TE := fun σ H Q => t2I ta tb (fun i j H2 => Q (.int (i - j)) H2) σ H
/-- the left factor below 2^64 -/
def tMul (ta tb : TE) : TE := fun σ H Q => t2I ta tb (fun i j H2 => (-(2 ^ 64) < i ∧ i < 2 ^ 64) ∧ Q (.int (i * j)) H2) σ H
variable {a b : Expr} {ta tb : TE} {pos : Pos}
/-! ### comparisons -/
def PC (X : Cx) (op : CmpOp) (a b : Expr) (t : TE) : Prop :=
  ∀ (pins : List (Addr × Obj)) (s : Shared) (σ : St) (H : Hp) (Q : VK), Inv X pins σ H s → t σ H Q →
    wpAny (model X.prog X.w) X.A (eval a X.env) (fun v s₁ => wpAny (model X.prog X.w) X.A (eval b X.env) (fun u s₂ => wpAny (model X.prog X.w) X.A (compareOp op v u) (EP X pins σ Q) X.xe s₂) X.xe s₁) X.xe s
def tCmp (p : Int → Int → Bool) (ta tb : TE) : TE := fun σ H Q => t2I ta tb (fun i j H2 => Q (.bl (p i j)) H2) σ H
abbrev tLt : TE → TE → TE := tCmp fun i j => decide (i < j)
abbrev tLe : TE → TE → TE := tCmp fun i j => decide (i ≤ j)
abbrev tGt : TE → TE → TE := tCmp fun i j => decide (j < i)
abbrev tGe : TE → TE → TE := tCmp fun i j => decide (j ≤ i)
abbrev tEqI : TE → TE → TE := tCmp fun i j => decide (i = j)
abbrev tNeI : TE → TE → TE := tCmp fun i j => !decide (i = j)
/-- is None -/
def tIsN (ta : TE) : TE := fun σ H Q => ta σ H fun x H1 => Q (.bl (decide (x = .non))) H1
def tNotN (ta : TE) : TE := fun σ H Q => ta σ H fun x H1 => Q (.bl (!decide (x = .non))) H1
/-- a comparison as a value, as a test -/
def tB (t : TE) : TT := fun σ H Q => t σ H fun x H1 => ∃ c, x = .bl c ∧ Q c H1
/-- an expression whose value is a bool, as a test -/
theorem pt_val {e : Expr} {t : TE} (h : PE X e t) (he : ∀ whole, isTrue e X.env whole = (do let v ← whole; standAt e.pos; holding [v] (truthy v)) := by intro _; rfl) : PT X e (tB t) := by
  intro pins s σ H Q I hw
  refine isTrue_plain (thn (h pins s σ H _ I hw) fun v s1 ⟨x, H1, I1, r1, q1⟩ => ?_) (he _)
  obtain ⟨d, rfl, q⟩ := q1
  cases r1
  exact wpAny_truthy_bool ⟨H1, I1, q⟩

/-! ### and, or, not -/
variable {tA tB' : TT} {rest : List Expr}
def tAnd (t u : TT) : TT := fun σ H Q => t σ H fun c H1 => if c = true then u σ H1 Q else Q false H1
def tOr (t u : TT) : TT := fun σ H Q => t σ H fun c H1 => if c = true then Q true H1 else u σ H1 Q
def tNot (t : TT) : TT := fun σ H Q => t σ H fun c H1 => Q (!c) H1
theorem pw_and1 (ha : PT X a tA) : PW X (.BoolOp .And [a] pos) tA := by
  intro wh pins s σ H Q I h
  refine isTrue_and (thn (ha pins s σ H Q I h) fun c s1 e => ?_)
  cases c with
  | true => exact isTrue_and_nil e
  | false => exact e
theorem pw_or1 (ha : PT X a tA) : PW X (.BoolOp .Or [a] pos) tA := by
  intro wh pins s σ H Q I h
  refine isTrue_or (thn (ha pins s σ H Q I h) fun c s1 e => ?_)
  cases c with
  | false => exact isTrue_or_nil e
  | true => exact e
theorem pw_and (ha : PT X a tA) (hb : PW X (.BoolOp .And (b :: rest) pos) tB') : PW X (.BoolOp .And (a :: b :: rest) pos) (tAnd tA tB') := by
  intro wh pins s σ H Q I h
  refine isTrue_and (thn (ha pins s σ H _ I h) fun c s1 ⟨H1, I1, q1⟩ => ?_)
  cases c with
  | true => exact hb wh pins s1 σ H1 Q I1 q1
  | false => exact ⟨H1, I1, q1⟩
theorem pw_or (ha : PT X a tA) (hb : PW X (.BoolOp .Or (b :: rest) pos) tB') : PW X (.BoolOp .Or (a :: b :: rest) pos) (tOr tA tB') := by
  intro wh pins s σ H Q I h
  refine isTrue_or (thn (ha pins s σ H _ I h) fun c s1 ⟨H1, I1, q1⟩ => ?_)
  cases c with
  | true => exact ⟨H1, I1, q1⟩
  | false => exact hb wh pins s1 σ H1 Q I1 q1
theorem pt_not (ha : PT X a tA) : PT X (.UnaryOp .Not a pos) (tNot tA) := by
  intro pins s σ H Q I h
  exact isTrue_not (ha pins s σ H (fun c H1 => Q (!c) H1) I h)
/-- .. as values (bools) -/
def tAndV (ta tb : TE) : TE := fun σ H Q => ta σ H fun x H1 => ∃ c, x = .bl c ∧ if c = true then tb σ H1 Q else Q (.bl false) H1
def tOrV (ta tb : TE) : TE := fun σ H Q => ta σ H fun x H1 => ∃ c, x = .bl c ∧ if c = true then Q (.bl true) H1 else tb σ H1 Q
def tNotV (ta : TE) : TE := fun σ H Q => ta σ H fun x H1 => ∃ c, x = .bl c ∧ Q (.bl (!c)) H1
theorem pe_one {op} {t : TE} (h : PE X a t) : PE X (.BoolOp op [a] pos) t := fun pins s σ H Q I hw => BoolOp_one (h pins s σ H Q I hw)
theorem pe_and (ha : PE X a ta) (hb : PE X (.BoolOp .And (b :: rest) pos) tb) : PE X (.BoolOp .And (a :: b :: rest) pos) (tAndV ta tb) := by
  intro pins s σ H Q I h
  refine BoolOp_and (thn (ha pins s σ H _ I h) fun v s1 ⟨x, H1, I1, r1, q1⟩ => ?_)
  obtain ⟨c, rfl, q1⟩ := q1
  cases r1
  refine wpAny_truthy_bool ?_
  cases c with
  | true => exact hb pins s1 σ H1 Q I1 q1
  | false => exact ⟨.bl false, H1, I1, rfl, q1⟩
theorem pe_not (ha : PE X a ta) : PE X (.UnaryOp .Not a pos) (tNotV ta) := by
  intro pins s σ H Q I h
  refine UnaryOp_ (thn (ha pins s σ H _ I h) fun v s1 ⟨x, H1, I1, r1, q1⟩ => ?_)
  obtain ⟨c, rfl, q1⟩ := q1
  cases r1
  exact not_of (wpAny_truthy_bool ⟨.bl (!c), H1, I1, rfl, q1⟩)
/-- a if t else b -/
def tIf (t : TT) (ta tb : TE) : TE := fun σ H Q => t σ H fun c H1 => if c = true then ta σ H1 Q else tb σ H1 Q
theorem pe_ifExp {c : Expr} (hc : PT X c tA) (ha : PE X a ta) (hb : PE X b tb) : PE X (.IfExp c a b pos) (tIf tA ta tb) := by
  intro pins s σ H Q I h
  refine wpAny_IfExp (thn (hc pins s σ H _ I h) fun d s1 ⟨H1, I1, q1⟩ => ?_)
  cases d with
  | true => exact ha pins s1 σ H1 Q I1 q1
  | false => exact hb pins s1 σ H1 Q I1 q1
end
end L2

namespace L2
open PySem PySem.Spec PyProof.Rows

/-! ### a list, a tuple that is read: tracked, frozen, or an object of the module -/
def SqL (K : PySem.W.Frag) (H : Hp) (a : Addr) (xs : List V) : Prop :=
  Rd H a (.lst xs) ∨
    ∃ (o : Obj) (its : Array Value) (n : Nat), K.lookup a = some o ∧ o.cls = .type "list" ∧ o.dict = none ∧ o.data = .seq its n ∧ its.size ≤ sizeLine ∧ Vals xs its.toList
def SqT (K : PySem.W.Frag) (H : Hp) (a : Addr) (xs : List V) : Prop :=
  Rd H a (.tup xs) ∨
    ∃ (o : Obj) (its : Array Value) (n : Nat), K.lookup a = some o ∧ o.cls = .type "tuple" ∧ o.data = .seq its n ∧ its.size ≤ sizeLine ∧ Vals xs its.toList
def absV : Value → Option V
  | .none => some .non
  | .bool b => some (.bl b)
  | .int i _ => some (.int i)
  | .str x _ => some (.str x)
  | .bytes b _ => some (.byt b)
  | .float b _ => some (.flt b)
  | .ref a => some (.ref a)
  | .type n => some (.ty n)
  | _ => none
theorem RelV.abs {x : V} {u : Value} (r : RelV x u) : absV u = some x := by
  cases x with
  | non => cases r; rfl
  | bl _ => cases r; rfl
  | int _ => obtain ⟨t, rfl⟩ := r; rfl
  | str _ => obtain ⟨t, rfl⟩ := r; rfl
  | byt _ => obtain ⟨t, rfl⟩ := r; rfl
  | flt _ => obtain ⟨t, rfl⟩ := r; rfl
  | ref _ => cases r; rfl
  | ty _ => cases r; rfl
theorem RelV.inj {x y : V} {u : Value} (r : RelV x u) (q : RelV y u) : x = y := Option.some.inj (r.abs.symm.trans q.abs)
theorem Vals.inj : ∀ {xs ys : List V} {us : List Value}, Vals xs us → Vals ys us → xs = ys
  | _, _, _, .nil, .nil => rfl
  | _, _, _, .cons r t, .cons r' t' => by rw [r.inj r', Vals.inj t t']
section
variable {X : Cx} {pins : List (Addr × Obj)} {σ : St} {H : Hp} {s : Shared} {a : Addr} {xs ys : List V}
theorem SqL.of {K : PySem.W.Frag} (h : H a = some (.lst xs)) : SqL K H a xs := .inl (.inl h)
theorem SqT.of {K : PySem.W.Frag} (h : H a = some (.tup xs)) : SqT K H a xs := .inl (.inl h)
theorem Inv.list (I : Inv X pins σ H s) (h : SqL X.K H a xs) : ∃ its : List Value, Vals xs its ∧ PlainL s.heap a its.toArray ∧ xs.length ≤ sizeLine := by
  rcases h with h | ⟨o, its, n, hk, hc, hd, hs, hz, r⟩
  · obtain ⟨z, its, n, r, e⟩ := h.ok I.hok
    exact ⟨its, r, ⟨_, n, e, rfl, rfl, rfl⟩, z⟩
  · refine ⟨its.toList, r, ⟨o, n, I.kIn a o hk, hc, hd, by simpa using hs⟩, ?_⟩
    have e := r.length
    simp only [Array.length_toList] at e
    omega
theorem Inv.tuple (I : Inv X pins σ H s) (h : SqT X.K H a xs) : ∃ its : List Value, Vals xs its ∧ IsTup s.heap a its.toArray ∧ xs.length ≤ sizeLine := by
  rcases h with h | ⟨o, its, n, hk, hc, hs, hz, r⟩
  · obtain ⟨z, its, r, p⟩ := h.ok I.hok
    exact ⟨its, r, p, z⟩
  · refine ⟨its.toList, r, ⟨o, I.kIn a o hk, hc, n, by simpa using hs⟩, ?_⟩
    have e := r.length
    simp only [Array.length_toList] at e
    omega
theorem Inv.list_inj (I : Inv X pins σ H s) (h : SqL X.K H a xs) (h' : SqL X.K H a ys) : xs = ys := by
  obtain ⟨its, r, ⟨o, n, e, _, _, d⟩, _⟩ := I.list h
  obtain ⟨its', r', ⟨o', n', e', _, _, d'⟩, _⟩ := I.list h'
  rw [e] at e'; cases e'
  rw [d] at d'
  injection d' with d1 _
  have : its = its' := by simpa using congrArg Array.toList d1
  subst this
  exact r.inj r'
end

/-! ### another wish about exceptions -/
abbrev Cx.wish (X : Cx) (E : Value → Shared → Prop) : Cx := { X with xe := E }
/-- no exception leaves -/
abbrev Cx.nox (X : Cx) : Cx := X.wish fun _ _ => False
theorem Cx.Ok.wish {X : Cx} (ok : X.Ok) (E : Value → Shared → Prop) : (X.wish E).Ok :=
  ⟨ok.mod, ok.kind, ok.glob, ok.blt, ok.above, ok.inj, ok.has, ok.cab, ok.hd, ok.frames, ok.stk, ok.exf, ok.bs, ok.bsz, ok.noex, ok.exfs, ok.funs, ok.frf⟩
theorem Cx.Ok.unwish {X : Cx} {E : Value → Shared → Prop} (ok : (X.wish E).Ok) : X.Ok :=
  ⟨ok.mod, ok.kind, ok.glob, ok.blt, ok.above, ok.inj, ok.has, ok.cab, ok.hd, ok.frames, ok.stk, ok.exf, ok.bs, ok.bsz, ok.noex, ok.exfs, ok.funs, ok.frf⟩
section
variable {X : Cx} {pins : List (Addr × Obj)} {σ : St} {H : Hp} {s : Shared} {E : Value → Shared → Prop}
theorem Inv.wish (I : Inv X pins σ H s) (E : Value → Shared → Prop) : Inv (X.wish E) pins σ H s := ⟨I.ok.wish E, I.os, I.bare, I.base, I.loc, I.cell, I.free, I.freeC, I.pin, I.hok, I.len⟩
theorem Inv.unwish (I : Inv (X.wish E) pins σ H s) : Inv X pins σ H s := ⟨I.ok.unwish, I.os, I.bare, I.base, I.loc, I.cell, I.free, I.freeC, I.pin, I.hok, I.len⟩
theorem SP.unwish {D : Ends} {f : Flow} {s' : Shared} (h : SP (X.wish E) pins D f s') : SP X pins D f s' := by
  cases f with
  | next => obtain ⟨σ', H', I, q⟩ := h; exact ⟨σ', H', I.unwish, q⟩
  | brk => obtain ⟨σ', H', I, q⟩ := h; exact ⟨σ', H', I.unwish, q⟩
  | cont => obtain ⟨σ', H', I, q⟩ := h; exact ⟨σ', H', I.unwish, q⟩
  | ret u => obtain ⟨v, σ', H', I, r, q⟩ := h; exact ⟨v, σ', H', I.unwish, r, q⟩
theorem PSs.nox {st : List Stmt} {t : TS} (h : PSs X.nox st t) : PSs X st t := fun pins s σ H D I hw =>
  wpAny_mono (h pins s σ H D (I.wish _) hw) (fun _ _ q => q.unwish) fun _ _ z => False.elim z
end

/-! ### blocks and small statements -/
section
variable {X : Cx} {st : Stmt} {rest : List Stmt} {t u : TS} {e : Expr} {te : TE} {pos : Pos}
def tNext : TS := fun D σ H => D.nx σ H
def tSeq (t u : TS) : TS := fun D σ H => t { D with nx := u D } σ H
theorem pss_nil : PSs X [] tNext := fun _ _ σ H _ I h => wpAny_execs_nil ⟨σ, H, I, h⟩
theorem pss_cons (h1 : PS X st t) (h2 : PSs X rest u) : PSs X (st :: rest) (tSeq t u) := by
  intro pins s σ H D I h
  refine wpAny_execs_cons (thn (h1 pins s σ H { D with nx := u D } I h) fun f s1 q => ?_)
  cases f with
  | next =>
    obtain ⟨σ', H', I', q⟩ := q
    exact h2 pins s1 σ' H' D I' q
  | ret v => exact q
  | brk => exact q
  | cont => exact q
theorem pss_one (h1 : PS X st t) : PSs X [st] t := by
  intro pins s σ H D I h
  refine wpAny_execs_cons (thn (h1 pins s σ H D I h) fun f s1 q => ?_)
  cases f with
  | next => exact wpAny_execs_nil q
  | ret v => exact q
  | brk => exact q
  | cont => exact q
def tBreak : TS := fun D σ H => D.bk σ H
def tCont : TS := fun D σ H => D.ct σ H
/-- in a def's body nothing is shown -/
theorem Inv.quiet {pins : List (Addr × Obj)} {σ : St} {H : Hp} {s : Shared} (I : Inv X pins σ H s) : interactive X.env = false := by simp [interactive, I.ok.kind]
/-- an expression whose value is dropped -/
def tDrop (te : TE) : TS := fun D σ H => te σ H fun _ H1 => D.nx σ H1
theorem ps_expr (he : PE X e te) (hs : swapsWith e none pos.line X.env = pure false := by rfl) : PS X (.Expr e pos) (tDrop te) := by
  intro pins s σ H D I h
  exact wpAny_Expr_any (thn (he pins s σ H _ I h) fun v s1 ⟨x, H1, I1, r1, q1⟩ => ⟨σ, H1, I1, q1⟩) I.quiet hs
def tRet (te : TE) : TS := fun D σ H => te σ H D.rt
theorem ps_ret (he : PE X e te) : PS X (.Return (some e) pos) (tRet te) := by
  intro pins s σ H D I h
  exact wpAny_Return_some (thn (he pins s σ H _ I h) fun v s1 ⟨x, H1, I1, r1, q1⟩ => ⟨x, σ, H1, I1, r1, q1⟩)
def tRetN : TS := fun D _ H => D.rt .non H
def tIfS (c : TT) (t u : TS) : TS := fun D σ H => c σ H fun b H1 => if b = true then t D σ H1 else u D σ H1
theorem ps_if {c : Expr} {a b : List Stmt} {tc : TT} (hc : PT X c tc) (ha : PSs X a t) (hb : PSs X b u) : PS X (.If c a b pos) (tIfS tc t u) := by
  intro pins s σ H D I h
  refine wpAny_If (thn (hc pins s σ H _ I h) fun d s1 ⟨H1, I1, q1⟩ => ?_)
  cases d with
  | true => exact ha pins s1 σ H1 D I1 q1
  | false => exact hb pins s1 σ H1 D I1 q1
/-- code that the proof never comes to -/
def tNever : TS := fun _ _ _ => False
theorem ps_never : PS X st tNever := fun _ _ _ _ _ _ h => h.elim
end

/-! ### targets -/
abbrev TG := V → St → Hp → (St → Hp → Prop) → Prop
abbrev TGs := List V → St → Hp → (St → Hp → Prop) → Prop
def PG (X : Cx) (target : Expr) (t : TG) : Prop :=
  ∀ (pins : List (Addr × Obj)) (s : Shared) (σ : St) (H : Hp) (v : V) (u : Value) (Q : St → Hp → Prop), Inv X pins σ H s → RelV v u → t v σ H Q →
    wpAny (model X.prog X.w) X.A (assign target X.env u) (fun _ s' => ∃ σ' H', Inv X pins σ' H' s' ∧ Q σ' H') X.xe s
/-- several targets, one after another -/
def PGs (X : Cx) (ts : List Expr) (t : TGs) : Prop :=
  ∀ (pins : List (Addr × Obj)) (s : Shared) (σ : St) (H : Hp) (vs : List V) (us : List Value) (Q : St → Hp → Prop), Inv X pins σ H s → Vals vs us → t vs σ H Q →
    wpAny (model X.prog X.w) X.A (assignInOrder ((assignEach ts X.env).map (·.2)) us) (fun _ s' => ∃ σ' H', Inv X pins σ' H' s' ∧ Q σ' H') X.xe s
/-- o[i] = v, by values -/
abbrev TSet := V → V → V → Hp → (Hp → Prop) → Prop
def PSet (X : Cx) (t : TSet) : Prop :=
  ∀ (pins : List (Addr × Obj)) (s : Shared) (σ : St) (H : Hp) (o i v : V) (ov iv u : Value) (Q : Hp → Prop), Inv X pins σ H s → RelV o ov → RelV i iv → RelV v u → t o i v H Q →
    wpAny (model X.prog X.w) X.A (setItem ov iv u) (fun _ s' => ∃ H', Inv X pins σ H' s' ∧ Q H') X.xe s
/-- a op= b, by values -/
abbrev TIp := V → V → Hp → VK → Prop
def PIp (X : Cx) (op : Operator) (t : TIp) : Prop :=
  ∀ (pins : List (Addr × Obj)) (s : Shared) (σ : St) (H : Hp) (x y : V) (v u : Value) (Q : VK), Inv X pins σ H s → RelV x v → RelV y u → t x y H Q →
    wpAny (model X.prog X.w) X.A (inplaceOp op v u) (EP X pins σ Q) X.xe s
section
variable {X : Cx} {pos : Pos}
def gName (i : Nat) : TG := fun v σ H Q => Q (σ.set i (some v)) H
theorem pg_name {i : Nat} {x : Str} (hN : X.N.Nodup) (hi : X.N[i]? = some x) (hx : Loc X.env.scope x) (hf : X.fn x = true ∨ X.env.scope.names.lookup x = some .local := by first | exact .inl rfl | exact .inr rfl | assumption) : PG X (.Name x pos) (gName i) := by
  intro pins s σ H v u Q I r h
  exact wpAny_assign_Name (store_ok I hN hi hx r (fun s' I' => ⟨_, H, I', h⟩) hf)
def gNil : TGs := fun vs σ H Q => vs = [] ∧ Q σ H
def gCons (t : TG) (u : TGs) : TGs := fun vs σ H Q => ∃ v r, vs = v :: r ∧ t v σ H fun σ' H' => u r σ' H' Q
theorem pgs_nil : PGs X [] gNil := by
  intro pins s σ H vs us Q I r h
  obtain ⟨e, h⟩ := h
  subst e
  cases r
  exact assignInOrder_nil ⟨σ, H, I, h⟩
theorem pgs_cons {e : Expr} {es : List Expr} {t : TG} {u : TGs} (h1 : PG X e t) (h2 : PGs X es u)
    (hs : (assignEach (e :: es) X.env).map (·.2) = assign e X.env :: (assignEach es X.env).map (·.2) := by rfl) : PGs X (e :: es) (gCons t u) := by
  intro pins s σ H vs us Q I r h
  obtain ⟨v, vr, e1, h⟩ := h
  subst e1
  cases r with
  | cons r rr =>
    rw [hs]
    refine assignInOrder_cons (thn (h1 pins s σ H _ _ _ I r h) fun _ s1 ⟨σ1, H1, I1, q1⟩ => ?_)
    exact h2 pins s1 σ1 H1 _ _ Q I1 rr q1
/-- (a, b, ..) = a tuple of that length -/
def gTup (K : PySem.W.Frag) (n : Nat) (t : TGs) : TG := fun v σ H Q => ∃ a xs, v = .ref a ∧ SqT K H a xs ∧ xs.length = n ∧ t xs σ H Q
theorem pg_tup {es : List Expr} {k : Nat} {t : TGs} {n : Nat} (hc : X.calm = true) (h : PGs X es t)
    (hn : (assignEach es X.env).length = n := by rfl) (hst : (assignEach es X.env).findIdx? (·.1) = none := by rfl) : PG X (.Tuple es k pos) (gTup X.K n t) := by
  intro pins s σ H v u Q I r hw
  obtain ⟨a, xs, e1, hq, hl, hw⟩ := hw
  subst e1
  cases r
  obtain ⟨its, rv, ht, hz⟩ := I.tuple hq
  refine assign_Tuple_tuple (I.ok.hd hc) ht (by simp [hn, ← hl, rv.length]) hst fun h' hx => ?_
  have I1 : Inv X pins σ H { s with heap := h' } := I.kept (t' := s.toks) fun b o e => hx b o (Nat.ne_of_lt (Heap.lt_size e)) e
  exact h pins _ σ H xs _ Q I1 (by simpa using rv) hw
/-- o[i] = .. -/
def gSub (to ti : TE) (t : TSet) : TG := fun v σ H Q => to σ H fun o H1 => ti σ H1 fun i H2 => t o i v H2 fun H3 => Q σ H3
theorem pg_sub {o i : Expr} {to ti : TE} {t : TSet} (ho : PE X o to) (hi : PE X i ti) (hs : PSet X t)
    (ha : ∀ v, assign (.Subscript o i pos) X.env v = (do
      let ov ← holding [v] (eval o X.env)
      let iv ← holding [v, ov] (eval i X.env)
      standAt pos
      holding [v, ov, iv] (setItem ov iv v)
      release [v, ov, iv] []) := by intro _; rfl) : PG X (.Subscript o i pos) (gSub to ti t) := by
  intro pins s σ H v u Q I r h
  rw [ha]
  refine wpAny_bind (wpAny_holding (thn (ho pins s σ H _ I h) fun ov s1 ⟨x, H1, I1, r1, q1⟩ => ?_))
  refine wpAny_bind (wpAny_holding (thn (hi pins s1 σ H1 _ I1 q1) fun iv s2 ⟨y, H2, I2, r2, q2⟩ => ?_))
  refine wpAny_bind (wpAny_standAt (wpAny_bind (wpAny_holding (thn (hs pins s2 σ H2 x y v ov iv u _ I2 r1 r2 r q2) fun _ s3 ⟨H3, I3, q3⟩ => ?_))))
  exact wpAny_release ⟨σ, H3, I3, q3⟩
/-- target = value -/
def tAsg (te : TE) (g : TG) : TS := fun D σ H => te σ H fun x H1 => g x σ H1 D.nx
theorem ps_asg {tg e : Expr} {te : TE} {g : TG} (he : PE X e te) (hg : PG X tg g) (hs : swapsWithSole [tg] e pos.line X.env = pure false := by rfl) (hw : swappedStores [tg] e X.env = pure none := by rfl)
    (h1 : (assignEach [tg] X.env).map (·.2) = [assign tg X.env] := by rfl) : PS X (.Assign [tg] e pos) (tAsg te g) := by
  intro pins s σ H D I h
  refine wpAny_Assign_stores (thn (he pins s σ H _ I h) fun v s1 ⟨x, H1, I1, r1, q1⟩ => ?_) hs hw
  rw [h1]
  exact thn (hg pins s1 σ H1 x v _ I1 r1 q1) fun _ s2 q => q
/-- name = value -/
theorem ps_set {i : Nat} {x : Str} {e : Expr} {te : TE} {pos' : Pos} (hN : X.N.Nodup) (hi : X.N[i]? = some x) (hx : Loc X.env.scope x) (he : PE X e te) (hs : swapsWith e (some (.Name x pos')) pos.line X.env = pure false := by rfl) (hf : X.fn x = true ∨ X.env.scope.names.lookup x = some .local := by first | exact .inl rfl | exact .inr rfl | assumption) :
    PS X (.Assign [.Name x pos'] e pos) (tAsg te (gName i)) := by
  intro pins s σ H D I h
  refine wpAny_Assign_Name (thn (he pins s σ H _ I h) fun v s1 ⟨y, H1, I1, r1, q1⟩ => ?_) hs
  exact store_ok I1 hN hi hx r1 (fun s2 I2 => ⟨_, H1, I2, q1⟩) hf
/-- a, b = x, y with plain local names: stored from the right; the pair itself is not tracked (the opening rows as in PyProof/Rows/TupAssign.lean:23) -/
def tPar (i j : Nat) (ta : TA) : TS := fun D σ H => ta σ H fun vs H1 => ∃ v w, vs = [v, w] ∧ D.nx ((σ.set i (some v)).set j (some w)) H1
theorem ps_par {i j : Nat} {x y : Str} {a b : Expr} {ta : TA} {px py pt : Pos} {kt k2 pt2} (hc : X.calm = true) (hN : X.N.Nodup) (hi : X.N[i]? = some x) (hj : X.N[j]? = some y) (hij : i ≠ j)
    (hx : X.env.scope.names.lookup x = some .local) (hy : X.env.scope.names.lookup y = some .local) (ha : PA X [a, b] ta)
    (hw : swappedStores [.Tuple [.Name x px, .Name y py] kt pt] (.Tuple [a, b] k2 pt2) X.env = pure (some [x, y]))
    (hs : swapsWithSole [.Tuple [.Name x px, .Name y py] kt pt] (.Tuple [a, b] k2 pt2) pos.line X.env = pure false := by rfl) :
    PS X (.Assign [.Tuple [.Name x px, .Name y py] kt pt] (.Tuple [a, b] k2 pt2) pos) (tPar i j ta) := by
  intro pins s σ H D I h
  rw [exec_Assign_arm]
  refine wpAny_bind (wpAny_standAt ?_)
  rw [hs]
  refine wpAny_bind (wpAny_pure ?_)
  rw [if_neg (by decide)]
  refine wpAny_bind (Tuple_ (thn (ha _ pins s σ H _ I h) fun us s1 ⟨vs, H1, I1, r1, q1⟩ => ?_))
  obtain ⟨v, w, e1, q1⟩ := q1
  subst e1
  obtain ⟨u1, u2, rfl, rv, rw'⟩ : ∃ u1 u2, us = [u1, u2] ∧ RelV v u1 ∧ RelV w u2 := by
    cases r1 with
    | cons p q =>
      cases q with
      | cons p' q' =>
        cases q'
        exact ⟨_, _, rfl, p, p'⟩
  refine wpAny_newObj_type ?_ (by show 2 ≤ sizeLine; decide)
  have I2 : Inv X pins σ H1 { s1 with heap := s1.heap.push { cls := .type "tuple", data := .seq [u1, u2].toArray } } := I1.kept (t' := s1.toks) fun b o e => Heap.get?_push_of_some _ e
  rw [hw]
  refine wpAny_bind (wpAny_pure ?_)
  show wpAny (model X.prog X.w) X.A (do rule "assign.swapped-stores"; let items ← unpackItems (.ref s1.heap.objs.size) 2 none; assignInOrder [fun v => bindName X.env y v, fun v => bindName X.env x v] items.reverse; pure Flow.next) _ _ _
  refine wpAny_bind (wpAny_rule (wpAny_bind (unpackItems_tuple (items := #[u1, u2]) (I.ok.hd hc) (IsTup.new s1.heap _) fun h' hx' => ?_)))
  have I3 := I2.kept (h' := h') (t' := s1.toks) fun b o e => hx' b o (Nat.ne_of_lt (Heap.lt_size e)) e
  show wpAny _ _ (assignInOrder [fun v => bindName X.env y v, fun v => bindName X.env x v] [u2, u1] >>= fun _ => pure Flow.next) _ _ _
  refine wpAny_bind (assignInOrder_cons (wpAny_bindName (store_ok I3 hN hj (.inl hy) rw' (fun s2 I4 => ?_) (.inr hy))))
  refine assignInOrder_cons (wpAny_bindName (store_ok I4 hN hi (.inl hx) rv (fun s3 I5 => assignInOrder_nil (wpAny_pure ?_)) (.inr hx)))
  rw [List.set_comm _ _ (Ne.symm hij)] at I5
  exact ⟨_, H1, I5, q1⟩
/-- name op= e -/
def tAug (i : Nat) (te : TE) (ti : TIp) : TS := fun D σ H => ∃ x, σ[i]? = some (some x) ∧ te σ H fun y H1 => ti x y H1 fun z H2 => D.nx (σ.set i (some z)) H2
/-- o[i] op= e -/
def tAugS (to ti te : TE) (tget : V → V → Hp → VK → Prop) (tip : TIp) (tset : TSet) : TS := fun D σ H => to σ H fun o H1 => ti σ H1 fun i H2 => tget o i H2 fun x H3 => te σ H3 fun y H4 => tip x y H4 fun z H5 => tset o i z H5 fun H6 => D.nx σ H6
/-- o[i], by values -/
def PGet (X : Cx) (t : V → V → Hp → VK → Prop) : Prop :=
  ∀ (pins : List (Addr × Obj)) (s : Shared) (σ : St) (H : Hp) (o i : V) (ov iv : Value) (Q : VK), Inv X pins σ H s → RelV o ov → RelV i iv → t o i H Q →
    wpAny (model X.prog X.w) X.A (getItem ov iv) (EP X pins σ Q) X.xe s
/-- ints -/
def ipI (f : Int → Int → Int) : TIp := fun x y H Q => ∃ i j, x = .int i ∧ y = .int j ∧ Q (.int (f i j)) H
end

/-! ### while -/
section
variable {X : Cx} {pos : Pos}
/-- the invariant W with its measure -/
def tWhile (c : TT) (tb : TS) : TS := fun D σ H => ∃ W : Nat → St → Hp → Prop, (∃ m, W m σ H) ∧ ∀ m σ H, W m σ H →
  c σ H fun b H1 => if b = true then ∃ N : St → Hp → Prop, (∀ σ' H', N σ' H' → ∃ m', m' < m ∧ W m' σ' H') ∧ tb { D with nx := N, ct := N, bk := D.nx } σ H1 else D.nx σ H1
theorem ps_while {c : Expr} {body : List Stmt} {tc : TT} {tb : TS} (hp : PassesOwn (model X.prog X.w) X.A X.env X.xe) (hc : PT X c tc) (hb : PSs X body tb) : PS X (.While c body [] pos) (tWhile tc tb) := by
  intro pins s σ H D I h
  obtain ⟨W, ⟨m0, w0⟩, turn⟩ := h
  refine wpAny_While (codeAny_whileLoop (fun n s' => ∃ σ' H', Inv X pins σ' H' s' ∧ W n σ' H') ?_ m0 ⟨σ, H, I, w0⟩)
  rintro n s1 ⟨σ1, H1, I1, w1⟩
  refine wpAny_passesOwn hp (thn (hc pins s1 σ1 H1 _ I1 (turn n σ1 H1 w1)) fun b s2 ⟨H2, I2, q2⟩ => ?_)
  cases b with
  | true =>
    obtain ⟨N, hN, q2⟩ := q2
    rw [if_pos rfl]
    refine wpAny_passesOwn hp (thn (hb pins s2 σ1 H2 _ I2 q2) fun f s3 q3 => ?_)
    cases f with
    | next =>
      obtain ⟨σ3, H3, I3, n3⟩ := q3
      obtain ⟨m', hm, w3⟩ := hN σ3 H3 n3
      exact ⟨m', hm, σ3, H3, I3, w3⟩
    | cont =>
      obtain ⟨σ3, H3, I3, n3⟩ := q3
      obtain ⟨m', hm, w3⟩ := hN σ3 H3 n3
      exact ⟨m', hm, σ3, H3, I3, w3⟩
    | brk => exact q3
    | ret v => exact q3
  | false =>
    rw [if_neg Bool.false_ne_true]
    exact wpAny_execs_nil ⟨σ1, H2, I2, q2⟩
end

/-! ### what a loop or a comprehension walks -/
/-- at turn i: it yields x (the heap may grow), or it stops -/
structure It where
  go : Nat → Hp → Prop
  yld : Nat → Hp → V → Hp → Prop
  stop : Nat → Hp → Prop
/-- the iterator's own objects may turn: they are not the frame's, not pinned, younger than the entry (or a comprehension's own) -/
def FpOk (X : Cx) (pins : List (Addr × Obj)) (H : Hp) (b : Addr) : Prop :=
  H b = none ∧ b ≠ X.env.locals ∧ b ∉ X.fs ∧ (b ∈ X.ex ∨ X.s_0.heap.objs.size ≤ b) ∧ (∀ x c, X.env.cells.lookup x = some c → c ≠ b) ∧ ∀ p ∈ X.pn ++ pins, p.1 ≠ b
theorem Inv.fpOk {X : Cx} {pins : List (Addr × Obj)} {σ : St} {H H' : Hp} {s : Shared} {b : Addr} (I : Inv X pins σ H s) (hb : s.heap.objs.size ≤ b) (hn : H' b = none) : FpOk X pins H' b := by
  refine ⟨hn, Nat.ne_of_gt (Nat.lt_of_lt_of_le I.lt hb), I.nofs hb, .inr (Nat.le_trans I.sz hb), fun x c e z => ?_, fun p hp z => ?_⟩
  · obtain ⟨v, q⟩ := I.cell x c e
    exact absurd (Nat.lt_of_lt_of_le q.lt (by rw [z]; exact hb)) (Nat.lt_irrefl _)
  · exact absurd (Nat.lt_of_lt_of_le (Heap.lt_size (I.pin p hp).1) (by rw [z]; exact hb)) (Nat.lt_irrefl _)
structure Turn (P : Program) (w : World) (K : PySem.W.Frag) (tg : Expr) (J : It) (fp : List Addr) (it : Addr) (tn : Nat → Heap → Prop) : Prop where
  mem : it ∈ fp
  obj : ∀ i h, tn i h → ∀ b ∈ fp, ∃ o, h.get? b = some o ∧ ∀ v, o.data ≠ .cell v
  keep : ∀ i h h', tn i h → (∀ b ∈ fp, ∀ o, h.get? b = some o → h'.get? b = some o) → tn i h'
  item : ∀ (X : Cx), X.prog = P → X.w = w → X.K = K → X.calm = true → ∀ (i : Nat) (pins : List (Addr × Obj)) (s : Shared) (σ : St) (H : Hp) (E : Value → Shared → Prop), Inv X pins σ H s → (∀ b ∈ fp, FpOk X pins H b) → tn i s.heap → J.go i H →
    wpAny (model P w) X.A (pyNext (.ref it)) (fun r s1 => ∃ u, r = some u ∧
      wpAny (model P w) X.A (letOwnedTupleGo tg (.ref it) u) (fun _ s2 => ∃ x H', Inv X pins σ H' s2 ∧ RelV x u ∧ J.yld i H x H' ∧ tn (i + 1) s2.heap ∧ ∀ b ∈ fp, H' b = none) E s1) E s
  done : ∀ (X : Cx), X.prog = P → X.w = w → X.K = K → X.calm = true → ∀ (i : Nat) (pins : List (Addr × Obj)) (s : Shared) (σ : St) (H : Hp) (E : Value → Shared → Prop), Inv X pins σ H s → (∀ b ∈ fp, FpOk X pins H b) → tn i s.heap → J.stop i H →
    wpAny (model P w) X.A (pyNext (.ref it)) (fun r s1 => r = none ∧ Inv X pins σ H s1) E s
  self : ∀ (A : Around) (i : Nat) (s : Shared) (Q : Value → Shared → Prop) (E : Value → Shared → Prop), tn i s.heap → Q (.ref it) s → wpAny (model P w) A (pyIter (.ref it)) Q E s
abbrev TI := St → Hp → (It → Hp → Prop) → Prop
/-- an iterator has come -/
def PIE (X : Cx) (pins : List (Addr × Obj)) (σ : St) (tg : Expr) (R : It → Hp → Prop) (itv : Value) (s2 : Shared) : Prop :=
  ∃ (it : Addr) (fp : List Addr) (tn : Nat → Heap → Prop) (J : It) (H' : Hp), itv = .ref it ∧ Inv X pins σ H' s2 ∧ Turn X.prog X.w X.K tg J fp it tn ∧ tn 0 s2.heap ∧ (∀ b ∈ fp, FpOk X pins H' b) ∧ R J H'
def PI (X : Cx) (tg iter : Expr) (wi : TI) : Prop :=
  ∀ (pins : List (Addr × Obj)) (s : Shared) (σ : St) (H : Hp) (R : It → Hp → Prop), Inv X pins σ H s → wi σ H R →
    wpAny (model X.prog X.w) X.A (eval iter X.env) (fun v s1 => wpAny (model X.prog X.w) X.A (pyIter v) (PIE X pins σ tg R) X.xe s1) X.xe s

/-- the step ahead of the store is nothing for an iterator that keeps no tuple -/
theorem go_of {M : Model} {A : Around} {E : Value → Shared → Prop} {s : Shared} {tg : Expr} {it : Addr} {u : Value} {o : Obj} {n : String} {vs : Array Value} {Q : Unit → Shared → Prop} (ho : s.heap.get? it = some o) (hc : o.cls = .type n) (hd : o.data = .fields vs)
    (hn : ["enumerate", "zip", "dict_itemiterator", "dict_reverseitemiterator", "odict_iterator", "itertools.zip_longest", "itertools.pairwise"].contains n = false) (hQ : Q () s) : wpAny M A (letOwnedTupleGo tg (.ref it) u) Q E s := by
  unfold letOwnedTupleGo
  cases tg <;> first
    | exact wpAny_pure hQ
    | (cases u <;> first
        | exact wpAny_pure hQ
        | (refine wpAny_bind (wpAny_load ho ?_)
           rw [hc, hd]
           show wpAny M A (if (["enumerate", "zip", "dict_itemiterator", "dict_reverseitemiterator", "odict_iterator", "itertools.zip_longest", "itertools.pairwise"].contains n && vs[0]? == some (rawInt _)) = true then _ else _) Q E s
           rw [if_neg (by intro h; rw [hn, Bool.false_and] at h; cases h)]
           exact wpAny_pure hQ))

/-- the list at a, as it stands at each turn (a loop may append to it) -/
def Itl (K : PySem.W.Frag) (a : Addr) : It :=
  ⟨fun i H => ∃ xs x, SqL K H a xs ∧ xs[i]? = some x, fun i H x H' => H' = H ∧ ∀ xs, SqL K H a xs → xs[i]? = some x, fun i H => ∃ xs, SqL K H a xs ∧ xs.length ≤ i⟩
def Itt (K : PySem.W.Frag) (a : Addr) : It :=
  ⟨fun i H => ∃ xs x, SqT K H a xs ∧ xs[i]? = some x, fun i H x H' => H' = H ∧ ∀ xs, SqT K H a xs → xs[i]? = some x, fun i H => ∃ xs, SqT K H a xs ∧ xs.length ≤ i⟩
/-- lo, lo + 1, .. (n of them) -/
def Itr (lo : Int) (n : Nat) : It := ⟨fun i _ => i < n, fun i H x H' => H' = H ∧ x = .int (lo + i), fun i _ => n ≤ i⟩
theorem turn_list {P : Program} {w : World} {K : PySem.W.Frag} {tg : Expr} (a it : Addr) : Turn P w K tg (Itl K a) [it] it (fun i h => h.IsListIter it a i) where
  mem := by simp
  obj := fun i h st b hb => by
    have e : b = it := by simpa using hb
    subst e
    obtain ⟨o, e, c, d⟩ := st
    exact ⟨o, e, fun v z => by rw [d] at z; cases z⟩
  keep := fun i h h' st k => st.at fun o e => k it (by simp) o e
  item := by
    intro X hP hw hK hc i pins s σ H E I hf st hg
    subst hP hw hK
    obtain ⟨xs, x, hq, hx⟩ := hg
    obtain ⟨its, rv, p, hz⟩ := I.list hq
    obtain ⟨u, hu, ru⟩ := rv.get hx
    obtain ⟨f0, f1, f2, f3, f4, f5⟩ := hf it (by simp)
    refine wpAny_pyNext_list_item st p.isList (x := u) (by simpa using hu) fun h' st' sb => ?_
    have I1 : Inv X pins σ H { s with heap := h' } := I.turned (t' := s.toks) (fun b o hb e => (sb.2 b hb).trans e) f0 f1 f3 f4 f5
    obtain ⟨o, e, c, d⟩ := id st'
    exact ⟨u, rfl, go_of (s := { s with heap := h' }) e c d (by decide) ⟨x, H, I1, ru, ⟨rfl, fun ys hy => by rw [I.list_inj hy hq]; exact hx⟩, st', fun b hb => (hf b hb).1⟩⟩
  done := by
    intro X hP hw hK hc i pins s σ H E I hf st hg
    subst hP hw hK
    obtain ⟨xs, hq, hx⟩ := hg
    obtain ⟨its, rv, p, hz⟩ := I.list hq
    obtain ⟨f0, f1, f2, f3, f4, f5⟩ := hf it (by simp)
    have hl := rv.length
    exact wpAny_pyNext_list_end (I.ok.hd hc) st p.isList (by simp; omega) fun h' eb => ⟨rfl, I.turned (t' := s.toks) (fun b o hb e => eb b o hb e) f0 f1 f3 f4 f5⟩
  self := fun _ _ _ _ _ st h => wpAny_pyIter_listiter st h
theorem turn_range {P : Program} {w : World} {K : PySem.W.Frag} {tg : Expr} (it : Addr) (lo : Int) (n : Nat) : Turn P w K tg (Itr lo n) [it] it (fun i h => IsRangeIter h it (lo + (i : Nat) * 1) ((n : Int) - (i : Nat)) 1) where
  mem := by simp
  obj := fun i h st b hb => by
    have e : b = it := by simpa using hb
    subst e
    exact ⟨_, st, fun v z => by
      have z' : Data.fields _ = Data.cell v := z
      cases z'⟩
  keep := fun i h h' st k => k it (by simp) _ st
  item := by
    intro X hP hw hK hc i pins s σ H E I hf st hg
    subst hP hw hK
    obtain ⟨f0, f1, f2, f3, f4, f5⟩ := hf it (by simp)
    have W := Walks.range (prog := X.prog) (w := X.w) (I.ok.hd hc) it lo 1 n
    refine W.item i s _ _ hg st fun v h' tk hv st' kk => ?_
    obtain ⟨t, rfl⟩ := hv
    have I1 : Inv X pins σ H { s with heap := h', toks := tk } := I.turned (fun b o hb e => kk b o (by simpa using hb) e) f0 f1 f3 f4 f5
    refine ⟨_, rfl, go_of (s := { s with heap := h', toks := tk }) (n := "range_iterator") st' rfl rfl (by decide) ⟨.int (lo + i), H, I1, ⟨t, ?_⟩, ⟨rfl, rfl⟩, st', fun b hb => (hf b hb).1⟩⟩
    rw [Int.mul_one]
  done := by
    intro X hP hw hK hc i pins s σ H E I hf st hg
    subst hP hw hK
    obtain ⟨f0, f1, f2, f3, f4, f5⟩ := hf it (by simp)
    exact wpAny_pyNext_range_end (I.ok.hd hc) st (by have : n ≤ i := hg; omega) fun h' eb => ⟨rfl, I.turned (t' := s.toks) (fun b o hb e => eb b o hb e) f0 f1 f3 f4 f5⟩
  self := fun _ _ _ _ _ st h => wpAny_pyIter_rangeiter st h
end L2

namespace L2
open PySem PySem.Spec PyProof.Rows
section
variable {X : Cx} {tg : Expr}
def iList (K : PySem.W.Frag) (tl : TE) : TI := fun σ H R => tl σ H fun x H1 => ∃ a, x = .ref a ∧ (∃ xs, SqL K H1 a xs) ∧ R (Itl K a) H1
def iTup (K : PySem.W.Frag) (tl : TE) : TI := fun σ H R => tl σ H fun x H1 => ∃ a, x = .ref a ∧ (∃ xs, SqT K H1 a xs) ∧ R (Itt K a) H1
theorem pi_list {l : Expr} {tl : TE} (hl : PE X l tl) : PI X tg l (iList X.K tl) := by
  intro pins s σ H R I h
  refine thn (hl pins s σ H _ I h) fun v s1 ⟨x, H1, I1, r1, q1⟩ => ?_
  obtain ⟨a, e, ⟨xs, hq⟩, q⟩ := q1
  subst e
  cases r1
  obtain ⟨its, rv, p, hz⟩ := I1.list hq
  refine wpAny_pyIter_list p.isList ?_
  refine ⟨s1.heap.objs.size, [s1.heap.objs.size], _, _, H1, rfl, I1.kept (t' := s1.toks) fun b o e => Heap.get?_push_of_some _ e, turn_list a _, ⟨_, Heap.get?_push_size _ rfl, rfl, rfl⟩, fun b hb => ?_, q⟩
  have e : b = s1.heap.objs.size := by simpa using hb
  subst e
  exact I1.fpOk (Nat.le_refl _) (I1.hok.fresh (Nat.le_refl _))
/-- a range object just made, walked -/
theorem range_it {pins : List (Addr × Obj)} {σ : St} {H : Hp} {s : Shared} {R : It → Hp → Prop} {E : Value → Shared → Prop} {lo hi : Int} {t u v : Tok} {tk : Nat} (I : Inv X pins σ H s) (h1 : -(2 ^ 62) ≤ lo) (h2 : lo < 2 ^ 62) (h3 : -(2 ^ 62) ≤ hi) (h4 : hi < 2 ^ 62)
    (q : R (Itr lo (hi - lo).toNat) H) : wpAny (model X.prog X.w) X.A (pyIter (.ref s.heap.objs.size)) (PIE X pins σ tg R) E { s with heap := s.heap.push { cls := .type "range", data := .fields #[.int lo t, .int hi u, .int 1 v] }, toks := tk } := by
  refine wpAny_pyIter_range (IsRange.new ..) (small_one h1 h2 h3 h4) ?_
  have I1 : Inv X pins σ H { s with heap := s.heap.push { cls := .type "range", data := .fields #[.int lo t, .int hi u, .int 1 v] }, toks := tk } := I.kept fun b o e => Heap.get?_push_of_some _ e
  refine ⟨(s.heap.push { cls := .type "range", data := .fields #[.int lo t, .int hi u, .int 1 v] }).objs.size, [(s.heap.push { cls := .type "range", data := .fields #[.int lo t, .int hi u, .int 1 v] }).objs.size], _, _, H, rfl,
    I1.kept (t' := tk) fun b o e => Heap.get?_push_of_some _ e, turn_range _ lo (hi - lo).toNat, ?_, fun b hb => ?_, q⟩
  · have e1 : lo + ((0 : Nat) : Int) * 1 = lo := by simp
    have e2 : (((hi - lo).toNat : Nat) : Int) - ((0 : Nat) : Int) = Builtin.Range.rangeSize lo hi 1 := by rw [rangeSize_one]; split <;> omega
    show IsRangeIter _ _ (lo + ((0 : Nat) : Int) * 1) ((((hi - lo).toNat : Nat) : Int) - ((0 : Nat) : Int)) 1
    rw [e1, e2]
    exact Heap.get?_push_size _ rfl
  · have e : b = (s.heap.push { cls := .type "range", data := .fields #[.int lo t, .int hi u, .int 1 v] }).objs.size := by simpa using hb
    subst e
    exact I1.fpOk (Nat.le_refl _) (I1.hok.fresh (Nat.le_refl _))
def iRng1 (ta : TA) : TI := fun σ H R => ta σ H fun vs H1 => ∃ j : Int, vs = [.int j] ∧ -(2 ^ 62) ≤ j ∧ j < 2 ^ 62 ∧ R (Itr 0 j.toNat) H1
def iRng2 (ta : TA) : TI := fun σ H R => ta σ H fun vs H1 => ∃ i j : Int, vs = [.int i, .int j] ∧ (-(2 ^ 62) ≤ i ∧ i < 2 ^ 62 ∧ -(2 ^ 62) ≤ j ∧ j < 2 ^ 62) ∧ R (Itr i (j - i).toNat) H1
theorem pi_range1 {a : Expr} {ta : TA} {p pos : Pos} (hg : Gl X "range") (hm : X.mg "range" = none) (ha : PA X [a] ta) (hs : starEach [a] X.env = [(false, eval a X.env)] := by rfl) : PI X tg (.Call (.Name "range" p) [a] [] pos) (iRng1 ta) := by
  intro pins s σ H R I h
  refine Call_ (ld_blt I hg hm boot_range (PyProof.Rows.callWith_type1 (thn (ha pos pins s σ H _ I h) fun us s1 ⟨vs, H1, I1, r1, q1⟩ => ?_) hs rfl))
  obtain ⟨j, e, q1, q2, q⟩ := q1
  subst e
  cases r1 with
  | cons r rr =>
    cases rr
    obtain ⟨t, rfl⟩ := r
    exact call_range_1 (range_it I1 (by omega) (by omega) q1 q2 (by simpa using q))
theorem pi_range2 {a b : Expr} {ta : TA} {p pos : Pos} (hg : Gl X "range") (hm : X.mg "range" = none) (ha : PA X [a, b] ta) (hs : starEach [a, b] X.env = [(false, eval a X.env), (false, eval b X.env)] := by rfl) (hs2 : starEach [b] X.env = [(false, eval b X.env)] := by rfl) :
    PI X tg (.Call (.Name "range" p) [a, b] [] pos) (iRng2 ta) := by
  intro pins s σ H R I h
  refine Call_ (ld_blt I hg hm boot_range (PyProof.Rows.callWith_type1 (thn (ha pos pins s σ H _ I h) fun us s1 ⟨vs, H1, I1, r1, q1⟩ => ?_) (by rw [hs, hs2]) (by rw [hs2]; rfl)))
  obtain ⟨i, j, e, ⟨q1, q2, q3, q4⟩, q⟩ := q1
  subst e
  cases r1 with
  | cons r rr =>
    cases rr with
    | cons r' rr =>
      cases rr
      obtain ⟨t, rfl⟩ := r
      obtain ⟨t', rfl⟩ := r'
      exact call_range_2 (range_it I1 q1 q2 q3 q4 q)

/-! ### for -/
/-- W: the invariant by the turn and a measure; N: what the body is to reach -/
def tFor (wi : TI) (g : TG) (tb : TS) : TS := fun D σ H => wi σ H fun J H1 => ∃ W : Nat → Nat → St → Hp → Prop, (∃ m, W 0 m σ H1) ∧ ∀ i m σ H, W i m σ H →
  (J.stop i H ∧ D.nx σ H) ∨ (J.go i H ∧ ∃ N : St → Hp → Prop, (∀ σ' H', N σ' H' → ∃ m', m' < m ∧ W (i + 1) m' σ' H') ∧ ∀ x H', J.yld i H x H' → g x σ H' fun σ2 H2 => tb { D with nx := N, ct := N, bk := D.nx } σ2 H2)
/-- the records at fp as they stand -/
def pinsAt (fp : List Addr) (h : Heap) : List (Addr × Obj) := fp.filterMap fun b => (h.get? b).map fun o => (b, o)
theorem mem_pinsAt {fp : List Addr} {h : Heap} {b : Addr} {o : Obj} (hb : b ∈ fp) (e : h.get? b = some o) : (b, o) ∈ pinsAt fp h := List.mem_filterMap.mpr ⟨b, hb, by rw [e]; rfl⟩
theorem of_pinsAt {fp : List Addr} {h : Heap} {p : Addr × Obj} (hp : p ∈ pinsAt fp h) : p.1 ∈ fp ∧ h.get? p.1 = some p.2 := by
  obtain ⟨b, hb, e⟩ := List.mem_filterMap.mp hp
  cases q : h.get? b with
  | none => rw [q] at e; cases e
  | some o =>
    rw [q] at e
    have e' : (b, o) = p := Option.some.inj e
    subst e'
    exact ⟨hb, q⟩
theorem Inv.pinned {pins : List (Addr × Obj)} {σ : St} {H : Hp} {s : Shared} {fp : List Addr} (I : Inv X pins σ H s) (hf : ∀ b ∈ fp, FpOk X pins H b) (ho : ∀ b ∈ fp, ∃ o, s.heap.get? b = some o ∧ ∀ v, o.data ≠ .cell v) : Inv X (pins ++ pinsAt fp s.heap) σ H s :=
  I.pins_of fun p hp => (List.mem_append.mp hp).elim (fun z => I.pin p (List.mem_append_right _ z)) fun z => by
    obtain ⟨hb, e⟩ := of_pinsAt z
    obtain ⟨f0, f1, f2, _⟩ := hf p.1 hb
    obtain ⟨o, e', d⟩ := ho p.1 hb
    rw [e] at e'; cases e'
    exact ⟨e, f0, f1, f2, d⟩
theorem Inv.unpinned {pins pl : List (Addr × Obj)} {σ : St} {H : Hp} {s : Shared} (I : Inv X (pins ++ pl) σ H s) : Inv X pins σ H s := I.pins_of fun p hp => I.pin p (List.mem_append_right _ (List.mem_append_left _ hp))
theorem ps_for {iter : Expr} {body : List Stmt} {wi : TI} {g : TG} {tb : TS} {pos : Pos} (hp : PassesOwn (model X.prog X.w) X.A X.env X.xe) (hc : X.calm = true) (hi : PI X tg iter wi) (hg : PG X tg g) (hb : PSs X body tb)
    (hs : ∀ x, foldedSetIterable iter X.env x = pure x := by intro _; rfl) : PS X (.For tg iter body [] pos) (tFor wi g tb) := by
  intro pins s σ H D I h
  refine wpAny_For (thn (hi pins s σ H _ I h) fun v s1 h1 => thn h1 fun itv s2 h2 => ?_) hs
  obtain ⟨it, fp, tn, J, H2, e, I2, T, st2, f2, W, ⟨m0, w0⟩, turn⟩ := h2
  subst e
  -- what stays true of the iterator's objects through the loop
  have stat : ∀ {H' : Hp}, (∀ b ∈ fp, H' b = none) → ∀ b ∈ fp, FpOk X pins H' b := fun hn b hb => ⟨hn b hb, (f2 b hb).2⟩
  refine codeAny_forLoop_any (fun n s' => ∃ i σ' H', Inv X pins σ' H' s' ∧ tn i s'.heap ∧ (∀ b ∈ fp, H' b = none) ∧ W i n σ' H') ?_ m0 ⟨0, σ, H2, I2, st2, fun b hb => (f2 b hb).1, w0⟩
  rintro n s3 ⟨i, σ3, H3, I3, st3, fr3, w3⟩
  rcases turn i n σ3 H3 w3 with ⟨stop, qn⟩ | ⟨go, N, hN, step⟩
  · refine wpAny_passesOwn hp (thn (T.done X rfl rfl rfl hc i pins s3 σ3 H3 X.xe I3 (stat fr3) st3 stop) fun r s4 ⟨hr, I4⟩ => ?_)
    subst hr
    exact wpAny_execs_nil ⟨σ3, H3, I4, qn⟩
  · refine wpAny_passesOwn hp (thn (T.item X rfl rfl rfl hc i pins s3 σ3 H3 X.xe I3 (stat fr3) st3 go) fun r s4 ⟨u, hr, h4⟩ => ?_)
    subst hr
    refine wpAny_passesOwn hp (thn h4 fun _ s5 ⟨x, H5, I5, r5, y5, st5, fr5⟩ => ?_)
    have I5' := I5.pinned (stat fr5) (T.obj _ _ st5)
    refine wpAny_passesOwn hp (thn (hg _ s5 σ3 H5 x u _ I5' r5 (step x H5 y5)) fun _ s6 ⟨σ6, H6, I6, q6⟩ => ?_)
    refine wpAny_passesOwn hp (thn (hb _ s6 σ6 H6 _ I6 q6) fun f s7 q7 => ?_)
    have again : ∀ {σ7 : St} {H7 : Hp}, Inv X (pins ++ pinsAt fp s5.heap) σ7 H7 s7 → N σ7 H7 → ∃ m, m < n ∧ ∃ i σ' H', Inv X pins σ' H' s7 ∧ tn i s7.heap ∧ (∀ b ∈ fp, H' b = none) ∧ W i m σ' H' := fun {σ7 H7} I7 n7 => by
      obtain ⟨m', hm, w7⟩ := hN σ7 H7 n7
      refine ⟨m', hm, i + 1, σ7, H7, I7.unpinned, T.keep _ _ _ st5 fun b hb o e => (I7.pin (b, o) (List.mem_append_right _ (List.mem_append_right _ (mem_pinsAt hb e)))).1, fun b hb => ?_, w7⟩
      obtain ⟨o, e, d⟩ := T.obj _ _ st5 b hb
      exact (I7.pin (b, o) (List.mem_append_right _ (List.mem_append_right _ (mem_pinsAt hb e)))).2.1
    cases f with
    | next => obtain ⟨σ7, H7, I7, n7⟩ := q7; exact again I7 n7
    | cont => obtain ⟨σ7, H7, I7, n7⟩ := q7; exact again I7 n7
    | brk => obtain ⟨σ7, H7, I7, q7⟩ := q7; exact ⟨σ7, H7, I7.unpinned, q7⟩
    | ret v => obtain ⟨x7, σ7, H7, I7, r7, q7⟩ := q7; exact ⟨x7, σ7, H7, I7.unpinned, r7, q7⟩
end

/-! ### the forms one uses -/
theorem for_range {lo : Int} {n : Nat} {g : TG} {tb : TS} {D : Ends} {σ : St} {H : Hp} (Pv : Nat → St → Hp → Prop) (h0 : Pv 0 σ H)
    (hs : ∀ i σ H, i < n → Pv i σ H → g (.int (lo + i)) σ H fun σ2 H2 => tb { D with nx := Pv (i + 1), ct := Pv (i + 1), bk := D.nx } σ2 H2) (hd : ∀ σ H, Pv n σ H → D.nx σ H) :
    ∃ W : Nat → Nat → St → Hp → Prop, (∃ m, W 0 m σ H) ∧ ∀ i m σ H, W i m σ H →
      ((Itr lo n).stop i H ∧ D.nx σ H) ∨ ((Itr lo n).go i H ∧ ∃ N : St → Hp → Prop, (∀ σ' H', N σ' H' → ∃ m', m' < m ∧ W (i + 1) m' σ' H') ∧ ∀ x H', (Itr lo n).yld i H x H' → g x σ H' fun σ2 H2 => tb { D with nx := N, ct := N, bk := D.nx } σ2 H2) := by
  refine ⟨fun i m σ H => m = n - i ∧ i ≤ n ∧ Pv i σ H, ⟨n, by simp, Nat.zero_le _, h0⟩, ?_⟩
  rintro i m σ H ⟨rfl, hi, p⟩
  by_cases hlt : i < n
  · refine .inr ⟨hlt, Pv (i + 1), fun σ' H' p' => ⟨n - (i + 1), by omega, rfl, hlt, p'⟩, fun x H' y => ?_⟩
    obtain ⟨e, y⟩ := y
    subst e y
    exact hs i σ _ hlt p
  · have e : i = n := by omega
    subst e
    exact .inl ⟨Nat.le_refl _, hd σ H p⟩
end L2

namespace L2
open PySem PySem.Spec PyProof.Rows

abbrev R2 := V → V → Hp → VK → Prop
/-- a two-place operation on values: f is binaryOp op, inplaceOp op or compareOp op -/
def OpR (X : Cx) (f : Value → Value → Sem Value) (r : R2) : Prop :=
  ∀ (pins : List (Addr × Obj)) (s : Shared) (σ : St) (H : Hp) (x y : V) (v u : Value) (Q : VK), Inv X pins σ H s → RelV x v → RelV y u → r x y H Q →
    wpAny (model X.prog X.w) X.A (f v u) (EP X pins σ Q) X.xe s
/-- a one-place operation -/
def UnR (X : Cx) (f : Value → Sem Value) (r : V → Hp → VK → Prop) : Prop :=
  ∀ (pins : List (Addr × Obj)) (s : Shared) (σ : St) (H : Hp) (x : V) (v : Value) (Q : VK), Inv X pins σ H s → RelV x v → r x H Q →
    wpAny (model X.prog X.w) X.A (f v) (EP X pins σ Q) X.xe s
/-- a call of a value that is known (a builtin, a type) with values -/
def CallR (X : Cx) (f : Value) (r : List V → Hp → VK → Prop) : Prop :=
  ∀ (pins : List (Addr × Obj)) (s : Shared) (σ : St) (H : Hp) (xs : List V) (us : List Value) (Q : VK), Inv X pins σ H s → Vals xs us → r xs H Q →
    wpAny (model X.prog X.w) X.A (call f us) (EP X pins σ Q) X.xe s
/-- a value's truth -/
def TruR (X : Cx) (r : V → Hp → (Bool → Hp → Prop) → Prop) : Prop :=
  ∀ (pins : List (Addr × Obj)) (s : Shared) (σ : St) (H : Hp) (x : V) (v : Value) (Q : Bool → Hp → Prop), Inv X pins σ H s → RelV x v → r x H Q →
    wpAny (model X.prog X.w) X.A (truthy v) (TP X pins σ Q) X.xe s

def tOp (r : R2) (ta tb : TE) : TE := fun σ H Q => ta σ H fun x H1 => tb σ H1 fun y H2 => r x y H2 Q
def tUn (r : V → Hp → VK → Prop) (ta : TE) : TE := fun σ H Q => ta σ H fun x H1 => r x H1 Q
/-- ints in, under C, and a value out -/
def rI (C : Int → Int → Prop) (g : Int → Int → V) : R2 := fun x y H Q => ∃ i j, x = .int i ∧ y = .int j ∧ C i j ∧ Q (g i j) H
def rI0 (g : Int → Int → V) : R2 := fun x y H Q => ∃ i j, x = .int i ∧ y = .int j ∧ Q (g i j) H
def rU (g : Int → V) : V → Hp → VK → Prop := fun x H Q => ∃ i, x = .int i ∧ Q (g i) H

section
variable {X : Cx} {a b c : Expr} {ta tb tc : TE} {pos : Pos}

theorem binT (ha : PE X a ta) (hb : PE X b tb) {pins : List (Addr × Obj)} {s : Shared} {σ : St} {H : Hp} {R : V → V → Hp → Prop} (I : Inv X pins σ H s)
    (h : ta σ H fun x H1 => tb σ H1 fun y H2 => R x y H2) {Q : Value → Shared → Prop} {f : Value → Value → Sem Value}
    (hf : ∀ v u s2 x y H2, Inv X pins σ H2 s2 → RelV x v → RelV y u → R x y H2 → wpAny (model X.prog X.w) X.A (f v u) Q X.xe s2) :
    wpAny (model X.prog X.w) X.A (eval a X.env) (fun v s₁ => wpAny (model X.prog X.w) X.A (eval b X.env) (fun u s₂ => wpAny (model X.prog X.w) X.A (f v u) Q X.xe s₂) X.xe s₁) X.xe s := by
  refine thn (ha pins s σ H _ I h) fun v s1 ⟨x, H1, I1, r1, q1⟩ => ?_
  refine thn (hb pins s1 σ H1 _ I1 q1) fun u s2 ⟨y, H2, I2, r2, q2⟩ => ?_
  exact hf v u s2 x y H2 I2 r1 r2 q2

theorem pe_op {op : Operator} {r : R2} (ho : OpR X (binaryOp op) r) (ha : PE X a ta) (hb : PE X b tb) : PE X (.BinOp a op b pos) (tOp r ta tb) := by
  intro pins s σ H Q I h
  exact wpAny_BinOp (binT ha hb I h fun v u s2 x y H2 I2 rx ry q => ho pins s2 σ H2 x y v u Q I2 rx ry q)
theorem pe_un {op : UnaryOp} {r : V → Hp → VK → Prop} (ho : UnR X (unaryOp op) r) (ha : PE X a ta) : PE X (.UnaryOp op a pos) (tUn r ta) := by
  intro pins s σ H Q I h
  exact UnaryOp_ (thn (ha pins s σ H _ I h) fun v s1 ⟨x, H1, I1, r1, q1⟩ => ho pins s1 σ H1 x v Q I1 r1 q1)
/-! ### ints -/
theorem opI {f : Value → Value → Sem Value} {C : Int → Int → Prop} {g : Int → Int → Int}
    (rule : ∀ (i j : Int) (t u : Tok) (s : Shared) (Q : Value → Shared → Prop) (E : Value → Shared → Prop), C i j → Q (.int (g i j) s.toks) { s with toks := s.toks + 1 } → wpAny (model X.prog X.w) X.A (f (.int i t) (.int j u)) Q E s) :
    OpR X f (rI C fun i j => .int (g i j)) := by
  intro pins s σ H x y v u Q I rx ry h
  obtain ⟨i, j, rfl, rfl, hc, q⟩ := h
  obtain ⟨t, rfl⟩ := rx
  obtain ⟨t', rfl⟩ := ry
  exact rule i j t t' s _ _ hc ⟨.int (g i j), H, I.tok _, ⟨_, rfl⟩, q⟩
theorem opI0 {f : Value → Value → Sem Value} {g : Int → Int → Int}
    (rule : ∀ (i j : Int) (t u : Tok) (s : Shared) (Q : Value → Shared → Prop) (E : Value → Shared → Prop), Q (.int (g i j) s.toks) { s with toks := s.toks + 1 } → wpAny (model X.prog X.w) X.A (f (.int i t) (.int j u)) Q E s) :
    OpR X f (rI0 fun i j => .int (g i j)) := by
  intro pins s σ H x y v u Q I rx ry h
  obtain ⟨i, j, rfl, rfl, q⟩ := h
  obtain ⟨t, rfl⟩ := rx
  obtain ⟨t', rfl⟩ := ry
  exact rule i j t t' s _ _ ⟨.int (g i j), H, I.tok _, ⟨_, rfl⟩, q⟩
theorem opB0 {f : Value → Value → Sem Value} {g : Int → Int → Bool}
    (rule : ∀ (i j : Int) (t u : Tok) (s : Shared) (Q : Value → Shared → Prop) (E : Value → Shared → Prop), Q (.bool (g i j)) s → wpAny (model X.prog X.w) X.A (f (.int i t) (.int j u)) Q E s) :
    OpR X f (rI0 fun i j => .bl (g i j)) := by
  intro pins s σ H x y v u Q I rx ry h
  obtain ⟨i, j, rfl, rfl, q⟩ := h
  obtain ⟨t, rfl⟩ := rx
  obtain ⟨t', rfl⟩ := ry
  exact rule i j t t' s _ _ ⟨.bl (g i j), H, I, rfl, q⟩

def CDiv (i j : Int) : Prop := 0 < j ∧ j < 1073741824
def CDivN (i j : Int) : Prop := j ≠ 0 ∧ j.natAbs < 1073741824
def CPow (i j : Int) : Prop := 0 ≤ j ∧ j ≤ 1000000 ∧ i.natAbs < 2 ^ 64
def CMul (i j : Int) : Prop := (-(2 ^ 64) < i ∧ i < 2 ^ 64) ∨ (-(2 ^ 64) < j ∧ j < 2 ^ 64)
theorem CMul.ok {i j : Int} (h : CMul i j) : IntMulOk i j := by
  rcases h with ⟨h1, h2⟩ | ⟨h1, h2⟩
  · exact .of_left (intBits_le_64 h1 h2)
  · exact .of_right (intBits_le_64 h1 h2)
theorem two_pow_nn (k : Nat) : (0 : Int) ≤ 2 ^ k := by
  rw [two_pow_cast]
  exact Int.natCast_nonneg _

theorem op_add : OpR X (binaryOp .Add) (rI0 fun i j => .int (i + j)) := opI0 fun _ _ _ _ _ _ _ q => add_int q
theorem op_sub : OpR X (binaryOp .Sub) (rI0 fun i j => .int (i - j)) := opI0 fun _ _ _ _ _ _ _ q => sub_int q
theorem op_mul : OpR X (binaryOp .Mult) (rI CMul fun i j => .int (i * j)) := opI fun _ _ _ _ _ _ _ hc q => mul_int q hc.ok
/-- // by a positive divisor -/
theorem op_fdiv : OpR X (binaryOp .FloorDiv) (rI CDiv fun i j => .int (i / j)) := opI fun i j _ _ _ _ _ hc q => by
  have h1 : (0 : Int) < j := hc.1
  have h2 : j < 1073741824 := hc.2
  exact floordiv_int (by omega) (by rw [Int.fdiv_eq_ediv_of_nonneg i (by omega)]; exact q) (.inl (PyProof.noPylong_small (by omega)))
/-- % by a positive divisor of any size -/
theorem op_mod : OpR X (binaryOp .Mod) (rI (fun _ j => 0 < j) fun i j => .int (i % j)) := opI fun i j _ _ _ _ _ hc q => by
  have h1 : (0 : Int) < j := hc
  exact mod_int' (by omega) (by rw [Int.fmod_eq_emod_of_nonneg i (by omega)]; exact q)
theorem op_pow : OpR X (binaryOp .Pow) (rI CPow fun i j => .int (i ^ j.toNat)) := opI fun _ _ _ _ _ _ _ hc q => pow_int_small hc.1 hc.2.1 hc.2.2 q
theorem op_shr : OpR X (binaryOp .RShift) (rI (fun _ j => 0 ≤ j) fun i j => .int (i / 2 ^ j.toNat)) := opI fun i j _ _ _ _ _ hc q =>
  rshift_int hc (by rw [Int.fdiv_eq_ediv_of_nonneg i (two_pow_nn _)]; exact q)
theorem op_and : OpR X (binaryOp .BitAnd) (rI0 fun i j => .int (Builtin.bitAnd i j)) := opI0 fun _ _ _ _ _ _ _ q => and_int q
theorem unI {f : Value → Sem Value} {g : Int → Int}
    (rule : ∀ (i : Int) (t : Tok) (s : Shared) (Q : Value → Shared → Prop) (E : Value → Shared → Prop), Q (.int (g i) s.toks) { s with toks := s.toks + 1 } → wpAny (model X.prog X.w) X.A (f (.int i t)) Q E s) :
    UnR X f (rU fun i => .int (g i)) := by
  intro pins s σ H x v Q I rx h
  obtain ⟨i, rfl, q⟩ := h
  obtain ⟨t, rfl⟩ := rx
  exact rule i t s _ _ ⟨.int (g i), H, I.tok _, ⟨_, rfl⟩, q⟩
theorem un_neg : UnR X (unaryOp .USub) (rU fun i => .int (-i)) := unI fun _ _ _ _ _ q => neg_int q
/-! ### bools among ints: n += (a < b) -/
end

/-! ### comparisons -/
/-- the scalars that == tells apart as data does -/
def scal : V → V → Bool
  | .non, .non => true | .non, .int _ => true | .int _, .non => true | .non, .bl _ => true | .bl _, .non => true | .non, .str _ => true | .str _, .non => true
  | .int _, .int _ => true | .bl _, .bl _ => true | .str _, .str _ => true | .byt _, .byt _ => true
  | .int _, .str _ => true | .str _, .int _ => true | .bl _, .str _ => true | .str _, .bl _ => true
  | _, _ => false
def rEq : R2 := fun x y H Q => scal x y = true ∧ Q (.bl (decide (x = y))) H
def rNe : R2 := fun x y H Q => scal x y = true ∧ Q (.bl (!decide (x = y))) H

theorem dec_int {i j : Int} : decide (V.int i = V.int j) = (i == j) := by
  rw [Bool.eq_iff_iff]
  simp
theorem dec_bl {i j : Bool} : decide (V.bl i = V.bl j) = (i == j) := by
  rw [Bool.eq_iff_iff]
  simp
theorem dec_str {i j : Str} : decide (V.str i = V.str j) = (i == j) := by
  rw [Bool.eq_iff_iff]
  simp
theorem dec_byt {i j : Array UInt8} : decide (V.byt i = V.byt j) = (i.toList == j.toList) := by
  rw [Bool.eq_iff_iff]
  cases i
  cases j
  simp

section
variable {X : Cx} {a b c : Expr} {ta tb tc : TE} {pos : Pos}
theorem fin_bl {pins : List (Addr × Obj)} {σ : St} {H : Hp} {s : Shared} {Q : VK} {k k' : Bool} (I : Inv X pins σ H s) (q : Q (.bl k) H) (e : k = k') : EP X pins σ Q (.bool k') s := by
  subst e
  exact ⟨.bl k, H, I, rfl, q⟩
theorem op_eq : OpR X (compareOp .Eq) rEq := by
  intro pins s σ H x y v u Q I rx ry h
  obtain ⟨hs, q⟩ := h
  cases x with
  | non =>
    cases rx
    cases y with
    | non => cases ry; exact PySem.EqNone.eq_none_none (fin_bl I q (by simp))
    | bl j => cases ry; exact PySem.EqNone.eq_none_bool (fin_bl I q (by simp))
    | int j => obtain ⟨t', rfl⟩ := ry; exact PySem.EqNone.eq_none_int (fin_bl I q (by simp))
    | str j => obtain ⟨t', rfl⟩ := ry; exact PySem.EqNone.eq_none_str (fin_bl I q (by simp))
    | _ => exact absurd (show false = true from hs) Bool.false_ne_true
  | bl i =>
    cases rx
    cases y with
    | non => cases ry; exact PySem.EqNone.eq_bool_none (fin_bl I q (by simp))
    | bl j => cases ry; exact eq_bool (fin_bl I q dec_bl)
    | str j => obtain ⟨t', rfl⟩ := ry; exact PySem.EqMixed.eq_bool_str (fin_bl I q (by simp))
    | _ => exact absurd (show false = true from hs) Bool.false_ne_true
  | int i =>
    obtain ⟨t, rfl⟩ := rx
    cases y with
    | non => cases ry; exact PySem.EqNone.eq_int_none (fin_bl I q (by simp))
    | int j => obtain ⟨t', rfl⟩ := ry; exact eq_int (fin_bl I q dec_int)
    | str j => obtain ⟨t', rfl⟩ := ry; exact PySem.EqMixed.eq_int_str (fin_bl I q (by simp))
    | _ => exact absurd (show false = true from hs) Bool.false_ne_true
  | str i =>
    obtain ⟨t, rfl⟩ := rx
    cases y with
    | non => cases ry; exact PySem.EqNone.eq_str_none (fin_bl I q (by simp))
    | bl j => cases ry; exact PySem.EqMixed.eq_str_bool (fin_bl I q (by simp))
    | int j => obtain ⟨t', rfl⟩ := ry; exact PySem.EqMixed.eq_str_int (fin_bl I q (by simp))
    | str j => obtain ⟨t', rfl⟩ := ry; exact eq_str (fin_bl I q dec_str)
    | _ => exact absurd (show false = true from hs) Bool.false_ne_true
  | byt i =>
    obtain ⟨t, rfl⟩ := rx
    cases y with
    | byt j => obtain ⟨t', rfl⟩ := ry; exact PySem.W.eq_bytes (fin_bl I q dec_byt)
    | _ => exact absurd (show false = true from hs) Bool.false_ne_true
  | _ => cases y <;> exact absurd (show false = true from hs) Bool.false_ne_true
theorem op_ne : OpR X (compareOp .NotEq) rNe := by
  intro pins s σ H x y v u Q I rx ry h
  obtain ⟨hs, q⟩ := h
  cases x with
  | non =>
    cases rx
    cases y with
    | non => cases ry; exact PySem.EqNone.ne_none_none (fin_bl I q (by simp))
    | bl j => cases ry; exact PySem.EqNone.ne_none_bool (fin_bl I q (by simp))
    | int j => obtain ⟨t', rfl⟩ := ry; exact PySem.EqNone.ne_none_int (fin_bl I q (by simp))
    | str j => obtain ⟨t', rfl⟩ := ry; exact PySem.EqNone.ne_none_str (fin_bl I q (by simp))
    | _ => exact absurd (show false = true from hs) Bool.false_ne_true
  | bl i =>
    cases rx
    cases y with
    | non => cases ry; exact PySem.EqNone.ne_bool_none (fin_bl I q (by simp))
    | bl j => cases ry; exact ne_bool (fin_bl I q (congrArg not dec_bl))
    | str j => obtain ⟨t', rfl⟩ := ry; exact PySem.EqMixed.ne_bool_str (fin_bl I q (by simp))
    | _ => exact absurd (show false = true from hs) Bool.false_ne_true
  | int i =>
    obtain ⟨t, rfl⟩ := rx
    cases y with
    | non => cases ry; exact PySem.EqNone.ne_int_none (fin_bl I q (by simp))
    | int j => obtain ⟨t', rfl⟩ := ry; exact ne_int (fin_bl I q (congrArg not dec_int))
    | str j => obtain ⟨t', rfl⟩ := ry; exact PySem.EqMixed.ne_int_str (fin_bl I q (by simp))
    | _ => exact absurd (show false = true from hs) Bool.false_ne_true
  | str i =>
    obtain ⟨t, rfl⟩ := rx
    cases y with
    | non => cases ry; exact PySem.EqNone.ne_str_none (fin_bl I q (by simp))
    | bl j => cases ry; exact PySem.EqMixed.ne_str_bool (fin_bl I q (by simp))
    | int j => obtain ⟨t', rfl⟩ := ry; exact PySem.EqMixed.ne_str_int (fin_bl I q (by simp))
    | str j => obtain ⟨t', rfl⟩ := ry; exact ne_str (fin_bl I q (congrArg not dec_str))
    | _ => exact absurd (show false = true from hs) Bool.false_ne_true
  | byt i =>
    obtain ⟨t, rfl⟩ := rx
    cases y with
    | byt j => obtain ⟨t', rfl⟩ := ry; exact PySem.W.ne_bytes (fin_bl I q (congrArg not dec_byt))
    | _ => exact absurd (show false = true from hs) Bool.false_ne_true
  | _ => cases y <;> exact absurd (show false = true from hs) Bool.false_ne_true

theorem op_lt : OpR X (compareOp .Lt) (rI0 fun i j => .bl (decide (i < j))) := opB0 fun _ _ _ _ _ _ _ q => lt_int q
theorem op_le : OpR X (compareOp .LtE) (rI0 fun i j => .bl (decide (i ≤ j))) := opB0 fun _ _ _ _ _ _ _ q => le_int q
theorem op_gt : OpR X (compareOp .Gt) (rI0 fun i j => .bl (decide (j < i))) := opB0 fun _ _ _ _ _ _ _ q => gt_int q
theorem op_ge : OpR X (compareOp .GtE) (rI0 fun i j => .bl (decide (j ≤ i))) := opB0 fun _ _ _ _ _ _ _ q => ge_int q
/-- is None, is not None: the right side a value none -/
theorem op_isN : OpR X (compareOp .Is) (fun x y H Q => y = .non ∧ Q (.bl (decide (x = .non))) H) := by
  intro pins s σ H x y v u Q I rx ry h
  obtain ⟨rfl, q⟩ := h
  cases ry
  refine is_none_gen (fin_bl I q ?_)
  cases x <;> first
    | (cases rx; rfl)
    | (obtain ⟨t, rfl⟩ := rx; rfl)
/-- is, is not of two objects that are tracked lists or instances -/
def isObj : HO → Bool
  | .lst _ => true
  | .ins _ _ _ => true
  | _ => false
theorem nomark (b : Expr) {op : CmpOp} (h : op ≠ .In := by decide) (h2 : op ≠ .NotIn := by decide) : behindInMarks op b = false := by
  have e1 : (op == CmpOp.In) = false := by cases op <;> first | rfl | exact absurd rfl h
  have e2 : (op == CmpOp.NotIn) = false := by cases op <;> first | rfl | exact absurd rfl h2
  cases b <;> simp [behindInMarks, e1, e2]
/-- a comparison as a value; hm: nomark b, or (for in, not in) by with_unfolding_all rfl -/
theorem pe_cmpR {op : CmpOp} {r : R2} (ho : OpR X (compareOp op) r) (ha : PE X a ta) (hb : PE X b tb) (hm : behindInMarks op b = false) : PE X (.Compare a [op] [b] pos) (tOp r ta tb) := by
  intro pins s σ H Q I h
  exact wpAny_Compare1 (binT ha hb I h fun v u s2 x y H2 I2 rx ry q => ho pins s2 σ H2 x y v u Q I2 rx ry q) hm
/-- a reading of a value as a test -/
def tTest (t : TE) : TT := fun σ H Q => t σ H fun x H' => ∃ k, x = .bl k ∧ Q k H'
theorem pt_cmpR {op : CmpOp} {r : R2} (ho : OpR X (compareOp op) r) (ha : PE X a ta) (hb : PE X b tb) (hm : behindInMarks op b = false) : PT X (.Compare a [op] [b] pos) (tTest (tOp r ta tb)) := by
  intro pins s σ H Q I h
  refine wpAny_isTrue_Compare1 (thn (ha pins s σ H _ I h) fun v s1 ⟨x, H1, I1, r1, q1⟩ => thn (hb pins s1 σ H1 _ I1 q1) fun u s2 ⟨y, H2, I2, r2, q2⟩ =>
    thn (ho pins s2 σ H2 x y v u _ I2 r1 r2 q2) fun c s3 ⟨z, H3, I3, r3, k, e, q3⟩ => ?_) hm
  subst e
  cases r3
  exact wpAny_truthy_bool ⟨H3, I3, q3⟩
/-- a op1 b op2 c -/
def tChain (r r' : R2) (ta tb tc : TE) : TE := fun σ H Q => ta σ H fun x H1 => tb σ H1 fun y H2 => r x y H2 fun z H3 => ∃ k, z = .bl k ∧
  (if k = true then tc σ H3 fun w' H4 => r' y w' H4 Q else Q (.bl false) H3)
theorem pe_chain {op op' : CmpOp} {r r' : R2} (ho : OpR X (compareOp op) r) (ho' : OpR X (compareOp op') r') (ha : PE X a ta) (hb : PE X b tb) (hc : PE X c tc)
    (hm : lastMarks [op, op'] [b, c] = false := by with_unfolding_all rfl) : PE X (.Compare a [op, op'] [b, c] pos) (tChain r r' ta tb tc) := by
  intro pins s σ H Q I h
  refine Compare_chain (thn (ha pins s σ H _ I h) fun v s1 ⟨x, H1, I1, r1, q1⟩ => chain_link (thn (hb pins s1 σ H1 _ I1 q1) fun u s2 ⟨y, H2, I2, r2, q2⟩ =>
    thn (ho pins s2 σ H2 x y v u _ I2 r1 r2 q2) fun d s3 ⟨z, H3, I3, r3, k, e, q3⟩ => ?_)) hm
  subst e
  cases r3
  refine wpAny_truthy_bool ?_
  cases k with
  | false => exact ite_ff ⟨.bl false, H3, I3, rfl, q3⟩
  | true => exact ite_tt (chain_last (thn (hc pins s3 σ H3 _ I3 q3) fun w' s4 ⟨z', H4, I4, r4, q4⟩ => ho' pins s4 σ H4 y z' u w' Q I4 r2 r4 q4))
theorem pt_chain {op op' : CmpOp} {r r' : R2} (ho : OpR X (compareOp op) r) (ho' : OpR X (compareOp op') r') (ha : PE X a ta) (hb : PE X b tb) (hc : PE X c tc)
    (hm : lastMarks [op, op'] [b, c] = false := by with_unfolding_all rfl) : PT X (.Compare a [op, op'] [b, c] pos) (tTest (tChain r r' ta tb tc)) := by
  intro pins s σ H Q I h
  refine isTrue_chain (thn (ha pins s σ H _ I h) fun v s1 ⟨x, H1, I1, r1, q1⟩ => test_link (thn (hb pins s1 σ H1 _ I1 q1) fun u s2 ⟨y, H2, I2, r2, q2⟩ =>
    thn (ho pins s2 σ H2 x y v u _ I2 r1 r2 q2) fun d s3 ⟨z, H3, I3, r3, k, e, q3⟩ => ?_)) hm
  subst e
  cases r3
  refine wpAny_truthy_bool ?_
  cases k with
  | false =>
    obtain ⟨k', e', q'⟩ := q3
    cases e'
    exact ite_ff ⟨H3, I3, q'⟩
  | true =>
    refine ite_tt (test_last (thn (hc pins s3 σ H3 _ I3 q3) fun w' s4 ⟨z', H4, I4, r4, q4⟩ => thn (ho' pins s4 σ H4 y z' u w' _ I4 r2 r4 q4) fun d' s5 ⟨z2, H5, I5, r5, k2, e2, q5⟩ => ?_))
    subst e2
    cases r5
    exact wpAny_truthy_bool ⟨H5, I5, q5⟩

/-! ### truth -/
/-- a value's truth by the abstract heap -/
def TruV (K : PySem.W.Frag) (x : V) (H : Hp) (k : Bool) : Prop :=
  match x with
  | .non => k = false
  | .bl b => k = b
  | .int i => k = (i != 0)
  | .str y => y.length ≤ sizeLine ∧ k = ((y.length : Int) != 0)
  | .byt y => y.size ≤ sizeLine ∧ k = ((y.size : Int) != 0)
  | .ref p => (∃ xs, SqL K H p xs ∧ k = !xs.isEmpty) ∨ (∃ xs, SqT K H p xs ∧ k = !xs.isEmpty) ∨ ∃ kvs, H p = some (.dK kvs) ∧ k = !kvs.isEmpty
  | _ => False
theorem line63 : (sizeLine : Nat) < 2 ^ 63 := by rw [sizeLine_eq]; decide
/-! ### strs and bytes -/
def PlainIxT (b : Expr) : Prop := ∀ o i, subscripted b false o i = operate [o, i] (getItem o i)
/-! ### scalar builtins, by CallR -/
theorem vals1 {x : V} {us : List Value} (r : Vals [x] us) : ∃ u, us = [u] ∧ RelV x u := by
  cases r with
  | cons r1 r2 => cases r2; exact ⟨_, rfl, r1⟩
theorem vals2 {x y : V} {us : List Value} (r : Vals [x, y] us) : ∃ u w', us = [u, w'] ∧ RelV x u ∧ RelV y w' := by
  cases r with
  | cons r1 r2 =>
    cases r2 with
    | cons r3 r4 => cases r4; exact ⟨_, _, rfl, r1, r3⟩
theorem call_abs : CallR X (.builtin "abs") (fun xs H Q => ∃ i, xs = [.int i] ∧ Q (.int (if i < 0 then -i else i)) H) := by
  intro pins s σ H xs us Q I r h
  obtain ⟨i, rfl, q⟩ := h
  obtain ⟨u, rfl, t, rfl⟩ := vals1 r
  exact call_abs_int fun u tk => ⟨.int (if i < 0 then -i else i), H, I.tok _, ⟨_, rfl⟩, q⟩
theorem call_max2 (hc : X.calm = true) : CallR X (.builtin "max") (fun xs H Q => ∃ i j, xs = [.int i, .int j] ∧ Q (.int (if j > i then j else i)) H) := by
  intro pins s σ H xs us Q I r h
  obtain ⟨i, j, rfl, q⟩ := h
  obtain ⟨u, w', rfl, ⟨t, rfl⟩, ⟨t', rfl⟩⟩ := vals2 r
  refine max_two_ints (I.ok.hd hc) fun h' tk k => ⟨_, H, I.kept k, ?_, q⟩
  by_cases hj : j > i
  · rw [if_pos hj, if_pos hj]; exact ⟨_, rfl⟩
  · rw [if_neg hj, if_neg hj]; exact ⟨_, rfl⟩
theorem call_min2 (hc : X.calm = true) : CallR X (.builtin "min") (fun xs H Q => ∃ i j, xs = [.int i, .int j] ∧ Q (.int (if j < i then j else i)) H) := by
  intro pins s σ H xs us Q I r h
  obtain ⟨i, j, rfl, q⟩ := h
  obtain ⟨u, w', rfl, ⟨t, rfl⟩, ⟨t', rfl⟩⟩ := vals2 r
  refine min_two_ints (I.ok.hd hc) fun h' tk k => ⟨_, H, I.kept k, ?_, q⟩
  by_cases hj : j < i
  · rw [if_pos hj, if_pos hj]; exact ⟨_, rfl⟩
  · rw [if_neg hj, if_neg hj]; exact ⟨_, rfl⟩
/-- len of a str, a bytes, a list, a tuple -/
def LenV (K : PySem.W.Frag) (x : V) (H : Hp) (n : Nat) : Prop :=
  match x with
  | .str y => y.length ≤ sizeLine ∧ n = y.length
  | .byt y => y.size ≤ sizeLine ∧ n = y.size
  | .ref p => (∃ xs, SqL K H p xs ∧ n = xs.length) ∨ ∃ xs, SqT K H p xs ∧ n = xs.length
  | _ => False
theorem call_len : CallR X (.builtin "len") (fun xs H Q => ∃ x n, xs = [x] ∧ LenV X.K x H n ∧ Q (.int n) H) := by
  intro pins s σ H xs us Q I r h
  obtain ⟨x, n, rfl, e, q⟩ := h
  obtain ⟨u, rfl, rx⟩ := vals1 r
  have hl := line63
  have hs : sizeLine = 16777216 := sizeLine_eq
  cases x with
  | str y =>
    obtain ⟨t, rfl⟩ := rx
    obtain ⟨hy, e'⟩ : y.length ≤ sizeLine ∧ n = y.length := e
    subst e'
    exact len_str (by omega) ⟨.int _, H, I.tok _, ⟨_, rfl⟩, q⟩
  | byt y =>
    obtain ⟨t, rfl⟩ := rx
    obtain ⟨hy, e'⟩ : y.size ≤ sizeLine ∧ n = y.size := e
    subst e'
    exact PySem.W.len_bytes (by omega) ⟨.int _, H, I.tok _, ⟨_, rfl⟩, q⟩
  | ref p =>
    cases rx
    have e' : (∃ xs, SqL X.K H p xs ∧ n = xs.length) ∨ ∃ xs, SqT X.K H p xs ∧ n = xs.length := e
    rcases e' with ⟨xs, hx, e'⟩ | ⟨xs, hx, e'⟩
    · subst e'
      obtain ⟨its, r', pl, hz⟩ := I.list hx
      have hlen := r'.length
      exact Calls.call_len_list pl.isList (by simp only [List.size_toArray]; omega) ⟨.int xs.length, H, I.tok _, ⟨_, by simp only [List.size_toArray]; rw [hlen]⟩, q⟩
    · subst e'
      obtain ⟨its, r', pl, hz⟩ := I.tuple hx
      have hlen := r'.length
      exact len_tuple pl (by simp only [List.size_toArray]; omega) ⟨.int xs.length, H, I.tok _, ⟨_, by simp only [List.size_toArray]; rw [hlen]⟩, q⟩
  | _ => exact (show False from e).elim
end
end L2

namespace L2
open PySem PySem.Spec PyProof.Rows

/-! ### an instance, its attributes a map -/
structure ObjM (h : Heap) (x dx C : Addr) (mA : Str → Option Value) : Prop where
  obj : h.get? x = some (PySem.W.instObj C dx)
  ns : h.Ns1 dx mA
  ne : dx ≠ x

theorem lookIn_ns {h : Heap} {dx : Addr} {mA : Str → Option Value} (n : h.Ns1 dx mA) : ∃ od, h.get? dx = some od ∧ ∀ name, PySem.W.lookIn name od = some (mA name) := by
  obtain ⟨o, es, ep, ho, hd, hk, _, hm⟩ := n
  refine ⟨o, ho, fun name => ?_⟩
  have e := hm name
  unfold nsFind findBy at e
  rw [← Array.find?_toList] at e
  unfold PySem.W.lookIn
  rw [hd]
  dsimp only
  split
  · rename_i y q
    rw [q] at e
    exact congrArg some e
  · rename_i q
    rw [q] at e
    have a : es.toList.any (·.refKey) = false := by
      rw [List.any_eq_false]
      intro y hy
      obtain ⟨z, t, hkey⟩ := hk y (Array.mem_toList_iff.mp hy)
      simp [DictEntry.refKey, hkey]
    have a' : ¬ es.toList.any (·.refKey) = true := by rw [a]; exact Bool.false_ne_true
    rw [if_neg a']
    exact congrArg some e

theorem ObjM.look {h : Heap} {x dx C : Addr} {mA : Str → Option Value} (I : ObjM h x dx C mA) : ∃ od, PySem.W.InstAt h x (PySem.W.instObj C dx) C (some od) ∧ ∀ name, PySem.W.lookIn name od = some (mA name) :=
  let ⟨od, ho, hl⟩ := lookIn_ns I.ns
  ⟨od, ⟨I.obj, rfl, rfl, ho⟩, hl⟩

section
variable {prog : Program} {w : World} {A : Around} {E : Value → Shared → Prop} {s : Shared} {K : PySem.W.Frag} {x dx C f : Addr} {mA : Str → Option Value} {name : Str} {v : Value}

theorem get_map {expr : Bool} {Q : Value → Shared → Prop} (X : K.In s.heap) (I : ObjM s.heap x dx C mA) (hg : PySem.W.plainGet K C name = true) (hh : PySem.W.hasDictIn K C = true)
    (ha : PySem.W.findIn K (.ref C) name = some none) (hv : mA name = some v) (hv' : PySem.W.handedIn v = true) (h : Q v { s with toks := s.toks + 1 }) :
    wpAny (model prog w) A (getAttr (.ref x) name expr) Q E s := by
  obtain ⟨od, J, hl⟩ := I.look
  exact PySem.W.get_value X J (PySem.W.plainGet_of hg).1 (PySem.W.findObj_own hh ha rfl (by rw [hl, hv])) hv' h

theorem get_meth {pl : Sem Bool} {Q : Value × List Value → Shared → Prop} (X : K.In s.heap) (I : ObjM s.heap x dx C mA) (hg : PySem.W.plainGet K C name = true)
    (hf : PySem.W.findIn K (.ref C) name = some (some (.ref f))) (ht : PySem.W.isFn K (.ref f) = true) (hv : mA name = none) (h : Q (.ref f, [.ref x]) s) :
    wpAny (model prog w) A (getMethod (.ref x) name pl) Q E s := by
  obtain ⟨od, J, hl⟩ := I.look
  exact PySem.W.method_fn X J (PySem.W.plainGet_of hg).1 (PySem.W.plainGet_of hg).2 hf (beq_iff_eq.mp ht) (by show (PySem.W.lookIn name od).map (·.isSome) = some false; rw [hl, hv]; rfl) h

theorem set_map {ns : List Str} {Q : Unit → Shared → Prop} (X : K.In s.heap) (I : ObjM s.heap x dx C mA)
    (hs : PySem.W.findIn K (.ref C) "__setattr__" = some (some (.builtin "object.__setattr__"))) (hp : PySem.W.plainOver K C = true) (ht : PySem.W.takerIn K C name = some none) (hh : PySem.W.hasDictIn K C = true)
    (hw : PySem.Within mA ns) (hsz : ns.length ≤ sizeLine)
    (h : ∀ h', ObjM h' x dx C (fun y => if y = name then some v else mA y) → Heap.SameBut dx s.heap h' → Q () { s with heap := h', toks := s.toks + 2 }) :
    wpAny (model prog w) A (setAttr (.ref x) name v) Q E s := by
  obtain ⟨od, J, hl⟩ := I.look
  refine PySem.W.set_plain X J hs (PySem.W.osa_open (s := { s with toks := s.toks + 1 }) (r := none) X J hp ht fun b => ?_)
  obtain ⟨cd, hc, hd'⟩ := PySem.W.any_some hh
  have hx : s.heap.get? x = some ⟨.ref C, some dx, .plain, #[]⟩ := I.obj
  refine wpAny_bind (wpAny_pure (wpAny_bind (wpAny_bind (wpAny_loadPart hx (wpAny_bind (PySem.W.Looks.here (s := { s with toks := s.toks + 1 }) (PySem.W.looks_clsIn X hc) ?_))))))
  rw [hd']
  refine wpAny_pure (a := some dx) (wpAny_bind (wpAny_pure (wpAny_bind ?_)))
  refine wpAny_nsSet1 (s := { s with toks := s.toks + 1 }) I.ns fun h' hn2 hs2 => ?_
  obtain ⟨oD, esD, epD, hoD, hdD, hcD⟩ := hn2.count (PySem.Within.cons name v hw)
  refine wpAny_bind (wpAny_lookBehind hoD (by rw [hdD]; exact pastItsLine_dict (Nat.le_trans hcD (by rw [List.length_cons]; omega))) ?_)
  exact wpAny_pure (h _ ⟨(hs2.2 _ (Ne.symm I.ne)).trans I.obj, hn2, I.ne⟩ hs2)

/-- C(..): the dict at the heap's end, the instance behind it; then its __init__ -/
theorem make_map {R : Result → Shared → Prop} {vs : List Value} {kw : List (Str × Value)} (X : K.In s.heap) (hm : PySem.W.makesIn K C = true)
    (hi : PySem.W.findIn K (.ref C) "__init__" = some (some (.ref f))) (hf : PySem.W.typeIn K (.ref f) = some (.type "function"))
    (h : codeAny (model prog w) (A.under (.builtin "type.__call__" ⟨.ref C :: vs, kw⟩)) (.call (.ref f) ⟨.ref (s.heap.objs.size + 1) :: vs, kw⟩) (PySem.W.InitBack (s.heap.objs.size + 1) R)
      { s with heap := (s.heap.push PySem.W.emptyDict).push (PySem.W.instObj C s.heap.objs.size) }) :
    codeAny (model prog w) A (.call (.ref C) ⟨vs, kw⟩) R s := by
  obtain ⟨hh, g, d, t, os⟩ := s
  exact PySem.W.make_core (PySem.W.makes_of X hm) (PySem.W.looks_findIn X hi) (fun self => PySem.W.bind_fn X self hf) (.inl rfl) h
end

/-! ### the attributes as a list of pairs -/
def putF (f : Str) (v : V) : List (Str × V) → List (Str × V)
  | [] => [(f, v)]
  | (g, x) :: r => if g = f then (g, v) :: r else (g, x) :: putF f v r
theorem lookup_putF (f g : Str) (v : V) : ∀ fs : List (Str × V), (putF f v fs).lookup g = if g = f then some v else fs.lookup g
  | [] => by
    show List.lookup g [(f, v)] = _
    by_cases h : g = f
    · have hb : (g == f) = true := beq_iff_eq.mpr h
      simp only [List.lookup, hb, if_pos h]
    · have hb : (g == f) = false := beq_eq_false_iff_ne.mpr h
      simp only [List.lookup, hb, if_neg h]
  | (k, x) :: r => by
    have ih := lookup_putF f g v r
    rw [show putF f v ((k, x) :: r) = (if k = f then (k, v) :: r else (k, x) :: putF f v r) from rfl]
    by_cases hk : k = f
    · rw [if_pos hk]
      by_cases h : g = k
      · have hb : (g == k) = true := beq_iff_eq.mpr h
        simp only [List.lookup, hb, if_pos (h.trans hk)]
      · have hb : (g == k) = false := beq_eq_false_iff_ne.mpr h
        simp only [List.lookup, hb, if_neg (fun e : g = f => h (e.trans hk.symm))]
    · rw [if_neg hk]
      by_cases h : g = k
      · have hb : (g == k) = true := beq_iff_eq.mpr h
        simp only [List.lookup, hb, if_neg (fun e : g = f => hk (h.symm.trans e))]
      · have hb : (g == k) = false := beq_eq_false_iff_ne.mpr h
        simp only [List.lookup, hb]
        exact ih
theorem keys_putF (f : Str) (v : V) : ∀ fs : List (Str × V), f ∈ (putF f v fs).map (·.1) ∧ ∀ g, g ∈ fs.map (·.1) → g ∈ (putF f v fs).map (·.1)
  | [] => ⟨by simp [putF], fun g h => by simp at h⟩
  | (k, x) :: r => by
    obtain ⟨i1, i2⟩ := keys_putF f v r
    rw [show putF f v ((k, x) :: r) = (if k = f then (k, v) :: r else (k, x) :: putF f v r) from rfl]
    by_cases hk : k = f
    · rw [if_pos hk]
      subst hk
      exact ⟨by simp, fun g h => by simpa using h⟩
    · rw [if_neg hk]
      refine ⟨?_, fun g h => ?_⟩
      · rw [List.map_cons]
        exact List.mem_cons_of_mem _ i1
      · rw [List.map_cons] at h ⊢
        rcases List.mem_cons.mp h with e | e
        · exact List.mem_cons.mpr (.inl e)
        · exact List.mem_cons_of_mem _ (i2 g e)
theorem length_putF (f : Str) (v : V) : ∀ fs : List (Str × V), (putF f v fs).length ≤ fs.length + 1
  | [] => by simp [putF]
  | (k, x) :: r => by
    have ih := length_putF f v r
    rw [show putF f v ((k, x) :: r) = (if k = f then (k, v) :: r else (k, x) :: putF f v r) from rfl]
    by_cases hk : k = f
    · rw [if_pos hk, List.length_cons, List.length_cons]; omega
    · rw [if_neg hk, List.length_cons, List.length_cons]; omega

theorem RelO.some_of {v : V} {o : Option Value} (r : RelO (some v) o) : ∃ u, o = some u ∧ RelV v u := by
  cases o with
  | none => exact (show False from r).elim
  | some u => exact ⟨u, rfl, r⟩
theorem RelO.none_of {o : Option Value} (r : RelO none o) : o = none := by
  cases o with
  | none => rfl
  | some u => exact (show False from r).elim
theorem handed_of {v : V} {u : Value} (r : RelV v u) : PySem.W.handedIn u = true := by
  cases v with
  | non => cases (show u = Value.none from r); rfl
  | bl b => cases (show u = Value.bool b from r); rfl
  | int i => obtain ⟨t, e⟩ := (show ∃ t, u = Value.int i t from r); cases e; rfl
  | str x => obtain ⟨t, e⟩ := (show ∃ t, u = Value.str x t from r); cases e; rfl
  | byt b => obtain ⟨t, e⟩ := (show ∃ t, u = Value.bytes b t from r); cases e; rfl
  | flt b => obtain ⟨t, e⟩ := (show ∃ t, u = Value.float b t from r); cases e; rfl
  | ref a => cases (show u = Value.ref a from r); rfl
  | ty n => cases (show u = Value.type n from r); rfl

section
variable {P : Program} {w : World} {H H' : Hp} {h h' : Heap} {a C dx : Addr} {fs fs' : List (Str × V)}
theorem ins_get (hok : HOk P w H h) (e : H a = some (.ins C dx fs)) : ∃ mA, ObjM h a dx C mA ∧ (∀ f, RelO (fs.lookup f) (mA f)) ∧ PySem.Within mA (fs.map (·.1)) ∧ fs.length ≤ 1000 ∧ H dx = some (.own a) := by
  obtain ⟨d, z, ne, ob, mA, n, r, q⟩ := (show ObjOk P w H h a (.ins C dx fs) from hok a _ e)
  exact ⟨mA, ⟨ob, n, ne⟩, r, q, z, d⟩
end

/-! ### what of the text a class must have -/
structure Cls (K : PySem.W.Frag) (C : Addr) : Prop where
  pg : PySem.W.plainGet K C Str.empty = true
  hd : PySem.W.hasDictIn K C = true
  po : PySem.W.plainOver K C = true
  sa : PySem.W.findIn K (.ref C) "__setattr__" = some (some (.builtin "object.__setattr__"))
theorem Cls.get {K : PySem.W.Frag} {C : Addr} (c : Cls K C) (f : Str) : PySem.W.plainGet K C f = true := c.pg
/-- no class of it has the name -/
def NoAttr (K : PySem.W.Frag) (C : Addr) (f : Str) : Prop := PySem.W.findIn K (.ref C) f = some none
theorem NoAttr.taker {K : PySem.W.Frag} {C : Addr} {f : Str} (n : NoAttr K C f) : PySem.W.takerIn K C f = some none := by
  unfold PySem.W.takerIn
  rw [show PySem.W.findIn K (.ref C) f = some none from n]
  rfl
/-- a constant of the class -/
structure Con (K : PySem.W.Frag) (C : Addr) (f : Str) (v : V) (u : Value) : Prop where
  at_ : PySem.W.findIn K (.ref C) f = some (some u)
  rel : RelV v u
  get : PySem.W.specialIn K u "__get__" = some none
  cp : PySem.W.copiedNames.contains f = false
/-- a method: a plain def of the class or of one above it -/
structure Meth (K : PySem.W.Frag) (C : Addr) (m : Str) (f : Addr) : Prop where
  at_ : PySem.W.findIn K (.ref C) m = some (some (.ref f))
  fn : PySem.W.isFn K (.ref f) = true
  kp : PySem.W.keepIn K (.ref f) = true

section
variable {X : Cx} {pins : List (Addr × Obj)} {σ : St} {H : Hp} {s : Shared} {a C dx : Addr} {fs : List (Str × V)} {f : Str} {v : V} {A : Around} {E : Value → Shared → Prop}

theorem getattr_ok {b : Bool} {Q : Value → Shared → Prop} (I : Inv X pins σ H s) (e : H a = some (.ins C dx fs)) (c : Cls X.K C) (n : NoAttr X.K C f) (l : fs.lookup f = some v)
    (h : ∀ u s', Inv X pins σ H s' → RelV v u → Q u s') : wpAny (model X.prog X.w) A (getAttr (.ref a) f b) Q E s := by
  obtain ⟨mA, O, r, _, _, _⟩ := ins_get I.hok e
  obtain ⟨u, hu, ru⟩ := RelO.some_of (v := v) (o := mA f) (by rw [← l]; exact r f)
  exact get_map I.kIn O (c.get f) c.hd n hu (handed_of ru) (h u _ (I.tok _) ru)

theorem getmeth_ok {m : Str} {g : Addr} {pl : Sem Bool} {Q : Value × List Value → Shared → Prop} (I : Inv X pins σ H s) (e : H a = some (.ins C dx fs)) (c : Cls X.K C) (k : Meth X.K C m g) (l : fs.lookup m = none)
    (h : Q (.ref g, [.ref a]) s) : wpAny (model X.prog X.w) A (getMethod (.ref a) m pl) Q E s := by
  obtain ⟨mA, O, r, _, _, _⟩ := ins_get I.hok e
  have hn : mA m = none := RelO.none_of (by rw [← l]; exact r m)
  exact get_meth I.kIn O (c.get m) k.at_ k.fn hn h

theorem setattr_ok {y : V} {u : Value} {Q : Unit → Shared → Prop} (I : Inv X pins σ H s) (e : H a = some (.ins C dx fs)) (c : Cls X.K C) (n : NoAttr X.K C f) (hl : fs.length < 1000) (ry : RelV y u)
    (h : ∀ s', Inv X pins σ (upd H a (.ins C dx (putF f y fs))) s' → Q () s') : wpAny (model X.prog X.w) A (setAttr (.ref a) f u) Q E s := by
  obtain ⟨mA, O, r, wi, _, ho⟩ := ins_get I.hok e
  have hz : (fs.map (·.1)).length ≤ sizeLine := by rw [List.length_map, sizeLine_eq]; omega
  refine set_map I.kIn O c.sa c.po n.taker c.hd wi hz fun h' O' sb => h _ ?_
  have hd : ∃ o, h'.get? dx = some o := let ⟨o, _, _, e', _⟩ := O'.ns; ⟨o, e'⟩
  refine I.write (x := a) (e := dx) (by rw [e]; exact True.intro) (.inr ho) (fun b q hb z => (sb.2 b hb).trans z) hd ?_
  refine ⟨by rw [upd_ne O.ne]; exact ho, ?_, O.ne, O'.obj, _, O'.ns, fun g => ?_, fun g hg => ?_⟩
  · have := length_putF f y fs; omega
  · show RelO ((putF f y fs).lookup g) (if g = f then some u else mA g)
    rw [lookup_putF]
    by_cases q : g = f
    · rw [if_pos q, if_pos q]; exact ry
    · rw [if_neg q, if_neg q]; exact r g
  · by_cases q : g = f
    · rw [q]; exact (keys_putF f y fs).1
    · refine (keys_putF f y fs).2 g (wi g fun z => hg ?_)
      show (if g = f then some u else mA g) = none
      rw [if_neg q]; exact z

/-- a new instance, tracked, without attributes -/
theorem Inv.made (I : Inv X pins σ H s) : Inv X pins σ (upd (upd H s.heap.objs.size (.own (s.heap.objs.size + 1))) (s.heap.objs.size + 1) (.ins C s.heap.objs.size []))
    { s with heap := (s.heap.push PySem.W.emptyDict).push (PySem.W.instObj C s.heap.objs.size) } := by
  have e1 : (s.heap.push PySem.W.emptyDict).get? s.heap.objs.size = some PySem.W.emptyDict := Heap.get?_push_size s.heap rfl
  have e2 : ((s.heap.push PySem.W.emptyDict).push (PySem.W.instObj C s.heap.objs.size)).get? (s.heap.objs.size + 1) = some (PySem.W.instObj C s.heap.objs.size) := by
    have := Heap.get?_push_size (s.heap.push PySem.W.emptyDict) (o := PySem.W.instObj C s.heap.objs.size) rfl
    rwa [Heap.size_push] at this
  have e3 : (s.heap.push PySem.W.emptyDict).Ns s.heap.objs.size (fun _ => none) := ⟨PySem.W.emptyDict, #[], _, e1, rfl, (fun e he => absurd he (by simp)), fun _ => rfl⟩
  have I1 := I.laid (a := s.heap.objs.size) (o := .own (s.heap.objs.size + 1)) (h' := s.heap.push PySem.W.emptyDict) (t' := s.toks) (fun b u q => Heap.get?_push_of_some _ q) (Nat.le_refl _) ⟨_, e1⟩
  refine I1.laid (a := s.heap.objs.size + 1) (o := .ins C s.heap.objs.size []) (t' := s.toks) (fun b u q => Heap.get?_push_of_some _ q) (Nat.le_of_eq (Heap.size_push _ _)) ?_
  have ne : s.heap.objs.size ≠ s.heap.objs.size + 1 := Nat.ne_of_lt (Nat.lt_succ_self _)
  refine ⟨by rw [upd_ne ne, upd_same], Nat.zero_le _, ne, e2, fun _ => none, (Heap.Ns1.of_empty e3).at fun o q => Heap.get?_push_of_some _ q, fun _ => True.intro, fun y hy => absurd rfl hy⟩

/-- e.f where nothing but the object is asked: through attributeBase (super) and the last hold -/
theorem attr_of {prog : Program} {w : World} {env : Env} {e : Expr} {f : Str} {pos : Pos} {s : Shared} {Q : Value → Shared → Prop} (hb : attributeBase e f env (eval e env) = eval e env)
    (h : wpAny (model prog w) A (eval e env) (fun o s₁ => wpAny (model prog w) A (getAttr o f true) Q E s₁) E s) : wpAny (model prog w) A (eval (.Attribute e f pos) env) Q E s :=
  Attribute_any_ h (by rw [arm_eval_Attribute, hb])
end

/-! ### readings and rules -/
/-- e.f, an attribute of the instance -/
def tFld (K : PySem.W.Frag) (ta : TE) (f : Str) : TE := fun σ H Q => ta σ H fun x H1 => ∃ a C dx fs v, x = .ref a ∧ H1 a = some (.ins C dx fs) ∧ Cls K C ∧ NoAttr K C f ∧ fs.lookup f = some v ∧ Q v H1
/-- e.f, a constant of the class -/
def tCon (K : PySem.W.Frag) (ta : TE) (f : Str) : TE := fun σ H Q => ta σ H fun x H1 => ∃ a C dx fs v u, x = .ref a ∧ H1 a = some (.ins C dx fs) ∧ Cls K C ∧ Con K C f v u ∧ fs.lookup f = none ∧ Q v H1
/-- e.f = value -/
def sFld (K : PySem.W.Frag) (ta tv : TE) (f : Str) : TS := fun D σ H => tv σ H fun y H1 => ta σ H1 fun x H2 => ∃ a C dx fs, x = .ref a ∧ H2 a = some (.ins C dx fs) ∧ Cls K C ∧ NoAttr K C f ∧ fs.length < 1000 ∧
  D.nx σ (upd H2 a (.ins C dx (putF f y fs)))
/-- an augmented operator on two values -/
def InOp (X : Cx) (op : Operator) (rd : V → V → Hp → VK → Prop) : Prop :=
  ∀ (pins : List (Addr × Obj)) (s : Shared) (σ : St) (H : Hp) (x y : V) (u v : Value) (Q : VK), Inv X pins σ H s → RelV x u → RelV y v → rd x y H Q → wpAny (model X.prog X.w) X.A (inplaceOp op u v) (EP X pins σ Q) X.xe s
/-- e.f op= value -/
def sFldAug (K : PySem.W.Frag) (ta tv : TE) (rd : V → V → Hp → VK → Prop) (f : Str) : TS := fun D σ H => ta σ H fun x H1 => ∃ a C dx fs v, x = .ref a ∧ H1 a = some (.ins C dx fs) ∧ Cls K C ∧ NoAttr K C f ∧ fs.lookup f = some v ∧
  tv σ H1 fun y H2 => rd v y H2 fun z H3 => ∃ dx' fs', H3 a = some (.ins C dx' fs') ∧ fs'.length < 1000 ∧ D.nx σ (upd H3 a (.ins C dx' (putF f z fs')))

section
variable {X : Cx} {o e value : Expr} {f : Str} {pos pos' tpos : Pos} {ta tv : TE}
theorem pe_fld (he : PE X e ta) (hb : attributeBase e f X.env (eval e X.env) = eval e X.env) : PE X (.Attribute e f pos) (tFld X.K ta f) := by
  intro pins s σ H Q I h
  refine attr_of hb (thn (he pins s σ H _ I h) fun u s1 ⟨x, H1, I1, rx, a, C, dx, fs, v, ex, ea, c, n, l, q⟩ => ?_)
  subst ex
  obtain rfl : u = Value.ref a := rx
  exact getattr_ok I1 ea c n l fun u' s2 I2 ru => ⟨v, H1, I2, ru, q⟩
theorem ps_fld (ha : PE X o ta) (hv : PE X value tv) (hs : swapsWith value (some (.Attribute o f pos')) pos.line X.env = pure false) : PS X (.Assign [.Attribute o f pos'] value pos) (sFld X.K ta tv f) := by
  intro pins s σ H D I h
  refine plainObj_wpAny_Assign_Attribute (thn (hv pins s σ H _ I h) fun u s1 ⟨y, H1, I1, ry, q⟩ => thn (ha pins s1 σ H1 _ I1 q) fun ov s2 ⟨x, H2, I2, rx, a, C, dx, fs, ex, ea, c, n, l, q2⟩ => ?_) hs
  subst ex
  obtain rfl : ov = Value.ref a := rx
  exact setattr_ok I2 ea c n l ry fun s3 I3 => ⟨σ, _, I3, q2⟩
def rAdd : V → V → Hp → VK → Prop := fun x y H Q => ∃ i j, x = .int i ∧ y = .int j ∧ Q (.int (i + j)) H
def rSub : V → V → Hp → VK → Prop := fun x y H Q => ∃ i j, x = .int i ∧ y = .int j ∧ Q (.int (i - j)) H
end

/-! ### isinstance -/
section
variable {X : Cx} {pins : List (Addr × Obj)} {σ : St} {H : Hp} {s : Shared} {A : Around} {E : Value → Shared → Prop} {Q : Value → Shared → Prop} {c : Value} {b : Bool}
/-- the type of a value, as the fragment's deciders take it; for an instance its class -/
inductive TyOf (K : PySem.W.Frag) (H : Hp) : V → Value → Prop where
  | non : TyOf K H .non (.type "NoneType")
  | bl (x : Bool) : TyOf K H (.bl x) (.type "bool")
  | int (i : Int) : TyOf K H (.int i) (.type "int")
  | str (x : Str) : TyOf K H (.str x) (.type "str")
  | flt (x : UInt64) : TyOf K H (.flt x) (.type "float")
  | lst {a : Addr} {xs : List V} (e : H a = some (.lst xs)) : TyOf K H (.ref a) (.type "list")
  | frz {a : Addr} {o : Obj} {xs : List V} (e : H a = some (.frz o (.lst xs))) : TyOf K H (.ref a) (.type "list")
  | tup {a : Addr} {xs : List V} (e : H a = some (.tup xs)) : TyOf K H (.ref a) (.type "tuple")
  | dK {a : Addr} {kvs : List (Key × V)} (e : H a = some (.dK kvs)) : TyOf K H (.ref a) (.type "dict")
  | dT {a : Addr} {kvs : List (List Key × V)} (e : H a = some (.dT kvs)) : TyOf K H (.ref a) (.type "dict")
  | ins {a C dx : Addr} {fs : List (Str × V)} (e : H a = some (.ins C dx fs)) (cl : Cls K C) (ha : PySem.W.findIn K (.ref C) "__class__" = some (some (.builtin "object.__class__")))
      (hn : PySem.W.specialIn K (.builtin "object.__class__") "__get__" = some (some (.builtin "getset_descriptor.__get__"))) (htk : PySem.W.takesIn K (.builtin "object.__class__") = some true)
      (hm : PySem.W.mroIn K C (.type "object") = some true) : TyOf K H (.ref a) (.ref C)
/-- isinstance(x, c) for one class c, a built-in or an own one: kitOne's answer -/
theorem isinst_ok {x : V} {u t : Value} (I : Inv X pins σ H s) (rx : RelV x u) (ty : TyOf X.K H x t) (e : PySem.W.kitOne X.K t c = some b) (h : ∀ tk, Q (.bool b) { s with toks := tk }) :
    wpAny (model X.prog X.w) A (call (.builtin "isinstance") [u, c]) Q E s := by
  cases ty with
  | non => cases (show u = Value.none from rx); exact PySem.W.kia_one PySem.W.kitx_none I.kIn True.intro e (fun z => nomatch z) h
  | bl y => cases (show u = Value.bool y from rx); exact PySem.W.kia_one PySem.W.kitx_bool I.kIn True.intro e (fun z => nomatch z) h
  | int i => obtain ⟨t, q⟩ := (show ∃ t, u = Value.int i t from rx); cases q; exact PySem.W.kia_one PySem.W.kitx_int I.kIn True.intro e (fun z => nomatch z) h
  | str y => obtain ⟨t, q⟩ := (show ∃ t, u = Value.str y t from rx); cases q; exact PySem.W.kia_one PySem.W.kitx_str I.kIn True.intro e (fun z => nomatch z) h
  | flt y => obtain ⟨t, q⟩ := (show ∃ t, u = Value.float y t from rx); cases q; exact PySem.W.kia_one PySem.W.kitx_float I.kIn True.intro e (fun z => nomatch z) h
  | @lst a xs ea =>
    cases (show u = Value.ref a from rx)
    obtain ⟨_, _, n, _, h1⟩ := (show ObjOk X.prog X.w H s.heap a (.lst xs) from I.hok a _ ea)
    exact PySem.W.kia_one PySem.W.kitx_list I.kIn ⟨_, h1, rfl⟩ e (fun z => nomatch z) h
  | @frz a ob xs ea =>
    cases (show u = Value.ref a from rx)
    obtain ⟨_, _, _, n, _, h1⟩ := (show ObjOk X.prog X.w H s.heap a (.frz ob (.lst xs)) from I.hok a _ ea)
    exact PySem.W.kia_one PySem.W.kitx_list I.kIn ⟨_, h1, rfl⟩ e (fun z => nomatch z) h
  | @tup a xs ea =>
    cases (show u = Value.ref a from rx)
    obtain ⟨_, _, _, p⟩ := (show ObjOk X.prog X.w H s.heap a (.tup xs) from I.hok a _ ea)
    obtain ⟨o, h1, h2, _⟩ := p
    exact PySem.W.kia_one PySem.W.kitx_tuple I.kIn ⟨o, h1, h2⟩ e (fun z => nomatch z) h
  | @dK a kvs ea =>
    cases (show u = Value.ref a from rx)
    obtain ⟨_, _, vs, _, p⟩ := (show ObjOk X.prog X.w H s.heap a (.dK kvs) from I.hok a _ ea)
    obtain ⟨o, es, ep, h1, h2, _⟩ := p
    exact PySem.W.kia_one PySem.W.kitx_dict I.kIn ⟨o, h1, h2.1⟩ e (fun z => nomatch z) h
  | @dT a kvs ea =>
    cases (show u = Value.ref a from rx)
    obtain ⟨_, _, xs, _, o, es, ep, h1, h2, _⟩ := (show ObjOk X.prog X.w H s.heap a (.dT kvs) from I.hok a _ ea)
    exact PySem.W.kia_one PySem.W.kitx_dict I.kIn ⟨o, h1, h2.1⟩ e (fun z => nomatch z) h
  | @ins a C dx fs ea cl ha hn htk hm =>
    cases (show u = Value.ref a from rx)
    obtain ⟨mA, O, _⟩ := ins_get I.hok ea
    obtain ⟨od, J, _⟩ := O.look
    exact PySem.W.kia_one (PySem.W.kitx_own (cl.get _) cl.hd ha hn htk hm) I.kIn J e (fun z => nomatch z) h
end
end L2

namespace L2
open PySem PySem.Spec PyProof.Rows

/-! ### room -/
structure Room (k : Nat) (A : Around) : Prop where
  hd : A.handled = none
  dp : A.depth + 3 * k + 5 < recursionLimit
  un : A.units + 16 * k + 200 < cLine
  gd : A.guards = some []
theorem Room.mono {j k : Nat} {A : Around} (r : Room k A) (h : j ≤ k) : Room j A := ⟨r.hd, by have := r.dp; omega, by have := r.un; omega, r.gd⟩
theorem Room.deeper {k : Nat} {A : Around} (r : Room (k + 1) A) (env : Env) : Room k (A.deeper env) :=
  ⟨r.hd, by have := r.dp; show A.depth + 1 + 3 * k + 5 < _; omega, by have := r.un; show A.units + 3 + 16 * k + 200 < _; omega, r.gd⟩
theorem make_depth {A : Around} {C : Addr} {us : List Value} {kw : List (Str × Value)} : (A.under (.builtin "type.__call__" ⟨.ref C :: us, kw⟩)).depth = A.depth + 1 := by
  first | rfl | simp [Around.under, Code.weight, Code.isCreation, Code.isGuard, Code.isCaller, Code.frames, Code.isFrame, guardIds]
theorem make_units {A : Around} {C : Addr} {us : List Value} {kw : List (Str × Value)} : (A.under (.builtin "type.__call__" ⟨.ref C :: us, kw⟩)).units = A.units + 1 := by
  first | rfl | simp [Around.under, Code.cUnits, Code.frames, Code.isFrame]
theorem make_guards {A : Around} {C : Addr} {us : List Value} {kw : List (Str × Value)} : (A.under (.builtin "type.__call__" ⟨.ref C :: us, kw⟩)).guards = A.guards := by
  first | rfl | simp [Around.under, Code.guards, Code.isGuard, pushGuards, guardIds]
theorem Room.make {k : Nat} {A : Around} (r : Room (k + 1) A) (C : Addr) (us : List Value) (kw : List (Str × Value)) : Room k (A.under (.builtin "type.__call__" ⟨.ref C :: us, kw⟩)) :=
  ⟨r.hd, by have := r.dp; rw [make_depth]; omega, by have := r.un; rw [make_units]; omega, by rw [make_guards]; exact r.gd⟩
theorem Room.depth {k : Nat} {A : Around} (r : Room k A) : A.depth < recursionLimit := by have := r.dp; omega
theorem Room.units {k : Nat} {A : Around} (r : Room k A) : A.units + 64 < cLine := by have := r.un; omega
/-! ### argument lists and displays -/
def tNil : TA := fun _ H Q => Q [] H
def tCons (ta : TE) (tr : TA) : TA := fun σ H Q => ta σ H fun x H1 => tr σ H1 fun xs H2 => Q (x :: xs) H2
section
variable {X : Cx} {e : Expr} {es : List Expr} {te : TE} {t : TA} {pos : Pos}
theorem pa_nil : PA X [] tNil := fun _ _ _ _ H Q I h => Calls.spliced_nil ⟨[], H, I, .nil, h⟩
theorem pa_cons (ha : PE X e te) (hr : PA X es t) (hs : starEach (e :: es) X.env = (false, eval e X.env) :: starEach es X.env := by rfl) : PA X (e :: es) (tCons te t) := by
  intro pos pins s σ H Q I h
  rw [hs]
  show wpAny _ _ (spliced ((false, eval e X.env) :: backTo pos (starEach es X.env))) _ _ s
  refine Calls.spliced_cons (thn (ha pins s σ H _ I h) fun u s1 ⟨x, H1, I1, r1, q1⟩ => ?_)
  exact thn (hr pos pins s1 σ H1 _ I1 q1) fun us s2 ⟨xs, H2, I2, r2, q2⟩ => ⟨x :: xs, H2, I2, .cons r1 r2, q2⟩

/-- a tuple, a list of written items -/
def tTup (t : TA) : TE := fun σ H Q => t σ H fun xs H1 => xs.length ≤ sizeLine ∧ ∀ p, H1 p = none → Q (.ref p) (upd H1 p (.tup xs))
def tLst (t : TA) : TE := fun σ H Q => t σ H fun xs H1 => xs.length ≤ sizeLine ∧ ∀ p, H1 p = none → Q (.ref p) (upd H1 p (.lst xs))
end

/-! ### what a def promises -/
/-- a def's promise: the bound arguments in the parameters' order, the heap, the wanted end, the wanted exception -/
abbrev Sp := List V → Hp → VK → XK → Prop
/-- how an exception lies behind a call (file 08 gives it): the callers' frames, abstract heap and state ahead of the call, the wish, the exception, the state -/
abbrev CXT := List Env → Hp → Shared → XK → Value → Shared → Prop

/-- the state at a call -/
structure Env0 (P : Program) (w : World) (K : PySem.W.Frag) (mg : Str → Option Value) (base : Heap) (A : Around) (outer : List Env) (s : Shared) (H : Hp) : Prop where
  frames : A.frames = some outer
  mod : Mod K mg base
  bs : ∀ b o, base.get? b = some o → s.heap.get? b = some o ∧ H b = none
  bsz : base.objs.size ≤ s.heap.objs.size
  funs : s.heap.FunFrames base outer
  frf : ∀ b ∈ frs outer, H b = none
  hok : HOk P w H s.heap
  bare : AllBare s.gens
/-- a call's end -/
def CE (outer : List Env) (P : Program) (w : World) (H : Hp) (s : Shared) (Q : VK) (u : Value) (s' : Shared) : Prop :=
  ∃ v H', s'.os = s.os ∧ AllBare s'.gens ∧ Un (frs outer) [] H H' s.heap s'.heap ∧ HOk P w H' s'.heap ∧ RelV v u ∧ Q v H'
def CR (CX : CXT) (outer : List Env) (P : Program) (w : World) (H : Hp) (s : Shared) (Q : VK) (E : XK) (r : Result) (s' : Shared) : Prop :=
  match r with
  | .ok (.ret u) => CE outer P w H s Q u s'
  | .ok _ => False
  | .error e => CX outer H s E e s'
structure FnOk (P : Program) (w : World) (K : PySem.W.Frag) (mg : Str → Option Value) (base : Heap) (CX : CXT) (k : Nat) (f : Addr) (fd : FuncData) (ps : List Str) (sp : Sp) : Prop where
  len : ∀ vs H Q E, sp vs H Q E → vs.length = ps.length
  run : ∀ (A : Around) (outer : List Env) (s : Shared) (H : Hp) (args : Args) (us : List Value) (vs : List V) (Q : VK) (E : XK), Room k A → Env0 P w K mg base A outer s H → BindsTo s fd args (ps.zip us) → Vals vs us → sp vs H Q E →
    codeAny (model P w) A (.call (.ref f) args) (CR CX outer P w H s Q E) s
/-- a weaker promise -/
theorem FnOk.imp {P : Program} {w : World} {K : PySem.W.Frag} {mg : Str → Option Value} {base : Heap} {CX : CXT} {k : Nat} {f : Addr} {fd : FuncData} {ps : List Str} {sp sp' : Sp} (F : FnOk P w K mg base CX k f fd ps sp)
    (h : ∀ vs H Q E, sp' vs H Q E → sp vs H Q E) : FnOk P w K mg base CX k f fd ps sp' :=
  ⟨fun vs H Q E q => F.len vs H Q E (h _ _ _ _ q), fun A outer s H args us vs Q E hr he hb hv hs => F.run A outer s H args us vs Q E hr he hb hv (h _ _ _ _ hs)⟩

theorem Env0.make {P : Program} {w : World} {K : PySem.W.Frag} {mg : Str → Option Value} {base : Heap} {A : Around} {outer : List Env} {s : Shared} {H : Hp} (e : Env0 P w K mg base A outer s H) (C : Addr) (us : List Value) (kw : List (Str × Value)) :
    Env0 P w K mg base (A.under (.builtin "type.__call__" ⟨.ref C :: us, kw⟩)) outer s H := ⟨by first | exact e.frames | (simpa [Around.under, Code.envs, Code.isFrame, pushEnvs] using e.frames), e.mod, e.bs, e.bsz, e.funs, e.frf, e.hok, e.bare⟩
section
variable {X : Cx} {pins : List (Addr × Obj)} {σ : St} {H : Hp} {s s' : Shared}
/-- from a body: what a callee wants -/
theorem Inv.env0 (I : Inv X pins σ H s) : Env0 X.prog X.w X.K X.mg X.base X.A X.stack s H :=
  ⟨I.ok.frames, I.ok.mod, I.bs, Nat.le_trans I.ok.bsz I.sz, I.stack, I.stkFree, I.hok, I.bare⟩
/-- behind a call -/
theorem Inv.after {Q : VK} {u : Value} (I : Inv X pins σ H s) (h : CE X.stack X.prog X.w H s Q u s') : EP X pins σ Q u s' := by
  obtain ⟨v, H', os, bare, un, hok, r, q⟩ := h
  obtain ⟨hh, g, d, t, os'⟩ := s'
  obtain rfl : os' = s.os := os
  exact ⟨v, H', I.call (h' := hh) (g' := g) (d' := d) (t' := t) (ch := []) un hok bare (fun b z => absurd z (by simp)), r, q⟩
end

/-! ### calls -/
/-- f(..): the written arguments, then the defaults dvs; E: what is wanted of an exception -/
def tCall (sp : Sp) (dvs : List V) (E : XK) (t : TA) : TE := fun σ H Q => t σ H fun vs H1 => sp (vs ++ dvs) H1 Q E
/-- o.m(..) of an instance of the class at C -/
def tMeth (C : Addr) (m : Str) (sp : Sp) (dvs : List V) (E : XK) (ta : TE) (t : TA) : TE := fun σ H Q => ta σ H fun x H1 => ∃ a dx fs, x = .ref a ∧ H1 a = some (.ins C dx fs) ∧ fs.lookup m = none ∧
  t σ H1 fun vs H2 => sp (x :: (vs ++ dvs)) H2 Q E
/-- C(..): a new instance and its dict, then __init__ -/
def tMake (C : Addr) (sp : Sp) (dvs : List V) (E : XK) (t : TA) : TE := fun σ H Q => t σ H fun vs H1 => ∀ x dx, H1 x = none → H1 dx = none → dx ≠ x →
  sp (.ref x :: (vs ++ dvs)) (upd (upd H1 dx (.own x)) x (.ins C dx [])) (fun v H2 => v = .non ∧ Q (.ref x) H2) E

/-- how the parameters are bound: us the positional arguments, kw the keywords' values by name, ds the defaults that fill up -/
def Binds (K : PySem.W.Frag) (fd : FuncData) (ps : List Str) (ds : List Value) : Prop :=
  ∀ (s : Shared) (us : List Value), K.In s.heap → (us ++ ds).length = ps.length → BindsTo s fd ⟨us, []⟩ (ps.zip (us ++ ds))
/-- every parameter is given -/
theorem Binds.all {K : PySem.W.Frag} {fd : FuncData} {ps : List Str} (h : ∀ us : List Value, us.length = ps.length → bindArgs fd ⟨us, []⟩ = pure (ps.zip us)) : Binds K fd ps [] := fun s us _ hl => by
  rw [List.append_nil] at hl ⊢
  exact .of_eq (h us hl)

/-- an exception of a callee reaches what this body wants of exceptions -/
def Passes (CX : CXT) (X : Cx) (E : XK) : Prop := ∀ (pins : List (Addr × Obj)) (σ : St) (H : Hp) (s : Shared) (e : Value) (s' : Shared), Inv X pins σ H s → CX X.stack H s E e s' → X.xe e s'

section
variable {X : Cx} {CX : CXT} {k : Nat} {f C : Addr} {fd : FuncData} {ps : List Str} {sp : Sp} {dvs : List V} {ds : List Value} {E : XK} {x m : Str} {p pos apos : Pos} {e o : Expr} {es : List Expr} {ta : TE} {t : TA}

/-- the callee runs -/
theorem run_fn {pins : List (Addr × Obj)} {σ : St} {H : Hp} {s : Shared} {Q : VK} {us : List Value} {vs : List V} (F : FnOk X.prog X.w X.K X.mg X.base CX k f fd ps sp) (hr : Room k X.A) (hb : Binds X.K fd ps ds) (hd : Vals dvs ds) (hx : Passes CX X E)
    (I : Inv X pins σ H s) (r : Vals vs us) (h : sp (vs ++ dvs) H Q E) : wpAny (model X.prog X.w) X.A (call (.ref f) us) (EP X pins σ Q) X.xe s := by
  have r2 : Vals (vs ++ dvs) (us ++ ds) := r.append hd
  have hl : (us ++ ds).length = ps.length := by rw [← r2.length]; exact F.len _ _ _ _ h
  refine wpAny_call (codeAny_mono (F.run X.A X.stack s H ⟨us, []⟩ (us ++ ds) (vs ++ dvs) Q E hr I.env0 (hb s us I.kIn hl) r2 h) fun r s' hq => ?_)
  cases r with
  | error e => exact hx pins σ H s e s' I hq
  | ok fl =>
    cases fl with
    | ret u => exact I.after hq
    | next => exact False.elim hq
    | brk => exact False.elim hq
    | cont => exact False.elim hq

theorem pe_call (F : FnOk X.prog X.w X.K X.mg X.base CX k f fd ps sp) (hr : Room k X.A) (hg : Gl X x) (hm : X.mg x = some (.ref f)) (hk : PySem.W.keepIn X.K (.ref f) = true) (hb : Binds X.K fd ps ds) (hd : Vals dvs ds) (hx : Passes CX X E)
    (ha : PA X (e :: es) t) (hdb : (x == ("__debug__" : Str)) = false := by decide) (he : starEach (e :: es) X.env = (false, eval e X.env) :: starEach es X.env := by rfl) (hpl : (backTo pos (starEach es X.env)).any (·.1) = false := by rfl) :
    PE X (.Call (.Name x p) (e :: es) [] pos) (tCall sp dvs E t) := by
  intro pins s σ H Q I h
  refine wpAny_Call_Name_kw (ld_glob I hg hm ?_ hdb)
  refine PySem.W.callWith_K (h₀ := X.base) I.ok.mod.kin hk (thn (ha pos pins s σ H _ I h) fun us s1 ⟨vs, H1, I1, r, q⟩ => ⟨I1.kIn, ?_⟩) he hpl
  exact run_fn F hr hb hd hx I1 r q
/-- o.m() -/
theorem pe_meth0 {pl : Sem Bool} (he : PE X o ta) (c : Cls X.K C) (hm : Meth X.K C m f) (F : FnOk X.prog X.w X.K X.mg X.base CX k f fd ps sp) (hr : Room k X.A) (hb : Binds X.K fd ps ds) (hd : Vals dvs ds) (hx : Passes CX X E)
    (ht : eval (.Call (.Attribute o m apos) [] [] pos) X.env = (do
      let ov ← eval o X.env
      standAt apos.atName
      let (f, first) ← holding [ov] (getMethod ov m pl)
      callWith pos f first (backTo pos (starEach [] X.env)) (backToKw pos (keywordEach [] X.env))) := by rfl) :
    PE X (.Call (.Attribute o m apos) [] [] pos) (tMeth C m sp dvs E ta tNil) := by
  intro pins s σ H Q I h
  refine PySem.W.methodCall_KW (pl := pl) (thn (he pins s σ H _ I h) fun u s1 ⟨x, H1, I1, rx, a, dx, fs, ex, ea, l, q⟩ => ?_) ht
  subst ex
  obtain rfl : u = Value.ref a := rx
  refine getmeth_ok I1 ea c hm l ?_
  exact PySem.W.callWith_K0 (first := [.ref a]) I1.kIn hm.kp (run_fn (us := [.ref a]) (vs := [.ref a]) F hr hb hd hx I1 (.cons rfl .nil) q)

/-- what a class must have to be made -/
structure Mk (K : PySem.W.Frag) (C f : Addr) : Prop where
  makes : PySem.W.makesIn K C = true
  init : PySem.W.findIn K (.ref C) "__init__" = some (some (.ref f))
  fn : PySem.W.isFn K (.ref f) = true
  kp : PySem.W.keepIn K (.ref C) = true

end

/-! ### keywords -/
/-- the values of the keywords, from the left -/
def PK (X : Cx) (kws : List Keyword) (t : TA) : Prop :=
  ∀ (pos : Pos) (pins : List (Addr × Obj)) (s : Shared) (σ : St) (H : Hp) (Q : List V → Hp → Prop), Inv X pins σ H s → t σ H Q → wpAny (model X.prog X.w) X.A (evalAll ((backToKw pos (keywordEach kws X.env)).map (·.2))) (AP X pins σ Q) X.xe s
section
variable {X : Cx} {CX : CXT} {k : Nat} {f C : Addr} {fd : FuncData} {ps ks : List Str} {sp : Sp} {E : XK} {x m : Str} {p pos apos kpos : Pos} {e o : Expr} {es : List Expr} {kws : List Keyword} {te ta : TE} {t tk : TA} {nm : Option Str}
theorem pk_nil : PK X [] tNil := fun _ _ _ _ H Q I h => wpAny_evalAll_nil ⟨[], H, I, .nil, h⟩
theorem pk_cons (ha : PE X e te) (hr : PK X kws t) : PK X (⟨nm, e, kpos⟩ :: kws) (tCons te t) := by
  intro pos pins s σ H Q I h
  show wpAny _ _ (evalAll ((do let v ← eval e X.env; standAt pos; pure v) :: (backToKw pos (keywordEach kws X.env)).map (·.2))) _ _ s
  refine wpAny_evalAll_cons (wpAny_bind (thn (ha pins s σ H _ I h) fun u s1 ⟨x, H1, I1, r1, q1⟩ => wpAny_bind (wpAny_standAt (wpAny_pure ?_))))
  exact thn (hr pos pins s1 σ H1 _ I1 q1) fun us s2 ⟨xs, H2, I2, r2, q2⟩ => ⟨x :: xs, H2, I2, .cons r1 r2, q2⟩

/-- how a call with keywords binds: g puts the positional values us and the keywords' values ws (names ks) in the parameters' order, defaults among them -/
structure KBinds (K : PySem.W.Frag) (fd : FuncData) (ps ks : List Str) (g : List Value → List Value → List Value) (gV : List V → List V → List V) : Prop where
  to : ∀ (s : Shared) (us ws : List Value), K.In s.heap → (g us ws).length = ps.length → BindsTo s fd ⟨us, ks.zip ws⟩ (ps.zip (g us ws))
  rel : ∀ {vs : List V} {us : List Value} {zs : List V} {ws : List Value}, Vals vs us → Vals zs ws → Vals (gV vs zs) (g us ws)
def tCallK (sp : Sp) (gV : List V → List V → List V) (E : XK) (t tk : TA) : TE := fun σ H Q => t σ H fun vs H1 => tk σ H1 fun zs H2 => sp (gV vs zs) H2 Q E
variable {g : List Value → List Value → List Value} {gV : List V → List V → List V}
theorem run_fnk {pins : List (Addr × Obj)} {σ : St} {H : Hp} {s : Shared} {Q : VK} {us ws : List Value} {vs zs : List V} (F : FnOk X.prog X.w X.K X.mg X.base CX k f fd ps sp) (hr : Room k X.A) (hb : KBinds X.K fd ps ks g gV) (hx : Passes CX X E)
    (I : Inv X pins σ H s) (r : Vals vs us) (rz : Vals zs ws) (h : sp (gV vs zs) H Q E) : wpAny (model X.prog X.w) X.A (call (.ref f) us (ks.zip ws)) (EP X pins σ Q) X.xe s := by
  have r2 := hb.rel r rz
  have hl : (g us ws).length = ps.length := by rw [← r2.length]; exact F.len _ _ _ _ h
  refine wpAny_call (codeAny_mono (F.run X.A X.stack s H ⟨us, ks.zip ws⟩ (g us ws) (gV vs zs) Q E hr I.env0 (hb.to s us ws I.kIn hl) r2 h) fun r s' hq => ?_)
  cases r with
  | error e => exact hx pins σ H s e s' I hq
  | ok fl =>
    cases fl with
    | ret u => exact I.after hq
    | next => exact False.elim hq
    | brk => exact False.elim hq
    | cont => exact False.elim hq
/-- f(e, .., k = v, ..) -/
theorem pe_callK (F : FnOk X.prog X.w X.K X.mg X.base CX k f fd ps sp) (hr : Room k X.A) (hg : Gl X x) (hm : X.mg x = some (.ref f)) (hk : PySem.W.keepIn X.K (.ref f) = true) (hb : KBinds X.K fd ps ks g gV) (hx : Passes CX X E)
    (ha : PA X (e :: es) t) (hkw : PK X kws tk) (hall : (backToKw pos (keywordEach kws X.env)).all (·.1.isSome) = true := by rfl) (hks : (backToKw pos (keywordEach kws X.env)).filterMap (·.1) = ks := by rfl)
    (hdb : (x == ("__debug__" : Str)) = false := by decide) (he : starEach (e :: es) X.env = (false, eval e X.env) :: starEach es X.env := by rfl)
    (hpl : ((backTo pos (starEach (e :: es) X.env)).any (·.1) || (backToKw pos (keywordEach kws X.env)).any (·.1.isNone)) = false := by rfl) :
    PE X (.Call (.Name x p) (e :: es) kws pos) (tCallK sp gV E t tk) := by
  intro pins s σ H Q I h
  refine wpAny_Call_Name_kw (ld_glob I hg hm ?_ hdb)
  refine PySem.W.callWith_KW (h₀ := X.base) I.ok.mod.kin hk hall (thn (ha pos pins s σ H _ I h) fun us s1 ⟨vs, H1, I1, r, q⟩ => ?_) hpl he
  refine thn (hkw pos pins s1 σ H1 _ I1 q) fun ws s2 ⟨zs, H2, I2, rz, q2⟩ => ⟨I2.kIn, ?_⟩
  rw [hks]
  exact run_fnk F hr hb hx I2 r rz q2
end

/-! ### a def's body keeps its promise -/
/-- names: the parameters first -/
structure FnScope (N P : List Str) (sc : Scope) : Prop where
  kind : sc.kind = .function
  co : sc.isCoroutine = false
  gen : sc.isGenerator = false
  nd : N.Nodup
  pre : N.take P.length = P
  par : ∀ x ∈ P, sc.names.lookup x = some .local ∨ sc.names.lookup x = some .cell
  nofree : ∀ y ∈ sc.names, y.2 ≠ .free

theorem bindL_out {kindOf : Str → Option NameKind} {x : Str} : ∀ {binds : List (Str × Value)} {m : Str → Option Value}, (∀ v, (x, v) ∉ binds) → bindL kindOf binds m x = m x
  | [], _, _ => rfl
  | (n, v) :: r, m, h => by
    unfold bindL
    rw [bindL_out fun w hw => h w (List.mem_cons_of_mem _ hw)]
    split
    · have : x ≠ n := by rintro rfl; exact h v List.mem_cons_self
      simp [this]
    · rfl
theorem bindC_out {kindOf : Str → Option NameKind} {x : Str} : ∀ {binds : List (Str × Value)} {m : Str → Option Value}, (∀ v, (x, v) ∉ binds) → bindC kindOf binds m x = m x
  | [], _, _ => rfl
  | (n, v) :: r, m, h => by
    unfold bindC
    rw [bindC_out fun w hw => h w (List.mem_cons_of_mem _ hw)]
    split
    · rfl
    · have : x ≠ n := by rintro rfl; exact h v List.mem_cons_self
      simp [this]
theorem bindL_get {kindOf : Str → Option NameKind} {x : Str} {v : Value} : ∀ {P : List Str} {vs : List Value} {i : Nat} {m : Str → Option Value}, P.Nodup → P[i]? = some x → vs[i]? = some v → kindOf x = some .local →
    bindL kindOf (P.zip vs) m x = some v
  | [], _, _, _, _, h, _, _ => by simp at h
  | _ :: _, [], _, _, _, _, h, _ => by simp at h
  | p :: P, w :: vs, 0, m, nd, h1, h2, hk => by
    simp at h1 h2; subst h1; subst h2
    show bindL kindOf ((p, w) :: P.zip vs) m p = _
    unfold bindL
    rw [bindL_out fun v hv => (List.nodup_cons.mp nd).1 (List.of_mem_zip hv).1, if_pos hk]
    simp
  | p :: P, w :: vs, i + 1, m, nd, h1, h2, hk => by
    show bindL kindOf ((p, w) :: P.zip vs) m x = _
    unfold bindL
    exact bindL_get (i := i) (List.nodup_cons.mp nd).2 (by simpa using h1) (by simpa using h2) hk
theorem bindC_get {kindOf : Str → Option NameKind} {x : Str} {v : Value} : ∀ {P : List Str} {vs : List Value} {i : Nat} {m : Str → Option Value}, P.Nodup → P[i]? = some x → vs[i]? = some v → kindOf x ≠ some .local →
    bindC kindOf (P.zip vs) m x = some v
  | [], _, _, _, _, h, _, _ => by simp at h
  | _ :: _, [], _, _, _, _, h, _ => by simp at h
  | p :: P, w :: vs, 0, m, nd, h1, h2, hk => by
    simp at h1 h2; subst h1; subst h2
    show bindC kindOf ((p, w) :: P.zip vs) m p = _
    unfold bindC
    rw [bindC_out fun v hv => (List.nodup_cons.mp nd).1 (List.of_mem_zip hv).1, if_neg hk]
    simp
  | p :: P, w :: vs, i + 1, m, nd, h1, h2, hk => by
    show bindC kindOf ((p, w) :: P.zip vs) m x = _
    unfold bindC
    exact bindC_get (i := i) (List.nodup_cons.mp nd).2 (by simpa using h1) (by simpa using h2) hk

/-- the names' values at the entry -/
def start (N : List Str) (vs : List V) : St := vs.map some ++ List.replicate (N.length - vs.length) none

/-- the context of a def's body, at its entry; an exception leaves the frame, then lies as CX says -/
def cxOf (CX : CXT) (P : Program) (w : World) (K : PySem.W.Frag) (mg : Str → Option Value) (base : Heap) (N : List Str) (qual : Str) (scope : Scope) (f : Addr) (cd : Value) (A : Around) (outer : List Env) (s : Shared) (H : Hp) (E : XK) : Cx where
  prog := P
  w := w
  K := K
  mg := mg
  base := base
  A := A.deeper (envOfC qual scope s.heap.objs.size f cd)
  N := N
  s_0 := s
  H_0 := H
  env := envOfC qual scope s.heap.objs.size f cd
  outer := outer
  stack := envOfC qual scope s.heap.objs.size f cd :: outer
  ex := []
  calm := true
  fn := fun _ => true
  pn := []
  xe := fun e s' => wpAny (model P w) (A.deeper (envOfC qual scope s.heap.objs.size f cd)) (leaving (envOfC qual scope s.heap.objs.size f cd) e) (fun _ s'' => CX outer H s E e s'') (fun e' s'' => CX outer H s E e' s'') s'

theorem cell_has {sc : Scope} {n : Nat} {x : Str} (h : sc.names.lookup x = some .cell) : ∃ c, (cellsFrom n sc.names []).lookup x = some c := by
  have q := PySem.W.cellsFrom_some sc.names n [] (.inl h)
  exact Option.isSome_iff_exists.mp q

theorem inv_start {CX : CXT} {P : Program} {w : World} {K : PySem.W.Frag} {mg : Str → Option Value} {base : Heap} {N ps : List Str} {qual : Str} {scope : Scope} {f : Addr} {cd : Value} {A : Around} {outer : List Env} {s s1 : Shared} {H : Hp} {E : XK} {us : List Value} {vs : List V}
    (S : FnScope N ps scope) (hd : A.handled = none) (e0 : Env0 P w K mg base A outer s H) (hl : vs.length = ps.length) (r : Vals vs us)
    (x : InCallC s s.heap.objs.size (bindL (envOfC qual scope s.heap.objs.size f cd).kindOf (ps.zip us) fun _ => none) (cellsFrom (s.heap.objs.size + 1) scope.names []) (bindC (envOfC qual scope s.heap.objs.size f cd).kindOf (ps.zip us) fun _ => none) s1) :
    Inv (cxOf CX P w K mg base N qual scope f cd A outer s H E) [] (start N vs) H s1 := by
  have hpl : ps.length ≤ N.length := by have := congrArg List.length S.pre; rw [List.length_take] at this; omega
  obtain ⟨h1, tk, rfl, hk⟩ := x.done
  have noA : ∀ b : Addr, b ∉ (cxOf CX P w K mg base N qual scope f cd A outer s H E).ex := fun b z => absurd (show b ∈ ([] : List Addr) from z) (by simp)
  refine ⟨⟨e0.mod, S.kind, rfl, rfl, Nat.le_refl _, fun y z c h1 h2 => ?_, fun y hy => ?_, fun y c _ h => ?_, fun _ => hd, Around.frames_deeper e0.frames, .inr ⟨rfl, rfl⟩, fun b z => absurd z (noA b), e0.bs, e0.bsz, fun b _ _ => noA b, fun b z => absurd z (noA b), e0.funs, e0.frf⟩,
    rfl, e0.bare, Un.kept hk, ⟨_, x.toInCall.ns, fun i y v h1 h2 h3 => ?_⟩, fun y c h => ⟨_, x.cell y c h⟩, e0.hok.fresh (Nat.le_refl _), fun y c h => ?_, fun p hp => absurd (show p ∈ ([] : List (Addr × Obj)) from hp) (by simp), e0.hok.kept hk, ?_⟩
  · exact name_of_addr x.apart (PySem.mem_of_lookup h1) (PySem.mem_of_lookup h2)
  · have hy : scope.names.lookup y = some .cell ∨ scope.names.lookup y = some .free := hy
    rcases hy with hy | hy
    · exact cell_has hy
    · exact absurd rfl (S.nofree _ (PySem.mem_of_lookup hy))
  · exact Nat.le_of_lt (x.above y c (PySem.mem_of_lookup h))
  · have hi : i < vs.length := by
      unfold start at h2
      by_cases hi : i < vs.length
      · exact hi
      · rw [List.getElem?_append_right (by simpa using hi)] at h2
        rw [List.getElem?_replicate] at h2
        split at h2 <;> cases h2
    have ha : vs[i]? = some v := by
      unfold start at h2
      rw [List.getElem?_append_left (by simpa using hi), List.getElem?_map] at h2
      cases e : vs[i]? with
      | none => rw [e] at h2; cases h2
      | some a => rw [e] at h2; cases h2; rfl
    obtain ⟨u, hu, rv⟩ := r.get ha
    have hp : ps[i]? = some y := by
      rw [← S.pre, List.getElem?_take_of_lt (by omega)]; exact h1
    have ndP : ps.Nodup := by rw [← S.pre]; exact S.nd.sublist (List.take_sublist _ _)
    refine ⟨u, rv, ?_⟩
    rcases S.par y (List.mem_of_getElem? hp) with k | k
    · exact .inl ⟨k, bindL_get ndP hp hu k⟩
    · obtain ⟨c, e⟩ := cell_has (n := s.heap.objs.size + 1) k
      refine .inr ⟨.inl k, c, e, ?_⟩
      have q := x.cell y c e
      rw [bindC_get ndP hp hu (by show scope.names.lookup y ≠ _; rw [k]; decide)] at q
      exact q
  · exact e0.hok.fresh (Nat.le_of_lt (x.above y c (PySem.mem_of_lookup h)))
  · unfold start
    show _ = N.length
    rw [List.length_append, List.length_map, List.length_replicate]
    omega

/-- THE RULE: a def (or a method) of the text, by its body. The body's reading t is chosen for each entry; it is run at the parameters' values -/
theorem fn_of {CX : CXT} {P : Program} {w : World} {K : PySem.W.Frag} {mg : Str → Option Value} {base : Heap} {k : Nat} {f : Addr} {name qual : Str} {params : Arguments} {body : List Stmt} {scope : Scope} {dV kV doc pm cdv ct oc : Value} {an od : Option Addr}
    {osl : Array (Option Value)} {N ps : List Str} {sp : Sp} (lk : K.lookup f = some ⟨oc, od, .func (PySem.W.fnOf name qual params body scope dV kV doc pm an cdv ct), osl⟩) (hcd : PySem.W.codeIn K cdv qual = true) (S : FnScope N ps scope)
    (len : ∀ vs H Q E, sp vs H Q E → vs.length = ps.length)
    (hbody : ∀ (A : Around) (outer : List Env) (s : Shared) (H : Hp) (vs : List V) (Q : VK) (E : XK), Room k (A.deeper (envOfC qual scope s.heap.objs.size f cdv)) → sp vs H Q E →
      ∃ t, PSs (cxOf CX P w K mg base N qual scope f cdv A outer s H E) body t ∧ t { nx := fun _ H' => Q .non H', rt := Q } (start N vs) H) :
    FnOk P w K mg base CX (k + 1) f (PySem.W.fnOf name qual params body scope dV kV doc pm an cdv ct) ps sp := by
  refine ⟨len, fun A outer s H args us vs Q E hr e0 hb r hsp => ?_⟩
  have hl := len _ _ _ _ hsp
  have KX : K.In s.heap := e0.mod.kin.keeps fun b o e => (e0.bs b o e).1
  have lim : s.heap.NoLimit := e0.mod.nolimit.keeps fun b o e => (e0.bs b o e).1
  have hkind : ∀ y ∈ ps.zip us, scope.names.lookup y.1 = some .local ∨ (scope.names.lookup y.1 = some .cell ∧ ((cellsFrom (s.heap.objs.size + 1) scope.names []).lookup y.1).isSome = true) := fun ⟨n, v⟩ hy => by
    rcases S.par n (List.of_mem_zip hy).1 with q | q
    · exact .inl q
    · exact .inr ⟨q, PySem.W.cellsFrom_some _ _ _ (.inl q)⟩
  refine codeAny_call_function hr.depth (KX _ _ lk) rfl S.co S.gen rfl (PySem.W.codeRec_of KX hcd) (hb _ _ _ _ ?_)
  refine wpAny_newFunctionEnv_cells S.kind hkind fun env he s1 x => ?_
  subst he
  refine ⟨lim.keeps x.toInCall.keep, codeAny_func ?_⟩
  obtain ⟨t, ht, hq⟩ := hbody A outer s H vs Q E (hr.deeper _) hsp
  have I : Inv (cxOf CX P w K mg base N qual scope f cdv A outer s H E) [] (start N vs) H s1 := inv_start S hr.hd e0 hl r x
  refine wpAny_mono (ht [] s1 (start N vs) H _ I hq) (fun fl s' hs => ?_) fun e s' hs => hs
  have fin : ∀ {σ' : St} {H' : Hp} {v : V} {u : Value}, Inv (cxOf CX P w K mg base N qual scope f cdv A outer s H E) [] σ' H' s' → RelV v u → Q v H' → CE outer P w H s Q u s' :=
    fun {σ' H' v u} J rv q => ⟨v, H', J.os, J.bare, J.base, J.hok, rv, q⟩
  cases fl with
  | ret u =>
    obtain ⟨v, σ', H', J, rv, q⟩ := hs
    exact fin J rv q
  | next =>
    obtain ⟨σ', H', J, q⟩ := hs
    exact fin (v := V.non) (u := Value.none) J rfl q
  | brk =>
    obtain ⟨_, _, _, q⟩ := hs
    exact False.elim q
  | cont =>
    obtain ⟨_, _, _, q⟩ := hs
    exact False.elim q
end L2

namespace L2
open PySem PySem.Spec PyProof.Rows
section
variable {X : Cx} {x : Str} {p pos : Pos} {e : Expr} {es : List Expr} {t : TA} {id T : String} {r : List V → Hp → VK → Prop}

def tCB (r : List V → Hp → VK → Prop) (t : TA) : TE := fun σ H Q => t σ H fun vs H1 => r vs H1 Q
/-- f(e, ..), f a built-in function -/
theorem pe_callB (hc : CallR X (.builtin id) r) (hg : Gl X x) (hm : X.mg x = none) (hv : bootBuiltins x = some (.builtin id)) (ha : PA X (e :: es) t) (hn : x ≠ "__name__" := by decide) (hdb : (x == ("__debug__" : Str)) = false := by decide)
    (he : starEach (e :: es) X.env = (false, eval e X.env) :: starEach es X.env := by rfl) (hpl : (backTo pos (starEach es X.env)).any (·.1) = false := by rfl) : PE X (.Call (.Name x p) (e :: es) [] pos) (tCB r t) := by
  intro pins s σ H Q I h
  refine wpAny_Call_Name_kw (ld_blt I hg hm hv ?_ hn hdb)
  exact PyProof.Rows.callWith_builtin1 (thn (ha pos pins s σ H _ I h) fun us s1 ⟨vs, H1, I1, r1, q1⟩ => hc pins s1 σ H1 vs us Q I1 r1 q1) he hpl
end
end L2

namespace HT
open PySem PyProof.Rows

/-- t < u of tuples of ints -/
def lexLt : List Int → List Int → Bool
  | [], [] => false
  | [], _ :: _ => true
  | _ :: _, [] => false
  | x :: xs, y :: ys => if x = y then lexLt xs ys else decide (x < y)
theorem lexLt_cons (x y : Int) (xs ys : List Int) : lexLt (x :: xs) (y :: ys) = if x = y then lexLt xs ys else decide (x < y) := rfl
theorem lexLt_nil_nil : lexLt [] [] = false := rfl
theorem lexLt_nil_cons (y : Int) (ys : List Int) : lexLt [] (y :: ys) = true := rfl
theorem lexLt_cons_nil (x : Int) (xs : List Int) : lexLt (x :: xs) [] = false := rfl

section
open PySem.SeqAt
open PySem.AutoSeq1 (wpAny_loadPart')
open PySem.MeetsSeq PySem.MeetsSeq2 PySem.MeetsSeq3

end

section
variable {prog : Program} {w : World} {A : Around} {E : Value → Shared → Prop} {s : Shared}

/-! ### t[a:b], not the whole -/
/-- a slice's bound as a place among n (d where it is left out) -/
def sIx (n d : Nat) : Option Int → Nat
  | none => d
  | some v => if v < 0 then (v + (n : Int)).toNat else min v.toNat n
theorem sIx_none (n d : Nat) : sIx n d none = d := rfl
end
end HT

namespace L2
open PySem PySem.Spec PyProof.Rows

/-! ### the parts of a slice -/
abbrev TO := St → Hp → (Option Int → Hp → Prop) → Prop
/-- a slice's part (left out, or an int) -/
def PO (X : Cx) (e : Option Expr) (t : TO) : Prop :=
  ∀ (pins : List (Addr × Obj)) (s : Shared) (σ : St) (H : Hp) (Q : Option Int → Hp → Prop), Inv X pins σ H s → t σ H Q →
    wpAny (model X.prog X.w) X.A (evalPart e X.env) (fun u s' => ∃ o H', Inv X pins σ H' s' ∧ IsPart u o ∧ Q o H') X.xe s
def tNoPart : TO := fun _ H Q => Q none H
def tPart (t : TE) : TO := fun σ H Q => t σ H fun x H1 => ∃ i, x = .int i ∧ Q (some i) H1

section
variable {X : Cx} {e : Expr} {te : TE} {lo hi : Option Expr} {tl th : TO} {pos p2 : Pos}

/-- what a slice of a value is, by values: the slice object stands at sl -/
def SlR (X : Cx) (r : V → Option Int → Option Int → Hp → VK → Prop) : Prop :=
  ∀ (pins : List (Addr × Obj)) (s : Shared) (σ : St) (H : Hp) (x : V) (v vl vu : Value) (lo hi : Option Int) (sl : Addr) (Q : VK), Inv X pins σ H s → RelV x v → s.heap.IsSliceOf sl vl vu .none → IsPart vl lo → IsPart vu hi → r x lo hi H Q →
    ∃ T id, typeLookup (.type T) "__getitem__" = pure (some (.builtin id)) ∧ s.TypeIs v T ∧ wpAny (model X.prog X.w) X.A (getItem v (.ref sl)) (EP X pins σ Q) X.xe s
def tSl (r : V → Option Int → Option Int → Hp → VK → Prop) (te : TE) (tl th : TO) : TE := fun σ H Q => te σ H fun x H1 => tl σ H1 fun l H2 => th σ H2 fun u H3 => r x l u H3 Q
/-- the items of xs[lo:hi] -/
def cutV (xs : List V) (lo hi : Option Int) : List V := (xs.drop (HT.sIx xs.length 0 lo)).take (HT.sIx xs.length xs.length hi - HT.sIx xs.length 0 lo)
/-- t[lo:hi], not the whole of it (the whole would be t itself) -/
def rSlT (K : PySem.W.Frag) : V → Option Int → Option Int → Hp → VK → Prop := fun x lo hi H Q => ∃ a xs, x = .ref a ∧ SqT K H a xs ∧
  ¬ (HT.sIx xs.length 0 lo = 0 ∧ HT.sIx xs.length xs.length hi = xs.length) ∧ ∀ p, H p = none → Q (.ref p) (upd H p (.tup (cutV xs lo hi)))
/-! ### t < u, t + u -/
def rLtT (K : PySem.W.Frag) : R2 := fun x y H Q => ∃ a b ns ms, x = .ref a ∧ y = .ref b ∧ SqT K H a (ns.map V.int) ∧ SqT K H b (ms.map V.int) ∧ Q (.bl (HT.lexLt ns ms)) H
/-- t + u, t not empty: u empty gives t itself -/
def rCatT (K : PySem.W.Frag) : R2 := fun x y H Q => ∃ a b xs ys, x = .ref a ∧ y = .ref b ∧ SqT K H a xs ∧ SqT K H b ys ∧ xs ≠ [] ∧ xs.length + ys.length ≤ sizeLine ∧
  (ys = [] → Q (.ref a) H) ∧ (ys ≠ [] → ∀ p, H p = none → Q (.ref p) (upd H p (.tup (xs ++ ys))))
end
end L2

namespace L2
open PySem PySem.Spec PyProof.Rows

/-! ### places -/
/-- the place that an index of any sign means -/
def ixN (n : Nat) (i : Int) : Option Nat := if 0 ≤ i then (if i < n then some i.toNat else none) else if -(n : Int) ≤ i then some (i + n).toNat else none
def atI {α : Type} (xs : List α) (i : Int) : Option α := (ixN xs.length i).bind fun j => xs[j]?
theorem ixN_seq {n : Nat} {i : Int} {j : Nat} (h : ixN n i = some j) : seqIndex? i n = some j ∧ j < n ∧ -(n : Int) ≤ i ∧ i < n := by
  unfold ixN at h
  by_cases h0 : 0 ≤ i
  · rw [if_pos h0] at h
    by_cases h1 : i < n
    · rw [if_pos h1] at h
      have e : i.toNat = j := Option.some.inj h
      exact ⟨by rw [seqIndex_of h0 h1, e], by omega, by omega, h1⟩
    · rw [if_neg h1] at h; cases h
  · rw [if_neg h0] at h
    by_cases h1 : -(n : Int) ≤ i
    · rw [if_pos h1] at h
      have e : (i + n).toNat = j := Option.some.inj h
      exact ⟨by rw [seqIndex_neg (by omega) h1, e], by omega, h1, by omega⟩
    · rw [if_neg h1] at h; cases h
theorem atI_get {α : Type} {xs : List α} {i : Int} {v : α} (h : atI xs i = some v) : ∃ j, seqIndex? i xs.length = some j ∧ xs[j]? = some v ∧ j < xs.length ∧ -(xs.length : Int) ≤ i ∧ i < xs.length := by
  unfold atI at h
  cases e : ixN xs.length i with
  | none => rw [e] at h; cases h
  | some j =>
    rw [e] at h
    obtain ⟨h1, h2, h3, h4⟩ := ixN_seq e
    exact ⟨j, h1, h, h2, h3, h4⟩
theorem atI_nat {α : Type} {xs : List α} {j : Nat} {v : α} (h : xs[j]? = some v) : atI xs (j : Int) = some v := by
  have hj : j < xs.length := (List.getElem?_eq_some_iff.mp h).1
  have e : ixN xs.length (j : Int) = some j := by
    unfold ixN
    rw [if_pos (by omega), if_pos (by omega)]; simp
  unfold atI; rw [e]; exact h
theorem atI_last {α : Type} (xs : List α) (v : α) : atI (xs ++ [v]) (-1) = some v := by
  have hl : (xs ++ [v]).length = xs.length + 1 := by simp
  have e : ixN (xs ++ [v]).length (-1) = some xs.length := by
    unfold ixN
    rw [hl, if_neg (by decide), if_pos (by omega)]
    congr 1
    omega
  unfold atI
  rw [e]
  show (xs ++ [v])[xs.length]? = some v
  simp

/-! ### what may be subscripted -/
/-- what stands as an index of a plain subscript -/
def PlainIx (b : Expr) : Prop := ∀ o i, subscripted b false o i = operate [o, i] (getItem o i)
/-- a subscript by values -/
def IxR (X : Cx) (r : R2) : Prop :=
  ∀ (value slice : Expr) (pins : List (Addr × Obj)) (s : Shared) (σ : St) (H : Hp) (x y : V) (v u : Value) (Q : VK), Inv X pins σ H s → RelV x v → RelV y u → r x y H Q →
    subscripted slice false v u = operate [v, u] (getItem v u) → wpAny (model X.prog X.w) X.A (subscriptTail value slice v u) (EP X pins σ Q) X.xe s
/-- a call of a builtin's method by values: the receiver, the arguments -/
def MtR (X : Cx) (id : String) (r : V → List V → Hp → VK → Prop) : Prop :=
  ∀ (pins : List (Addr × Obj)) (s : Shared) (σ : St) (H : Hp) (x : V) (xs : List V) (v : Value) (us : List Value) (Q : VK), Inv X pins σ H s → RelV x v → Vals xs us → r x xs H Q →
    wpAny (model X.prog X.w) X.A (call (.builtin id) (v :: us)) (EP X pins σ Q) X.xe s
section
variable {X : Cx} {a b : Expr} {ta tb : TE} {pos : Pos}
theorem IxR.or {r r' : R2} (h : IxR X r) (h' : IxR X r') : IxR X (fun x y H Q => r x y H Q ∨ r' x y H Q) := by
  intro value slice pins s σ H x y v u Q I rx ry q hs
  rcases q with q | q
  · exact h value slice pins s σ H x y v u Q I rx ry q hs
  · exact h' value slice pins s σ H x y v u Q I rx ry q hs
/-- a[b] -/
theorem pe_ix {r : R2} (hr : IxR X r) (ha : PE X a ta) (hb : PE X b tb) (hs : PlainIx b) : PE X (.Subscript a b pos) (tOp r ta tb) := by
  intro pins s σ H Q I h
  exact Subscript_ (binT ha hb I h fun v u s2 x y H2 I2 rx ry q => hr a b pins s2 σ H2 x y v u Q I2 rx ry q (hs _ _))

def rIxL (K : PySem.W.Frag) : R2 := fun x y H Q => ∃ p xs i v, x = .ref p ∧ y = .int i ∧ SqL K H p xs ∧ atI xs i = some v ∧ Q v H
def rIxT (K : PySem.W.Frag) : R2 := fun x y H Q => ∃ p xs i v, x = .ref p ∧ y = .int i ∧ SqT K H p xs ∧ atI xs i = some v ∧ Q v H
def rIxS : R2 := fun x y H Q => ∃ z i c, x = .str z ∧ y = .int i ∧ z.length ≤ sizeLine ∧ atI z.cps.toList i = some c ∧ Q (.str ⟨#[c]⟩) H
theorem ix_list : IxR X (rIxL X.K) := by
  intro value slice pins s σ H x y v u Q I rx ry h hs
  obtain ⟨p, xs, i, z, rfl, rfl, hq, he, q⟩ := h
  cases rx
  obtain ⟨t, rfl⟩ := ry
  obtain ⟨its, r, pl, hz⟩ := I.list hq
  obtain ⟨j, h1, h2, h3, h4, h5⟩ := atI_get he
  obtain ⟨w, ew, rw'⟩ := r.get h2
  have hl := r.length
  have hn := line63
  have fin : EP X pins σ Q w s := ⟨z, H, I, rw', q⟩
  by_cases h0 : 0 ≤ i
  · have hj : i.toNat = j := by
      rw [seqIndex_of h0 h5] at h1
      exact Option.some.inj h1
    exact item_listR pl.isList h0 (by omega) (by rw [hj]; simpa using ew) fin hs
  · have hj : (i + (its.toArray.size : Int)).toNat = j := by
      rw [seqIndex_neg (by omega) h4] at h1
      rw [List.size_toArray, ← hl]
      exact Option.some.inj h1
    exact subscriptTail_builtinR (x := w) pl.isList.typeIs slot_list_getitem.lookup
      (wpAny_getItem_list_neg (Q := fun r s' => r = w ∧ EP X pins σ Q r s') pl.isList (by omega) (by rw [List.size_toArray] <;> omega) (by omega) (by rw [hj]; simpa using ew) ⟨rfl, fin⟩) hs
theorem ix_tup : IxR X (rIxT X.K) := by
  intro value slice pins s σ H x y v u Q I rx ry h hs
  obtain ⟨p, xs, i, z, rfl, rfl, hq, he, q⟩ := h
  cases rx
  obtain ⟨t, rfl⟩ := ry
  obtain ⟨its, r, pl, hz⟩ := I.tuple hq
  obtain ⟨j, h1, h2, h3, h4, h5⟩ := atI_get he
  obtain ⟨w, ew, rw'⟩ := r.get h2
  have hl := r.length
  have hn := line63
  have fin : EP X pins σ Q w s := ⟨z, H, I, rw', q⟩
  exact subscriptTail_builtinR (x := w) pl.typeIs slot_tuple_getitem.lookup
    (getItem_tuple (j := j) (Q := fun r s' => r = w ∧ EP X pins σ Q r s') pl (by omega) (by omega) (by rw [List.size_toArray, ← hl]; exact h1) (by simpa using ew) ⟨rfl, fin⟩) hs
theorem ix_str : IxR X rIxS := by
  intro value slice pins s σ H x y v u Q I rx ry h hs
  obtain ⟨z, i, c, rfl, rfl, hz, he, q⟩ := h
  obtain ⟨t, rfl⟩ := rx
  obtain ⟨t', rfl⟩ := ry
  obtain ⟨j, h1, h2, h3, h4, h5⟩ := atI_get he
  have hl : z.cps.toList.length = z.length := by simp [Str.length]
  rw [hl] at h1 h4 h5
  have hn := line63
  exact tail_any (typeIs_str s z t) slot_str_getitem.lookup (getItem_str (c := c) (by
    have e1 : decide (i < -(2 ^ 63 : Int)) = false := decide_eq_false (by omega)
    have e2 : decide (i ≥ 2 ^ 63) = false := decide_eq_false (by omega)
    rw [e1, e2, Bool.or_false]) (by rw [h1]; simpa using h2) ⟨.str ⟨#[c]⟩, H, I.tok _, ⟨_, rfl⟩, q⟩) hs
/-- list, tuple or str -/
def rIx (K : PySem.W.Frag) : R2 := fun x y H Q => rIxL K x y H Q ∨ rIxT K x y H Q ∨ rIxS x y H Q
theorem ix_seq : IxR X (rIx X.K) := ix_list.or (ix_tup.or ix_str)

/-! ### xs[i] = v, any sign -/
/-- the list's object behind a store -/
theorem mapSeq_set (its : List Value) (n j : Nat) (u : Value) : Obj.mapSeq (·.setIfInBounds j u) { cls := .type "list", data := .seq its.toArray n } = { cls := .type "list", data := .seq (its.set j u).toArray n } := by
  simp [Obj.mapSeq]
theorem Inv.lst {pins : List (Addr × Obj)} {σ : St} {H : Hp} {s : Shared} {p : Addr} {xs : List V} (I : Inv X pins σ H s) (h : H p = some (.lst xs)) :
    ∃ (its : List Value) (n : Nat), Vals xs its ∧ s.heap.get? p = some { cls := .type "list", data := .seq its.toArray n } ∧ xs.length ≤ sizeLine := by
  obtain ⟨z, its, n, r, e⟩ := I.hok p _ h
  exact ⟨its, n, r, e, z⟩
/-- the list at p is written by an update of its object -/
theorem Inv.lstUpd {pins : List (Addr × Obj)} {σ : St} {H : Hp} {s : Shared} {p : Addr} {xs ys : List V} {its its' : List Value} {n n' : Nat} {f : Obj → Obj} (I : Inv X pins σ H s) (h : H p = some (.lst xs))
    (ho : s.heap.get? p = some { cls := .type "list", data := .seq its.toArray n }) (hf : f { cls := .type "list", data := .seq its.toArray n } = { cls := .type "list", data := .seq its'.toArray n' }) (r : Vals ys its') (hz : ys.length ≤ sizeLine) (t : Nat) :
    Inv X pins σ (upd H p (.lst ys)) { s with heap := s.heap.update p f, toks := t } := by
  have e : (s.heap.update p f).get? p = some { cls := .type "list", data := .seq its'.toArray n' } := by
    rw [Heap.get?_update_self f ho (by rw [hf] <;> rfl), hf]
  refine I.write (x := p) (e := p) (by rw [h]; trivial) (.inl rfl) (fun b u hb q => (Heap.get?_update_other _ _ (Ne.symm hb)).trans q) ⟨_, e⟩ ?_
  exact ⟨hz, its', n', r, e⟩
def rSetL : V → V → V → Hp → (Hp → Prop) → Prop := fun o i v H Q => ∃ p xs k j, o = .ref p ∧ i = .int k ∧ H p = some (.lst xs) ∧ ixN xs.length k = some j ∧ Q (upd H p (.lst (xs.set j v)))
theorem set_list : PSet X rSetL := by
  intro pins s σ H o i v ov iv u Q I ro ri rv h
  obtain ⟨p, xs, k, j, rfl, rfl, hp, hj, q⟩ := h
  cases ro
  obtain ⟨t, rfl⟩ := ri
  obtain ⟨its, n, r, ho, hz⟩ := I.lst hp
  obtain ⟨h1, h2, h3, h4⟩ := ixN_seq hj
  have hl := r.length
  have hn := line63
  have I' : Inv X pins σ (upd H p (.lst (xs.set j v))) { s with heap := s.heap.update p (Obj.mapSeq (·.setIfInBounds j u)) } :=
    I.lstUpd hp ho (mapSeq_set its n j u) (r.set rv j) (by rw [List.length_set]; exact hz) s.toks
  by_cases h0 : 0 ≤ k
  · have hk : k.toNat = j := by
      rw [seqIndex_of h0 h4] at h1
      exact Option.some.inj h1
    exact PySem.W.ki_setAt ho h0 (by omega) (by rw [List.size_toArray, ← hl]; exact h4) (by rw [hk]; exact ⟨_, I', q⟩)
  · have hk : (k + (its.toArray.size : Int)).toNat = j := by
      rw [seqIndex_neg (by omega) h3] at h1
      rw [List.size_toArray, ← hl]
      exact Option.some.inj h1
    exact PySem.W.ki_setBack ho (by omega) (by rw [List.size_toArray, ← hl]; exact h3) (by omega) (by rw [hk]; exact ⟨_, I', q⟩)

/-! ### slices -/
/-- xs[lo:hi] of a list: a new list -/
def rSlL (K : PySem.W.Frag) : V → Option Int → Option Int → Hp → VK → Prop := fun x lo hi H Q => ∃ a xs, x = .ref a ∧ SqL K H a xs ∧ ∀ p, H p = none → Q (.ref p) (upd H p (.lst (cutV xs lo hi)))
/-! ### in, not in: flat items -/
def flatV : V → Bool
  | .non => true
  | .bl _ => true
  | .int _ => true
  | .str _ => true
  | _ => false
/-- == of flat values -/
def eqV : V → V → Bool
  | .non, .non => true
  | .bl a, .bl b => a == b
  | .bl a, .int b => (if a then 1 else 0) == b
  | .int a, .bl b => a == (if b then 1 else 0)
  | .int a, .int b => a == b
  | .str a, .str b => a == b
  | _, _ => false
/-- the items' answers, read off the values (a value's own answer does not lean on its token) -/
def eqU (x : V) (u : Value) : Bool := match u with
  | .none => eqV .non x
  | .bool b => eqV (.bl b) x
  | .int i _ => eqV (.int i) x
  | .str z _ => eqV (.str z) x
  | _ => false
def inV (x : V) (xs : List V) : Bool := xs.any fun y => eqV y x
/-- x in a list or tuple of flat items -/
def rIn (K : PySem.W.Frag) (neg : Bool) : R2 := fun x y H Q => ∃ p xs, y = .ref p ∧ (SqL K H p xs ∨ SqT K H p xs) ∧ flatV x = true ∧ xs.all flatV = true ∧ Q (.bl (if neg then !inV x xs else inV x xs)) H
/-! ### len, list(x), tuple(x) of any list or tuple that is read -/
theorem call_len_seq : CallR X (.builtin "len") (fun xs H Q => ∃ p ys, xs = [.ref p] ∧ (SqL X.K H p ys ∨ SqT X.K H p ys) ∧ Q (.int ys.length) H) := by
  intro pins s σ H xs us Q I r h
  obtain ⟨p, ys, rfl, hq, q⟩ := h
  obtain ⟨u, rfl, rx⟩ := vals1 r
  cases rx
  have hn := line63
  rcases hq with hq | hq
  · obtain ⟨its, r', pl, hz⟩ := I.list hq
    have hlen := r'.length
    exact Calls.call_len_list pl.isList (by simp only [List.size_toArray] <;> omega) ⟨.int ys.length, H, I.tok _, ⟨s.toks + 1, by rw [List.size_toArray, hlen]⟩, q⟩
  · obtain ⟨its, r', pl, hz⟩ := I.tuple hq
    have hlen := r'.length
    exact len_tuple pl (by simp only [List.size_toArray] <;> omega) ⟨.int ys.length, H, I.tok _, ⟨s.toks + 1, by rw [List.size_toArray, hlen]⟩, q⟩
/-! ### the call of a builtin's method: o.m(..) -/
/-- the value is of that builtin type -/
def tyV (K : PySem.W.Frag) (T : String) (x : V) (H : Hp) : Prop := match x with
  | .str _ => T = "str"
  | .int _ => T = "int"
  | .ref p => (T = "list" ∧ ∃ xs, SqL K H p xs) ∨ (T = "tuple" ∧ ∃ o, K.lookup p = some o ∧ o.cls = .type "tuple" ∧ o.dict = none) ∨
      (T = "dict" ∧ ((∃ kvs, H p = some (.dK kvs)) ∨ ∃ kvs, H p = some (.dT kvs))) ∨ (T = "set" ∧ ∃ S n, H p = some (.set S n))
  | _ => False
theorem tyV_is {pins : List (Addr × Obj)} {σ : St} {H : Hp} {s : Shared} {T : String} {x : V} {v : Value} (I : Inv X pins σ H s) (r : RelV x v) (ty : tyV X.K T x H) :
    s.TypeIs v T ∧ ∀ a, v = .ref a → ∃ ob, s.heap.get? a = some ob ∧ ob.dict = none := by
  cases x with
  | str z =>
    obtain ⟨t, rfl⟩ := r
    cases (show T = "str" from ty)
    exact ⟨typeIs_str s z t, fun _ e => nomatch e⟩
  | int i =>
    obtain ⟨t, rfl⟩ := r
    cases (show T = "int" from ty)
    exact ⟨typeIs_int s i t, fun _ e => nomatch e⟩
  | ref p =>
    cases r
    rcases ty with ⟨rfl, xs, hq⟩ | ⟨rfl, o, hk, hc, hd⟩ | ⟨rfl, hk⟩ | ⟨rfl, S, n, hk⟩
    · obtain ⟨its, _, pl, _⟩ := I.list hq
      refine ⟨pl.isList.typeIs, fun a e => ?_⟩
      cases e
      obtain ⟨o, n, e, c, hd, _⟩ := pl
      exact ⟨o, e, hd⟩
    · refine ⟨⟨o, I.kIn p o hk, hc⟩, fun a e => ?_⟩
      cases e
      exact ⟨o, I.kIn _ o hk, hd⟩
    · have z : ∃ o, s.heap.get? p = some o ∧ o.ExactDict := by
        rcases hk with ⟨kvs, hk⟩ | ⟨kvs, hk⟩
        · obtain ⟨_, _, _, _, o, _, _, e, ex, _⟩ := I.hok p _ hk
          exact ⟨o, e, ex⟩
        · obtain ⟨_, _, _, _, o, _, _, e, ex, _⟩ := I.hok p _ hk
          exact ⟨o, e, ex⟩
      obtain ⟨o, e, ex⟩ := z
      refine ⟨⟨o, e, ex.1⟩, fun a e2 => ?_⟩
      cases e2
      exact ⟨o, e, ex.2.1⟩
    · obtain ⟨o, _, _, _, e, ex, _⟩ := I.hok p _ hk
      refine ⟨⟨o, e, ex.1⟩, fun a e2 => ?_⟩
      cases e2
      exact ⟨o, e, ex.2.1⟩
  | _ => exact False.elim ty
def tBM0 (K : PySem.W.Frag) (T : String) (r : V → List V → Hp → VK → Prop) (to : TE) : TE := fun σ H Q => to σ H fun x H1 => tyV K T x H1 ∧ r x [] H1 Q
def tBM (K : PySem.W.Frag) (T : String) (r : V → List V → Hp → VK → Prop) (to : TE) (t : TA) : TE := fun σ H Q => to σ H fun x H1 => tyV K T x H1 ∧ t σ H1 fun xs H2 => r x xs H2 Q
variable {o e : Expr} {es : List Expr} {to : TE} {t : TA} {name : Str} {apos cpos : Pos} {T id : String} {r : V → List V → Hp → VK → Prop}
theorem pe_bm0 (pa : PlainAttrs T) (slot : Slot T name id) (hty : typeOf (.builtin id) = pure (.type "method_descriptor")) (hm : MtR X id r) (ho : PE X o to)
    (hbase : attributeBase o name X.env (eval o X.env) = eval o X.env := by rfl) (hline : (apos.endLine == cpos.line) = true := by rfl) : PE X (.Call (.Attribute o name apos) [] [] cpos) (tBM0 X.K T r to) := by
  intro pins s σ H Q I h
  refine wpAny_Call_method0_late hbase hline (thn (ho pins s σ H _ I h) fun v s1 ⟨x, H1, I1, r1, ty, q1⟩ => ?_)
  obtain ⟨h1, h2⟩ := tyV_is I1 r1 ty
  exact ⟨T, id, pa, slot, hty, h1, h2, Calls.callWith_builtin rfl (PySem.evalArgs_none (hm pins s1 σ H1 x [] v [] Q I1 r1 .nil q1))⟩
/- xs.append(e), list.index on a module's tuple .. are MtR facts of 06m -/
end
end L2

namespace L2
open PySem PySem.Spec PyProof.Rows

def MtM (X : Cx) (id : String) (r : V → List V → Hp → VK → Prop) : Prop :=
  ∀ (pins : List (Addr × Obj)) (s : Shared) (σ : St) (H : Hp) (x : V) (xs : List V) (v : Value) (us : List Value) (Q : VK), Inv X pins σ H s → RelV x v → Vals xs us → r x xs H Q →
    wpAny (model X.prog X.w) X.A (call (.builtin id) (v :: us)) (EP X pins σ Q) X.xe s

/-! ### lists of values -/
section
variable {X : Cx} {pins : List (Addr × Obj)} {σ : St} {H : Hp} {s : Shared} {l b : Addr} {xs ys zs : List V}

/-! ### the two steps: a tracked list is rewritten, a new list is laid -/
end

section
variable {X : Cx}

/-! ### methods -/
def rAppend : V → List V → Hp → VK → Prop := fun x vs H Q => ∃ l xs y, x = .ref l ∧ vs = [y] ∧ H l = some (.lst xs) ∧ xs.length < sizeLine ∧ Q .non (upd H l (.lst (xs ++ [y])))
def rExtend : V → List V → Hp → VK → Prop := fun x vs H Q => ∃ l b xs zs, x = .ref l ∧ vs = [.ref b] ∧ H l = some (.lst xs) ∧ H b = some (.lst zs) ∧ xs.length + zs.length ≤ sizeLine ∧ Q .non (upd H l (.lst (xs ++ zs)))
def rPop : V → List V → Hp → VK → Prop := fun x vs H Q => ∃ l xs y, x = .ref l ∧ vs = [] ∧ H l = some (.lst xs) ∧ xs[xs.length - 1]? = some y ∧ Q y (upd H l (.lst xs.dropLast))
def rPopAt : V → List V → Hp → VK → Prop := fun x vs H Q => ∃ l xs i k y, x = .ref l ∧ vs = [.int i] ∧ H l = some (.lst xs) ∧ -(2 ^ 63) ≤ i ∧ i < 2 ^ 63 ∧ seqIndex? i xs.length = some k ∧ xs[k]? = some y ∧ Q y (upd H l (.lst (xs.eraseIdx k)))
def rReverse : V → List V → Hp → VK → Prop := fun x vs H Q => ∃ l xs, x = .ref l ∧ vs = [] ∧ H l = some (.lst xs) ∧ Q .non (upd H l (.lst xs.reverse))
def rClear : V → List V → Hp → VK → Prop := fun x vs H Q => ∃ l xs, x = .ref l ∧ vs = [] ∧ H l = some (.lst xs) ∧ Q .non (upd H l (.lst []))
/-! ### list + list, list += list, list * int -/
def rCat : R2 := fun x y H Q => ∃ l b xs zs, x = .ref l ∧ y = .ref b ∧ H l = some (.lst xs) ∧ H b = some (.lst zs) ∧ xs.length + zs.length ≤ sizeLine ∧ ∀ p, H p = none → Q (.ref p) (upd H p (.lst (xs ++ zs)))
/-- a list times an int (a negative one is nothing) -/
def rRep : R2 := fun x y H Q => ∃ l k xs, x = .ref l ∧ y = .int k ∧ H l = some (.lst xs) ∧ -(2 ^ 63) ≤ k ∧ k < 2 ^ 63 ∧ xs.length * k.toNat ≤ sizeLine ∧
  ∀ p, H p = none → Q (.ref p) (upd H p (.lst (List.replicate k.toNat xs).flatten))
/-! ### del xs[i] -/
end

/-! ### xs[a:b] = ys -/
section
variable {prog : Program} {w : World} {A : Around} {E : Value → Shared → Prop} {s : Shared}
end

section
variable {X : Cx}
end
end L2

namespace L2
open PySem PySem.Spec PyProof.Rows

/-! ### the library's walks over a list of ints, kept objects alone -/
section
variable {prog : Program} {w : World} {A : Around} {E : Value → Shared → Prop} {s : Shared} {l : Addr} {its : List Value} {ns : List Int} {Q : Value → Shared → Prop}
end

/-! ### the calls, by values (CallR of 03t; MtR of 06l) -/
section
variable {X : Cx}
/-- sum(xs) of a list of ints -/
def rSum (K : PySem.W.Frag) : List V → Hp → VK → Prop := fun vs H Q => ∃ (a : Addr) (ns : List Int), vs = [V.ref a] ∧ SqL K H a (ns.map V.int) ∧ Q (.int ns.sum) H
/-- max(xs), min(xs) of a list of ints -/
def rMax (K : PySem.W.Frag) : List V → Hp → VK → Prop := fun vs H Q => ∃ (a : Addr) (ns : List Int), vs = [V.ref a] ∧ SqL K H a (ns.map V.int) ∧ 0 < ns.length ∧ ∀ m, m ∈ ns → (∀ y, y ∈ ns → y ≤ m) → Q (.int m) H
def rMin (K : PySem.W.Frag) : List V → Hp → VK → Prop := fun vs H Q => ∃ (a : Addr) (ns : List Int), vs = [V.ref a] ∧ SqL K H a (ns.map V.int) ∧ 0 < ns.length ∧ ∀ m, m ∈ ns → (∀ y, y ∈ ns → m ≤ y) → Q (.int m) H
/-! sorted, sort (fewer than 64 items: the library's own bound) -/
def rSorted (K : PySem.W.Frag) : List V → Hp → VK → Prop := fun vs H Q => ∃ (a : Addr) (ns : List Int), vs = [V.ref a] ∧ SqL K H a (ns.map V.int) ∧ ns.length < 64 ∧
  ∀ (ns' : List Int) (p : Addr), ns'.Perm ns → ns'.Pairwise (· ≤ ·) → H p = none → Q (.ref p) (upd H p (.lst (ns'.map V.int)))
def rSortedS (K : PySem.W.Frag) : List V → Hp → VK → Prop := fun vs H Q => ∃ (a : Addr) (xs : List Str), vs = [V.ref a] ∧ SqL K H a (xs.map V.str) ∧ xs.length < 64 ∧
  ∀ (ys : List Str) (p : Addr), ys.Perm xs → sortedS ys = true → H p = none → Q (.ref p) (upd H p (.lst (ys.map V.str)))
/-- xs.sort(), ints -/
def rSort : V → List V → Hp → VK → Prop := fun x xs H Q => ∃ (a : Addr) (ns : List Int), x = V.ref a ∧ xs = [] ∧ H a = some (.lst (ns.map V.int)) ∧ ns.length < 64 ∧
  ∀ ns' : List Int, ns'.Perm ns → ns'.Pairwise (· ≤ ·) → Q .non (upd H a (.lst (ns'.map V.int)))
end

/-! ### list.index, flat items -/
section
variable {X : Cx}
def rIndex (K : PySem.W.Frag) : V → List V → Hp → VK → Prop := fun x xs H Q => ∃ (a : Addr) (ys : List V) (y : V) (j : Nat) (z : V), x = V.ref a ∧ xs = [y] ∧ SqL K H a ys ∧ flatV y = true ∧ ys.all flatV = true ∧ ys[j]? = some z ∧ eqV z y = true ∧
  (∀ (m : Nat) (z' : V), m < j → ys[m]? = some z' → eqV z' y = false) ∧ Q (.int (j : Nat)) H
end

/-! ### type(x) of an own instance; is, is not of a module's class -/
section
variable {X : Cx}
end

/-! ### any(xs), all(xs) of a list of bools -/
section
variable {X : Cx}
def rAny (K : PySem.W.Frag) : List V → Hp → VK → Prop := fun vs H Q => ∃ (a : Addr) (bs : List Bool), vs = [V.ref a] ∧ SqL K H a (bs.map V.bl) ∧ Q (.bl (bs.any id)) H
def rAll (K : PySem.W.Frag) : List V → Hp → VK → Prop := fun vs H Q => ∃ (a : Addr) (bs : List Bool), vs = [V.ref a] ∧ SqL K H a (bs.map V.bl) ∧ Q (.bl (bs.all id)) H
end

/-! ### == and != of data at any depth: none, bools, ints, texts, lists, tuples -/
mutual
inductive Dp (K : PySem.W.Frag) (H : Hp) : V → PyData → Prop
  | non : Dp K H .non .none
  | bl (b : Bool) : Dp K H (.bl b) (.bool b)
  | int (i : Int) : Dp K H (.int i) (.int i)
  | str (x : Str) : Dp K H (.str x) (.str x)
  | lst {a : Addr} {xs : List V} {ds : List PyData} : SqL K H a xs → DpAll K H xs ds → Dp K H (.ref a) (.list ds)
  | tup {a : Addr} {xs : List V} {ds : List PyData} : SqT K H a xs → DpAll K H xs ds → Dp K H (.ref a) (.tuple ds)
inductive DpAll (K : PySem.W.Frag) (H : Hp) : List V → List PyData → Prop
  | nil : DpAll K H [] []
  | cons {v : V} {vs : List V} {d : PyData} {ds : List PyData} : Dp K H v d → DpAll K H vs ds → DpAll K H (v :: vs) (d :: ds)
end
section
variable {X : Cx} {pins : List (Addr × Obj)} {σ : St} {H : Hp} {s : Shared}
mutual
theorem Dp.reads (I : Inv X pins σ H s) : ∀ (d : PyData) (v : V) (u : Value), Dp X.K H v d → RelV v u → ∃ as, Reads s.heap u d as
  | .none, _, _, h, r => by
    cases h
    cases r
    exact ⟨_, Reads.none⟩
  | .bool b, _, _, h, r => by
    cases h
    cases r
    exact ⟨_, Reads.bool b⟩
  | .int i, _, _, h, r => by
    cases h
    obtain ⟨t, rfl⟩ := r
    exact ⟨_, Reads.int i t⟩
  | .str x, _, _, h, r => by
    cases h
    obtain ⟨t, rfl⟩ := r
    exact ⟨_, Reads.str x t⟩
  | .list ds, _, _, h, r => by
    cases h with
    | lst hs ha =>
      cases r
      obtain ⟨its, rv, ⟨o, n, ho, hc, _, hd⟩, _⟩ := I.list hs
      obtain ⟨as, hr⟩ := Dp.readsAll I ds _ its ha rv
      exact ⟨_, Reads.list ho hc hd hr⟩
  | .tuple ds, _, _, h, r => by
    cases h with
    | tup hs ha =>
      cases r
      obtain ⟨its, rv, ⟨o, ho, hc, n, hd⟩, _⟩ := I.tuple hs
      obtain ⟨as, hr⟩ := Dp.readsAll I ds _ its ha rv
      exact ⟨_, Reads.tuple ho hc hd hr⟩
  | .dict _, _, _, h, _ => by cases h
theorem Dp.readsAll (I : Inv X pins σ H s) : ∀ (ds : List PyData) (vs : List V) (us : List Value), DpAll X.K H vs ds → Vals vs us → ∃ as, ReadsAll s.heap us ds as
  | [], _, _, h, r => by
    cases h
    cases r
    exact ⟨_, ReadsAll.nil⟩
  | d :: ds, _, _, h, r => by
    cases h with
    | cons h1 h2 =>
      cases r with
      | cons r1 r2 =>
        obtain ⟨as, q1⟩ := Dp.reads I d _ _ h1 r1
        obtain ⟨bs, q2⟩ := Dp.readsAll I ds _ _ h2 r2
        exact ⟨_, ReadsAll.cons q1 q2⟩
end
end
section
variable {X : Cx}
def rEqD (K : PySem.W.Frag) : R2 := fun x y H Q => ∃ d e, Dp K H x d ∧ Dp K H y e ∧ SeqAt.shaped d = true ∧ SeqAt.shaped e = true ∧ Q (.bl (PyData.eqv d e)) H
def rNeD (K : PySem.W.Frag) : R2 := fun x y H Q => ∃ d e, Dp K H x d ∧ Dp K H y e ∧ SeqAt.shaped d = true ∧ SeqAt.shaped e = true ∧ Q (.bl (!PyData.eqv d e)) H
theorem op_eqD (hu : X.A.units + 64 < cLine) : OpR X (compareOp .Eq) (rEqD X.K) := by
  intro pins s σ H x y v u Q I rx ry h
  obtain ⟨d, e, hd, he, sd, se, q⟩ := h
  obtain ⟨as, r1⟩ := Dp.reads I d x v hd rx
  obtain ⟨bs, r2⟩ := Dp.reads I e y u he ry
  exact SeqAt.compareEq_shaped r1 r2 sd se hu ⟨.bl _, H, I, rfl, q⟩
theorem op_neD (hu : X.A.units + 64 < cLine) : OpR X (compareOp .NotEq) (rNeD X.K) := by
  intro pins s σ H x y v u Q I rx ry h
  obtain ⟨d, e, hd, he, sd, se, q⟩ := h
  obtain ⟨as, r1⟩ := Dp.reads I d x v hd rx
  obtain ⟨bs, r2⟩ := Dp.reads I e y u he ry
  exact SeqAt.compareNe_shaped r1 r2 sd se hu ⟨.bl _, H, I, rfl, q⟩
end
end L2

namespace L2
open PySem PySem.Spec PyProof.Rows
abbrev CellAt (h : Heap) (c : Addr) (v : Option Value) : Prop := h.IsCell c v
def relS (scope sc : Scope) : Scope :=
  { scope with names := scope.names.map fun (n, k) => if (k == .free && sc.kind == .function && sc.names.lookup n == some .cell) then (n, .cell) else (n, k) }

def cloFrom (cells : List (Str × Addr)) : List (Str × NameKind) → List (Str × Addr) → List (Str × Addr)
  | [], acc => acc
  | (n, k) :: r, acc => if k == .free then cloFrom cells r ((n, (cells.lookup n).getD 0) :: acc) else cloFrom cells r acc

theorem closure_loop (env : Env) (f : Str × NameKind → List (Str × Addr) → Sem (ForInStep (List (Str × Addr))))
    (hf : ∀ n k c, f (n, k) c = if k == .free then (do let a ← cellOf env n; pure (.yield ((n, a) :: c))) else pure (.yield c)) :
    ∀ (names : List (Str × NameKind)) (acc : List (Str × Addr)), (∀ y ∈ names, y.2 = .free → ∃ c, env.cells.lookup y.1 = some c) → forIn names acc f = pure (cloFrom env.cells names acc)
  | [], acc, _ => by rw [List.forIn_nil]; rfl
  | (n, k) :: r, acc, h => by
    rw [List.forIn_cons, hf]
    have ih := fun acc => closure_loop env f hf r acc fun y hy => h y (List.mem_cons_of_mem _ hy)
    unfold cloFrom
    by_cases hk : (k == NameKind.free) = true
    · rw [if_pos hk, if_pos hk]
      obtain ⟨c, hc⟩ := h (n, k) List.mem_cons_self (by simpa using hk)
      have e : cellOf env n = pure c := by unfold cellOf; rw [hc]
      rw [e]
      have e2 : (env.cells.lookup n).getD 0 = c := by rw [hc]; rfl
      rw [e2]
      exact ih _
    · rw [if_neg hk, if_neg hk]
      exact ih _
theorem closure_ok {scope : Scope} {env : Env} (h : ∀ y ∈ scope.names, y.2 = .free → ∃ c, env.cells.lookup y.1 = some c) : closureFor scope env = pure (cloFrom env.cells scope.names []) := by
  simp only [closureFor]
  rw [closure_loop env _ (fun n k c => rfl) scope.names [] h]
  rfl

theorem mem_lookup {α : Type} : ∀ {l : List (Str × α)} {n : Str} {c : α}, (n, c) ∈ l → ∃ c', l.lookup n = some c'
  | (k, v) :: r, n, c, h => by
    rw [List.lookup_cons]
    cases hb : n == k with
    | true => exact ⟨_, rfl⟩
    | false =>
      rcases List.mem_cons.mp h with e | h
      · cases e; simp at hb
      · exact mem_lookup h

theorem cloFrom_mem {cells : List (Str × Addr)} : ∀ {names : List (Str × NameKind)} {acc : List (Str × Addr)} {n : Str} {c : Addr}, (n, c) ∈ cloFrom cells names acc → (n, c) ∈ acc ∨ ((n, .free) ∈ names ∧ c = (cells.lookup n).getD 0)
  | [], _, _, _, h => .inl h
  | (m, k) :: r, acc, n, c, h => by
    unfold cloFrom at h
    split at h
    · rename_i hk
      have hk : k = .free := by simpa using hk
      rcases cloFrom_mem h with h | ⟨h1, h2⟩
      · rcases List.mem_cons.mp h with e | h
        · cases e; exact .inr ⟨hk ▸ List.mem_cons_self, rfl⟩
        · exact .inl h
      · exact .inr ⟨List.mem_cons_of_mem _ h1, h2⟩
    · rcases cloFrom_mem h with h | ⟨h1, h2⟩
      · exact .inl h
      · exact .inr ⟨List.mem_cons_of_mem _ h1, h2⟩
theorem cloFrom_acc {cells : List (Str × Addr)} : ∀ {names : List (Str × NameKind)} {acc : List (Str × Addr)} {p : Str × Addr}, p ∈ acc → p ∈ cloFrom cells names acc
  | [], _, _, h => h
  | (m, k) :: r, acc, p, h => by
    unfold cloFrom
    split
    · exact cloFrom_acc (List.mem_cons_of_mem _ h)
    · exact cloFrom_acc h
theorem cloFrom_has {cells : List (Str × Addr)} : ∀ {names : List (Str × NameKind)} {acc : List (Str × Addr)} {n : Str}, (n, .free) ∈ names → (n, (cells.lookup n).getD 0) ∈ cloFrom cells names acc
  | (m, k) :: r, acc, n, h => by
    unfold cloFrom
    rcases List.mem_cons.mp h with e | h
    · cases e
      exact cloFrom_acc List.mem_cons_self
    · split
      · exact cloFrom_has h
      · exact cloFrom_has h

theorem cells_mem : ∀ {names : List (Str × NameKind)} {h : Heap} {acc : List (Str × Addr)} {x : Str} {c : Addr}, (x, c) ∈ cellsFrom h.objs.size names acc →
    (x, c) ∈ acc ∨ ((x, .cell) ∈ names ∧ h.objs.size ≤ c ∧ CellAt (pushCells h names) c none)
  | [], _, _, _, _, h => .inl h
  | (n, k) :: r, h, acc, x, c, hm => by
    unfold cellsFrom at hm
    unfold pushCells
    split at hm
    · rename_i hk
      rw [if_pos hk]
      have hk : k = .cell := by simpa using hk
      rw [← Heap.size_push h { cls := .type "cell", data := .cell none }] at hm
      rcases cells_mem hm with hm | ⟨h1, h2, h3⟩
      · rcases List.mem_cons.mp hm with e | hm
        · cases e
          exact .inr ⟨hk ▸ List.mem_cons_self, Nat.le_refl _, _, pushCells_keeps r _ _ _ (Heap.get?_push_size _ rfl), rfl⟩
        · exact .inl hm
      · rw [Heap.size_push] at h2
        exact .inr ⟨List.mem_cons_of_mem _ h1, Nat.le_of_succ_le h2, h3⟩
    · rename_i hk
      rw [if_neg hk]
      rcases cells_mem hm with hm | ⟨h1, h2, h3⟩
      · exact .inl hm
      · exact .inr ⟨List.mem_cons_of_mem _ h1, h2, h3⟩
theorem cells_acc : ∀ {names : List (Str × NameKind)} {n : Nat} {acc : List (Str × Addr)} {p : Str × Addr}, p ∈ acc → p ∈ cellsFrom n names acc
  | [], _, _, _, h => h
  | (m, k) :: r, n, acc, p, h => by
    unfold cellsFrom
    split
    · exact cells_acc (List.mem_cons_of_mem _ h)
    · exact cells_acc h
theorem cells_has : ∀ {names : List (Str × NameKind)} {n : Nat} {acc : List (Str × Addr)} {x : Str}, (x, .cell) ∈ names → ∃ c, (x, c) ∈ cellsFrom n names acc
  | (m, k) :: r, n, acc, x, h => by
    unfold cellsFrom
    rcases List.mem_cons.mp h with e | h
    · cases e
      exact ⟨n, cells_acc List.mem_cons_self⟩
    · split
      · exact cells_has h
      · exact cells_has h
theorem cells_inj : ∀ {names : List (Str × NameKind)} {h : Heap} {acc : List (Str × Addr)} {x y : Str} {c : Addr}, (∀ p ∈ acc, p.2 < h.objs.size) → (∀ x y c, (x, c) ∈ acc → (y, c) ∈ acc → x = y) →
    (x, c) ∈ cellsFrom h.objs.size names acc → (y, c) ∈ cellsFrom h.objs.size names acc → x = y
  | [], _, _, _, _, _, _, hi, h1, h2 => hi _ _ _ h1 h2
  | (n, k) :: r, h, acc, x, y, c, hl, hi, h1, h2 => by
    unfold cellsFrom at h1 h2
    split at h1
    · rename_i hk
      rw [if_pos hk] at h2
      rw [← Heap.size_push h { cls := .type "cell", data := .cell none }] at h1 h2
      refine cells_inj (h := h.push _) (fun p hp => ?_) (fun x y c a b => ?_) h1 h2
      · rw [Heap.size_push]
        rcases List.mem_cons.mp hp with rfl | hp
        · exact Nat.lt_succ_self _
        · exact Nat.lt_succ_of_lt (hl p hp)
      · rcases List.mem_cons.mp a with e | a <;> rcases List.mem_cons.mp b with e' | b
        · cases e; cases e'; rfl
        · cases e; exact absurd (hl _ b) (Nat.lt_irrefl _)
        · cases e'; exact absurd (hl _ a) (Nat.lt_irrefl _)
        · exact hi _ _ _ a b
    · rename_i hk
      rw [if_neg hk] at h2
      exact cells_inj hl hi h1 h2

theorem newEnv_comp {M : Model} {A : Around} {E : Value → Shared → Prop} {s : Shared} {scope : Scope} {globals : Addr} {closure : List (Str × Addr)} {qual : Str} {func : Option Addr} {code : Value} {around : Env} {builtins : Addr} {Q : Env → Shared → Prop}
    (h : Q (newEnv scope s.heap.objs.size globals (cellsFrom (s.heap.objs.size + 1) scope.names closure) qual func code (some around) builtins)
      { s with heap := pushCells (s.heap.push { cls := .type "dict", data := .dict #[] }) scope.names }) :
    wpAny M A (newFunctionEnv scope globals closure [] qual func code (some around) builtins) Q E s := by
  simp only [newFunctionEnv, Option.isSome_some, if_true]
  refine wpAny_bind (wpAny_alloc ?_)
  refine wpAny_bind (wpAny_layCells _ (fun n k c => rfl) scope.names closure _ _ ?_)
  rw [show ({ s with heap := s.heap.push { cls := .type "dict", data := .dict #[] } } : Shared).heap.objs.size = s.heap.objs.size + 1 from Heap.size_push ..]
  rw [List.forIn_nil]
  exact wpAny_bind (wpAny_pure (wpAny_pure h))

/-- every name of the written scope, in the scope that runs -/
theorem lookup_relS {sc : Scope} : ∀ {names : List (Str × NameKind)} {x : Str} {k : NameKind},
    (names.map fun (n, k) => if (k == NameKind.free && sc.kind == .function && sc.names.lookup n == some .cell) then (n, NameKind.cell) else (n, k)).lookup x = some k →
    ∃ k', names.lookup x = some k' ∧ (k = k' ∨ (k' = .free ∧ k = .cell))
  | [], _, _, h => by simp at h
  | (n, k₀) :: r, x, k, h => by
    have ih := @lookup_relS sc r x k
    have h' : List.lookup x ((if (k₀ == NameKind.free && sc.kind == .function && sc.names.lookup n == some .cell) = true then (n, NameKind.cell) else (n, k₀)) :: (r.map _)) = some k := h
    cases hx : x == n with
    | true =>
      simp only [List.lookup_cons, hx]
      by_cases hc : (k₀ == NameKind.free && sc.kind == .function && sc.names.lookup n == some .cell) = true
      · rw [if_pos hc] at h'
        simp only [List.lookup_cons, hx] at h'
        cases h'
        simp only [Bool.and_eq_true, beq_iff_eq] at hc
        exact ⟨k₀, rfl, .inr ⟨hc.1.1, rfl⟩⟩
      · rw [if_neg hc] at h'
        simp only [List.lookup_cons, hx] at h'
        cases h'
        exact ⟨_, rfl, .inl rfl⟩
    | false =>
      simp only [List.lookup_cons, hx]
      by_cases hc : (k₀ == NameKind.free && sc.kind == .function && sc.names.lookup n == some .cell) = true
      · rw [if_pos hc] at h'
        simp only [List.lookup_cons, hx] at h'
        exact ih h'
      · rw [if_neg hc] at h'
        simp only [List.lookup_cons, hx] at h'
        exact ih h'
/-- the names of a comprehension's block: its own (with their places in N), or captured -/
structure BlkOk (N : List Str) (sc scope : Scope) (own : List (Str × Nat)) : Prop where
  kind : scope.kind = .function
  uniq : ∀ y ∈ scope.names, scope.names.lookup y.1 = some y.2
  ix : ∀ p ∈ own, N[p.2]? = some p.1
  free : ∀ y ∈ scope.names, y.2 = .free → sc.names.lookup y.1 = some .cell ∨ sc.names.lookup y.1 = some .free
  own : ∀ y ∈ scope.names, y.2 = .local ∨ y.2 = .cell → y.1 ∈ own.map (·.1) ∨ y.1 ∉ N
/-- the slots of the block's own names forgotten -/
def wipe (σ : St) : List Nat → St
  | [] => σ
  | v :: vs => (wipe σ vs).set v none
theorem wipe_length (σ : St) : ∀ vs : List Nat, (wipe σ vs).length = σ.length
  | [] => rfl
  | v :: vs => by unfold wipe; rw [List.length_set, wipe_length σ vs]
theorem wipe_some {σ : St} {i : Nat} {x : V} : ∀ {vs : List Nat}, (wipe σ vs)[i]? = some (some x) → σ[i]? = some (some x) ∧ i ∉ vs
  | [], h => ⟨h, by simp⟩
  | v :: vs, h => by
    unfold wipe at h
    by_cases hi : v = i
    · subst hi
      by_cases hv : v < (wipe σ vs).length
      · rw [List.getElem?_set_self hv] at h; cases h
      · rw [List.getElem?_eq_none (by simpa using hv)] at h; cases h
    · rw [List.getElem?_set_ne hi] at h
      obtain ⟨h1, h2⟩ := wipe_some h
      exact ⟨h1, by simp only [List.mem_cons, not_or]; exact ⟨fun e => hi e.symm, h2⟩⟩

/-- the context of a block that starts at s, its iterator's objects at fp -/
abbrev Cx.blk (X : Cx) (s : Shared) (H : Hp) (scope : Scope) (cenv : Env) (fp : List Addr) : Cx := { X with s_0 := s, H_0 := H, env := cenv, outer := X.stack, ex := fp, fn := fun x => scope.names.lookup x == some .cell, pn := [], xe := fun _ _ => False }
section
variable {X : Cx} {pins : List (Addr × Obj)} {σ : St} {H : Hp} {s : Shared}
theorem block_start {scope : Scope} {own : List (Str × Nat)} {fp : List Addr} (I : Inv X pins σ H s) (ok : BlkOk X.N X.env.scope scope own) (hN : X.N.Nodup) (hfp : ∀ b ∈ fp, FpOk X pins H b ∧ b < s.heap.objs.size) :
    Inv (X.blk s H scope (compEnvC scope (cellsFrom (s.heap.objs.size + 1) scope.names (cloFrom X.env.cells scope.names [])) s.heap.objs.size X.env) fp) [] (wipe σ (own.map (·.2))) H { s with heap := pushCells (s.heap.push { cls := .type "dict", data := .dict #[] }) scope.names } := by
  have hfree : ∀ y ∈ scope.names, y.2 = .free → ∃ c, X.env.cells.lookup y.1 = some c := fun y hy e => by
    rcases ok.free y hy e with k | k
    · exact I.ok.has _ (.inl k)
    · exact I.ok.has _ (.inr k)
  generalize hcenv : compEnvC scope (cellsFrom (s.heap.objs.size + 1) scope.names (cloFrom X.env.cells scope.names [])) s.heap.objs.size X.env = cenv
  have kp : ∀ b o, s.heap.get? b = some o → (pushCells (s.heap.push { cls := .type "dict", data := .dict #[] }) scope.names).get? b = some o := fun b o e => pushCells_keeps _ _ _ _ (Heap.get?_push_of_some _ e)
  have hL : cenv.locals = s.heap.objs.size := by rw [← hcenv]; rfl
  have hcl : cenv.cells = cellsFrom (s.heap.objs.size + 1) scope.names (cloFrom X.env.cells scope.names []) := by rw [← hcenv]; rfl
  have hsc : cenv.scope = relS scope X.env.scope := by rw [← hcenv]; rfl
  rw [← Heap.size_push s.heap { cls := .type "dict", data := .dict #[] }] at hcl
  have cm : ∀ {y c}, (y, c) ∈ cloFrom X.env.cells scope.names [] → X.env.cells.lookup y = some c ∧ c < s.heap.objs.size := fun {y c} hm => by
    rcases cloFrom_mem hm with hm | ⟨h1, rfl⟩
    · cases hm
    · obtain ⟨c, hc⟩ := hfree _ h1 rfl
      rw [hc]
      obtain ⟨w, z⟩ := I.cell _ _ hc
      exact ⟨rfl, z.lt⟩
  have mem : ∀ {y c}, cenv.cells.lookup y = some c → (X.env.cells.lookup y = some c ∧ c < s.heap.objs.size) ∨ (s.heap.objs.size + 1 ≤ c ∧ CellAt (pushCells (s.heap.push { cls := .type "dict", data := .dict #[] }) scope.names) c none) := fun {y c} e => by
    rw [hcl] at e
    rcases cells_mem (PySem.mem_of_lookup e) with hm | ⟨_, h2, h3⟩
    · exact .inl (cm hm)
    · rw [Heap.size_push] at h2; exact .inr ⟨h2, h3⟩
  have look : ∀ {y}, scope.names.lookup y = some .free → ∃ c, cenv.cells.lookup y = some c ∧ X.env.cells.lookup y = some c := fun {y} hl => by
    have hy : (y, NameKind.free) ∈ scope.names := PySem.mem_of_lookup hl
    obtain ⟨c', e'⟩ := mem_lookup (cells_acc (names := scope.names) (n := (s.heap.push { cls := .type "dict", data := .dict #[] }).objs.size) (cloFrom_has (cells := X.env.cells) (acc := []) hy))
    rw [← hcl] at e'
    refine ⟨c', e', ?_⟩
    rw [hcl] at e'
    rcases cells_mem (PySem.mem_of_lookup e') with hm | ⟨h1, _, _⟩
    · exact (cm hm).1
    · have := ok.uniq _ h1
      rw [hl] at this; cases this
  have okB : (X.blk s H scope cenv fp).Ok := by
    refine ⟨I.ok.mod, by show cenv.scope.kind = _; rw [hsc]; exact ok.kind, by show cenv.globals = _; rw [← hcenv]; exact I.ok.glob, by show cenv.builtins = _; rw [← hcenv]; exact I.ok.blt, by show s.heap.objs.size ≤ cenv.locals; rw [hL]; exact Nat.le_refl _,
      fun y z c e1 e2 => ?_, fun y hy => ?_, fun y c z e => ?_, I.ok.hd, I.ok.frames, .inl rfl, fun b hb => ⟨?_, fun y c e z => ?_⟩, I.bs, Nat.le_trans I.ok.bsz I.sz, fun b o e hb => ?_, fun b hb z => ?_, I.stack, I.stkFree⟩
    · have e1 : cenv.cells.lookup y = some c := e1
      have e2 : cenv.cells.lookup z = some c := e2
      rw [hcl] at e1 e2
      refine cells_inj (fun p hp => ?_) (fun y z c a b => I.ok.inj y z c (cm a).1 (cm b).1) (PySem.mem_of_lookup e1) (PySem.mem_of_lookup e2)
      rw [Heap.size_push]
      exact Nat.lt_succ_of_lt (cm (y := p.1) (c := p.2) hp).2
    · show ∃ c, cenv.cells.lookup y = some c
      have key : ∀ k, cenv.kindOf y = some k → (k = .cell ∨ k = .free) → ∃ c, cenv.cells.lookup y = some c := fun k hk hk' => by
        unfold Env.kindOf at hk
        rw [hsc] at hk
        obtain ⟨k', e, r⟩ := lookup_relS hk
        have : k' = .cell ∨ k' = .free := by
          rcases r with rfl | ⟨rfl, _⟩
          · exact hk'
          · exact .inr rfl
        rcases this with rfl | rfl
        · obtain ⟨c, hm⟩ := cells_has (n := (s.heap.push { cls := .type "dict", data := .dict #[] }).objs.size) (acc := cloFrom X.env.cells scope.names []) (PySem.mem_of_lookup e)
          obtain ⟨c', e'⟩ := mem_lookup hm
          exact ⟨c', by rw [hcl]; exact e'⟩
        · obtain ⟨c, h1, _⟩ := look e
          exact ⟨c, h1⟩
      rcases hy with hy | hy
      · exact key _ hy (.inl rfl)
      · exact key _ hy (.inr rfl)
    · have z : (scope.names.lookup y == some NameKind.cell) = true := z
      have z : scope.names.lookup y = some .cell := by simpa using z
      have e : cenv.cells.lookup y = some c := e
      rw [hcl] at e
      rcases cells_mem (PySem.mem_of_lookup e) with hm | ⟨_, h2, _⟩
      · rcases cloFrom_mem hm with hm | ⟨h1, _⟩
        · cases hm
        · have q := ok.uniq _ h1
          rw [z] at q; cases q
      · rw [Heap.size_push] at h2
        exact Nat.le_of_succ_le h2
    · show b ≠ cenv.locals
      rw [hL]; exact Nat.ne_of_lt (hfp b hb).2
    · have e : cenv.cells.lookup y = some c := e
      rcases mem e with ⟨h1, _⟩ | ⟨h1, _⟩
      · exact (hfp b hb).1.2.2.2.2.1 y c h1 z
      · have h2 : s.heap.objs.size + 1 ≤ b := by rw [← z]; exact h1
        exact absurd (Nat.lt_of_lt_of_le (hfp b hb).2 (Nat.le_of_succ_le h2)) (Nat.lt_irrefl _)
    · rcases (hfp b hb).1.2.2.2.1 with z | z
      · exact I.ok.noex b o e z
      · exact absurd (Nat.lt_of_lt_of_le (Heap.lt_size e) (Nat.le_trans I.ok.bsz z)) (Nat.lt_irrefl _)
    · rcases List.mem_cons.mp (I.stkSub b z) with z | z
      · exact (hfp b hb).1.2.1 z
      · exact (hfp b hb).1.2.2.1 z
  refine ⟨okB, rfl, I.bare, Un.kept kp, ⟨fun _ => none, ?_, fun i y av e1 e2 e3 => ?_⟩, fun y c e => ?_, ?_, fun y c e => ?_, fun p hp => ?_, I.hok.kept kp, by rw [wipe_length]; exact I.len⟩
  · show Heap.Ns _ cenv.locals _
    rw [hL]
    exact Heap.Ns.keeps (Heap.Ns.new ..) fun b o e => pushCells_keeps _ _ _ _ e
  · obtain ⟨e2, hne⟩ := wipe_some e2
    have hfr : scope.names.lookup y = some .free ∧ (cenv.kindOf y = some .cell ∨ cenv.kindOf y = some .free) := by
      have key : ∀ k, cenv.scope.names.lookup y = some k → k = .local ∨ k = .cell ∨ k = .free → scope.names.lookup y = some .free ∧ (cenv.kindOf y = some .cell ∨ cenv.kindOf y = some .free) := fun k hk hk' => by
        have hk0 := hk
        rw [hsc] at hk
        obtain ⟨k', e, r⟩ := lookup_relS hk
        have no : ¬ (k' = .local ∨ k' = .cell) := fun hh => by
          rcases ok.own _ (PySem.mem_of_lookup e) hh with e' | e'
          · obtain ⟨p, hp, hpy⟩ := List.mem_map.mp e'
            have e3 := ok.ix p hp
            have : p.1 = y := hpy
            rw [this] at e3
            exact hne (List.mem_map.mpr ⟨p, hp, nodup_ix hN e3 e1⟩)
          · exact e' (List.mem_of_getElem? e1)
        rcases r with rfl | ⟨rfl, rfl⟩
        · rcases hk' with rfl | rfl | rfl
          · exact absurd (.inl rfl) no
          · exact absurd (.inr rfl) no
          · exact ⟨e, .inr hk0⟩
        · exact ⟨e, .inl hk0⟩
      have e3 : Vis cenv.scope y := e3
      rcases e3 with e3 | e3 | e3
      · exact key _ e3 (.inl rfl)
      · exact key _ e3 (.inr (.inl rfl))
      · exact key _ e3 (.inr (.inr rfl))
    obtain ⟨m, hn, hl⟩ := I.loc
    have hvis : Vis X.env.scope y := (ok.free _ (PySem.mem_of_lookup hfr.1) rfl).elim (fun k => .inr (.inl k)) (fun k => .inr (.inr k))
    obtain ⟨w, r, q⟩ := hl i y av e1 e2 hvis
    refine ⟨w, r, .inr ⟨hfr.2, ?_⟩⟩
    obtain ⟨c, h1, h2⟩ := look hfr.1
    rcases q with ⟨k, _⟩ | ⟨_, c', e', z⟩
    · have k : X.env.scope.names.lookup y = some .local := k
      rcases ok.free _ (PySem.mem_of_lookup hfr.1) rfl with k' | k' <;> rw [show X.env.scope.names.lookup y = _ from k'] at k <;> cases k
    · rw [h2] at e'; cases e'
      exact ⟨c, h1, z.keeps kp⟩
  · have e : cenv.cells.lookup y = some c := e
    rcases mem e with ⟨h1, _⟩ | ⟨_, z⟩
    · obtain ⟨w, z⟩ := I.cell y c h1
      exact ⟨w, z.keeps kp⟩
    · exact ⟨_, z⟩
  · show H cenv.locals = none
    rw [hL]; exact I.hok.fresh (Nat.le_refl _)
  · have e : cenv.cells.lookup y = some c := e
    rcases mem e with ⟨h1, _⟩ | ⟨h1, _⟩
    · exact I.freeC y c h1
    · exact I.hok.fresh (Nat.le_of_succ_le h1)
  · exact absurd (show p ∈ ([] : List (Addr × Obj)) ++ [] from hp) (by simp)

/-- an item appended to a tracked list -/
theorem app_ok {E : Value → Shared → Prop} {D : Addr} {xs : List V} {y : V} {v : Value} {Q : Value → Shared → Prop} (I : Inv X pins σ H s) (hD : H D = some (.lst xs)) (hz : xs.length < sizeLine) (r : RelV y v)
    (h : ∀ s', Inv X pins σ (upd H D (.lst (xs ++ [y]))) s' → Q .none s') : wpAny (model X.prog X.w) X.A (call (.builtin "list.append") [.ref D, v]) Q E s := by
  obtain ⟨hz', its, n, ri, e⟩ := I.hok D _ hD
  have hl := ri.length
  refine append_at (hsz := by rw [List.size_toArray]; omega) e fun h' sb ho' => ?_
  refine h { s with heap := h' } (I.write (t' := s.toks) (by rw [hD]; trivial) (.inl rfl) (fun b u hb q => (sb.2 b hb).trans q) ⟨_, ho'⟩ ⟨by rw [List.length_append]; exact hz, its ++ [v], n + 1, ri.append (.cons r .nil), ?_⟩)
  rw [ho']
  simp

/-- a clause's tests -/
def PTs (X : Cx) (ifs : List Expr) (t : TT) : Prop :=
  ∀ (pins : List (Addr × Obj)) (s : Shared) (σ : St) (H : Hp) (Q : Bool → Hp → Prop), Inv X pins σ H s → t σ H Q →
    wpAny (model X.prog X.w) X.A (forIn ifs true fun c r => if r = true then do let ok ← isTrue c X.env (eval c X.env); pure (ForInStep.yield ok) else pure (ForInStep.yield r)) (TP X pins σ Q) X.xe s
def tYes : TT := fun _ H Q => Q true H
theorem pts_nil : PTs X [] tYes := fun _ _ _ H _ I h => wpAny_tests_nil ⟨H, I, h⟩
end

theorem thnF {α : Type} {t : Sem α} {Q Q' : α → Shared → Prop} {M : Model} {A : Around} {E : Value → Shared → Prop} {s : Shared} (h : wpAny M A t Q (fun _ _ => False) s) (hQ : ∀ a s, Q a s → Q' a s) : wpAny M A t Q' E s := wpAny_mono h hQ fun _ _ z => False.elim z

/-- the loop of a list comprehension's block, the target of any form (codeAny_compLoop_tests asks a target that no tuple goes to; statement and proof follow it, PyProof/CompMap.lean:41-61, with the step letOwnedTupleGo kept) -/
theorem compLoop_any {prog : Program} {w : World} {A : Around} {R : Result → Shared → Prop} {s : Shared} {elt target iter : Expr} {ifs : List Expr} {scope : Scope} {pos : Pos} {it acc : Value} {env : Env} (I : Nat → Shared → Prop)
    (turn : ∀ n s, I n s → wpAny (model prog w) A (pyNext it) (fun r s₁ => match r with
      | none => R (.ok .next) s₁
      | some v => wpAny (model prog w) A (letOwnedTupleGo target it v) (fun _ s₁' => wpAny (model prog w) A (assign target env v) (fun _ s₂ =>
          wpAny (model prog w) A (forIn ifs true fun c r => if r = true then do let ok ← isTrue c env (eval c env); pure (ForInStep.yield ok) else pure (ForInStep.yield r)) (fun ok s₃ =>
            if ok = true then wpAny (model prog w) A (eval elt env) (fun x s₄ =>
              wpAny (model prog w) A (call (.builtin "list.append") [acc, x]) (fun _ s₅ => ∃ m, m < n ∧ I m s₅) (notedBy (model prog w) A env fun e s' => R (.error e) s') s₄) (notedBy (model prog w) A env fun e s' => R (.error e) s') s₃
            else ∃ m, m < n ∧ I m s₃) (notedBy (model prog w) A env fun e s' => R (.error e) s') s₂) (notedBy (model prog w) A env fun e s' => R (.error e) s') s₁') (notedBy (model prog w) A env fun e s' => R (.error e) s') s₁) (notedBy (model prog w) A env fun e s' => R (.error e) s') s)
    (n : Nat) (h : I n s) :
    codeAny (model prog w) A (.compLoop (.ListComp elt [⟨target, iter, ifs, 0⟩] scope pos) 0 it acc env) R s := by
  refine codeAny_loop rfl I (fun n s hI => ?_) n h
  show wpAny _ A ((compTurn (.ListComp elt [⟨target, iter, ifs, 0⟩] scope pos) 0 it acc env).onRaise (fun x => do noteFrame x env; theTreesLotGoes x)) _ _ s
  refine wpAny_noted ?_
  rw [compTurn_list]
  refine wpAny_bind (wpAny_standAt (wpAny_bind (wpAny_mono (turn n s hI) (fun r s₁ h₁ => ?_) fun _ _ h' => h')))
  cases r with
  | none => exact wpAny_pure h₁
  | some v =>
    refine wpAny_bind (wpAny_mono h₁ (fun _ s₁' h₁' => ?_) fun _ _ h' => h')
    refine wpAny_bind (wpAny_mono h₁' (fun _ s₂ h₂ => wpAny_bind (wpAny_mono h₂ (fun ok s₃ h₃ => ?_) fun _ _ h' => h')) fun _ _ h' => h')
    cases ok with
    | false => exact wpAny_pure ⟨rfl, h₃⟩
    | true =>
      exact wpAny_bind (wpAny_bind (wpAny_mono h₃ (fun x s₄ h₄ => wpAny_bind (wpAny_mono h₄ (fun _ s₅ h₅ => wpAny_pure (wpAny_pure ⟨rfl, h₅⟩)) fun _ _ h' => h')) fun _ _ h' => h'))

section
variable {X : Cx}
/-- [elt for target in iter if ..]: D the new list; W by the turn and a measure, Nx what a turn is to reach -/
def tLc (wi : TI) (g : TG) (tt : TT) (te : TE) (vs : List Nat) : TE := fun σ H Q => wi σ H fun J H1 => ∀ D, H1 D = none → ∃ W : Nat → Nat → Hp → Prop, (∃ m, W 0 m (upd H1 D (.lst []))) ∧ ∀ i m H, W i m H →
  (J.stop i H ∧ Q (.ref D) H) ∨ (J.go i H ∧ ∃ Nx : Hp → Prop, (∀ H', Nx H' → ∃ m', m' < m ∧ W (i + 1) m' H') ∧ ∀ x H', J.yld i H x H' → g x (wipe σ vs) H' fun σ2 H2 => wipe σ2 vs = wipe σ vs ∧ tt σ2 H2 fun b H3 =>
    if b = true then te σ2 H3 fun y H4 => ∃ acc, H4 D = some (.lst acc) ∧ acc.length < sizeLine ∧ Nx (upd H4 D (.lst (acc ++ [y]))) else Nx H3)
theorem lc_core {pins : List (Addr × Obj)} {s : Shared} {σ : St} {H : Hp} {Q : VK} {elt tg iter : Expr} {ifs : List Expr} {scope : Scope} {own : List (Str × Nat)} {pos pos' : Pos} {wi : TI} {g : TG} {tt : TT} {te : TE} {use : Option (Value → Sem Unit)} {Qf : Value → Shared → Prop}
    (hc : X.calm = true) (hN : X.N.Nodup) (I : Inv X pins σ H s) (hi : PI X tg iter wi) (ok : BlkOk X.N X.env.scope scope own)
    (hg : ∀ (s : Shared) (H : Hp) (C : Addr) (cl : List (Str × Addr)) (fp : List Addr), PG (X.blk s H scope (compEnvC scope cl C X.env) fp) tg g) (ht : ∀ (s : Shared) (H : Hp) (C : Addr) (cl : List (Str × Addr)) (fp : List Addr), PTs (X.blk s H scope (compEnvC scope cl C X.env) fp) ifs tt)
    (he : ∀ (s : Shared) (H : Hp) (C : Addr) (cl : List (Str × Addr)) (fp : List Addr), PE (X.blk s H scope (compEnvC scope cl C X.env) fp) elt te) (hs : ∀ x, foldedSetIterable iter X.env x = pure x)
    (h : tLc wi g tt te (own.map (·.2)) σ H Q)
    (hRR : ∀ D C s' m H', Inv X pins σ H' s' → Q (.ref D) H' → s'.heap.Ns C m → FpOk X pins H' C → compPost (model X.prog X.w) X.A X.xe use Qf (.ref D) C (.ok .next) s') :
    wpAny (model X.prog X.w) X.A (comprehension (.ListComp elt [⟨tg, iter, ifs, 0⟩] scope pos) scope X.env pos' (newList []) false (eval iter X.env) use) Qf X.xe s := by
  have hfree : ∀ y ∈ scope.names, y.2 = .free → ∃ c, X.env.cells.lookup y.1 = some c := fun y hy e => by
    rcases ok.free y hy e with k | k
    · exact I.ok.has _ (.inl k)
    · exact I.ok.has _ (.inr k)
  refine wpAny_comprehension_free (use := use) rfl hs (closure_ok hfree) ok.kind (fun y hy e => by rw [ok.uniq y hy, e])
    (thn (hi pins s σ H _ I h) fun xv s1 hx => thn hx fun itv s2 h2 => ?_)
  obtain ⟨it, fp, tn, J, H2, e, I2, T, st2, f2, q⟩ := h2
  subst e
  refine wpAny_newObj_type (newEnv_comp ?_) (by show 0 ≤ sizeLine; decide)
  generalize hD : s2.heap.objs.size = D
  have hDn : H2 D = none := I2.hok.fresh (Nat.le_of_eq hD)
  obtain ⟨W, ⟨m0, w0⟩, turn⟩ := q D hDn
  -- the new list
  generalize hs3 : ({ s2 with heap := s2.heap.push { cls := .type "list", data := .seq ([] : List Value).toArray } } : Shared) = s3
  have I3 : Inv X pins σ (upd H2 D (.lst [])) s3 := by
    rw [← hs3]
    refine I2.laid (t' := s2.toks) (fun b o e => Heap.get?_push_of_some _ e) (Nat.le_of_eq hD) ⟨Nat.zero_le _, [], 0, .nil, ?_⟩
    rw [← hD]
    exact Heap.get?_push_size _ rfl
  have h3 : s3.heap = s2.heap.push { cls := .type "list", data := .seq ([] : List Value).toArray } := by rw [← hs3]
  have sz : ∀ b ∈ fp, b < s2.heap.objs.size := fun b hb => by
    obtain ⟨o, e, _⟩ := T.obj _ _ st2 b hb
    exact Heap.lt_size e
  have f3 : ∀ b ∈ fp, FpOk X pins (upd H2 D (.lst [])) b ∧ b < s3.heap.objs.size := fun b hb => by
    have hlt := sz b hb
    refine ⟨⟨?_, (f2 b hb).2⟩, by rw [h3, Heap.size_push]; exact Nat.lt_succ_of_lt hlt⟩
    rw [upd_ne (by rw [← hD]; exact Nat.ne_of_lt hlt)]
    exact (f2 b hb).1
  have st3 : tn 0 s3.heap := T.keep _ _ _ st2 fun b _ o e => by rw [h3]; exact Heap.get?_push_of_some _ e
  have I4 := block_start I3 ok hN f3
  have pg := hg s3 (upd H2 D (.lst [])) s3.heap.objs.size (cellsFrom (s3.heap.objs.size + 1) scope.names (cloFrom X.env.cells scope.names [])) fp
  have pt := ht s3 (upd H2 D (.lst [])) s3.heap.objs.size (cellsFrom (s3.heap.objs.size + 1) scope.names (cloFrom X.env.cells scope.names [])) fp
  have pe := he s3 (upd H2 D (.lst [])) s3.heap.objs.size (cellsFrom (s3.heap.objs.size + 1) scope.names (cloFrom X.env.cells scope.names [])) fp
  show codeAny _ _ (.compStart (.ListComp elt [⟨tg, iter, ifs, 0⟩] scope pos) 0 (.ref it) (.ref D) (compEnvC scope (cellsFrom (s3.heap.objs.size + 1) scope.names (cloFrom X.env.cells scope.names [])) s3.heap.objs.size X.env)) (compPost (model X.prog X.w) X.A X.xe use Qf (.ref D) s3.heap.objs.size) { s3 with heap := pushCells (s3.heap.push { cls := .type "dict", data := .dict #[] }) scope.names }
  have nfp : ∀ b ∈ fp, (upd H2 D (.lst [])) b = none := fun b hb => (f3 b hb).1.1
  generalize hce : compEnvC scope (cellsFrom (s3.heap.objs.size + 1) scope.names (cloFrom X.env.cells scope.names [])) s3.heap.objs.size X.env = ce at I4 pg pt pe ⊢
  have cL : ce.locals = s3.heap.objs.size := by subst hce; rfl
  generalize hH3 : upd H2 D (.lst []) = H3 at I3 I4 pg pt pe w0 nfp f3
  generalize hs4 : ({ s3 with heap := pushCells (s3.heap.push { cls := .type "dict", data := .dict #[] }) scope.names } : Shared) = s4 at I4 ⊢
  have st4 : tn 0 s4.heap := T.keep _ _ _ st3 fun b _ o e => by rw [← hs4]; exact pushCells_keeps _ _ _ _ (Heap.get?_push_of_some _ e)
  have stat : ∀ {σ' : St} {H' : Hp} {s' : Shared}, Inv (X.blk s3 H3 scope ce fp) [] σ' H' s' → (∀ b ∈ fp, H' b = none) → ∀ b ∈ fp, FpOk (X.blk s3 H3 scope ce fp) [] H' b := fun {σ' H' s'} I' hn b hb =>
    ⟨hn b hb, (I'.ok.exf b hb).1, I'.ok.exfs b hb, .inl hb, fun x c e => (I'.ok.exf b hb).2 x c e, fun p hp => absurd (show p ∈ ([] : List (Addr × Obj)) ++ [] from hp) (by simp)⟩
  have loop : codeAny (model X.prog X.w) X.A (.compLoop (.ListComp elt [⟨tg, iter, ifs, 0⟩] scope pos) 0 (.ref it) (.ref D) ce) (compPost (model X.prog X.w) X.A X.xe use Qf (.ref D) s3.heap.objs.size) s4 := by
    refine compLoop_any (fun n s' => ∃ i H', Inv (X.blk s3 H3 scope ce fp) [] (wipe σ (own.map (·.2))) H' s' ∧ tn i s'.heap ∧ (∀ b ∈ fp, H' b = none) ∧ W i n H') ?_ m0 ⟨0, H3, I4, st4, nfp, w0⟩
    rintro n s5 ⟨i, H5, I5, st5, n5, w5⟩
    rcases turn i n H5 w5 with ⟨stop, qq⟩ | ⟨go, Nx, hNx, step⟩
    · have td := T.done (X.blk s3 H3 scope ce fp) rfl rfl rfl hc i [] s5 _ H5 (fun _ _ => False) I5 (stat I5 n5) st5 stop
      refine thnF td fun r s6 ⟨hr, I6⟩ => ?_
      subst hr
      -- back in the def's context
      have I7 : Inv X pins σ H5 s6 := I3.call' (ch := fp) I6.os I6.base I6.hok I6.bare fun b hb => ⟨(f3 b hb).1.2.2.2.1, (f3 b hb).1.2.1, (f3 b hb).1.2.2.2.2.1, (f3 b hb).1.2.2.2.2.2⟩
      have nC : H5 s3.heap.objs.size = none := by
        have z : H5 ce.locals = none := I6.free
        rw [cL] at z
        exact z
      obtain ⟨m, hn, _⟩ := I6.loc
      have hn : s6.heap.Ns ce.locals m := hn
      rw [cL] at hn
      exact hRR D s3.heap.objs.size s6 m H5 I7 qq hn (I3.fpOk (Nat.le_refl _) nC)
    · have ti := T.item (X.blk s3 H3 scope ce fp) rfl rfl rfl hc i [] s5 _ H5 (fun _ _ => False) I5 (stat I5 n5) st5 go
      refine thnF ti fun r s6 ⟨u, hr, h6⟩ => ?_
      subst hr
      refine thnF h6 fun _ s7 ⟨x, H7, I7, r7, y7, st7, n7⟩ => ?_
      have I7' := I7.pinned (stat I7 n7) (T.obj _ _ st7)
      refine thnF (pg _ s7 _ H7 x u _ I7' r7 (step x H7 y7)) fun _ s8 ⟨σ8, H8, I8, hw8, q8⟩ => ?_
      refine thnF (pt _ s8 σ8 H8 _ I8 q8) fun b s9 ⟨H9, I9, q9⟩ => ?_
      -- the turn's end
      have fin : ∀ {s' : Shared} {H' : Hp}, Inv (X.blk s3 H3 scope ce fp) ([] ++ pinsAt fp s7.heap) σ8 H' s' → Nx H' → ∃ m, m < n ∧ ∃ i H', Inv (X.blk s3 H3 scope ce fp) [] (wipe σ (own.map (·.2))) H' s' ∧ tn i s'.heap ∧ (∀ b ∈ fp, H' b = none) ∧ W i m H' := fun {s' H'} I' nx => by
        obtain ⟨m', hm, w'⟩ := hNx H' nx
        have pin' : ∀ b ∈ fp, ∀ o, s7.heap.get? b = some o → s'.heap.get? b = some o ∧ H' b = none := fun b hb o e =>
          let z := I'.pin (b, o) (List.mem_append_right _ (List.mem_append_right _ (mem_pinsAt hb e)))
          ⟨z.1, z.2.1⟩
        have hl : (wipe σ (own.map (·.2))).length = σ8.length := by rw [← hw8, wipe_length]
        refine ⟨m', hm, i + 1, H', (I'.unpinned (pins := [])).weak hl (fun j v e => ?_), T.keep _ _ _ st7 fun b hb o e => (pin' b hb o e).1, fun b hb => ?_, w'⟩
        · rw [← hw8] at e
          exact (wipe_some e).1
        · obtain ⟨o, e, _⟩ := T.obj _ _ st7 b hb
          exact (pin' b hb o e).2
      cases b with
      | false =>
        simp only [Bool.false_eq_true, if_false] at q9 ⊢
        exact fin I9 q9
      | true =>
        simp only [if_true] at q9 ⊢
        refine thnF (pe _ s9 σ8 H9 _ I9 q9) fun z s10 ⟨yv, H10, I10, r10, acc, hD10, hz10, nx⟩ => ?_
        exact app_ok (X := X.blk s3 H3 scope ce fp) I10 hD10 hz10 r10 fun s11 I11 => fin I11 nx
  exact codeAny_compStart_list loop (T.self X.A 0 _ _ _ st4 loop)
/-- as a value -/
theorem pe_lc {elt tg iter : Expr} {ifs : List Expr} {scope : Scope} {own : List (Str × Nat)} {pos : Pos} {wi : TI} {g : TG} {tt : TT} {te : TE} (hc : X.calm = true) (hN : X.N.Nodup) (hi : PI X tg iter wi) (ok : BlkOk X.N X.env.scope scope own)
    (hg : ∀ (s : Shared) (H : Hp) (C : Addr) (cl : List (Str × Addr)) (fp : List Addr), PG (X.blk s H scope (compEnvC scope cl C X.env) fp) tg g) (ht : ∀ (s : Shared) (H : Hp) (C : Addr) (cl : List (Str × Addr)) (fp : List Addr), PTs (X.blk s H scope (compEnvC scope cl C X.env) fp) ifs tt)
    (he : ∀ (s : Shared) (H : Hp) (C : Addr) (cl : List (Str × Addr)) (fp : List Addr), PE (X.blk s H scope (compEnvC scope cl C X.env) fp) elt te) (hs : ∀ x, foldedSetIterable iter X.env x = pure x := by intro _; rfl) :
    PE X (.ListComp elt [⟨tg, iter, ifs, 0⟩] scope pos) (tLc wi g tt te (own.map (·.2))) := by
  intro pins s σ H Q I h
  rw [eval_ListComp]
  refine lc_core hc hN I hi ok hg ht he hs h fun D C s' m H' I' q hn f => ⟨m, hn, fun h'' sb => ?_⟩
  obtain ⟨f0, f1, f2, f3, f4, f5⟩ := f
  exact ⟨.ref D, H', I'.turned (t' := s'.toks) (fun b o hb e => (sb.2 b hb).trans e) f0 f1 f3 f4 f5, rfl, q⟩
/-- name = [..] on one line, the name a local -/
theorem ps_setLc {i : Nat} {y : Str} {py : Pos} {elt tg iter : Expr} {ifs : List Expr} {scope : Scope} {own : List (Str × Nat)} {pos spos : Pos} {wi : TI} {g : TG} {tt : TT} {te : TE} (hc : X.calm = true) (hN : X.N.Nodup) (hy : X.N[i]? = some y) (hyl : X.env.scope.names.lookup y = some .local)
    (hsw : swapsWith (.ListComp elt [⟨tg, iter, ifs, 0⟩] scope pos) (some (.Name y py)) spos.line X.env = pure true) (hi : PI X tg iter wi) (ok : BlkOk X.N X.env.scope scope own)
    (hg : ∀ (s : Shared) (H : Hp) (C : Addr) (cl : List (Str × Addr)) (fp : List Addr), PG (X.blk s H scope (compEnvC scope cl C X.env) fp) tg g) (ht : ∀ (s : Shared) (H : Hp) (C : Addr) (cl : List (Str × Addr)) (fp : List Addr), PTs (X.blk s H scope (compEnvC scope cl C X.env) fp) ifs tt)
    (he : ∀ (s : Shared) (H : Hp) (C : Addr) (cl : List (Str × Addr)) (fp : List Addr), PE (X.blk s H scope (compEnvC scope cl C X.env) fp) elt te) (hs : ∀ x, foldedSetIterable iter X.env x = pure x := by intro _; rfl) :
    PS X (.Assign [.Name y py] (.ListComp elt [⟨tg, iter, ifs, 0⟩] scope pos) spos) (tAsg (tLc wi g tt te (own.map (·.2))) (gName i)) := by
  intro pins s σ H D I h
  rw [exec_Assign_Name_used _ _ _ _ hsw]
  refine wpAny_bind (wpAny_standAt (wpAny_bind ?_))
  show wpAny _ X.A (do let _ ← comprehension (.ListComp elt [⟨tg, iter, ifs, 0⟩] scope pos) scope X.env (firstIterPos [⟨tg, iter, ifs, 0⟩] pos) (newList []) false (eval iter X.env) (some (assign (.Name y py) X.env))) _ _ s
  have h : tLc wi g tt te (own.map (·.2)) σ H (fun x H1 => gName i x σ H1 D.nx) := h
  refine wpAny_bind (thn (lc_core (Qf := fun _ s' => SP X pins D .next s') hc hN I hi ok hg ht he hs h fun L C s' m H' I' q hn f => ?_) fun _ s' hq => wpAny_pure (wpAny_pure hq))
  show wpAny _ _ (assign (.Name y py) X.env (.ref L)) _ _ _
  refine wpAny_assign_Name (store_ok2 (v := V.ref L) I' hN hy (.inl hyl) rfl (fun s2 I2 ⟨a, sb, ha⟩ => ?_) (.inr hyl))
  obtain ⟨f0, f1, f2, f3, f4, f5⟩ := f
  have haC : C ≠ a := by
    rcases ha with z | z
    · rw [z]; exact f1
    · exact fun e => f4 y a z e.symm
  refine ⟨m, hn.sameBut sb haC, fun h3 sb3 => ?_⟩
  exact ⟨_, H', I2.turned (t' := s2.toks) (fun b o hb e => (sb3.2 b hb).trans e) f0 f1 f3 f4 f5, q⟩
theorem sw_true {elt : Expr} {gs : List Comprehension} {scope : Scope} {pos py : Pos} {y : Str} {l : Nat} {env : Env} (hk : env.scope.kind = .function) (hy : env.scope.names.lookup y = some .local) (hl : (py.line == pos.line) = true)
    (ha : (scope.names.any fun (n, k) => n == y && (k == .local || k == .cell)) = false) : swapsWith (.ListComp elt gs scope pos) (some (.Name y py)) l env = pure true := by
  have ky : env.kindOf y = some .local := hy
  have hb : env.blockKind = .function := by unfold Env.blockKind; rw [hk]; rfl
  unfold swapsWith
  simp only [hb, ky, ha, Expr.pos, hl]
  rfl
end

/-! ### the forms one uses -/
/-- over a range: Pv by the turn and the heap (the new list at D within) -/
theorem lc_range {lo : Int} {n : Nat} {g : TG} {tt : TT} {te : TE} {vs : List Nat} {σ : St} {H1 : Hp} {D : Addr} {Qd : Hp → Prop} (Pv : Nat → Hp → Prop) (h0 : Pv 0 (upd H1 D (.lst [])))
    (hs : ∀ i H, i < n → Pv i H → g (.int (lo + i)) (wipe σ vs) H fun σ2 H2 => wipe σ2 vs = wipe σ vs ∧ tt σ2 H2 fun b H3 =>
      if b = true then te σ2 H3 fun y H4 => ∃ acc, H4 D = some (.lst acc) ∧ acc.length < sizeLine ∧ Pv (i + 1) (upd H4 D (.lst (acc ++ [y]))) else Pv (i + 1) H3) (hd : ∀ H, Pv n H → Qd H) :
    ∃ W : Nat → Nat → Hp → Prop, (∃ m, W 0 m (upd H1 D (.lst []))) ∧ ∀ i m H, W i m H →
      ((Itr lo n).stop i H ∧ Qd H) ∨ ((Itr lo n).go i H ∧ ∃ Nx : Hp → Prop, (∀ H', Nx H' → ∃ m', m' < m ∧ W (i + 1) m' H') ∧ ∀ x H', (Itr lo n).yld i H x H' → g x (wipe σ vs) H' fun σ2 H2 => wipe σ2 vs = wipe σ vs ∧ tt σ2 H2 fun b H3 =>
        if b = true then te σ2 H3 fun y H4 => ∃ acc, H4 D = some (.lst acc) ∧ acc.length < sizeLine ∧ Nx (upd H4 D (.lst (acc ++ [y]))) else Nx H3) := by
  refine ⟨fun i m H => m = n - i ∧ i ≤ n ∧ Pv i H, ⟨n, by simp, Nat.zero_le _, h0⟩, ?_⟩
  rintro i m H ⟨rfl, hi, p⟩
  by_cases hlt : i < n
  · refine .inr ⟨hlt, Pv (i + 1), fun H' p' => ⟨n - (i + 1), by omega, rfl, hlt, p'⟩, fun x H' y => ?_⟩
    obtain ⟨e, y⟩ := y
    subst e y
    exact hs i _ hlt p
  · have e : i = n := by omega
    subst e
    exact .inl ⟨Nat.le_refl _, hd H p⟩
/-- over a list that the block leaves as it is -/
theorem lc_list {K : PySem.W.Frag} {a : Addr} {xs : List V} {g : TG} {tt : TT} {te : TE} {vs : List Nat} {σ : St} {H1 : Hp} {D : Addr} {Qd : Hp → Prop} (Pv : Nat → Hp → Prop) (h0 : Pv 0 (upd H1 D (.lst []))) (hl : ∀ i H, i ≤ xs.length → Pv i H → SqL K H a xs)
    (hs : ∀ i x H, xs[i]? = some x → Pv i H → g x (wipe σ vs) H fun σ2 H2 => wipe σ2 vs = wipe σ vs ∧ tt σ2 H2 fun b H3 =>
      if b = true then te σ2 H3 fun y H4 => ∃ acc, H4 D = some (.lst acc) ∧ acc.length < sizeLine ∧ Pv (i + 1) (upd H4 D (.lst (acc ++ [y]))) else Pv (i + 1) H3) (hd : ∀ H, Pv xs.length H → Qd H) :
    ∃ W : Nat → Nat → Hp → Prop, (∃ m, W 0 m (upd H1 D (.lst []))) ∧ ∀ i m H, W i m H →
      ((Itl K a).stop i H ∧ Qd H) ∨ ((Itl K a).go i H ∧ ∃ Nx : Hp → Prop, (∀ H', Nx H' → ∃ m', m' < m ∧ W (i + 1) m' H') ∧ ∀ x H', (Itl K a).yld i H x H' → g x (wipe σ vs) H' fun σ2 H2 => wipe σ2 vs = wipe σ vs ∧ tt σ2 H2 fun b H3 =>
        if b = true then te σ2 H3 fun y H4 => ∃ acc, H4 D = some (.lst acc) ∧ acc.length < sizeLine ∧ Nx (upd H4 D (.lst (acc ++ [y]))) else Nx H3) := by
  refine ⟨fun i m H => m = xs.length - i ∧ i ≤ xs.length ∧ Pv i H, ⟨xs.length, by simp, Nat.zero_le _, h0⟩, ?_⟩
  rintro i m H ⟨rfl, hi, p⟩
  have q := hl i H hi p
  by_cases hlt : i < xs.length
  · refine .inr ⟨⟨xs, xs[i], q, by simp [hlt]⟩, Pv (i + 1), fun H' p' => ⟨xs.length - (i + 1), by omega, rfl, hlt, p'⟩, fun x H' y => ?_⟩
    obtain ⟨e, y⟩ := y
    subst e
    exact hs i x _ (y xs q) p
  · have e : i = xs.length := by omega
    subst e
    exact .inl ⟨⟨xs, q, Nat.le_refl _⟩, hd H p⟩
def blkC (N : List Str) (sc scope : Scope) (own : List (Str × Nat)) : Bool :=
  (match scope.kind with | .function => true | _ => false) && (scope.names.all fun y => decide (scope.names.lookup y.1 = some y.2)) && (own.all fun p => decide (N[p.2]? = some p.1)) &&
    (scope.names.all fun y => match y.2 with
      | .free => (match sc.names.lookup y.1 with | some .cell => true | some .free => true | _ => false)
      | .local => decide (y.1 ∈ own.map (·.1)) || decide (y.1 ∉ N)
      | .cell => decide (y.1 ∈ own.map (·.1)) || decide (y.1 ∉ N)
      | _ => true)
theorem blkOk_by {N : List Str} {sc scope : Scope} {own : List (Str × Nat)} (h : blkC N sc scope own = true) : BlkOk N sc scope own := by
  unfold blkC at h
  simp only [Bool.and_eq_true, List.all_eq_true, decide_eq_true_eq] at h
  obtain ⟨⟨⟨h1, h2⟩, h3⟩, h4⟩ := h
  refine ⟨?_, h2, h3, fun y hy e => ?_, fun y hy e => ?_⟩
  · split at h1
    · assumption
    · cases h1
  · have q := h4 y hy
    simp only [e] at q
    split at q <;> first | exact .inl (by assumption) | exact .inr (by assumption) | cases q
  · have q := h4 y hy
    rcases e with e | e <;> (simp only [e, Bool.or_eq_true, decide_eq_true_eq] at q; exact q)
end L2

namespace L2
open PySem PySem.Spec PyProof.Rows

theorem compTurn2_out (elt t0 i0 t1 i1 : Expr) (ifs0 ifs1 : List Expr) (scope : Scope) (pos : Pos) (it acc : Value) (env : Env) :
    compTurn (.ListComp elt [⟨t0, i0, ifs0, 0⟩, ⟨t1, i1, ifs1, 0⟩] scope pos) 0 it acc env = (do
      standAt i0.pos
      match ← pyNext it with
      | none => pure (.done .next)
      | some v =>
        letOwnedTupleGo t0 it v
        assign t0 env v
        let mut ok := true
        for c in ifs0 do
          if ok then ok ← isTrue c env (eval c env)
        if ok then
          let x ← eval i1 env
          standAt i1.pos
          let x ← foldedSetIterable i1 env x
          let _ ← runOwn (.compStart (.ListComp elt [⟨t0, i0, ifs0, 0⟩, ⟨t1, i1, ifs1, 0⟩] scope pos) 1 (← holding [x] (pyIter x)) acc env) env
        again (.compLoop (.ListComp elt [⟨t0, i0, ifs0, 0⟩, ⟨t1, i1, ifs1, 0⟩] scope pos) 0 it acc env)) := by rfl
theorem compTurn2_in (elt t0 i0 t1 i1 : Expr) (ifs0 ifs1 : List Expr) (scope : Scope) (pos : Pos) (it acc : Value) (env : Env) :
    compTurn (.ListComp elt [⟨t0, i0, ifs0, 0⟩, ⟨t1, i1, ifs1, 0⟩] scope pos) 1 it acc env = (do
      standAt i1.pos
      match ← pyNext it with
      | none => pure (.done .next)
      | some v =>
        letOwnedTupleGo t1 it v
        assign t1 env v
        let mut ok := true
        for c in ifs1 do
          if ok then ok ← isTrue c env (eval c env)
        if ok then
          (do let _ ← call (.builtin "list.append") [acc, ← eval elt env])
        again (.compLoop (.ListComp elt [⟨t0, i0, ifs0, 0⟩, ⟨t1, i1, ifs1, 0⟩] scope pos) 1 it acc env)) := by rfl

section
variable {prog : Program} {w : World} {A : Around} {R : Result → Shared → Prop} {s : Shared} {elt t0 i0 t1 i1 : Expr} {ifs0 ifs1 : List Expr} {scope : Scope} {pos : Pos} {it acc : Value} {env : Env}
end

section
variable {X : Cx}
/-- [elt for tg in iter if .. for tg1 in iter1 if ..]: behind the first clause's store and tests the second source's own loop, from which Nx is reached. vs: the block's names; vs1: those of the second target -/
def tLc2 (wi : TI) (g : TG) (tt : TT) (wi1 : TI) (g1 : TG) (tt1 : TT) (te : TE) (vs vs1 : List Nat) : TE := fun σ H Q => wi σ H fun J H1 => ∀ D, H1 D = none → ∃ W : Nat → Nat → Hp → Prop, (∃ m, W 0 m (upd H1 D (.lst []))) ∧ ∀ i m H, W i m H →
  (J.stop i H ∧ Q (.ref D) H) ∨ (J.go i H ∧ ∃ Nx : Hp → Prop, (∀ H', Nx H' → ∃ m', m' < m ∧ W (i + 1) m' H') ∧ ∀ x H', J.yld i H x H' → g x (wipe σ vs) H' fun σ2 H2 => wipe σ2 vs = wipe σ vs ∧ tt σ2 H2 fun b H3 =>
    if b = true then wi1 σ2 H3 fun J1 H4 => ∃ W1 : Nat → Nat → Hp → Prop, (∃ m, W1 0 m H4) ∧ ∀ j k H, W1 j k H →
      (J1.stop j H ∧ Nx H) ∨ (J1.go j H ∧ ∃ Nx1 : Hp → Prop, (∀ H', Nx1 H' → ∃ k', k' < k ∧ W1 (j + 1) k' H') ∧ ∀ x H', J1.yld j H x H' → g1 x (wipe σ2 vs1) H' fun σ3 H5 => wipe σ3 vs1 = wipe σ2 vs1 ∧ tt1 σ3 H5 fun b H6 =>
        if b = true then te σ3 H6 fun y H7 => ∃ acc, H7 D = some (.lst acc) ∧ acc.length < sizeLine ∧ Nx1 (upd H7 D (.lst (acc ++ [y]))) else Nx1 H6)
    else Nx H3)
end
end L2

namespace L2
open PySem PySem.Spec PyProof.Rows

/-! ### lists of pairs as tables -/
section
variable {κ : Type} [DecidableEq κ]
def valV (kvs : List (κ × V)) (k : κ) : Option V := (kvs.find? fun kv => decide (kv.1 = k)).map (·.2)
/-- in its place, or at the end -/
def putK (kvs : List (κ × V)) (k : κ) (v : V) : List (κ × V) :=
  if (kvs.any fun kv => decide (kv.1 = k)) = true then kvs.map (fun kv => if kv.1 = k then (kv.1, v) else kv) else kvs ++ [(k, v)]
def dropK (kvs : List (κ × V)) (k : κ) : List (κ × V) := kvs.filter fun kv => decide (kv.1 ≠ k)

theorem valV_nil {k : κ} : valV ([] : List (κ × V)) k = none := rfl
theorem valV_pos {p : κ × V} {r : List (κ × V)} {k : κ} (e : p.1 = k) : valV (p :: r) k = some p.2 := by simp [valV, List.find?_cons, e]
theorem valV_neg {p : κ × V} {r : List (κ × V)} {k : κ} (e : ¬ p.1 = k) : valV (p :: r) k = valV r k := by simp [valV, List.find?_cons, e]
theorem valV_any (k : κ) : ∀ kvs : List (κ × V), (kvs.any fun kv => decide (kv.1 = k)) = (valV kvs k).isSome
  | [] => rfl
  | p :: r => by
    rw [List.any_cons]
    by_cases e : p.1 = k
    · simp only [valV_pos e, decide_eq_true e, Bool.true_or, Option.isSome_some]
    · rw [valV_neg e, decide_eq_false e, Bool.false_or]; exact valV_any k r
theorem length_putK (kvs : List (κ × V)) (k : κ) (v : V) : (putK kvs k v).length ≤ kvs.length + 1 := by
  unfold putK
  split
  · rw [List.length_map]; omega
  · rw [List.length_append, List.length_cons, List.length_nil]; omega
theorem RelO.isSome_eq {o : Option V} {u : Option Value} (r : RelO o u) : o.isSome = u.isSome := by
  cases o with
  | none => cases u with
    | none => rfl
    | some _ => exact (show False from r).elim
  | some _ => cases u with
    | none => exact (show False from r).elim
    | some _ => rfl
/-- raw tables of the same keys -/
theorem KV.val {kvs : List (κ × V)} {vs : List (κ × Value)} (r : KV kvs vs) (k : κ) : RelO (valV kvs k) (valueAt vs k) := by
  unfold KV at r
  induction r with
  | nil => exact True.intro
  | @cons p q ps qs h t ih =>
    obtain ⟨h1, h2⟩ := h
    by_cases e : p.1 = k
    · have e' : q.1 = k := h1.symm.trans e
      have b : valueAt (q :: qs) k = some q.2 := by simp [valueAt, List.find?_cons, e']
      rw [valV_pos e, b]; exact h2
    · have e' : ¬ q.1 = k := fun z => e (h1.trans z)
      have b : valueAt (q :: qs) k = valueAt qs k := by simp [valueAt, List.find?_cons, e']
      rw [valV_neg e, b]; exact ih
theorem KV.any {kvs : List (κ × V)} {vs : List (κ × Value)} (r : KV kvs vs) (k : κ) : (kvs.any fun kv => decide (kv.1 = k)) = vs.any fun kv => decide (kv.1 = k) := by
  unfold KV at r
  induction r with
  | nil => rfl
  | cons h t ih => rw [List.any_cons, List.any_cons, ih, h.1]
theorem KV.repl {kvs : List (κ × V)} {vs : List (κ × Value)} (r : KV kvs vs) (k : κ) {y : V} {u : Value} (ry : RelV y u) :
    KV (kvs.map fun kv => if kv.1 = k then (kv.1, y) else kv) (vs.map fun kv => if kv.1 = k then (kv.1, u) else kv) := by
  unfold KV at r ⊢
  induction r with
  | nil => exact .nil
  | @cons p q ps qs h t ih =>
    rw [List.map_cons, List.map_cons]
    refine .cons ?_ ih
    obtain ⟨h1, h2⟩ := h
    by_cases e : p.1 = k
    · rw [if_pos e, if_pos (h1.symm.trans e)]; exact ⟨h1, ry⟩
    · rw [if_neg e, if_neg (fun z => e (h1.trans z))]; exact ⟨h1, h2⟩
theorem KV.put {kvs : List (κ × V)} {vs : List (κ × Value)} (r : KV kvs vs) (k : κ) {y : V} {u : Value} (ry : RelV y u) : KV (putK kvs k y) (stored vs k u) := by
  unfold putK stored
  rw [r.any k]
  by_cases e : (vs.any fun kv => decide (kv.1 = k)) = true
  · rw [if_pos e, if_pos e]; exact r.repl k ry
  · rw [if_neg e, if_neg e]; exact Paired.snoc r ⟨rfl, ry⟩
theorem KV.length {kvs : List (κ × V)} {vs : List (κ × Value)} (r : KV kvs vs) : kvs.length = vs.length := Paired.length r
end


/-! ### a tracked dict, its keys ints and texts or tuples of these -/
theorem kV_is {P : Program} {w : World} {k : Key} {u : Value} (r : RelV (kV k) u) : (mixKind P w).is k u = true := by
  cases k with
  | inl i => obtain ⟨t, e⟩ := (show ∃ t, u = Value.int i t from r); subst e; exact mixKind_int P w i t
  | inr x => obtain ⟨t, e⟩ := (show ∃ t, u = Value.str x t from r); subst e; exact mixKind_str P w x t
theorem items_are {P : Program} {w : World} : ∀ {ks : List Key} {us : List Value}, Vals (ks.map kV) us → ItemsAre (mixKind P w) ks us
  | [], _, r => by rw [List.map_nil] at r; cases r; exact .nil
  | k :: ks, _, r => by
    rw [List.map_cons] at r
    cases r with
    | cons h t => exact .cons (kV_is h) (items_are t)

/-- raw entries of a dict with tuple keys -/
abbrev KT (H : Hp) : List (List Key × V) → List (List Key × Addr × Value) → Prop := Paired fun p q => p.1 = q.1 ∧ H q.2.1 = some (.tup (p.1.map kV)) ∧ RelV p.2 q.2.2
theorem KT.val {H : Hp} {kvs : List (List Key × V)} {xs : List (List Key × Addr × Value)} (r : KT H kvs xs) (k : List Key) : RelO (valV kvs k) ((atKey xs k).map (·.2)) := by
  induction r with
  | nil => exact True.intro
  | @cons p q ps qs h t ih =>
    obtain ⟨h1, _, h2⟩ := h
    by_cases e : p.1 = k
    · have e' : q.1 = k := h1.symm.trans e
      have b : atKey (q :: qs) k = some q.2 := by simp [atKey, List.find?_cons, e']
      rw [valV_pos e, b]; exact h2
    · have e' : ¬ q.1 = k := fun z => e (h1.trans z)
      have b : atKey (q :: qs) k = atKey qs k := by simp [atKey, List.find?_cons, e']
      rw [valV_neg e, b]; exact ih
theorem KT.repl {H : Hp} {kvs : List (List Key × V)} {xs : List (List Key × Addr × Value)} (r : KT H kvs xs) (k : List Key) {y : V} {u : Value} (ry : RelV y u) :
    KT H (kvs.map fun kv => if kv.1 = k then (kv.1, y) else kv) (xs.map (putAt k u)) := by
  induction r with
  | nil => exact .nil
  | @cons p q ps qs h t ih =>
    rw [List.map_cons, List.map_cons]
    refine .cons ?_ ih
    obtain ⟨h1, h2, h3⟩ := h
    unfold putAt
    by_cases e : p.1 = k
    · rw [if_pos e, if_pos (h1.symm.trans e)]; exact ⟨h1, h2, ry⟩
    · rw [if_neg e, if_neg (fun z => e (h1.trans z))]; exact ⟨h1, h2, h3⟩
theorem KT.put {H : Hp} {kvs : List (List Key × V)} {xs : List (List Key × Addr × Value)} (r : KT H kvs xs) (k : List Key) {b : Addr} {y : V} {u : Value} (hb : H b = some (.tup (k.map kV))) (ry : RelV y u) :
    KT H (putK kvs k y) (storedH xs k b u) := by
  have e : (kvs.any fun kv => decide (kv.1 = k)) = (atKey xs k).isSome := by
    rw [valV_any, (r.val k).isSome_eq, Option.isSome_map]
  unfold putK storedH
  rw [e]
  by_cases q : (atKey xs k).isSome = true
  · rw [if_pos q, if_pos q]; exact r.repl k ry
  · rw [if_neg q, if_neg q]; exact Paired.snoc r ⟨rfl, hb, ry⟩
theorem KT.keeps {H H' : Hp} {kvs : List (List Key × V)} {xs : List (List Key × Addr × Value)} (r : KT H kvs xs) (ht : ∀ b ys, H b = some (.tup ys) → H' b = some (.tup ys)) : KT H' kvs xs :=
  Paired.mapP r fun _ _ z => ⟨z.1, ht _ _ z.2.1, z.2.2⟩

section
variable {P : Program} {w : World} {H : Hp} {h : Heap} {a : Addr}
theorem rd_of {u : HO} (ok : HOk P w H h) (e : Rd H a u) : ObjOk P w H h a u := e.ok ok
theorem dk_rd {kvs : List (Key × V)} (ok : HOk P w H h) (e : Rd H a (.dK kvs)) : kvs.length ≤ sizeLine ∧ (a == sysModules) = false ∧ ∃ vs, KV kvs vs ∧ h.DictOf (mixKind P w) a vs :=
  show ObjOk P w H h a (.dK kvs) from rd_of ok e
theorem dk_of {kvs : List (Key × V)} (ok : HOk P w H h) (e : H a = some (.dK kvs)) : kvs.length ≤ sizeLine ∧ (a == sysModules) = false ∧ ∃ vs, KV kvs vs ∧ h.DictOf (mixKind P w) a vs := dk_rd ok (.inl e)
/-- a tracked tuple of ints and texts is a key -/
theorem key_of {ks : List Key} (ok : HOk P w H h) (e : H a = some (.tup (ks.map kV))) : (tupleKind (mixKind P w)).is h ks a := by
  obtain ⟨_, its, r, o, h1, h2, n, h3⟩ := (show ObjOk P w H h a (.tup (ks.map kV)) from ok a _ e)
  exact ⟨o, its.toArray, n, h1, h2, h3, by simpa using items_are r⟩
theorem dt_rd {kvs : List (List Key × V)} (ok : HOk P w H h) (e : Rd H a (.dT kvs)) : kvs.length ≤ sizeLine ∧ (a == sysModules) = false ∧
    ∃ xs, KT H kvs xs ∧ h.DictOfH (tupleKind (mixKind P w)) a xs := by
  obtain ⟨z, y, xs, r, o, es, ep, h1, h2, h3, h4, h5⟩ := (show ObjOk P w H h a (.dT kvs) from rd_of ok e)
  refine ⟨z, y, xs, r, o, es, ep, h1, h2, h3, h4, fun x hx => ?_, h5⟩
  have all : ∀ {l : List (List Key × V)} {m : List (List Key × Addr × Value)}, KT H l m → ∀ x ∈ m, (tupleKind (mixKind P w)).is h x.1 x.2.1 := by
    intro l m q
    induction q with
    | nil => intro x hx; exact nomatch hx
    | @cons p q ps qs hq t ih =>
      intro x hx
      rcases List.mem_cons.mp hx with e | hx
      · subst e
        exact key_of ok (by rw [← hq.1]; exact hq.2.1)
      · exact ih x hx
  exact all r x hx
theorem dt_of {kvs : List (List Key × V)} (ok : HOk P w H h) (e : H a = some (.dT kvs)) : kvs.length ≤ sizeLine ∧ (a == sysModules) = false ∧
    ∃ xs, KT H kvs xs ∧ h.DictOfH (tupleKind (mixKind P w)) a xs := dt_rd ok (.inl e)
end

/-- what the dict at a holds at the key y -/
def DGet (H : Hp) (a : Addr) (y : V) (r : Option V) : Prop :=
  (∃ kvs k, Rd H a (.dK kvs) ∧ y = kV k ∧ r = valV kvs k) ∨ ∃ kvs k b, Rd H a (.dT kvs) ∧ y = .ref b ∧ H b = some (.tup (k.map kV)) ∧ r = valV kvs k
/-- the heap behind a[y] = v -/
def DPut (H : Hp) (a : Addr) (y v : V) (H' : Hp) : Prop :=
  (∃ kvs k, H a = some (.dK kvs) ∧ y = kV k ∧ kvs.length < sizeLine ∧ H' = upd H a (.dK (putK kvs k v))) ∨
  ∃ kvs k b, H a = some (.dT kvs) ∧ y = .ref b ∧ H b = some (.tup (k.map kV)) ∧ kvs.length < sizeLine ∧ H' = upd H a (.dT (putK kvs k v))
theorem DGet.k {H : Hp} {a : Addr} {kvs : List (Key × V)} {k : Key} (e : H a = some (.dK kvs)) : DGet H a (kV k) (valV kvs k) := .inl ⟨kvs, k, .inl e, rfl, rfl⟩
theorem DPut.k {H : Hp} {a : Addr} {kvs : List (Key × V)} {k : Key} {v : V} (e : H a = some (.dK kvs)) (hl : kvs.length < sizeLine) : DPut H a (kV k) v (upd H a (.dK (putK kvs k v))) := .inl ⟨kvs, k, e, rfl, hl, rfl⟩
section
variable {X : Cx} {pins : List (Addr × Obj)} {σ : St} {H : Hp} {s : Shared} {a : Addr} {y v : V} {u r : Value} {o : Option V} {A : Around} {E : Value → Shared → Prop}

theorem Inv.big (I : Inv X pins σ H s) : sysModules < s.heap.objs.size := by
  have h : mainGlobals < s.heap.objs.size := (I.mod.glob.keeps I.bk).lt
  exact Nat.lt_trans (by decide) h

/-- d[y], there -/
theorem d_getItem {Q : Value → Shared → Prop} (hu : A.units + 1 < cLine) (I : Inv X pins σ H s) (g : DGet H a y (some v)) (ry : RelV y u) (h : ∀ w' s', Inv X pins σ H s' → RelV v w' → Q w' s') :
    wpAny (model X.prog X.w) A (getItem (.ref a) u) Q E s := by
  rcases g with ⟨kvs, k, e, ey, l⟩ | ⟨kvs, k, b, e, ey, eb, l⟩
  · subst ey
    obtain ⟨z, hd, vs, rel, dd⟩ := dk_rd I.hok e
    obtain ⟨w', hw, rw'⟩ := RelO.some_of (v := v) (o := valueAt vs k) (by rw [l]; exact rel.val k)
    exact wpAny_getItem_of (kV_is ry) dd.mapOf hw (h w' _ (I.tok _) rw')
  · subst ey
    cases (show u = Value.ref b from ry)
    obtain ⟨z, hd, xs, rel, dd⟩ := dt_rd I.hok e
    obtain ⟨w', hw, rw'⟩ := RelO.some_of (v := v) (o := (atKey xs k).map (·.2)) (by rw [l]; exact rel.val k)
    obtain ⟨p, hp, hp2⟩ := Option.map_eq_some_iff.mp hw
    refine wpAny_getItem_heap (tupleKind_room_in1 hu) (key_of I.hok eb) dd hp ?_
    rw [hp2]
    exact h w' _ (I.tok _) rw'
/-- a dict's object is replaced -/
theorem d_write {h' : Heap} {t' : Nat} {ob : HO} (I : Inv X pins σ H s) (mu : Mut (H a)) (hs : Heap.SameBut a s.heap h') (he : ∃ q, h'.get? a = some q) (new : ObjOk X.prog X.w (upd H a ob) h' a ob) :
    Inv X pins σ (upd H a ob) { s with heap := h', toks := t' } :=
  I.write (x := a) (e := a) mu (.inl rfl) (fun b q hb z => (hs.2 b hb).trans z) he new
theorem dk_new {P : Program} {w : World} {H' : Hp} {h' : Heap} {kvs : List (Key × V)} {vs : List (Key × Value)} (z : kvs.length ≤ sizeLine) (hd : (a == sysModules) = false) (rel : KV kvs vs) (dd : h'.DictOf (mixKind P w) a vs) :
    ObjOk P w H' h' a (.dK kvs) := ⟨z, hd, vs, rel, dd⟩
/-- d[y] = v -/
theorem d_setItem {H' : Hp} {Q : Unit → Shared → Prop} (hu : A.units + 1 < cLine) (I : Inv X pins σ H s) (g : DPut H a y v H') (ry : RelV y u) (rv : RelV v r) (h : ∀ s', Inv X pins σ H' s' → Q () s') :
    wpAny (model X.prog X.w) A (setItem (.ref a) u r) Q E s := by
  rcases g with ⟨kvs, k, e, ey, l, eH⟩ | ⟨kvs, k, b, e, ey, eb, l, eH⟩
  · subst ey eH
    obtain ⟨z, hd, vs, rel, dd⟩ := dk_of I.hok e
    have hz : vs.length ≤ sizeLine := by rw [← rel.length]; exact z
    have hl : (putK kvs k v).length ≤ sizeLine := by have := length_putK kvs k v; omega
    refine wpAny_setItem_pairs (hsz := hz) (kV_is ry) dd fun h' dd' hs => h _ ?_
    have he : ∃ q, h'.get? a = some q := let ⟨q, _, _, hq, _⟩ := dd'; ⟨q, hq⟩
    exact d_write I (by rw [e]; exact True.intro) hs he (dk_new hl hd (rel.put k rv) dd')
  · subst ey eH
    cases (show u = Value.ref b from ry)
    obtain ⟨z, hd, xs, rel, dd⟩ := dt_of I.hok e
    have hz : xs.length ≤ sizeLine := by rw [← Paired.length rel]; exact z
    have hl : (putK kvs k v).length ≤ sizeLine := by have := length_putK kvs k v; omega
    refine wpAny_setItem_heap (hsz := hz) (tupleKind_room_in1 hu) (key_of I.hok eb) dd fun h' dd' hs => h _ ?_
    obtain ⟨q, es, ep, hq, h2, h3, h4, _, h5⟩ := dd'
    refine d_write I (by rw [e]; exact True.intro) hs ⟨q, hq⟩ ⟨hl, hd, _, (rel.put k eb rv).keeps fun c ys ec => ?_, q, es, ep, hq, h2, h3, h4, h5⟩
    rw [upd_ne (ne_of ec e (fun z => nomatch z))]
    exact ec
end

section
variable {X : Cx} {pins : List (Addr × Obj)} {σ : St} {H : Hp} {s : Shared} {a : Addr} {kvs : List (Key × V)} {k : Key} {u : Value} {A : Around} {E : Value → Shared → Prop}
end


/-! ### readings and rules -/
/-- the element of a subscription, not a slice -/
def NoSl (i : Expr) : Prop := ∀ ov iv, subscripted i false ov iv = operate [ov, iv] (getItem ov iv)
theorem subD_of {prog : Program} {w : World} {A : Around} {E : Value → Shared → Prop} {s : Shared} {env : Env} {value slice : Expr} {pos : Pos} {T id : String} {Q : Value → Shared → Prop}
    (hl : typeLookup (.type T) "__getitem__" = pure (some (.builtin id))) (hs : NoSl slice)
    (h : wpAny (model prog w) A (eval value env) (fun o s₁ => wpAny (model prog w) A (eval slice env) (fun i s₂ => s₂.TypeIs o T ∧ wpAny (model prog w) A (getItem o i) Q E s₂) E s₁) E s) :
    wpAny (model prog w) A (eval (.Subscript value slice pos) env) Q E s := by
  refine Subscript_ (wpAny_mono h (fun o s₁ h₁ => wpAny_mono h₁ (fun i s₂ h₂ => ?_) fun _ _ x => x) fun _ _ x => x)
  obtain ⟨hT, h₂⟩ := h₂
  unfold subscriptTail
  refine wpAny_bind ?_
  rw [getitemInPython_of_ne hT.not_modules]
  refine wpAny_bind (wpAny_specialOf hT hl ?_)
  have fin : wpAny (model prog w) A (subscripted slice false o i) (fun r s₃ => wpAny (model prog w) A (letTemporaryGo value o r >>= fun _ => pure r) Q E s₃) E s₂ := by
    rw [hs o i]
    exact wpAny_operating (wpAny_mono h₂ (fun r s₃ h₃ => wpAny_bind (wpAny_letTemporaryGo (wpAny_pure h₃))) fun _ _ x => x)
  first
    | exact wpAny_pure (wpAny_bind fin)
    | exact wpAny_bind (wpAny_pure (wpAny_bind fin))
    | exact wpAny_bind fin

theorem dict_typeIs {X : Cx} {pins : List (Addr × Obj)} {σ : St} {H : Hp} {s : Shared} {a : Addr} {y : V} {o : Option V} (I : Inv X pins σ H s) (g : DGet H a y o) : s.TypeIs (.ref a) "dict" := by
  rcases g with ⟨kvs, k, e, _, _⟩ | ⟨kvs, k, b, e, _, _, _⟩
  · obtain ⟨_, _, vs, _, dd⟩ := dk_rd I.hok e
    exact dd.typeIs
  · obtain ⟨_, _, xs, _, dd⟩ := dt_rd I.hok e
    exact dd.typeIs
/-- d[y] -/
def tDGet (td ty : TE) : TE := fun σ H Q => td σ H fun x H1 => ty σ H1 fun y H2 => ∃ a v, x = .ref a ∧ DGet H2 a y (some v) ∧ Q v H2
/-- y in d, y not in d -/
def tDIn (ty td : TE) : TE := fun σ H Q => ty σ H fun y H1 => td σ H1 fun x H2 => ∃ a o, x = .ref a ∧ DGet H2 a y o ∧ Q (.bl o.isSome) H2
def tDNotIn (ty td : TE) : TE := fun σ H Q => ty σ H fun y H1 => td σ H1 fun x H2 => ∃ a o, x = .ref a ∧ DGet H2 a y o ∧ Q (.bl (!o.isSome)) H2
/-- d[y] = v -/
def sDPut (td ty tv : TE) : TS := fun D σ H => tv σ H fun v H1 => td σ H1 fun x H2 => ty σ H2 fun y H3 => ∃ a H4, x = .ref a ∧ DPut H3 a y v H4 ∧ D.nx σ H4
/-- d[y] op= v -/
def sDAug (td ty tv : TE) (rd : V → V → Hp → VK → Prop) : TS := fun D σ H => td σ H fun x H1 => ty σ H1 fun y H2 => ∃ a v, x = .ref a ∧ DGet H2 a y (some v) ∧
  tv σ H2 fun y2 H3 => rd v y2 H3 fun z H4 => ∃ H5, DPut H4 a y z H5 ∧ D.nx σ H5
/-- del d[y] -/
def sDDel (td ty : TE) : TS := fun D σ H => td σ H fun x H1 => ty σ H1 fun y H2 => ∃ a kvs k, x = .ref a ∧ H2 a = some (.dK kvs) ∧ y = kV k ∧ (valV kvs k).isSome = true ∧ D.nx σ (upd H2 a (.dK (dropK kvs k)))

section
variable {X : Cx} {o i e value : Expr} {pos pos' tpos : Pos} {td ty tv : TE}
theorem pe_dget (hu : X.A.units + 1 < cLine) (ho : PE X o td) (hi : PE X i ty) (hs : NoSl i) : PE X (.Subscript o i pos) (tDGet td ty) := by
  intro pins s σ H Q I h
  refine subD_of PySem.F.slot_dict_getitem.lookup hs (thn (ho pins s σ H _ I h) fun u s1 ⟨x, H1, I1, rx, q1⟩ => thn (hi pins s1 σ H1 _ I1 q1) fun iv s2 ⟨y, H2, I2, ry, a, v, ex, g, q2⟩ => ?_)
  subst ex
  obtain rfl : u = Value.ref a := rx
  exact ⟨dict_typeIs I2 g, d_getItem hu I2 g ry fun w' s3 I3 rw' => ⟨v, H2, I3, rw', q2⟩⟩
theorem ps_dput (hu : X.A.units + 1 < cLine) (ho : PE X o td) (hi : PE X i ty) (hv : PE X value tv) (hs : swapsWith value (some (.Subscript o i pos')) pos.line X.env = pure false) :
    PS X (.Assign [.Subscript o i pos'] value pos) (sDPut td ty tv) := by
  intro pins s σ H D I h
  refine wpAny_Assign_Subscript (thn (hv pins s σ H _ I h) fun r s1 ⟨v, H1, I1, rv, q1⟩ => thn (ho pins s1 σ H1 _ I1 q1) fun u s2 ⟨x, H2, I2, rx, q2⟩ => thn (hi pins s2 σ H2 _ I2 q2) fun iv s3 ⟨y, H3, I3, ry, a, H4, ex, g, q3⟩ => ?_) hs
  subst ex
  obtain rfl : u = Value.ref a := rx
  exact d_setItem hu I3 g ry rv fun s4 I4 => ⟨σ, H4, I4, q3⟩
end


/-! ### displays -/
theorem dk_empty {P : Program} {w : World} {H : Hp} (h : Heap) (hb : sysModules < h.objs.size) : ObjOk P w H (h.push { cls := .type "dict", data := .dict #[] }) h.objs.size (.dK []) :=
  ⟨Nat.zero_le _, beq_eq_false_iff_ne.mpr (Ne.symm (Nat.ne_of_lt hb)), [], .nil, Heap.DictOf.new h⟩
/-- {}, to be a dict of the kind that is wanted -/
def tDNewK : TE := fun _ H Q => ∀ p, H p = none → Q (.ref p) (upd H p (.dK []))
def tDNewT : TE := fun _ H Q => ∀ p, H p = none → Q (.ref p) (upd H p (.dT []))
section
variable {X : Cx} {pos : Pos}
end

/-- the pairs of a display, from the left -/
def tPairs : List (TE × TE) → St → Hp → (List (V × V) → Hp → Prop) → Prop
  | [], _, H, Q => Q [] H
  | (tk, tv) :: r, σ, H, Q => tk σ H fun x H1 => tv σ H1 fun y H2 => tPairs r σ H2 fun ps H3 => Q ((x, y) :: ps) H3
abbrev VV : List (V × V) → List (Value × Value) → Prop := Paired fun p q => RelV p.1 q.1 ∧ RelV p.2 q.2
def PPs (X : Cx) (pos : Pos) (keys : List (Option Expr)) (values : List Expr) (trs : List (TE × TE)) : Prop :=
  ∀ (pins : List (Addr × Obj)) (s : Shared) (σ : St) (H : Hp) (Q : List (V × V) → Hp → Prop), Inv X pins σ H s → tPairs trs σ H Q →
    wpAny (model X.prog X.w) X.A (evalPairs (pairTrees keys values X.env pos)) (fun vs s' => ∃ ps H', Inv X pins σ H' s' ∧ VV ps vs ∧ Q ps H') X.xe s
theorem pps_nil {X : Cx} {pos : Pos} : PPs X pos [] [] [] := fun pins s σ H Q I h => pairTrees_nil_walk ⟨[], H, I, .nil, h⟩
theorem pps_cons {X : Cx} {pos : Pos} {k v : Expr} {ks : List (Option Expr)} {vs : List Expr} {tk tv : TE} {trs : List (TE × TE)} (hk : PE X k tk) (hv : PE X v tv) (hr : PPs X pos ks vs trs) :
    PPs X pos (some k :: ks) (v :: vs) ((tk, tv) :: trs) := fun pins s σ H Q I h =>
  pairTrees_cons_walk (thn (hk pins s σ H _ I h) fun u s1 ⟨x, H1, I1, rx, q1⟩ => thn (hv pins s1 σ H1 _ I1 q1) fun w2 s2 ⟨y, H2, I2, ry, q2⟩ =>
    thn (hr pins s2 σ H2 _ I2 q2) fun ws s3 ⟨ps, H3, I3, rel, q3⟩ => ⟨(x, y) :: ps, H3, I3, .cons ⟨rx, ry⟩ rel, q3⟩)

def mergeK (kvs more : List (Key × V)) : List (Key × V) := more.foldl (fun acc kv => putK acc kv.1 kv.2) kvs
theorem KV.merge : ∀ {more : List (Key × V)} {rs : List (Key × Value)} {kvs : List (Key × V)} {vs : List (Key × Value)}, KV more rs → KV kvs vs → KV (mergeK kvs more) (merged vs rs) := by
  intro more rs kvs vs r
  unfold KV at r
  induction r generalizing kvs vs with
  | nil => intro q; exact q
  | @cons p q ps qs h t ih =>
    intro r0
    have e : KV (putK kvs p.1 p.2) (stored vs q.1 q.2) := by
      have := r0.put p.1 h.2
      rw [← h.1]; exact this
    exact ih e
theorem length_mergeK : ∀ (more kvs : List (Key × V)), (mergeK kvs more).length ≤ kvs.length + more.length
  | [], kvs => by show kvs.length ≤ kvs.length + 0; omega
  | p :: r, kvs => by
    have h1 := length_mergeK r (putK kvs p.1 p.2)
    have h2 := length_putK kvs p.1 p.2
    show (mergeK (putK kvs p.1 p.2) r).length ≤ _
    rw [List.length_cons]; omega
theorem carries_of {P : Program} {w : World} : ∀ {kvs : List (Key × V)} {ws : List (Value × Value)}, VV (kvs.map fun kv => (kV kv.1, kv.2)) ws → ∃ rs, Carries (mixKind P w) ws rs ∧ KV kvs rs
  | [], _, r => by rw [List.map_nil] at r; cases r; exact ⟨[], True.intro, .nil⟩
  | p :: kvs, _, r => by
    rw [List.map_cons] at r
    cases r with
    | @cons a b as bs h t =>
      obtain ⟨rs, c, q⟩ := carries_of (P := P) (w := w) t
      obtain ⟨b1, b2⟩ := b
      exact ⟨(p.1, b2) :: rs, ⟨kV_is h.1, rfl, c⟩, .cons ⟨rfl, h.2⟩ q⟩
/-- {k: v, ..} with keys ints and texts; the new dict stands empty while the pairs are made -/
def tDisp (trs : List (TE × TE)) : TE := fun σ H Q => ∀ p, H p = none → tPairs trs σ (upd H p (.dK [])) fun ps H2 => H2 p = some (.dK []) ∧ ∃ kvs : List (Key × V), ps = kvs.map (fun kv => (kV kv.1, kv.2)) ∧ kvs.length ≤ 15 ∧ Q (.ref p) (upd H2 p (.dK (mergeK [] kvs)))
/-! ### methods -/
/-- a method call o.m(e) of a built-in, with one argument: what must be seen of the text -/
structure M1 (X : Cx) (o : Expr) (m : Str) (apos : Pos) (e : Expr) (cpos : Pos) : Prop where
  base : attributeBase o m X.env (eval o X.env) = eval o X.env
  few : ((backTo cpos (starEach [e] X.env)).all (fun x => !x.1) && (backToKw cpos (keywordEach [] X.env)).all (fun x => x.1.isSome)
    && decide (([e] : List Expr).length + ([] : List Keyword).length + (if ([] : List Keyword).isEmpty then 0 else 1) < 30)) = true
  line : (apos.endLine == cpos.line) = true
  trees : backTo cpos (starEach [e] X.env) = [(false, eval e X.env)]
structure M2 (X : Cx) (o : Expr) (m : Str) (apos : Pos) (e f : Expr) (cpos : Pos) : Prop where
  base : attributeBase o m X.env (eval o X.env) = eval o X.env
  few : ((backTo cpos (starEach [e, f] X.env)).all (fun x => !x.1) && (backToKw cpos (keywordEach [] X.env)).all (fun x => x.1.isSome)
    && decide (([e, f] : List Expr).length + ([] : List Keyword).length + (if ([] : List Keyword).isEmpty then 0 else 1) < 30)) = true
  line : (apos.endLine == cpos.line) = true
  trees : backTo cpos (starEach [e, f] X.env) = [(false, eval e X.env), (false, eval f X.env)]

/-- a is a dict, whatever its keys -/
def IsD (H : Hp) (a : Addr) : Prop := (∃ kvs, Rd H a (.dK kvs)) ∨ ∃ kvs, Rd H a (.dT kvs)
section
variable {X : Cx} {pins : List (Addr × Obj)} {σ : St} {H : Hp} {s : Shared} {a : Addr} {y d : V} {u r : Value} {o : Option V} {A : Around} {E : Value → Shared → Prop}
end

def tDGet1 (td ty : TE) : TE := fun σ H Q => td σ H fun x H1 => ∃ a, x = .ref a ∧ IsD H1 a ∧ ty σ H1 fun y H2 => ∃ o, DGet H2 a y o ∧ Q (o.getD .non) H2
def tDGet2 (td ty tx : TE) : TE := fun σ H Q => td σ H fun x H1 => ∃ a, x = .ref a ∧ IsD H1 a ∧ ty σ H1 fun y H2 => tx σ H2 fun z H3 => ∃ o, DGet H3 a y o ∧ Q (o.getD z) H3
/-- d.pop(k): there; d.pop(k, x): there or not -/
def tDPop1 (td ty : TE) : TE := fun σ H Q => td σ H fun x H1 => ∃ a, x = .ref a ∧ IsD H1 a ∧ ty σ H1 fun y H2 => ∃ kvs k v, H2 a = some (.dK kvs) ∧ y = kV k ∧ valV kvs k = some v ∧ Q v (upd H2 a (.dK (dropK kvs k)))
def tDPop2 (td ty tx : TE) : TE := fun σ H Q => td σ H fun x H1 => ∃ a, x = .ref a ∧ IsD H1 a ∧ ty σ H1 fun y H2 => tx σ H2 fun z H3 => ∃ kvs k, H3 a = some (.dK kvs) ∧ y = kV k ∧
  (∀ v, valV kvs k = some v → Q v (upd H3 a (.dK (dropK kvs k)))) ∧ (valV kvs k = none → Q z H3)
section
variable {X : Cx} {o e f : Expr} {apos cpos : Pos} {td ty tx : TE}
end

/-! ### dict(d): a copy -/
section
variable {X : Cx} {pins : List (Addr × Obj)} {σ : St} {H : Hp} {s : Shared} {a : Addr} {kvs : List (Key × V)} {A : Around} {E : Value → Shared → Prop}
end


section
variable {X : Cx} {pins : List (Addr × Obj)} {σ : St} {H : Hp} {s : Shared} {a : Addr} {y : V} {u : Value} {A : Around} {E : Value → Shared → Prop}
end
end L2

namespace L2
open PySem PySem.Spec PyProof.Rows

section
variable {prog : Program} {w : World} {A : Around} {E : Value → Shared → Prop}
end

section
variable {X : Cx}
end
end L2

namespace L2
open PySem PySem.Spec PyProof.Rows

section
variable {X : Cx} {pins : List (Addr × Obj)} {σ : St} {H : Hp} {s : Shared} {h' : Heap}
/-- .. and one new object is laid -/
theorem Inv.turnedNew {t' : Nat} {ch : List Addr} {T : Addr} {ob : HO} (I : Inv X pins σ H s) (k : ∀ b o, b ∉ ch → s.heap.get? b = some o → h'.get? b = some o) (hf : ∀ b ∈ ch, FpOk X pins H b) (hT : s.heap.objs.size ≤ T)
    (new : ObjOk X.prog X.w (upd H T ob) h' T ob) : Inv X pins σ (upd H T ob) { s with heap := h', toks := t' } := by
  have hn : H T = none := I.hok.fresh hT
  have nit : ∀ b u, H b = some u → b ∉ ch := fun b u e z => by
    have q := (hf b z).1
    rw [q] at e; cases e
  refine I.step (g' := s.gens) (d' := s.drawn) (ch := ch) (fun b hb => ⟨(hf b hb).2.2.2.1, (hf b hb).2.1, (hf b hb).2.2.2.2.1, (hf b hb).2.2.2.2.2⟩) (fun b o _ _ hc e _ => k b o hc e) (fun b o _ _ hc e _ => ⟨o.slots, k b o hc e⟩)
    (fun b o _ e n => ?_) (fun b o hc e => ⟨o, k b o hc e⟩) (fun b xs e => ?_) (fun b o u e => ?_) (fun b ps e => ⟨#[], ?_⟩) (fun m hm => ?_) (fun b u e => ?_) I.bare
  · rw [upd_ne (Nat.ne_of_lt (Nat.lt_of_lt_of_le (Heap.lt_size e) hT))]; exact n
  · rw [upd_ne (ne_of_none e hn)]; exact e
  · rw [upd_ne (ne_of_none e hn)]; exact e
  · rw [upd_ne (ne_of_none e hn), e]; simp
  · obtain ⟨o, es, ep, ho, r⟩ := hm
    exact ⟨o, es, ep, k _ o (fun z => (hf _ z).2.1 rfl) ho, r⟩
  · by_cases hb : b = T
    · subst hb
      rw [upd_same] at e
      cases e
      exact new
    · rw [upd_ne hb] at e
      refine (I.hok b u e).stay (fun c v hc q => k c v ?_ q) (fun c q => by rw [upd_ne (ne_of_none q hn)]; exact q) fun c xs q => by rw [upd_ne (ne_of_none q hn)]; exact q
      rcases hc with z | z
      · rw [z]; exact nit b u e
      · exact nit c _ z

/-! ### locking a thing while a statement runs -/
end
/-- the statement runs while the thing at d is locked (read, not written); d and what stands there are the reading's choice -/
def tLock (t : TS) : TS := fun D σ H => ∃ d u, H d = some u ∧ Mut (some u) ∧ ∀ od, t ⟨fun σ' H' => H' d = some (.frz od u) ∧ D.nx σ' (upd H' d u), fun v H' => H' d = some (.frz od u) ∧ D.rt v (upd H' d u), fun σ' H' => H' d = some (.frz od u) ∧ D.bk σ' (upd H' d u), fun σ' H' => H' d = some (.frz od u) ∧ D.ct σ' (upd H' d u)⟩ σ (upd H d (.frz od u))
def tLockE (t : TE) : TE := fun σ H Q => ∃ d u, H d = some u ∧ Mut (some u) ∧ ∀ od, t σ (upd H d (.frz od u)) fun v H' => H' d = some (.frz od u) ∧ Q v (upd H' d u)
section
variable {X : Cx}
/-! ### one iterator just laid -/
end

/-! ### range with a step -/
/-- lo, lo + c, .. (n of them) -/
def Itc (lo c : Int) (n : Nat) : It := ⟨fun i _ => i < n, fun i H x H' => H' = H ∧ x = .int (lo + (i : Nat) * c), fun i _ => n ≤ i⟩
/-- range(i, j, c): small bounds, n items -/
def RgC (i j c : Int) (n : Nat) : Prop := c ≠ 0 ∧ c.natAbs < 1073741824 ∧ Builtin.Range.small i j c = true ∧ Builtin.Range.rangeSize i j c = n
def iRng3 (ta : TA) : TI := fun σ H R => ta σ H fun vs H1 => ∃ (i j c : Int) (n : Nat), vs = [.int i, .int j, .int c] ∧ RgC i j c n ∧ R (Itc i c n) H1
section
variable {X : Cx} {tg : Expr}
end
/-! ### reversed(list) -/
/-- the list at a (n items at the start, which the loop leaves there), from its end -/
def Itv (K : PySem.W.Frag) (a : Addr) (n : Nat) : It :=
  ⟨fun i H => i < n ∧ ∃ (xs : List V) (x : V), SqL K H a xs ∧ xs[n - 1 - i]? = some x, fun i H x H' => H' = H ∧ ∀ xs, SqL K H a xs → xs[n - 1 - i]? = some x, fun i _ => n ≤ i⟩
def iRev (K : PySem.W.Frag) (ta : TA) : TI := fun σ H R => ta σ H fun vs H1 => ∃ (a : Addr) (xs : List V), vs = [.ref a] ∧ SqL K H1 a xs ∧ R (Itv K a xs.length) H1
section
variable {X : Cx} {tg : Expr}
end

/-! ### a str -/
def Its (x : Str) : It := ⟨fun i _ => i < x.cps.size, fun i H v H' => H' = H ∧ ∃ c, x.cps[i]? = some c ∧ v = .str ⟨#[c]⟩, fun i _ => x.cps.size ≤ i⟩
def iStr (te : TE) : TI := fun σ H R => te σ H fun v H1 => ∃ x, v = .str x ∧ R (Its x) H1
/-! ### a dict's keys: any dict's entries -/
section
variable {prog : Program} {w : World} {A : Around} {E : Value → Shared → Prop} {s : Shared}
end

/-! ### a locked dict -/
section
variable {X : Cx} {pins : List (Addr × Obj)} {σ : St} {H : Hp} {s : Shared} {d : Addr} {o : Obj}
end

/-- the keys of the locked dict at d, in their order -/
def Itk (d : Addr) (o : Obj) (kvs : List (Key × V)) : It :=
  ⟨fun i H => H d = some (.frz o (.dK kvs)) ∧ i < kvs.length, fun i H x H' => H' = H ∧ ∃ k v, kvs[i]? = some (k, v) ∧ x = kV k, fun i H => H d = some (.frz o (.dK kvs)) ∧ kvs.length ≤ i⟩
/-- .. of tuple keys: the key's own tuple -/
def Itkt (d : Addr) (o : Obj) (kvs : List (List Key × V)) : It :=
  ⟨fun i H => H d = some (.frz o (.dT kvs)) ∧ i < kvs.length, fun i H x H' => H' = H ∧ ∃ (k : List Key) (v : V) (q : Addr), kvs[i]? = some (k, v) ∧ x = .ref q ∧ H q = some (.tup (k.map kV)), fun i H => H d = some (.frz o (.dT kvs)) ∧ kvs.length ≤ i⟩
/-- the values -/
def Itd (d : Addr) (o : Obj) (kvs : List (Key × V)) : It :=
  ⟨fun i H => H d = some (.frz o (.dK kvs)) ∧ i < kvs.length, fun i H x H' => H' = H ∧ ∃ k, kvs[i]? = some (k, x), fun i H => H d = some (.frz o (.dK kvs)) ∧ kvs.length ≤ i⟩
/-- the pairs, each a new tuple -/
def Iti (d : Addr) (o : Obj) (kvs : List (Key × V)) : It :=
  ⟨fun i H => H d = some (.frz o (.dK kvs)) ∧ i < kvs.length, fun i H x H' => ∃ T k v, kvs[i]? = some (k, v) ∧ x = .ref T ∧ H T = none ∧ H' = upd H T (.tup [kV k, v]), fun i H => H d = some (.frz o (.dK kvs)) ∧ kvs.length ≤ i⟩
section
variable {P : Program} {w : World} {K : PySem.W.Frag} {tg : Expr} {d : Addr} {o : Obj} {es : Array DictEntry} {ep : Nat}
end

/-! ### for k in d, d.keys(), d.values(), d.items() -/
/-- the dict is locked (tLock, or by the caller) -/
def iKeys (td : TE) : TI := fun σ H R => td σ H fun x H1 => ∃ d o, x = .ref d ∧ ((∃ kvs, H1 d = some (.frz o (.dK kvs)) ∧ R (Itk d o kvs) H1) ∨ ∃ kvs, H1 d = some (.frz o (.dT kvs)) ∧ R (Itkt d o kvs) H1)
def iVals (td : TE) : TI := fun σ H R => td σ H fun x H1 => ∃ d o kvs, x = .ref d ∧ H1 d = some (.frz o (.dK kvs)) ∧ R (Itd d o kvs) H1
def iItems (td : TE) : TI := fun σ H R => td σ H fun x H1 => ∃ d o kvs, x = .ref d ∧ H1 d = some (.frz o (.dK kvs)) ∧ R (Iti d o kvs) H1
def iKeysM (td : TE) : TI := fun σ H R => td σ H fun x H1 => ∃ d o kvs, x = .ref d ∧ H1 d = some (.frz o (.dK kvs)) ∧ R (Itk d o kvs) H1
section
variable {X : Cx} {tg e : Expr} {td : TE} {apos cpos : Pos}
end

/-! ### enumerate(list) -/
/-- the list at a as it stands at each turn, each item in a new pair -/
def Ite (K : PySem.W.Frag) (a : Addr) : It :=
  ⟨fun i H => ∃ (xs : List V) (x : V), SqL K H a xs ∧ xs[i]? = some x, fun i H v H' => ∃ T x, v = .ref T ∧ H T = none ∧ H' = upd H T (.tup [.int (i : Nat), x]) ∧ ∀ xs, SqL K H a xs → xs[i]? = some x, fun i H => ∃ xs : List V, SqL K H a xs ∧ xs.length ≤ i⟩
theorem turn_enum {P : Program} {w : World} {K : PySem.W.Frag} {elts : List Expr} {kk : Nat} {tpos : Pos} (a e it : Addr) :
    Turn P w K (.Tuple elts kk tpos) (Ite K a) [e, it] e (fun i h => (∃ old, IsEnum h e it ((i : Nat) : Int) old) ∧ h.IsListIter it a i ∧ e ≠ it) where
  mem := by simp
  obj := fun i h st b hb => by
    obtain ⟨⟨old, he⟩, ⟨o, ho, hc, hd⟩, _⟩ := st
    have e' : b = e ∨ b = it := by simpa using hb
    rcases e' with z | z
    · rw [z]; exact ⟨_, he, fun v q => nomatch q⟩
    · rw [z]; exact ⟨o, ho, fun v q => by rw [hd] at q; cases q⟩
  keep := fun i h h' st k => let ⟨⟨old, he⟩, hi, hne⟩ := st; ⟨⟨old, k e (by simp) _ he⟩, hi.at fun o q => k it (by simp) o q, hne⟩
  item := by
    intro X hP hw hK hc i pins s σ H E I hf st hg
    subst hP hw hK
    obtain ⟨⟨old, he⟩, hit, hne⟩ := st
    obtain ⟨xs, x, hq, hx⟩ := hg
    obtain ⟨its, rv, p, hz⟩ := I.list hq
    obtain ⟨u, hu, ru⟩ := rv.get hx
    have hel : e < s.heap.objs.size := Heap.lt_size he
    have hil : it < s.heap.objs.size := by obtain ⟨_, q, _⟩ := hit; exact Heap.lt_size q
    refine wpAny_pyNext_enum_item he hit p.isList (x := u) (by simpa using hu) hne fun h' ho hit' hT hsz hk => ?_
    refine ⟨_, rfl, wpAny_letOwnedTupleGo_enum (s := { s with heap := h', toks := s.toks + 1 }) ho fun h'' he' sb => ?_⟩
    have hT2 : h''.get? s.heap.objs.size = some { cls := .type "tuple", data := .seq #[.int i s.toks, u] } := (sb.2 _ (Nat.ne_of_gt hel)).trans hT
    have new : ObjOk X.prog X.w (upd H s.heap.objs.size (.tup [.int (i : Nat), x])) h'' s.heap.objs.size (.tup [.int (i : Nat), x]) :=
      ⟨by show 2 ≤ sizeLine; decide, [.int i s.toks, u], .cons ⟨_, rfl⟩ (.cons ru .nil), ⟨_, hT2, rfl, _, rfl⟩⟩
    have I1 : Inv X pins σ (upd H s.heap.objs.size (.tup [.int (i : Nat), x])) { s with heap := h'', toks := s.toks + 1 } :=
      I.turnedNew (ch := [e, it]) (fun b ob hb q => (sb.2 b (fun z => hb (by simp [z]))).trans (hk b ob (fun z => hb (by simp [z])) (fun z => hb (by simp [z])) q)) hf (Nat.le_refl _) new
    refine ⟨.ref s.heap.objs.size, _, I1, rfl, ⟨_, x, rfl, I.hok.fresh (Nat.le_refl _), rfl, fun ys hy => by rw [I.list_inj hy hq]; exact hx⟩, ⟨⟨u, ?_⟩, hit'.at fun o q => (sb.2 it (Ne.symm hne)).trans q, hne⟩, fun b hb => ?_⟩
    · have e1 : ((i + 1 : Nat) : Int) = (i : Int) + 1 := by omega
      rw [e1]; exact he'
    · have hb' : b < s.heap.objs.size := by
        have e' : b = e ∨ b = it := by simpa using hb
        rcases e' with z | z
        · rw [z]; exact hel
        · rw [z]; exact hil
      rw [upd_ne (Nat.ne_of_lt hb')]
      exact (hf b hb).1
  done := by
    intro X hP hw hK hc i pins s σ H E I hf st hg
    subst hP hw hK
    obtain ⟨⟨old, he⟩, hit, hne⟩ := st
    obtain ⟨xs, hq, hx⟩ := hg
    obtain ⟨its, rv, p, hz⟩ := I.list hq
    obtain ⟨f0, f1, f2, f3, f4, f5⟩ := hf it (by simp)
    have hl := rv.length
    exact wpAny_pyNext_enum_end (I.ok.hd hc) he hit p.isList (by simp; omega) fun h' eb => ⟨rfl, I.turned (t' := s.toks) (fun b o hb q => eb b o hb q) f0 f1 f3 f4 f5⟩
  self := fun A i s Q E st h => let ⟨⟨_, he⟩, _⟩ := st; wpAny_pyIter_enum he h
def iEnum (K : PySem.W.Frag) (ta : TA) : TI := fun σ H R => ta σ H fun vs H1 => ∃ a xs, vs = [.ref a] ∧ SqL K H1 a xs ∧ R (Ite K a) H1
theorem pi_enum {X : Cx} {e : Expr} {ta : TA} {p pos tpos : Pos} {elts : List Expr} {kk : Nat} (hg : Gl X "enumerate") (hm : X.mg "enumerate" = none) (ha : PA X [e] ta) (hs : starEach [e] X.env = [(false, eval e X.env)] := by rfl) :
    PI X (.Tuple elts kk tpos) (.Call (.Name "enumerate" p) [e] [] pos) (iEnum X.K ta) := by
  intro pins s σ H R I h
  refine Call_ (ld_blt I hg hm boot_enumerate (PyProof.Rows.callWith_type1 (thn (ha pos pins s σ H _ I h) fun us s1 ⟨vs, H1, I1, r1, q1⟩ => ?_) hs rfl))
  obtain ⟨a, xs, ex, hq, q⟩ := q1
  subst ex
  cases r1 with
  | cons r rr =>
    cases rr
    cases r
    obtain ⟨its, rv, p', hz⟩ := I1.list hq
    refine call_enumerate_list p'.isList fun h' he hit hsz hk => wpAny_pyIter_enum he ?_
    have I2 : Inv X pins σ H1 { s1 with heap := h' } := I1.kept (t' := s1.toks) hk
    refine ⟨s1.heap.objs.size + 1, [s1.heap.objs.size + 1, s1.heap.objs.size], _, _, H1, rfl, I2, turn_enum a (s1.heap.objs.size + 1) s1.heap.objs.size, ⟨⟨.none, he⟩, hit, Nat.succ_ne_self _⟩, fun b hb => ?_, q⟩
    have e' : b = s1.heap.objs.size + 1 ∨ b = s1.heap.objs.size := by simpa using hb
    have hle : s1.heap.objs.size ≤ b := by
      rcases e' with z | z
      · rw [z]; exact Nat.le_add_right _ _
      · rw [z]; exact Nat.le_refl _
    exact I1.fpOk hle (I1.hok.fresh hle)
/-! ### zip(list, list) -/
/-- the lists at a and b as they stand at each turn, the items in new pairs -/
def Itz (K : PySem.W.Frag) (a b : Addr) : It :=
  ⟨fun i H => ∃ (xs ys : List V) (x y : V), SqL K H a xs ∧ SqL K H b ys ∧ xs[i]? = some x ∧ ys[i]? = some y,
    fun i H v H' => ∃ T x y, v = .ref T ∧ H T = none ∧ H' = upd H T (.tup [x, y]) ∧ (∀ xs, SqL K H a xs → xs[i]? = some x) ∧ ∀ ys, SqL K H b ys → ys[i]? = some y,
    fun i H => ∃ xs ys : List V, SqL K H a xs ∧ SqL K H b ys ∧ (xs.length ≤ i ∨ ys.length ≤ i)⟩
def iZip (K : PySem.W.Frag) (ta : TA) : TI := fun σ H R => ta σ H fun vs H1 => ∃ a b xs ys, vs = [.ref a, .ref b] ∧ SqL K H1 a xs ∧ SqL K H1 b ys ∧ R (Itz K a b) H1
end L2

section 
namespace Bits
open PySem PyProof.Rows

end Bits
end 

section 
namespace TL
open PySem PySem.Builtin PySem.Builtin.Str PySem.StrLaws

abbrev tl (x : Str) : List Nat := x.cps.toList
theorem tl_mk (l : List Nat) : tl ⟨l.toArray⟩ = l := rfl
/-! ### the list functions -/
/-- S stands at the head of l -/
def pre (S l : List Nat) : Bool := l.take S.length == S
/-- l cut at each S from the left; k signs are still to be passed over -/
def spl (S : List Nat) : Nat → List Nat → List Nat → List (List Nat)
  | _, acc, [] => [acc]
  | 0, acc, c :: r => if pre S (c :: r) = true then acc :: spl S (S.length - 1) [] r else spl S 0 (acc ++ [c]) r
  | k + 1, acc, _ :: r => spl S k acc r
/-- what stands before the first S, and behind it -/
def par (S : List Nat) : List Nat → List Nat → Option (List Nat × List Nat)
  | _, [] => none
  | acc, c :: r => if pre S (c :: r) = true then some (acc, (c :: r).drop S.length) else par S (acc ++ [c]) r

/-! ### the model's split and partition are these -/
/-! ### computing spl and par -/
/-- joined lists -/
def joinL (S : List Nat) : List (List Nat) → List Nat
  | [] => []
  | [p] => p
  | p :: q :: r => p ++ (S ++ joinL S (q :: r))
/-! ### digits -/
/-- the signs of a number -/
def numL (n : Nat) : List Nat := (Nat.toDigits 10 n).map Char.toNat
/-! ### words: x.split() -/
def wstep (st : List (List Nat) × List Nat) (c : Nat) : List (List Nat) × List Nat :=
  if Unicode.isSpace c = true then (if st.2 = [] then st else (st.1 ++ [st.2], [])) else (st.1, st.2 ++ [c])
def wfin (st : List (List Nat) × List Nat) : List (List Nat) := if st.2 = [] then st.1 else st.1 ++ [st.2]
end TL
end 

namespace L2
open PySem PySem.Spec PyProof.Rows

/-- a new list of texts, tracked -/
def rNewStrs (ys : List Str) : Hp → VK → Prop := fun H Q => ∀ p, H p = none → Q (.ref p) (upd H p (.lst (ys.map V.str)))

section
variable {X : Cx} {pins : List (Addr × Obj)} {σ : St} {H : Hp} {s : Shared} {Q : VK}
end

section
variable {X : Cx}

/-! ### of a text alone -/
/-! ### of a text and a text -/
end

section
variable {X : Cx} {o e : Expr} {to te : TE}
def tM0 (r : V → List V → Hp → VK → Prop) (to : TE) : TE := fun σ H Q => to σ H fun x H1 => (∃ a, x = .str a) ∧ r x [] H1 Q
def tM1 (r : V → List V → Hp → VK → Prop) (to te : TE) : TE := fun σ H Q => to σ H fun x H1 => (∃ a, x = .str a) ∧ te σ H1 fun y H2 => r x [y] H2 Q
end
end L2

namespace L2
open PySem PySem.Spec PyProof.Rows

section
variable {X : Cx}
end

/-! ### slices of a text -/
/-- a part, clipped, as the text's slice reckons it -/
def clipS (n d : Nat) : Option Int → Int
  | none => (d : Int)
  | some i => max 0 (min (if i < 0 then i + (n : Int) else i) (n : Int))
/-- z[lo:hi] -/
def cutS (z : Str) (lo hi : Option Int) : Str :=
  ⟨((z.cps.toList.drop (HT.sIx z.length 0 lo)).take (HT.sIx z.length z.length hi - HT.sIx z.length 0 lo)).toArray⟩
def rSlS : V → Option Int → Option Int → Hp → VK → Prop := fun x lo hi H Q => ∃ z, x = .str z ∧ z.length ≤ sizeLine ∧ Q (.str (cutS z lo hi)) H
end L2

namespace Att
open PySem PySem.W PySem.Calls PyProof.Rows

/-! ### the script -/
theorem ints_of_wellAll {P : Params} {h : Heap} : ∀ (ns : List Int) (vs : List Value), WellAll P h vs (ns.map WData.int) → IntsAre vs ns := by
  intro ns
  induction ns with
  | nil =>
    intro vs w
    rw [List.map_nil] at w
    cases w
    exact .nil
  | cons n ns ih =>
    intro vs w
    rw [List.map_cons] at w
    cases w with
    | cons a b =>
      cases a
      exact .cons _ _ (ih _ b)

theorem script_of {l : OpenLaw} {n : Nat} (hn : l.most = some n) {P : Params} {h : Heap} {args : List WData} {vals : List Value}
    (hpre : l.row.toRowW.claim.pre args = true) (hwl : WellAll P h vals args) :
    ∃ a vs ns, vals = [Value.ref a] ∧ args = [WData.list (ns.map WData.int)] ∧ h.get? a = some { cls := .type "list", data := .seq vs.toArray } ∧ IntsAre vs ns ∧ ns.length ≤ n := by
  have hsh : WShape.hasAll [] args [.list .int] = true := (pre_splitW hpre).1
  have hc : l.pre.holds [] { args := args } = true := (pre_splitW hpre).2
  obtain ⟨d, r, rfl, h1, h2⟩ := hasAllW_cons hsh
  obtain rfl := hasAllW_nil h2
  obtain ⟨xs, rfl, h3⟩ := hasW_list h1
  obtain ⟨ns, rfl⟩ := items_int h3
  have hlen : ns.length ≤ n := by
    unfold OpenLaw.pre at hc
    have h4 : (WTm.not (.lt (.lit (.int (n : Int))) (.len (.arg 0)))).holds [] { args := [.list (ns.map .int)] } = true := by
      have h4 := (holds_andW hc).1
      rw [hn] at h4
      exact h4
    have h5 := condW_of h4 (w_not (w_lt w_lit (w_len_list (w_arg rfl))))
    rw [List.length_map] at h5
    refine Nat.le_of_not_lt fun q => ?_
    have q' : (n : Int) < ((ns.length : Nat) : Int) := by omega
    first
      | (rw [decide_eq_true q'] at h5; exact absurd h5 (by decide))
      | (simp at h5; omega)
  cases hwl with
  | cons w1 w2 =>
    cases w2
    cases w1 with
    | list ho hall => exact ⟨_, _, ns, rfl, rfl, ho, ints_of_wellAll ns _ hall, hlen⟩

theorem post_true (l : OpenLaw) (args : List WData) : l.row.toRowW.claim.post args (.bool true) args = true :=
  postW_of (r := l.row.toRowW) (X := (true == true))
    (show WShape.has [] (.bool true) .bool = true by first | rfl | decide | simp [WShape.has, WShape.arms, WShape.armsAll])
    (show (WTm.eq .res (.lit (.bool true))).value [] { args := args, res := some (.bool true), after := args } = some (.bool (true == true)) from w_eq_bool (w_res rfl) w_lit) rfl

/-! ### the attachment: holds_open's last premise (the goal 'hc' behind k_head) from a wpAny of the law's body -/
/-- the same from a codeAny of the CALL (for a layer whose function contracts speak of calls) -/
theorem attach_call {l : OpenLaw} {n : Nat} {q : Program} {loose : List Str} {XP : (Str → Option Value) → Heap → Prop} {YP : World → Heap → Prop} {d : DefRec}
    (hn : l.most = some n) (hdf : d.params.defaults = [])
    (call : ∀ (w : World) (s₀ s₁ : Shared) (mg mb : Str → Option Value) (fa : Addr) (o : Obj) (pm cd doc : Value) (a : Addr) (vs : List Value) (ns : List Int),
      Ground q loose [] XP w s₀ mg mb s₁.heap → YP w s₁.heap →
      s₁.heap.get? fa = some o → o.data = .func (docDef d.name d.params d.body d.scope pm cd doc) → s₁.heap.CodeRec cd d.name → mg d.name = some (.ref fa) →
      s₁.heap.get? a = some { cls := .type "list", data := .seq vs.toArray } → IntsAre vs ns → ns.length ≤ n → s₁.gens = #[] →
      codeAny (model l.prog w) callerA (.call (.ref fa) ⟨[.ref a], []⟩) (fun r s' => r = .ok (.ret (.bool true)) ∧ OldK s₁.heap s'.heap ∧ s'.os = s₁.os ∧ AllBare s'.gens) s₁) :
    WalkO q loose XP YP l.row.toRowW d [] (fun f vs => PySem.call f vs) := by
  intro w s₀ s₁ mg mb G Y fa o pm cd doc dV kV ho hd hcd hD hmg hg args vals as hpre hlay hrd hwl hlo
  obtain rfl : dV = .none := Dflts.none hD hdf
  obtain rfl : kV = .none := Dflts.noKw hD
  obtain ⟨a, vs, ns, rfl, rfl, hobj, hints, hlen⟩ := script_of hn hpre hwl
  refine enter_call (codeAny_mono (call w s₀ s₁ mg mb fa o pm cd doc a vs ns G Y ho (fd_plain hd) hcd hmg hobj hints hlen hg) fun r s' hq => ?_)
  obtain ⟨rfl, h2, h3, h4⟩ := hq
  exact ⟨.inl ⟨.bool true, .bool true, [], rfl, fun _ => rfl, .bool true, post_true l _, fun _ => ⟨List.Pairwise.nil, fun _ hm => (nomatch hm)⟩⟩, h2, h3, h4⟩

/-! ### rules over ANY heap (no ledger) from facts about the written part K: the library's own take a ledger (News) for what they write -/
section
variable {prog : Program} {w : World} {A : Around} {E : Value → Shared → Prop} {s : Shared} {K : Frag}

/-! the whole heap as the ledger: makes every rule that writes through a ledger a rule over any heap -/
def noObjs (h : Heap) : Heap := { h with objs := #[] }
def ledger (h : Heap) (L d : Addr) : List (Addr × Obj) := (List.range h.objs.size).filterMap fun a => if a = L ∨ a = d then none else (h.get? a).map fun o => (a, o)
end
end Att

namespace L2
open PySem PySem.Spec PyProof.Rows

theorem vals_ints : ∀ {vs : List Value} {ns : List Int}, IntsAre vs ns → Vals (ns.map V.int) vs
  | _, _, .nil => .nil
  | _, _, .cons n t h => .cons ⟨t, rfl⟩ (vals_ints h)

/-- nothing is tracked but the script, known to the object (or it is an object of the module) -/
def Only (H : Hp) : Prop := ∀ b, H b = none ∨ ∃ o xs, H b = some (.frz o (.lst xs))

/-- THE HEAD: the law's promise, at the heap behind the top. F, the promise of the law's def, may use that base is part of the heap (so K.In base, base.Ns mainGlobals mg stand in Mod) -/
theorem law_call {P : Program} {w : World} {K : PySem.W.Frag} {mg mb : Str → Option Value} {CX : CXT} {k : Nat} {fa a : Addr} {fd : FuncData} {x : Str} {sp : Sp} {s₁ : Shared} {vs : List Value} {ns : List Int}
    (KX : K.In s₁.heap) (hns : s₁.heap.Ns mainGlobals mg) (hb : s₁.heap.Ns builtinsNs mb) (hbb : ∀ x : Str, x ≠ "__name__" → mb x = bootBuiltins x) (hlim : s₁.heap.NoLimit) (hdig : ∃ mc, s₁.heap.Ns cStatics mc ∧ mc "sys.int_max_str_digits" = none) (hg : s₁.gens = #[])
    (ha : s₁.heap.get? a = some { cls := .type "list", data := .seq vs.toArray }) (hi : IntsAre vs ns) (hl : ns.length ≤ sizeLine) (hr : Room k callerA)
    (F : ∀ base : Heap, K.In base → base.Ns mainGlobals mg → FnOk P w K mg base CX k fa fd [x] sp) (hbind : ∀ (s : Shared) (u : Value), BindsTo s fd ⟨[u], []⟩ [(x, u)])
    (hsp : ∀ H : Hp, Only H → SqL K H a (ns.map V.int) → sp [.ref a] H (fun v _ => v = .bl true) fun _ _ _ => False)
    (hCX : ∀ H e s', CX [] H s₁ (fun _ _ _ => False) e s' → False) :
    codeAny (model P w) callerA (.call (.ref fa) ⟨[.ref a], []⟩) (fun r s' => r = .ok (.ret (.bool true)) ∧ OldK s₁.heap s'.heap ∧ s'.os = s₁.os ∧ AllBare s'.gens) s₁ := by
  have rv := vals_ints hi
  have lenV := hi.length
  -- from an abstract heap in which nothing but the script may be tracked
  have core : ∀ H : Hp, Only H → SqL K H a (ns.map V.int) → HOk P w H s₁.heap → (∀ b, H b ≠ none → b = a) → (H a ≠ none → K.lookup a = none) →
      codeAny (model P w) callerA (.call (.ref fa) ⟨[.ref a], []⟩) (fun r s' => r = .ok (.ret (.bool true)) ∧ OldK s₁.heap s'.heap ∧ s'.os = s₁.os ∧ AllBare s'.gens) s₁ := by
    intro H hO hS hok hA hK
    have base_of : ∀ {b : Addr} {o : Obj}, s₁.heap.get? b = some o → H b = none → (hidT s₁.heap H).get? b = some o := fun e n => hidT_get e n
    have noA : ∀ {b : Addr} {o : Obj} {es : Array DictEntry} {ep : Nat}, s₁.heap.get? b = some o → o.data = .dict es ep → H b = none := fun {b o es ep} e d => by
      cases q : H b with
      | none => rfl
      | some u =>
        have e' : b = a := hA b (by rw [q]; simp)
        subst e'
        rw [ha] at e; cases e
        have d' : Data.seq vs.toArray _ = Data.dict es ep := d
        cases d'
    have nsK : ∀ {b : Addr} {m : Str → Option Value}, s₁.heap.Ns b m → (hidT s₁.heap H).Ns b m := fun {b m} ⟨o, es, ep, e, d, r⟩ => ⟨o, es, ep, base_of e (noA e d), d, r⟩
    have hKb : K.In (hidT s₁.heap H) := fun b o e => base_of (KX b o e) (by
      cases q : H b with
      | none => rfl
      | some u =>
        have e' : b = a := hA b (by rw [q]; simp)
        subst e'
        rw [hK (by rw [q]; simp)] at e; cases e)
    have hM : Mod K mg (hidT s₁.heap H) := ⟨hKb, nsK hns, ⟨mb, nsK hb, hbb⟩, (let ⟨mc, h1, h2⟩ := hlim; ⟨mc, nsK h1, h2⟩), let ⟨mc, h1, h2⟩ := hdig; ⟨mc, nsK h1, h2⟩⟩
    have e0 : Env0 P w K mg (hidT s₁.heap H) callerA [] s₁ H := ⟨rfl, hM, fun b o e => of_hidT e, Nat.le_of_eq (hidT_size _ _), trivial, fun b hb => absurd (show b ∈ ([] : List Addr) from hb) (by simp), hok, .of_eq hg⟩
    refine codeAny_mono ((F _ hKb (nsK hns)).run callerA [] s₁ H ⟨[.ref a], []⟩ [.ref a] [.ref a] _ _ hr e0 (hbind s₁ (.ref a)) (.cons rfl .nil) (hsp H hO hS)) fun r s' h => ?_
    cases r with
    | error e => exact (hCX H e s' h).elim
    | ok fl =>
      cases fl with
      | next => exact False.elim h
      | brk => exact False.elim h
      | cont => exact False.elim h
      | ret u =>
        obtain ⟨v, H', os, bare, un, hok', r', q⟩ := h
        have q' : v = .bl true := q
        subst q'
        obtain rfl : u = Value.bool true := r'
        refine ⟨rfl, OldK.of_keep fun b o e => ?_, os, bare⟩
        cases q : H b with
        | none => exact un.keep b o e q (by intro z; exact absurd (show b ∈ ([] : List Addr) from z) (by simp)) (by simp)
        | some u =>
          rcases hO b with z | ⟨ob, xs, z⟩
          · rw [q] at z; cases z
          · have z2 := un.frzs b ob _ z
            obtain ⟨e1, _⟩ := hok b _ z
            obtain ⟨e2, _⟩ := hok' b _ z2
            rw [e] at e1; cases e1
            exact e2
  cases hk : K.lookup a with
  | some o =>
    -- the script is one of the module's own objects
    have e := KX a o hk
    rw [ha] at e
    cases e
    refine core (fun _ => none) (fun _ => .inl rfl) (.inr ⟨_, vs.toArray, _, hk, rfl, rfl, rfl, by rw [List.size_toArray, lenV]; exact hl, by simpa using rv⟩) (fun b u z => by have z' : (none : Option HO) = some u := z; cases z') (fun b z => absurd rfl z) fun z => absurd rfl z
  | none =>
    refine core (fun b => if b = a then some (.frz { cls := .type "list", data := .seq vs.toArray } (.lst (ns.map V.int))) else none) (fun b => ?_) (.inl (.inr ⟨{ cls := .type "list", data := .seq vs.toArray }, if_pos rfl⟩)) (fun b u z => ?_) (fun b z => ?_) fun _ => hk
    · by_cases hb : b = a
      · exact .inr ⟨_, _, if_pos hb⟩
      · exact .inl (if_neg hb)
    · by_cases hb : b = a
      · have z' := (if_pos hb).symm.trans z
        cases z'
        subst hb
        exact ⟨ha, by rw [List.length_map]; exact hl, vs, _, rv, ha⟩
      · have z' := (if_neg hb).symm.trans z
        cases z'
    · by_cases hb : b = a
      · exact hb
      · exact absurd (if_neg hb) z
end L2

namespace L2
open PySem PySem.Spec PyProof.Rows

abbrev KOf {K : PySem.W.Frag} {h : Heap} (_ : K.In h) : PySem.W.Frag := K

/-- the goal that k_head leaves (case hc), from the law's promise. F gives the function object fd (K's own) once, then the promise over every base -/
theorem walk_of {l : PySem.W.OpenLaw} {n k : Nat} {q : Program} {loose : List Str} {XP : (Str → Option Value) → Heap → Prop} {YP : World → Heap → Prop} {d : DefRec} {K : Params → PySem.W.Frag} {CX : World → CXT} {sp : World → Sp} {x : Str}
    (hn : l.most = some n) (hn2 : n ≤ sizeLine) (hdf : d.params.defaults = []) (hr : Room k callerA)
    (hY : ∀ (w : World) (h : Heap), YP w h → (K w.params).In h)
    (F : ∀ (w : World) (mg : Str → Option Value) (fa : Addr) (h : Heap), (K w.params).In h → h.Ns mainGlobals mg → mg d.name = some (.ref fa) →
      ∃ fd : FuncData, (∀ (s : Shared) (u : Value), BindsTo s fd ⟨[u], []⟩ [(x, u)]) ∧
        ∀ base : Heap, (K w.params).In base → base.Ns mainGlobals mg → FnOk l.prog w (K w.params) mg base (CX w) k fa fd [x] (sp w))
    (hsp : ∀ (w : World) (H : Hp) (a : Addr) (ns : List Int), ns.length ≤ n → Only H → SqL (K w.params) H a (ns.map V.int) → sp w [.ref a] H (fun v _ => v = .bl true) fun _ _ _ => False)
    (hCX : ∀ (w : World) (H : Hp) (s : Shared) (e : Value) (s' : Shared), CX w [] H s (fun _ _ _ => False) e s' → False) :
    PySem.W.WalkO q loose XP YP l.row.toRowW d [] (fun f vs => PySem.call f vs) := by
  refine Att.attach_call hn hdf fun w s₀ s₁ mg mb fa o pm cd doc a vs ns G Y ho hd hcd hmg hobj hints hlen hg => ?_
  have KX := hY w _ Y
  obtain ⟨fd, hb, hF⟩ := F w mg fa _ KX G.T.g hmg
  exact law_call KX G.T.g G.T.b G.T.builtins G.T.nolimit G.T.nodigits hg hobj hints (Nat.le_trans hlen hn2) hr hF hb (fun H hO hS => hsp w H a ns hlen hO hS) fun H e s' => hCX w H s₁ e s'
end L2

/- THE LAST THEOREM (shape; LID, My.* are yours):
   My.Adr: a structure of the addresses that your layer names (classes, functions); My.Txt K t: a structure (Prop) of the equations over K;
   My.txt_mk : {K} {implicit addresses ..} (e1 : nsIn K mainGlobals "law" = some (some (.ref f))) (e2 : K.lookup f = some ⟨oc, od, .func (fnOf "law" "law" params body scope dV kV doc pm an cdv ct), sl⟩) (e3 : codeIn K cdv "law" = true) .. : ∃ t, My.Txt K t

set_option maxRecDepth 100000 in
set_option maxHeartbeats 0 in
theorem PySem.Challenge.cw_LID_holds : PySem.Challenge.rw_LID.Holds := by
  w_on; o_law; k_head; (case hw => w_witness2)
  k_fill
  refine L2.walk_of (l := PySem.Challenge.rw_LID) (n := 63) (k := 40) (x := "script") (CX := fun w => ..) (sp := fun _ => My.sp_law) rfl (by decide) rfl ⟨rfl, by decide, by decide⟩ (fun w h Y => PySem.W.kIn_of Y) ?F ?S ?C
  case F =>
    intro w mg fa h KX G hmg
    have T : ∃ t, My.Txt (L2.KOf KX) t := by
      dsimp only [L2.KOf]                          -- K must stand as «<heap const> w.params» for k_is
      refine' My.txt_mk ?e1 ?e2 ?e3 ..
      (case e1 => PySem.W.k_is)                    -- in the order: a name -> its address -> its object -> its parts
      (case e2 => PySem.W.k_is)
      ..
    obtain ⟨t, T⟩ := T
    have e0 := hmg.symm.trans (PySem.W.mg_of KX G T.law)
    cases e0                                       -- fa is the law's own address
    exact ⟨_, fun s u => .of_eq rfl, fun base kb nb => My.law_fn T kb nb⟩     -- if «.of_eq rfl» comes too early: refine' ⟨_, ?b, fun base kb nb => My.law_fn T kb nb⟩; exact fun s u => .of_eq rfl
  case S => exact fun w H a ns hl hO hS => ..
  case C => exact ..
(the tactic k_is has no namespace: write k_is) -/

/-! SHORT WORDS over the layer: a def of the text, its body, what a loop and a test want. -/
namespace L2
open PySem PySem.Spec PyProof.Rows

/-! ### the text by places -/
/-- the j-th statement of a class's body -/
def inClass (s : Stmt) (j : Nat) : Stmt := match s with
  | .ClassDef _ _ _ body _ _ _ _ _ _ _ => body.getD j (.Pass ⟨0, 0, 0, 0⟩)
  | _ => .Pass ⟨0, 0, 0, 0⟩
def defArgs (s : Stmt) : Arguments := match s with
  | .FunctionDef _ a _ _ _ _ _ _ _ _ => a
  | _ => { posonlyargs := [], args := [], vararg := none, kwonlyargs := [], kw_defaults := [], kwarg := none, defaults := [] }
def defBody (s : Stmt) : List Stmt := match s with
  | .FunctionDef _ _ b _ _ _ _ _ _ _ => b
  | _ => []
def defScope (s : Stmt) : Scope := match s with
  | .FunctionDef _ _ _ _ _ _ sc _ _ _ => sc
  | _ => { kind := .function, names := [], isGenerator := false, isCoroutine := false }

/-! ### no exception leaves a def -/
abbrev CX0 : CXT := fun _ _ _ _ _ _ => False
abbrev E0 : XK := fun _ _ _ => False
theorem pass0 {X : Cx} : Passes CX0 X E0 := fun _ _ _ _ _ _ _ h => h.elim

/-! ### a def (or method) of the text as it stands behind the top -/
structure Fun (K : PySem.W.Frag) (x qual : Str) (st : Stmt) (f : Addr) (fd : FuncData) : Prop where
  ex : ∃ (oc : Value) (od : Option Addr) (kV doc pm : Value) (an : Option Addr) (cdv ct : Value) (osl : Array (Option Value)),
    fd = PySem.W.fnOf x qual (defArgs st) (defBody st) (defScope st) .none kV doc pm an cdv ct ∧ K.lookup f = some ⟨oc, od, .func fd, osl⟩ ∧ PySem.W.codeIn K cdv qual = true
  kp : PySem.W.keepIn K (.ref f) = true
section
variable {P : Program} {w : World} {K : PySem.W.Frag} {mg : Str → Option Value} {base : Heap}
/-- THE RULE for a def: its body as a term of rules, and the reading of that term -/
theorem Fun.ok {x qual : Str} {st : Stmt} {f : Addr} {fd : FuncData} {N ps : List Str} {k : Nat} {sp : Sp} (F : Fun K x qual st f fd) (S : FnScope N ps (defScope st)) (len : ∀ vs H Q E, sp vs H Q E → vs.length = ps.length)
    (hbody : ∀ (cdv : Value) (A : Around) (outer : List Env) (s : Shared) (H : Hp) (vs : List V) (Q : VK) (E : XK), Room k (A.deeper (envOfC qual (defScope st) s.heap.objs.size f cdv)) → sp vs H Q E →
      ∃ t, PSs (cxOf CX0 P w K mg base N qual (defScope st) f cdv A outer s H E).nox (defBody st) t ∧ t { nx := fun _ H' => Q .non H', rt := Q } (start N vs) H) : FnOk P w K mg base CX0 (k + 1) f fd ps sp := by
  obtain ⟨oc, od, kV, doc, pm, an, cdv, ct, osl, rfl, lk, hcd⟩ := F.ex
  refine fn_of lk hcd S len fun A outer s H vs Q E hr hsp => ?_
  obtain ⟨t, h, q⟩ := hbody cdv A outer s H vs Q E hr hsp
  exact ⟨t, h.nox, q⟩
/-- how its arguments bind (no defaults): h is «fun _ _ _ _ _ _ us hl => match us, hl with | [_, _], _ => rfl», one _ a parameter -/
theorem Fun.binds {x qual : Str} {st : Stmt} {f : Addr} {fd : FuncData} {ps : List Str} (F : Fun K x qual st f fd)
    (h : ∀ (kV doc pm : Value) (an : Option Addr) (cdv ct : Value) (us : List Value), us.length = ps.length → bindArgs (PySem.W.fnOf x qual (defArgs st) (defBody st) (defScope st) .none kV doc pm an cdv ct) ⟨us, []⟩ = pure (ps.zip us)) : Binds K fd ps [] := by
  obtain ⟨oc, od, kV, doc, pm, an, cdv, ct, osl, rfl, lk, hcd⟩ := F.ex
  exact .all (h kV doc pm an cdv ct)
theorem fun_mk {x qual : Str} {st : Stmt} {f : Addr} {oc : Value} {od an : Option Addr} {osl : Array (Option Value)} {kV doc pm cdv ct : Value} (l : K.lookup f = some ⟨oc, od, .func (PySem.W.fnOf x qual (defArgs st) (defBody st) (defScope st) .none kV doc pm an cdv ct), osl⟩)
    (c : PySem.W.codeIn K cdv qual = true) (k : PySem.W.keepIn K (.ref f) = true) : Fun K x qual st f (PySem.W.fnOf x qual (defArgs st) (defBody st) (defScope st) .none kV doc pm an cdv ct) := ⟨⟨oc, od, kV, doc, pm, an, cdv, ct, osl, rfl, l, c⟩, k⟩
end
theorem hu_of {A : Around} {k : Nat} (hr : Room k A) : A.units + 1 < cLine := Nat.lt_of_le_of_lt (Nat.add_le_add_left (by decide : 1 ≤ 64) _) hr.units
/-! ### expressions in short: the name that stands in the i-th slot -/
section
variable {X : Cx}
theorem pv (i : Nat) {x : Str} {pos : Pos} (hN : X.N[i]? = some x := by rfl) (hv : Vis X.env.scope x := by first | exact Or.inl rfl | exact Or.inr (Or.inl rfl) | exact Or.inr (Or.inr rfl)) (hd : (x == ("__debug__" : Str)) = false := by decide)
    (hcd : (x == ("__classdict__" : Str)) = false := by decide) : PE X (.Name x pos) (tVar i) := pe_var hN hv hd hcd
end

/-! ### tests -/
theorem iteF {A B : Prop} (h : B) : if false = true then A else B := by
  rw [if_neg Bool.false_ne_true]
  exact h
theorem iteT {A B : Prop} (h : A) : if true = true then A else B := by
  rw [if_pos rfl]
  exact h
theorem ite2 {c A B : Prop} [Decidable c] (h1 : c → A) (h2 : ¬ c → B) : if c then A else B := by
  by_cases h : c
  · rw [if_pos h]
    exact h1 h
  · rw [if_neg h]
    exact h2 h
/-! ### heaps -/
/-- all that was tracked is as it was -/
def Same (H H' : Hp) : Prop := ∀ b o, H b = some o → H' b = some o
theorem Same.refl (H : Hp) : Same H H := fun _ _ h => h
theorem Same.trans {H H1 H2 : Hp} (a : Same H H1) (b : Same H1 H2) : Same H H2 := fun c o h => b c o (a c o h)
theorem Same.free {H H' : Hp} (e : Same H H') {l : Addr} (h : H' l = Option.none) : H l = Option.none := by
  cases q : H l with
  | none => rfl
  | some o =>
    rw [e l o q] at h
    cases h
theorem Same.seq {K : PySem.W.Frag} {H H' : Hp} {a : Addr} {xs : List V} (e : Same H H') (h : SqL K H a xs) : SqL K H' a xs := by
  rcases h with (h | ⟨o, h⟩) | h
  · exact .inl (.inl (e _ _ h))
  · exact .inl (.inr ⟨o, e _ _ h⟩)
  · exact .inr h

/-! ### a dict's pairs: keys that differ -/
section
variable {κ : Type} [DecidableEq κ]
end
/-! ### lists -/
end L2

set_option Elab.async false
set_option linter.all false
set_option maxRecDepth 100000
namespace L2
open PySem PySem.Spec PyProof.Rows
section
variable {X : Cx}
/-! ### is, is not of two bools -/
def rIsB : R2 := fun x y H Q => ∃ i j, x = .bl i ∧ y = .bl j ∧ Q (.bl (decide (i = j))) H
def rIsntB : R2 := fun x y H Q => ∃ i j, x = .bl i ∧ y = .bl j ∧ Q (.bl (!decide (i = j))) H
/-! ### isinstance(x, T), T a built-in class -/
/-! ### products, powers of any size that the model bears -/
theorem op_mulB : OpR X (binaryOp .Mult) (rI IntMulOk fun i j => .int (i * j)) := opI fun _ _ _ _ _ _ _ hc q => mul_int q hc
end
end L2

set_option Elab.async false
set_option linter.all false
set_option maxRecDepth 100000
namespace L2
open PySem PySem.Spec PyProof.Rows
section
variable {X : Cx}
/-! ### t + u, whatever is empty: some tuple of both -/
def rCatA : R2 := fun x y H Q => ∃ a b xs ys, x = .ref a ∧ y = .ref b ∧ H a = some (.tup xs) ∧ H b = some (.tup ys) ∧ xs.length + ys.length ≤ sizeLine ∧
  ∀ r H', (∀ c o, H c = some o → H' c = some o) → H' r = some (.tup (xs ++ ys)) → Q (.ref r) H'
/-! ### t[a:b], the whole too -/
def rSlTA : V → Option Int → Option Int → Hp → VK → Prop := fun x lo hi H Q => ∃ a xs, x = .ref a ∧ H a = some (.tup xs) ∧ ∀ r H', (∀ c o, H c = some o → H' c = some o) → H' r = some (.tup (cutV xs lo hi)) → Q (.ref r) H'
/-! ### powers -/
def CPowB (i j : Int) : Prop := 0 < j ∧ 1 < i ∧ ¬ Builtin.Int.intTooBig (((Builtin.Int.intBits i : Nat) : Int) * j) = true
/-! ### repr, str of data -/
theorem call_repr (hu : X.A.units + 64 < cLine) (hg : X.A.guards = some []) : CallR X (.builtin "repr") (fun xs H Q => ∃ a d, xs = [.ref a] ∧ Dp X.K H (.ref a) d ∧ d.showable = true ∧ d.hasDict = false ∧ d.depth ≤ 20 ∧ d.shown.length ≤ sizeLine ∧ Q (.str d.shown) H) := by
  intro pins s σ H xs us Q I r h
  obtain ⟨a, d, rfl, dp, h1, h2, h3, h4, q⟩ := h
  obtain ⟨u, rfl, ru⟩ := vals1 r
  cases ru
  obtain ⟨as, rd⟩ := Dp.reads I d (.ref a) (.ref a) dp rfl
  exact repr_of_reads' rd h1 (fun z => by rw [h2] at z; cases z) hg (by omega) (fun b o e => e) (fun h' u tk k => ⟨.str d.shown, H, I.kept k, ⟨u, rfl⟩, q⟩) h4
/-! ### n.bit_length() -/
theorem mt_bits : MtR X "int.bit_length" (fun x xs H Q => ∃ i, x = .int i ∧ xs = [] ∧ Q (.int (Builtin.Int.intBits i : Nat)) H) := by
  intro pins s σ H x xs v us Q I rx r h
  obtain ⟨i, rfl, rfl, q⟩ := h
  cases r
  obtain ⟨t, rfl⟩ := rx
  exact call_int_bit_length ⟨.int _, H, I.tok _, ⟨_, rfl⟩, q⟩
/-! ### range(n) as a value; reversed(range(n)) -/
end
end L2

set_option Elab.async false
set_option linter.all false
set_option maxRecDepth 100000
namespace PySem
namespace DwX
def rgSmall (a b c : Int) : Bool := Builtin.Range.rangeFitsLong a && Builtin.Range.rangeFitsLong b && Builtin.Range.rangeFitsLong c && Builtin.Range.rangeFitsLong (-c) && Builtin.Range.rangeFitsLong (a - c) && Builtin.Range.rangeFitsLong (Builtin.Range.rangeSize a b c)
def rgObj (x left step : Int) : Obj := { cls := .type "range_iterator", data := .fields #[rawInt x, rawInt left, rawInt step] }
section
variable {prog : Program} {w : World} {A : Around} {E : Value → Shared → Prop} {s : Shared}
end
end DwX
end PySem

set_option Elab.async false
set_option linter.all false
set_option maxRecDepth 100000
namespace L2
open PySem PySem.Spec PyProof.Rows
section
variable {X : Cx}
/-- reversed(range(j)) -/
def iRevR (ta : TA) : TI := fun σ H R => ta σ H fun vs H1 => ∃ (a : Addr) (j : Int), vs = [.ref a] ∧ H1 a = some (.rng 0 j) ∧ 0 ≤ j ∧ j < 2 ^ 62 ∧ R (Itc (j - 1) (-1) j.toNat) H1
/-! ### powers -/
theorem op_powB : OpR X (binaryOp .Pow) (rI CPowB fun i j => .int (i ^ j.toNat)) := opI fun i j t u s Q E hc q => by
  obtain ⟨h0, h1, h2⟩ := hc
  have e1 : ¬ (j == 0) = true := by simp; omega
  have e2 : ¬ (i == 0 || i == 1) = true := by simp; omega
  have e3 : ¬ (i == -1) = true := by simp; omega
  exact PySem.AutoIntOps.pow_4 (by omega) e1 e2 e3 h2 q
/-! ### text * n -/
def rRepS : R2 := fun x y H Q => ∃ z n, x = .str z ∧ y = .int n ∧ 1 < n ∧ 0 < z.length ∧ z.length * n.toNat ≤ sizeLine ∧ n < 2 ^ 40 ∧ ∀ z', Q (.str z') H
end
end L2

set_option Elab.async false
set_option linter.all false
set_option maxRecDepth 100000
namespace PySem
namespace DwX
end DwX
end PySem

namespace L2
open PySem PySem.Spec PyProof.Rows
section
variable {X : Cx}
/-- tuple * n -/
def rRepT (K : PySem.W.Frag) : R2 := fun x y H Q => ∃ a k xs, x = .ref a ∧ y = .int k ∧ SqT K H a xs ∧ xs ≠ [] ∧ 1 < k ∧ k < 2 ^ 40 ∧ xs.length * k.toNat ≤ sizeLine ∧
  ∀ p, H p = none → Q (.ref p) (upd H p (.tup (List.replicate k.toNat xs).flatten))
/-! ### {t: v}, the key a tuple of ints and texts -/
def tDisp1 (tk tv : TE) : TE := fun σ H Q => ∀ p H0, H p = none → Same H H0 → H0 p = some (.dT []) → tk σ H0 fun x H1 => tv σ H1 fun y H2 => H2 p = some (.dT []) ∧ ∃ b ks, x = .ref b ∧ H2 b = some (.tup (ks.map kV)) ∧
  ∀ H3, (∀ b o, H2 b = some o → b ≠ p → H3 b = some o) → (∀ b, H3 b = none → H2 b = none) → H3 p = some (.dT [(ks, y)]) → Q (.ref p) H3
end
end L2

set_option Elab.async false
set_option linter.all false
set_option maxRecDepth 100000
namespace L2
open PySem PySem.Spec PyProof.Rows
/-! ### a def of the text that is called by its name: all that a caller asks -/
structure Cal (P : Program) (w : World) (K : PySem.W.Frag) (mg : Str → Option Value) (base : Heap) (k : Nat) (x : Str) (ps : List Str) (sp : Sp) : Prop where
  ex : ∃ (f : Addr) (fd : FuncData), FnOk P w K mg base CX0 k f fd ps sp ∧ mg x = some (.ref f) ∧ PySem.W.keepIn K (.ref f) = true ∧ Binds K fd ps []
/-- .. by names alone: ks the keywords' names as they are written, gV puts their values in the parameters' order -/
structure CalK (P : Program) (w : World) (K : PySem.W.Frag) (mg : Str → Option Value) (base : Heap) (k : Nat) (x : Str) (ps ks : List Str) (gV : List V → List V → List V) (sp : Sp) : Prop where
  ex : ∃ (f : Addr) (fd : FuncData) (g : List Value → List Value → List Value), FnOk P w K mg base CX0 k f fd ps sp ∧ mg x = some (.ref f) ∧ PySem.W.keepIn K (.ref f) = true ∧ KBinds K fd ps ks g gV
section
variable {X : Cx} {k : Nat} {x : Str} {ps ks : List Str} {gV : List V → List V → List V} {sp : Sp} {p pos : Pos} {e : Expr} {es : List Expr} {kws : List Keyword} {t tk : TA}
theorem pe_cal (C : Cal X.prog X.w X.K X.mg X.base k x ps sp) (hr : Room k X.A) (hg : Gl X x) (ha : PA X (e :: es) t) (hdb : (x == ("__debug__" : Str)) = false := by decide)
    (he : starEach (e :: es) X.env = (false, eval e X.env) :: starEach es X.env := by rfl) (hpl : (backTo pos (starEach es X.env)).any (·.1) = false := by rfl) : PE X (.Call (.Name x p) (e :: es) [] pos) (tCall sp [] E0 t) := by
  obtain ⟨f, fd, F, hm, hk, hb⟩ := C.ex
  exact pe_call F hr hg hm hk hb .nil pass0 ha hdb he hpl
theorem pe_calK (C : CalK X.prog X.w X.K X.mg X.base k x ps ks gV sp) (hr : Room k X.A) (hg : Gl X x) (hkw : PK X kws tk) (hall : (backToKw pos (keywordEach kws X.env)).all (·.1.isSome) = true := by rfl)
    (hks : (backToKw pos (keywordEach kws X.env)).filterMap (·.1) = ks := by rfl) (hdb : (x == ("__debug__" : Str)) = false := by decide)
    (hpl : ((backTo pos (starEach [] X.env)).any (·.1) || (backToKw pos (keywordEach kws X.env)).any (·.1.isNone)) = false := by rfl) : PE X (.Call (.Name x p) [] kws pos) (tCallK sp gV E0 tNil tk) := by
  obtain ⟨f, fd, g, F, hm, hk, hb⟩ := C.ex
  intro pins s σ H Q I h
  refine wpAny_Call_Name_kw (ld_glob I hg hm ?_ hdb)
  refine PySem.W.callWith_KW0 (h₀ := X.base) I.ok.mod.kin hk hall (thn (hkw pos pins s σ H _ I h) fun ws s2 ⟨zs, H2, I2, rz, q2⟩ => ⟨I2.kIn, ?_⟩) hpl
  rw [hks]
  exact run_fnk (us := []) F hr hb pass0 I2 .nil rz q2
end
/-- for i, x in enumerate(xs) -/
theorem for_enum {K : PySem.W.Frag} {a : Addr} {xs : List V} {g : TG} {tb : TS} {D : Ends} {σ : St} {H : Hp} (Pv : Nat → St → Hp → Prop) (h0 : Pv 0 σ H) (hl : ∀ i σ H, i ≤ xs.length → Pv i σ H → SqL K H a xs)
    (hs : ∀ i x σ H T, xs[i]? = some x → Pv i σ H → H T = none → g (.ref T) σ (upd H T (.tup [.int (i : Nat), x])) fun σ2 H2 => tb { D with nx := Pv (i + 1), ct := Pv (i + 1), bk := D.nx } σ2 H2) (hd : ∀ σ H, Pv xs.length σ H → D.nx σ H) :
    ∃ W : Nat → Nat → St → Hp → Prop, (∃ m, W 0 m σ H) ∧ ∀ i m σ H, W i m σ H →
      ((Ite K a).stop i H ∧ D.nx σ H) ∨ ((Ite K a).go i H ∧ ∃ N : St → Hp → Prop, (∀ σ' H', N σ' H' → ∃ m', m' < m ∧ W (i + 1) m' σ' H') ∧ ∀ x H', (Ite K a).yld i H x H' → g x σ H' fun σ2 H2 => tb { D with nx := N, ct := N, bk := D.nx } σ2 H2) := by
  refine ⟨fun i m σ H => m = xs.length - i ∧ i ≤ xs.length ∧ Pv i σ H, ⟨xs.length, by simp, Nat.zero_le _, h0⟩, ?_⟩
  rintro i m σ H ⟨rfl, hle, p⟩
  by_cases hlt : i < xs.length
  · obtain ⟨x, hx⟩ : ∃ x, xs[i]? = some x := ⟨xs[i], List.getElem?_eq_getElem hlt⟩
    refine .inr ⟨⟨xs, x, hl i σ H hle p, hx⟩, Pv (i + 1), fun σ' H' p' => ⟨xs.length - (i + 1), by omega, rfl, hlt, p'⟩, fun y H' yl => ?_⟩
    obtain ⟨T, z, e1, e2, e3, e4⟩ := yl
    have e5 : z = x := Option.some.inj ((e4 xs (hl i σ H hle p)).symm.trans hx)
    subst e1 e3 e5
    exact hs i z σ H T hx p e2
  · have e : i = xs.length := by omega
    subst e
    exact .inl ⟨⟨xs, hl _ σ H hle p, Nat.le_refl _⟩, hd σ H p⟩
end L2

set_option Elab.async false
set_option linter.all false
set_option maxRecDepth 100000
namespace L2
open PySem PySem.Spec PyProof.Rows
section
variable {X : Cx} {pos : Pos}
/-- a, b, c = e1, e2, e3 -/
def tPar3 (i j k : Nat) (ta : TA) : TS := fun D σ H => ta σ H fun vs H1 => ∃ v w z, vs = [v, w, z] ∧ D.nx (((σ.set i (some v)).set j (some w)).set k (some z)) H1
theorem ps_par3 {i j k : Nat} {x y z : Str} {a b c : Expr} {ta : TA} {px py pz pt : Pos} {kt k2 pt2} (hc : X.calm = true) (hN : X.N.Nodup) (hi : X.N[i]? = some x) (hj : X.N[j]? = some y) (hk : X.N[k]? = some z) (hij : i ≠ j) (hik : i ≠ k) (hjk : j ≠ k)
    (hx : X.env.scope.names.lookup x = some .local) (hy : X.env.scope.names.lookup y = some .local) (hz : X.env.scope.names.lookup z = some .local) (ha : PA X [a, b, c] ta)
    (hw : swappedStores [.Tuple [.Name x px, .Name y py, .Name z pz] kt pt] (.Tuple [a, b, c] k2 pt2) X.env = pure (some [x, y, z]))
    (hs : swapsWithSole [.Tuple [.Name x px, .Name y py, .Name z pz] kt pt] (.Tuple [a, b, c] k2 pt2) pos.line X.env = pure false := by rfl) :
    PS X (.Assign [.Tuple [.Name x px, .Name y py, .Name z pz] kt pt] (.Tuple [a, b, c] k2 pt2) pos) (tPar3 i j k ta) := by
  intro pins s σ H D I h
  rw [exec_Assign_arm]
  refine wpAny_bind (wpAny_standAt ?_)
  rw [hs]
  refine wpAny_bind (wpAny_pure ?_)
  rw [if_neg (by decide)]
  refine wpAny_bind (Tuple_ (thn (ha _ pins s σ H _ I h) fun us s1 ⟨vs, H1, I1, r1, q1⟩ => ?_))
  obtain ⟨v, w, o, e1, q1⟩ := q1
  subst e1
  obtain ⟨u1, u2, u3, rfl, rv, rw', ro⟩ : ∃ u1 u2 u3, us = [u1, u2, u3] ∧ RelV v u1 ∧ RelV w u2 ∧ RelV o u3 := by
    cases r1 with
    | cons p q =>
      cases q with
      | cons p' q' =>
        cases q' with
        | cons p'' q'' =>
          cases q''
          exact ⟨_, _, _, rfl, p, p', p''⟩
  refine wpAny_newObj_type ?_ (by show 3 ≤ sizeLine; decide)
  have I2 : Inv X pins σ H1 { s1 with heap := s1.heap.push { cls := .type "tuple", data := .seq [u1, u2, u3].toArray } } := I1.kept (t' := s1.toks) fun b o e => Heap.get?_push_of_some _ e
  rw [hw]
  refine wpAny_bind (wpAny_pure ?_)
  show wpAny (model X.prog X.w) X.A (do rule "assign.swapped-stores"; let items ← unpackItems (.ref s1.heap.objs.size) 3 none; assignInOrder [fun v => bindName X.env z v, fun v => bindName X.env y v, fun v => bindName X.env x v] items.reverse; pure Flow.next) _ _ _
  refine wpAny_bind (wpAny_rule (wpAny_bind (unpackItems_tuple (items := #[u1, u2, u3]) (I.ok.hd hc) (IsTup.new s1.heap _) fun h' hx' => ?_)))
  have I3 := I2.kept (h' := h') (t' := s1.toks) fun b o e => hx' b o (Nat.ne_of_lt (Heap.lt_size e)) e
  show wpAny _ _ (assignInOrder [fun v => bindName X.env z v, fun v => bindName X.env y v, fun v => bindName X.env x v] [u3, u2, u1] >>= fun _ => pure Flow.next) _ _ _
  refine wpAny_bind (assignInOrder_cons (wpAny_bindName (store_ok I3 hN hk (.inl hz) ro (fun s2 I4 => ?_) (.inr hz))))
  refine assignInOrder_cons (wpAny_bindName (store_ok I4 hN hj (.inl hy) rw' (fun s3 I5 => ?_) (.inr hy)))
  refine assignInOrder_cons (wpAny_bindName (store_ok I5 hN hi (.inl hx) rv (fun s4 I6 => assignInOrder_nil (wpAny_pure ?_)) (.inr hx)))
  rw [List.set_comm _ _ (Ne.symm hij), List.set_comm _ _ (Ne.symm hik), List.set_comm _ _ (Ne.symm hjk)] at I6
  exact ⟨_, H1, I6, q1⟩
end
end L2

set_option Elab.async false
set_option linter.all false
set_option maxRecDepth 100000
namespace L2
open PySem PySem.Spec PyProof.Rows
theorem same_upd {H : Hp} {p : Addr} {o : HO} (h : H p = none) : Same H (upd H p o) := fun b x e => by rw [upd_ne (ne_of_none e h)]; exact e
/-- a new object, the heap behind it a letter -/
def Born (H : Hp) (o : HO) (Q : VK) : Prop := ∀ p H', H p = none → Same H H' → H' p = some o → Q (.ref p) H'
theorem Born.at {H : Hp} {o : HO} {Q : VK} (h : Born H o Q) {p : Addr} (hp : H p = none) : Q (.ref p) (upd H p o) := h p _ hp (same_upd hp) upd_same
def tTupA (t : TA) : TE := fun σ H Q => t σ H fun xs H1 => xs.length ≤ sizeLine ∧ Born H1 (.tup xs) Q
def tLstA (t : TA) : TE := fun σ H Q => t σ H fun xs H1 => xs.length ≤ sizeLine ∧ Born H1 (.lst xs) Q
section
variable {X : Cx} {es : List Expr} {t : TA} {pos : Pos}
theorem pe_tupA {x1} (h : PA X es t) : PE X (.Tuple es x1 pos) (tTupA t) := by
  intro pins s σ H Q I hq
  refine wpAny_Tuple_spliced (thn (h pos pins s σ H _ I hq) fun us s1 ⟨xs, H1, I1, r, z, q⟩ => ⟨by rw [← r.length]; exact z, ?_⟩)
  refine ⟨.ref s1.heap.objs.size, upd H1 s1.heap.objs.size (.tup xs), I1.laid (t' := s1.toks) (fun b u e => Heap.get?_push_of_some _ e) (Nat.le_refl _) ?_, rfl, q.at (I1.hok.fresh (Nat.le_refl _))⟩
  exact ⟨z, us, r, ⟨_, Heap.get?_push_size _ rfl, rfl, _, rfl⟩⟩
theorem pe_lstA (h : PA X es t) : PE X (.List es pos) (tLstA t) := by
  intro pins s σ H Q I hq
  refine wpAny_List_spliced (thn (h pos pins s σ H _ I hq) fun us s1 ⟨xs, H1, I1, r, z, q⟩ => ⟨by rw [← r.length]; exact z, ?_⟩)
  refine ⟨.ref s1.heap.objs.size, upd H1 s1.heap.objs.size (.lst xs), I1.laid (t' := s1.toks) (fun b u e => Heap.get?_push_of_some _ e) (Nat.le_refl _) ?_, rfl, q.at (I1.hok.fresh (Nat.le_refl _))⟩
  exact ⟨z, us, 0, r, Heap.get?_push_size _ rfl⟩
def tDNewA : TE := fun _ H Q => Born H (.dK []) Q
def rCatL : R2 := fun x y H Q => ∃ l b xs zs, x = .ref l ∧ y = .ref b ∧ H l = some (.lst xs) ∧ H b = some (.lst zs) ∧ xs.length + zs.length ≤ sizeLine ∧ Born H (.lst (xs ++ zs)) Q
def rRepL : R2 := fun x y H Q => ∃ l k xs, x = .ref l ∧ y = .int k ∧ H l = some (.lst xs) ∧ -(2 ^ 63) ≤ k ∧ k < 2 ^ 63 ∧ xs.length * k.toNat ≤ sizeLine ∧ Born H (.lst (List.replicate k.toNat xs).flatten) Q
def rRepTA (K : PySem.W.Frag) : R2 := fun x y H Q => ∃ a k xs, x = .ref a ∧ y = .int k ∧ SqT K H a xs ∧ xs ≠ [] ∧ 1 < k ∧ k < 2 ^ 40 ∧ xs.length * k.toNat ≤ sizeLine ∧ Born H (.tup (List.replicate k.toNat xs).flatten) Q
def rSlLA (K : PySem.W.Frag) : V → Option Int → Option Int → Hp → VK → Prop := fun x lo hi H Q => ∃ a xs, x = .ref a ∧ SqL K H a xs ∧ Born H (.lst (cutV xs lo hi)) Q
/-- {k: v, ..}, keys ints and texts -/
def tDispA (trs : List (TE × TE)) : TE := fun σ H Q => ∀ p H0, H p = none → Same H H0 → H0 p = some (.dK []) → tPairs trs σ H0 fun ps H2 => H2 p = some (.dK []) ∧ ∃ kvs : List (Key × V), ps = kvs.map (fun kv => (kV kv.1, kv.2)) ∧ kvs.length ≤ 15 ∧
  ∀ H3, (∀ b o, H2 b = some o → b ≠ p → H3 b = some o) → (∀ b, H3 b = none → H2 b = none) → H3 p = some (.dK (mergeK [] kvs)) → Q (.ref p) H3
theorem pe_dispA {keys : List (Option Expr)} {values : List Expr} {trs : List (TE × TE)} (h : PPs X pos keys values trs) (hall : keys.all (·.isSome) = true) (hl : keys.length = values.length) (h0 : keys ≠ [])
    (h15 : keys.length ≤ 15) : PE X (.Dict keys values pos) (tDispA trs) := by
  intro pins s σ H Q I q
  have hn := I.hok.fresh (Nat.le_refl s.heap.objs.size)
  have I1 := I.laid (a := s.heap.objs.size) (o := .dK []) (h' := s.heap.push { cls := .type "dict", data := .dict #[] }) (t' := s.toks) (fun _ _ q => Heap.get?_push_of_some _ q) (Nat.le_refl _) (dk_empty s.heap I.big)
  refine wpAny_Dict_walk (knd := mixKind X.prog X.w) hall hl h0 h15 (thn (h pins _ σ _ _ I1 (q _ _ hn (same_upd hn) upd_same)) fun ws s2 ⟨ps, H2, I2, rel, e, kvs, ep, lk, q2⟩ => ?_)
  subst ep
  obtain ⟨rs, c, rk⟩ := carries_of (P := X.prog) (w := X.w) rel
  obtain ⟨z, hd, vs0, r0, dd⟩ := dk_of I2.hok e
  cases r0
  refine ⟨rs, c, dd, fun h' dd' hs => ⟨.ref s.heap.objs.size, _, ?_, rfl, q2 (upd H2 s.heap.objs.size (.dK (mergeK [] kvs))) (fun b o eb hb => by rw [upd_ne hb]; exact eb) (fun b eb => ?_) upd_same⟩⟩
  · have hz : (mergeK [] kvs).length ≤ sizeLine := by
      have h1 := length_mergeK kvs []
      rw [List.length_nil] at h1
      rw [sizeLine_eq]; omega
    have he : ∃ q, h'.get? s.heap.objs.size = some q := let ⟨q, _, _, hq, _⟩ := dd'; ⟨q, hq⟩
    exact d_write I2 (by rw [e]; exact True.intro) hs he (dk_new hz hd (rk.merge .nil) dd')
  · by_cases hb : b = s.heap.objs.size
    · subst hb; rw [upd_same] at eb; cases eb
    · rwa [upd_ne hb] at eb
end
end L2

set_option Elab.async false
set_option linter.all false
set_option maxRecDepth 100000
/-! readings step by step: each lemma opens one word, so that nothing is unfolded by unification -/
namespace L2
open PySem PySem.Spec
section
variable {σ : St} {H : Hp} {Q : VK} {D : Ends} {K : PySem.W.Frag}
end
end L2

set_option Elab.async false
set_option linter.all false
set_option maxRecDepth 100000
/-! the rules behind a lid, so that no unifier looks into a judgement -/
namespace L2
open PySem PySem.Spec PyProof.Rows
@[irreducible] def Wr (p : Prop) : Prop := p
theorem Wr.mk {p : Prop} (h : p) : Wr p := by unfold Wr; exact h
theorem Wr.un {p : Prop} (h : Wr p) : p := by unfold Wr at h; exact h
section
variable {X : Cx} {a b c e o : Expr} {es rest : List Expr} {ta tb tc te to : TE} {tA tB' : TT} {t u : TA} {pos p pos' apos cpos : Pos}
theorem wv (i : Nat) {x : Str} {pos : Pos} (hN : X.N[i]? = some x := by rfl) (hv : Vis X.env.scope x := by first | exact Or.inl rfl | exact Or.inr (Or.inl rfl) | exact Or.inr (Or.inr rfl)) (hd : (x == ("__debug__" : Str)) = false := by decide)
    (hcd : (x == ("__classdict__" : Str)) = false := by decide) : Wr (PE X (.Name x pos) (tVar i)) := .mk (pv i hN hv hd hcd)
theorem we_int {i j pos} : Wr (PE X (.Constant (.int i) j pos) (tC (.int i))) := .mk pe_int
theorem we_bl {b j pos} : Wr (PE X (.Constant (.bool b) j pos) (tC (.bl b))) := .mk pe_bl
theorem we_non {j pos} : Wr (PE X (.Constant .none j pos) (tC .non)) := .mk pe_non
theorem we_str {x j pos} : Wr (PE X (.Constant (.str x) j pos) (tC (.str x))) := .mk pe_str
theorem we_glob {x : Str} {v : V} {u : Value} (hg : Gl X x) (hm : X.mg x = some u) (r : RelV v u) (hd : (x == ("__debug__" : Str)) = false := by decide) : Wr (PE X (.Name x pos) (tC v)) := .mk (pe_glob hg hm r hd)
theorem we_bltn {x : Str} {v : V} {u : Value} (hg : Gl X x) (hm : X.mg x = none) (hv : bootBuiltins x = some u) (r : RelV v u) (hn : x ≠ "__name__" := by decide) (hd : (x == ("__debug__" : Str)) = false := by decide) : Wr (PE X (.Name x pos) (tC v)) := .mk (pe_bltn hg hm hv r hn hd)
theorem we_op {op : Operator} {r : R2} (ho : OpR X (binaryOp op) r) (ha : Wr (PE X a ta)) (hb : Wr (PE X b tb)) : Wr (PE X (.BinOp a op b pos) (tOp r ta tb)) := .mk (pe_op ho ha.un hb.un)
theorem we_ifExp (hc : Wr (PT X c tA)) (ha : Wr (PE X a ta)) (hb : Wr (PE X b tb)) : Wr (PE X (.IfExp c a b pos) (tIf tA ta tb)) := .mk (pe_ifExp hc.un ha.un hb.un)
theorem wa_nil : Wr (PA X [] tNil) := .mk pa_nil
theorem wa_cons (ha : Wr (PE X e te)) (hr : Wr (PA X es t)) (hs : starEach (e :: es) X.env = (false, eval e X.env) :: starEach es X.env := by rfl) : Wr (PA X (e :: es) (tCons te t)) := .mk (pa_cons ha.un hr.un hs)
theorem we_lstA (h : Wr (PA X es t)) : Wr (PE X (.List es pos) (tLstA t)) := .mk (pe_lstA h.un)
theorem wps_nil : Wr (PPs X pos [] [] []) := .mk pps_nil
theorem wps_cons {k v : Expr} {ks : List (Option Expr)} {vs : List Expr} {tk tv : TE} {trs : List (TE × TE)} (hk : Wr (PE X k tk)) (hv : Wr (PE X v tv)) (hr : Wr (PPs X pos ks vs trs)) : Wr (PPs X pos (some k :: ks) (v :: vs) ((tk, tv) :: trs)) := .mk (pps_cons hk.un hv.un hr.un)
theorem we_dispA {keys : List (Option Expr)} {values : List Expr} {trs : List (TE × TE)} (h : Wr (PPs X pos keys values trs)) (hall : keys.all (·.isSome) = true) (hl : keys.length = values.length) (h0 : keys ≠ []) (h15 : keys.length ≤ 15) : Wr (PE X (.Dict keys values pos) (tDispA trs)) := .mk (pe_dispA h.un hall hl h0 h15)
theorem we_ix {r : R2} (hr : IxR X r) (ha : Wr (PE X a ta)) (hb : Wr (PE X b tb)) (hs : PlainIx b) : Wr (PE X (.Subscript a b pos) (tOp r ta tb)) := .mk (pe_ix hr ha.un hb.un hs)
theorem we_dget (hu : X.A.units + 1 < cLine) (ho : Wr (PE X a ta)) (hi : Wr (PE X b tb)) (hs : NoSl b) : Wr (PE X (.Subscript a b pos) (tDGet ta tb)) := .mk (pe_dget hu ho.un hi.un hs)
theorem we_lc {elt tg iter : Expr} {ifs : List Expr} {scope : Scope} {own : List (Str × Nat)} {wi : TI} {g : TG} {tt : TT} {te : TE} (hc : X.calm = true) (hN : X.N.Nodup) (hi : Wr (PI X tg iter wi)) (ok : BlkOk X.N X.env.scope scope own)
    (hg : ∀ (s : Shared) (H : Hp) (C : Addr) (cl : List (Str × Addr)) (fp : List Addr), Wr (PG (X.blk s H scope (compEnvC scope cl C X.env) fp) tg g)) (ht : ∀ (s : Shared) (H : Hp) (C : Addr) (cl : List (Str × Addr)) (fp : List Addr), Wr (PTs (X.blk s H scope (compEnvC scope cl C X.env) fp) ifs tt))
    (he : ∀ (s : Shared) (H : Hp) (C : Addr) (cl : List (Str × Addr)) (fp : List Addr), Wr (PE (X.blk s H scope (compEnvC scope cl C X.env) fp) elt te)) (hs : ∀ x, foldedSetIterable iter X.env x = pure x := by intro _; rfl) :
    Wr (PE X (.ListComp elt [⟨tg, iter, ifs, 0⟩] scope pos) (tLc wi g tt te (own.map (·.2)))) := .mk (pe_lc hc hN hi.un ok (fun s H C cl fp => (hg s H C cl fp).un) (fun s H C cl fp => (ht s H C cl fp).un) (fun s H C cl fp => (he s H C cl fp).un) hs)
theorem we_callB {id : String} {r : List V → Hp → VK → Prop} {x : Str} (hc : CallR X (.builtin id) r) (hg : Gl X x) (hm : X.mg x = none) (hv : bootBuiltins x = some (.builtin id)) (ha : Wr (PA X (e :: es) t)) (hn : x ≠ "__name__" := by decide) (hdb : (x == ("__debug__" : Str)) = false := by decide)
    (he : starEach (e :: es) X.env = (false, eval e X.env) :: starEach es X.env := by rfl) (hpl : (backTo pos (starEach es X.env)).any (·.1) = false := by rfl) : Wr (PE X (.Call (.Name x p) (e :: es) [] pos) (tCB r t)) := .mk (pe_callB hc hg hm hv ha.un hn hdb he hpl)
theorem we_cal {k : Nat} {x : Str} {ps : List Str} {sp : Sp} (C : Cal X.prog X.w X.K X.mg X.base k x ps sp) (hr : Room k X.A) (hg : Gl X x) (ha : Wr (PA X (e :: es) t)) (hdb : (x == ("__debug__" : Str)) = false := by decide)
    (he : starEach (e :: es) X.env = (false, eval e X.env) :: starEach es X.env := by rfl) (hpl : (backTo pos (starEach es X.env)).any (·.1) = false := by rfl) : Wr (PE X (.Call (.Name x p) (e :: es) [] pos) (tCall sp [] E0 t)) := .mk (pe_cal C hr hg ha.un hdb he hpl)
theorem we_calK {k : Nat} {x : Str} {ps ks : List Str} {gV : List V → List V → List V} {sp : Sp} {kws : List Keyword} {tk : TA} (C : CalK X.prog X.w X.K X.mg X.base k x ps ks gV sp) (hr : Room k X.A) (hg : Gl X x) (hkw : Wr (PK X kws tk)) (hall : (backToKw pos (keywordEach kws X.env)).all (·.1.isSome) = true := by rfl)
    (hks : (backToKw pos (keywordEach kws X.env)).filterMap (·.1) = ks := by rfl) (hdb : (x == ("__debug__" : Str)) = false := by decide)
    (hpl : ((backTo pos (starEach [] X.env)).any (·.1) || (backToKw pos (keywordEach kws X.env)).any (·.1.isNone)) = false := by rfl) : Wr (PE X (.Call (.Name x p) [] kws pos) (tCallK sp gV E0 tNil tk)) := .mk (pe_calK C hr hg hkw.un hall hks hdb hpl)
/-! tests -/
theorem wt_cmpR {op : CmpOp} {r : R2} (ho : OpR X (compareOp op) r) (ha : Wr (PE X a ta)) (hb : Wr (PE X b tb)) (hm : behindInMarks op b = false) : Wr (PT X (.Compare a [op] [b] pos) (tTest (tOp r ta tb))) := .mk (pt_cmpR ho ha.un hb.un hm)
/-- a value's truth -/
def tTru (K : PySem.W.Frag) (te : TE) : TT := fun σ H Q => te σ H fun x H' => ∃ k, TruV K x H' k ∧ Q k H'
theorem wts_nil : Wr (PTs X [] tYes) := .mk pts_nil
/-! targets, what is walked -/
theorem wg_name {i : Nat} {x : Str} (hN : X.N.Nodup) (hi : X.N[i]? = some x) (hx : Loc X.env.scope x) (hf : X.fn x = true ∨ X.env.scope.names.lookup x = some .local := by first | exact .inl rfl | exact .inr rfl | assumption) : Wr (PG X (.Name x pos) (gName i)) := .mk (pg_name hN hi hx hf)
theorem wgs_nil : Wr (PGs X [] gNil) := .mk pgs_nil
theorem wgs_cons {t : TG} {u : TGs} (h1 : Wr (PG X e t)) (h2 : Wr (PGs X es u)) (hs : (assignEach (e :: es) X.env).map (·.2) = assign e X.env :: (assignEach es X.env).map (·.2) := by rfl) : Wr (PGs X (e :: es) (gCons t u)) := .mk (pgs_cons h1.un h2.un hs)
theorem wg_tup {k : Nat} {t : TGs} {n : Nat} (hc : X.calm = true) (h : Wr (PGs X es t)) (hn : (assignEach es X.env).length = n := by rfl) (hst : (assignEach es X.env).findIdx? (·.1) = none := by rfl) : Wr (PG X (.Tuple es k pos) (gTup X.K n t)) := .mk (pg_tup hc h.un hn hst)
theorem wg_sub {t : TSet} (ho : Wr (PE X a ta)) (hi : Wr (PE X b tb)) (hs : PSet X t)
    (ha : ∀ v, assign (.Subscript a b pos) X.env v = (do
      let ov ← holding [v] (eval a X.env)
      let iv ← holding [v, ov] (eval b X.env)
      standAt pos
      holding [v, ov, iv] (setItem ov iv v)
      release [v, ov, iv] []) := by intro _; rfl) : Wr (PG X (.Subscript a b pos) (gSub ta tb t)) := .mk (pg_sub ho.un hi.un hs ha)
theorem wi_list {tg : Expr} (hl : Wr (PE X e te)) : Wr (PI X tg e (iList X.K te)) := .mk (pi_list hl.un)
theorem wi_range1 {tg : Expr} (hg : Gl X "range") (hm : X.mg "range" = none) (ha : Wr (PA X [a] t)) (hs : starEach [a] X.env = [(false, eval a X.env)] := by rfl) : Wr (PI X tg (.Call (.Name "range" p) [a] [] pos) (iRng1 t)) := .mk (pi_range1 hg hm ha.un hs)
theorem wi_range2 {tg : Expr} (hg : Gl X "range") (hm : X.mg "range" = none) (ha : Wr (PA X [a, b] t)) (hs : starEach [a, b] X.env = [(false, eval a X.env), (false, eval b X.env)] := by rfl) (hs2 : starEach [b] X.env = [(false, eval b X.env)] := by rfl) : Wr (PI X tg (.Call (.Name "range" p) [a, b] [] pos) (iRng2 t)) := .mk (pi_range2 hg hm ha.un hs hs2)
theorem wi_enum {tpos : Pos} {elts : List Expr} {kk : Nat} (hg : Gl X "enumerate") (hm : X.mg "enumerate" = none) (ha : Wr (PA X [e] t)) (hs : starEach [e] X.env = [(false, eval e X.env)] := by rfl) : Wr (PI X (.Tuple elts kk tpos) (.Call (.Name "enumerate" p) [e] [] pos) (iEnum X.K t)) := .mk (pi_enum hg hm ha.un hs)
end
section
variable {X : Cx} {e : Expr} {te : TE} {pos pos' : Pos} {t u : TS} {st : Stmt} {rest : List Stmt}
/-! statements -/
theorem wss_nil : Wr (PSs X [] tNext) := .mk pss_nil
theorem wss_cons (h1 : Wr (PS X st t)) (h2 : Wr (PSs X rest u)) : Wr (PSs X (st :: rest) (tSeq t u)) := .mk (pss_cons h1.un h2.un)
theorem wss_one (h1 : Wr (PS X st t)) : Wr (PSs X [st] t) := .mk (pss_one h1.un)
theorem ws_ret (he : Wr (PE X e te)) : Wr (PS X (.Return (some e) pos) (tRet te)) := .mk (ps_ret he.un)
theorem ws_if {c : Expr} {a b : List Stmt} {tc : TT} (hc : Wr (PT X c tc)) (ha : Wr (PSs X a t)) (hb : Wr (PSs X b u)) : Wr (PS X (.If c a b pos) (tIfS tc t u)) := .mk (ps_if hc.un ha.un hb.un)
theorem ws_for {tg iter : Expr} {body : List Stmt} {wi : TI} {g : TG} (hc : X.calm = true) (hi : Wr (PI X tg iter wi)) (hg : Wr (PG X tg g)) (hb : Wr (PSs X body t)) (hp : PassesOwn (model X.prog X.w) X.A X.env X.xe := by exact PassesOwn.never)
    (hs : ∀ x, foldedSetIterable iter X.env x = pure x := by intro _; rfl) : Wr (PS X (.For tg iter body [] pos) (tFor wi g t)) := .mk (ps_for hp hc hi.un hg.un hb.un hs)
theorem ws_set {i : Nat} {x : Str} (hN : X.N.Nodup) (hi : X.N[i]? = some x) (hx : Loc X.env.scope x) (he : Wr (PE X e te)) (hs : swapsWith e (some (.Name x pos')) pos.line X.env = pure false := by rfl) (hf : X.fn x = true ∨ X.env.scope.names.lookup x = some .local := by first | exact .inl rfl | exact .inr rfl | assumption) :
    Wr (PS X (.Assign [.Name x pos'] e pos) (tAsg te (gName i))) := .mk (ps_set hN hi hx he.un hs hf)
theorem ws_setLc {i : Nat} {y : Str} {py : Pos} {elt tg iter : Expr} {ifs : List Expr} {scope : Scope} {own : List (Str × Nat)} {spos : Pos} {wi : TI} {g : TG} {tt : TT} (hc : X.calm = true) (hN : X.N.Nodup) (hy : X.N[i]? = some y) (hyl : X.env.scope.names.lookup y = some .local)
    (hsw : swapsWith (.ListComp elt [⟨tg, iter, ifs, 0⟩] scope pos) (some (.Name y py)) spos.line X.env = pure true) (hi : Wr (PI X tg iter wi)) (ok : BlkOk X.N X.env.scope scope own)
    (hg : ∀ (s : Shared) (H : Hp) (C : Addr) (cl : List (Str × Addr)) (fp : List Addr), Wr (PG (X.blk s H scope (compEnvC scope cl C X.env) fp) tg g)) (ht : ∀ (s : Shared) (H : Hp) (C : Addr) (cl : List (Str × Addr)) (fp : List Addr), Wr (PTs (X.blk s H scope (compEnvC scope cl C X.env) fp) ifs tt))
    (he : ∀ (s : Shared) (H : Hp) (C : Addr) (cl : List (Str × Addr)) (fp : List Addr), Wr (PE (X.blk s H scope (compEnvC scope cl C X.env) fp) elt te)) (hs : ∀ x, foldedSetIterable iter X.env x = pure x := by intro _; rfl) :
    Wr (PS X (.Assign [.Name y py] (.ListComp elt [⟨tg, iter, ifs, 0⟩] scope pos) spos) (tAsg (tLc wi g tt te (own.map (·.2))) (gName i))) := .mk (ps_setLc hc hN hy hyl hsw hi.un ok (fun s H C cl fp => (hg s H C cl fp).un) (fun s H C cl fp => (ht s H C cl fp).un) (fun s H C cl fp => (he s H C cl fp).un) hs)
theorem ws_dput {o i value : Expr} {td ty tv : TE} (hu : X.A.units + 1 < cLine) (ho : Wr (PE X o td)) (hi : Wr (PE X i ty)) (hv : Wr (PE X value tv)) (hs : swapsWith value (some (.Subscript o i pos')) pos.line X.env = pure false) : Wr (PS X (.Assign [.Subscript o i pos'] value pos) (sDPut td ty tv)) := .mk (ps_dput hu ho.un hi.un hv.un hs)
theorem ws_asg {tg : Expr} {g : TG} (he : Wr (PE X e te)) (hg : Wr (PG X tg g)) (hs : swapsWithSole [tg] e pos.line X.env = pure false := by rfl) (hw : swappedStores [tg] e X.env = pure none := by rfl)
    (h1 : (assignEach [tg] X.env).map (·.2) = [assign tg X.env] := by rfl) : Wr (PS X (.Assign [tg] e pos) (tAsg te g)) := .mk (ps_asg he.un hg.un hs hw h1)
end
/-- THE RULE for a def, behind the lid -/
theorem Fun.okW {P : Program} {w : World} {K : PySem.W.Frag} {mg : Str → Option Value} {base : Heap} {x qual : Str} {st : Stmt} {f : Addr} {fd : FuncData} {N ps : List Str} {k : Nat} {sp : Sp} (F : Fun K x qual st f fd) (S : FnScope N ps (defScope st)) (len : ∀ vs H Q E, sp vs H Q E → vs.length = ps.length)
    (hbody : ∀ (cdv : Value) (A : Around) (outer : List Env) (s : Shared) (H : Hp) (vs : List V) (Q : VK) (E : XK), Room k (A.deeper (envOfC qual (defScope st) s.heap.objs.size f cdv)) → sp vs H Q E →
      ∃ t, Wr (PSs (cxOf CX0 P w K mg base N qual (defScope st) f cdv A outer s H E).nox (defBody st) t) ∧ t { nx := fun _ H' => Q .non H', rt := Q } (start N vs) H) : FnOk P w K mg base CX0 (k + 1) f fd ps sp :=
  F.ok S len fun cdv A outer s H vs Q E hr h => by
    obtain ⟨t, h1, h2⟩ := hbody cdv A outer s H vs Q E hr h
    exact ⟨t, h1.un, h2⟩
end L2

set_option Elab.async false
set_option linter.all false
set_option maxRecDepth 100000
/-! never; ints of any size; functions with defaults; calls by places and names; methods; own == -/
namespace L2
open PySem PySem.Spec PyProof.Rows
def tNeverE : TE := fun _ _ _ => False
section
variable {X : Cx}
def CDivB (_ j : Int) : Prop := 0 < j ∧ j < 2 ^ 8000
def CShl (i j : Int) : Prop := 0 ≤ j ∧ (Builtin.Int.intBits i : Int) + j ≤ 2 ^ 27
theorem op_shlB : OpR X (binaryOp .LShift) (rI CShl fun i j => .int (i * 2 ^ j.toNat)) := opI fun _ _ _ _ _ _ _ hc q => lshift_int hc.1 hc.2 q
/-! isinstance(x, C), C a class of the text -/
end
/-! ### a def with defaults -/
structure FunD (K : PySem.W.Frag) (x qual : Str) (st : Stmt) (f : Addr) (fd : FuncData) (dV kV : Value) : Prop where
  ex : ∃ (oc : Value) (od : Option Addr) (doc pm : Value) (an : Option Addr) (cdv ct : Value) (osl : Array (Option Value)),
    fd = PySem.W.fnOf x qual (defArgs st) (defBody st) (defScope st) dV kV doc pm an cdv ct ∧ K.lookup f = some ⟨oc, od, .func fd, osl⟩ ∧ PySem.W.codeIn K cdv qual = true
  kp : PySem.W.keepIn K (.ref f) = true
theorem funD_mk {K : PySem.W.Frag} {x qual : Str} {st : Stmt} {f : Addr} {oc : Value} {od an : Option Addr} {osl : Array (Option Value)} {dV kV doc pm cdv ct : Value} (l : K.lookup f = some ⟨oc, od, .func (PySem.W.fnOf x qual (defArgs st) (defBody st) (defScope st) dV kV doc pm an cdv ct), osl⟩)
    (c : PySem.W.codeIn K cdv qual = true) (k : PySem.W.keepIn K (.ref f) = true) : FunD K x qual st f (PySem.W.fnOf x qual (defArgs st) (defBody st) (defScope st) dV kV doc pm an cdv ct) dV kV := ⟨⟨oc, od, doc, pm, an, cdv, ct, osl, rfl, l, c⟩, k⟩
theorem FunD.okW {P : Program} {w : World} {K : PySem.W.Frag} {mg : Str → Option Value} {base : Heap} {x qual : Str} {st : Stmt} {f : Addr} {fd : FuncData} {dV kV : Value} {N ps : List Str} {k : Nat} {sp : Sp} (F : FunD K x qual st f fd dV kV) (S : FnScope N ps (defScope st)) (len : ∀ vs H Q E, sp vs H Q E → vs.length = ps.length)
    (hbody : ∀ (cdv : Value) (A : Around) (outer : List Env) (s : Shared) (H : Hp) (vs : List V) (Q : VK) (E : XK), Room k (A.deeper (envOfC qual (defScope st) s.heap.objs.size f cdv)) → sp vs H Q E →
      ∃ t, Wr (PSs (cxOf CX0 P w K mg base N qual (defScope st) f cdv A outer s H E).nox (defBody st) t) ∧ t { nx := fun _ H' => Q .non H', rt := Q } (start N vs) H) : FnOk P w K mg base CX0 (k + 1) f fd ps sp := by
  obtain ⟨oc, od, doc, pm, an, cdv, ct, osl, rfl, lk, hcd⟩ := F.ex
  refine fn_of lk hcd S len fun A outer s H vs Q E hr hsp => ?_
  obtain ⟨t, h, q⟩ := hbody cdv A outer s H vs Q E hr hsp
  exact ⟨t, h.un.nox, q⟩
/-! ### calls by places and names -/
section
variable {X : Cx} {k : Nat} {f C : Addr} {fd : FuncData} {ps ks : List Str} {sp : Sp} {x m : Str} {p pos apos : Pos} {e o : Expr} {es : List Expr} {kws : List Keyword} {ta : TE} {t tk : TA} {g : List Value → List Value → List Value} {gV : List V → List V → List V}
theorem we_calP (C : CalK X.prog X.w X.K X.mg X.base k x ps ks gV sp) (hr : Room k X.A) (hg : Gl X x) (ha : Wr (PA X (e :: es) t)) (hkw : Wr (PK X kws tk)) (hall : (backToKw pos (keywordEach kws X.env)).all (·.1.isSome) = true := by rfl)
    (hks : (backToKw pos (keywordEach kws X.env)).filterMap (·.1) = ks := by rfl) (hdb : (x == ("__debug__" : Str)) = false := by decide) (he : starEach (e :: es) X.env = (false, eval e X.env) :: starEach es X.env := by rfl)
    (hpl : ((backTo pos (starEach (e :: es) X.env)).any (·.1) || (backToKw pos (keywordEach kws X.env)).any (·.1.isNone)) = false := by rfl) : Wr (PE X (.Call (.Name x p) (e :: es) kws pos) (tCallK sp gV E0 t tk)) := by
  obtain ⟨f, fd, g, F, hm, hk, hb⟩ := C.ex
  exact .mk (pe_callK F hr hg hm hk hb pass0 ha.un hkw.un hall hks hdb he hpl)
/-- f(e, ..), defaults left out -/
theorem we_calD (C : CalK X.prog X.w X.K X.mg X.base k x ps [] gV sp) (hr : Room k X.A) (hg : Gl X x) (ha : Wr (PA X (e :: es) t)) (hdb : (x == ("__debug__" : Str)) = false := by decide) (he : starEach (e :: es) X.env = (false, eval e X.env) :: starEach es X.env := by rfl)
    (hpl : (backTo pos (starEach es X.env)).any (·.1) = false := by rfl) : Wr (PE X (.Call (.Name x p) (e :: es) [] pos) (tCallK sp gV E0 t tNil)) := by
  obtain ⟨f, fd, g, F, hm, hk, hb⟩ := C.ex
  refine .mk ?_
  intro pins s σ H Q I h
  refine wpAny_Call_Name_kw (ld_glob I hg hm ?_ hdb)
  refine PySem.W.callWith_K (h₀ := X.base) I.ok.mod.kin hk (thn (ha.un pos pins s σ H _ I h) fun us s1 ⟨vs, H1, I1, r, q⟩ => ⟨I1.kIn, ?_⟩) he hpl
  exact run_fnk (us := us) (ws := []) (zs := []) F hr hb pass0 I1 r .nil q
/-- C(..) by places and names -/
def tMakeK (C : Addr) (sp : Sp) (gV : List V → List V → List V) (E : XK) (t tk : TA) : TE := fun σ H Q => t σ H fun vs H1 => tk σ H1 fun zs H2 => ∀ x dx, H2 x = none → H2 dx = none → dx ≠ x →
  sp (gV (.ref x :: vs) zs) (upd (upd H2 dx (.own x)) x (.ins C dx [])) (fun v H3 => v = .non ∧ Q (.ref x) H3) E
theorem run_makeK {CX : CXT} {E : XK} {pins : List (Addr × Obj)} {σ : St} {H : Hp} {s : Shared} {Q : VK} {us ws : List Value} {vs zs : List V} (M : Mk X.K C f) (F : FnOk X.prog X.w X.K X.mg X.base CX k f fd ps sp) (hr : Room (k + 1) X.A) (hb : KBinds X.K fd ps ks g gV)
    (hx : Passes CX X E) (I : Inv X pins σ H s) (r : Vals vs us) (rz : Vals zs ws)
    (h : ∀ x dx, H x = none → H dx = none → dx ≠ x → sp (gV (.ref x :: vs) zs) (upd (upd H dx (.own x)) x (.ins C dx [])) (fun v H2 => v = .non ∧ Q (.ref x) H2) E) :
    wpAny (model X.prog X.w) X.A (call (.ref C) us (ks.zip ws)) (EP X pins σ Q) X.xe s := by
  have hq := h (s.heap.objs.size + 1) s.heap.objs.size (I.hok.fresh (Nat.le_succ _)) (I.hok.fresh (Nat.le_refl _)) (Nat.ne_of_lt (Nat.lt_succ_self _))
  have I2 := Inv.made (C := C) I
  have r2 : Vals (gV (V.ref (s.heap.objs.size + 1) :: vs) zs) (g (Value.ref (s.heap.objs.size + 1) :: us) ws) := hb.rel (.cons rfl r) rz
  have hl : (g (Value.ref (s.heap.objs.size + 1) :: us) ws).length = ps.length := by
    have e := r2.length
    rw [F.len _ _ _ _ hq] at e
    exact e.symm
  refine wpAny_call (make_map (f := f) I.kIn M.makes M.init (beq_iff_eq.mp M.fn) (codeAny_mono (F.run _ X.stack _ _ ⟨Value.ref (s.heap.objs.size + 1) :: us, ks.zip ws⟩ (g (Value.ref (s.heap.objs.size + 1) :: us) ws) _ _ E (hr.make C us (ks.zip ws))
    (I2.env0.make C us (ks.zip ws)) (hb.to _ (Value.ref (s.heap.objs.size + 1) :: us) ws I2.kIn hl) r2 hq) fun r s' hq' => ?_))
  cases r with
  | error e => exact hx pins σ _ _ e s' I2 hq'
  | ok fl =>
    cases fl with
    | ret u =>
      obtain ⟨v, H', I3, rv, ev, q3⟩ := I2.after hq'
      subst ev
      exact ⟨rv, ⟨V.ref (s.heap.objs.size + 1), H', I3, rfl, q3⟩⟩
    | next => exact False.elim hq'
    | brk => exact False.elim hq'
    | cont => exact False.elim hq'
/-- a class of the text, made by places and the names ks -/
structure CalM (P : Program) (w : World) (K : PySem.W.Frag) (mg : Str → Option Value) (base : Heap) (k : Nat) (x : Str) (C : Addr) (ps ks : List Str) (gV : List V → List V → List V) (sp : Sp) : Prop where
  ex : ∃ (f : Addr) (fd : FuncData) (g : List Value → List Value → List Value), Mk K C f ∧ FnOk P w K mg base CX0 k f fd ps sp ∧ mg x = some (.ref C) ∧ KBinds K fd ps ks g gV
theorem we_makeK (M : CalM X.prog X.w X.K X.mg X.base k x C ps ks gV sp) (hr : Room (k + 1) X.A) (hg : Gl X x) (ha : Wr (PA X (e :: es) t)) (hkw : Wr (PK X kws tk)) (hall : (backToKw pos (keywordEach kws X.env)).all (·.1.isSome) = true := by rfl)
    (hks : (backToKw pos (keywordEach kws X.env)).filterMap (·.1) = ks := by rfl) (hdb : (x == ("__debug__" : Str)) = false := by decide) (he : starEach (e :: es) X.env = (false, eval e X.env) :: starEach es X.env := by rfl)
    (hpl : ((backTo pos (starEach (e :: es) X.env)).any (·.1) || (backToKw pos (keywordEach kws X.env)).any (·.1.isNone)) = false := by rfl) : Wr (PE X (.Call (.Name x p) (e :: es) kws pos) (tMakeK C sp gV E0 t tk)) := by
  obtain ⟨f, fd, g, M, F, hm, hb⟩ := M.ex
  refine .mk ?_
  intro pins s σ H Q I h
  refine wpAny_Call_Name_kw (ld_glob I hg hm ?_ hdb)
  refine PySem.W.callWith_KW (h₀ := X.base) I.ok.mod.kin M.kp hall (thn (ha.un pos pins s σ H _ I h) fun us s1 ⟨vs, H1, I1, r, q⟩ => ?_) hpl he
  refine thn (hkw.un pos pins s1 σ H1 _ I1 q) fun ws s2 ⟨zs, H2, I2, rz, q2⟩ => ⟨I2.kIn, ?_⟩
  rw [hks]
  exact run_makeK M F hr hb pass0 I2 r rz q2
/-! ### methods -/
structure CalO (P : Program) (w : World) (K : PySem.W.Frag) (mg : Str → Option Value) (base : Heap) (k : Nat) (C : Addr) (m : Str) (ps : List Str) (sp : Sp) : Prop where
  ex : ∃ (f : Addr) (fd : FuncData), Cls K C ∧ Meth K C m f ∧ FnOk P w K mg base CX0 k f fd ps sp ∧ Binds K fd ps []
theorem we_meth0 {pl : Sem Bool} (M : CalO X.prog X.w X.K X.mg X.base k C m ps sp) (hr : Room k X.A) (ho : Wr (PE X o ta))
    (ht : eval (.Call (.Attribute o m apos) [] [] pos) X.env = (do
      let ov ← eval o X.env
      standAt apos.atName
      let (f, first) ← holding [ov] (getMethod ov m pl)
      callWith pos f first (backTo pos (starEach [] X.env)) (backToKw pos (keywordEach [] X.env))) := by rfl) :
    Wr (PE X (.Call (.Attribute o m apos) [] [] pos) (tMeth C m sp [] E0 ta tNil)) := by
  obtain ⟨f, fd, c, hm, F, hb⟩ := M.ex
  exact .mk (pe_meth0 (pl := pl) ho.un c hm F hr hb .nil pass0 ht)
end
end L2

set_option Elab.async false
set_option linter.all false
set_option maxRecDepth 100000
namespace L2
open PySem PySem.Spec PyProof.Rows
/-- what == and != of a class need: its own __eq__, no __ne__ -/
structure EqC (K : PySem.W.Frag) (C f : Addr) : Prop where
  eq : PySem.W.findIn K (.ref C) "__eq__" = some (some (.ref f))
  fn : PySem.W.isFn K (.ref f) = true
  ne : PySem.W.findIn K (.ref C) "__ne__" = some (some (.builtin "object.__ne__"))
  mr : PySem.W.mroIn K C (.type "object") = some true
section
variable {prog : Program} {w : World} {A : Around} {E : Value → Shared → Prop} {s : Shared} {K : PySem.W.Frag} {x y C f : Addr} {ox oy : Obj} {od od' : Option Obj}
end
/-- x == y, x != y of two instances of the class at C, by its own __eq__ -/
def rEqO (C : Addr) (sp : Sp) : R2 := fun x y H Q => ∃ a b dx fs dx' fs', x = .ref a ∧ y = .ref b ∧ H a = some (.ins C dx fs) ∧ H b = some (.ins C dx' fs') ∧ sp [.ref a, .ref b] H (fun v H' => ∃ c, v = .bl c ∧ Q (.bl c) H') E0
def rNeO (C : Addr) (sp : Sp) : R2 := fun x y H Q => ∃ a b dx fs dx' fs', x = .ref a ∧ y = .ref b ∧ H a = some (.ins C dx fs) ∧ H b = some (.ins C dx' fs') ∧ sp [.ref a, .ref b] H (fun v H' => ∃ c, v = .bl c ∧ Q (.bl (!c)) H') E0
structure CalE (P : Program) (w : World) (K : PySem.W.Frag) (mg : Str → Option Value) (base : Heap) (k : Nat) (C : Addr) (ps : List Str) (sp : Sp) : Prop where
  ex : ∃ (f : Addr) (fd : FuncData), EqC K C f ∧ FnOk P w K mg base CX0 k f fd ps sp ∧ Binds K fd ps []
section
variable {X : Cx} {k : Nat} {C : Addr} {ps : List Str} {sp : Sp}
end
end L2

set_option Elab.async false
set_option linter.all false
set_option maxRecDepth 100000
namespace L2
open PySem PySem.Spec PyProof.Rows
/-! defaults: of places (a tuple of the text), of names (a dict of the text) -/
structure Dfl (K : PySem.W.Frag) (dV : Value) (items : List Value) : Prop where
  ex : ∃ (T : Addr) (o : Obj) (n : Nat), dV = .ref T ∧ K.lookup T = some o ∧ o.data = .seq items.toArray n
def kwGet (kV : Value) (n : Str) : Sem (Option Value) := match kV with
  | .ref d => nsGet d n
  | _ => pure none
structure KwD (K : PySem.W.Frag) (kV : Value) (n : Str) (v : Value) : Prop where
  at_ : ∃ d, kV = .ref d ∧ PySem.W.nsIn K d n = some (some v)
section
variable {M : Model} {A : Around} {E : Value → Shared → Prop} {s : Shared} {α β γ : Type}
theorem bd_ifF {c : Bool} {x y : Sem α} {Q : α → Shared → Prop} (h : c = false) (k : wpAny M A y Q E s) : wpAny M A (if c = true then x else y) Q E s := by
  subst h
  exact k
theorem bd_ifT {c : Bool} {x y : Sem α} {Q : α → Shared → Prop} (h : c = true) (k : wpAny M A x Q E s) : wpAny M A (if c = true then x else y) Q E s := by
  subst h
  exact k
theorem bd_cons {l r : List γ} {x : γ} {st : β} {f : γ → β → Sem (ForInStep β)} {Q : β → Shared → Prop} (hl : l = x :: r) (h : wpAny M A (f x st) (fun y s' => match y with | .yield st' => wpAny M A (forIn r st' f) Q E s' | .done st' => Q st' s') E s) : wpAny M A (forIn l st f) Q E s := by
  subst hl
  rw [List.forIn_cons]
  refine wpAny_bind (wpAny_mono h (fun y s' z => ?_) fun _ _ e => e)
  cases y with
  | done b => exact wpAny_pure z
  | yield b => exact z
theorem bd_nil {l : List γ} {st : β} {f : γ → β → Sem (ForInStep β)} {Q : β → Shared → Prop} (hl : l = []) (h : Q st s) : wpAny M A (forIn l st f) Q E s := by
  subst hl
  rw [List.forIn_nil]
  exact wpAny_pure h
end
theorem Dfl.go {K : PySem.W.Frag} {dV : Value} {items : List Value} (D : Dfl K dV items) {M : Model} {A : Around} {E : Value → Shared → Prop} {s : Shared} {Q : Option (Array Value) → Shared → Prop} (X : K.In s.heap) (h : Q (some items.toArray) s) : wpAny M A (seqItems? dV) Q E s := by
  obtain ⟨T, o, n, rfl, ho, hs⟩ := D.ex
  exact wpAny_seqItems (X _ _ ho) hs h
theorem no_go {M : Model} {A : Around} {E : Value → Shared → Prop} {s : Shared} {Q : Option (Array Value) → Shared → Prop} (h : Q none s) : wpAny M A (seqItems? .none) Q E s := wpAny_pure h
local macro_rules | `(tactic| walk_at "bd") => `(tactic| repeat' (first
  | with_reducible refine wpAny_pure ?_ | with_reducible refine wpAny_bind ?_ | with_reducible refine wpAny_rule ?_
  | with_reducible refine Dfl.go (by assumption) (by assumption) ?_ | with_reducible refine no_go ?_
  | with_reducible refine PySem.W.Looks.here (PySem.W.looks_nsIn (by assumption) (by assumption)) ?_
  | with_reducible refine bd_ifF rfl ?_ | with_reducible refine bd_ifT rfl ?_ | with_reducible refine bd_cons rfl ?_ | with_reducible refine bd_nil rfl ?_
  | assumption
  | dsimp only))
end L2

set_option Elab.async false
set_option linter.all false
set_option maxRecDepth 100000
/-! str of an own class; f-strings; list.count of texts; set of ints and its len -/
namespace L2
open PySem PySem.Spec PyProof.Rows
section
variable {prog : Program} {w : World} {A : Around} {E : Value → Shared → Prop} {s : Shared} {K : PySem.W.Frag} {x C f : Addr} {ox : Obj} {od : Option Obj}
end
/-- a class whose own __str__ is the text's -/
structure CalS (P : Program) (w : World) (K : PySem.W.Frag) (mg : Str → Option Value) (base : Heap) (k : Nat) (C : Addr) (ps : List Str) (sp : Sp) : Prop where
  ex : ∃ (f : Addr) (fd : FuncData), (PySem.W.findIn K (.ref C) "__str__" = some (some (.ref f)) ∧ PySem.W.isFn K (.ref f) = true) ∧ FnOk P w K mg base CX0 k f fd ps sp ∧ Binds K fd ps []
def rStrO (C : Addr) (sp : Sp) (xs : List V) (H : Hp) (Q : VK) : Prop := ∃ a dx fs, xs = [.ref a] ∧ H a = some (.ins C dx fs) ∧ sp [.ref a] H (fun v H' => ∃ z, v = .str z ∧ Q (.str z) H') E0
section
variable {X : Cx} {k : Nat} {C : Addr} {ps : List Str} {sp : Sp}
end
/-! ### f-strings -/
def tFmt (te : TE) : TE := fun σ H Q => te σ H fun v H1 => (∃ i : Int, v = .int i ∧ i.natAbs.log2 < 1920 ∧ Q (.str (toString i)) H1) ∨ (∃ z, v = .str z ∧ z.length ≤ sizeLine ∧ Q (.str z) H1)
def tJoin : List TE → Str → TE
  | [], acc => fun _ H Q => Q (.str acc) H
  | t :: ts, acc => fun σ H Q => t σ H fun v H1 => ∃ y, v = .str y ∧ (acc ++ y).length ≤ sizeLine ∧ tJoin ts (acc ++ y) σ H1 Q
def PJ (X : Cx) : List Expr → List TE → Prop
  | [], [] => True
  | e :: es, t :: ts => PE X e t ∧ PJ X es ts
  | _, _ => False
section
variable {X : Cx} {e : Expr} {te : TE} {pos : Pos}
end
/-! ### xs.count(z) of texts -/
def rCnt (K : PySem.W.Frag) (x : V) (xs : List V) (H : Hp) (Q : VK) : Prop := ∃ (a : Addr) (zs : List Str) (z : Str), x = .ref a ∧ xs = [.str z] ∧ SqL K H a (zs.map V.str) ∧ Q (.int (zs.countP fun y => eqV (.str y) (.str z) : Nat)) H
/-! ### set(xs), len -/
def rSetI (K : PySem.W.Frag) (xs : List V) (H : Hp) (Q : VK) : Prop := ∃ (a : Addr) (ns : List Int), xs = [.ref a] ∧ SqL K H a (ns.map V.int) ∧ ns.length < 4000 ∧ ns.Nodup ∧ ∀ p S, H p = none → Q (.ref p) (upd H p (.set S ns.length))
def rLenS (xs : List V) (H : Hp) (Q : VK) : Prop := ∃ a S n, xs = [.ref a] ∧ H a = some (.set S n) ∧ Q (.int (n : Nat)) H
end L2

set_option linter.all false
namespace Dw
open PySem
end Dw

set_option Elab.async false
set_option linter.all false
/-! numbers: the arithmetic alone -/
namespace Dw
open PySem
theorem ip_pos (k : Nat) : (0 : Int) < 2 ^ k := by
  have e : (2 : Int) ^ k = ((2 ^ k : Nat) : Int) := by rw [Int.natCast_pow]; rfl
  rw [e]
  have : 0 < 2 ^ k := Nat.pow_pos (by decide)
  omega
theorem ip_cast (k : Nat) : (2 : Int) ^ k = ((2 ^ k : Nat) : Int) := by rw [Int.natCast_pow]; rfl
theorem ip_mono {j k : Nat} (h : j ≤ k) : (2 : Int) ^ j ≤ 2 ^ k := by
  rw [ip_cast, ip_cast]
  have := Nat.pow_le_pow_right (n := 2) (by decide) h
  omega
theorem ip_succ (k : Nat) : (2 : Int) ^ (k + 1) = 2 * 2 ^ k := by rw [Int.pow_succ, Int.mul_comm]
structure Sh where
  p : Int
  lo : Int
  hi : Int
  deriving DecidableEq
structure Sh.Ok (S : Sh) : Prop where
  p2 : 2 ≤ S.p
  p64 : S.p ≤ 64
  l0 : -1100 ≤ S.lo
  l1 : S.lo ≤ 0
  h0 : S.lo ≤ S.hi
  h1 : S.hi ≤ 1000
def Sh.fn (S : Sh) : Int := 2 ^ (S.p.toNat - 1)
theorem Sh.Ok.fn2 {S : Sh} (h : S.Ok) : 2 ≤ S.fn := by
  have h1 := h.p2
  exact Int.le_trans (by decide : (2 : Int) ≤ 2 ^ 1) (ip_mono (by omega))
theorem Sh.Ok.fnB {S : Sh} (h : S.Ok) : S.fn ≤ 9223372036854775808 := by
  have h1 := h.p64
  exact Int.le_trans (ip_mono (k := 63) (by omega)) (by decide)
theorem Sh.Ok.full {S : Sh} (h : S.Ok) : (2 : Int) ^ S.p.toNat = 2 * S.fn := by
  have h1 := h.p2
  unfold Sh.fn
  rw [← ip_succ]
  congr 1
  omega
theorem Sh.Ok.half {S : Sh} (h : S.Ok) : (2 : Int) * 2 ^ (S.p - 2).toNat = S.fn := by
  have h1 := h.p2
  unfold Sh.fn
  rw [← ip_succ]
  congr 1
  omega
def Sh.last (S : Sh) : Int := (S.hi - S.lo + 2) * S.fn
def Sh.fb (S : Sh) : Nat := Builtin.Int.intBits (S.hi - S.lo + 2)
def Sh.topW (S : Sh) : Int := (2 ^ S.fb - 1) * S.fn
def Sh.sgnW (S : Sh) : Int := S.fn * 2 ^ S.fb
theorem mul_le_r {a b c : Int} (h : a ≤ b) (hc : 0 ≤ c) : a * c ≤ b * c := Int.mul_le_mul_of_nonneg_right h hc
theorem Sh.Ok.last4 {S : Sh} (h : S.Ok) : 2 * S.fn ≤ S.last := mul_le_r (by have := h.h0; omega) (by have := h.fn2; omega)
theorem Sh.Ok.lastB {S : Sh} (h : S.Ok) : S.last ≤ 2102 * 9223372036854775808 := by
  have h1 : S.last ≤ 2102 * S.fn := mul_le_r (by have := h.h1; have := h.l0; omega) (by have := h.fn2; omega)
  have := h.fnB
  omega
structure Nm where
  S : Sh
  s : Int
  m : Int
  e : Int
  st : Nat
  deriving DecidableEq
structure Nm.Ok (n : Nm) : Prop where
  sh : n.S.Ok
  s01 : n.s = 0 ∨ n.s = 1
  m0 : 0 ≤ n.m
  m1 : n.m < 2 * n.S.fn
  e0 : n.S.lo ≤ n.e
  e1 : n.e ≤ n.S.hi
  nrm : n.S.lo < n.e → n.S.fn ≤ n.m
  st2 : n.st ≤ 2
  far : n.st ≠ 0 → n.m = 0 ∧ n.e = n.S.lo
  nn : n.st = 2 → n.s = 0
def Nm.stp (n : Nm) : Int := n.m + (n.e - n.S.lo) * n.S.fn
def Nm.steps (n : Nm) : Int := if n.st = 1 then n.S.last else n.stp
def Nm.rank (n : Nm) : Int := if n.s = 1 then -n.steps else n.steps
def Nm.wst (n : Nm) : Int := if n.st = 1 then n.S.topW else n.stp
def Nm.word (n : Nm) : Int := if n.st = 2 then n.S.topW + 2 ^ (n.S.p - 2).toNat else if n.s = 1 then n.wst + n.S.sgnW else n.wst
def Sh.rise (S : Sh) (k : Int) : Int := if k / S.fn - 1 > 0 then k / S.fn - 1 else 0
def Sh.inf (S : Sh) (s : Int) : Nm := ⟨S, s, 0, S.lo, 1⟩
def Sh.zero (S : Sh) (s : Int) : Nm := ⟨S, s, 0, S.lo, 0⟩
def Sh.nan (S : Sh) : Nm := ⟨S, 0, 0, S.lo, 2⟩
def Sh.ofSteps (S : Sh) (k s : Int) : Nm := if k = S.last then S.inf s else ⟨S, s, k - S.rise k * S.fn, S.lo + S.rise k, 0⟩
theorem Sh.Ok.zeroOk {S : Sh} (h : S.Ok) {s : Int} (hs : s = 0 ∨ s = 1) : (S.zero s).Ok := ⟨h, hs, Int.le_refl _, by have := h.fn2; show (0 : Int) < 2 * S.fn; omega, Int.le_refl _, h.h0, fun z => absurd z (Int.lt_irrefl _), Nat.le_of_ble_eq_true rfl, fun z => absurd rfl z, fun z => nomatch z⟩
theorem Sh.Ok.infOk {S : Sh} (h : S.Ok) {s : Int} (hs : s = 0 ∨ s = 1) : (S.inf s).Ok := ⟨h, hs, Int.le_refl _, by have := h.fn2; show (0 : Int) < 2 * S.fn; omega, Int.le_refl _, h.h0, fun z => absurd z (Int.lt_irrefl _), Nat.le_of_ble_eq_true rfl, fun z => ⟨rfl, rfl⟩, fun z => nomatch z⟩
theorem Sh.Ok.rise_eq {S : Sh} (h : S.Ok) {k r m : Int} (e : k = m + r * S.fn) (r0 : 0 ≤ r) (m0 : 0 ≤ m) (m1 : m < 2 * S.fn) (hn : 0 < r → S.fn ≤ m) : S.rise k = r := by
  have f2 := h.fn2
  unfold Sh.rise
  by_cases hm : m < S.fn
  · have r00 : r = 0 := by
      rcases (show 0 < r ∨ r ≤ 0 by omega) with z | z
      · have := hn z; omega
      · omega
    subst r00
    have : k / S.fn = 0 := Int.ediv_eq_zero_of_lt (by omega) (by omega)
    rw [this, if_neg (by omega)]
  · have e2 : k = (m - S.fn) + (r + 1) * S.fn := by rw [e, Int.add_mul]; omega
    have : k / S.fn = r + 1 := by
      rw [e2, Int.add_mul_ediv_right _ _ (by omega), Int.ediv_eq_zero_of_lt (by omega) (by omega)]
      omega
    rw [this]
    split <;> omega
/-- every k has its parts -/
theorem Sh.Ok.parts {S : Sh} (h : S.Ok) {k : Int} (k0 : 0 ≤ k) : ∃ r m, k = m + r * S.fn ∧ 0 ≤ r ∧ 0 ≤ m ∧ m < 2 * S.fn ∧ (0 < r → S.fn ≤ m) ∧ S.rise k = r := by
  have f2 := h.fn2
  have d1 := Int.emod_add_mul_ediv k S.fn
  have d2 := Int.emod_nonneg k (show S.fn ≠ 0 by omega)
  have d3 := Int.emod_lt_of_pos k (show 0 < S.fn by omega)
  have q0 : 0 ≤ k / S.fn := Int.ediv_nonneg k0 (by omega)
  rw [Int.mul_comm] at d1
  by_cases hq : k / S.fn = 0
  · rw [hq, Int.zero_mul] at d1
    refine ⟨0, k, by omega, Int.le_refl _, k0, by omega, fun z => absurd z (Int.lt_irrefl _), ?_⟩
    exact h.rise_eq (m := k) (by omega) (Int.le_refl _) k0 (by omega) fun z => absurd z (Int.lt_irrefl _)
  · have e2 : k = (k % S.fn + S.fn) + (k / S.fn - 1) * S.fn := by rw [Int.sub_mul]; omega
    have g := h.rise_eq e2 (by omega) (by omega) (by omega) fun _ => by omega
    exact ⟨_, _, e2, by omega, by omega, by omega, fun _ => by omega, g⟩
theorem Nm.Ok.rise {n : Nm} (h : n.Ok) : n.S.rise n.stp = n.e - n.S.lo := h.sh.rise_eq (m := n.m) rfl (by have := h.e0; omega) h.m0 h.m1 fun z => h.nrm (by omega)
theorem Nm.Ok.stp0 {n : Nm} (h : n.Ok) : 0 ≤ n.stp := by
  have := h.m0
  have : 0 ≤ (n.e - n.S.lo) * n.S.fn := Int.mul_nonneg (by have := h.e0; omega) (by have := h.sh.fn2; omega)
  unfold Nm.stp; omega
theorem Nm.Ok.stpL {n : Nm} (h : n.Ok) : n.stp < n.S.last := by
  have f2 := h.sh.fn2
  have h1 : (n.e - n.S.lo) * n.S.fn ≤ (n.S.hi - n.S.lo) * n.S.fn := mul_le_r (by have := h.e1; omega) (by omega)
  have h2 : n.S.last = (n.S.hi - n.S.lo) * n.S.fn + 2 * n.S.fn := by unfold Sh.last; rw [Int.add_mul]
  have := h.m1
  unfold Nm.stp; omega
theorem Nm.Ok.steps0 {n : Nm} (h : n.Ok) : 0 ≤ n.steps ∧ n.steps ≤ n.S.last := by
  have h1 := h.stp0; have h2 := h.stpL; have h3 := h.sh.last4; have h4 := h.sh.fn2
  unfold Nm.steps
  split <;> omega
theorem Nm.Ok.back {n : Nm} (h : n.Ok) (hs : n.st ≠ 2) : n.S.ofSteps n.steps n.s = n := by
  have h2 := h.stpL
  have h3 := h.st2
  obtain ⟨S, s, m, e, st⟩ := n
  unfold Nm.steps Sh.ofSteps
  by_cases e1 : st = 1
  · subst e1
    obtain ⟨a, b⟩ := h.far (show (1 : Nat) ≠ 0 by decide)
    simp only at a b
    subst a b
    simp [Sh.inf]
  · have e0 : st = 0 := by simp only at hs h3; omega
    subst e0
    have hr := h.rise
    have hne : ¬ ((⟨S, s, m, e, 0⟩ : Nm).stp = S.last) := by have h2' : (⟨S, s, m, e, 0⟩ : Nm).stp < S.last := h2; omega
    show (if (⟨S, s, m, e, 0⟩ : Nm).stp = S.last then _ else (⟨S, s, (⟨S, s, m, e, 0⟩ : Nm).stp - S.rise (⟨S, s, m, e, 0⟩ : Nm).stp * S.fn, S.lo + S.rise (⟨S, s, m, e, 0⟩ : Nm).stp, 0⟩ : Nm)) = _
    rw [if_neg hne, show S.rise (⟨S, s, m, e, 0⟩ : Nm).stp = e - S.lo from hr]
    simp only [Nm.stp]
    have : m + (e - S.lo) * S.fn - (e - S.lo) * S.fn = m := by omega
    rw [this, show S.lo + (e - S.lo) = e from by omega]
theorem Sh.Ok.stepsOk {S : Sh} (h : S.Ok) {k s : Int} (k0 : 0 ≤ k) (k1 : k ≤ S.last) (hs : s = 0 ∨ s = 1) : (S.ofSteps k s).Ok ∧ (S.ofSteps k s).steps = k ∧ (S.ofSteps k s).s = s ∧ (S.ofSteps k s).S = S ∧ (S.ofSteps k s).st = (if k = S.last then 1 else 0) := by
  unfold Sh.ofSteps
  by_cases e : k = S.last
  · rw [if_pos e, if_pos e]
    exact ⟨h.infOk hs, e.symm, rfl, rfl, rfl⟩
  · rw [if_neg e, if_neg e]
    obtain ⟨r, m, e1, r0, m0, m1, hn, er⟩ := h.parts k0
    rw [er]
    have e2 : k - r * S.fn = m := by omega
    rw [e2]
    have f2 := h.fn2
    have hr : S.lo + r ≤ S.hi := by
      rcases (show S.hi < S.lo + r ∨ S.lo + r ≤ S.hi by omega) with z | z
      · have h1 : (S.hi - S.lo + 1) * S.fn ≤ r * S.fn := mul_le_r (by omega) (by omega)
        have h2 : S.last = (S.hi - S.lo + 1) * S.fn + S.fn := by unfold Sh.last; rw [show S.hi - S.lo + 2 = (S.hi - S.lo + 1) + 1 from by omega, Int.add_mul _ 1, Int.one_mul]
        have := hn (by have := h.h0; omega)
        omega
      · exact z
    refine ⟨⟨h, hs, m0, m1, by show S.lo ≤ S.lo + r; omega, hr, fun z => hn (by have z' : S.lo < S.lo + r := z; omega), Nat.le_of_ble_eq_true rfl, fun z => absurd rfl z, fun z => nomatch z⟩, ?_, rfl, rfl, rfl⟩
    show m + (S.lo + r - S.lo) * S.fn = k
    rw [show S.lo + r - S.lo = r from by omega]
    omega
/-! ### order -/
def sgn (a b : Int) : Int := if a = b then 0 else if a < b then -1 else 1
theorem sgn_eq {a b c d : Int} (h1 : a < b → c < d) (h2 : b < a → d < c) (h3 : a = b → c = d) : sgn a b = sgn c d := by
  unfold sgn
  rcases Int.lt_trichotomy a b with z | z | z
  · have := h1 z
    rw [if_neg (by omega), if_pos z, if_neg (by omega), if_pos this]
  · rw [if_pos z, if_pos (h3 z)]
  · have := h2 z
    rw [if_neg (by omega), if_neg (by omega), if_neg (by omega), if_neg (by omega)]
def wt (e : Int) : Int := 2 ^ (e + 1100).toNat
theorem wt_pos (e : Int) : 0 < wt e := ip_pos _
theorem wt_succ {e : Int} (h : -1100 ≤ e) : wt (e + 1) = 2 * wt e := by
  unfold wt
  rw [← ip_succ]
  congr 1
  omega
theorem wt_mono {e e' : Int} (h : e ≤ e') : wt e ≤ wt e' := ip_mono (by omega)
def Nm.sx (n : Nm) : Int := if n.s = 1 then -n.m else n.m
def Nm.sc (n : Nm) : Int := n.sx * wt n.e
theorem stp_lt {S : Sh} (h : S.Ok) {m e m' e' : Int} (m0 : 0 ≤ m) (m1 : m < 2 * S.fn) (e0 : S.lo ≤ e) (hn : S.lo < e → S.fn ≤ m) (m0' : 0 ≤ m') (m1' : m' < 2 * S.fn) (e0' : S.lo ≤ e') (hn' : S.lo < e' → S.fn ≤ m')
    (hk : m + (e - S.lo) * S.fn < m' + (e' - S.lo) * S.fn) : m * wt e < m' * wt e' := by
  have f2 := h.fn2
  have l0 := h.l0
  rcases Int.lt_trichotomy e e' with z | z | z
  · have h1 : m < 2 * m' := by have := hn' (by omega); omega
    have h2 : m * wt e < 2 * m' * wt e := Int.mul_lt_mul_of_pos_right h1 (wt_pos e)
    have h3 : wt (e + 1) ≤ wt e' := wt_mono (by omega)
    have h4 : m' * wt (e + 1) ≤ m' * wt e' := Int.mul_le_mul_of_nonneg_left h3 m0'
    rw [wt_succ (by omega), ← Int.mul_assoc, Int.mul_comm m' 2] at h4
    omega
  · subst z
    exact Int.mul_lt_mul_of_pos_right (by omega) (wt_pos e)
  · have h1 : (e' - S.lo + 1) * S.fn ≤ (e - S.lo) * S.fn := mul_le_r (by omega) (by omega)
    rw [Int.add_mul, Int.one_mul] at h1
    have := hn (by omega)
    omega
theorem sx_cases (n : Nm) (h : n.Ok) : (n.s = 1 ∧ n.sx = -n.m) ∨ (n.s = 0 ∧ n.sx = n.m) := by
  unfold Nm.sx
  rcases h.s01 with e | e
  · exact .inr ⟨e, by rw [if_neg (by omega)]⟩
  · exact .inl ⟨e, by rw [if_pos e]⟩
theorem sc_lt {a b : Nm} (ha : a.Ok) (hb : b.Ok) (hS : a.S = b.S) (h : a.stp < b.stp) : a.m * wt a.e < b.m * wt b.e := by
  have h1 := ha.sh
  refine stp_lt h1 ha.m0 ha.m1 ha.e0 ha.nrm hb.m0 (by rw [hS]; exact hb.m1) (by rw [hS]; exact hb.e0) (by rw [hS]; exact hb.nrm) ?_
  have h2 : b.stp = b.m + (b.e - a.S.lo) * a.S.fn := by rw [hS]; rfl
  rw [← h2]
  exact h
theorem sc_eq {a b : Nm} (ha : a.Ok) (hb : b.Ok) (hS : a.S = b.S) (h : a.stp = b.stp) : a.m = b.m ∧ a.e = b.e := by
  have h1 := ha.rise
  have h2 := hb.rise
  rw [← hS, ← h, h1] at h2
  have h3 : a.e = b.e := by omega
  refine ⟨?_, h3⟩
  unfold Nm.stp at h
  rw [← hS, h3] at h
  omega
theorem Nm.Ok.mw {n : Nm} (h : n.Ok) : 0 ≤ n.m * wt n.e := Int.mul_nonneg h.m0 (by have := wt_pos n.e; omega)
theorem Nm.Ok.mw0 {n : Nm} (h : n.Ok) : n.m * wt n.e = 0 ↔ n.stp = 0 := by
  have w0 := wt_pos n.e
  have f2 := h.sh.fn2
  constructor
  · intro z
    have m0 : n.m = 0 := by
      rcases Int.mul_eq_zero.mp z with q | q
      · exact q
      · omega
    have e0 : n.e = n.S.lo := by
      rcases (show n.S.lo < n.e ∨ n.e ≤ n.S.lo by omega) with q | q
      · have := h.nrm q; omega
      · have := h.e0; omega
    unfold Nm.stp
    rw [m0, e0, Int.sub_self, Int.zero_mul]
    rfl
  · intro z
    have m0 : n.m = 0 := by
      have h1 := h.m0
      have : 0 ≤ (n.e - n.S.lo) * n.S.fn := Int.mul_nonneg (by have := h.e0; omega) (by omega)
      unfold Nm.stp at z
      omega
    rw [m0, Int.zero_mul]
theorem Nm.sc_of {n : Nm} (h : n.Ok) : (n.s = 1 ∧ n.sc = -(n.m * wt n.e)) ∨ (n.s = 0 ∧ n.sc = n.m * wt n.e) := by
  unfold Nm.sc
  rcases sx_cases n h with ⟨a, b⟩ | ⟨a, b⟩
  · exact .inl ⟨a, by rw [b, Int.neg_mul]⟩
  · exact .inr ⟨a, by rw [b]⟩
theorem Nm.rank_of {n : Nm} (h : n.Ok) (h0 : n.st = 0) : (n.s = 1 ∧ n.rank = -n.stp) ∨ (n.s = 0 ∧ n.rank = n.stp) := by
  unfold Nm.rank Nm.steps
  rw [h0]
  rcases h.s01 with e | e
  · exact .inr ⟨e, by rw [if_neg (by omega)]; rfl⟩
  · exact .inl ⟨e, by rw [if_pos e]; rfl⟩
theorem sc_rank {a b : Nm} (ha : a.Ok) (hb : b.Ok) (hS : a.S = b.S) (a0 : a.st = 0) (b0 : b.st = 0) : sgn a.sc b.sc = sgn a.rank b.rank := by
  have pa := ha.stp0; have pb := hb.stp0
  have qa := ha.mw; have qb := hb.mw
  have za := ha.mw0; have zb := hb.mw0
  have lt1 := sc_lt ha hb hS
  have lt2 := sc_lt hb ha hS.symm
  have eq1 : a.stp = b.stp → a.m * wt a.e = b.m * wt b.e := fun z => by rw [(sc_eq ha hb hS z).1, (sc_eq ha hb hS z).2]
  have lt1 : b.stp ≤ a.stp ∨ a.m * wt a.e < b.m * wt b.e := by rcases (show a.stp < b.stp ∨ b.stp ≤ a.stp by omega) with z | z; exact .inr (lt1 z); exact .inl z
  have lt2 : a.stp ≤ b.stp ∨ b.m * wt b.e < a.m * wt a.e := by rcases (show b.stp < a.stp ∨ a.stp ≤ b.stp by omega) with z | z; exact .inr (lt2 z); exact .inl z
  have eq1 : a.stp < b.stp ∨ b.stp < a.stp ∨ a.m * wt a.e = b.m * wt b.e := by rcases (show a.stp < b.stp ∨ b.stp < a.stp ∨ a.stp = b.stp by omega) with z | z | z; exact .inl z; exact .inr (.inl z); exact .inr (.inr (eq1 z))
  have C1 := Nm.sc_of ha
  have C2 := Nm.sc_of hb
  have R1 := Nm.rank_of ha a0
  have R2 := Nm.rank_of hb b0
  generalize a.m * wt a.e = A at *
  generalize b.m * wt b.e = B at *
  rcases C1 with ⟨s1, c1⟩ | ⟨s1, c1⟩ <;> rcases C2 with ⟨s2, c2⟩ | ⟨s2, c2⟩ <;> rcases R1 with ⟨s3, r1⟩ | ⟨s3, r1⟩ <;> rcases R2 with ⟨s4, r2⟩ | ⟨s4, r2⟩ <;> (try omega) <;> rw [c1, c2, r1, r2] <;>
    (refine sgn_eq ?_ ?_ ?_ <;> omega)
def Nm.side (n : Nm) : Int := if n.st = 1 then (if n.s = 1 then -1 else 1) else 0
def cmpN (a b : Nm) : Int := if a.st = 1 ∨ b.st = 1 then sgn a.side b.side else sgn a.sc b.sc
end Dw

set_option Elab.async false
set_option linter.all false
/-! numbers: values, next ones -/
namespace Dw
open PySem
/-! ### the lowest bit -/
theorem and2 (a b : Nat) : a &&& b = 2 * (a / 2 &&& b / 2) + (a % 2) * (b % 2) := by
  have h1 : (a &&& b) / 2 = a / 2 &&& b / 2 := by
    have := Nat.and_div_two_pow (a := a) (b := b) (n := 1)
    simpa using this
  have h2 : (a &&& b) % 2 = (a % 2) &&& (b % 2) := by
    have := Nat.and_mod_two_pow (a := a) (b := b) (n := 1)
    simpa using this
  have h3 : (a % 2) &&& (b % 2) = (a % 2) * (b % 2) := by
    rcases Nat.mod_two_eq_zero_or_one a with e | e <;> rcases Nat.mod_two_eq_zero_or_one b with e' | e' <;> rw [e, e'] <;> rfl
  rw [h3] at h2
  omega
theorem low_spec : ∀ (n y : Nat), y ≤ n → 0 < y → ∃ v j, y = 2 ^ v * (2 * j + 1) ∧ y - (y &&& (y - 1)) = 2 ^ v ∧ (y &&& (y - 1)) ≤ y
  | 0, y, h, h0 => by omega
  | n + 1, y, h, h0 => by
    have e := and2 y (y - 1)
    rcases Nat.mod_two_eq_zero_or_one y with z | z
    · obtain ⟨v, j, e1, e2, e3⟩ := low_spec n (y / 2) (by omega) (by omega)
      have e4 : (y - 1) / 2 = y / 2 - 1 := by omega
      rw [z, Nat.zero_mul, e4] at e
      refine ⟨v + 1, j, ?_, ?_, ?_⟩
      · rw [Nat.pow_succ, Nat.mul_comm (2 ^ v) 2, Nat.mul_assoc, ← e1]
        omega
      · rw [Nat.pow_succ, Nat.mul_comm (2 ^ v) 2, ← e2]
        omega
      · omega
    · have e4 : (y - 1) / 2 = y / 2 := by omega
      have e5 : (y - 1) % 2 = 0 := by omega
      rw [e4, e5, Nat.mul_zero, Nat.and_self] at e
      exact ⟨0, y / 2, by omega, by omega, by omega⟩
theorem low_pos {y : Int} (h : 0 < y) : ∃ v : Nat, ∃ j : Int, y = 2 ^ v * (2 * j + 1) ∧ Builtin.bitAnd y (-y) = 2 ^ v := by
  obtain ⟨v, j, e1, e2, e3⟩ := low_spec y.toNat y.toNat (Nat.le_refl _) (by omega)
  have e4 : (Builtin.bitNot (-y)).toNat = y.toNat - 1 := by
    show (-(-y) - 1).toNat = _
    omega
  refine ⟨v, j, ?_, ?_⟩
  · have : y = ((y.toNat : Nat) : Int) := by omega
    rw [this, e1, Int.natCast_mul, Int.natCast_pow]
    rfl
  · rw [PyProof.Rows.bitAnd_pn (by omega) (by omega), e4, ip_cast, ← e2]
    omega
theorem low_ne {x : Int} (h : x ≠ 0) : ∃ v : Nat, ∃ j : Int, x = 2 ^ v * (2 * j + 1) ∧ Builtin.bitAnd x (-x) = 2 ^ v := by
  rcases (show 0 < x ∨ x < 0 by omega) with z | z
  · exact low_pos z
  · obtain ⟨v, j, e1, e2⟩ := low_pos (y := -x) (by omega)
    refine ⟨v, -j - 1, ?_, ?_⟩
    · have : x = -(2 ^ v * (2 * j + 1)) := by omega
      rw [this, ← Int.mul_neg]
      congr 1
      omega
    · rw [Int.neg_neg] at e2
      rw [PyProof.Rows.bitAnd_comm]
      exact e2
theorem bits_two (v : Nat) : Builtin.Int.intBits ((2 : Int) ^ v) = v + 1 := by
  have e : ((2 : Int) ^ v).natAbs = 2 ^ v := by rw [ip_cast, Int.natAbs_natCast]
  have h1 : Builtin.Int.intBits ((2 : Int) ^ v) ≤ v + 1 := intBits_le_iff.mpr (by rw [e]; exact Nat.pow_lt_pow_right (by decide) (by omega))
  have h2 : ¬ Builtin.Int.intBits ((2 : Int) ^ v) ≤ v := fun z => by
    have := intBits_le_iff.mp z
    rw [e] at this
    omega
  omega
def tz (x : Int) : Nat := Builtin.Int.intBits (Builtin.bitAnd x (-x)) - 1
theorem tz_bits {x : Int} (h : x ≠ 0) : ((Builtin.Int.intBits (Builtin.bitAnd x (-x)) : Nat) : Int) - 1 = (tz x : Nat) := by
  obtain ⟨v, j, _, e⟩ := low_ne h
  unfold tz
  rw [e, bits_two]
  omega
theorem tz_spec {x : Int} (h : x ≠ 0) : ∃ j : Int, x = 2 ^ tz x * (2 * j + 1) := by
  obtain ⟨v, j, e1, e⟩ := low_ne h
  have : tz x = v := by unfold tz; rw [e, bits_two]; omega
  rw [this]
  exact ⟨j, e1⟩
theorem tz_dvd {x : Int} (h : x ≠ 0) {t : Nat} (ht : t ≤ tz x) : ∃ y, x = 2 ^ t * y := by
  obtain ⟨j, e⟩ := tz_spec h
  refine ⟨2 ^ (tz x - t) * (2 * j + 1), ?_⟩
  rw [← Int.mul_assoc, ← Int.pow_add, show t + (tz x - t) = tz x from by omega]
  exact e
/-! ### values -/
def Nm.sp (n : Nm) : Nat := min (tz n.sx) (-n.e).toNat
def Nm.num (n : Nm) : Int := if 0 ≤ n.e then n.sx * 2 ^ n.e.toNat else if n.sx = 0 then 0 else n.sx / 2 ^ n.sp
def Nm.den (n : Nm) : Int := if 0 ≤ n.e then 1 else if n.sx = 0 then 1 else 2 ^ ((-n.e).toNat - n.sp)
/-! ### the other sign -/
def negN (n : Nm) : Nm := if n.st = 2 then n else { n with s := 1 - n.s }
theorem neg_ok {n : Nm} (h : n.Ok) : (negN n).Ok := by
  unfold negN
  split
  · exact h
  · rename_i z
    refine ⟨h.sh, ?_, h.m0, h.m1, h.e0, h.e1, h.nrm, h.st2, h.far, fun q => absurd q z⟩
    show 1 - n.s = 0 ∨ 1 - n.s = 1
    have := h.s01
    omega
theorem neg_at {n : Nm} (h0 : n.st ≠ 2) : (negN n).m = n.m ∧ (negN n).e = n.e ∧ (negN n).S = n.S ∧ (negN n).st = n.st ∧ (negN n).s = 1 - n.s := by
  unfold negN
  rw [if_neg h0]
  exact ⟨rfl, rfl, rfl, rfl, rfl⟩
/-! ### by rank, by word, next ones -/
def absI (i : Int) : Int := if i < 0 then -i else i
def rankN (S : Sh) (r : Int) : Nm := S.ofSteps (absI r) (if r < 0 then 1 else 0)
theorem rankN_ok {S : Sh} (h : S.Ok) {r : Int} (h1 : -S.last ≤ r) (h2 : r ≤ S.last) : (rankN S r).Ok ∧ (rankN S r).rank = r ∧ (rankN S r).S = S ∧ (rankN S r).st ≠ 2 ∧ ((rankN S r).st = 1 ↔ absI r = S.last) ∧ ((rankN S r).s = if r < 0 then 1 else 0) := by
  have a0 : 0 ≤ absI r := by unfold absI; split <;> omega
  have a1 : absI r ≤ S.last := by unfold absI; split <;> omega
  obtain ⟨o1, o2, o3, o4, o5⟩ := h.stepsOk a0 a1 (s := if r < 0 then 1 else 0) (by split <;> simp)
  refine ⟨o1, ?_, o4, ?_, ?_, o3⟩
  · show (if (S.ofSteps _ _).s = 1 then -(S.ofSteps _ _).steps else (S.ofSteps _ _).steps) = r
    rw [o3, o2]
    unfold absI
    split <;> split <;> simp_all <;> omega
  · show (S.ofSteps _ _).st ≠ 2
    rw [o5]
    split <;> decide
  · show (S.ofSteps _ _).st = 1 ↔ _
    rw [o5]
    split <;> simp_all
theorem rank_abs {n : Nm} (h : n.Ok) (h0 : n.st ≠ 2) : absI n.rank = n.steps ∧ -n.S.last ≤ n.rank ∧ n.rank ≤ n.S.last := by
  obtain ⟨a, b⟩ := h.steps0
  unfold absI Nm.rank
  have := h.s01
  by_cases e : n.s = 1
  · rw [if_pos e]
    split <;> omega
  · rw [if_neg e]
    split <;> omega
theorem rank_zero {n : Nm} (h : n.Ok) (h0 : n.st ≠ 2) (hr : n.rank = 0) : n = n.S.zero n.s := by
  obtain ⟨a, _, _⟩ := rank_abs h h0
  rw [hr] at a
  have a' : n.steps = 0 := by rw [← a]; rfl
  have b := h.back h0
  have l4 := h.sh.last4
  have f2 := h.sh.fn2
  rw [a'] at b
  have r0 : n.S.rise 0 = 0 := h.sh.rise_eq (m := 0) (by omega) (Int.le_refl _) (Int.le_refl _) (by omega) fun z => absurd z (Int.lt_irrefl _)
  rw [← b]
  unfold Sh.ofSteps
  rw [if_neg (by omega), r0]
  simp [Sh.zero]
def movedN (n : Nm) (d : Int) : Nm := if n.st = 2 then n else if absI (n.rank + d) > n.S.last then n else if n.rank + d = 0 then n.S.zero n.s else rankN n.S (n.rank + d)
theorem moved_ok {n : Nm} (h : n.Ok) (h0 : n.st ≠ 2) {d : Int} (h1 : -n.S.last ≤ n.rank + d) (h2 : n.rank + d ≤ n.S.last) : (movedN n d).Ok ∧ (movedN n d).rank = n.rank + d ∧ (movedN n d).S = n.S ∧ (movedN n d).st ≠ 2 ∧ ((movedN n d).st = 1 ↔ absI (n.rank + d) = n.S.last) ∧ (n.rank + d ≠ 0 → movedN n d = rankN n.S (n.rank + d)) ∧ (n.rank + d = 0 → movedN n d = n.S.zero n.s) := by
  have a1 : ¬ absI (n.rank + d) > n.S.last := by unfold absI; split <;> omega
  have l4 := h.sh.last4
  have f2 := h.sh.fn2
  unfold movedN
  rw [if_neg h0, if_neg a1]
  by_cases hz : n.rank + d = 0
  · rw [if_pos hz, hz]
    refine ⟨h.sh.zeroOk h.s01, ?_, rfl, (fun z => nomatch (show (0 : Nat) = 2 from z)), ?_, fun z => absurd rfl z, fun _ => rfl⟩
    · show (if n.s = 1 then -((0 : Int) + (n.S.lo - n.S.lo) * n.S.fn) else (0 : Int) + (n.S.lo - n.S.lo) * n.S.fn) = 0
      rw [Int.sub_self, Int.zero_mul]
      split <;> rfl
    · constructor
      · intro z; exact nomatch (show (0 : Nat) = 1 from z)
      · intro z
        have : absI 0 = 0 := rfl
        omega
  · rw [if_neg hz]
    obtain ⟨a, b, c, d', e, _⟩ := rankN_ok h.sh h1 h2
    exact ⟨a, b, c, d', e, fun _ => rfl, fun z => absurd z hz⟩
theorem rank_fin {n : Nm} (h : n.Ok) (h0 : n.st = 0) : -n.S.last < n.rank ∧ n.rank < n.S.last := by
  have a := h.stp0
  have b := h.stpL
  rcases Nm.rank_of h h0 with ⟨_, e⟩ | ⟨_, e⟩ <;> rw [e] <;> omega
/-! ### words -/
def wordN (S : Sh) (w : Int) : Nm := if w % S.sgnW > S.topW then S.nan else S.ofSteps (w % S.sgnW) (w / S.sgnW)
end Dw

set_option Elab.async false
set_option linter.all false
namespace Dw
open PySem
/-- the value of k steps, scaled -/
def Sh.fk (S : Sh) (k : Int) : Int := (k - S.rise k * S.fn) * wt (S.lo + S.rise k)
theorem Sh.Ok.fk_step {S : Sh} (h : S.Ok) {k : Int} (k0 : 0 ≤ k) : S.fk (k + 1) - S.fk k = wt (S.lo + S.rise k) := by
  obtain ⟨r, m, e1, r0, m0, m1, hn, er⟩ := h.parts k0
  have f2 := h.fn2
  have l0 := h.l0
  unfold Sh.fk
  rw [er, show k - r * S.fn = m from by omega]
  by_cases hm : m + 1 < 2 * S.fn
  · have e2 : S.rise (k + 1) = r := h.rise_eq (m := m + 1) (by omega) r0 (by omega) hm fun z => by have := hn z; omega
    rw [e2, show k + 1 - r * S.fn = m + 1 from by omega, Int.add_mul, Int.one_mul]
    omega
  · have e3 : k + 1 = S.fn + (r + 1) * S.fn := by rw [Int.add_mul, Int.one_mul]; omega
    have e2 : S.rise (k + 1) = r + 1 := h.rise_eq e3 (by omega) (by omega) (by omega) fun _ => Int.le_refl _
    rw [e2, show k + 1 - (r + 1) * S.fn = S.fn from by omega, show S.lo + (r + 1) = S.lo + r + 1 from by omega, wt_succ (by omega)]
    have e4 : m = 2 * S.fn - 1 := by omega
    rw [e4, Int.sub_mul, Int.one_mul, ← Int.mul_assoc, Int.mul_comm S.fn 2]
    omega
theorem Nm.Ok.fk_eq {n : Nm} (h : n.Ok) : n.m * wt n.e = n.S.fk n.stp := by
  unfold Sh.fk
  rw [h.rise, show n.S.lo + (n.e - n.S.lo) = n.e from by omega]
  unfold Nm.stp
  rw [show n.m + (n.e - n.S.lo) * n.S.fn - (n.e - n.S.lo) * n.S.fn = n.m from by omega]
theorem Sh.Ok.fk0 {S : Sh} (h : S.Ok) : S.fk 0 = 0 ∧ S.rise 0 = 0 := by
  have f2 := h.fn2
  have r0 : S.rise 0 = 0 := h.rise_eq (m := 0) (by omega) (Int.le_refl _) (Int.le_refl _) (by omega) fun z => absurd z (Int.lt_irrefl _)
  unfold Sh.fk
  rw [r0, Int.zero_mul]
  exact ⟨by rw [Int.sub_self, Int.zero_mul], rfl⟩
def maxI (i j : Int) : Int := if j > i then j else i
def minI (i j : Int) : Int := if j < i then j else i
end Dw

set_option Elab.async false
set_option linter.all false
set_option maxRecDepth 100000
/-! numbers on the heap; what the defs of numbers.py promise -/
namespace L2
open PySem PySem.Spec PyProof.Rows Dw
class Stp (H : outParam Hp) (H' : Hp) : Prop where
  s : Same H H'
def Imm : HO → Prop
  | .tup _ => True
  | .ins _ _ _ => True
  | .frz _ _ => True
  | _ => False
class Drw (H : outParam Hp) (H' : Hp) : Prop where
  s : ∀ b o, Imm o → H b = some o → H' b = some o
class Ex (H H' : Hp) : Prop where
  s : ∀ b o, Imm o → H b = some o → H' b = some o
instance Ex.refl (H : Hp) : Ex H H := ⟨fun _ _ _ e => e⟩
instance Ex.stp {H H1 H2 : Hp} [a : Stp H1 H2] [b : Ex H H1] : Ex H H2 := ⟨fun c o i e => a.s c o (b.s c o i e)⟩
instance Ex.drw {H H1 H2 : Hp} [a : Drw H1 H2] [b : Ex H H1] : Ex H H2 := ⟨fun c o i e => a.s c o i (b.s c o i e)⟩
/-- all is kept -/
class Sm (H H' : Hp) : Prop where
  s : Same H H'
instance Sm.refl (H : Hp) : Sm H H := ⟨Same.refl H⟩
instance Sm.stp {H H1 H2 : Hp} [a : Stp H1 H2] [b : Sm H H1] : Sm H H2 := ⟨b.s.trans a.s⟩
def ShAt (K : PySem.W.Frag) (H : Hp) (v : V) (S : Sh) : Prop := S.Ok ∧ ∃ a, v = .ref a ∧ SqT K H a [.int S.p, .int S.lo, .int S.hi]
def TupAt (K : PySem.W.Frag) (H : Hp) (v : V) (xs : List V) : Prop := ∃ a, v = .ref a ∧ SqT K H a xs
def stS (k : Nat) : Str := if k = 0 then "finite" else if k = 1 then "infinite" else "nan"
def flds (sh : Addr) (n : Nm) : List (Str × V) := [("own_shape", .ref sh), ("own_sign", .int n.s), ("own_significand", .int n.m), ("own_exponent", .int n.e), ("state", .str (stS n.st))]
/-- a number at v -/
def NumAt (K : PySem.W.Frag) (C : Addr) (H : Hp) (v : V) (n : Nm) : Prop := n.Ok ∧ ∃ a dx sh, v = .ref a ∧ H a = some (.ins C dx (flds sh n)) ∧ SqT K H sh [.int n.S.p, .int n.S.lo, .int n.S.hi]
/-- what of the class is asked -/
structure NumC (K : PySem.W.Frag) (C : Addr) : Prop where
  cl : Cls K C
  nSh : NoAttr K C "own_shape"
  nSi : NoAttr K C "own_sign"
  nM : NoAttr K C "own_significand"
  nE : NoAttr K C "own_exponent"
  nSt : NoAttr K C "state"
  ha : PySem.W.findIn K (.ref C) "__class__" = some (some (.builtin "object.__class__"))
  hn : PySem.W.specialIn K (.builtin "object.__class__") "__get__" = some (some (.builtin "getset_descriptor.__get__"))
  htk : PySem.W.takesIn K (.builtin "object.__class__") = some true
  hm : PySem.W.mroIn K C (.type "object") = some true
theorem kit_self (K : PySem.W.Frag) (C : Addr) : PySem.W.kitOne K (.ref C) (.ref C) = some true := by unfold PySem.W.kitOne; rw [if_pos (by simp)]
section
variable {K : PySem.W.Frag} {C : Addr} {H H0 H1 : Hp} {Q : VK} {E : XK} {σ : St} {D : Ends} {v w : V} {n n' : Nm} {S : Sh}
/-! ### readings -/
def rFld (K : PySem.W.Frag) (f : Str) (x : V) (H : Hp) (Q : VK) : Prop := ∃ a C dx fs v, x = .ref a ∧ H a = some (.ins C dx fs) ∧ Cls K C ∧ NoAttr K C f ∧ fs.lookup f = some v ∧ Q v H
def rMeth (C : Addr) (m : Str) (sp : Sp) (x : V) (H : Hp) (Q : VK) : Prop := ∃ a dx fs, x = .ref a ∧ H a = some (.ins C dx fs) ∧ fs.lookup m = none ∧ sp [x] H Q E0
theorem ifF' {c : Bool} {A B : Prop} (h : c = false) (hb : B) : if c = true then A else B := by
  rw [h]
  exact iteF hb
theorem ifT' {c : Bool} {A B : Prop} (h : c = true) (ha : A) : if c = true then A else B := by
  rw [h]
  exact iteT ha
def rBits (x : V) (xs : List V) (H : Hp) (Q : VK) : Prop := ∃ i, x = .int i ∧ xs = [] ∧ Q (.int (Builtin.Int.intBits i : Nat)) H
theorem mt_bitsM {X : Cx} : MtR X "int.bit_length" rBits := mt_bits
def rMaxI (xs : List V) (H : Hp) (Q : VK) : Prop := ∃ i j, xs = [.int i, .int j] ∧ Q (.int (if j > i then j else i)) H
def rMinI (xs : List V) (H : Hp) (Q : VK) : Prop := ∃ i j, xs = [.int i, .int j] ∧ Q (.int (if j < i then j else i)) H
def rAbsI (xs : List V) (H : Hp) (Q : VK) : Prop := ∃ i, xs = [.int i] ∧ Q (.int (if i < 0 then -i else i)) H
theorem call_maxM {X : Cx} (hc : X.calm = true) : CallR X (.builtin "max") rMaxI := call_max2 hc
theorem call_minM {X : Cx} (hc : X.calm = true) : CallR X (.builtin "min") rMinI := call_min2 hc
theorem call_absM {X : Cx} : CallR X (.builtin "abs") rAbsI := call_abs
/-! ### promises -/
def spF {α : Type} (args : α → List V) (R : α → Hp → VK → Prop) : Sp := fun vs H Q _ => ∃ x, vs = args x ∧ R x H Q
def spWantWhole : Sp := spF (fun x : Int × Int × Int × Str => [.int x.1, .int x.2.1, .int x.2.2.1, .str x.2.2.2]) fun x H Q => x.2.1 ≤ x.1 ∧ x.1 ≤ x.2.2.1 ∧ Q .non H
def spWantShape (K : PySem.W.Frag) : Sp := spF (fun x : V × Sh => [x.1]) fun x H Q => ShAt K H x.1 x.2 ∧ Q .non H
def spShInt (K : PySem.W.Frag) (f : Sh → Int) : Sp := spF (fun x : V × Sh => [x.1]) fun x H Q => ShAt K H x.1 x.2 ∧ Q (.int (f x.2)) H
def spNmInt (K : PySem.W.Frag) (C : Addr) (f : Nm → Int) : Sp := spF (fun x : V × Nm => [x.1]) fun x H Q => NumAt K C H x.1 x.2 ∧ Q (.int (f x.2)) H
def spShapeM (K : PySem.W.Frag) (C : Addr) : Sp := spF (fun x : V × Nm => [x.1]) fun x H Q => NumAt K C H x.1 x.2 ∧ ∀ w, ShAt K H w x.2.S → Q w H
def kindS (n : Nm) : Str := if n.st = 0 then (if n.m = 0 then "zero" else if n.m < n.S.fn then "subnormal" else "normal") else stS n.st
def spKind (K : PySem.W.Frag) (C : Addr) : Sp := spF (fun x : V × Nm => [x.1]) fun x H Q => NumAt K C H x.1 x.2 ∧ Q (.str (kindS x.2)) H
def spParts (K : PySem.W.Frag) (C : Addr) : Sp := spF (fun x : V × Nm => [x.1]) fun x H Q => NumAt K C H x.1 x.2 ∧ x.2.st = 0 ∧ ∀ w H', Stp H H' → TupAt K H' w [.int x.2.m, .int x.2.e] → Q w H'
def spValue (K : PySem.W.Frag) (C : Addr) : Sp := spF (fun x : V × Nm => [x.1]) fun x H Q => NumAt K C H x.1 x.2 ∧ x.2.st = 0 ∧ ∀ w H', Stp H H' → TupAt K H' w [.int x.2.num, .int x.2.den] → Q w H'
def spRank (K : PySem.W.Frag) (C : Addr) : Sp := spF (fun x : V × Nm => [x.1]) fun x H Q => NumAt K C H x.1 x.2 ∧ x.2.st ≠ 2 ∧ ∀ H', Stp H H' → Q (.int x.2.rank) H'
def spSteps (K : PySem.W.Frag) (C : Addr) : Sp := spF (fun x : V × Nm => [x.1]) fun x H Q => NumAt K C H x.1 x.2 ∧ x.2.st ≠ 2 ∧ ∀ H', Stp H H' → Q (.int x.2.steps) H'
def spWord (K : PySem.W.Frag) (C : Addr) : Sp := spF (fun x : V × Nm => [x.1]) fun x H Q => NumAt K C H x.1 x.2 ∧ ∀ H', Stp H H' → Q (.int x.2.word) H'
def spNmNm (K : PySem.W.Frag) (C : Addr) (f : Nm → Nm) : Sp := spF (fun x : V × Nm => [x.1]) fun x H Q => NumAt K C H x.1 x.2 ∧ ∀ w H', Stp H H' → NumAt K C H' w (f x.2) → Q w H'
def spEq (K : PySem.W.Frag) (C : Addr) : Sp := spF (fun x : V × V × Nm × Nm => [x.1, x.2.1]) fun x H Q => NumAt K C H x.1 x.2.2.1 ∧ NumAt K C H x.2.1 x.2.2.2 ∧ Q (.bl (decide (x.2.2.1 = x.2.2.2))) H
def spInf (K : PySem.W.Frag) (C : Addr) : Sp := spF (fun x : V × Int × Sh => [x.1, .int x.2.1]) fun x H Q => ShAt K H x.1 x.2.2 ∧ (x.2.1 = 0 ∨ x.2.1 = 1) ∧ ∀ w H', Stp H H' → NumAt K C H' w (x.2.2.inf x.2.1) → Q w H'
def spNan (K : PySem.W.Frag) (C : Addr) : Sp := spF (fun x : V × Sh => [x.1]) fun x H Q => ShAt K H x.1 x.2 ∧ ∀ w H', Stp H H' → NumAt K C H' w x.2.nan → Q w H'
def spByRank (K : PySem.W.Frag) (C : Addr) : Sp := spF (fun x : Int × V × Sh => [.int x.1, x.2.1]) fun x H Q => ShAt K H x.2.1 x.2.2 ∧ -x.2.2.last ≤ x.1 ∧ x.1 ≤ x.2.2.last ∧ ∀ w H', Stp H H' → NumAt K C H' w (rankN x.2.2 x.1) → Q w H'
def wordK (S : Sh) (k s : Int) : Nm := if k > S.topW then S.nan else if k = S.topW then S.inf s else S.ofSteps k s
def spByWord (K : PySem.W.Frag) (C : Addr) : Sp := spF (fun x : Int × V × Sh => [.int x.1, x.2.1]) fun x H Q => ShAt K H x.2.1 x.2.2 ∧ 0 ≤ x.1 ∧ x.1 ≤ 2 * x.2.2.sgnW - 1 ∧ (x.2.2.topW ≤ x.1 % x.2.2.sgnW ∨ x.1 % x.2.2.sgnW < x.2.2.last) ∧ ∀ w H', Stp H H' → NumAt K C H' w (wordK x.2.2 (x.1 % x.2.2.sgnW) (x.1 / x.2.2.sgnW)) → Q w H'
def spCompare (K : PySem.W.Frag) (C : Addr) : Sp := spF (fun x : V × V × Nm × Nm => [x.1, x.2.1]) fun x H Q => NumAt K C H x.1 x.2.2.1 ∧ NumAt K C H x.2.1 x.2.2.2 ∧ x.2.2.1.st ≠ 2 ∧ x.2.2.2.st ≠ 2 ∧ ∀ H', Stp H H' → Q (.int (cmpN x.2.2.1 x.2.2.2)) H'
def spBetween (K : PySem.W.Frag) (C : Addr) : Sp := spF (fun x : V × V × Nm × Nm => [x.1, x.2.1]) fun x H Q => NumAt K C H x.1 x.2.2.1 ∧ NumAt K C H x.2.1 x.2.2.2 ∧ x.2.2.1.st ≠ 2 ∧ x.2.2.2.st ≠ 2 ∧ x.2.2.1.S = x.2.2.2.S ∧ ∀ H', Stp H H' → Q (.int (maxI 0 (absI (x.2.2.1.rank - x.2.2.2.rank) - 1))) H'
def spWantNumber (K : PySem.W.Frag) (C : Addr) : Sp := spF (fun x : V × Nm => [x.1]) fun x H Q => NumAt K C H x.1 x.2 ∧ Q .non H
def spBySteps (K : PySem.W.Frag) (C : Addr) : Sp := spF (fun x : Int × V × Int × Sh => [.int x.1, x.2.1, .int x.2.2.1]) fun x H Q => ShAt K H x.2.1 x.2.2.2 ∧ (x.2.2.1 = 0 ∨ x.2.2.1 = 1) ∧ 0 ≤ x.1 ∧ x.1 ≤ x.2.2.2.last ∧ ∀ w H', Stp H H' → NumAt K C H' w (x.2.2.2.ofSteps x.1 x.2.2.1) → Q w H'
def spMoved (K : PySem.W.Frag) (C : Addr) : Sp := spF (fun x : V × Int × Nm => [x.1, .int x.2.1]) fun x H Q => NumAt K C H x.1 x.2.2 ∧ (x.2.1 = 1 ∨ x.2.1 = -1) ∧ ∀ w H', Stp H H' → NumAt K C H' w (movedN x.2.2 x.2.1) → Q w H'
def hvN (x : Int) (k : Nat) : Int := if x = 0 then 0 else x / 2 ^ (min (tz x) k)
def hvD (x : Int) (k : Nat) : Int := if x = 0 then 1 else 2 ^ (k - min (tz x) k)
def spHalved (K : PySem.W.Frag) : Sp := spF (fun x : Int × Nat => [.int x.1, .int x.2]) fun x H Q => x.2 ≤ 100000 ∧ ∀ w H', Stp H H' → TupAt K H' w [.int (hvN x.1 x.2), .int (hvD x.1 x.2)] → Q w H'
def spOrder : Sp := spF (fun x : Int × Int => [.int x.1, .int x.2]) fun x H Q => Q (.int (sgn x.1 x.2)) H
/-- Number(..): self, shape, sign, significand, exponent (None: the least) -/
def spInit (K : PySem.W.Frag) (C : Addr) : Sp := spF (fun x : Addr × Addr × V × Nm × Bool => [.ref x.1, x.2.2.1, .int x.2.2.2.1.s, .int x.2.2.2.1.m, if x.2.2.2.2 then .non else .int x.2.2.2.1.e]) fun x H Q =>
  H x.1 = some (.ins C x.2.1 []) ∧ ShAt K H x.2.2.1 x.2.2.2.1.S ∧ x.2.2.2.1.Ok ∧ x.2.2.2.1.st = 0 ∧ (x.2.2.2.2 = true → x.2.2.2.1.e = x.2.2.2.1.S.lo) ∧
    ∀ sh H', x.2.2.1 = .ref sh → (∀ b o, b ≠ x.1 → H b = some o → H' b = some o) → H' x.1 = some (.ins C x.2.1 (flds sh x.2.2.2.1)) → Q .non H'
end
theorem cx_K {CX : CXT} {P : Program} {w : World} {K : PySem.W.Frag} {mg : Str → Option Value} {base : Heap} {N : List Str} {qual : Str} {scope : Scope} {f : Addr} {cd : Value} {A : Around} {outer : List Env} {s : Shared} {H : Hp} {E : XK} :
    (cxOf CX P w K mg base N qual scope f cd A outer s H E).nox.K = K := rfl
theorem cx_K2 {CX : CXT} {P : Program} {w : World} {K : PySem.W.Frag} {mg : Str → Option Value} {base : Heap} {N : List Str} {qual : Str} {scope : Scope} {f : Addr} {cd : Value} {A : Around} {outer : List Env} {s : Shared} {H : Hp} {E : XK} :
    (cxOf CX P w K mg base N qual scope f cd A outer s H E).K = K := rfl
/-- a text of the module's own -/
structure GStr (mg : Str → Option Value) (x z : Str) : Prop where
  at_ : ∃ t, mg x = some (.str z t)
theorem we_gstr {X : Cx} {x z : Str} {pos : Pos} (G : GStr X.mg x z) (hg : Gl X x) (hd : (x == ("__debug__" : Str)) = false := by decide) : Wr (PE X (.Name x pos) (tC (.str z))) := by
  obtain ⟨t, e⟩ := G.at_
  exact we_glob hg e ⟨_, rfl⟩ hd
theorem we_gref {X : Cx} {x : Str} {a : Addr} {pos : Pos} (hg : Gl X x) (hm : X.mg x = some (.ref a)) (hd : (x == ("__debug__" : Str)) = false := by decide) : Wr (PE X (.Name x pos) (tC (.ref a))) := we_glob hg hm rfl hd
end L2

set_option Elab.async false
set_option linter.all false
set_option maxRecDepth 100000
namespace L2
open PySem PySem.Spec PyProof.Rows Dw
section
variable {K : PySem.W.Frag} {C : Addr} {H H0 H1 H' : Hp} {Q : VK} {E : XK} {σ : St} {D : Ends} {v w x : V} {n n' : Nm} {S S' : Sh}
def rIsN : R2 := fun x y H Q => y = .non ∧ Q (.bl (decide (x = .non))) H
def rNotN : R2 := fun x y H Q => y = .non ∧ Q (.bl (!decide (x = .non))) H
theorem op_isNM {X : Cx} : OpR X (compareOp .Is) rIsN := op_isN
/-- e.f = value -/
def rSFld (K : PySem.W.Frag) (f : Str) (y x : V) (H : Hp) (R : Hp → Prop) : Prop := ∃ a C dx fs, x = .ref a ∧ H a = some (.ins C dx fs) ∧ Cls K C ∧ NoAttr K C f ∧ fs.length < 1000 ∧ R (upd H a (.ins C dx (putF f y fs)))
def rMake (C : Addr) (sp : Sp) (gV : List V → List V → List V) (vs zs : List V) (H : Hp) (Q : VK) : Prop := ∀ x dx, H x = none → H dx = none → dx ≠ x →
  sp (gV (.ref x :: vs) zs) (upd (upd H dx (.own x)) x (.ins C dx [])) (fun v H3 => v = .non ∧ Q (.ref x) H3) E0
/-! ### shapes and pairs, equal or not -/
def rFdB : R2 := fun x y H Q => ∃ i j, x = .int i ∧ y = .int j ∧ CDivB i j ∧ Q (.int (i / j)) H
end
end L2

set_option Elab.async false
set_option linter.all false
set_option maxRecDepth 100000
/-! rounding to a whole number, by each way -/
namespace Dw
inductive Way where
  | near | away | zero | up | down
  deriving DecidableEq
def Way.other : Way → Way
  | .near => .near
  | .away => .away
  | .zero => .zero
  | .up => .down
  | .down => .up
/-- .. of its floor q and its rest r -/
def rndQ (w : Way) (n d q r : Int) : Int := match w with
  | .down => q
  | .up => if r = 0 then q else q + 1
  | .zero => if 0 ≤ n ∨ r = 0 then q else q + 1
  | .near => if 2 * r < d then q else if d < 2 * r then q + 1 else if q % 2 = 0 then q else q + 1
  | .away => if 2 * r < d then q else if d < 2 * r then q + 1 else if 0 < n then q + 1 else q
/-- n / d by a way, 0 < d -/
def rndZ (w : Way) (n d : Int) : Int := rndQ w n d (n / d) (n % d)
theorem dm {n d : Int} (h : 0 < d) : n = d * (n / d) + n % d ∧ 0 ≤ n % d ∧ n % d < d := ⟨(Int.mul_ediv_add_emod n d).symm, Int.emod_nonneg n (by omega), Int.emod_lt_of_pos n h⟩
theorem dm_uniq {n d q r : Int} (h : 0 < d) (e : n = d * q + r) (h0 : 0 ≤ r) (h1 : r < d) : n / d = q ∧ n % d = r := by
  subst e
  constructor
  · rw [Int.add_comm, Int.add_mul_ediv_left _ _ (by omega), Int.ediv_eq_zero_of_lt h0 h1, Int.zero_add]
  · rw [Int.add_comm, Int.add_mul_emod_self_left]
    exact Int.emod_eq_of_lt h0 h1
/-- what the law asks of a told one -/
def soZ (n d : Int) (w : Way) (t : Int) : Bool :=
  let o := t * d - n
  if o = 0 ∨ absI o ≥ d then decide (o = 0)
  else match w with
    | .down => decide (o < 0)
    | .up => !decide (o < 0)
    | .zero => decide (o < 0) == decide (n > 0)
    | .near => if 2 * absI o ≠ d then decide (2 * absI o < d) else decide (t % 2 = 0)
    | .away => if 2 * absI o ≠ d then decide (2 * absI o < d) else decide (o > 0) == decide (n > 0)
end Dw

set_option Elab.async false
set_option linter.all false
set_option maxRecDepth 100000
/-! values as data: what a def does, as a function of plain data -/
namespace L3
open PySem PySem.Spec PyProof.Rows L2
inductive D where
  | non | bl (b : Bool) | int (i : Int) | str (x : Str) | ty (n : String) | cls (c : Str)
  | tup (ds : List D) | lst (ds : List D) | dic (ks : List Key) (ds : List D) | ins (c : Str) (ks : List Str) (ds : List D) | mach
structure Gd where
  K : PySem.W.Frag
  CT : Str → Addr
/-- S: what never changes; mu: the drawing machines: each one, its cells, what is left -/
structure Wd where
  S : Hp
  mu : List (Addr × Addr × Addr)
mutual
def Rp (G : Gd) (W : Wd) : D → V → Prop
  | .non, v => v = .non
  | .bl b, v => v = .bl b
  | .int i, v => v = .int i
  | .str x, v => v = .str x
  | .ty n, v => v = .ty n
  | .cls c, v => v = .ref (G.CT c)
  | .tup ds, v => ∃ a vs, v = .ref a ∧ SqT G.K W.S a vs ∧ RpL G W ds vs
  | .lst ds, v => ∃ a vs, v = .ref a ∧ SqL G.K W.S a vs ∧ RpL G W ds vs
  | .dic ks ds, v => ∃ a vs, v = .ref a ∧ W.S a = some (.dK (ks.zip vs)) ∧ RpL G W ds vs
  | .ins c ks ds, v => ∃ a dx vs, v = .ref a ∧ W.S a = some (.ins (G.CT c) dx (ks.zip vs)) ∧ RpL G W ds vs
  | .mach, v => ∃ m c l, (m, c, l) ∈ W.mu ∧ v = .ref m
def RpL (G : Gd) (W : Wd) : List D → List V → Prop
  | [], vs => vs = []
  | d :: ds, vs => ∃ v us, vs = v :: us ∧ Rp G W d v ∧ RpL G W ds us
end
structure Wd.le (W W' : Wd) : Prop where
  s : Same W.S W'.S
  mu : ∀ x, x ∈ W.mu → x ∈ W'.mu
theorem Wd.le.refl (W : Wd) : W.le W := ⟨Same.refl _, fun _ h => h⟩
theorem Wd.le.trans {A B C : Wd} (a : A.le B) (b : B.le C) : A.le C := ⟨a.s.trans b.s, fun x h => b.mu x (a.mu x h)⟩
theorem sqT_mono {K : PySem.W.Frag} {H H' : Hp} (s : Same H H') {a : Addr} {xs : List V} (h : SqT K H a xs) : SqT K H' a xs := by
  rcases h with (h | ⟨o, h⟩) | h
  · exact .inl (.inl (s _ _ h))
  · exact .inl (.inr ⟨o, s _ _ h⟩)
  · exact .inr h
theorem sqL_mono {K : PySem.W.Frag} {H H' : Hp} (s : Same H H') {a : Addr} {xs : List V} (h : SqL K H a xs) : SqL K H' a xs := by
  rcases h with (h | ⟨o, h⟩) | h
  · exact .inl (.inl (s _ _ h))
  · exact .inl (.inr ⟨o, s _ _ h⟩)
  · exact .inr h
section
variable {G : Gd} {W W' : Wd}
mutual
theorem Rp.mono (s : W.le W') : ∀ (d : D) (v : V), Rp G W d v → Rp G W' d v
  | .non, _, h => h
  | .bl _, _, h => h
  | .int _, _, h => h
  | .str _, _, h => h
  | .ty _, _, h => h
  | .cls _, _, h => h
  | .tup ds, _, h => by
    simp only [Rp] at h ⊢
    obtain ⟨a, vs, e, h1, h2⟩ := h
    exact ⟨a, vs, e, sqT_mono s.s h1, RpL.mono s ds vs h2⟩
  | .lst ds, _, h => by
    simp only [Rp] at h ⊢
    obtain ⟨a, vs, e, h1, h2⟩ := h
    exact ⟨a, vs, e, sqL_mono s.s h1, RpL.mono s ds vs h2⟩
  | .dic ks ds, _, h => by
    simp only [Rp] at h ⊢
    obtain ⟨a, vs, e, h1, h2⟩ := h
    exact ⟨a, vs, e, s.s _ _ h1, RpL.mono s ds vs h2⟩
  | .ins c ks ds, _, h => by
    simp only [Rp] at h ⊢
    obtain ⟨a, dx, vs, e, h1, h2⟩ := h
    exact ⟨a, dx, vs, e, s.s _ _ h1, RpL.mono s ds vs h2⟩
  | .mach, _, h => by
    simp only [Rp] at h ⊢
    obtain ⟨m, c, l, h1, h2⟩ := h
    exact ⟨m, c, l, s.mu _ h1, h2⟩
theorem RpL.mono (s : W.le W') : ∀ (ds : List D) (vs : List V), RpL G W ds vs → RpL G W' ds vs
  | [], _, h => h
  | d :: ds, _, h => by
    simp only [RpL] at h ⊢
    obtain ⟨v, us, e, h1, h2⟩ := h
    exact ⟨v, us, e, Rp.mono s d v h1, RpL.mono s ds us h2⟩
end
theorem RpL.cons {d : D} {ds : List D} {v : V} {vs : List V} (a : Rp G W d v) (b : RpL G W ds vs) : RpL G W (d :: ds) (v :: vs) := by
  simp only [RpL]
  exact ⟨v, vs, rfl, a, b⟩
theorem RpL.nil : RpL G W [] [] := by simp only [RpL]
theorem RpL.length : ∀ {ds : List D} {vs : List V}, RpL G W ds vs → ds.length = vs.length
  | [], _, h => by simp only [RpL] at h; subst h; rfl
  | d :: ds, _, h => by
    simp only [RpL] at h
    obtain ⟨v, us, rfl, _, h2⟩ := h
    rw [List.length_cons, List.length_cons, RpL.length h2]
theorem RpL.get : ∀ {ds : List D} {vs : List V} {i : Nat} {d : D}, RpL G W ds vs → ds[i]? = some d → ∃ v, vs[i]? = some v ∧ Rp G W d v
  | [], _, _, _, _, e => by simp at e
  | x :: ds, _, 0, d, h, e => by
    simp only [RpL] at h
    obtain ⟨v, us, rfl, h1, _⟩ := h
    simp at e
    subst e
    exact ⟨v, rfl, h1⟩
  | x :: ds, _, i + 1, d, h, e => by
    simp only [RpL] at h
    obtain ⟨v, us, rfl, _, h2⟩ := h
    obtain ⟨u, h3, h4⟩ := RpL.get (i := i) (d := d) h2 (by simpa using e)
    exact ⟨u, by simpa using h3, h4⟩
end
/-! ### what is done: an answer, an exception, or a draw and what comes of each -/
inductive Tr (α : Type) where
  | ret (a : α) | exc (e : D) | fail | draw (t : Int) (k : Int → Tr α)
namespace Tr
variable {α β γ : Type}
def bind : Tr α → (α → Tr β) → Tr β
  | ret a, f => f a
  | exc e, _ => exc e
  | fail, _ => fail
  | draw t k, f => draw t fun r => bind (k r) f
def al (E : D → Nat → Prop) (P : α → Nat → Prop) : Tr α → Nat → Prop
  | ret a, n => P a n
  | exc e, n => E e n
  | fail, _ => False
  | draw t k, n => ∃ m, n = m + 1 ∧ 0 < t ∧ t < 1073741824 ∧ ∀ r, 0 ≤ r → r < t → al E P (k r) m
theorem al_bind {E : D → Nat → Prop} {P : β → Nat → Prop} {f : α → Tr β} : ∀ (x : Tr α) (n : Nat), (bind x f).al E P n ↔ x.al E (fun a m => (f a).al E P m) n
  | ret _, _ => Iff.rfl
  | exc _, _ => Iff.rfl
  | fail, _ => Iff.rfl
  | draw t k, n => by
    simp only [bind, al]
    constructor
    · rintro ⟨m, e, h0, h1, h⟩
      exact ⟨m, e, h0, h1, fun r a b => (al_bind (k r) m).mp (h r a b)⟩
    · rintro ⟨m, e, h0, h1, h⟩
      exact ⟨m, e, h0, h1, fun r a b => (al_bind (k r) m).mpr (h r a b)⟩
theorem al_mono {E E' : D → Nat → Prop} {P P' : α → Nat → Prop} (he : ∀ e m, E e m → E' e m) (hp : ∀ a m, P a m → P' a m) : ∀ (x : Tr α) (n : Nat), x.al E P n → x.al E' P' n
  | ret a, n, h => hp a n h
  | exc e, n, h => he e n h
  | fail, _, h => h
  | draw t k, n, ⟨m, e, h0, h1, h⟩ => ⟨m, e, h0, h1, fun r a b => al_mono he hp (k r) m (h r a b)⟩
theorem bind_ret (a : α) (f : α → Tr β) : bind (ret a) f = f a := rfl
theorem bind_fail (f : α → Tr β) : bind fail f = fail := rfl
theorem bind_exc (e : D) (f : α → Tr β) : bind (exc e) f = exc e := rfl
theorem bind_assoc (f : α → Tr β) (g : β → Tr γ) : ∀ x : Tr α, bind (bind x f) g = bind x fun a => bind (f a) g
  | ret _ => rfl
  | exc _ => rfl
  | fail => rfl
  | draw t k => by simp only [bind]; congr 1; funext r; exact bind_assoc f g (k r)
theorem bind_ite (c : Prop) [Decidable c] (x y : Tr α) (f : α → Tr β) : bind (if c then x else y) f = if c then bind x f else bind y f := by split <;> rfl
end Tr
/-! ### the drawing machine -/
def LIM : Nat := 2 ^ 30
def mkv (c l : Addr) (k : Int) : List (Key × V) := [(.inr "cells", .ref c), (.inr "left", .ref l), (.inr "next", .int k)]
def Cells (cs : List Int) : Prop := cs.length = 64 ∧ ∀ x ∈ cs, 0 ≤ x ∧ x < 2147483648
structure MOk (H : Hp) (m c l : Addr) (N : Nat) : Prop where
  ex : ∃ (k : Nat) (cs ls : List Int), k + N ≤ LIM ∧ H m = some (.dK (mkv c l k)) ∧ H c = some (.lst (cs.map V.int)) ∧ Cells cs ∧ H l = some (.lst (ls.map V.int)) ∧ ls.length ≤ 63
  ne : c ≠ l
structure Wk (W : Wd) (H : Hp) (N : Nat) : Prop where
  s : Same W.S H
  m : ∀ m c l, (m, c, l) ∈ W.mu → MOk H m c l N ∧ W.S m = none ∧ W.S c = none ∧ W.S l = none
  d : ∀ m c l m' c' l', (m, c, l) ∈ W.mu → (m', c', l') ∈ W.mu → (m, c, l) ≠ (m', c', l') → m ≠ m' ∧ m ≠ c' ∧ m ≠ l' ∧ l ≠ m' ∧ l ≠ c' ∧ l ≠ l'
  n : N ≤ LIM
/-- from one state to a later one; io: an object that may have changed -/
structure Adv (io : Option Addr) (W : Wd) (H : Hp) (W' : Wd) (H' : Hp) : Prop where
  le : W.le W'
  keep : ∀ b o, H b = some o → (∀ m c l, (m, c, l) ∈ W.mu → b ≠ m ∧ b ≠ l) → some b ≠ io → H' b = some o
  new : ∀ b, W.S b = none → H b ≠ none → W'.S b = none
  mnew : ∀ m c l, (m, c, l) ∈ W'.mu → (m, c, l) ∈ W.mu ∨ (H m = none ∧ H c = none ∧ H l = none)
theorem Adv.refl (io : Option Addr) (W : Wd) (H : Hp) : Adv io W H W H := ⟨.refl W, fun _ _ e _ _ => e, fun _ h _ => h, fun m c l h => .inl h⟩
theorem Adv.weak {io : Option Addr} {W W' : Wd} {H H' : Hp} (a : Adv none W H W' H') : Adv io W H W' H' := ⟨a.le, fun b o e h _ => a.keep b o e h (by simp), a.new, a.mnew⟩
theorem Adv.there {io : Option Addr} {W W' : Wd} {H H' : Hp} {N : Nat} (a : Adv io W H W' H') (k : Wk W' H' N) (hio : ∀ x, io = some x → H' x ≠ none) {b : Addr} (hb : H b ≠ none) : H' b ≠ none := by
  obtain ⟨o, e⟩ := Option.ne_none_iff_exists'.mp hb
  by_cases h : some b = io
  · exact hio b h.symm
  · by_cases hm : ∃ m c l, (m, c, l) ∈ W.mu ∧ (b = m ∨ b = l)
    · obtain ⟨m, c, l, hx, hb⟩ := hm
      obtain ⟨⟨⟨k, cs, ls, _, h1, h2, _, h3, _⟩, _⟩, _⟩ := k.m m c l (a.le.mu _ hx)
      rcases hb with rfl | rfl
      · rw [h1]; simp
      · rw [h3]; simp
    · rw [a.keep b o e (fun m c l z => ⟨fun y => hm ⟨m, c, l, z, .inl y⟩, fun y => hm ⟨m, c, l, z, .inr y⟩⟩) h]; simp
theorem Adv.trans {io : Option Addr} {W W1 W2 : Wd} {H H1 H2 : Hp} {N : Nat} (a : Adv io W H W1 H1) (b : Adv io W1 H1 W2 H2) (k : Wk W1 H1 N) (hio : ∀ x, io = some x → H1 x ≠ none) : Adv io W H W2 H2 := by
  refine ⟨a.le.trans b.le, fun x o e h hx => ?_, fun x h hx => b.new x (a.new x h hx) (a.there k hio hx), fun m c l h => ?_⟩
  · refine b.keep x o (a.keep x o e h hx) (fun m c l z => ?_) hx
    rcases a.mnew m c l z with z | ⟨h1, h2, h3⟩
    · exact h m c l z
    · exact ⟨ne_of_none e h1, ne_of_none e h3⟩
  · have go : ∀ x, H1 x = none → H x = none := fun x hx => by
      cases q : H x with
      | none => rfl
      | some o => exact absurd hx (a.there k hio (by rw [q]; simp))
    rcases b.mnew m c l h with z | ⟨h1, h2, h3⟩
    · exact a.mnew m c l z
    · exact .inr ⟨go _ h1, go _ h2, go _ h3⟩
end L3

set_option Elab.async false
set_option linter.all false
set_option maxRecDepth 100000
namespace L3
open PySem PySem.Spec L2
/-- what a local holds: a thing that never changes; a list or an object of its own -/
inductive Sl where
  | sh (d : D) | ol (ds : List D) | oi (c : Str) (ks : List Str) (ds : List D)
def Sl.own : Sl → Bool
  | .sh _ => false
  | _ => true
abbrev DSt := List (Option Sl)
def RSl (G : Gd) (W : Wd) (H : Hp) (v : V) : Sl → Prop
  | .sh d => Rp G W d v
  | .ol ds => ∃ a vs, v = .ref a ∧ H a = some (.lst vs) ∧ W.S a = none ∧ RpL G W ds vs
  | .oi c ks ds => ∃ a dx vs, v = .ref a ∧ H a = some (.ins (G.CT c) dx (ks.zip vs)) ∧ W.S a = none ∧ RpL G W ds vs
/-- the state at a def's entry; io: the object that it may change -/
structure En where
  W : Wd
  H : Hp
  io : Option Addr
structure Fm (G : Gd) (E : En) (W : Wd) (H : Hp) (N : Nat) (σ : St) (σd : DSt) : Prop where
  wk : Wk W H N
  ent : Adv E.io E.W E.H W H
  ioT : ∀ x, E.io = some x → H x ≠ none
  len : σd.length = σ.length
  sl : ∀ (i : Nat) (s : Sl), σd[i]? = some (some s) → ∃ v, σ[i]? = some (some v) ∧ RSl G W H v s
  ne : ∀ (i j : Nat) (s s' : Sl) (v : V), i ≠ j → σd[i]? = some (some s) → σd[j]? = some (some s') → s.own = true → s'.own = true → σ[i]? = some (some v) → σ[j]? ≠ some (some v)
  fr : ∀ (i : Nat) (s : Sl) (a : Addr), σd[i]? = some (some s) → s.own = true → σ[i]? = some (some (.ref a)) → (E.H a = none ∨ (E.io = some a ∧ i = 0)) ∧ ∀ m c l, (m, c, l) ∈ W.mu → a ≠ m ∧ a ≠ c ∧ a ≠ l
  io0 : ∀ (x : Addr) (s : Sl), E.io = some x → σd[0]? = some (some s) → s.own = true → σ[0]? = some (some (.ref x))
section
variable {G : Gd} {E : En} {W W' : Wd} {H H' : Hp} {N M : Nat} {σ : St} {σd : DSt}
/-- behind an expression -/
theorem Fm.adv (F : Fm G E W H N σ σd) (a : Adv none W H W' H') (k : Wk W' H' M) : Fm G E W' H' M σ σd := by
  have ioT : ∀ x, E.io = some x → H' x ≠ none := fun x hx => a.there k (fun _ z => nomatch z) (F.ioT x hx)
  refine ⟨k, F.ent.trans a.weak F.wk F.ioT, ioT, F.len, fun i s e => ?_, F.ne, fun i s x e o e2 => ⟨(F.fr i s x e o e2).1, fun m c l z => ?_⟩, F.io0⟩
  · obtain ⟨v, e1, r⟩ := F.sl i s e
    refine ⟨v, e1, ?_⟩
    cases s with
    | sh d => exact Rp.mono a.le d v r
    | ol ds =>
      obtain ⟨x, vs, rfl, h1, h2, h3⟩ := r
      have hm : ∀ m c l, (m, c, l) ∈ W.mu → x ≠ m ∧ x ≠ l := fun m c l z => ⟨((F.fr i _ x e rfl e1).2 m c l z).1, ((F.fr i _ x e rfl e1).2 m c l z).2.2⟩
      exact ⟨x, vs, rfl, a.keep x _ h1 hm (by simp), a.new x h2 (by rw [h1]; simp), RpL.mono a.le ds vs h3⟩
    | oi c ks ds =>
      obtain ⟨x, dx, vs, rfl, h1, h2, h3⟩ := r
      have hm : ∀ m c l, (m, c, l) ∈ W.mu → x ≠ m ∧ x ≠ l := fun m c l z => ⟨((F.fr i _ x e rfl e1).2 m c l z).1, ((F.fr i _ x e rfl e1).2 m c l z).2.2⟩
      exact ⟨x, dx, vs, rfl, a.keep x _ h1 hm (by simp), a.new x h2 (by rw [h1]; simp), RpL.mono a.le ds vs h3⟩
  · rcases a.mnew m c l z with z | ⟨h1, h2, h3⟩
    · exact (F.fr i s x e o e2).2 m c l z
    · obtain ⟨v, e1, r⟩ := F.sl i s e
      rw [e2] at e1
      cases e1
      have hx : H x ≠ none := by
        cases s with
        | sh d => cases o
        | ol ds => obtain ⟨y, vs, e3, h1, _⟩ := r; cases e3; rw [h1]; simp
        | oi c ks ds => obtain ⟨y, dx, vs, e3, h1, _⟩ := r; cases e3; rw [h1]; simp
      exact ⟨fun z => hx (by rw [z]; exact h1), fun z => hx (by rw [z]; exact h2), fun z => hx (by rw [z]; exact h3)⟩
end
def no (_ : D) (_ : Nat) : Prop := False
/-! ### readings -/
abbrev FE := DSt → Tr D
abbrev FT := DSt → Tr Bool
abbrev FA := DSt → Tr (List D)
inductive Fl where
  | nx (σ : DSt) | rt (d : D) | bk (σ : DSt) | ct (σ : DSt)
abbrev FS := DSt → Tr Fl
def tE (G : Gd) (E : En) (f : FE) : TE := fun σ H Q => ∃ W N σd, Fm G E W H N σ σd ∧ (f σd).al no (fun d m => ∀ v W' H', Adv none W H W' H' → Wk W' H' m → Rp G W' d v → Q v H') N
def tT (G : Gd) (E : En) (f : FT) : TT := fun σ H Q => ∃ W N σd, Fm G E W H N σ σd ∧ (f σd).al no (fun b m => ∀ W' H', Adv none W H W' H' → Wk W' H' m → Q b H') N
def tA (G : Gd) (E : En) (n : Nat) (f : FA) : TA := fun σ H Q => ∃ W N σd, Fm G E W H N σ σd ∧ (f σd).al no (fun ds m => ∀ vs W' H', ds.length = n → Adv none W H W' H' → Wk W' H' m → RpL G W' ds vs → Q vs H') N
def okFl (G : Gd) (E : En) (W : Wd) (Dn : Ends) (r : Fl) (m : Nat) : Prop := match r with
  | .nx σd' => ∀ σ' W' H', W.le W' → Fm G E W' H' m σ' σd' → Dn.nx σ' H'
  | .rt d => ∀ v W' H', Adv E.io E.W E.H W' H' → (∀ x, E.io = some x → H' x ≠ none) → Wk W' H' m → Rp G W' d v → Dn.rt v H'
  | .bk σd' => ∀ σ' W' H', W.le W' → Fm G E W' H' m σ' σd' → Dn.bk σ' H'
  | .ct σd' => ∀ σ' W' H', W.le W' → Fm G E W' H' m σ' σd' → Dn.ct σ' H'
def tS (G : Gd) (E : En) (f : FS) : TS := fun Dn σ H => ∃ W N σd, Fm G E W H N σ σd ∧ (f σd).al no (okFl G E W Dn) N
theorem okFl.le {G : Gd} {E : En} {W W' : Wd} {Dn : Ends} {r : Fl} {m : Nat} (h : okFl G E W Dn r m) (l : W.le W') : okFl G E W' Dn r m := by
  cases r with
  | nx σd => exact fun σ' W'' H' l' => h σ' W'' H' (l.trans l')
  | rt d => exact h
  | bk σd => exact fun σ' W'' H' l' => h σ' W'' H' (l.trans l')
  | ct σd => exact fun σ' W'' H' l' => h σ' W'' H' (l.trans l')
section
variable {X : Cx}
theorem PE.imp {e : Expr} {t t' : TE} (h : PE X e t) (i : ∀ σ H Q, t' σ H Q → t σ H Q) : PE X e t' := fun pins s σ H Q I q => h pins s σ H Q I (i σ H Q q)
theorem PT.imp {e : Expr} {t t' : TT} (h : PT X e t) (i : ∀ σ H Q, t' σ H Q → t σ H Q) : PT X e t' := fun pins s σ H Q I q => h pins s σ H Q I (i σ H Q q)
theorem PW.imp {e : Expr} {t t' : TT} (h : PW X e t) (i : ∀ σ H Q, t' σ H Q → t σ H Q) : PW X e t' := fun whole pins s σ H Q I q => h whole pins s σ H Q I (i σ H Q q)
theorem PA.imp {e : List Expr} {t t' : TA} (h : PA X e t) (i : ∀ σ H Q, t' σ H Q → t σ H Q) : PA X e t' := fun pos pins s σ H Q I q => h pos pins s σ H Q I (i σ H Q q)
theorem PK.imp {e : List Keyword} {t t' : TA} (h : PK X e t) (i : ∀ σ H Q, t' σ H Q → t σ H Q) : PK X e t' := fun pos pins s σ H Q I q => h pos pins s σ H Q I (i σ H Q q)
theorem PS.imp {st : Stmt} {t t' : TS} (h : PS X st t) (i : ∀ D σ H, t' D σ H → t D σ H) : PS X st t' := fun pins s σ H D I q => h pins s σ H D I (i D σ H q)
theorem PSs.imp {st : List Stmt} {t t' : TS} (h : PSs X st t) (i : ∀ D σ H, t' D σ H → t D σ H) : PSs X st t' := fun pins s σ H D I q => h pins s σ H D I (i D σ H q)
end
/-- where a def's body runs: what stays the same over it -/
structure Bd where
  X : Cx
  G : Gd
  E : En
  hK : X.K = G.K
abbrev Bd.w (B : Bd) (E : Value → Shared → Prop) : Cx := B.X.wish E
@[irreducible] def DE (X : Cx) (G : Gd) (e : Expr) (f : FE) : Prop := ∀ E, PE X e (tE G E f)
@[irreducible] def DT (X : Cx) (G : Gd) (e : Expr) (f : FT) : Prop := ∀ E, PT X e (tT G E f)
@[irreducible] def DW (X : Cx) (G : Gd) (e : Expr) (f : FT) : Prop := ∀ E, PW X e (tT G E f)
@[irreducible] def DA (X : Cx) (G : Gd) (es : List Expr) (f : FA) : Prop := ∀ E, PA X es (tA G E es.length f)
@[irreducible] def DK (X : Cx) (G : Gd) (es : List Keyword) (f : FA) : Prop := ∀ E, PK X es (tA G E es.length f)
@[irreducible] def DS (X : Cx) (G : Gd) (st : Stmt) (f : FS) : Prop := ∀ E, PS X st (tS G E f)
@[irreducible] def DSs (X : Cx) (G : Gd) (st : List Stmt) (f : FS) : Prop := ∀ E, PSs X st (tS G E f)
section
variable {X : Cx} {G : Gd}
theorem DE.mk {e : Expr} {f : FE} (h : ∀ E, PE X e (tE G E f)) : DE X G e f := by unfold DE; exact h
theorem DE.un {e : Expr} {f : FE} (h : DE X G e f) : ∀ E, PE X e (tE G E f) := by unfold DE at h; exact h
theorem DT.mk {e : Expr} {f : FT} (h : ∀ E, PT X e (tT G E f)) : DT X G e f := by unfold DT; exact h
theorem DT.un {e : Expr} {f : FT} (h : DT X G e f) : ∀ E, PT X e (tT G E f) := by unfold DT at h; exact h
theorem DW.mk {e : Expr} {f : FT} (h : ∀ E, PW X e (tT G E f)) : DW X G e f := by unfold DW; exact h
theorem DW.un {e : Expr} {f : FT} (h : DW X G e f) : ∀ E, PW X e (tT G E f) := by unfold DW at h; exact h
theorem DA.mk {e : List Expr} {f : FA} (h : ∀ E, PA X e (tA G E e.length f)) : DA X G e f := by unfold DA; exact h
theorem DA.un {e : List Expr} {f : FA} (h : DA X G e f) : ∀ E, PA X e (tA G E e.length f) := by unfold DA at h; exact h
theorem DK.mk {e : List Keyword} {f : FA} (h : ∀ E, PK X e (tA G E e.length f)) : DK X G e f := by unfold DK; exact h
theorem DK.un {e : List Keyword} {f : FA} (h : DK X G e f) : ∀ E, PK X e (tA G E e.length f) := by unfold DK at h; exact h
theorem DS.mk {st : Stmt} {f : FS} (h : ∀ E, PS X st (tS G E f)) : DS X G st f := by unfold DS; exact h
theorem DS.un {st : Stmt} {f : FS} (h : DS X G st f) : ∀ E, PS X st (tS G E f) := by unfold DS at h; exact h
theorem DSs.mk {st : List Stmt} {f : FS} (h : ∀ E, PSs X st (tS G E f)) : DSs X G st f := by unfold DSs; exact h
theorem DSs.un {st : List Stmt} {f : FS} (h : DSs X G st f) : ∀ E, PSs X st (tS G E f) := by unfold DSs at h; exact h
end
/-! ### names, constants, operators -/
def fVar (i : Nat) : FE := fun σ => match σ[i]? with
  | some (some (.sh d)) => .ret d
  | _ => .fail
def fC (d : D) : FE := fun _ => .ret d
def fOp (g : D → D → Tr D) (a b : FE) : FE := fun σ => (a σ).bind fun x => (b σ).bind fun y => g x y
def fUn (g : D → Tr D) (a : FE) : FE := fun σ => (a σ).bind g
/-- an operation on values keeps to one on data -/
def OpD (G : Gd) (r : R2) (g : D → D → Tr D) : Prop := ∀ (x y : D) (W : Wd) (H : Hp) (N : Nat) (v u : V) (Q : VK), Wk W H N → Rp G W x v → Rp G W y u →
  (g x y).al no (fun d m => ∀ v' W' H', Adv none W H W' H' → Wk W' H' m → Rp G W' d v' → Q v' H') N → r v u H Q
def UnD (G : Gd) (r : V → Hp → VK → Prop) (g : D → Tr D) : Prop := ∀ (x : D) (W : Wd) (H : Hp) (N : Nat) (v : V) (Q : VK), Wk W H N → Rp G W x v →
  (g x).al no (fun d m => ∀ v' W' H', Adv none W H W' H' → Wk W' H' m → Rp G W' d v' → Q v' H') N → r v H Q
def ArD (G : Gd) (r : List V → Hp → VK → Prop) (g : List D → Tr D) : Prop := ∀ (xs : List D) (W : Wd) (H : Hp) (N : Nat) (vs : List V) (Q : VK), Wk W H N → RpL G W xs vs →
  (g xs).al no (fun d m => ∀ v' W' H', Adv none W H W' H' → Wk W' H' m → Rp G W' d v' → Q v' H') N → r vs H Q
section
variable {X : Cx} {G : Gd} {a b c e o : Expr} {es rest : List Expr} {pos p apos cpos : Pos}
theorem Adv.tr {W W1 W2 : Wd} {H H1 H2 : Hp} {N : Nat} (a : Adv none W H W1 H1) (k : Wk W1 H1 N) (b : Adv none W1 H1 W2 H2) : Adv none W H W2 H2 := a.trans b k (fun _ z => nomatch z)
theorem de_var (i : Nat) {x : Str} (h : Wr (PE X (.Name x pos) (tVar i))) : DE X G (.Name x pos) (fVar i) := .mk fun E => PE.imp h.un fun σ H Q ⟨W, N, σd, F, q⟩ => by
  unfold fVar at q
  split at q
  · rename_i d e
    obtain ⟨v, e1, r⟩ := F.sl i _ e
    exact ⟨v, e1, q v W H (.refl _ _ _) F.wk r⟩
  · exact q.elim
theorem de_c {v : V} {d : D} (h : Wr (PE X e (tC v))) (r : ∀ W, Rp G W d v) : DE X G e (fC d) := .mk fun E => PE.imp h.un fun σ H Q ⟨W, N, σd, F, q⟩ => q v W H (.refl _ _ _) F.wk (r W)
theorem de_int {i : Int} {j} : DE X G (.Constant (.int i) j pos) (fC (.int i)) := de_c we_int fun _ => by simp only [Rp]
theorem de_bl {i : Bool} {j} : DE X G (.Constant (.bool i) j pos) (fC (.bl i)) := de_c we_bl fun _ => by simp only [Rp]
theorem de_str {i : Str} {j} : DE X G (.Constant (.str i) j pos) (fC (.str i)) := de_c we_str fun _ => by simp only [Rp]
theorem de_non {j} : DE X G (.Constant .none j pos) (fC .non) := de_c we_non fun _ => by simp only [Rp]
theorem de_op {op : Operator} {r : R2} {g : D → D → Tr D} {fa fb : FE} (ho : OpR X (binaryOp op) r) (hd : OpD G r g) (ha : DE X G a fa) (hb : DE X G b fb) : DE X G (.BinOp a op b pos) (fOp g fa fb) := .mk fun E =>
  PE.imp (pe_op ho (ha.un E) (hb.un E)) fun σ H Q ⟨W, N, σd, F, q⟩ => by
    refine ⟨W, N, σd, F, Tr.al_mono (fun _ _ z => z) (fun x m h v W1 H1 a1 k1 r1 => ?_) _ _ ((Tr.al_bind _ _).mp q)⟩
    refine ⟨W1, m, σd, F.adv a1 k1, Tr.al_mono (fun _ _ z => z) (fun y m2 h2 u W2 H2 a2 k2 r2 => ?_) _ _ ((Tr.al_bind _ _).mp h)⟩
    refine hd x y W2 H2 m2 v u Q k2 (Rp.mono a2.le _ _ r1) r2 (Tr.al_mono (fun _ _ z => z) (fun d m3 h3 v' W3 H3 a3 k3 r3 => ?_) _ _ h2)
    exact h3 v' W3 H3 (a1.tr k1 (a2.tr k2 a3)) k3 r3
theorem de_cmp {op : CmpOp} {r : R2} {g : D → D → Tr D} {fa fb : FE} (ho : OpR X (compareOp op) r) (hd : OpD G r g) (ha : DE X G a fa) (hb : DE X G b fb) (hm : behindInMarks op b = false) : DE X G (.Compare a [op] [b] pos) (fOp g fa fb) := .mk fun E =>
  PE.imp (pe_cmpR ho (ha.un E) (hb.un E) hm) fun σ H Q ⟨W, N, σd, F, q⟩ => by
    refine ⟨W, N, σd, F, Tr.al_mono (fun _ _ z => z) (fun x m h v W1 H1 a1 k1 r1 => ?_) _ _ ((Tr.al_bind _ _).mp q)⟩
    refine ⟨W1, m, σd, F.adv a1 k1, Tr.al_mono (fun _ _ z => z) (fun y m2 h2 u W2 H2 a2 k2 r2 => ?_) _ _ ((Tr.al_bind _ _).mp h)⟩
    refine hd x y W2 H2 m2 v u Q k2 (Rp.mono a2.le _ _ r1) r2 (Tr.al_mono (fun _ _ z => z) (fun d m3 h3 v' W3 H3 a3 k3 r3 => ?_) _ _ h2)
    exact h3 v' W3 H3 (a1.tr k1 (a2.tr k2 a3)) k3 r3
theorem de_un {op : UnaryOp} {r : V → Hp → VK → Prop} {g : D → Tr D} {fa : FE} (ho : UnR X (unaryOp op) r) (hd : UnD G r g) (ha : DE X G a fa) : DE X G (.UnaryOp op a pos) (fUn g fa) := .mk fun E =>
  PE.imp (pe_un ho (ha.un E)) fun σ H Q ⟨W, N, σd, F, q⟩ => by
    refine ⟨W, N, σd, F, Tr.al_mono (fun _ _ z => z) (fun x m h v W1 H1 a1 k1 r1 => ?_) _ _ ((Tr.al_bind _ _).mp q)⟩
    exact hd x W1 H1 m v Q k1 r1 (Tr.al_mono (fun _ _ z => z) (fun d m3 h3 v' W3 H3 a3 k3 r3 => h3 v' W3 H3 (a1.tr k1 a3) k3 r3) _ _ h)
/-! ### tests -/
def fTst (f : FE) : FT := fun σ => (f σ).bind fun d => match d with
  | .bl b => .ret b
  | _ => .fail
def fNot (f : FT) : FT := fun σ => (f σ).bind fun b => .ret (!b)
def fAnd (f g : FT) : FT := fun σ => (f σ).bind fun b => if b = true then g σ else .ret false
def fOr (f g : FT) : FT := fun σ => (f σ).bind fun b => if b = true then .ret true else g σ
def fNotV (f : FE) : FE := fun σ => (f σ).bind fun d => match d with
  | .bl b => .ret (.bl (!b))
  | _ => .fail
def fAndV (f g : FE) : FE := fun σ => (f σ).bind fun d => match d with
  | .bl b => if b = true then g σ else .ret (.bl false)
  | _ => .fail
def fOrV (f g : FE) : FE := fun σ => (f σ).bind fun d => match d with
  | .bl b => if b = true then .ret (.bl true) else g σ
  | _ => .fail
def fIf (c : FT) (f g : FE) : FE := fun σ => (c σ).bind fun b => if b = true then f σ else g σ
theorem dt_val {f : FE} (h : DE X G e f) (he : ∀ whole, isTrue e X.env whole = (do let v ← whole; standAt e.pos; holding [v] (truthy v)) := by intro _; rfl) : DT X G e (fTst f) := .mk fun E =>
  PT.imp (pt_val (h.un E) he) fun σ H Q ⟨W, N, σd, F, q⟩ => by
    refine ⟨W, N, σd, F, Tr.al_mono (fun _ _ z => z) (fun x m h v W1 H1 a1 k1 r1 => ?_) _ _ ((Tr.al_bind _ _).mp q)⟩
    cases x with
    | bl b => simp only [Rp] at r1; exact ⟨b, r1, h W1 H1 a1 k1⟩
    | _ => exact h.elim
theorem dt_cmp {op : CmpOp} {r : R2} {g : D → D → Tr D} {fa fb : FE} (ho : OpR X (compareOp op) r) (hd : OpD G r g) (ha : DE X G a fa) (hb : DE X G b fb) (hm : behindInMarks op b = false) : DT X G (.Compare a [op] [b] pos) (fTst (fOp g fa fb)) := .mk fun E =>
  PT.imp (pt_cmpR ho (ha.un E) (hb.un E) hm) fun σ H Q ⟨W, N, σd, F, q⟩ => by
    refine ⟨W, N, σd, F, Tr.al_mono (fun _ _ z => z) (fun x m h v W1 H1 a1 k1 r1 => ?_) _ _ ((Tr.al_bind _ _).mp ((Tr.al_bind _ _).mp q))⟩
    refine ⟨W1, m, σd, F.adv a1 k1, Tr.al_mono (fun _ _ z => z) (fun y m2 h2 u W2 H2 a2 k2 r2 => ?_) _ _ ((Tr.al_bind _ _).mp h)⟩
    refine hd x y W2 H2 m2 v u _ k2 (Rp.mono a2.le _ _ r1) r2 (Tr.al_mono (fun _ _ z => z) (fun d m3 h3 v' W3 H3 a3 k3 r3 => ?_) _ _ h2)
    cases d with
    | bl b => simp only [Rp] at r3; exact ⟨b, r3, h3 W3 H3 (a1.tr k1 (a2.tr k2 a3)) k3⟩
    | _ => exact h3.elim
theorem dt_not {f : FT} (h : DT X G a f) : DT X G (.UnaryOp .Not a pos) (fNot f) := .mk fun E =>
  PT.imp (pt_not (h.un E)) fun σ H Q ⟨W, N, σd, F, q⟩ => ⟨W, N, σd, F, (Tr.al_bind _ _).mp q⟩
theorem dw_and {f g : FT} (ha : DT X G a f) (hb : DW X G (.BoolOp .And (b :: rest) pos) g) : DW X G (.BoolOp .And (a :: b :: rest) pos) (fAnd f g) := .mk fun E =>
  PW.imp (pw_and (ha.un E) (hb.un E)) fun σ H Q ⟨W, N, σd, F, q⟩ => by
    refine ⟨W, N, σd, F, Tr.al_mono (fun _ _ z => z) (fun x m h W1 H1 a1 k1 => ?_) _ _ ((Tr.al_bind _ _).mp q)⟩
    cases x with
    | true => exact ⟨W1, m, σd, F.adv a1 k1, Tr.al_mono (fun _ _ z => z) (fun y m2 h2 W2 H2 a2 k2 => h2 W2 H2 (a1.tr k1 a2) k2) _ _ h⟩
    | false => exact h W1 H1 a1 k1
theorem dw_and1 {f : FT} (h : DT X G a f) : DW X G (.BoolOp .And [a] pos) f := .mk fun E => pw_and1 (h.un E)
theorem dw_or {f g : FT} (ha : DT X G a f) (hb : DW X G (.BoolOp .Or (b :: rest) pos) g) : DW X G (.BoolOp .Or (a :: b :: rest) pos) (fOr f g) := .mk fun E =>
  PW.imp (pw_or (ha.un E) (hb.un E)) fun σ H Q ⟨W, N, σd, F, q⟩ => by
    refine ⟨W, N, σd, F, Tr.al_mono (fun _ _ z => z) (fun x m h W1 H1 a1 k1 => ?_) _ _ ((Tr.al_bind _ _).mp q)⟩
    cases x with
    | false => exact ⟨W1, m, σd, F.adv a1 k1, Tr.al_mono (fun _ _ z => z) (fun y m2 h2 W2 H2 a2 k2 => h2 W2 H2 (a1.tr k1 a2) k2) _ _ h⟩
    | true => exact h W1 H1 a1 k1
theorem dw_or1 {f : FT} (h : DT X G a f) : DW X G (.BoolOp .Or [a] pos) f := .mk fun E => pw_or1 (h.un E)
theorem dt_w {f : FT} (h : DW X G e f) : DT X G e f := .mk fun E => PW.pt (h.un E)
theorem de_not {f : FE} (h : DE X G a f) : DE X G (.UnaryOp .Not a pos) (fNotV f) := .mk fun E =>
  PE.imp (pe_not (h.un E)) fun σ H Q ⟨W, N, σd, F, q⟩ => by
    refine ⟨W, N, σd, F, Tr.al_mono (fun _ _ z => z) (fun x m h v W1 H1 a1 k1 r1 => ?_) _ _ ((Tr.al_bind _ _).mp q)⟩
    cases x with
    | bl b => simp only [Rp] at r1; exact ⟨b, r1, h _ W1 H1 a1 k1 (by simp only [Rp])⟩
    | _ => exact h.elim
theorem de_and {f g : FE} (ha : DE X G a f) (hb : DE X G (.BoolOp .And (b :: rest) pos) g) : DE X G (.BoolOp .And (a :: b :: rest) pos) (fAndV f g) := .mk fun E =>
  PE.imp (pe_and (ha.un E) (hb.un E)) fun σ H Q ⟨W, N, σd, F, q⟩ => by
    refine ⟨W, N, σd, F, Tr.al_mono (fun _ _ z => z) (fun x m h v W1 H1 a1 k1 r1 => ?_) _ _ ((Tr.al_bind _ _).mp q)⟩
    cases x with
    | bl b =>
      simp only [Rp] at r1
      refine ⟨b, r1, ?_⟩
      cases b with
      | true => exact ⟨W1, m, σd, F.adv a1 k1, Tr.al_mono (fun _ _ z => z) (fun y m2 h2 v2 W2 H2 a2 k2 => h2 v2 W2 H2 (a1.tr k1 a2) k2) _ _ h⟩
      | false => exact h _ W1 H1 a1 k1 (by simp only [Rp])
    | _ => exact h.elim
theorem de_one {op} {f : FE} (h : DE X G a f) : DE X G (.BoolOp op [a] pos) f := .mk fun E => pe_one (h.un E)
theorem de_if {c : Expr} {fc : FT} {f g : FE} (hc : DT X G c fc) (ha : DE X G a f) (hb : DE X G b g) : DE X G (.IfExp c a b pos) (fIf fc f g) := .mk fun E =>
  PE.imp (pe_ifExp (hc.un E) (ha.un E) (hb.un E)) fun σ H Q ⟨W, N, σd, F, q⟩ => by
    refine ⟨W, N, σd, F, Tr.al_mono (fun _ _ z => z) (fun x m h W1 H1 a1 k1 => ?_) _ _ ((Tr.al_bind _ _).mp q)⟩
    cases x with
    | true => exact ⟨W1, m, σd, F.adv a1 k1, Tr.al_mono (fun _ _ z => z) (fun y m2 h2 v2 W2 H2 a2 k2 => h2 v2 W2 H2 (a1.tr k1 a2) k2) _ _ h⟩
    | false => exact ⟨W1, m, σd, F.adv a1 k1, Tr.al_mono (fun _ _ z => z) (fun y m2 h2 v2 W2 H2 a2 k2 => h2 v2 W2 H2 (a1.tr k1 a2) k2) _ _ h⟩
/-! ### argument lists -/
def fNil : FA := fun _ => .ret []
def fCons (f : FE) (g : FA) : FA := fun σ => (f σ).bind fun d => (g σ).bind fun ds => .ret (d :: ds)
theorem da_nil : DA X G [] fNil := .mk fun E => PA.imp pa_nil fun σ H Q ⟨W, N, σd, F, q⟩ => q [] W H rfl (.refl _ _ _) F.wk RpL.nil
theorem da_cons {f : FE} {g : FA} (ha : DE X G e f) (hr : DA X G es g) (hs : starEach (e :: es) X.env = (false, eval e X.env) :: starEach es X.env := by rfl) : DA X G (e :: es) (fCons f g) := .mk fun E =>
  PA.imp (pa_cons (ha.un E) (hr.un E) hs) fun σ H Q ⟨W, N, σd, F, q⟩ => by
    refine ⟨W, N, σd, F, Tr.al_mono (fun _ _ z => z) (fun x m h v W1 H1 a1 k1 r1 => ?_) _ _ ((Tr.al_bind _ _).mp q)⟩
    refine ⟨W1, m, σd, F.adv a1 k1, Tr.al_mono (fun _ _ z => z) (fun y m2 h2 u W2 H2 l2 a2 k2 r2 => ?_) _ _ ((Tr.al_bind _ _).mp h)⟩
    exact h2 _ W2 H2 (congrArg (· + 1) l2) (a1.tr k1 a2) k2 (RpL.cons (Rp.mono a2.le _ _ r1) r2)
theorem dk_nil : DK X G [] fNil := .mk fun E => PK.imp pk_nil fun σ H Q ⟨W, N, σd, F, q⟩ => q [] W H rfl (.refl _ _ _) F.wk RpL.nil
theorem dk_cons {nm : Option Str} {kpos : Pos} {kws : List Keyword} {f : FE} {g : FA} (ha : DE X G e f) (hr : DK X G kws g) : DK X G (⟨nm, e, kpos⟩ :: kws) (fCons f g) := .mk fun E =>
  PK.imp (pk_cons (ha.un E) (hr.un E)) fun σ H Q ⟨W, N, σd, F, q⟩ => by
    refine ⟨W, N, σd, F, Tr.al_mono (fun _ _ z => z) (fun x m h v W1 H1 a1 k1 r1 => ?_) _ _ ((Tr.al_bind _ _).mp q)⟩
    refine ⟨W1, m, σd, F.adv a1 k1, Tr.al_mono (fun _ _ z => z) (fun y m2 h2 u W2 H2 l2 a2 k2 r2 => ?_) _ _ ((Tr.al_bind _ _).mp h)⟩
    exact h2 _ W2 H2 (congrArg (· + 1) l2) (a1.tr k1 a2) k2 (RpL.cons (Rp.mono a2.le _ _ r1) r2)
end
end L3

set_option Elab.async false
set_option linter.all false
set_option maxRecDepth 100000
namespace L3
open PySem PySem.Spec L2
/-! ### new objects -/
def Wd.put (W : Wd) (p : Addr) (o : HO) : Wd := ⟨upd W.S p o, W.mu⟩
section
variable {G : Gd} {W : Wd} {H H' : Hp} {N : Nat} {p : Addr} {o : HO}
theorem Wk.none (k : Wk W H N) (h : H p = none) : W.S p = none := by
  cases q : W.S p with
  | none => rfl
  | some u => have := k.s _ _ q; rw [h] at this; cases this
theorem put_le (h : W.S p = none) : W.le (W.put p o) := ⟨same_upd h, fun _ e => e⟩
theorem MOk.same {m c l : Addr} (h : MOk H m c l N) (s : Same H H') : MOk H' m c l N := by
  obtain ⟨⟨k, cs, ls, h1, h2, h3, h4, h5, h6⟩, ne⟩ := h
  exact ⟨⟨k, cs, ls, h1, s _ _ h2, s _ _ h3, h4, s _ _ h5, h6⟩, ne⟩
theorem MOk.there {m c l : Addr} (h : MOk H m c l N) : H m ≠ .none ∧ H c ≠ .none ∧ H l ≠ .none := by
  obtain ⟨⟨k, cs, ls, h1, h2, h3, h4, h5, h6⟩, ne⟩ := h
  rw [h2, h3, h5]; simp
/-- a new object is shared -/
theorem born (k : Wk W H N) (hp : H p = none) (s : Same H H') (e : H' p = some o) : Adv .none W H (W.put p o) H' ∧ Wk (W.put p o) H' N := by
  have hS := k.none hp
  refine ⟨⟨put_le hS, fun b u q _ _ => s b u q, fun b h hb => ?_, fun m c l h => .inl h⟩, ⟨fun b u q => ?_, fun m c l h => ?_, k.d, k.n⟩⟩
  · show upd W.S p o b = .none
    rw [upd_ne (fun z => hb (by rw [z]; exact hp))]
    exact h
  · have q' : upd W.S p o b = some u := q
    by_cases hb : b = p
    · subst hb
      rw [upd_same] at q'
      cases q'
      exact e
    · rw [upd_ne hb] at q'
      exact s _ _ (k.s _ _ q')
  · obtain ⟨h1, h2, h3, h4⟩ := k.m m c l h
    obtain ⟨t1, t2, t3⟩ := h1.there
    refine ⟨h1.same s, ?_, ?_, ?_⟩
    · show upd W.S p o m = .none
      rw [upd_ne (fun z => t1 (by rw [z]; exact hp))]; exact h2
    · show upd W.S p o c = .none
      rw [upd_ne (fun z => t2 (by rw [z]; exact hp))]; exact h3
    · show upd W.S p o l = .none
      rw [upd_ne (fun z => t3 (by rw [z]; exact hp))]; exact h4
theorem put_at : (W.put p o).S p = some o := upd_same
end
/-! ### numbers -/
def gI0 (g : Int → Int → D) : D → D → Tr D
  | .int i, .int j => .ret (g i j)
  | _, _ => .fail
def gI (c : Int → Int → Bool) (g : Int → Int → D) : D → D → Tr D
  | .int i, .int j => if c i j = true then .ret (g i j) else .fail
  | _, _ => .fail
section
variable {G : Gd} {r : Int → Int → V} {g : Int → Int → D} {C : Int → Int → Prop} {c : Int → Int → Bool}
theorem od_I0 (h : ∀ i j W, Rp G W (g i j) (r i j)) : OpD G (rI0 r) (gI0 g) := by
  intro x y W H N v u Q k rx ry q
  unfold gI0 at q
  split at q
  · rename_i i j
    simp only [Rp] at rx ry
    exact ⟨i, j, rx, ry, q _ W H (.refl _ _ _) k (h i j W)⟩
  · exact q.elim
theorem od_I (h : ∀ i j W, Rp G W (g i j) (r i j)) (hc : ∀ i j, c i j = true → C i j) : OpD G (rI C r) (gI c g) := by
  intro x y W H N v u Q k rx ry q
  unfold gI at q
  split at q
  · rename_i i j
    simp only [Rp] at rx ry
    by_cases z : c i j = true
    · rw [if_pos z] at q
      exact ⟨i, j, rx, ry, hc i j z, q _ W H (.refl _ _ _) k (h i j W)⟩
    · rw [if_neg z] at q
      exact q.elim
  · exact q.elim
end
def BIG : Nat := 2 ^ 4000000
def big (i : Int) : Bool := decide (Builtin.Int.intBits i ≤ 4000000)
def gAdd := gI0 fun i j => .int (i + j)
def gSubt := gI0 fun i j => .int (i - j)
def gMul := gI (fun i j => big i && big j) fun i j => .int (i * j)
def gDiv := gI (fun i j => decide (0 < j) && !Builtin.divisionGoesByPylong i j) fun i j => .int (i / j)
def gMod := gI (fun _ j => decide (0 < j)) fun i j => .int (i % j)
def gShl := gI (fun i j => decide (0 ≤ j) && decide (j ≤ 4000000) && big i) fun i j => .int (i * 2 ^ j.toNat)
def gShr := gI (fun _ j => decide (0 ≤ j)) fun i j => .int (i / 2 ^ j.toNat)
def gBAnd := gI0 fun i j => .int (Builtin.bitAnd i j)
def gPow := gI (fun i j => decide (0 < j) && decide (1 < i) && decide (((Builtin.Int.intBits i : Nat) : Int) * j ≤ 4000000)) fun i j => .int (i ^ j.toNat)
def gLt := gI0 fun i j => .bl (decide (i < j))
def gLe := gI0 fun i j => .bl (decide (i ≤ j))
def gGt := gI0 fun i j => .bl (decide (j < i))
def gGe := gI0 fun i j => .bl (decide (j ≤ i))
def gNeg : D → Tr D
  | .int i => .ret (.int (-i))
  | _ => .fail
section
variable {G : Gd} {X : Cx}
theorem bl8 : 8000000 ≤ bitsLine := by decide +kernel
theorem bits_ok {i j : Int} (h : (big i && big j) = true) : IntMulOk i j := by
  unfold big at h
  simp only [Bool.and_eq_true, decide_eq_true_eq] at h
  unfold IntMulOk
  simp only [Bool.and_eq_true, decide_eq_true_eq, not_and]
  intro _
  unfold Builtin.Int.intTooBig
  simp only [decide_eq_true_eq]
  have := bl8
  omega
theorem op_divD : OpR X (binaryOp .FloorDiv) (rI (fun i j => 0 < j ∧ Builtin.divisionGoesByPylong i j = false) fun i j => .int (i / j)) := opI fun i j _ _ _ _ _ hc q => by
  have h1 : (0 : Int) < j := hc.1
  refine PyProof.Rows.floordiv_int (by omega) ?_ (.inl hc.2)
  rw [Int.fdiv_eq_ediv_of_nonneg i (by omega)]
  exact q
theorem od_add : OpD G (rI0 fun i j => .int (i + j)) gAdd := od_I0 fun _ _ _ => by simp only [Rp]
theorem od_sub : OpD G (rI0 fun i j => .int (i - j)) gSubt := od_I0 fun _ _ _ => by simp only [Rp]
theorem od_mul : OpD G (rI IntMulOk fun i j => .int (i * j)) gMul := od_I (fun _ _ _ => by simp only [Rp]) fun _ _ h => bits_ok h
theorem od_div : OpD G (rI (fun i j => 0 < j ∧ Builtin.divisionGoesByPylong i j = false) fun i j => .int (i / j)) gDiv := od_I (fun _ _ _ => by simp only [Rp]) fun _ _ h => by
  simpa using h
theorem od_mod : OpD G (rI (fun _ j => 0 < j) fun i j => .int (i % j)) gMod := od_I (fun _ _ _ => by simp only [Rp]) fun _ _ h => of_decide_eq_true h
theorem od_shl : OpD G (rI CShl fun i j => .int (i * 2 ^ j.toNat)) gShl := od_I (fun _ _ _ => by simp only [Rp]) fun i j h => by
  unfold big at h
  simp only [Bool.and_eq_true, decide_eq_true_eq] at h
  exact ⟨h.1.1, by omega⟩
theorem od_shr : OpD G (rI (fun _ j => 0 ≤ j) fun i j => .int (i / 2 ^ j.toNat)) gShr := od_I (fun _ _ _ => by simp only [Rp]) fun _ _ h => of_decide_eq_true h
theorem od_and : OpD G (rI0 fun i j => .int (Builtin.bitAnd i j)) gBAnd := od_I0 fun _ _ _ => by simp only [Rp]
theorem od_pow : OpD G (rI CPowB fun i j => .int (i ^ j.toNat)) gPow := od_I (fun _ _ _ => by simp only [Rp]) fun i j h => by
  simp only [Bool.and_eq_true, decide_eq_true_eq] at h
  refine ⟨h.1.1, h.1.2, ?_⟩
  unfold Builtin.Int.intTooBig
  simp only [decide_eq_true_eq]
  have := bl8
  omega
theorem od_lt : OpD G (rI0 fun i j => .bl (decide (i < j))) gLt := od_I0 fun _ _ _ => by simp only [Rp]
theorem od_le : OpD G (rI0 fun i j => .bl (decide (i ≤ j))) gLe := od_I0 fun _ _ _ => by simp only [Rp]
theorem od_gt : OpD G (rI0 fun i j => .bl (decide (j < i))) gGt := od_I0 fun _ _ _ => by simp only [Rp]
theorem od_ge : OpD G (rI0 fun i j => .bl (decide (j ≤ i))) gGe := od_I0 fun _ _ _ => by simp only [Rp]
theorem ud_neg : UnD G (rU fun i => .int (-i)) gNeg := by
  intro x W H N v Q k rx q
  unfold gNeg at q
  split at q
  · rename_i i
    simp only [Rp] at rx
    exact ⟨i, rx, q _ W H (.refl _ _ _) k (by simp only [Rp])⟩
  · exact q.elim
/-! ### == of plain things, is, in -/
/-- plain values -/
def D.toV : D → Option V
  | .non => some .non
  | .bl b => some (.bl b)
  | .int i => some (.int i)
  | .str x => some (.str x)
  | _ => none
theorem toV_rp {W : Wd} {d : D} {v u : V} (h : d.toV = some u) (r : Rp G W d v) : v = u := by
  cases d <;> simp only [D.toV, Option.some.injEq] at h <;> first | (cases h; done) | (simp only [Rp] at r; rw [r, h]) | cases h
def eqP (v u : V) : Bool := decide (v = u)
def gEqN (n : Bool) : D → D → Tr D := fun x y => match x.toV, y.toV with
  | some v, some u => if scal v u = true then .ret (.bl (if n = true then !(eqP v u) else eqP v u)) else .fail
  | _, _ => .fail
def gEq := gEqN false
def gNe := gEqN true
theorem od_eq : OpD G rEq gEq := by
  intro x y W H N v u Q k rx ry q
  unfold gEq gEqN at q
  split at q
  · rename_i v' u' e1 e2
    rw [toV_rp e1 rx, toV_rp e2 ry]
    split at q
    · rename_i z
      exact ⟨z, q _ W H (.refl _ _ _) k (by simp only [Rp]; rfl)⟩
    · exact q.elim
  · exact q.elim
theorem od_ne : OpD G rNe gNe := by
  intro x y W H N v u Q k rx ry q
  unfold gNe gEqN at q
  split at q
  · rename_i v' u' e1 e2
    rw [toV_rp e1 rx, toV_rp e2 ry]
    split at q
    · rename_i z
      exact ⟨z, q _ W H (.refl _ _ _) k (by simp only [Rp]; rfl)⟩
    · exact q.elim
  · exact q.elim
def D.isNon : D → Bool
  | .non => true
  | _ => false
theorem isNon_rp {W : Wd} {d : D} {v : V} (r : Rp G W d v) : decide (v = .non) = d.isNon := by
  cases d <;> simp only [Rp] at r
  all_goals first
    | (subst r; rfl)
    | (obtain ⟨_, _, rfl, _⟩ := r; rfl)
    | (obtain ⟨_, _, _, rfl, _⟩ := r; rfl)
    | (obtain ⟨_, _, _, _, rfl⟩ := r; rfl)
def gIsN : D → D → Tr D := fun x y => match y with
  | .non => .ret (.bl x.isNon)
  | _ => .fail
def gNotN : D → D → Tr D := fun x y => match y with
  | .non => .ret (.bl (!x.isNon))
  | _ => .fail
theorem od_isN : OpD G rIsN gIsN := by
  intro x y W H N v u Q k rx ry q
  unfold gIsN at q
  split at q
  · simp only [Rp] at ry
    exact ⟨ry, q _ W H (.refl _ _ _) k (by simp only [Rp]; rw [isNon_rp rx])⟩
  · exact q.elim
def gIsB : D → D → Tr D
  | .bl i, .bl j => .ret (.bl (decide (i = j)))
  | _, _ => .fail
def gNotB : D → D → Tr D
  | .bl i, .bl j => .ret (.bl (!decide (i = j)))
  | _, _ => .fail
/-! ### == of nested data -/
mutual
def D.toP : D → Option PyData
  | .non => some .none
  | .bl b => some (.bool b)
  | .int i => some (.int i)
  | .str x => some (.str x)
  | .tup ds => (toPL ds).map .tuple
  | .lst ds => (toPL ds).map .list
  | _ => none
def D.toPL : List D → Option (List PyData)
  | [] => some []
  | d :: ds => match D.toP d, D.toPL ds with
    | some p, some ps => some (p :: ps)
    | _, _ => none
end
mutual
theorem dp_of {W : Wd} {H : Hp} (s : Same W.S H) : ∀ (d : D) (v : V) (p : PyData), d.toP = some p → Rp G W d v → Dp G.K H v p
  | .non, _, _, h, r => by simp only [D.toP, Option.some.injEq] at h; simp only [Rp] at r; subst h r; exact .non
  | .bl _, _, _, h, r => by simp only [D.toP, Option.some.injEq] at h; simp only [Rp] at r; subst h r; exact .bl _
  | .int _, _, _, h, r => by simp only [D.toP, Option.some.injEq] at h; simp only [Rp] at r; subst h r; exact .int _
  | .str _, _, _, h, r => by simp only [D.toP, Option.some.injEq] at h; simp only [Rp] at r; subst h r; exact .str _
  | .tup ds, _, p, h, r => by
    simp only [D.toP, Option.map_eq_some_iff] at h
    obtain ⟨ps, h1, h2⟩ := h
    simp only [Rp] at r
    obtain ⟨a, vs, rfl, r1, r2⟩ := r
    subst h2
    exact .tup (sqT_mono s r1) (dp_ofL s ds vs ps h1 r2)
  | .lst ds, _, p, h, r => by
    simp only [D.toP, Option.map_eq_some_iff] at h
    obtain ⟨ps, h1, h2⟩ := h
    simp only [Rp] at r
    obtain ⟨a, vs, rfl, r1, r2⟩ := r
    subst h2
    exact .lst (sqL_mono s r1) (dp_ofL s ds vs ps h1 r2)
  | .ty _, _, _, h, _ => by simp only [D.toP] at h; cases h
  | .cls _, _, _, h, _ => by simp only [D.toP] at h; cases h
  | .dic _ _, _, _, h, _ => by simp only [D.toP] at h; cases h
  | .ins _ _ _, _, _, h, _ => by simp only [D.toP] at h; cases h
  | .mach, _, _, h, _ => by simp only [D.toP] at h; cases h
theorem dp_ofL {W : Wd} {H : Hp} (s : Same W.S H) : ∀ (ds : List D) (vs : List V) (ps : List PyData), D.toPL ds = some ps → RpL G W ds vs → DpAll G.K H vs ps
  | [], _, _, h, r => by simp only [D.toPL, Option.some.injEq] at h; simp only [RpL] at r; subst h r; exact .nil
  | d :: ds, _, ps, h, r => by
    simp only [D.toPL] at h
    simp only [RpL] at r
    obtain ⟨v, us, rfl, r1, r2⟩ := r
    split at h
    · rename_i p ps' e1 e2
      cases h
      exact .cons (dp_of s d v p e1 r1) (dp_ofL s ds us ps' e2 r2)
    · cases h
end
def gEqDN (n : Bool) : D → D → Tr D := fun x y => match x.toP, y.toP with
  | some p, some q => if (SeqAt.shaped p && SeqAt.shaped q) = true then .ret (.bl (if n = true then !(PyData.eqv p q) else PyData.eqv p q)) else .fail
  | _, _ => .fail
def gEqD := gEqDN false
def gNeD := gEqDN true
theorem od_eqD : OpD G (rEqD G.K) gEqD := by
  intro x y W H N v u Q k rx ry q
  unfold gEqD gEqDN at q
  split at q
  · rename_i p p' e1 e2
    split at q
    · rename_i z
      rw [Bool.and_eq_true] at z
      exact ⟨p, p', dp_of k.s x v p e1 rx, dp_of k.s y u p' e2 ry, z.1, z.2, q _ W H (.refl _ _ _) k (by simp only [Rp]; rfl)⟩
    · exact q.elim
  · exact q.elim
/-! ### in -/
def toVL : List D → Option (List V)
  | [] => some []
  | d :: ds => match d.toV, toVL ds with
    | some v, some vs => some (v :: vs)
    | _, _ => none
def D.items : D → Option (List D)
  | .tup ds => some ds
  | .lst ds => some ds
  | _ => none
def gIn (neg : Bool) : D → D → Tr D := fun x y => match x.toV, y.items with
  | some v, some ds => match toVL ds with
    | some vs => if (flatV v && vs.all flatV) = true then .ret (.bl (if neg = true then !inV v vs else inV v vs)) else .fail
    | none => .fail
  | _, _ => .fail
end
end L3

set_option Elab.async false
set_option linter.all false
set_option maxRecDepth 100000
namespace L3
open PySem PySem.Spec L2
section
variable {X : Cx} {G : Gd} {a b c e o : Expr} {es rest : List Expr} {pos p apos cpos p2 : Pos}
/-! ### displays -/
def fTup (f : FA) : FE := fun σ => (f σ).bind fun ds => .ret (.tup ds)
def fLst (f : FA) : FE := fun σ => (f σ).bind fun ds => .ret (.lst ds)
theorem big_of {n : Nat} (h : Nat.ble n 1000 = true) : n ≤ sizeLine := Nat.le_trans (Nat.le_of_ble_eq_true h) (by rw [sizeLine_eq]; decide)
theorem de_tup {f : FA} {x1} (h : DA X G es f) (hl : Nat.ble es.length 1000 = true := by rfl) : DE X G (.Tuple es x1 pos) (fTup f) := .mk fun E =>
  PE.imp (pe_tupA (h.un E)) fun σ H Q ⟨W, N, σd, F, q⟩ => by
    refine ⟨W, N, σd, F, Tr.al_mono (fun _ _ z => z) (fun ds m h vs W1 H1 l1 a1 k1 r1 => ?_) _ _ ((Tr.al_bind _ _).mp q)⟩
    refine ⟨by rw [← r1.length, l1]; exact big_of hl, fun p H2 hp s2 e2 => ?_⟩
    obtain ⟨a2, k2⟩ := born k1 hp s2 e2
    exact h _ _ _ (a1.tr k1 a2) k2 (by simp only [Rp]; exact ⟨p, vs, rfl, .inl (.inl put_at), RpL.mono a2.le _ _ r1⟩)
theorem de_lst {f : FA} (h : DA X G es f) (hl : Nat.ble es.length 1000 = true := by rfl) : DE X G (.List es pos) (fLst f) := .mk fun E =>
  PE.imp (pe_lstA (h.un E)) fun σ H Q ⟨W, N, σd, F, q⟩ => by
    refine ⟨W, N, σd, F, Tr.al_mono (fun _ _ z => z) (fun ds m h vs W1 H1 l1 a1 k1 r1 => ?_) _ _ ((Tr.al_bind _ _).mp q)⟩
    refine ⟨by rw [← r1.length, l1]; exact big_of hl, fun p H2 hp s2 e2 => ?_⟩
    obtain ⟨a2, k2⟩ := born k1 hp s2 e2
    exact h _ _ _ (a1.tr k1 a2) k2 (by simp only [Rp]; exact ⟨p, vs, rfl, .inl (.inl put_at), RpL.mono a2.le _ _ r1⟩)
/-! ### items -/
theorem atI_rp {W : Wd} {ds : List D} {vs : List V} {i : Int} {d : D} (r : RpL G W ds vs) (h : atI ds i = some d) : ∃ v, atI vs i = some v ∧ Rp G W d v := by
  unfold atI at h ⊢
  rw [← r.length]
  cases q : ixN ds.length i with
  | none => rw [q] at h; cases h
  | some j => rw [q] at h; exact r.get h
def gIx : D → D → Tr D := fun x y => match x, y with
  | .lst ds, .int i => match atI ds i with
    | some d => .ret d
    | none => .fail
  | .tup ds, .int i => match atI ds i with
    | some d => .ret d
    | none => .fail
  | .str z, .int i => if z.length ≤ sizeLine then match atI z.cps.toList i with
    | some c => .ret (.str ⟨#[c]⟩)
    | none => .fail
    else .fail
  | _, _ => .fail
theorem od_ix : OpD G (rIx G.K) gIx := by
  intro x y W H N v u Q k rx ry q
  unfold gIx at q
  split at q
  · rename_i ds i
    simp only [Rp] at rx ry
    obtain ⟨a, vs, rfl, h1, h2⟩ := rx
    split at q
    · rename_i d e
      obtain ⟨w, e1, r1⟩ := atI_rp h2 e
      exact .inl ⟨a, vs, i, w, rfl, ry, sqL_mono k.s h1, e1, q _ W H (.refl _ _ _) k r1⟩
    · exact q.elim
  · rename_i ds i
    simp only [Rp] at rx ry
    obtain ⟨a, vs, rfl, h1, h2⟩ := rx
    split at q
    · rename_i d e
      obtain ⟨w, e1, r1⟩ := atI_rp h2 e
      exact .inr (.inl ⟨a, vs, i, w, rfl, ry, sqT_mono k.s h1, e1, q _ W H (.refl _ _ _) k r1⟩)
    · exact q.elim
  · rename_i z i
    simp only [Rp] at rx ry
    split at q
    · rename_i hz
      split at q
      · rename_i c e
        exact .inr (.inr ⟨z, i, c, rx, ry, hz, e, q _ W H (.refl _ _ _) k (by simp only [Rp])⟩)
      · exact q.elim
    · exact q.elim
  · exact q.elim
theorem de_ix {fa fb : FE} (ha : DE X G a fa) (hb : DE X G b fb) (hs : PlainIx b) (hK : X.K = G.K := by rfl) : DE X G (.Subscript a b pos) (fOp gIx fa fb) := .mk fun E =>
  PE.imp (pe_ix ix_seq (ha.un E) (hb.un E) hs) fun σ H Q ⟨W, N, σd, F, q⟩ => by
    refine ⟨W, N, σd, F, Tr.al_mono (fun _ _ z => z) (fun x m h v W1 H1 a1 k1 r1 => ?_) _ _ ((Tr.al_bind _ _).mp q)⟩
    refine ⟨W1, m, σd, F.adv a1 k1, Tr.al_mono (fun _ _ z => z) (fun y m2 h2 u W2 H2 a2 k2 r2 => ?_) _ _ ((Tr.al_bind _ _).mp h)⟩
    rw [hK]
    refine od_ix x y W2 H2 m2 v u Q k2 (Rp.mono a2.le _ _ r1) r2 (Tr.al_mono (fun _ _ z => z) (fun d m3 h3 v' W3 H3 a3 k3 r3 => ?_) _ _ h2)
    exact h3 v' W3 H3 (a1.tr k1 (a2.tr k2 a3)) k3 r3
/-! ### calls of built-ins -/
def fCall (g : List D → Tr D) (f : FA) : FE := fun σ => (f σ).bind g
theorem call_imp {E : En} {n : Nat} {r : List V → Hp → VK → Prop} {g : List D → Tr D} {f : FA} (hd : ArD G r g) (σ : St) (H : Hp) (Q : VK) (h : tE G E (fCall g f) σ H Q) : tCB r (tA G E n f) σ H Q := by
  obtain ⟨W, N, σd, F, q⟩ := h
  refine ⟨W, N, σd, F, Tr.al_mono (fun _ _ z => z) (fun ds m h vs W1 H1 _ a1 k1 r1 => ?_) _ _ ((Tr.al_bind _ _).mp q)⟩
  exact hd ds W1 H1 m vs Q k1 r1 (Tr.al_mono (fun _ _ z => z) (fun d m3 h3 v' W3 H3 a3 k3 r3 => h3 v' W3 H3 (a1.tr k1 a3) k3 r3) _ _ h)
theorem de_callB {id : String} {r : List V → Hp → VK → Prop} {x : Str} {g : List D → Tr D} {f : FA} (hc : CallR X (.builtin id) r) (hd : ArD G r g) (hg : Gl X x) (hm : X.mg x = none) (hv : bootBuiltins x = some (.builtin id)) (ha : DA X G (e :: es) f) (hn : x ≠ "__name__" := by decide) (hdb : (x == ("__debug__" : Str)) = false := by decide)
    (he : starEach (e :: es) X.env = (false, eval e X.env) :: starEach es X.env := by rfl) (hpl : (backTo pos (starEach es X.env)).any (·.1) = false := by rfl) : DE X G (.Call (.Name x p) (e :: es) [] pos) (fCall g f) := .mk fun E =>
  PE.imp (pe_callB hc hg hm hv (ha.un E) hn hdb he hpl) fun σ H Q h => call_imp hd σ H Q h
/-- min, max, abs -/
def gMax : List D → Tr D
  | [.int i, .int j] => .ret (.int (if j > i then j else i))
  | _ => .fail
def gMin : List D → Tr D
  | [.int i, .int j] => .ret (.int (if j < i then j else i))
  | _ => .fail
def gAbs : List D → Tr D
  | [.int i] => .ret (.int (if i < 0 then -i else i))
  | _ => .fail
theorem RpL.two {W : Wd} {i j : Int} {vs : List V} (r : RpL G W [.int i, .int j] vs) : vs = [.int i, .int j] := by
  simp only [RpL, Rp] at r
  obtain ⟨v, us, rfl, rfl, w, us', rfl, rfl, rfl⟩ := r
  rfl
theorem RpL.one {W : Wd} {d : D} {vs : List V} (r : RpL G W [d] vs) : ∃ v, vs = [v] ∧ Rp G W d v := by
  simp only [RpL] at r
  obtain ⟨v, us, rfl, h, rfl⟩ := r
  exact ⟨v, rfl, h⟩
theorem ad_max : ArD G rMaxI gMax := by
  intro xs W H N vs Q k r q
  unfold gMax at q
  split at q
  · exact ⟨_, _, r.two, q _ W H (.refl _ _ _) k (by simp only [Rp])⟩
  · exact q.elim
theorem ad_min : ArD G rMinI gMin := by
  intro xs W H N vs Q k r q
  unfold gMin at q
  split at q
  · exact ⟨_, _, r.two, q _ W H (.refl _ _ _) k (by simp only [Rp])⟩
  · exact q.elim
theorem ad_abs : ArD G rAbsI gAbs := by
  intro xs W H N vs Q k r q
  unfold gAbs at q
  split at q
  · obtain ⟨v, rfl, h⟩ := r.one
    simp only [Rp] at h
    subst h
    exact ⟨_, rfl, q _ W H (.refl _ _ _) k (by simp only [Rp])⟩
  · exact q.elim
def rLenS (K : PySem.W.Frag) : List V → Hp → VK → Prop := fun xs H Q => ∃ x n, xs = [x] ∧ LenV K x H n ∧ Q (.int n) H
theorem call_lenS' : CallR X (.builtin "len") (rLenS X.K) := call_len
def gLen : List D → Tr D
  | [.lst ds] => .ret (.int ds.length)
  | [.tup ds] => .ret (.int ds.length)
  | [.str z] => if z.length ≤ sizeLine then .ret (.int z.length) else .fail
  | _ => .fail
theorem ad_len : ArD G (rLenS G.K) gLen := by
  intro xs W H N vs Q k r q
  unfold gLen at q
  split at q
  · obtain ⟨v, rfl, h⟩ := r.one
    simp only [Rp] at h
    obtain ⟨a, us, rfl, h1, h2⟩ := h
    exact ⟨_, _, rfl, .inl ⟨us, sqL_mono k.s h1, rfl⟩, q _ W H (.refl _ _ _) k (by simp only [Rp]; rw [h2.length])⟩
  · obtain ⟨v, rfl, h⟩ := r.one
    simp only [Rp] at h
    obtain ⟨a, us, rfl, h1, h2⟩ := h
    exact ⟨_, _, rfl, .inr ⟨us, sqT_mono k.s h1, rfl⟩, q _ W H (.refl _ _ _) k (by simp only [Rp]; rw [h2.length])⟩
  · obtain ⟨v, rfl, h⟩ := r.one
    simp only [Rp] at h
    subst h
    split at q
    · rename_i hz
      exact ⟨_, _, rfl, ⟨hz, rfl⟩, q _ W H (.refl _ _ _) k (by simp only [Rp])⟩
    · exact q.elim
  · exact q.elim
def rDm : List V → Hp → VK → Prop := fun xs H Q => ∃ i j, xs = [.int i, .int j] ∧ (0 < j ∧ Builtin.divisionGoesByPylong i j = false) ∧ Born H (.tup [.int (i / j), .int (i % j)]) Q
def gDm : List D → Tr D
  | [.int i, .int j] => if (decide (0 < j) && !Builtin.divisionGoesByPylong i j) = true then .ret (.tup [.int (i / j), .int (i % j)]) else .fail
  | _ => .fail
/-! ### isinstance, of the built-in classes -/
def kinds : List String := ["NoneType", "bool", "int", "str", "list", "tuple", "dict"]
def kitB (t T : String) : Bool := t == T || (t == "bool" && T == "int")
theorem kit_all (K : PySem.W.Frag) : ∀ t, t ∈ kinds → ∀ T, T ∈ kinds → PySem.W.kitOne K (.type t) (.type T) = some (kitB t T) := by
  intro t ht T hT
  simp only [kinds, List.mem_cons, List.not_mem_nil, or_false] at ht hT
  rcases ht with rfl | rfl | rfl | rfl | rfl | rfl | rfl <;> rcases hT with rfl | rfl | rfl | rfl | rfl | rfl | rfl <;> kernel_rfl
end
end L3

set_option Elab.async false
set_option linter.all false
set_option maxRecDepth 100000
namespace L3
open PySem PySem.Spec L2
section
variable {G : Gd} {E : En} {W : Wd} {H : Hp} {N : Nat} {σ : St} {σd : DSt}
theorem get_set {α : Type} {l : List (Option α)} {i j : Nat} {x : Option α} {s : α} (h : (l.set i x)[j]? = some (some s)) : (i = j ∧ x = some s) ∨ (i ≠ j ∧ l[j]? = some (some s)) := by
  rw [List.getElem?_set] at h
  by_cases e : i = j
  · rw [if_pos e] at h
    split at h
    · exact .inl ⟨e, Option.some.inj h⟩
    · cases h
  · rw [if_neg e] at h
    exact .inr ⟨e, h⟩
theorem set_get {α : Type} {l : List (Option α)} {i j : Nat} {x : Option α} (h : i ≠ j) : (l.set i x)[j]? = l[j]? := by rw [List.getElem?_set, if_neg h]
/-- a name is bound to a shared thing -/
theorem Fm.set (F : Fm G E W H N σ σd) {d : D} {v : V} (i : Nat) (r : Rp G W d v) : Fm G E W H N (σ.set i (some v)) (σd.set i (some (.sh d))) := by
  refine ⟨F.wk, F.ent, F.ioT, by rw [List.length_set, List.length_set]; exact F.len, fun j s e => ?_, fun j j' s s' u hj e e' o o' ev => ?_, fun j s a e o ev => ?_, fun x s hx e o => ?_⟩
  · rcases get_set e with ⟨rfl, z⟩ | ⟨hij, z⟩
    · cases z
      refine ⟨v, ?_, r⟩
      have hl : i < σ.length := by
        rw [← F.len]
        have := (List.getElem?_eq_some_iff.mp e).1
        rwa [List.length_set] at this
      rw [List.getElem?_set, if_pos rfl, if_pos hl]
    · rw [set_get hij]
      exact F.sl j s z
  · rcases get_set e with ⟨rfl, z⟩ | ⟨hij, z⟩
    · cases z; cases o
    · rcases get_set e' with ⟨rfl, z'⟩ | ⟨hij', z'⟩
      · cases z'; cases o'
      · rw [set_get hij] at ev
        rw [set_get hij']
        exact F.ne j j' s s' u hj z z' o o' ev
  · rcases get_set e with ⟨rfl, z⟩ | ⟨hij, z⟩
    · cases z; cases o
    · rw [set_get hij] at ev
      exact F.fr j s a z o ev
  · rcases get_set e with ⟨rfl, z⟩ | ⟨hij, z⟩
    · cases z; cases o
    · rw [set_get hij]
      exact F.io0 x s hx z o
end
/-! ### statements -/
def fNx : FS := fun σ => .ret (.nx σ)
def fSeq (f g : FS) : FS := fun σ => (f σ).bind fun r => match r with
  | .nx σ' => g σ'
  | r => .ret r
def fRet (f : FE) : FS := fun σ => (f σ).bind fun d => .ret (.rt d)
def fRetN : FS := fun _ => .ret (.rt .non)
def fDrop (f : FE) : FS := fun σ => (f σ).bind fun _ => .ret (.nx σ)
def fIfS (c : FT) (f g : FS) : FS := fun σ => (c σ).bind fun b => if b = true then f σ else g σ
def fSet (i : Nat) (f : FE) : FS := fun σ => (f σ).bind fun d => .ret (.nx (σ.set i (some (.sh d))))
def fNever : FS := fun _ => .fail
section
variable {X : Cx} {G : Gd} {e : Expr} {pos pos' p : Pos} {st : Stmt} {rest : List Stmt} {f g : FS}
theorem dss_nil : DSs X G [] fNx := .mk fun E => PSs.imp pss_nil fun D σ H ⟨W, N, σd, F, q⟩ => q σ W H (.refl _) F
theorem seq_imp {E : En} {D : Ends} {σ : St} {H : Hp} (h : tS G E (fSeq f g) D σ H) : tSeq (tS G E f) (tS G E g) D σ H := by
  obtain ⟨W, N, σd, F, q⟩ := h
  refine ⟨W, N, σd, F, Tr.al_mono (fun _ _ z => z) (fun r m h => ?_) _ _ ((Tr.al_bind _ _).mp q)⟩
  cases r with
  | nx σd' => exact fun σ' W' H' l F' => ⟨W', m, σd', F', Tr.al_mono (fun _ _ z => z) (fun r m h => okFl.le h l) _ _ h⟩
  | rt d => exact h
  | bk σd' => exact h
  | ct σd' => exact h
theorem dss_cons (h1 : DS X G st f) (h2 : DSs X G rest g) : DSs X G (st :: rest) (fSeq f g) := .mk fun E => PSs.imp (pss_cons (h1.un E) (h2.un E)) fun D σ H h => seq_imp h
theorem dss_one (h : DS X G st f) : DSs X G [st] f := .mk fun E => pss_one (h.un E)
theorem ds_ret {fe : FE} (h : DE X G e fe) : DS X G (.Return (some e) pos) (fRet fe) := .mk fun E => PS.imp (ps_ret (h.un E)) fun D σ H ⟨W, N, σd, F, q⟩ => by
  refine ⟨W, N, σd, F, Tr.al_mono (fun _ _ z => z) (fun d m h v W1 H1 a1 k1 r1 => ?_) _ _ ((Tr.al_bind _ _).mp q)⟩
  have F1 := F.adv a1 k1
  exact h v W1 H1 F1.ent F1.ioT k1 r1
theorem ds_never : DS X G st fNever := .mk fun E => PS.imp ps_never fun D σ H ⟨W, N, σd, F, q⟩ => q
theorem ds_expr {fe : FE} (h : DE X G e fe) (hs : swapsWith e none pos.line X.env = pure false := by rfl) : DS X G (.Expr e pos) (fDrop fe) := .mk fun E => PS.imp (ps_expr (h.un E) hs) fun D σ H ⟨W, N, σd, F, q⟩ => by
  refine ⟨W, N, σd, F, Tr.al_mono (fun _ _ z => z) (fun d m h v W1 H1 a1 k1 r1 => ?_) _ _ ((Tr.al_bind _ _).mp q)⟩
  exact h σ W1 H1 a1.le (F.adv a1 k1)
theorem ds_if {c : Expr} {a b : List Stmt} {fc : FT} (hc : DT X G c fc) (ha : DSs X G a f) (hb : DSs X G b g) : DS X G (.If c a b pos) (fIfS fc f g) := .mk fun E => PS.imp (ps_if (hc.un E) (ha.un E) (hb.un E)) fun D σ H ⟨W, N, σd, F, q⟩ => by
  refine ⟨W, N, σd, F, Tr.al_mono (fun _ _ z => z) (fun x m h W1 H1 a1 k1 => ?_) _ _ ((Tr.al_bind _ _).mp q)⟩
  cases x with
  | true => exact ⟨W1, m, σd, F.adv a1 k1, Tr.al_mono (fun _ _ z => z) (fun r m h => okFl.le h a1.le) _ _ h⟩
  | false => exact ⟨W1, m, σd, F.adv a1 k1, Tr.al_mono (fun _ _ z => z) (fun r m h => okFl.le h a1.le) _ _ h⟩
theorem ds_set {i : Nat} {x : Str} {fe : FE} (hN : X.N.Nodup) (hi : X.N[i]? = some x) (hx : Loc X.env.scope x) (he : DE X G e fe) (hs : swapsWith e (some (.Name x pos')) pos.line X.env = pure false := by rfl) (hf : X.fn x = true ∨ X.env.scope.names.lookup x = some .local := by first | exact .inl rfl | exact .inr rfl | assumption) :
    DS X G (.Assign [.Name x pos'] e pos) (fSet i fe) := .mk fun E => PS.imp (ps_set hN hi hx (he.un E) hs hf) fun D σ H ⟨W, N, σd, F, q⟩ => by
  refine ⟨W, N, σd, F, Tr.al_mono (fun _ _ z => z) (fun d m h v W1 H1 a1 k1 r1 => ?_) _ _ ((Tr.al_bind _ _).mp q)⟩
  exact h _ W1 H1 a1.le ((F.adv a1 k1).set i r1)
/-- x += e -/
def fAug (i : Nat) (g : D → D → Tr D) (f : FE) : FS := fun σ => (fVar i σ).bind fun x => (f σ).bind fun y => (g x y).bind fun d => .ret (.nx (σ.set i (some (.sh d))))
/-! ### targets -/
abbrev FG := D → DSt → Option DSt
def tG (G : Gd) (E : En) (g : FG) : TG := fun v σ H Q => ∃ W N σd d σd', Fm G E W H N σ σd ∧ Rp G W d v ∧ g d σd = some σd' ∧ ∀ σ' W' H', W.le W' → Fm G E W' H' N σ' σd' → Q σ' H'
theorem PG.imp {X : Cx} {tg : Expr} {t t' : TG} (h : PG X tg t) (i : ∀ v σ H Q, t' v σ H Q → t v σ H Q) : PG X tg t' := fun pins s σ H v u Q I r q => h pins s σ H v u Q I r (i v σ H Q q)
@[irreducible] def DG (X : Cx) (G : Gd) (tg : Expr) (g : FG) : Prop := ∀ E, PG X tg (tG G E g)
theorem DG.mk {tg : Expr} {g : FG} (h : ∀ E, PG X tg (tG G E g)) : DG X G tg g := by unfold DG; exact h
theorem DG.un {tg : Expr} {g : FG} (h : DG X G tg g) : ∀ E, PG X tg (tG G E g) := by unfold DG at h; exact h
def hName (i : Nat) : FG := fun d σ => some (σ.set i (some (.sh d)))
def hNames : List Nat → List D → DSt → Option DSt
  | [], [], σ => some σ
  | i :: is, d :: ds, σ => hNames is ds (σ.set i (some (.sh d)))
  | _, _, _ => none
def hTup (is : List Nat) : FG := fun d σ => match d with
  | .tup ds => hNames is ds σ
  | _ => none
def gNames : List Nat → TGs
  | [] => gNil
  | i :: is => gCons (gName i) (gNames is)
theorem dg_name {i : Nat} {x : Str} (h : Wr (PG X (.Name x pos) (gName i))) : DG X G (.Name x pos) (hName i) := .mk fun E => PG.imp h.un fun v σ H Q ⟨W, N, σd, d, σd', F, r, e, q⟩ => by
  cases e
  exact q _ W H (.refl _) (F.set i r)
theorem names_ok {E : En} : ∀ (is : List Nat) (ds : List D) (vs : List V) (W : Wd) (H : Hp) (N : Nat) (σ : St) (σd σd' : DSt) (Q : St → Hp → Prop), Fm G E W H N σ σd → RpL G W ds vs → hNames is ds σd = some σd' → (∀ σ' W' H', W.le W' → Fm G E W' H' N σ' σd' → Q σ' H') → gNames is vs σ H Q
  | [], [], vs, W, H, N, σ, σd, σd', Q, F, r, e, q => by
    simp only [RpL] at r
    subst r
    cases e
    exact ⟨rfl, q σ W H (.refl _) F⟩
  | i :: is, d :: ds, vs, W, H, N, σ, σd, σd', Q, F, r, e, q => by
    simp only [RpL] at r
    obtain ⟨v, us, rfl, r1, r2⟩ := r
    exact ⟨v, us, rfl, names_ok is ds us W H N _ _ σd' Q (F.set i r1) r2 e q⟩
  | [], _ :: _, _, _, _, _, _, _, _, _, _, _, e, _ => by cases e
  | _ :: _, [], _, _, _, _, _, _, _, _, _, _, e, _ => by cases e
theorem hNames_len : ∀ {is : List Nat} {ds : List D} {σd σd' : DSt}, hNames is ds σd = some σd' → ds.length = is.length
  | [], [], _, _, _ => rfl
  | i :: is, d :: ds, σd, σd', e => by
    rw [List.length_cons, List.length_cons, hNames_len (is := is) (ds := ds) e]
  | [], _ :: _, _, _, e => by cases e
  | _ :: _, [], _, _, e => by cases e
theorem dg_tup {tg : Expr} {is : List Nat} {n : Nat} (h : Wr (PG X tg (gTup X.K n (gNames is)))) (hn : is.length = n := by rfl) (hK : X.K = G.K := by rfl) : DG X G tg (hTup is) := .mk fun E => PG.imp h.un fun v σ H Q ⟨W, N, σd, d, σd', F, r, e, q⟩ => by
  unfold hTup at e
  split at e
  · rename_i ds
    simp only [Rp] at r
    obtain ⟨a, vs, rfl, r1, r2⟩ := r
    rw [hK]
    exact ⟨a, vs, rfl, sqT_mono F.wk.s r1, by rw [← r2.length, hNames_len e]; exact hn, names_ok is ds vs W H N σ σd σd' Q F r2 e q⟩
  · cases e
def fAsg (f : FE) (g : FG) : FS := fun σ => (f σ).bind fun d => match g d σ with
  | some σ' => .ret (.nx σ')
  | none => .fail
theorem ds_asg {tg : Expr} {fe : FE} {gd : FG} (he : DE X G e fe) (hg : DG X G tg gd) (hs : swapsWithSole [tg] e pos.line X.env = pure false := by rfl) (hw : swappedStores [tg] e X.env = pure none := by rfl)
    (h1 : (assignEach [tg] X.env).map (·.2) = [assign tg X.env] := by rfl) : DS X G (.Assign [tg] e pos) (fAsg fe gd) := .mk fun E => PS.imp (ps_asg (he.un E) (hg.un E) hs hw h1) fun D σ H ⟨W, N, σd, F, q⟩ => by
  refine ⟨W, N, σd, F, Tr.al_mono (fun _ _ z => z) (fun d m h v W1 H1 a1 k1 r1 => ?_) _ _ ((Tr.al_bind _ _).mp q)⟩
  split at h
  · rename_i σd' e
    exact ⟨W1, m, σd, d, σd', F.adv a1 k1, r1, e, fun σ' W' H' l F' => h σ' W' H' (a1.le.trans l) F'⟩
  · exact h.elim
/-- a, b = e, f -/
def fPar (i j : Nat) (f : FA) : FS := fun σ => (f σ).bind fun ds => match ds with
  | [x, y] => .ret (.nx ((σ.set i (some (.sh x))).set j (some (.sh y))))
  | _ => .fail
def fPar3 (i j k : Nat) (f : FA) : FS := fun σ => (f σ).bind fun ds => match ds with
  | [x, y, z] => .ret (.nx (((σ.set i (some (.sh x))).set j (some (.sh y))).set k (some (.sh z))))
  | _ => .fail
theorem ds_par {i j : Nat} {x y : Str} {a b : Expr} {fa : FA} {px py pt : Pos} {kt k2 pt2} (hc : X.calm = true) (hN : X.N.Nodup) (hi : X.N[i]? = some x) (hj : X.N[j]? = some y) (hij : i ≠ j)
    (hx : X.env.scope.names.lookup x = some .local) (hy : X.env.scope.names.lookup y = some .local) (ha : DA X G [a, b] fa) (hw : swappedStores [.Tuple [.Name x px, .Name y py] kt pt] (.Tuple [a, b] k2 pt2) X.env = pure (some [x, y]))
    (hs : swapsWithSole [.Tuple [.Name x px, .Name y py] kt pt] (.Tuple [a, b] k2 pt2) pos.line X.env = pure false := by rfl) : DS X G (.Assign [.Tuple [.Name x px, .Name y py] kt pt] (.Tuple [a, b] k2 pt2) pos) (fPar i j fa) := .mk fun E =>
  PS.imp (ps_par hc hN hi hj hij hx hy (ha.un E) hw hs) fun D σ H ⟨W, N, σd, F, q⟩ => by
    refine ⟨W, N, σd, F, Tr.al_mono (fun _ _ z => z) (fun ds m h vs W1 H1 _ a1 k1 r1 => ?_) _ _ ((Tr.al_bind _ _).mp q)⟩
    split at h
    · simp only [RpL] at r1
      obtain ⟨v, us, rfl, r2, w, us', rfl, r3, rfl⟩ := r1
      exact ⟨v, w, rfl, h _ W1 H1 a1.le (((F.adv a1 k1).set i r2).set j r3)⟩
    · exact h.elim
theorem ds_par3 {i j k : Nat} {x y z : Str} {a b c : Expr} {fa : FA} {px py pz pt : Pos} {kt k2 pt2} (hc : X.calm = true) (hN : X.N.Nodup) (hi : X.N[i]? = some x) (hj : X.N[j]? = some y) (hk : X.N[k]? = some z) (hij : i ≠ j) (hik : i ≠ k) (hjk : j ≠ k)
    (hx : X.env.scope.names.lookup x = some .local) (hy : X.env.scope.names.lookup y = some .local) (hz : X.env.scope.names.lookup z = some .local) (ha : DA X G [a, b, c] fa)
    (hw : swappedStores [.Tuple [.Name x px, .Name y py, .Name z pz] kt pt] (.Tuple [a, b, c] k2 pt2) X.env = pure (some [x, y, z]))
    (hs : swapsWithSole [.Tuple [.Name x px, .Name y py, .Name z pz] kt pt] (.Tuple [a, b, c] k2 pt2) pos.line X.env = pure false := by rfl) : DS X G (.Assign [.Tuple [.Name x px, .Name y py, .Name z pz] kt pt] (.Tuple [a, b, c] k2 pt2) pos) (fPar3 i j k fa) := .mk fun E =>
  PS.imp (ps_par3 hc hN hi hj hk hij hik hjk hx hy hz (ha.un E) hw hs) fun D σ H ⟨W, N, σd, F, q⟩ => by
    refine ⟨W, N, σd, F, Tr.al_mono (fun _ _ z => z) (fun ds m h vs W1 H1 _ a1 k1 r1 => ?_) _ _ ((Tr.al_bind _ _).mp q)⟩
    split at h
    · simp only [RpL] at r1
      obtain ⟨v, us, rfl, r2, w, us', rfl, r3, u, us2, rfl, r4, rfl⟩ := r1
      exact ⟨v, w, u, rfl, h _ W1 H1 a1.le ((((F.adv a1 k1).set i r2).set j r3).set k r4)⟩
    · exact h.elim
end
end L3

set_option Elab.async false
set_option linter.all false
set_option maxRecDepth 100000
namespace L3
open PySem PySem.Spec L2
/-! ### what is walked -/
/-- the walk J gives just the things ds, from the world W₀ on -/
structure ItD (G : Gd) (J : It) (ds : List D) (W₀ : Wd) : Prop where
  go : ∀ W H N (i : Nat) d, W₀.le W → Wk W H N → ds[i]? = some d → J.go i H ∧ ∀ x H2, J.yld i H x H2 → ∃ W2, Adv none W H W2 H2 ∧ Wk W2 H2 N ∧ Rp G W2 d x
  stop : ∀ W H N, W₀.le W → Wk W H N → J.stop ds.length H
abbrev FI := DSt → Tr (List D)
def tI (G : Gd) (E : En) (f : FI) : TI := fun σ H R => ∃ W N σd, Fm G E W H N σ σd ∧ (f σd).al no (fun ds m => ∀ J W' H', Adv none W H W' H' → Wk W' H' m → ItD G J ds W' → R J H') N
theorem PI.imp {X : Cx} {tg e : Expr} {t t' : TI} (h : PI X tg e t) (i : ∀ σ H R, t' σ H R → t σ H R) : PI X tg e t' := fun pins s σ H R I q => h pins s σ H R I (i σ H R q)
@[irreducible] def DI (X : Cx) (G : Gd) (tg e : Expr) (f : FI) : Prop := ∀ E, PI X tg e (tI G E f)
section
variable {X : Cx} {G : Gd} {tg e a b : Expr} {pos p : Pos}
theorem DI.mk {f : FI} (h : ∀ E, PI X tg e (tI G E f)) : DI X G tg e f := by unfold DI; exact h
theorem DI.un {f : FI} (h : DI X G tg e f) : ∀ E, PI X tg e (tI G E f) := by unfold DI at h; exact h
def fItL (f : FE) : FI := fun σ => (f σ).bind fun d => match d with
  | .lst ds => .ret ds
  | _ => .fail
def fItT (f : FE) : FI := fun σ => (f σ).bind fun d => match d with
  | .tup ds => .ret ds
  | _ => .fail
/-- lo, lo + 1, .., n of them -/
def intsD (lo : Int) (n : Nat) : List D := (List.range n).map fun (k : Nat) => .int (lo + k)
theorem intsD_len (lo : Int) (n : Nat) : (intsD lo n).length = n := by unfold intsD; simp
theorem intsD_get {lo : Int} {n i : Nat} {d : D} (h : (intsD lo n)[i]? = some d) : i < n ∧ d = .int (lo + i) := by
  unfold intsD at h
  rw [List.getElem?_map] at h
  by_cases hi : i < n
  · rw [List.getElem?_range hi] at h
    cases h
    exact ⟨hi, rfl⟩
  · rw [List.getElem?_eq_none (by simp; omega)] at h
    cases h
theorem itd_rng {W : Wd} {lo : Int} {n : Nat} : ItD G (Itr lo n) (intsD lo n) W := by
  refine ⟨fun W' H N i d l k e => ?_, fun W' H N l k => by show n ≤ _; rw [intsD_len]; exact Nat.le_refl _⟩
  obtain ⟨hi, rfl⟩ := intsD_get e
  refine ⟨hi, fun x H2 hy => ?_⟩
  obtain ⟨rfl, rfl⟩ := hy
  exact ⟨W', .refl _ _ _, k, by simp only [Rp]⟩
def fRng1 (f : FA) : FI := fun σ => (f σ).bind fun ds => match ds with
  | [.int j] => if (decide (-(2 ^ 62) ≤ j) && decide (j < 2 ^ 62)) = true then .ret (intsD 0 j.toNat) else .fail
  | _ => .fail
def fRng2 (f : FA) : FI := fun σ => (f σ).bind fun ds => match ds with
  | [.int i, .int j] => if (decide (-(2 ^ 62) ≤ i) && decide (i < 2 ^ 62) && decide (-(2 ^ 62) ≤ j) && decide (j < 2 ^ 62)) = true then .ret (intsD i (j - i).toNat) else .fail
  | _ => .fail
theorem di_rng1 {f : FA} (hg : Gl X "range") (hm : X.mg "range" = none) (ha : DA X G [a] f) (hs : starEach [a] X.env = [(false, eval a X.env)] := by rfl) : DI X G tg (.Call (.Name "range" p) [a] [] pos) (fRng1 f) := .mk fun E =>
  PI.imp (pi_range1 hg hm (ha.un E) hs) fun σ H R ⟨W, N, σd, F, q⟩ => by
    refine ⟨W, N, σd, F, Tr.al_mono (fun _ _ z => z) (fun d m h v W1 H1 _ a1 k1 r1 => ?_) _ _ ((Tr.al_bind _ _).mp q)⟩
    split at h
    · obtain ⟨w, rfl, r2⟩ := r1.one
      simp only [Rp] at r2
      subst r2
      split at h
      · rename_i z
        simp only [Bool.and_eq_true, decide_eq_true_eq] at z
        exact ⟨_, rfl, z.1, z.2, h _ W1 H1 a1 k1 itd_rng⟩
      · exact h.elim
    · exact h.elim
/-- reversed(range(j)) -/
def downs (n : Nat) : List D := (List.range n).map fun (k : Nat) => .int ((n : Int) - 1 - k)
/-- enumerate, zip -/
def enumD : List D → Nat → List D
  | [], _ => []
  | d :: ds, k => .tup [.int k, d] :: enumD ds (k + 1)
def zipD : List D → List D → List D
  | x :: xs, y :: ys => .tup [x, y] :: zipD xs ys
  | _, _ => []
def fEnum (f : FA) : FI := fun σ => (f σ).bind fun ds => match ds with
  | [.lst ds] => .ret (enumD ds 0)
  | _ => .fail
def fZip (f : FA) : FI := fun σ => (f σ).bind fun ds => match ds with
  | [.lst ds, .lst es] => .ret (zipD ds es)
  | _ => .fail
/-! ### for -/
def loop (g : FG) (fb : FS) : List D → DSt → Tr Fl
  | [], σ => .ret (.nx σ)
  | d :: ds, σ => match g d σ with
    | none => .fail
    | some σ1 => (fb σ1).bind fun r => match r with
      | .nx σ' => loop g fb ds σ'
      | .ct σ' => loop g fb ds σ'
      | .bk σ' => .ret (.nx σ')
      | .rt d => .ret (.rt d)
def fFor (fi : FI) (g : FG) (fb : FS) : FS := fun σ => (fi σ).bind fun ds => loop g fb ds σ
theorem ds_for {iter : Expr} {body : List Stmt} {fi : FI} {g : FG} {fb : FS} (hc : X.calm = true) (hi : DI X G tg iter fi) (hg : DG X G tg g) (hb : DSs X G body fb) (hp : PassesOwn (model X.prog X.w) X.A X.env X.xe := by exact PassesOwn.never)
    (hs : ∀ x, foldedSetIterable iter X.env x = pure x := by intro _; rfl) : DS X G (.For tg iter body [] pos) (fFor fi g fb) := .mk fun E => PS.imp (ps_for hp hc (hi.un E) (hg.un E) (hb.un E) hs) fun Dn σ H ⟨W, N, σd, F, q⟩ => by
  refine ⟨W, N, σd, F, Tr.al_mono (fun _ _ z => z) (fun ds m h J W1 H1 a1 k1 it => ?_) _ _ ((Tr.al_bind _ _).mp q)⟩
  refine ⟨fun i m σ H => m = ds.length - i ∧ i ≤ ds.length ∧ ∃ W2 n σd, W1.le W2 ∧ Fm G E W2 H n σ σd ∧ (loop g fb (ds.drop i) σd).al no (okFl G E W Dn) n, ⟨ds.length, by simp, Nat.zero_le _, W1, m, σd, .refl _, F.adv a1 k1, h⟩, ?_⟩
  rintro i m σ H ⟨rfl, hi, W2, n, σd, l, F, q⟩
  by_cases hlt : i < ds.length
  · refine .inr ?_
    have hd : ds.drop i = ds[i] :: ds.drop (i + 1) := List.drop_eq_getElem_cons hlt
    obtain ⟨hgo, hy⟩ := it.go W2 H n i ds[i] l F.wk (List.getElem?_eq_getElem hlt)
    rw [hd] at q
    unfold loop at q
    split at q
    · exact q.elim
    · rename_i σ1 e1
      refine ⟨hgo, fun σ' H' => ∃ W3 n3 σd3, W1.le W3 ∧ Fm G E W3 H' n3 σ' σd3 ∧ (loop g fb (ds.drop (i + 1)) σd3).al no (okFl G E W Dn) n3, fun σ' H' z => ⟨ds.length - (i + 1), by omega, rfl, hlt, z⟩, fun x H2 y => ?_⟩
      obtain ⟨W3, a3, k3, r3⟩ := hy x H2 y
      refine ⟨W3, n, σd, ds[i], σ1, F.adv a3 k3, r3, e1, fun σ' W' H' l' F' => ?_⟩
      refine ⟨W', n, σ1, F', Tr.al_mono (fun _ _ z => z) (fun r m h => ?_) _ _ ((Tr.al_bind _ _).mp q)⟩
      have lw : W1.le W' := l.trans (a3.le.trans l')
      cases r with
      | nx σ2 => exact fun σ3 W4 H4 l4 F4 => ⟨W4, m, σ2, lw.trans l4, F4, h⟩
      | ct σ2 => exact fun σ3 W4 H4 l4 F4 => ⟨W4, m, σ2, lw.trans l4, F4, h⟩
      | bk σ2 => exact fun σ3 W4 H4 l4 F4 => h σ3 W4 H4 (a1.le.trans (lw.trans l4)) F4
      | rt d => exact h
  · have e : i = ds.length := by omega
    subst e
    rw [List.drop_length] at q
    exact .inl ⟨it.stop W2 H n l F.wk, q σ W2 H (a1.le.trans l) F⟩
/-! ### while -/
def wloop (fc : FT) (fb : FS) : Nat → DSt → Tr Fl
  | 0, _ => .fail
  | n + 1, σ => (fc σ).bind fun b => if b = true then (fb σ).bind fun r => match r with
      | .nx σ' => wloop fc fb n σ'
      | .ct σ' => wloop fc fb n σ'
      | .bk σ' => .ret (.nx σ')
      | .rt d => .ret (.rt d)
    else .ret (.nx σ)
def FUEL : Nat := 1000000000
def fWhile (fc : FT) (fb : FS) : FS := fun σ => wloop fc fb FUEL σ
theorem ds_while {c : Expr} {body : List Stmt} {fc : FT} {fb : FS} (hc : DT X G c fc) (hb : DSs X G body fb) (hp : PassesOwn (model X.prog X.w) X.A X.env X.xe := by exact PassesOwn.never) : DS X G (.While c body [] pos) (fWhile fc fb) := .mk fun E =>
  PS.imp (ps_while hp (hc.un E) (hb.un E)) fun Dn σ H ⟨W, N, σd, F, q⟩ => by
    refine ⟨fun m σ H => ∃ W2 n σd, W.le W2 ∧ Fm G E W2 H n σ σd ∧ (wloop fc fb m σd).al no (okFl G E W Dn) n, ⟨FUEL, W, N, σd, .refl _, F, q⟩, ?_⟩
    rintro m σ H ⟨W2, n, σd, l, F, q⟩
    cases m with
    | zero => exact q.elim
    | succ m =>
      unfold wloop at q
      refine ⟨W2, n, σd, F, Tr.al_mono (fun _ _ z => z) (fun b m1 h W3 H3 a3 k3 => ?_) _ _ ((Tr.al_bind _ _).mp q)⟩
      cases b with
      | false => exact h σ W3 H3 (l.trans a3.le) (F.adv a3 k3)
      | true =>
        refine ⟨fun σ' H' => ∃ W4 n4 σd4, W.le W4 ∧ Fm G E W4 H' n4 σ' σd4 ∧ (wloop fc fb m σd4).al no (okFl G E W Dn) n4, fun σ' H' z => ⟨m, Nat.lt_succ_self _, z⟩, ?_⟩
        refine ⟨W3, m1, σd, F.adv a3 k3, Tr.al_mono (fun _ _ z => z) (fun r m h => ?_) _ _ ((Tr.al_bind _ _).mp h)⟩
        have lw := l.trans a3.le
        cases r with
        | nx σ2 => exact fun σ3 W4 H4 l4 F4 => ⟨W4, m, σ2, lw.trans l4, F4, h⟩
        | ct σ2 => exact fun σ3 W4 H4 l4 F4 => ⟨W4, m, σ2, lw.trans l4, F4, h⟩
        | bk σ2 => exact fun σ3 W4 H4 l4 F4 => h σ3 W4 H4 (lw.trans l4) F4
        | rt d => exact h
/-! ### comprehensions -/
def cloop (g : FG) (ft : FT) (fe : FE) (σ : DSt) : List D → List D → Tr D
  | [], acc => .ret (.lst acc)
  | d :: ds, acc => match g d σ with
    | none => .fail
    | some σ1 => (ft σ1).bind fun b => if b = true then (fe σ1).bind fun y => cloop g ft fe σ ds (acc ++ [y]) else cloop g ft fe σ ds acc
def wipeD (σ : DSt) : List Nat → DSt
  | [] => σ
  | v :: vs => (wipeD σ vs).set v none
def fLc (fi : FI) (g : FG) (ft : FT) (fe : FE) (vs : List Nat) : FE := fun σ => (fi σ).bind fun ds => if ds.length < 1000000 then cloop g ft fe (wipeD σ vs) ds [] else .fail
@[irreducible] def DTs (X : Cx) (G : Gd) (es : List Expr) (f : FT) : Prop := ∀ E, PTs X es (tT G E f)
def fYes : FT := fun _ => .ret true
section
variable {E : En} {W W' : Wd} {H H' : Hp} {N : Nat} {σ : St} {σd : DSt} {C : Addr} {o : HO}
theorem Wk.poke (k : Wk W H N) (hS : W.S C = .none) (hm : ∀ m c l, (m, c, l) ∈ W.mu → C ≠ m ∧ C ≠ c ∧ C ≠ l) : Wk W (upd H C o) N := by
  refine ⟨fun b u e => ?_, fun m c l z => ?_, k.d, k.n⟩
  · rw [upd_ne (ne_of_none e hS)]
    exact k.s b u e
  · obtain ⟨⟨⟨n, cs, ls, h1, h2, h3, h4, h5, h6⟩, ne⟩, h7⟩ := k.m m c l z
    obtain ⟨n1, n2, n3⟩ := hm m c l z
    exact ⟨⟨⟨n, cs, ls, h1, by rw [upd_ne n1.symm]; exact h2, by rw [upd_ne n2.symm]; exact h3, h4, by rw [upd_ne n3.symm]; exact h5, h6⟩, ne⟩, h7⟩
end
end
end L3

set_option Elab.async false
set_option linter.all false
set_option maxRecDepth 100000
namespace L3
open PySem PySem.Spec L2
section
variable {X : Cx} {G : Gd} {elt iter tg : Expr} {ifs : List Expr} {scope : Scope} {pos px pt : Pos} {i j : Nat} {x y : Str} {fi : FI} {ft : FT} {fe : FE}
end
/-! ### defs -/
/-- what a def of k arguments promises: f, as a function of data -/
def spD (G : Gd) (k : Nat) (f : List D → Tr D) : Sp := fun vs H Q _ => ∃ W N ds, ds.length = k ∧ RpL G W ds vs ∧ Wk W H N ∧ (f ds).al no (fun d m => ∀ v W' H', Adv none W H W' H' → Wk W' H' m → Rp G W' d v → Q v H') N
theorem spD_len {G : Gd} {k : Nat} {f : List D → Tr D} {vs : List V} {H : Hp} {Q : VK} {E : XK} (h : spD G k f vs H Q E) : vs.length = k := by
  obtain ⟨W, N, ds, e, r, _⟩ := h
  rw [← r.length]; exact e
def startD (n : Nat) (ds : List D) : DSt := ds.map (fun d => some (.sh d)) ++ List.replicate (n - ds.length) none
/-- a body run -/
def run (n : Nat) (f : FS) : List D → Tr D := fun ds => (f (startD n ds)).bind fun r => match r with
  | .rt d => .ret d
  | .nx _ => .ret .non
  | _ => .fail
theorem start_fm {G : Gd} {W : Wd} {H : Hp} {M : Nat} {N : List Str} {ds : List D} {vs : List V} (r : RpL G W ds vs) (k : Wk W H M) : Fm G ⟨W, H, none⟩ W H M (start N vs) (startD N.length ds) := by
  have hl := r.length
  have key : ∀ (i : Nat) (s : Sl), (startD N.length ds)[i]? = some (some s) → ∃ d, ds[i]? = some d ∧ s = .sh d := fun i s e => by
    unfold startD at e
    by_cases hi : i < ds.length
    · rw [List.getElem?_append_left (by simpa using hi), List.getElem?_map, List.getElem?_eq_getElem hi] at e
      cases e
      exact ⟨_, List.getElem?_eq_getElem hi, rfl⟩
    · rw [List.getElem?_append_right (by simpa using hi), List.getElem?_replicate] at e
      split at e <;> cases e
  refine ⟨k, .refl _ _ _, fun x z => absurd (show (none : Option Addr) = some x from z) (by simp), ?_, fun i s e => ?_, fun i j s s' v hij e e' o => ?_, fun i s a e o => ?_, fun x s z => absurd (show (none : Option Addr) = some x from z) (by simp)⟩
  · unfold startD L2.start
    simp only [List.length_append, List.length_map, List.length_replicate, hl]
  · obtain ⟨d, e1, rfl⟩ := key i s e
    obtain ⟨v, e2, r2⟩ := r.get e1
    refine ⟨v, ?_, r2⟩
    unfold L2.start
    have hi : i < vs.length := (List.getElem?_eq_some_iff.mp e2).1
    rw [List.getElem?_append_left (by simpa using hi), List.getElem?_map, e2]
    rfl
  · obtain ⟨d, e1, rfl⟩ := key i s e
    cases o
  · obtain ⟨d, e1, rfl⟩ := key i s e
    cases o
/-- THE RULE for a def -/
theorem body_ok {X : Cx} {G : Gd} {f : FS} {body : List Stmt} {N : List Str} {k : Nat} {vs : List V} {H : Hp} {Q : VK} {E : XK} (h : DSs X G body f) (sp : spD G k (run N.length f) vs H Q E) :
    ∃ t, Wr (PSs X body t) ∧ t { nx := fun _ H' => Q .non H', rt := Q } (start N vs) H := by
  obtain ⟨W, M, ds, e, r, k, q⟩ := sp
  refine ⟨tS G ⟨W, H, none⟩ f, .mk (h.un _), W, M, startD N.length ds, start_fm r k, Tr.al_mono (fun _ _ z => z) (fun r m h => ?_) _ _ ((Tr.al_bind _ _).mp q)⟩
  cases r with
  | nx σ' => exact fun σ' W' H' _ F => h .non W' H' F.ent F.wk (by simp only [Rp])
  | rt d => exact fun v W' H' a _ k r => h v W' H' a k r
  | bk σ' => exact h.elim
  | ct σ' => exact h.elim
section
variable {P : Program} {w : World} {K : PySem.W.Frag} {mg : Str → Option Value} {base : Heap} {x qual : Str} {st : Stmt} {fa : Addr} {fd : FuncData} {N ps : List Str} {k : Nat} {G : Gd} {f : FS}
theorem fun_ok {n kk : Nat} (F : Fun K x qual st fa fd) (S : FnScope N ps (defScope st)) (hn : N.length = n) (hk : ps.length = kk) (hb : ∀ (cdv : Value) (A : Around) (outer : List Env) (s : Shared) (H : Hp) (E : XK), Room k (A.deeper (PyProof.Rows.envOfC qual (defScope st) s.heap.objs.size fa cdv)) → DSs (cxOf CX0 P w K mg base N qual (defScope st) fa cdv A outer s H E).nox G (defBody st) f) :
    FnOk P w K mg base CX0 (k + 1) fa fd ps (spD G kk (run n f)) := by
  subst hn hk
  exact F.okW S (fun vs H Q E h => spD_len h) fun cdv A outer s H vs Q E hr h => body_ok (hb cdv A outer s H E hr) h
theorem fund_ok {n kk : Nat} {dV kV : Value} (F : FunD K x qual st fa fd dV kV) (S : FnScope N ps (defScope st)) (hn : N.length = n) (hk : ps.length = kk) (hb : ∀ (cdv : Value) (A : Around) (outer : List Env) (s : Shared) (H : Hp) (E : XK), Room k (A.deeper (PyProof.Rows.envOfC qual (defScope st) s.heap.objs.size fa cdv)) → DSs (cxOf CX0 P w K mg base N qual (defScope st) fa cdv A outer s H E).nox G (defBody st) f) :
    FnOk P w K mg base CX0 (k + 1) fa fd ps (spD G kk (run n f)) := by
  subst hn hk
  exact F.okW S (fun vs H Q E h => spD_len h) fun cdv A outer s H vs Q E hr h => body_ok (hb cdv A outer s H E hr) h
end
/-! ### calls of own defs -/
section
variable {X : Cx} {G : Gd} {x : Str} {p pos : Pos} {e : Expr} {es : List Expr} {kws : List Keyword} {k n : Nat} {ps ks : List Str} {f : List D → Tr D} {fa fk : FA}
theorem sp_of {W : Wd} {H : Hp} {m : Nat} {ds : List D} {vs : List V} {Q : VK} {E : XK} (hn : ds.length = n) (r : RpL G W ds vs) (k : Wk W H m) (h : (f ds).al no (fun d m => ∀ v W' H', Adv none W H W' H' → Wk W' H' m → Rp G W' d v → Q v H') m) : spD G n f vs H Q E := ⟨W, m, ds, hn, r, k, h⟩
theorem de_cal (C : Cal X.prog X.w X.K X.mg X.base k x ps (spD G n f)) (hr : Room k X.A) (hg : Gl X x) (ha : DA X G (e :: es) fa) (hn : (e :: es).length = n := by rfl) (hdb : (x == ("__debug__" : Str)) = false := by decide)
    (he : starEach (e :: es) X.env = (false, eval e X.env) :: starEach es X.env := by rfl) (hpl : (backTo pos (starEach es X.env)).any (·.1) = false := by rfl) : DE X G (.Call (.Name x p) (e :: es) [] pos) (fCall f fa) := .mk fun E =>
  PE.imp (pe_cal C hr hg (ha.un E) hdb he hpl) fun σ H Q ⟨W, N, σd, F, q⟩ => by
    refine ⟨W, N, σd, F, Tr.al_mono (fun _ _ z => z) (fun ds m h vs W1 H1 l1 a1 k1 r1 => ?_) _ _ ((Tr.al_bind _ _).mp q)⟩
    show spD G n f (vs ++ []) H1 Q E0
    rw [List.append_nil]
    exact sp_of (l1.trans hn) r1 k1 (Tr.al_mono (fun _ _ z => z) (fun d m3 h3 v' W3 H3 a3 k3 r3 => h3 v' W3 H3 (a1.tr k1 a3) k3 r3) _ _ h)
/-- by places and names; gD puts data as gV puts values -/
structure PutD (G : Gd) (n a b : Nat) (gV : List V → List V → List V) (gD : List D → List D → List D) : Prop where
  len : ∀ ds es, ds.length = a → es.length = b → (gD ds es).length = n
  rel : ∀ W ds es vs us, ds.length = a → es.length = b → RpL G W ds vs → RpL G W es us → RpL G W (gD ds es) (gV vs us)
def fCallK (f : List D → Tr D) (gD : List D → List D → List D) (fa fk : FA) : FE := fun σ => (fa σ).bind fun ds => (fk σ).bind fun es => f (gD ds es)
theorem callK_imp {E : En} {a b : Nat} {gV : List V → List V → List V} {gD : List D → List D → List D} (hp : PutD G n a b gV gD) (σ : St) (H : Hp) (Q : VK) (h : tE G E (fCallK f gD fa fk) σ H Q) : tCallK (spD G n f) gV E0 (tA G E a fa) (tA G E b fk) σ H Q := by
  obtain ⟨W, N, σd, F, q⟩ := h
  refine ⟨W, N, σd, F, Tr.al_mono (fun _ _ z => z) (fun ds m h vs W1 H1 l1 a1 k1 r1 => ?_) _ _ ((Tr.al_bind _ _).mp q)⟩
  refine ⟨W1, m, σd, F.adv a1 k1, Tr.al_mono (fun _ _ z => z) (fun es m2 h2 us W2 H2 l2 a2 k2 r2 => ?_) _ _ ((Tr.al_bind _ _).mp h)⟩
  exact sp_of (hp.len ds es l1 l2) (hp.rel W2 ds es vs us l1 l2 (RpL.mono a2.le _ _ r1) r2) k2 (Tr.al_mono (fun _ _ z => z) (fun d m3 h3 v' W3 H3 a3 k3 r3 => h3 v' W3 H3 (a1.tr k1 (a2.tr k2 a3)) k3 r3) _ _ h2)
theorem de_calP {gV : List V → List V → List V} {gD : List D → List D → List D} (C : CalK X.prog X.w X.K X.mg X.base k x ps ks gV (spD G n f)) (hp : PutD G n (e :: es).length kws.length gV gD) (hr : Room k X.A) (hg : Gl X x) (ha : DA X G (e :: es) fa) (hkw : DK X G kws fk) (hall : (backToKw pos (keywordEach kws X.env)).all (·.1.isSome) = true := by rfl)
    (hks : (backToKw pos (keywordEach kws X.env)).filterMap (·.1) = ks := by rfl) (hdb : (x == ("__debug__" : Str)) = false := by decide) (he : starEach (e :: es) X.env = (false, eval e X.env) :: starEach es X.env := by rfl)
    (hpl : ((backTo pos (starEach (e :: es) X.env)).any (·.1) || (backToKw pos (keywordEach kws X.env)).any (·.1.isNone)) = false := by rfl) : DE X G (.Call (.Name x p) (e :: es) kws pos) (fCallK f gD fa fk) := .mk fun E =>
  PE.imp (we_calP C hr hg (.mk (ha.un E)) (.mk (hkw.un E)) hall hks hdb he hpl).un fun σ H Q h => callK_imp hp σ H Q h
theorem de_calK {gV : List V → List V → List V} {gD : List D → List D → List D} (C : CalK X.prog X.w X.K X.mg X.base k x ps ks gV (spD G n f)) (hp : PutD G n 0 kws.length gV gD) (hr : Room k X.A) (hg : Gl X x) (hkw : DK X G kws fk) (hall : (backToKw pos (keywordEach kws X.env)).all (·.1.isSome) = true := by rfl)
    (hks : (backToKw pos (keywordEach kws X.env)).filterMap (·.1) = ks := by rfl) (hdb : (x == ("__debug__" : Str)) = false := by decide)
    (hpl : ((backTo pos (starEach [] X.env)).any (·.1) || (backToKw pos (keywordEach kws X.env)).any (·.1.isNone)) = false := by rfl) : DE X G (.Call (.Name x p) [] kws pos) (fCallK f gD fNil fk) := .mk fun E =>
  PE.imp (we_calK C hr hg (.mk (hkw.un E)) hall hks hdb hpl).un fun σ H Q ⟨W, N, σd, F, q⟩ => by
    refine ⟨W, N, σd, F, Tr.al_mono (fun _ _ z => z) (fun es m2 h2 us W2 H2 l2 a2 k2 r2 => ?_) _ _ ((Tr.al_bind _ _).mp q)⟩
    exact sp_of (E := E0) (hp.len [] es rfl l2) (hp.rel W2 [] es [] us rfl l2 RpL.nil r2) k2 (Tr.al_mono (fun _ _ z => z) (fun d m3 h3 v' W3 H3 a3 k3 r3 => h3 v' W3 H3 (a2.tr k2 a3) k3 r3) _ _ h2)
/-- f(e, ..), defaults left out -/
theorem de_calD {gV : List V → List V → List V} {gD : List D → List D → List D} (C : CalK X.prog X.w X.K X.mg X.base k x ps [] gV (spD G n f)) (hp : PutD G n (e :: es).length 0 gV gD) (hr : Room k X.A) (hg : Gl X x) (ha : DA X G (e :: es) fa) (hdb : (x == ("__debug__" : Str)) = false := by decide) (he : starEach (e :: es) X.env = (false, eval e X.env) :: starEach es X.env := by rfl)
    (hpl : (backTo pos (starEach es X.env)).any (·.1) = false := by rfl) : DE X G (.Call (.Name x p) (e :: es) [] pos) (fCallK f gD fa fNil) := .mk fun E =>
  PE.imp (we_calD C hr hg (.mk (ha.un E)) hdb he hpl).un fun σ H Q h => by
    obtain ⟨W, N, σd, F, q⟩ := h
    refine ⟨W, N, σd, F, Tr.al_mono (fun _ _ z => z) (fun ds m h vs W1 H1 l1 a1 k1 r1 => ?_) _ _ ((Tr.al_bind _ _).mp q)⟩
    exact sp_of (E := E0) (hp.len ds [] l1 rfl) (hp.rel W1 ds [] vs [] l1 rfl r1 RpL.nil) k1 (Tr.al_mono (fun _ _ z => z) (fun d m3 h3 v' W3 H3 a3 k3 r3 => h3 v' W3 H3 (a1.tr k1 a3) k3 r3) _ _ h)
end
end L3

set_option Elab.async false
set_option linter.all false
set_option maxRecDepth 100000
namespace L3
open PySem PySem.Spec L2
/-! ### draws -/
structure M0 (H : Hp) (m c l : Addr) (n : Nat) : Prop where
  ex : ∃ (k : Nat) (cs ls : List Int), k ≤ n ∧ H m = some (.dK (mkv c l k)) ∧ H c = some (.lst (cs.map V.int)) ∧ Cells cs ∧ H l = some (.lst (ls.map V.int)) ∧ ls.length ≤ 63
  ne : c ≠ l
/-- all but m and l is kept -/
def Keep (m l : Addr) (H H' : Hp) : Prop := ∀ b o, H b = some o → b ≠ m → b ≠ l → H' b = some o
theorem Keep.trans {m l : Addr} {H H1 H2 : Hp} (a : Keep m l H H1) (b : Keep m l H1 H2) : Keep m l H H2 := fun c o e h1 h2 => b c o (a c o e h1 h2) h1 h2
theorem Same.keep {m l : Addr} {H H1 : Hp} (a : Same H H1) : Keep m l H H1 := fun c o e _ _ => a c o e
def spDraw0 : Sp := fun vs H Q _ => ∃ (m c l : Addr) (n : Nat) (t : Int), vs = [.ref m, .int t] ∧ M0 H m c l n ∧ n < 2 ^ 30 ∧ 0 < t ∧ t < 1073741824 ∧
  ∀ (r : Int) (H' : Hp), 0 ≤ r → r < t → M0 H' m c l (n + 1) → Keep m l H H' → Q (.int r) H'
def spBegun0 (K : PySem.W.Frag) : Sp := fun vs H Q _ => ∃ (a : Addr) (ns : List Int), vs = [.ref a] ∧ SqL K H a (ns.map V.int) ∧ ns.length ≤ 63 ∧ ∀ (m c l : Addr) (H' : Hp), Same H H' → H m = none → H c = none → H l = none → M0 H' m c l 0 → Q (.ref m) H'
def gDraw : List D → Tr D
  | [.mach, .int t] => .draw t fun r => .ret (.int r)
  | _ => .fail
def intsOf : List D → Option (List Int)
  | [] => some []
  | .int i :: ds => (intsOf ds).map (i :: ·)
  | _ => none
def gBegun : List D → Tr D
  | [.lst ds] => match intsOf ds with
    | some ns => if ns.length ≤ 63 then .ret .mach else .fail
    | none => .fail
  | _ => .fail
section
variable {G : Gd} {vs : List V} {H : Hp} {Q : VK} {E : XK}
theorem intsOf_rp {W : Wd} : ∀ {ds : List D} {ns : List Int} {vs : List V}, intsOf ds = some ns → RpL G W ds vs → vs = ns.map V.int
  | [], _, _, h, r => by simp only [intsOf, Option.some.injEq] at h; simp only [RpL] at r; subst h r; rfl
  | d :: ds, ns, vs, h, r => by
    simp only [RpL] at r
    obtain ⟨v, us, rfl, r1, r2⟩ := r
    cases d <;> simp only [intsOf] at h <;> first | (cases h; done) | skip
    rename_i i
    rw [Option.map_eq_some_iff] at h
    obtain ⟨ns', e1, e2⟩ := h
    subst e2
    simp only [Rp] at r1
    rw [r1, intsOf_rp e1 r2]
    rfl
theorem intsOf_ints : ∀ ns : List Int, intsOf (ns.map D.int) = some ns
  | [] => rfl
  | n :: ns => by rw [List.map_cons]; simp only [intsOf]; rw [intsOf_ints ns]; rfl
theorem draw_imp (h : spD G 2 gDraw vs H Q E) : spDraw0 vs H Q E := by
  obtain ⟨W, N, ds, e, r, k, q⟩ := h
  unfold gDraw at q
  split at q
  · rename_i t
    obtain ⟨m', hN, t0, t1, q⟩ := q
    simp only [RpL, Rp] at r
    obtain ⟨v, us, rfl, ⟨m, c, l, hm, rfl⟩, v2, us2, rfl, rfl, rfl⟩ := r
    obtain ⟨⟨⟨n, cs, ls, h1, h2, h3, h4, h5, h6⟩, ne⟩, s1, s2, s3⟩ := k.m m c l hm
    unfold LIM at h1
    refine ⟨m, c, l, n, t, rfl, ⟨⟨n, cs, ls, Nat.le_refl _, h2, h3, h4, h5, h6⟩, ne⟩, by omega, t0, t1, fun x H' x0 x1 M1 kp => ?_⟩
    obtain ⟨⟨n', cs', ls', g1, g2, g3, g4, g5, g6⟩, ne'⟩ := M1
    have nmc : m ≠ c := ne_of h2 h3 (by intro z; cases z)
    have nml : m ≠ l := ne_of h2 h5 (by intro z; cases z)
    refine q x x0 x1 (.int x) W H' ⟨.refl _, fun b o e hb _ => kp b o e (hb m c l hm).1 (hb m c l hm).2, fun b h _ => h, fun m c l h => .inl h⟩ ⟨fun b u e => ?_, fun m2 c2 l2 hx => ?_, k.d, by have := k.n; omega⟩ (by simp only [Rp])
    · exact kp b u (k.s b u e) (ne_of_none e s1) (ne_of_none e s3)
    · obtain ⟨⟨⟨j, ds, es, d1, d2, d3, d4, d5, d6⟩, nd⟩, u1, u2, u3⟩ := k.m m2 c2 l2 hx
      refine ⟨?_, u1, u2, u3⟩
      by_cases heq : (m2, c2, l2) = (m, c, l)
      · cases heq
        exact ⟨⟨n', cs', ls', by unfold LIM; omega, g2, g3, g4, g5, g6⟩, ne'⟩
      · obtain ⟨x1, x2, x3, x4, x5, x6⟩ := k.d m c l m2 c2 l2 hm hx (fun z => heq z.symm)
        refine ⟨⟨j, ds, es, by omega, kp _ _ d2 x1.symm x4.symm, kp _ _ d3 x2.symm x5.symm, d4, kp _ _ d5 x3.symm x6.symm, d6⟩, nd⟩
  · exact q.elim
theorem begun_imp (h : spD G 1 gBegun vs H Q E) : spBegun0 G.K vs H Q E := by
  obtain ⟨W, N, ds, e, r, k, q⟩ := h
  unfold gBegun at q
  split at q
  · rename_i ds
    split at q
    · rename_i ns en
      split at q
      · rename_i hl
        simp only [RpL, Rp] at r
        obtain ⟨v, us, rfl, ⟨a, ws, rfl, h1, h2⟩, rfl⟩ := r
        have := intsOf_rp en h2
        subst this
        refine ⟨a, ns, rfl, sqL_mono k.s h1, hl, fun m c l H' s hm hc hl M1 => ?_⟩
        obtain ⟨⟨n', cs', ls', g1, g2, g3, g4, g5, g6⟩, ne'⟩ := M1
        refine q (.ref m) ⟨W.S, (m, c, l) :: W.mu⟩ H' ⟨⟨.refl _, fun x hx => List.mem_cons_of_mem _ hx⟩, fun b o e _ _ => s b o e, fun b h _ => h, fun m' c' l' h => ?_⟩ ⟨fun b u e => s _ _ (k.s b u e), fun m' c' l' h => ?_, fun m1 c1 l1 m2 c2 l2 h1 h2 ne => ?_, k.n⟩ (by simp only [Rp]; exact ⟨m, c, l, List.mem_cons_self, rfl⟩)
        · rcases List.mem_cons.mp h with z | z
          · cases z; exact .inr ⟨hm, hc, hl⟩
          · exact .inl z
        · rcases List.mem_cons.mp h with z | z
          · cases z
            refine ⟨⟨⟨n', cs', ls', ?_, g2, g3, g4, g5, g6⟩, ne'⟩, k.none hm, k.none hc, k.none hl⟩
            have := k.n
            omega
          · obtain ⟨t1, t2⟩ := k.m m' c' l' z
            exact ⟨t1.same s, t2⟩
        · rcases List.mem_cons.mp h1 with z1 | z1 <;> rcases List.mem_cons.mp h2 with z2 | z2
          · exact absurd (z1.trans z2.symm) ne
          · cases z1
            obtain ⟨t1, t2, t3⟩ := (k.m m2 c2 l2 z2).1.there
            exact ⟨fun z => t1 (by rw [← z]; exact hm), fun z => t2 (by rw [← z]; exact hm), fun z => t3 (by rw [← z]; exact hm), fun z => t1 (by rw [← z]; exact hl), fun z => t2 (by rw [← z]; exact hl), fun z => t3 (by rw [← z]; exact hl)⟩
          · cases z2
            obtain ⟨t1, t2, t3⟩ := (k.m m1 c1 l1 z1).1.there
            exact ⟨fun z => t1 (by rw [z]; exact hm), fun z => t1 (by rw [z]; exact hc), fun z => t1 (by rw [z]; exact hl), fun z => t3 (by rw [z]; exact hm), fun z => t3 (by rw [z]; exact hc), fun z => t3 (by rw [z]; exact hl)⟩
          · exact k.d m1 c1 l1 m2 c2 l2 z1 z2 ne
      · exact q.elim
    · exact q.elim
  · exact q.elim
end
end L3

set_option Elab.async false
set_option linter.all false
set_option maxRecDepth 100000
namespace L3
open PySem PySem.Spec L2
section
variable {X : Cx} {G : Gd} {a b c e o : Expr} {es rest : List Expr} {pos p apos cpos p2 : Pos}
/-! ### a < b < c -/
def fChain (g g' : D → D → Tr D) (fa fb fc : FE) : FE := fun σ => (fa σ).bind fun x => (fb σ).bind fun y => (g x y).bind fun z => match z with
  | .bl k => if k = true then (fc σ).bind fun u => g' y u else .ret (.bl false)
  | _ => .fail
theorem chain_imp {E : En} {r r' : R2} {g g' : D → D → Tr D} {fa fb fc : FE} (h1 : OpD G r g) (h2 : OpD G r' g') {Q : VK} (σ : St) (H : Hp) (h : tE G E (fChain g g' fa fb fc) σ H Q) : tChain r r' (tE G E fa) (tE G E fb) (tE G E fc) σ H Q := by
  obtain ⟨W, N, σd, F, q⟩ := h
  refine ⟨W, N, σd, F, Tr.al_mono (fun _ _ z => z) (fun x m h v W1 H1 a1 k1 r1 => ?_) _ _ ((Tr.al_bind _ _).mp q)⟩
  refine ⟨W1, m, σd, F.adv a1 k1, Tr.al_mono (fun _ _ z => z) (fun y m2 hh u W2 H2 a2 k2 r2 => ?_) _ _ ((Tr.al_bind _ _).mp h)⟩
  refine h1 x y W2 H2 m2 v u _ k2 (Rp.mono a2.le _ _ r1) r2 (Tr.al_mono (fun _ _ z => z) (fun d m3 h3 v' W3 H3 a3 k3 r3 => ?_) _ _ ((Tr.al_bind _ _).mp hh))
  cases d with
  | bl k =>
    simp only [Rp] at r3
    refine ⟨k, r3, ?_⟩
    have a13 := a1.tr k1 (a2.tr k2 a3)
    cases k with
    | false => exact h3 _ W3 H3 a13 k3 (by simp only [Rp])
    | true =>
      refine ⟨W3, m3, σd, F.adv a13 k3, Tr.al_mono (fun _ _ z => z) (fun z m4 h4 w W4 H4 a4 k4 r4 => ?_) _ _ ((Tr.al_bind _ _).mp h3)⟩
      exact h2 y z W4 H4 m4 u w Q k4 (Rp.mono (a3.tr k3 a4).le _ _ r2) r4 (Tr.al_mono (fun _ _ z => z) (fun d m5 h5 v' W5 H5 a5 k5 r5 => h5 v' W5 H5 (a13.tr k3 (a4.tr k4 a5)) k5 r5) _ _ h4)
  | _ => exact h3.elim
theorem de_chain {op op' : CmpOp} {r r' : R2} {g g' : D → D → Tr D} {fa fb fc : FE} (ho : OpR X (compareOp op) r) (hd : OpD G r g) (ho' : OpR X (compareOp op') r') (hd' : OpD G r' g') (ha : DE X G a fa) (hb : DE X G b fb) (hc : DE X G c fc) (hm : lastMarks [op, op'] [b, c] = false := by with_unfolding_all rfl) :
    DE X G (.Compare a [op, op'] [b, c] pos) (fChain g g' fa fb fc) := .mk fun E => PE.imp (pe_chain ho ho' (ha.un E) (hb.un E) (hc.un E) hm) fun σ H Q h => chain_imp hd hd' σ H h
theorem dt_chain {op op' : CmpOp} {r r' : R2} {g g' : D → D → Tr D} {fa fb fc : FE} (ho : OpR X (compareOp op) r) (hd : OpD G r g) (ho' : OpR X (compareOp op') r') (hd' : OpD G r' g') (ha : DE X G a fa) (hb : DE X G b fb) (hc : DE X G c fc) (hm : lastMarks [op, op'] [b, c] = false := by with_unfolding_all rfl) :
    DT X G (.Compare a [op, op'] [b, c] pos) (fTst (fChain g g' fa fb fc)) := .mk fun E => PT.imp (pt_chain ho ho' (ha.un E) (hb.un E) (hc.un E) hm) fun σ H Q ⟨W, N, σd, F, q⟩ => by
  refine chain_imp hd hd' σ H ⟨W, N, σd, F, Tr.al_mono (fun _ _ z => z) (fun d m h v W1 H1 a1 k1 r1 => ?_) _ _ ((Tr.al_bind _ _).mp q)⟩
  cases d with
  | bl b => simp only [Rp] at r1; exact ⟨b, r1, h W1 H1 a1 k1⟩
  | _ => exact h.elim
/-! ### isinstance -/
def D.tag : D → Option (Sum String Str)
  | .non => some (.inl "NoneType")
  | .bl _ => some (.inl "bool")
  | .int _ => some (.inl "int")
  | .str _ => some (.inl "str")
  | .tup _ => some (.inl "tuple")
  | .lst _ => some (.inl "list")
  | .dic _ _ => some (.inl "dict")
  | .ins c _ _ => some (.inr c)
  | _ => none
/-- what is to be known of the classes cs of the text; hi: which stands under which -/
structure ClsOk (G : Gd) (cs : List Str) (hi : Str → Str → Bool) : Prop where
  cl : ∀ c ∈ cs, Cls G.K (G.CT c)
  ha : ∀ c ∈ cs, PySem.W.findIn G.K (.ref (G.CT c)) "__class__" = some (some (.builtin "object.__class__"))
  hn : cs ≠ [] → PySem.W.specialIn G.K (.builtin "object.__class__") "__get__" = some (some (.builtin "getset_descriptor.__get__"))
  htk : cs ≠ [] → PySem.W.takesIn G.K (.builtin "object.__class__") = some true
  hm : ∀ c ∈ cs, PySem.W.mroIn G.K (G.CT c) (.type "object") = some true
  cc : ∀ c ∈ cs, ∀ c' ∈ cs, PySem.W.kitOne G.K (.ref (G.CT c)) (.ref (G.CT c')) = some (hi c c')
  cb : ∀ c ∈ cs, ∀ T ∈ kinds, PySem.W.kitOne G.K (.ref (G.CT c)) (.type T) = some false
  bc : ∀ t ∈ kinds, ∀ c ∈ cs, PySem.W.kitOne G.K (.type t) (.ref (G.CT c)) = some false
def TyX (K : PySem.W.Frag) (H : Hp) (x : V) (t : Value) : Prop := TyOf K H x t ∨ (∃ a ys, x = .ref a ∧ SqT K H a ys ∧ t = .type "tuple") ∨ ∃ a ys, x = .ref a ∧ SqL K H a ys ∧ t = .type "list"
def TgX (y : V) (c : Value) : Prop := (∃ T, y = .ty T ∧ c = .type T) ∨ ∃ C, y = .ref C ∧ c = .ref C
def rIsi (K : PySem.W.Frag) : List V → Hp → VK → Prop := fun xs H Q => ∃ x y t c b, xs = [x, y] ∧ TyX K H x t ∧ TgX y c ∧ PySem.W.kitOne K t c = some b ∧ Q (.bl b) H
theorem call_isiX : CallR X (.builtin "isinstance") (rIsi X.K) := by
  intro pins s σ H xs us Q I r h
  obtain ⟨x, y, t, c, b, rfl, ty, tg, e, q⟩ := h
  obtain ⟨u, w', rfl, ru, rw'⟩ := vals2 r
  have ew : w' = c := by
    rcases tg with ⟨T, rfl, rfl⟩ | ⟨C, rfl, rfl⟩
    · exact rw'
    · exact rw'
  subst ew
  rcases ty with ty | ⟨a, ys, rfl, hs, rfl⟩ | ⟨a, ys, rfl, hs, rfl⟩
  · exact isinst_ok I ru ty e fun tk => ⟨.bl b, H, I.tok tk, rfl, q⟩
  · cases ru
    obtain ⟨its, r', pl, hz⟩ := I.tuple hs
    obtain ⟨o, h1, h2, _⟩ := pl
    exact PySem.W.kia_one PySem.W.kitx_tuple I.kIn ⟨o, h1, h2⟩ e (fun z => nomatch z) fun tk => ⟨.bl b, H, I.tok tk, rfl, q⟩
  · cases ru
    obtain ⟨its, r', ⟨o, n, h1, h2, _⟩, hz⟩ := I.list hs
    exact PySem.W.kia_one PySem.W.kitx_list I.kIn ⟨o, h1, h2⟩ e (fun z => nomatch z) fun tk => ⟨.bl b, H, I.tok tk, rfl, q⟩
theorem tyX_of {W : Wd} {H : Hp} {N : Nat} {d : D} {v : V} {cs : List Str} {hi : Str → Str → Bool} (O : ClsOk G cs hi) (k : Wk W H N) (r : Rp G W d v) : (∀ t, d.tag = some (.inl t) → TyX G.K H v (.type t)) ∧ ∀ c, d.tag = some (.inr c) → c ∈ cs → TyX G.K H v (.ref (G.CT c)) := by
  cases d <;> simp only [Rp] at r <;> refine ⟨fun t e => ?_, fun c e hc => ?_⟩ <;> simp only [D.tag, Option.some.injEq, Sum.inl.injEq, Sum.inr.injEq, reduceCtorEq] at e
  all_goals first
    | (subst e r; exact .inl (by constructor))
    | (obtain ⟨x, vs, rfl, h1, h2⟩ := r; subst e; exact .inr (.inl ⟨x, vs, rfl, sqT_mono k.s h1, rfl⟩))
    | (obtain ⟨x, vs, rfl, h1, h2⟩ := r; subst e; exact .inr (.inr ⟨x, vs, rfl, sqL_mono k.s h1, rfl⟩))
    | (obtain ⟨x, vs, rfl, h1, h2⟩ := r; subst e; exact .inl (.dK (k.s _ _ h1)))
    | (obtain ⟨x, dx, vs, rfl, h1, h2⟩ := r; subst e; have hne : cs ≠ [] := List.ne_nil_of_mem hc; exact .inl (.ins (k.s _ _ h1) (O.cl _ hc) (O.ha _ hc) (O.hn hne) (O.htk hne) (O.hm _ hc)))
def gIsi (cs : List Str) (hi : Str → Str → Bool) : List D → Tr D := fun ds => match ds with
  | [d, .ty T] => match d.tag with
    | some (.inl t) => if (kinds.contains t && kinds.contains T) = true then .ret (.bl (kitB t T)) else .fail
    | some (.inr c) => if (cs.contains c && kinds.contains T) = true then .ret (.bl false) else .fail
    | none => .fail
  | [d, .cls c'] => match d.tag with
    | some (.inl t) => if (kinds.contains t && cs.contains c') = true then .ret (.bl false) else .fail
    | some (.inr c) => if (cs.contains c && cs.contains c') = true then .ret (.bl (hi c c')) else .fail
    | none => .fail
  | _ => .fail
theorem ad_isi {cs : List Str} {hi : Str → Str → Bool} (O : ClsOk G cs hi) : ArD G (rIsi G.K) (gIsi cs hi) := by
  intro xs W H N vs Q k r q
  unfold gIsi at q
  split at q
  · rename_i d T
    simp only [RpL, Rp] at r
    obtain ⟨v, us, rfl, r1, w, us', rfl, rfl, rfl⟩ := r
    obtain ⟨t1, t2⟩ := tyX_of O k r1
    split at q
    · rename_i t e
      split at q
      · rename_i z
        simp only [Bool.and_eq_true, List.contains_iff_mem] at z
        exact ⟨_, _, _, _, _, rfl, t1 t e, .inl ⟨T, rfl, rfl⟩, kit_all G.K t z.1 T z.2, q _ W H (.refl _ _ _) k (by simp only [Rp])⟩
      · exact q.elim
    · rename_i c e
      split at q
      · rename_i z
        simp only [Bool.and_eq_true, List.contains_iff_mem] at z
        exact ⟨_, _, _, _, _, rfl, t2 c e z.1, .inl ⟨T, rfl, rfl⟩, O.cb c z.1 T z.2, q _ W H (.refl _ _ _) k (by simp only [Rp])⟩
      · exact q.elim
    · exact q.elim
  · rename_i d c'
    simp only [RpL, Rp] at r
    obtain ⟨v, us, rfl, r1, w, us', rfl, rfl, rfl⟩ := r
    obtain ⟨t1, t2⟩ := tyX_of O k r1
    split at q
    · rename_i t e
      split at q
      · rename_i z
        simp only [Bool.and_eq_true, List.contains_iff_mem] at z
        exact ⟨_, _, _, _, _, rfl, t1 t e, .inr ⟨_, rfl, rfl⟩, O.bc t z.1 c' z.2, q _ W H (.refl _ _ _) k (by simp only [Rp])⟩
      · exact q.elim
    · rename_i c e
      split at q
      · rename_i z
        simp only [Bool.and_eq_true, List.contains_iff_mem] at z
        exact ⟨_, _, _, _, _, rfl, t2 c e z.1, .inr ⟨_, rfl, rfl⟩, O.cc c z.1 c' z.2, q _ W H (.refl _ _ _) k (by simp only [Rp])⟩
      · exact q.elim
    · exact q.elim
  · exact q.elim
/-! ### all(xs) -/
def blsOf : List D → Option (List Bool)
  | [] => some []
  | .bl b :: ds => (blsOf ds).map (b :: ·)
  | _ => none
def gAll : List D → Tr D := fun xs => match xs with
  | [.lst ds] => match blsOf ds with
    | some bs => .ret (.bl (bs.all id))
    | none => .fail
  | _ => .fail
/-! ### list + list -/
def rCatX (K : PySem.W.Frag) : R2 := fun x y H Q => ∃ l b xs zs, x = .ref l ∧ y = .ref b ∧ SqL K H l xs ∧ SqL K H b zs ∧ xs.length + zs.length ≤ sizeLine ∧ Born H (.lst (xs ++ zs)) Q
def gCat : D → D → Tr D
  | .lst xs, .lst ys => if xs.length + ys.length ≤ 1000000 then .ret (.lst (xs ++ ys)) else .fail
  | _, _ => .fail
/-! ### str + str -/
def rCatS : R2 := fun x y H Q => ∃ i j, x = .str i ∧ y = .str j ∧ i.length + j.length ≤ sizeLine ∧ Q (.str (i ++ j)) H
def gCatS : D → D → Tr D
  | .str i, .str j => if i.length + j.length ≤ sizeLine then .ret (.str (i ++ j)) else .fail
  | _, _ => .fail
/-! ### {}, {k: v} -/
def keyD : D → Option Key
  | .int i => some (.inl i)
  | .str x => some (.inr x)
  | _ => none
def fDic0 : FE := fun _ => .ret (.dic [] [])
def fDic1 (fk fv : FE) : FE := fun σ => (fk σ).bind fun x => (fv σ).bind fun y => match keyD x with
  | some k => .ret (.dic [k] [y])
  | none => .fail
/-! ### global names -/
structure GInt (mg : Str → Option Value) (x : Str) (i : Int) : Prop where
  ex : ∃ t, mg x = some (.int i t)
theorem de_gint {x : Str} {i : Int} (h : GInt X.mg x i) (hg : Gl X x) (hd : (x == ("__debug__" : Str)) = false := by decide) : DE X G (.Name x pos) (fC (.int i)) := by
  obtain ⟨t, e⟩ := h.ex
  exact de_c (we_glob hg e (v := .int i) ⟨t, rfl⟩ hd) fun _ => by simp only [Rp]
theorem de_gstr {x z : Str} (h : GStr X.mg x z) (hg : Gl X x) (hd : (x == ("__debug__" : Str)) = false := by decide) : DE X G (.Name x pos) (fC (.str z)) := de_c (we_gstr h hg hd) fun _ => by simp only [Rp]
theorem de_bltn {x : Str} {n : String} (hg : Gl X x) (hm : X.mg x = none) (hv : bootBuiltins x = some (.type n)) (hn : x ≠ "__name__" := by decide) (hd : (x == ("__debug__" : Str)) = false := by decide) : DE X G (.Name x pos) (fC (.ty n)) := de_c (we_bltn (v := .ty n) hg hm hv rfl hn hd) fun _ => by simp only [Rp]
end
end L3

set_option Elab.async false
set_option linter.all false
set_option maxRecDepth 100000
namespace L3
/-- 10 ** k, never reckoned by the way -/
@[irreducible] def big10 (k : Nat) : Int := ((10 ^ k : Nat) : Int)
open PySem PySem.Spec L2
section
variable {X : Cx} {G : Gd} {a b c e o : Expr} {es rest : List Expr} {pos p apos cpos p2 : Pos}
/-! ### +=, -=, //= -/
/-! ### zip -/
/-! ### classes and tuples of the text, as values -/
theorem de_gcls {x k : Str} (h : X.mg x = some (.ref (G.CT k))) (hg : Gl X x) (hd : (x == ("__debug__" : Str)) = false := by decide) : DE X G (.Name x pos) (fC (.cls k)) := de_c (we_gref hg h hd) fun _ => by simp only [Rp]
end
end L3
namespace L3
open PySem PySem.Spec L2
theorem rpL_ints {G : Gd} {W : Wd} : ∀ ns : List Int, RpL G W (ns.map D.int) (ns.map V.int)
  | [] => RpL.nil
  | n :: ns => RpL.cons (by simp only [Rp]) (rpL_ints ns)
/-- the law's promise -/
theorem law_sp {G : Gd} {f : List D → Tr D} {N : Nat} {H : Hp} {a : Addr} {ns : List Int} {E : XK} (hN : N ≤ LIM) (hS : SqL G.K H a (ns.map V.int)) (h : (f [.lst (ns.map D.int)]).al no (fun d _ => d = .bl true) N) : spD G 1 f [.ref a] H (fun v _ => v = .bl true) E := by
  refine ⟨⟨H, []⟩, N, [.lst (ns.map D.int)], rfl, RpL.cons (by simp only [Rp]; exact ⟨a, _, rfl, hS, rpL_ints ns⟩) RpL.nil, ⟨Same.refl _, fun _ _ _ h => (nomatch h), fun _ _ _ _ _ _ h => (nomatch h), hN⟩, Tr.al_mono (fun _ _ z => z) (fun d m e v W' H' _ _ r => ?_) _ _ h⟩
  subst e
  simp only [Rp] at r
  exact r
end L3

set_option Elab.async false
set_option linter.all false
set_option maxRecDepth 100000
/-! objects: fields, methods, making, own == -/
namespace L3
open PySem PySem.Spec L2
def getF : List Str → List D → Str → Option D
  | k :: ks, d :: ds, f => if k = f then some d else getF ks ds f
  | _, _, _ => none
def putKs : List Str → Str → List Str
  | [], f => [f]
  | k :: ks, f => if k = f then k :: ks else k :: putKs ks f
def putDs : List Str → List D → Str → D → List D
  | k :: ks, x :: ds, f, d => if k = f then d :: ds else x :: putDs ks ds f d
  | _, _, _, d => [d]
section
variable {G : Gd} {W : Wd}
theorem getF_rp : ∀ {ks : List Str} {ds : List D} {vs : List V} {f : Str} {d : D}, RpL G W ds vs → getF ks ds f = some d → ∃ v, (ks.zip vs).lookup f = some v ∧ Rp G W d v
  | [], _, _, _, _, _, h => by simp [getF] at h
  | _ :: _, [], _, _, _, _, h => by simp [getF] at h
  | k :: ks, x :: ds, vs, f, d, r, h => by
    simp only [RpL] at r
    obtain ⟨v, us, rfl, r1, r2⟩ := r
    simp only [getF] at h
    by_cases e : k = f
    · rw [if_pos e] at h
      cases h
      subst e
      exact ⟨v, by simp [List.lookup], r1⟩
    · rw [if_neg e] at h
      obtain ⟨w, h1, h2⟩ := getF_rp r2 h
      refine ⟨w, ?_, h2⟩
      have hb : (f == k) = false := beq_eq_false_iff_ne.mpr (Ne.symm e)
      simp only [List.zip_cons_cons, List.lookup, hb]
      exact h1
theorem noF_rp : ∀ {ks : List Str} {vs : List V} {f : Str}, ks.contains f = false → (ks.zip vs).lookup f = none
  | [], _, _, _ => rfl
  | _ :: _, [], _, _ => rfl
  | k :: ks, v :: vs, f, h => by
    have hb : (f == k) = false := by
      cases e : f == k with
      | false => rfl
      | true => simp [List.contains, List.elem, e] at h
    simp only [List.zip_cons_cons, List.lookup, hb]
    refine noF_rp ?_
    simp only [List.contains_cons, Bool.or_eq_false_iff] at h
    exact h.2
theorem put_rp : ∀ {ks : List Str} {ds : List D} {vs : List V} {f : Str} {d : D} {v : V}, ks.length = ds.length → RpL G W ds vs → Rp G W d v → ∃ us, putF f v (ks.zip vs) = (putKs ks f).zip us ∧ RpL G W (putDs ks ds f d) us
  | [], [], vs, f, d, v, _, r, r' => by
    simp only [RpL] at r
    subst r
    exact ⟨[v], rfl, RpL.cons r' RpL.nil⟩
  | [], _ :: _, _, _, _, _, h, _, _ => by cases h
  | _ :: _, [], _, _, _, _, h, _, _ => by cases h
  | k :: ks, x :: ds, vs, f, d, v, h, r, r' => by
    simp only [RpL] at r
    obtain ⟨u, us, rfl, r1, r2⟩ := r
    by_cases e : k = f
    · refine ⟨v :: us, ?_, ?_⟩
      · simp only [putF, List.zip_cons_cons, putKs, if_pos e]
      · simp only [putDs, if_pos e]
        exact RpL.cons r' r2
    · obtain ⟨ws, h1, h2⟩ := put_rp (f := f) (d := d) (v := v) (Nat.succ.inj h) r2 r'
      refine ⟨u :: ws, ?_, ?_⟩
      · simp only [putF, List.zip_cons_cons, putKs, if_neg e, h1]
      · simp only [putDs, if_neg e]
        exact RpL.cons r1 h2
end
/-- the fields that objects of the classes cs may have: none stands in the class -/
structure FldOk (G : Gd) (cs : List Str) (fl : Str → List Str) : Prop where
  cl : ∀ c ∈ cs, Cls G.K (G.CT c)
  no : ∀ c ∈ cs, ∀ f ∈ fl c, NoAttr G.K (G.CT c) f
section
variable {X : Cx} {G : Gd} {a b c e o value : Expr} {es rest : List Expr} {pos pos' p apos cpos p2 : Pos} {cs : List Str} {fl : Str → List Str}
/-! ### e.f -/
def gFld (cs : List Str) (fl : Str → List Str) (f : Str) : D → Tr D := fun d => match d with
  | .ins c ks ds => if (cs.contains c && (fl c).contains f) = true then match getF ks ds f with
    | some d => .ret d
    | none => .fail
    else .fail
  | _ => .fail
/-- x.f of an object of one's own -/
def fFldO (cs : List Str) (fl : Str → List Str) (f : Str) (i : Nat) : FE := fun σ => match σ[i]? with
  | some (some (.oi c ks ds)) => gFld cs fl f (.ins c ks ds)
  | some (some (.sh d)) => gFld cs fl f d
  | _ => .fail
theorem de_fldO {f x : Str} {i : Nat} {px : Pos} (O : FldOk G cs fl) (h : Wr (PE X (.Name x px) (tVar i))) (hb : attributeBase (.Name x px) f X.env (eval (.Name x px) X.env) = eval (.Name x px) X.env := by rfl) (hK : X.K = G.K := by rfl) : DE X G (.Attribute (.Name x px) f pos) (fFldO cs fl f i) := .mk fun E =>
  PE.imp (pe_fld h.un hb) fun σ H Q ⟨W, N, σd, F, q⟩ => by
    unfold fFldO at q
    split at q
    · rename_i c ks ds e0
      obtain ⟨v, e1, r⟩ := F.sl i _ e0
      obtain ⟨x, dx, vs, rfl, h1, h2, h3⟩ := r
      refine ⟨_, e1, ?_⟩
      unfold gFld at q
      simp only at q
      split at q
      · rename_i z
        simp only [Bool.and_eq_true, List.contains_iff_mem] at z
        split at q
        · rename_i d' e2
          obtain ⟨w, h4, h5⟩ := getF_rp h3 e2
          rw [hK]
          exact ⟨x, _, dx, _, w, rfl, h1, O.cl c z.1, O.no c z.1 f z.2, h4, q w W H (.refl _ _ _) F.wk h5⟩
        · exact q.elim
      · exact q.elim
    · rename_i d e0
      obtain ⟨v, e1, r⟩ := F.sl i _ e0
      refine ⟨_, e1, ?_⟩
      have r' : Rp G W d v := r
      unfold gFld at q
      split at q
      · rename_i c ks ds
        split at q
        · rename_i z
          simp only [Bool.and_eq_true, List.contains_iff_mem] at z
          split at q
          · rename_i d' e2
            simp only [Rp] at r'
            obtain ⟨x, dx, vs, rfl, h1, h2⟩ := r'
            obtain ⟨w, h4, h5⟩ := getF_rp h2 e2
            rw [hK]
            exact ⟨x, _, dx, _, w, rfl, F.wk.s _ _ h1, O.cl c z.1, O.no c z.1 f z.2, h4, q w W H (.refl _ _ _) F.wk h5⟩
          · exact q.elim
        · exact q.elim
      · exact q.elim
    · exact q.elim
/-! ### x.f = e, x of one's own -/
def fFldSet (cs : List Str) (fl : Str → List Str) (f : Str) (i : Nat) (fe : FE) : FS := fun σ => (fe σ).bind fun d => match σ[i]? with
  | some (some (.oi c ks ds)) => if (cs.contains c && (fl c).contains f && decide (ks.length = ds.length) && decide (ks.length < 100)) = true then .ret (.nx (σ.set i (some (.oi c (putKs ks f) (putDs ks ds f d))))) else .fail
  | _ => .fail
theorem Fm.own {E : En} {W : Wd} {H : Hp} {N : Nat} {σ : St} {σd : DSt} (F : Fm G E W H N σ σd) {i : Nat} {s : Sl} {x : Addr} (e0 : σd[i]? = some (some s)) (o : s.own = true) (e1 : σ[i]? = some (some (.ref x))) (hx : H x ≠ none) (hS : W.S x = none) {o' : HO} {s' : Sl}
    (ho : s'.own = true) (new : RSl G W (upd H x o') (.ref x) s') : Fm G E W (upd H x o') N σ (σd.set i (some s')) := by
  have hfr := F.fr i s x e0 o e1
  have hil : i < σd.length := (List.getElem?_eq_some_iff.mp e0).1
  have old : ∀ {j : Nat} {t : Sl}, (σd.set i (some s'))[j]? = some (some t) → i ≠ j → σd[j]? = some (some t) := fun h hij => by rwa [set_get hij] at h
  have ap : ∀ {j : Nat} {t : Sl} {y : Addr}, σd[j]? = some (some t) → t.own = true → i ≠ j → σ[j]? = some (some (.ref y)) → y ≠ x := fun h1 h2 hij h3 z => by
    subst z
    exact F.ne i _ s _ (.ref _) hij e0 h1 o h2 e1 h3
  refine ⟨F.wk.poke hS hfr.2, ?_, fun y hy => ?_, by rw [List.length_set]; exact F.len, fun j t h => ?_, fun j j' t t' v hjj h h' ot ot' ev => ?_, fun j t y h ot ev => ?_, fun y t hy h ot => ?_⟩
  · refine ⟨F.ent.le, fun b u eb hb1 hb2 => ?_, F.ent.new, F.ent.mnew⟩
    have hbx : b ≠ x := by
      rcases hfr.1 with z | z
      · exact ne_of_none eb z
      · intro y; subst y; exact hb2 z.1.symm
    rw [upd_ne hbx]
    exact F.ent.keep b u eb hb1 hb2
  · by_cases hyx : y = x
    · subst hyx; rw [upd_same]; simp
    · rw [upd_ne hyx]; exact F.ioT y hy
  · by_cases hij : i = j
    · subst hij
      rw [List.getElem?_set, if_pos rfl, if_pos hil] at h
      cases h
      exact ⟨_, e1, new⟩
    · have h' := old h hij
      obtain ⟨v, ev, r⟩ := F.sl j t h'
      refine ⟨v, ev, ?_⟩
      cases t with
      | sh d => exact r
      | ol ds =>
        obtain ⟨y, vs, rfl, h1, h2, h3⟩ := r
        exact ⟨y, vs, rfl, by rw [upd_ne (ap h' rfl hij ev)]; exact h1, h2, h3⟩
      | oi c ks ds =>
        obtain ⟨y, dx, vs, rfl, h1, h2, h3⟩ := r
        exact ⟨y, dx, vs, rfl, by rw [upd_ne (ap h' rfl hij ev)]; exact h1, h2, h3⟩
  · have back : ∀ {j : Nat} {t : Sl}, (σd.set i (some s'))[j]? = some (some t) → t.own = true → ∃ t0, σd[j]? = some (some t0) ∧ t0.own = true := fun {j t} h ot => by
      by_cases hij : i = j
      · subst hij; exact ⟨s, e0, o⟩
      · exact ⟨t, old h hij, ot⟩
    obtain ⟨u, hu, ou⟩ := back h ot
    obtain ⟨u', hu', ou'⟩ := back h' ot'
    exact F.ne j j' u u' v hjj hu hu' ou ou' ev
  · by_cases hij : i = j
    · subst hij
      rw [e1] at ev
      cases ev
      exact hfr
    · exact F.fr j t y (old h hij) ot ev
  · by_cases hij : i = 0
    · subst hij
      rw [F.io0 y s hy e0 o]
    · exact F.io0 y t hy (old h hij) ot
theorem ds_fldset {f x : Str} {i : Nat} {px : Pos} {fe : FE} (O : FldOk G cs fl) (h : Wr (PE X (.Name x px) (tVar i))) (hv : DE X G value fe) (hs : swapsWith value (some (.Attribute (.Name x px) f pos')) pos.line X.env = pure false := by rfl) (hK : X.K = G.K := by rfl) :
    DS X G (.Assign [.Attribute (.Name x px) f pos'] value pos) (fFldSet cs fl f i fe) := .mk fun E => PS.imp (ps_fld h.un (hv.un E) hs) fun Dn σ H ⟨W, N, σd, F, q⟩ => by
  refine ⟨W, N, σd, F, Tr.al_mono (fun _ _ z => z) (fun d m h v W1 H1 a1 k1 r1 => ?_) _ _ ((Tr.al_bind _ _).mp q)⟩
  have F1 := F.adv a1 k1
  split at h
  · rename_i c ks ds e0
    split at h
    · rename_i z
      simp only [Bool.and_eq_true, List.contains_iff_mem, decide_eq_true_eq] at z
      obtain ⟨⟨⟨z1, z2⟩, z3⟩, z4⟩ := z
      obtain ⟨u, e1, r⟩ := F1.sl i _ e0
      obtain ⟨x, dx, vs, rfl, h1, h2, h3⟩ := r
      obtain ⟨us, p1, p2⟩ := put_rp (f := f) z3 h3 r1
      refine ⟨_, e1, x, _, dx, _, rfl, h1, by rw [hK]; exact O.cl c z1, by rw [hK]; exact O.no c z1 f z2, ?_, ?_⟩
      · rw [List.length_zip]
        omega
      · refine h _ W1 _ a1.le (F1.own e0 rfl e1 (by rw [h1]; simp) h2 rfl ⟨x, dx, us, rfl, by rw [upd_same, p1], h2, p2⟩)
    · exact h.elim
  · exact h.elim
/-- a local's own object may be shared from here on: a ghost ahead of a statement -/
def frz (i : Nat) : DSt → DSt := fun σ => match σ[i]? with
  | some (some (.oi c ks ds)) => σ.set i (some (.sh (.ins c ks ds)))
  | some (some (.ol ds)) => σ.set i (some (.sh (.lst ds)))
  | _ => σ
def fFrz (i : Nat) (f : FS) : FS := fun σ => f (frz i σ)
theorem Fm.share {E : En} {W : Wd} {H : Hp} {N : Nat} {σ : St} {σd : DSt} (F : Fm G E W H N σ σd) {i : Nat} {s : Sl} {x : Addr} {o' : HO} {d : D} (hi : i ≠ 0) (e0 : σd[i]? = some (some s)) (o : s.own = true) (e1 : σ[i]? = some (some (.ref x))) (hx : H x = some o') (hS : W.S x = none)
    (new : Rp G (W.put x o') d (.ref x)) : Fm G E (W.put x o') H N σ (σd.set i (some (.sh d))) := by
  have hfr := F.fr i s x e0 o e1
  have hE : E.H x = none := hfr.1.resolve_right fun z => hi z.2
  have hil : i < σd.length := (List.getElem?_eq_some_iff.mp e0).1
  have le := put_le (o := o') hS
  have old : ∀ {j : Nat} {t : Sl}, (σd.set i (some (.sh d)))[j]? = some (some t) → i ≠ j → σd[j]? = some (some t) := fun h hij => by rwa [set_get hij] at h
  have own : ∀ {j : Nat} {t : Sl}, (σd.set i (some (.sh d)))[j]? = some (some t) → t.own = true → i ≠ j := fun {j t} h ot z => by
    subst z
    rw [List.getElem?_set, if_pos rfl, if_pos hil] at h
    cases h
    cases ot
  have ap : ∀ {j : Nat} {t : Sl} {y : Addr}, σd[j]? = some (some t) → t.own = true → i ≠ j → σ[j]? = some (some (.ref y)) → y ≠ x := fun h1 h2 hij h3 z => by
    subst z
    exact F.ne i _ s _ (.ref _) hij e0 h1 o h2 e1 h3
  have S' : ∀ b, b ≠ x → (W.put x o').S b = W.S b := fun b hb => upd_ne hb
  refine ⟨⟨fun b u e => ?_, fun m c l z => ?_, F.wk.d, F.wk.n⟩, ⟨F.ent.le.trans le, F.ent.keep, fun b z hb => ?_, F.ent.mnew⟩, F.ioT, by rw [List.length_set]; exact F.len, fun j t h => ?_, fun j j' t t' v hjj h h' ot ot' ev => F.ne j j' t t' v hjj (old h (own h ot)) (old h' (own h' ot')) ot ot' ev, fun j t y h ot ev => F.fr j t y (old h (own h ot)) ot ev, fun y t hy h ot => F.io0 y t hy (old h (own h ot)) ot⟩
  · by_cases hb : b = x
    · subst hb
      rw [put_at] at e
      cases e
      exact hx
    · rw [S' b hb] at e
      exact F.wk.s b u e
  · obtain ⟨t1, t2, t3, t4⟩ := F.wk.m m c l z
    exact ⟨t1, by rw [S' _ (hfr.2 m c l z).1.symm]; exact t2, by rw [S' _ (hfr.2 m c l z).2.1.symm]; exact t3, by rw [S' _ (hfr.2 m c l z).2.2.symm]; exact t4⟩
  · rw [S' b (fun y => hb (by rw [y]; exact hE))]
    exact F.ent.new b z hb
  · by_cases hij : i = j
    · subst hij
      rw [List.getElem?_set, if_pos rfl, if_pos hil] at h
      cases h
      exact ⟨_, e1, new⟩
    · have h' := old h hij
      obtain ⟨v, ev, r⟩ := F.sl j t h'
      refine ⟨v, ev, ?_⟩
      cases t with
      | sh d => exact Rp.mono le d v r
      | ol ds =>
        obtain ⟨y, vs, rfl, h1, h2, h3⟩ := r
        exact ⟨y, vs, rfl, h1, by rw [S' y (ap h' rfl hij ev)]; exact h2, RpL.mono le _ _ h3⟩
      | oi c ks ds =>
        obtain ⟨y, dx, vs, rfl, h1, h2, h3⟩ := r
        exact ⟨y, dx, vs, rfl, h1, by rw [S' y (ap h' rfl hij ev)]; exact h2, RpL.mono le _ _ h3⟩
theorem Fm.frz {E : En} {W : Wd} {H : Hp} {N : Nat} {σ : St} {σd : DSt} (F : Fm G E W H N σ σd) {i : Nat} (hi : i ≠ 0) : ∃ W', W.le W' ∧ Fm G E W' H N σ (L3.frz i σd) := by
  unfold L3.frz
  split
  · rename_i c ks ds e0
    obtain ⟨v, e1, r⟩ := F.sl i _ e0
    obtain ⟨x, dx, vs, rfl, h1, h2, h3⟩ := r
    refine ⟨_, put_le h2, F.share hi e0 rfl e1 h1 h2 ?_⟩
    · simp only [Rp]
      exact ⟨x, dx, vs, rfl, put_at, RpL.mono (put_le h2) _ _ h3⟩
  · rename_i ds e0
    obtain ⟨v, e1, r⟩ := F.sl i _ e0
    obtain ⟨x, vs, rfl, h1, h2, h3⟩ := r
    refine ⟨_, put_le h2, F.share hi e0 rfl e1 h1 h2 ?_⟩
    simp only [Rp]
    exact ⟨x, vs, rfl, .inl (.inl put_at), RpL.mono (put_le h2) _ _ h3⟩
  · exact ⟨W, .refl _, F⟩
theorem ds_frz {i : Nat} {st : Stmt} {f : FS} (hi : i ≠ 0) (h : DS X G st f) : DS X G st (fFrz i f) := .mk fun E => PS.imp (h.un E) fun D σ H ⟨W, N, σd, F, q⟩ => by
  obtain ⟨W', l, F'⟩ := F.frz hi
  exact ⟨W', N, _, F', Tr.al_mono (fun _ _ z => z) (fun r m h => okFl.le h l) _ _ q⟩
/-! ### making: what an __init__ promises -/
/-- f: of the arguments behind self, the fields at the end -/
def spI (G : Gd) (c : Str) (k : Nat) (f : List D → Tr (List Str × List D)) : Sp := fun vs H Q _ => ∃ x dx us W N ds, vs = .ref x :: us ∧ H x = some (.ins (G.CT c) dx []) ∧ W.S x = none ∧ (∀ m c l, (m, c, l) ∈ W.mu → x ≠ m ∧ x ≠ c ∧ x ≠ l) ∧ ds.length = k ∧ RpL G W ds us ∧ Wk W H N ∧
  (f ds).al no (fun r m => ∀ W' H' dy ws, Adv (some x) W H W' H' → Wk W' H' m → H' x = some (.ins (G.CT c) dy (r.1.zip ws)) → W'.S x = none → RpL G W' r.2 ws → Q .non H') N
theorem spI_len {c : Str} {k : Nat} {f : List D → Tr (List Str × List D)} {vs : List V} {H : Hp} {Q : VK} {E : XK} (h : spI G c k f vs H Q E) : vs.length = k + 1 := by
  obtain ⟨x, dx, us, W, N, ds, rfl, _, _, _, e, r, _⟩ := h
  rw [List.length_cons, ← r.length, e]
def startI (n : Nat) (c : Str) (ds : List D) : DSt := some (.oi c [] []) :: (ds.map (fun d => some (.sh d)) ++ List.replicate (n - (ds.length + 1)) none)
def ends0 (c : Str) (σ : DSt) : Tr (List Str × List D) := match σ with
  | some (.oi c' ks ds) :: _ => if c' = c then .ret (ks, ds) else .fail
  | _ => .fail
/-- an __init__ run -/
def runI (n : Nat) (c : Str) (f : FS) : List D → Tr (List Str × List D) := fun ds => (f (startI n c ds)).bind fun r => match r with
  | .nx σ => ends0 c σ
  | _ => .fail
theorem startI_fm {W : Wd} {H : Hp} {M : Nat} {N : List Str} {c : Str} {ds : List D} {us : List V} {x dx : Addr} (hx : H x = some (.ins (G.CT c) dx [])) (hS : W.S x = none) (hm : ∀ m c l, (m, c, l) ∈ W.mu → x ≠ m ∧ x ≠ c ∧ x ≠ l) (r : RpL G W ds us) (k : Wk W H M) :
    Fm G ⟨W, H, some x⟩ W H M (start N (.ref x :: us)) (startI N.length c ds) := by
  have hl := r.length
  have key : ∀ (i : Nat) (s : Sl), (startI N.length c ds)[i]? = some (some s) → (i = 0 ∧ s = .oi c [] []) ∨ ∃ j d, i = j + 1 ∧ ds[j]? = some d ∧ s = .sh d := fun i s e => by
    cases i with
    | zero => exact .inl ⟨rfl, by simp [startI] at e; exact e.symm⟩
    | succ j =>
      refine .inr ?_
      unfold startI at e
      rw [List.getElem?_cons_succ] at e
      by_cases hi : j < ds.length
      · rw [List.getElem?_append_left (by simpa using hi), List.getElem?_map, List.getElem?_eq_getElem hi] at e
        cases e
        exact ⟨j, _, rfl, List.getElem?_eq_getElem hi, rfl⟩
      · rw [List.getElem?_append_right (by simpa using hi), List.getElem?_replicate] at e
        split at e <;> cases e
  have s0 : (start N (.ref x :: us))[0]? = some (some (.ref x)) := by simp [L2.start]
  refine ⟨k, .refl _ _ _, fun y z => by cases z; rw [hx]; simp, ?_, fun i s e => ?_, fun i j s s' v hij e e' o o' => ?_, fun i s a e o ev => ?_, fun y s z e o => by cases z; exact s0⟩
  · unfold startI L2.start
    simp only [List.length_cons, List.length_append, List.length_map, List.length_replicate, List.map_cons, List.cons_append, hl]
  · rcases key i s e with ⟨rfl, rfl⟩ | ⟨j, d, rfl, e1, rfl⟩
    · exact ⟨_, s0, x, dx, [], rfl, hx, hS, RpL.nil⟩
    · obtain ⟨v, e2, r2⟩ := r.get e1
      refine ⟨v, ?_, r2⟩
      unfold L2.start
      have hi : j < us.length := (List.getElem?_eq_some_iff.mp e2).1
      rw [List.map_cons, List.cons_append, List.getElem?_cons_succ, List.getElem?_append_left (by simpa using hi), List.getElem?_map, e2]
      rfl
  · rcases key i s e with ⟨rfl, rfl⟩ | ⟨j1, d, rfl, e1, rfl⟩
    · rcases key j s' e' with ⟨rfl, rfl⟩ | ⟨j2, d, rfl, e2, rfl⟩
      · exact absurd rfl hij
      · cases o'
    · cases o
  · rcases key i s e with ⟨rfl, rfl⟩ | ⟨j1, d, rfl, e1, rfl⟩
    · rw [s0] at ev
      cases ev
      exact ⟨.inr ⟨rfl, rfl⟩, hm⟩
    · cases o
/-- THE RULE for an __init__ -/
theorem bodyI_ok {f : FS} {body : List Stmt} {N : List Str} {c : Str} {k : Nat} {vs : List V} {H : Hp} {Q : VK} {E : XK} (h : DSs X G body f) (sp : spI G c k (runI N.length c f) vs H Q E) :
    ∃ t, Wr (PSs X body t) ∧ t { nx := fun _ H' => Q .non H', rt := Q } (start N vs) H := by
  obtain ⟨x, dx, us, W, M, ds, rfl, hx, hS, hm, e, r, k, q⟩ := sp
  refine ⟨tS G ⟨W, H, some x⟩ f, .mk (h.un _), W, M, startI N.length c ds, startI_fm hx hS hm r k, Tr.al_mono (fun _ _ z => z) (fun r m h => ?_) _ _ ((Tr.al_bind _ _).mp q)⟩
  cases r with
  | nx σd' =>
    intro σ' W' H' _ F
    match σd', F, h with
    | some (.oi c' ks ds') :: rest, F, h =>
      have h : (if c' = c then Tr.ret (ks, ds') else Tr.fail).al no _ m := h
      by_cases ec : c' = c
      · rw [if_pos ec] at h
        subst ec
        obtain ⟨v, e1, y, dy, ws, rfl, h1, h2, h3⟩ := F.sl 0 (.oi c' ks ds') rfl
        have e2 := F.io0 x (.oi c' ks ds') rfl rfl rfl
        rw [e1] at e2
        cases e2
        exact h W' H' dy ws F.ent F.wk h1 h2 h3
      · rw [if_neg ec] at h
        exact h.elim
    | [], F, h => exact h.elim
    | none :: _, F, h => exact h.elim
    | some (.sh _) :: _, F, h => exact h.elim
    | some (.ol _) :: _, F, h => exact h.elim
  | rt d => exact h.elim
  | bk σ' => exact h.elim
  | ct σ' => exact h.elim
end
end L3

set_option Elab.async false
set_option linter.all false
set_option maxRecDepth 100000
namespace L3
open PySem PySem.Spec L2
section
variable {G : Gd} {E : En} {W W' : Wd} {H H' : Hp} {N : Nat} {σ : St} {σd : DSt} {x dx : Addr}
theorem Wk.same (k : Wk W H N) (s : Same H H') : Wk W H' N := ⟨k.s.trans s, fun m c l z => ⟨(k.m m c l z).1.same s, (k.m m c l z).2⟩, k.d, k.n⟩
theorem Wk.off (k : Wk W H N) (hx : H x = .none) : ∀ m c l, (m, c, l) ∈ W.mu → x ≠ m ∧ x ≠ c ∧ x ≠ l := fun m c l z => by
  obtain ⟨t1, t2, t3⟩ := (k.m m c l z).1.there
  exact ⟨fun z => t1 (by rw [← z]; exact hx), fun z => t2 (by rw [← z]; exact hx), fun z => t3 (by rw [← z]; exact hx)⟩
theorem Wk.putAt (k : Wk W H N) {o : HO} (hS : W.S x = .none) (hx : H x = some o) (hm : ∀ m c l, (m, c, l) ∈ W.mu → x ≠ m ∧ x ≠ c ∧ x ≠ l) : Wk (W.put x o) H N := by
  refine ⟨fun b u e => ?_, fun m c l z => ?_, k.d, k.n⟩
  · have e' : upd W.S x o b = some u := e
    by_cases hb : b = x
    · subst hb; rw [upd_same] at e'; cases e'; exact hx
    · rw [upd_ne hb] at e'; exact k.s b u e'
  · obtain ⟨t1, t2, t3, t4⟩ := k.m m c l z
    obtain ⟨n1, n2, n3⟩ := hm m c l z
    exact ⟨t1, by show upd W.S x o m = .none; rw [upd_ne n1.symm]; exact t2, by show upd W.S x o c = .none; rw [upd_ne n2.symm]; exact t3, by show upd W.S x o l = .none; rw [upd_ne n3.symm]; exact t4⟩
def Hnew (H : Hp) (C x dx : Addr) : Hp := upd (upd H dx (.own x)) x (.ins C dx [])
theorem same_new {C : Addr} (h1 : H x = none) (h2 : H dx = none) : Same H (Hnew H C x dx) := fun b o e => by
  unfold Hnew
  rw [upd_ne (ne_of_none e h1), upd_ne (ne_of_none e h2)]
  exact e
/-- behind a making: all that was is kept -/
theorem adv_new {C : Addr} {M : Nat} (k : Wk W H N) (h1 : H x = none) (h2 : H dx = none) (a : Adv (some x) W (Hnew H C x dx) W' H') : Adv none W H W' H' := by
  have s := same_new (C := C) h1 h2
  refine ⟨a.le, fun b o e hb _ => a.keep b o (s b o e) hb (fun z => by cases z; rw [h1] at e; cases e), fun b z hb => a.new b z ?_, fun m c l z => ?_⟩
  · obtain ⟨o, e⟩ := Option.ne_none_iff_exists'.mp hb
    rw [s b o e]; simp
  · rcases a.mnew m c l z with y | ⟨y1, y2, y3⟩
    · exact .inl y
    · exact .inr ⟨s.free y1, s.free y2, s.free y3⟩
theorem mach_off {C : Addr} (k : Wk W H N) (h1 : H x = none) (a : Adv (some x) W (Hnew H C x dx) W' H') : ∀ m c l, (m, c, l) ∈ W'.mu → x ≠ m ∧ x ≠ c ∧ x ≠ l := fun m c l z => by
  rcases a.mnew m c l z with y | ⟨y1, y2, y3⟩
  · exact k.off h1 m c l y
  · have e : Hnew H C x dx x = some (.ins C dx []) := upd_same
    exact ⟨ne_of_none e y1, ne_of_none e y2, ne_of_none e y3⟩
theorem Adv.putAt {io : Option Addr} {o : HO} (a : Adv io W H W' H') (hS : W'.S x = none) (hx : H x = none) : Adv io W H (W'.put x o) H' := by
  refine ⟨a.le.trans (put_le hS), a.keep, fun b z hb => ?_, a.mnew⟩
  show upd W'.S x o b = none
  rw [upd_ne (fun z => hb (by rw [z]; exact hx))]
  exact a.new b z hb
theorem Fm.setO (F : Fm G E W H N σ σd) {i : Nat} {s : Sl} (hi : i ≠ 0) (o : s.own = true) (new : RSl G W H (.ref x) s) (hE : E.H x = none) (hm : ∀ m c l, (m, c, l) ∈ W.mu → x ≠ m ∧ x ≠ c ∧ x ≠ l)
    (hne : ∀ (j : Nat) (t : Sl) (y : Addr), σd[j]? = some (some t) → t.own = true → σ[j]? = some (some (.ref y)) → y ≠ x) : Fm G E W H N (σ.set i (some (.ref x))) (σd.set i (some s)) := by
  have at_ : ∀ {v : V}, (σ.set i (some (.ref x)))[i]? = some (some v) → v = .ref x := fun h => by
    rcases get_set h with ⟨_, z⟩ | ⟨z, _⟩
    · cases z; rfl
    · exact absurd rfl z
  have ref : ∀ {j : Nat} {t : Sl} {v : V}, σd[j]? = some (some t) → t.own = true → σ[j]? = some (some v) → ∃ y, v = .ref y := fun h1 h2 h3 => by
    obtain ⟨w, e, r⟩ := F.sl _ _ h1
    rw [h3] at e
    cases e
    rename_i t v
    cases t with
    | sh d => cases h2
    | ol ds => obtain ⟨y, vs, rfl, _⟩ := r; exact ⟨y, rfl⟩
    | oi c ks ds => obtain ⟨y, dx, vs, rfl, _⟩ := r; exact ⟨y, rfl⟩
  refine ⟨F.wk, F.ent, F.ioT, by rw [List.length_set, List.length_set]; exact F.len, fun j t e => ?_, fun j j' t t' v hj e e' ot ot' ev => ?_, fun j t a e ot ev => ?_, fun y t hy e ot => ?_⟩
  · rcases get_set e with ⟨rfl, z⟩ | ⟨hij, z⟩
    · cases z
      refine ⟨_, ?_, new⟩
      have hl : i < σ.length := by
        rw [← F.len]
        have := (List.getElem?_eq_some_iff.mp e).1
        rwa [List.length_set] at this
      rw [List.getElem?_set, if_pos rfl, if_pos hl]
    · rw [set_get hij]
      exact F.sl j t z
  · rcases get_set e with ⟨rfl, z⟩ | ⟨hij, z⟩
    · have := at_ ev
      subst this
      rcases get_set e' with ⟨rfl, z'⟩ | ⟨hij', z'⟩
      · exact absurd rfl hj
      · rw [set_get hij']
        intro q
        exact hne j' t' x z' ot' q rfl
    · rw [set_get hij] at ev
      rcases get_set e' with ⟨rfl, z'⟩ | ⟨hij', z'⟩
      · intro q
        have := at_ q
        subst this
        exact hne j t x z ot ev rfl
      · rw [set_get hij']
        exact F.ne j j' t t' v hj z z' ot ot' ev
  · rcases get_set e with ⟨rfl, z⟩ | ⟨hij, z⟩
    · have := at_ ev
      cases this
      exact ⟨.inl hE, hm⟩
    · rw [set_get hij] at ev
      exact F.fr j t a z ot ev
  · rw [set_get hi] at e ⊢
    exact F.io0 y t hy e ot
theorem Fm.fresh (F : Fm G E W H N σ σd) (hx : H x = none) : E.H x = none ∧ ∀ (j : Nat) (t : Sl) (y : Addr), σd[j]? = some (some t) → t.own = true → σ[j]? = some (some (.ref y)) → y ≠ x := by
  refine ⟨?_, fun j t y h o e z => ?_⟩
  · cases q : E.H x with
    | none => rfl
    | some u => exact absurd hx (F.ent.there F.wk F.ioT (by rw [q]; simp))
  · subst z
    obtain ⟨v, e2, r⟩ := F.sl j t h
    rw [e] at e2
    cases e2
    cases t with
    | sh d => cases o
    | ol ds => obtain ⟨a, us, e3, h1, _⟩ := r; cases e3; rw [hx] at h1; cases h1
    | oi c ks ds => obtain ⟨a, dx, us, e3, h1, _⟩ := r; cases e3; rw [hx] at h1; cases h1
end
/-! ### C(..) -/
structure PutM (G : Gd) (n a b : Nat) (gV : List V → List V → List V) (gD : List D → List D → List D) : Prop where
  len : ∀ ds es, ds.length = a → es.length = b → (gD ds es).length = n
  rel : ∀ W x ds es vs us, ds.length = a → es.length = b → RpL G W ds vs → RpL G W es us → ∃ ws, gV (.ref x :: vs) us = .ref x :: ws ∧ RpL G W (gD ds es) ws
def fMake (c : Str) (f : List D → Tr (List Str × List D)) (gD : List D → List D → List D) (fa fk : FA) : FE := fun σ => (fa σ).bind fun ds => (fk σ).bind fun es => (f (gD ds es)).bind fun r => .ret (.ins c r.1 r.2)
def fNew (i : Nat) (c : Str) (f : List D → Tr (List Str × List D)) (gD : List D → List D → List D) (fa fk : FA) : FS := fun σ => (fa σ).bind fun ds => (fk σ).bind fun es => (f (gD ds es)).bind fun r => .ret (.nx (σ.set i (some (.oi c r.1 r.2))))
section
variable {X : Cx} {G : Gd} {x c : Str} {p pos px : Pos} {e o : Expr} {es : List Expr} {kws : List Keyword} {k n : Nat} {ps ks : List Str} {f : List D → Tr (List Str × List D)} {fa fk : FA} {gV : List V → List V → List V} {gD : List D → List D → List D}
theorem make_imp {E : En} {a b : Nat} (hp : PutM G n a b gV gD) (σ : St) (H : Hp) (Q : VK) (h : tE G E (fMake c f gD fa fk) σ H Q) : tMakeK (G.CT c) (spI G c n f) gV E0 (tA G E a fa) (tA G E b fk) σ H Q := by
  obtain ⟨W, N, σd, F, q⟩ := h
  refine ⟨W, N, σd, F, Tr.al_mono (fun _ _ z => z) (fun ds m h vs W1 H1 l1 a1 k1 r1 => ?_) _ _ ((Tr.al_bind _ _).mp q)⟩
  refine ⟨W1, m, σd, F.adv a1 k1, Tr.al_mono (fun _ _ z => z) (fun es m2 h2 us W2 H2 l2 a2 k2 r2 => ?_) _ _ ((Tr.al_bind _ _).mp h)⟩
  intro x dx hx hdx hne
  obtain ⟨ws, e1, r3⟩ := hp.rel W2 x ds es vs us l1 l2 (RpL.mono a2.le _ _ r1) r2
  rw [e1]
  refine ⟨x, dx, ws, W2, m2, gD ds es, rfl, upd_same, k2.none hx, k2.off hx, hp.len ds es l1 l2, r3, k2.same (same_new hx hdx), Tr.al_mono (fun _ _ z => z) (fun r m3 h3 W' H' dy ws' a3 k3 h4 h5 r4 => ⟨rfl, ?_⟩) _ _ ((Tr.al_bind _ _).mp h2)⟩
  have aN := adv_new (M := m3) k2 hx hdx a3
  exact h3 (.ref x) _ H' (a1.tr k1 (a2.tr k2 (aN.putAt h5 hx))) (k3.putAt h5 h4 (mach_off k2 hx a3)) (by simp only [Rp]; exact ⟨x, dy, ws', rfl, put_at, RpL.mono (put_le h5) _ _ r4⟩)
theorem new_imp {E : En} {a b i : Nat} {Dn : Ends} (hi : i ≠ 0) (hp : PutM G n a b gV gD) (σ : St) (H : Hp) (h : tS G E (fNew i c f gD fa fk) Dn σ H) : tAsg (tMakeK (G.CT c) (spI G c n f) gV E0 (tA G E a fa) (tA G E b fk)) (gName i) Dn σ H := by
  obtain ⟨W, N, σd, F, q⟩ := h
  refine ⟨W, N, σd, F, Tr.al_mono (fun _ _ z => z) (fun ds m h vs W1 H1 l1 a1 k1 r1 => ?_) _ _ ((Tr.al_bind _ _).mp q)⟩
  refine ⟨W1, m, σd, F.adv a1 k1, Tr.al_mono (fun _ _ z => z) (fun es m2 h2 us W2 H2 l2 a2 k2 r2 => ?_) _ _ ((Tr.al_bind _ _).mp h)⟩
  intro x dx hx hdx hne
  obtain ⟨ws, e1, r3⟩ := hp.rel W2 x ds es vs us l1 l2 (RpL.mono a2.le _ _ r1) r2
  rw [e1]
  refine ⟨x, dx, ws, W2, m2, gD ds es, rfl, upd_same, k2.none hx, k2.off hx, hp.len ds es l1 l2, r3, k2.same (same_new hx hdx), Tr.al_mono (fun _ _ z => z) (fun r m3 h3 W' H' dy ws' a3 k3 h4 h5 r4 => ⟨rfl, ?_⟩) _ _ ((Tr.al_bind _ _).mp h2)⟩
  have aN := adv_new (M := m3) k2 hx hdx a3
  have F2 := F.adv (a1.tr k1 a2) k2
  obtain ⟨f1, f2⟩ := F2.fresh hx
  exact h3 _ W' H' (a1.tr k1 (a2.tr k2 aN)).le (((F2.adv aN k3)).setO hi rfl ⟨x, dy, ws', rfl, h4, h5, r4⟩ f1 (mach_off k2 hx a3) f2)
theorem de_makeK (M : CalM X.prog X.w X.K X.mg X.base k x (G.CT c) ps ks gV (spI G c n f)) (hp : PutM G n (e :: es).length kws.length gV gD) (hr : Room (k + 1) X.A) (hg : Gl X x) (ha : DA X G (e :: es) fa) (hkw : DK X G kws fk) (hall : (backToKw pos (keywordEach kws X.env)).all (·.1.isSome) = true := by rfl)
    (hks : (backToKw pos (keywordEach kws X.env)).filterMap (·.1) = ks := by rfl) (hdb : (x == ("__debug__" : Str)) = false := by decide) (he : starEach (e :: es) X.env = (false, eval e X.env) :: starEach es X.env := by rfl)
    (hpl : ((backTo pos (starEach (e :: es) X.env)).any (·.1) || (backToKw pos (keywordEach kws X.env)).any (·.1.isNone)) = false := by rfl) : DE X G (.Call (.Name x p) (e :: es) kws pos) (fMake c f gD fa fk) := .mk fun E =>
  PE.imp (we_makeK M hr hg (.mk (ha.un E)) (.mk (hkw.un E)) hall hks hdb he hpl).un fun σ H Q h => make_imp hp σ H Q h
end
end L3

set_option Elab.async false
set_option linter.all false
set_option maxRecDepth 100000
namespace L3
open PySem PySem.Spec L2
section
variable {X : Cx} {G : Gd} {x c : Str} {p pos px pos' apos p2 : Pos} {e o : Expr} {es : List Expr} {kws : List Keyword} {k n : Nat} {ps ks : List Str} {f : List D → Tr (List Str × List D)} {fa fk : FA} {gV : List V → List V → List V} {gD : List D → List D → List D}
/-! ### y = C(..), y's own -/
theorem ds_newK {i : Nat} {y : Str} (M : CalM X.prog X.w X.K X.mg X.base k x (G.CT c) ps ks gV (spI G c n f)) (hp : PutM G n (e :: es).length kws.length gV gD) (hr : Room (k + 1) X.A) (hg : Gl X x) (ha : DA X G (e :: es) fa) (hkw : DK X G kws fk) (hi0 : i ≠ 0) (hN : X.N.Nodup) (hi : X.N[i]? = some y) (hx : Loc X.env.scope y)
    (hall : (backToKw p2 (keywordEach kws X.env)).all (·.1.isSome) = true := by rfl)
    (hks : (backToKw p2 (keywordEach kws X.env)).filterMap (·.1) = ks := by rfl) (hdb : (x == ("__debug__" : Str)) = false := by decide) (he : starEach (e :: es) X.env = (false, eval e X.env) :: starEach es X.env := by rfl)
    (hpl : ((backTo p2 (starEach (e :: es) X.env)).any (·.1) || (backToKw p2 (keywordEach kws X.env)).any (·.1.isNone)) = false := by rfl)
    (hs : swapsWith (.Call (.Name x p) (e :: es) kws p2) (some (.Name y pos')) pos.line X.env = pure false := by rfl) (hf : X.fn y = true ∨ X.env.scope.names.lookup y = some .local := by first | exact .inl rfl | exact .inr rfl | assumption) :
    DS X G (.Assign [.Name y pos'] (.Call (.Name x p) (e :: es) kws p2) pos) (fNew i c f gD fa fk) := .mk fun E =>
  PS.imp (ps_set hN hi hx (we_makeK M hr hg (.mk (ha.un E)) (.mk (hkw.un E)) hall hks hdb he hpl).un hs hf) fun D σ H h => new_imp hi0 hp σ H h
end
/-! ### an __init__, from its body -/
section
variable {P : Program} {w : World} {K : PySem.W.Frag} {mg : Str → Option Value} {base : Heap} {x qual : Str} {st : Stmt} {fa : Addr} {fd : FuncData} {N ps : List Str} {k : Nat} {G : Gd} {f : FS}
theorem fundI_ok {n kk : Nat} {c : Str} {dV kV : Value} (F : FunD K x qual st fa fd dV kV) (S : FnScope N ps (defScope st)) (hn : N.length = n) (hk : ps.length = kk + 1) (hb : ∀ (cdv : Value) (A : Around) (outer : List Env) (s : Shared) (H : Hp) (E : XK), Room k (A.deeper (PyProof.Rows.envOfC qual (defScope st) s.heap.objs.size fa cdv)) → DSs (cxOf CX0 P w K mg base N qual (defScope st) fa cdv A outer s H E).nox G (defBody st) f) :
    FnOk P w K mg base CX0 (k + 1) fa fd ps (spI G c kk (runI n c f)) := by
  subst hn
  exact F.okW S (fun vs H Q E h => (spI_len h).trans hk.symm) fun cdv A outer s H vs Q E hr h => bodyI_ok (hb cdv A outer s H E hr) h
end
/-! ### o.m(..) -/
def fMeth (c m : Str) (f : List D → Tr D) (fo : FE) (fa : FA) : FE := fun σ => (fo σ).bind fun d => match d with
  | .ins c' ks ds => if (decide (c' = c) && !ks.contains m) = true then (fa σ).bind fun as => f (.ins c' ks ds :: as) else .fail
  | _ => .fail
section
variable {X : Cx} {G : Gd} {c m : Str} {p pos px pos' apos : Pos} {e o : Expr} {es : List Expr} {k n : Nat} {ps : List Str} {f : List D → Tr D} {fo : FE} {fa : FA}
theorem meth_imp {E : En} {a : Nat} (hn : a + 1 = n) (σ : St) (H : Hp) (Q : VK) (h : tE G E (fMeth c m f fo fa) σ H Q) : tMeth (G.CT c) m (spD G n f) [] E0 (tE G E fo) (tA G E a fa) σ H Q := by
  obtain ⟨W, N, σd, F, q⟩ := h
  refine ⟨W, N, σd, F, Tr.al_mono (fun _ _ z => z) (fun d m1 h v W1 H1 a1 k1 r1 => ?_) _ _ ((Tr.al_bind _ _).mp q)⟩
  split at h
  · rename_i c' ks ds
    split at h
    · rename_i z
      simp only [Bool.and_eq_true, decide_eq_true_eq, Bool.not_eq_true'] at z
      obtain ⟨z1, z2⟩ := z
      subst z1
      have r0 := r1
      simp only [Rp] at r1
      obtain ⟨x, dx, vs, rfl, h1, h2⟩ := r1
      refine ⟨x, dx, _, rfl, k1.s _ _ h1, noF_rp z2, W1, m1, σd, F.adv a1 k1, Tr.al_mono (fun _ _ z => z) (fun as m2 hh us W2 H2 l2 a2 k2 r2 => ?_) _ _ ((Tr.al_bind _ _).mp h)⟩
      show spD G n f (V.ref x :: (us ++ [])) H2 Q E0
      rw [List.append_nil]
      exact sp_of (E := E0) (by rw [List.length_cons, l2]; exact hn) (RpL.cons (Rp.mono a2.le _ _ r0) r2) k2 (Tr.al_mono (fun _ _ z => z) (fun d m3 h3 v' W3 H3 a3 k3 r3 => h3 v' W3 H3 (a1.tr k1 (a2.tr k2 a3)) k3 r3) _ _ hh)
    · exact h.elim
  · exact h.elim
theorem de_meth0 {pl : Sem Bool} (M : CalO X.prog X.w X.K X.mg X.base k (G.CT c) m ps (spD G 1 f)) (hr : Room k X.A) (ho : DE X G o fo)
    (ht : eval (.Call (.Attribute o m apos) [] [] pos) X.env = (do
      let ov ← eval o X.env
      standAt apos.atName
      let (f, first) ← holding [ov] (getMethod ov m pl)
      callWith pos f first (backTo pos (starEach [] X.env)) (backToKw pos (keywordEach [] X.env))) := by rfl) :
    DE X G (.Call (.Attribute o m apos) [] [] pos) (fMeth c m f fo fNil) := .mk fun E =>
  PE.imp (we_meth0 (pl := pl) M hr (.mk (ho.un E)) ht).un fun σ H Q h => by
    obtain ⟨W, N, σd, F, q⟩ := meth_imp (a := 0) rfl σ H Q h
    refine ⟨W, N, σd, F, Tr.al_mono (fun _ _ z => z) (fun d m1 h v W1 H1 a1 k1 r1 => ?_) _ _ q⟩
    obtain ⟨x, dx, fs, ex, e1, e2, W2, N2, σd2, F2, q2⟩ := h v W1 H1 a1 k1 r1
    exact ⟨x, dx, fs, ex, e1, e2, q2 [] W2 H1 rfl (.refl _ _ _) F2.wk RpL.nil⟩
/-! ### == and != by an own __eq__ -/
def gEqO (n : Bool) (c : Str) (f : List D → Tr D) : D → D → Tr D := fun x y => match x, y with
  | .ins c1 k1 d1, .ins c2 k2 d2 => if (decide (c1 = c) && decide (c2 = c)) = true then (f [.ins c1 k1 d1, .ins c2 k2 d2]).bind fun z => match z with
      | .bl b => .ret (.bl (if n = true then !b else b))
      | _ => .fail
    else .fail
  | _, _ => .fail
end
end L3
namespace L3
open PySem PySem.Spec L2
def gBits : D → Tr D
  | .int i => .ret (.int (Builtin.Int.intBits i : Nat))
  | _ => .fail
theorem de_bits {X : Cx} {G : Gd} {o : Expr} {apos cpos : Pos} {fo : FE} (h : DE X G o fo) (hbase : attributeBase o "bit_length" X.env (eval o X.env) = eval o X.env := by rfl) (hline : (apos.endLine == cpos.line) = true := by rfl) : DE X G (.Call (.Attribute o "bit_length" apos) [] [] cpos) (fUn gBits fo) := .mk fun E =>
  PE.imp (pe_bm0 PySem.F.plainAttrs_int PySem.F.slot_int_bit_length PySem.F.type_int_bit_length mt_bitsM (h.un E) hbase hline) fun σ H Q ⟨W, N, σd, F, q⟩ => by
    refine ⟨W, N, σd, F, Tr.al_mono (fun _ _ z => z) (fun d m h v W1 H1 a1 k1 r1 => ?_) _ _ ((Tr.al_bind _ _).mp q)⟩
    unfold gBits at h
    split at h
    · simp only [Rp] at r1
      subst r1
      exact ⟨rfl, _, rfl, rfl, h _ W1 H1 a1 k1 (by simp only [Rp])⟩
    · exact h.elim
end L3

set_option Elab.async false
set_option linter.all false
set_option maxRecDepth 100000
namespace L3
open PySem PySem.Spec L2
section
variable {X : Cx} {G : Gd} {a b c e o : Expr} {es rest : List Expr} {pos p apos cpos p2 : Pos}
/-! ### int(x) -/
def rIntX : List V → Hp → VK → Prop := fun xs H Q => ((∃ i, xs = [.int i] ∧ Q (.int i) H) ∨ ∃ k, xs = [.bl k] ∧ Q (.int (if k then 1 else 0)) H) ∨ ∃ a n, xs = [.str a] ∧ PySem.intText? a = some n ∧ a.length ≤ 640 ∧ Q (.int n) H
def gInt : List D → Tr D := fun ds => match ds with
  | [.int i] => .ret (.int i)
  | [.bl k] => .ret (.int (if k then 1 else 0))
  | [.str z] => match PySem.intText? z with
    | some n => if z.length ≤ 640 then .ret (.int n) else .fail
    | none => .fail
  | _ => .fail
/-! ### slices -/
def rSlTX (K : PySem.W.Frag) : V → Option Int → Option Int → Hp → VK → Prop := fun x lo hi H Q => ∃ a xs, x = .ref a ∧ SqT K H a xs ∧ (SqT K H a (cutV xs lo hi) → cutV xs lo hi = xs → Q (.ref a) H) ∧ Born H (.tup (cutV xs lo hi)) Q
def rSlX (K : PySem.W.Frag) : V → Option Int → Option Int → Hp → VK → Prop := fun x lo hi H Q => rSlTX K x lo hi H Q ∨ (rSlLA K x lo hi H Q ∨ rSlS x lo hi H Q)
def cutD (xs : List D) (lo hi : Option Int) : List D := (xs.drop (HT.sIx xs.length 0 lo)).take (HT.sIx xs.length xs.length hi - HT.sIx xs.length 0 lo)
def gSl (d : D) (lo hi : Option Int) : Tr D := match d with
  | .tup ds => .ret (.tup (cutD ds lo hi))
  | .lst ds => .ret (.lst (cutD ds lo hi))
  | .str z => if z.length ≤ sizeLine then .ret (.str (cutS z lo hi)) else .fail
  | _ => .fail
abbrev FO := DSt → Tr (Option Int)
def tO (G : Gd) (E : En) (f : FO) : TO := fun σ H R => ∃ W N σd, Fm G E W H N σ σd ∧ (f σd).al no (fun o m => ∀ W' H', Adv none W H W' H' → Wk W' H' m → R o H') N
@[irreducible] def DO (X : Cx) (G : Gd) (e : Option Expr) (f : FO) : Prop := ∀ E, PO X e (tO G E f)
def fNoP : FO := fun _ => .ret none
def fPart (f : FE) : FO := fun σ => (f σ).bind fun d => match d with
  | .int i => .ret (some i)
  | _ => .fail
def fSl (f : FE) (l h : FO) : FE := fun σ => (f σ).bind fun d => (l σ).bind fun lo => (h σ).bind fun hi => gSl d lo hi
end
end L3
namespace L3
open PySem L2
def ctOf (l : List (Str × Addr)) (c : Str) : Addr := (l.lookup c).getD 0
end L3

set_option Elab.async false
set_option linter.all false
set_option maxRecDepth 100000
/-! targets within targets: a, (b, c) = .. -/
namespace L3
open PySem PySem.Spec L2
section
variable {X : Cx} {G : Gd} {e : Expr} {es : List Expr} {pos : Pos}
abbrev FGs := List D → DSt → Option DSt
def tGs (G : Gd) (E : En) (g : FGs) : TGs := fun vs σ H Q => ∃ W N σd ds σd', Fm G E W H N σ σd ∧ RpL G W ds vs ∧ g ds σd = some σd' ∧ ∀ σ' W' H', W.le W' → Fm G E W' H' N σ' σd' → Q σ' H'
@[irreducible] def DGs (X : Cx) (G : Gd) (es : List Expr) (g : FGs) : Prop := ∀ E, PGs X es (tGs G E g)
def hNilS : FGs := fun ds σ => match ds with
  | [] => some σ
  | _ => none
def hConsS (g : FG) (gs : FGs) : FGs := fun ds σ => match ds with
  | d :: ds => match g d σ with
    | some σ' => gs ds σ'
    | none => none
  | [] => none
def hTupN (n : Nat) (gs : FGs) : FG := fun d σ => match d with
  | .tup ds => if ds.length = n then gs ds σ else none
  | _ => none
end
/-! ### tuple + tuple -/
section
variable {X : Cx} {G : Gd}
def rCatTX (K : PySem.W.Frag) : R2 := fun x y H Q => ∃ a b xs ys, x = .ref a ∧ y = .ref b ∧ SqT K H a xs ∧ SqT K H b ys ∧ xs.length + ys.length ≤ sizeLine ∧
  (xs = [] → Q (.ref b) H) ∧ (xs ≠ [] → ys = [] → Q (.ref a) H) ∧ (xs ≠ [] → ys ≠ [] → ∀ p, H p = none → Q (.ref p) (upd H p (.tup (xs ++ ys))))
def gCatT : D → D → Tr D
  | .tup xs, .tup ys => if xs.length + ys.length ≤ 1000000 then .ret (.tup (xs ++ ys)) else .fail
  | _, _ => .fail
end
end L3

set_option Elab.async false
set_option linter.all false
set_option maxRecDepth 100000
/-! lists of one's own: x = [..], x.append(e), x[i], x, y = e, [] -/
namespace L3
open PySem PySem.Spec L2
section
variable {G : Gd} {E : En} {W : Wd} {H H' : Hp} {N : Nat} {σ : St} {σd : DSt}
end
section
variable {X : Cx} {G : Gd} {e a b : Expr} {es : List Expr} {pos pos' p2 apos cpos px py pt pt2 : Pos} {x y : Str}
def fSetL (i : Nat) (f : FA) : FS := fun σ => (f σ).bind fun ds => .ret (.nx (σ.set i (some (.ol ds))))
/-! ### x.append(e) -/
def fApp (i : Nat) (f : FE) : FS := fun σ => match σ[i]? with
  | some (some (.ol ds)) => if ds.length < 1000000 then (f σ).bind fun d => .ret (.nx (σ.set i (some (.ol (ds ++ [d]))))) else .fail
  | _ => .fail
/-! ### x[i], x of one's own -/
def fIxO (i : Nat) (f : FE) : FE := fun σ => match σ[i]? with
  | some (some (.ol ds)) => (f σ).bind fun y => gIx (.lst ds) y
  | some (some (.sh d)) => (f σ).bind fun y => gIx d y
  | _ => .fail
end
end L3

set_option Elab.async false
set_option linter.all false
set_option maxRecDepth 100000
/-! tuples with objects: == and != -/
namespace L2
open PySem PySem.Spec PyProof.Rows
/-- items one by one: plain data, or objects of the class C, alike by its own == -/
def chk (K : PySem.W.Frag) (C : Addr) (sp : Sp) : List V → List V → Hp → (Bool → Hp → Prop) → Prop
  | [], [], H, k => k true H
  | x :: xs, y :: ys, H, k => (∃ d e, Dp K H x d ∧ Dp K H y e ∧ SeqAt.shaped d = true ∧ SeqAt.shaped e = true ∧ (PyData.eqv d e = true → chk K C sp xs ys H k) ∧ (PyData.eqv d e = false → k false H)) ∨
      (∃ a b, x = .ref a ∧ y = .ref b ∧ (a = b → chk K C sp xs ys H k) ∧ (a ≠ b → rEqO C sp x y H (fun v H' => v = .bl true ∧ chk K C sp xs ys H' k)))
  | _, _, _, _ => False
def rEqT (K : PySem.W.Frag) (C : Addr) (sp : Sp) (ne : Bool) : R2 := fun x y H Q => ∃ a b xs ys, x = .ref a ∧ y = .ref b ∧ SqT K H a xs ∧ SqT K H b ys ∧ xs.length = ys.length ∧ chk K C sp xs ys H fun c H' => Q (.bl (if ne = true then !c else c)) H'
section
variable {X : Cx} {k : Nat} {C : Addr} {ps : List Str} {sp : Sp}
end
end L2
namespace L3
open PySem PySem.Spec L2
def objD (c : Str) (f : List D → Tr D) (x y : D) : Option Bool := match x, y with
  | .ins c1 k1 d1, .ins c2 k2 d2 => if (decide (c1 = c) && decide (c2 = c)) = true then match f [.ins c1 k1 d1, .ins c2 k2 d2] with
    | .ret (.bl true) => some true
    | _ => none
    else none
  | _, _ => none
def elD (c : Str) (f : List D → Tr D) (x y : D) : Option Bool := match x.toP, y.toP with
  | some p, some q => if (SeqAt.shaped p && SeqAt.shaped q) = true then some (PyData.eqv p q) else none
  | _, _ => objD c f x y
def chkD (c : Str) (f : List D → Tr D) : List D → List D → Tr Bool
  | [], [] => .ret true
  | x :: xs, y :: ys => match elD c f x y with
    | some true => chkD c f xs ys
    | some false => .ret false
    | none => .fail
  | _, _ => .fail
def gEqT (ne : Bool) (c : Str) (f : List D → Tr D) : D → D → Tr D
  | .tup ds, .tup es => if ds.length = es.length then (chkD c f ds es).bind fun b => .ret (.bl (if ne = true then !b else b)) else .fail
  | _, _ => .fail
section
variable {G : Gd} {c : Str} {f : List D → Tr D}
end
end L3

set_option Elab.async false
set_option linter.all false
set_option maxRecDepth 100000
/-! blocks of ifs and returns alone; for over a list of one's own; x, y = e, []; repr of data -/
namespace L3
open PySem PySem.Spec L2
abbrev FP := DSt → Tr (Option D)
def okP (G : Gd) (E : En) (W : Wd) (H : Hp) (Dn : Ends) (σ : St) (r : Option D) (m : Nat) : Prop := match r with
  | none => ∀ W' H', Adv none W H W' H' → Wk W' H' m → Dn.nx σ H'
  | some d => ∀ v W' H', Adv E.io E.W E.H W' H' → (∀ x, E.io = some x → H' x ≠ none) → Wk W' H' m → Rp G W' d v → Dn.rt v H'
def tP (G : Gd) (E : En) (f : FP) : TS := fun Dn σ H => ∃ W N σd, Fm G E W H N σ σd ∧ (f σd).al no (okP G E W H Dn σ) N
@[irreducible] def DP (X : Cx) (G : Gd) (st : List Stmt) (f : FP) : Prop := ∀ E, PSs X st (tP G E f)
@[irreducible] def DP1 (X : Cx) (G : Gd) (st : Stmt) (f : FP) : Prop := ∀ E, PS X st (tP G E f)
def pNil : FP := fun _ => .ret none
def pRet (f : FE) : FP := fun σ => (f σ).bind fun d => .ret (some d)
def pIf (c : FT) (f g : FP) : FP := fun σ => (c σ).bind fun b => if b = true then f σ else g σ
def pSeq (f g : FP) : FP := fun σ => (f σ).bind fun r => match r with
  | none => g σ
  | some d => .ret (some d)
section
variable {X : Cx} {G : Gd} {e a b : Expr} {es : List Expr} {pos pos' p2 apos cpos px py pt pt2 : Pos} {x y : Str} {tg : Expr} {body : List Stmt}
/-! ### for over a list of one's own, that the body leaves -/
def loopP (g : FG) (fp : FP) : List D → DSt → Tr Fl
  | [], σ => .ret (.nx σ)
  | d :: ds, σ => match g d σ with
    | none => .fail
    | some σ1 => (fp σ1).bind fun r => match r with
      | none => loopP g fp ds σ1
      | some d => .ret (.rt d)
def fForO (i : Nat) (js : List Nat) (fp : FP) : FS := fun σ => match σ[i]? with
  | some (some (.ol ds)) => loopP (hTup js) fp ds σ
  | _ => .fail
/-! ### x, y = e, [] -/
def fParL (i j : Nat) (f : FE) : FS := fun σ => (f σ).bind fun d => .ret (.nx ((σ.set i (some (.sh d))).set j (some (.ol []))))
/-! ### [..] * k -/
def fRepL (fa : FA) (fb : FE) : FE := fun σ => (fa σ).bind fun ds => (fb σ).bind fun y => match y with
  | .int k => if ds.length * k.toNat ≤ 1000000 ∧ 0 ≤ k ∧ k < 1000000 then .ret (.lst (List.replicate k.toNat ds).flatten) else .fail
  | _ => .fail
/-! ### repr of data -/
def shOk (p : PyData) : Bool := p.showable && !p.hasDict && decide (p.depth ≤ 20) && decide (p.shown.length ≤ 1000000)
def gRepr : List D → Tr D
  | [.bl b] => .ret (.str (if b then "True" else "False"))
  | [.int i] => if i.natAbs.log2 < 1920 then .ret (.str (toString i)) else .fail
  | [.tup ds] => match D.toPL ds with
    | some ps => if shOk (.tuple ps) = true then .ret (.str (PyData.tuple ps).shown) else .fail
    | none => .fail
  | [.lst ds] => match D.toPL ds with
    | some ps => if shOk (.list ps) = true then .ret (.str (PyData.list ps).shown) else .fail
    | none => .fail
  | _ => .fail
def rReprX (K : PySem.W.Frag) : List V → Hp → VK → Prop := fun xs H Q => (∃ b, xs = [.bl b] ∧ Q (.str (if b then "True" else "False")) H) ∨ (∃ i, xs = [.int i] ∧ i.natAbs.log2 < 1920 ∧ Q (.str (toString i)) H) ∨
  ∃ a d, xs = [.ref a] ∧ Dp K H (.ref a) d ∧ d.showable = true ∧ d.hasDict = false ∧ d.depth ≤ 20 ∧ d.shown.length ≤ sizeLine ∧ Q (.str d.shown) H
theorem call_reprX (hu : X.A.units + 64 < cLine) (hg : X.A.guards = some []) : CallR X (.builtin "repr") (rReprX X.K) := by
  intro pins s σ H xs us Q I r h
  rcases h with ⟨b, rfl, q⟩ | ⟨i, rfl, hi, q⟩ | h
  · obtain ⟨u, rfl, ru⟩ := vals1 r
    cases ru
    exact call_repr_gives (typeIs_bool s b) PySem.F.slot_bool_repr PySem.F.entry_bool_repr (PySem.F.args_bool_repr_1 _) (gives_bool_repr b) ⟨.str _, H, I.tok _, ⟨_, rfl⟩, q⟩ (hx := by cases b <;> decide)
  · obtain ⟨u, rfl, t, rfl⟩ := vals1 r
    exact call_repr_gives (typeIs_int s i t) PySem.F.slot_int_repr PySem.F.entry_int_repr (PySem.F.args_int_repr_1 _) (gives_int_repr i t hi) ⟨.str _, H, I.tok _, ⟨_, rfl⟩, q⟩ (hx := int_text_fits hi)
  · exact call_repr hu hg pins s σ H xs us Q I r h
theorem ad_repr : ArD G (rReprX G.K) gRepr := by
  intro xs W H N vs Q k r q
  unfold gRepr at q
  split at q
  · rename_i b
    obtain ⟨v, rfl, r1⟩ := r.one
    simp only [Rp] at r1
    subst r1
    exact .inl ⟨b, rfl, q _ W H (.refl _ _ _) k (by simp only [Rp])⟩
  · rename_i i
    split at q
    · rename_i hi
      obtain ⟨v, rfl, r1⟩ := r.one
      simp only [Rp] at r1
      subst r1
      exact .inr (.inl ⟨i, rfl, hi, q _ W H (.refl _ _ _) k (by simp only [Rp])⟩)
    · exact q.elim
  · rename_i ds
    split at q
    · rename_i ps ep
      split at q
      · rename_i ok
        obtain ⟨v, rfl, r1⟩ := r.one
        simp only [shOk, Bool.and_eq_true, decide_eq_true_eq, Bool.not_eq_true'] at ok
        have d1 := dp_of (G := G) k.s (.tup ds) v (.tuple ps) (by simp only [D.toP, ep, Option.map_some]) r1
        simp only [Rp] at r1
        obtain ⟨a, us, rfl, _, _⟩ := r1
        exact .inr (.inr ⟨a, _, rfl, d1, ok.1.1.1, ok.1.1.2, ok.1.2, by rw [sizeLine_eq]; omega, q _ W H (.refl _ _ _) k (by simp only [Rp])⟩)
      · exact q.elim
    · exact q.elim
  · rename_i ds
    split at q
    · rename_i ps ep
      split at q
      · rename_i ok
        obtain ⟨v, rfl, r1⟩ := r.one
        simp only [shOk, Bool.and_eq_true, decide_eq_true_eq, Bool.not_eq_true'] at ok
        have d1 := dp_of (G := G) k.s (.lst ds) v (.list ps) (by simp only [D.toP, ep, Option.map_some]) r1
        simp only [Rp] at r1
        obtain ⟨a, us, rfl, _, _⟩ := r1
        exact .inr (.inr ⟨a, _, rfl, d1, ok.1.1.1, ok.1.1.2, ok.1.2, by rw [sizeLine_eq]; omega, q _ W H (.refl _ _ _) k (by simp only [Rp])⟩)
      · exact q.elim
    · exact q.elim
  · exact q.elim
end
end L3

set_option Elab.async false
set_option linter.all false
/-! the readings' own equations, not by rfl: the kernel then compares no great terms -/
namespace L3
open PySem L2
def q_fNx := @fNx.eq_1
def q_fSeq := @fSeq.eq_1
def q_fRet := @fRet.eq_1
def q_fRetN := @fRetN.eq_1
def q_fDrop := @fDrop.eq_1
def q_fIfS := @fIfS.eq_1
def q_fSet := @fSet.eq_1
def q_fNever := @fNever.eq_1
def q_fAug := @fAug.eq_1
def q_fAsg := @fAsg.eq_1
def q_fPar := @fPar.eq_1
def q_fPar3 := @fPar3.eq_1
def q_hName := @hName.eq_1
def q_hTup := @hTup.eq_1
def q_fC := @fC.eq_1
def q_fOp := @fOp.eq_1
def q_fUn := @fUn.eq_1
def q_fTst := @fTst.eq_1
def q_fNot := @fNot.eq_1
def q_fAnd := @fAnd.eq_1
def q_fOr := @fOr.eq_1
def q_fNotV := @fNotV.eq_1
def q_fAndV := @fAndV.eq_1
def q_fOrV := @fOrV.eq_1
def q_fIf := @fIf.eq_1
def q_fNil := @fNil.eq_1
def q_fCons := @fCons.eq_1
def q_fTup := @fTup.eq_1
def q_fLst := @fLst.eq_1
def q_fCall := @fCall.eq_1
def q_fCallK := @fCallK.eq_1
def q_fChain := @fChain.eq_1
def q_fDic0 := @fDic0.eq_1
def q_fDic1 := @fDic1.eq_1
def q_fItL := @fItL.eq_1
def q_fItT := @fItT.eq_1
def q_fRng1 := @fRng1.eq_1
def q_fRng2 := @fRng2.eq_1
def q_fEnum := @fEnum.eq_1
def q_fZip := @fZip.eq_1
def q_fFor := @fFor.eq_1
def q_fLc := @fLc.eq_1
def q_fYes := @fYes.eq_1
def q_fWhile := @fWhile.eq_1
def q_run := @run.eq_1
section
variable {α β : Type}
def b_ret (a : α) (f : α → Tr β) : Tr.bind (.ret a) f = f a := id rfl
def b_fail (f : α → Tr β) : Tr.bind .fail f = .fail := id rfl
def b_exc (e : D) (f : α → Tr β) : Tr.bind (.exc e) f = .exc e := id rfl
def b_draw (t : Int) (k : Int → Tr α) (f : α → Tr β) : Tr.bind (.draw t k) f = .draw t fun r => Tr.bind (k r) f := id rfl
end
end L3

set_option Elab.async false
set_option linter.all false
namespace L3
open PySem L2
theorem v0 {d : D} {σ : DSt} : fVar 0 (some (.sh d) :: σ) = .ret d := id rfl
theorem v1 {d : D} {x0} {σ : DSt} : fVar 1 (x0 :: some (.sh d) :: σ) = .ret d := id rfl
theorem v2 {d : D} {x0 x1} {σ : DSt} : fVar 2 (x0 :: x1 :: some (.sh d) :: σ) = .ret d := id rfl
theorem v3 {d : D} {x0 x1 x2} {σ : DSt} : fVar 3 (x0 :: x1 :: x2 :: some (.sh d) :: σ) = .ret d := id rfl
theorem v4 {d : D} {x0 x1 x2 x3} {σ : DSt} : fVar 4 (x0 :: x1 :: x2 :: x3 :: some (.sh d) :: σ) = .ret d := id rfl
theorem v5 {d : D} {x0 x1 x2 x3 x4} {σ : DSt} : fVar 5 (x0 :: x1 :: x2 :: x3 :: x4 :: some (.sh d) :: σ) = .ret d := id rfl
theorem v6 {d : D} {x0 x1 x2 x3 x4 x5} {σ : DSt} : fVar 6 (x0 :: x1 :: x2 :: x3 :: x4 :: x5 :: some (.sh d) :: σ) = .ret d := id rfl
theorem v7 {d : D} {x0 x1 x2 x3 x4 x5 x6} {σ : DSt} : fVar 7 (x0 :: x1 :: x2 :: x3 :: x4 :: x5 :: x6 :: some (.sh d) :: σ) = .ret d := id rfl
theorem v8 {d : D} {x0 x1 x2 x3 x4 x5 x6 x7} {σ : DSt} : fVar 8 (x0 :: x1 :: x2 :: x3 :: x4 :: x5 :: x6 :: x7 :: some (.sh d) :: σ) = .ret d := id rfl
theorem v9 {d : D} {x0 x1 x2 x3 x4 x5 x6 x7 x8} {σ : DSt} : fVar 9 (x0 :: x1 :: x2 :: x3 :: x4 :: x5 :: x6 :: x7 :: x8 :: some (.sh d) :: σ) = .ret d := id rfl
theorem v10 {d : D} {x0 x1 x2 x3 x4 x5 x6 x7 x8 x9} {σ : DSt} : fVar 10 (x0 :: x1 :: x2 :: x3 :: x4 :: x5 :: x6 :: x7 :: x8 :: x9 :: some (.sh d) :: σ) = .ret d := id rfl
theorem v11 {d : D} {x0 x1 x2 x3 x4 x5 x6 x7 x8 x9 x10} {σ : DSt} : fVar 11 (x0 :: x1 :: x2 :: x3 :: x4 :: x5 :: x6 :: x7 :: x8 :: x9 :: x10 :: some (.sh d) :: σ) = .ret d := id rfl
section
variable {i j a b : Int}
theorem dec_V {p : Prop} {x y : V} (h : x = y ↔ p) [Decidable p] : decide (x = y) = decide p := by
  by_cases z : x = y
  · rw [decide_eq_true z, decide_eq_true (h.mp z)]
  · rw [decide_eq_false z, decide_eq_false (fun q => z (h.mpr q))]
theorem eq_ii : gEq (.int i) (.int j) = .ret (.bl (decide (i = j))) := by
  show Tr.ret (D.bl (decide (V.int i = V.int j))) = _
  rw [dec_V (p := i = j) ⟨fun z => V.int.inj z, fun z => congrArg V.int z⟩]
theorem ne_ii : gNe (.int i) (.int j) = .ret (.bl (!decide (i = j))) := by
  show Tr.ret (D.bl (!decide (V.int i = V.int j))) = _
  rw [dec_V (p := i = j) ⟨fun z => V.int.inj z, fun z => congrArg V.int z⟩]
theorem eq_ss {x y : Str} : gEq (.str x) (.str y) = .ret (.bl (decide (x = y))) := by
  show Tr.ret (D.bl (decide (V.str x = V.str y))) = _
  rw [dec_V (p := x = y) ⟨fun z => V.str.inj z, fun z => congrArg V.str z⟩]
theorem ne_ss {x y : Str} : gNe (.str x) (.str y) = .ret (.bl (!decide (x = y))) := by
  show Tr.ret (D.bl (!decide (V.str x = V.str y))) = _
  rw [dec_V (p := x = y) ⟨fun z => V.str.inj z, fun z => congrArg V.str z⟩]
theorem eq_bb {x y : Bool} : gEq (.bl x) (.bl y) = .ret (.bl (decide (x = y))) := by
  show Tr.ret (D.bl (decide (V.bl x = V.bl y))) = _
  rw [dec_V (p := x = y) ⟨fun z => V.bl.inj z, fun z => congrArg V.bl z⟩]
theorem ne_bb {x y : Bool} : gNe (.bl x) (.bl y) = .ret (.bl (!decide (x = y))) := by
  show Tr.ret (D.bl (!decide (V.bl x = V.bl y))) = _
  rw [dec_V (p := x = y) ⟨fun z => V.bl.inj z, fun z => congrArg V.bl z⟩]
/-- of at most k bits -/
def Sz (k : Nat) (i : Int) : Prop := i.natAbs < 2 ^ k
theorem Sz.mono {k l : Nat} (h : Sz k i) (hl : k ≤ l) : Sz l i := Nat.lt_of_lt_of_le h (Nat.pow_le_pow_right (by decide) hl)
theorem Sz.mul {k l : Nat} (h : Sz k i) (h' : Sz l j) : Sz (k + l) (i * j) := by
  unfold Sz at *
  rw [Int.natAbs_mul, Nat.pow_add]
  exact Nat.mul_lt_mul'' h h'
theorem Sz.add {k : Nat} (h : Sz k i) (h' : Sz k j) : Sz (k + 1) (i + j) := by
  unfold Sz at *
  rw [Nat.pow_succ]
  generalize 2 ^ k = B at *
  omega
theorem Sz.sub {k : Nat} (h : Sz k i) (h' : Sz k j) : Sz (k + 1) (i - j) := by
  unfold Sz at *
  rw [Nat.pow_succ]
  generalize 2 ^ k = B at *
  omega
theorem Sz.neg {k : Nat} (h : Sz k i) : Sz k (-i) := by unfold Sz at *; rwa [Int.natAbs_neg]
theorem Sz.le {k : Nat} (h : Sz k i) (h' : j.natAbs ≤ i.natAbs) : Sz k j := Nat.lt_of_le_of_lt h' h
theorem Sz.big {k : Nat} (h : Sz k i) (hk : k ≤ 4000000) : L3.big i = true := decide_eq_true (Nat.le_trans (intBits_le_iff.mpr h) hk)
theorem mul_ok (h : big i = true) (h' : big j = true) : gMul (.int i) (.int j) = .ret (.int (i * j)) := by
  show (if (big i && big j) = true then _ else _) = _
  rw [h, h']
  rfl
theorem div_ok (h : 0 < j) (h' : Builtin.divisionGoesByPylong i j = false) : gDiv (.int i) (.int j) = .ret (.int (i / j)) := by
  show (if (decide (0 < j) && !Builtin.divisionGoesByPylong i j) = true then _ else _) = _
  rw [decide_eq_true h, h']
  rfl
theorem dm_ok (h : 0 < j) (h' : Builtin.divisionGoesByPylong i j = false) : gDm [.int i, .int j] = .ret (.tup [.int (i / j), .int (i % j)]) := by
  show (if (decide (0 < j) && !Builtin.divisionGoesByPylong i j) = true then _ else _) = _
  rw [decide_eq_true h, h']
  rfl
theorem mod_ok (h : 0 < j) : gMod (.int i) (.int j) = .ret (.int (i % j)) := by
  show (if decide (0 < j) = true then _ else _) = _
  rw [decide_eq_true h]
  rfl
/-- no great division -/
theorem np_num (h : Sz 13000 i) : Builtin.divisionGoesByPylong i j = false := by
  unfold Builtin.divisionGoesByPylong
  simp only [Bool.and_eq_false_imp, decide_eq_true_eq, decide_eq_false_iff_not]
  intro hy
  have hx : (if (i == 0) = true then 0 else i.natAbs.log2 / 30 + 1) ≤ 434 := by
    split
    · omega
    · rename_i z
      have hi : i.natAbs ≠ 0 := by simp at z; omega
      have := (Nat.log2_lt hi).mpr h
      omega
  omega
theorem np_den (h : Sz 8999 j) : Builtin.divisionGoesByPylong i j = false := by
  refine PyProof.noPylong_of_log2 ?_
  by_cases hj : j.natAbs = 0
  · rw [hj]; decide
  · have := (Nat.log2_lt hj).mpr h
    omega
end
/-! ### steps -/
theorem loop_nil {g : FG} {fb : FS} {σ : DSt} : loop g fb [] σ = .ret (.nx σ) := by rw [loop]
theorem loop_cons {g : FG} {fb : FS} {d : D} {ds : List D} {σ σ1 σ2 : DSt} (h1 : g d σ = some σ1) (h2 : fb σ1 = .ret (.nx σ2)) : loop g fb (d :: ds) σ = loop g fb ds σ2 := by
  rw [loop, h1]
  dsimp only
  rw [h2]
  rfl
theorem wloop_no {fc : FT} {fb : FS} {n : Nat} {σ : DSt} (h : fc σ = .ret false) : wloop fc fb (n + 1) σ = .ret (.nx σ) := by
  rw [wloop, h]
  rfl
theorem wloop_go {fc : FT} {fb : FS} {n : Nat} {σ σ2 : DSt} (h : fc σ = .ret true) (h2 : fb σ = .ret (.nx σ2)) : wloop fc fb (n + 1) σ = wloop fc fb n σ2 := by
  rw [wloop, h, Tr.bind_ret, if_pos rfl, h2]
  rfl
section
variable {α β : Type} {E : D → Nat → Prop} {P : α → Nat → Prop} {Q : β → Nat → Prop}
theorem al_ret {a : α} {n : Nat} (h : P a n) : (Tr.ret a).al E P n := h
theorem al_draw {t : Int} {k : Int → Tr α} {n : Nat} (h0 : 0 < t) (h1 : t < 1073741824) (h : ∀ r, 0 ≤ r → r < t → (k r).al E P n) : (Tr.draw t k).al E P (n + 1) := ⟨n, rfl, h0, h1, h⟩
theorem al_bd {x : Tr α} {f : α → Tr β} {n : Nat} (h : x.al E (fun a m => (f a).al E Q m) n) : (x.bind f).al E Q n := (Tr.al_bind x n).mpr h
/-- a loop by what holds between its turns; each turn draws c at most -/
theorem al_loop {P : Fl → Nat → Prop} {g : FG} {fb : FS} (c : Nat) (I : Nat → DSt → Prop) (ds : List D) : ∀ (i : Nat) (σ : DSt) (n : Nat), I i σ →
    (∀ (j : Nat) (d : D) (σ : DSt) (n : Nat), ds[j]? = some d → I (i + j) σ → c ≤ n → ∃ σ1, g d σ = some σ1 ∧ (fb σ1).al E (fun r m => n ≤ m + c ∧ ((∃ σ', r = .nx σ' ∧ I (i + j + 1) σ'))) n) →
    (∀ σ m, I (i + ds.length) σ → n ≤ m + c * ds.length → P (.nx σ) m) → c * ds.length ≤ n → (loop g fb ds σ).al E P n := by
  induction ds with
  | nil =>
    intro i σ n hi hs hd hn
    rw [loop_nil]
    exact hd σ n hi (by simp)
  | cons d ds ih =>
    intro i σ n hi hs hd hn
    rw [List.length_cons, Nat.mul_succ] at hn
    obtain ⟨σ1, e1, q⟩ := hs 0 d σ n rfl hi (by omega)
    rw [loop, e1]
    refine al_bd (Tr.al_mono (fun _ _ z => z) (fun r m h => ?_) _ _ q)
    obtain ⟨hm, σ', rfl, hi'⟩ := h
    refine ih (i + 1) σ' m hi' (fun j d' σ n e hI hc => ?_) (fun σ m' hI hm' => ?_) (by omega)
    · have := hs (j + 1) d' σ n (by simpa using e) (by rw [show i + (j + 1) = i + 1 + j by omega]; exact hI) hc
      rw [show i + (j + 1) + 1 = i + 1 + j + 1 by omega] at this
      exact this
    · refine hd σ m' (by rw [List.length_cons, show i + (ds.length + 1) = i + 1 + ds.length by omega]; exact hI) ?_
      rw [List.length_cons, Nat.mul_succ]
      omega
end
theorem ix_pick {ds : List D} {r t : Int} (h0 : 0 ≤ r) (h1 : r < t) (hl : (ds.length : Int) = t) : ∃ d, gIx (.lst ds) (.int r) = .ret d ∧ d ∈ ds := by
  obtain ⟨j, rfl⟩ : ∃ j : Nat, r = j := ⟨r.toNat, by omega⟩
  have hj : j < ds.length := by omega
  have e : atI ds (j : Int) = some ds[j] := atI_nat (List.getElem?_eq_getElem hj)
  refine ⟨ds[j], ?_, List.getElem_mem hj⟩
  show (match atI ds (j : Int) with | some d => Tr.ret d | none => .fail) = _
  rw [e]
theorem al_pick {β : Type} {E : D → Nat → Prop} {P : β → Nat → Prop} {k : D → Tr β} {ds : List D} {t : Int} {n : Nat} (Q : Int → Prop) (h0 : 0 < t) (h1 : t < 1073741824) (hl : (ds.length : Int) = t) (hq : ∀ d ∈ ds, ∃ i, d = .int i ∧ Q i) (h : ∀ i, Q i → (k (.int i)).al E P n) :
    (Tr.draw t fun r => (gIx (.lst ds) (.int r)).bind k).al E P (n + 1) := by
  refine al_draw h0 h1 fun r r0 r1 => ?_
  obtain ⟨d, e, hd⟩ := ix_pick r0 r1 hl
  rw [e]
  obtain ⟨i, rfl, hi⟩ := hq d hd
  exact h i hi
theorem all_nil {Q : Int → Prop} : ∀ d ∈ ([] : List D), ∃ i, d = .int i ∧ Q i := fun _ h => nomatch h
theorem all_cons {Q : Int → Prop} {i : Int} {ds : List D} (h : Q i) (hs : ∀ d ∈ ds, ∃ i, d = .int i ∧ Q i) : ∀ d ∈ (D.int i :: ds), ∃ i, d = .int i ∧ Q i := fun d hd => by
  rcases List.mem_cons.mp hd with rfl | hd
  · exact ⟨i, rfl, h⟩
  · exact hs d hd
theorem intsD_len' (lo : Int) (n : Nat) : (intsD lo n).length = n := intsD_len lo n
end L3

set_option Elab.async false
set_option linter.all false
set_option maxRecDepth 100000
set_option maxHeartbeats 1000000
/-! defs that many laws have: great numbers drawn, powers -/
namespace L3
open PySem L2
theorem p6 : gPow (.int 10) (.int 6) = .ret (.int 1000000) := by kernel_rfl
theorem bg6 : big 1000000 = true := by decide +kernel
theorem bg2 : big 2 = true := by decide +kernel
local macro_rules | `(tactic| walk_at "dd") => `(tactic| simp only [q_run, q_fNx, q_fSeq, q_fRet, q_fRetN, q_fDrop, q_fIfS, q_fSet, q_fNever, q_fAug, q_fAsg, q_fPar, q_fPar3, q_hName, q_hTup, hNames, q_fC, q_fOp, q_fUn, q_fTst, q_fNot, q_fAnd, q_fOr, q_fNotV, q_fAndV, q_fOrV, q_fIf, q_fNil, q_fCons, q_fTup, q_fLst, q_fCall, q_fCallK, q_fChain, q_fDic0, q_fDic1, q_fItL, q_fItT, q_fRng1, q_fRng2, q_fEnum, q_fZip, q_fFor, q_fLc, q_fYes, wipeD, q_fWhile, v0, v1, v2, v3, v4, v5, v6, v7, v8, v9, v10, v11, b_ret, b_fail, b_exc, b_draw, startD, List.map_cons, List.map_nil, List.length_cons, List.length_nil, List.cons_append, List.nil_append, List.append_nil, Nat.reduceAdd, Nat.reduceSub, List.replicate_succ, List.replicate_zero, List.set_cons_zero, List.set_cons_succ, Nat.reduceLT, reduceIte, gI0, gI, gAdd, gSubt, gMod, gLt, gLe, gGt, gGe, gNeg, gIsN, gNotN, gIsB, gNotB, gMax, gMin, gAbs, D.isNon, gBAnd, Bool.true_and, Bool.and_true, Bool.false_and, Bool.and_false, Bool.not_true, Bool.not_false, Bool.true_eq_false, Bool.false_eq_true, if_true, if_false, Bool.not_eq_true, Tr.bind_ite, eq_ii, ne_ii, eq_ss, ne_ss, eq_bb, ne_bb, PyProof.Rows.bitAnd_m1, decide_true, decide_false, decide_eq_true_eq, Bool.not_eq_eq_eq_not, decide_eq_false_iff_not, ite_not, Int.reduceLT, Int.reduceLE, Int.reducePow, eq_self, Tr.bind_assoc, p6, gDraw])
theorem sz200 {i : Int} (h0 : -1606938044258990275541962092341162602522202993782792835301376 < i) (h1 : i < 1606938044258990275541962092341162602522202993782792835301376) : Sz 200 i := by
  unfold Sz
  have : (2 : Nat) ^ 200 = 1606938044258990275541962092341162602522202993782792835301376 := by decide +kernel
  omega
theorem b200 {i : Int} (h0 : -1606938044258990275541962092341162602522202993782792835301376 < i) (h1 : i < 1606938044258990275541962092341162602522202993782792835301376) : big i = true := (sz200 h0 h1).big (by decide)
/-! ### great numbers, of base a million -/
def cGreat : FT := (fTst (fOp gLt (fVar 3) (fVar 1)))
def lGreat : FS := (fSeq (fSet 2 (fOp gAdd (fOp gMul (fVar 2) (fOp gPow (fC (.int 10)) (fC (.int 6)))) (fCall gDraw (fCons (fVar 0) (fCons (fOp gPow (fC (.int 10)) (fC (.int 6))) fNil)))))
        (fSet 3 (fOp gMul (fVar 3) (fOp gPow (fC (.int 10)) (fC (.int 6))))))
def bGreat : FS := (fSeq (fPar 2 3 (fCons (fCall gDraw (fCons (fVar 0) (fCons (fCall gMin (fCons (fVar 1) (fCons (fOp gPow (fC (.int 10)) (fC (.int 6))) fNil))) fNil))) (fCons (fOp gPow (fC (.int 10)) (fC (.int 6))) fNil)))
        (fSeq (fWhile cGreat lGreat)
        (fRet (fOp gMod (fVar 2) (fVar 1)))))
theorem c_great (t f r : Int) : cGreat [some (.sh .mach), some (.sh (.int t)), some (.sh (.int f)), some (.sh (.int r))] = .ret (decide (r < t)) := by
  simp only [cGreat]
  walk_at "dd"
theorem body_great {Q : Fl → Nat → Prop} {t f r : Int} {n : Nat} (bf : big f = true) (br : big r = true) (h : ∀ x, 0 ≤ x → x < 1000000 → Q (.nx [some (.sh .mach), some (.sh (.int t)), some (.sh (.int (f * 1000000 + x))), some (.sh (.int (r * 1000000)))]) n) :
    (lGreat [some (.sh .mach), some (.sh (.int t)), some (.sh (.int f)), some (.sh (.int r))]).al no Q (n + 1) := by
  simp only [lGreat]
  walk_at "dd"
  rw [mul_ok bf bg6]
  walk_at "dd"
  refine al_draw (by decide) (by decide) fun x x0 x1 => ?_
  rw [mul_ok br bg6]
  exact h x x0 x1
theorem great_loop {P : Fl → Nat → Prop} {t : Int} (ht : Sz 3000000 t) : ∀ (k fuel : Nat) (f r : Int) (n : Nat), k < fuel → 0 ≤ f → f < r → 0 < r → t ≤ r * 1000000 ^ k → k ≤ n →
    (∀ f' r' m, 0 ≤ f' → n ≤ m + k → P (.nx [some (.sh .mach), some (.sh (.int t)), some (.sh (.int f')), some (.sh (.int r'))]) m) →
    (wloop cGreat lGreat fuel [some (.sh .mach), some (.sh (.int t)), some (.sh (.int f)), some (.sh (.int r))]).al no P n
  | k, 0, _, _, _, h, _, _, _, _, _, _ => by omega
  | k, fuel + 1, f, r, n, hk, f0, f1, r0, hr, hn, hP => by
    by_cases hlt : r < t
    · cases k with
      | zero => rw [Int.pow_zero] at hr; omega
      | succ k =>
        cases n with
        | zero => omega
        | succ n =>
        have bf : big f = true := (ht.le (by omega)).big (by decide)
        have br : big r = true := (ht.le (by omega)).big (by decide)
        rw [wloop, c_great, decide_eq_true hlt, Tr.bind_ret, if_pos rfl]
        refine al_bd (body_great bf br fun x x0 x1 => ?_)
        refine great_loop ht k fuel _ _ n (by omega) (by omega) (by omega) (by omega) ?_ (by omega) fun f' r' m h1 h2 => hP f' r' m h1 (by omega)
        rw [Int.pow_succ, Int.mul_comm (1000000 ^ k) 1000000, ← Int.mul_assoc] at hr
        exact hr
    · rw [wloop_no (by rw [c_great, decide_eq_false hlt])]
      exact hP f r n f0 (by omega)
theorem great_ok {P : D → Nat → Prop} {t : Int} {n : Nat} (k : Nat) (t0 : 1 ≤ t) (ht : Sz 3000000 t) (hk : t ≤ 1000000 * 1000000 ^ k) (hk2 : k < 1000000) (hn : k + 1 ≤ n) (h : ∀ r m, 0 ≤ r → r < t → n ≤ m + (k + 1) → P (.int r) m) : (L3.run 4 bGreat [.mach, .int t]).al no P n := by
  obtain ⟨n, rfl⟩ : ∃ k, n = k + 1 := ⟨n - 1, by omega⟩
  simp only [bGreat]
  walk_at "dd"
  refine al_draw (by split <;> omega) (by split <;> omega) fun x x0 x1 => ?_
  refine al_bd ?_
  refine great_loop ht k FUEL x 1000000 n (by unfold FUEL; omega) x0 (by split at x1 <;> omega) (by decide) hk (by omega) fun f r m f0 hm => ?_
  walk_at "dd"
  rw [if_pos (show 0 < t by omega)]
  refine al_ret ?_
  exact h _ m (Int.emod_nonneg _ (by omega)) (Int.emod_lt_of_pos _ (by omega)) (by omega)
/-! ### powers -/
def cRaised : FT := (fTst (fOp gGt (fVar 4) (fC (.int 0))))
def lRaised : FS := (fSeq (fIfS (fTst (fOp gEq (fOp gMod (fVar 4) (fC (.int 2))) (fC (.int 1)))) (fSet 2 (fOp gMul (fVar 2) (fVar 3))) fNx)
        (fPar 3 4 (fCons (fOp gMul (fVar 3) (fVar 3)) (fCons (fOp gDiv (fVar 4) (fC (.int 2))) fNil))))
def bRaised : FS := (fSeq (fPar3 2 3 4 (fCons (fC (.int 1)) (fCons (fVar 0) (fCons (fVar 1) fNil))))
        (fSeq (fWhile cRaised lRaised)
        (fRet (fVar 2))))
theorem Sz.pow {s : Nat} {g : Int} (h : Sz s g) : ∀ k : Nat, Sz (s * k + 1) (g ^ k)
  | 0 => by unfold Sz; rw [Int.pow_zero, Nat.mul_zero]; decide
  | k + 1 => by
    have := (Sz.pow h k).mul h
    rw [← Int.pow_succ] at this
    exact this.mono (by rw [Nat.mul_succ]; omega)
theorem c_raised (g t f p l : Int) : cRaised [some (.sh (.int g)), some (.sh (.int t)), some (.sh (.int f)), some (.sh (.int p)), some (.sh (.int l))] = .ret (decide (0 < l)) := by
  simp only [cRaised]
  walk_at "dd"
theorem body_raised {g t f p : Int} {l : Nat} (bf : big f = true) (bp : big p = true) (hl : l < 10000000) :
    lRaised [some (.sh (.int g)), some (.sh (.int t)), some (.sh (.int f)), some (.sh (.int p)), some (.sh (.int (l : Nat)))] = .ret (.nx [some (.sh (.int g)), some (.sh (.int t)), some (.sh (.int (if l % 2 = 1 then f * p else f))), some (.sh (.int (p * p))), some (.sh (.int ((l / 2 : Nat) : Int)))]) := by
  have e2 : ((l : Int) / 2) = ((l / 2 : Nat) : Int) := by omega
  have hd : gDiv (.int (l : Nat)) (.int 2) = .ret (.int ((l / 2 : Nat) : Int)) := by rw [div_ok (by decide) (np_den (Sz.mono (k := 200) (sz200 (by decide) (by decide)) (by decide))), e2]
  simp only [lRaised]
  walk_at "dd"
  rw [mul_ok bf bp]
  walk_at "dd"
  rw [mul_ok bp bp]
  walk_at "dd"
  rw [hd]
  walk_at "dd"
  by_cases h : (l : Int) % 2 = 1
  · rw [if_pos h, if_pos (by omega)]
  · rw [if_neg h, if_neg (by omega)]
theorem raised_loop {g t : Int} {s T : Nat} (hs : Sz s g) (hT : s * (2 * T) + 1 ≤ 4000000) (hT2 : T < 10000000) : ∀ (l fuel a p : Nat), l < fuel → a + p * l = T → p ≤ 2 * T + 1 → (l ≠ 0 → p ≤ T) → l ≤ T →
    ∃ q : Int, wloop cRaised lRaised fuel [some (.sh (.int g)), some (.sh (.int t)), some (.sh (.int (g ^ a))), some (.sh (.int (g ^ p))), some (.sh (.int (l : Nat)))] =
      .ret (.nx [some (.sh (.int g)), some (.sh (.int t)), some (.sh (.int (g ^ T))), some (.sh (.int q)), some (.sh (.int 0))]) := by
  intro l
  induction l using Nat.strongRecOn with
  | ind l ih =>
    intro fuel a p hf ha hp hp2 hl
    cases fuel with
    | zero => omega
    | succ fuel =>
      by_cases h0 : l = 0
      · subst h0
        rw [Nat.mul_zero, Nat.add_zero] at ha
        subst ha
        exact ⟨g ^ p, wloop_no (by rw [c_raised]; rfl)⟩
      · have hpT := hp2 h0
        have bf : big (g ^ a) = true := (hs.pow a).big (Nat.le_trans (Nat.succ_le_succ (Nat.mul_le_mul_left s (show a ≤ 2 * T by omega))) hT)
        have bp : big (g ^ p) = true := (hs.pow p).big (Nat.le_trans (Nat.succ_le_succ (Nat.mul_le_mul_left s (show p ≤ 2 * T by omega))) hT)
        have e1 : (if l % 2 = 1 then g ^ a * g ^ p else g ^ a) = g ^ (if l % 2 = 1 then a + p else a) := by
          split
          · rw [Int.pow_add]
          · rfl
        have e3 : g ^ p * g ^ p = g ^ (p + p) := by rw [Int.pow_add]
        have hpl : p * l = p * (2 * (l / 2) + l % 2) := by rw [Nat.div_add_mod]
        rw [Nat.mul_add, ← Nat.mul_assoc, Nat.mul_comm p 2] at hpl
        obtain ⟨q, e⟩ := ih (l / 2) (by omega) fuel (if l % 2 = 1 then a + p else a) (p + p) (by omega) (by
            have h2 : (p + p) * (l / 2) = 2 * p * (l / 2) := by congr 1; omega
            rw [h2]
            split
            · rename_i z
              rw [z, Nat.mul_one] at hpl
              omega
            · rename_i z
              rw [show l % 2 = 0 by omega, Nat.mul_zero] at hpl
              omega) (by omega) (by
            intro h3
            have : 2 * p * 1 ≤ 2 * p * (l / 2) := Nat.mul_le_mul_left _ (by omega)
            omega) (by omega)
        refine ⟨q, ?_⟩
        rw [wloop_go (by rw [c_raised, decide_eq_true (by omega)]) (body_raised bf bp (by omega)), e1, e3]
        exact e
theorem raised_ok {g : Int} {s T : Nat} (hs : Sz s g) (hT : s * (2 * T) + 1 ≤ 4000000) (hT2 : T < 10000000) : L3.run 5 bRaised [.int g, .int (T : Nat)] = .ret (.int (g ^ T)) := by
  simp only [bRaised]
  walk_at "dd"
  obtain ⟨q, e⟩ := raised_loop (t := (T : Nat)) hs hT hT2 T FUEL 0 1 (by unfold FUEL; omega) (by omega) (by omega) (by omega) (Nat.le_refl _)
  rw [Int.pow_zero, Int.pow_one] at e
  rw [e]
  walk_at "dd"
end L3

set_option Elab.async false
set_option linter.all false
set_option maxRecDepth 100000
/-! rounding to a shape: the arithmetic alone -/
namespace Dw
open PySem
theorem wt_add {e : Int} (h : -1100 ≤ e) (k : Nat) : wt (e + k) = wt e * 2 ^ k := by
  unfold wt
  rw [← Int.pow_add]
  congr 1
  omega
theorem wt_fn {S : Sh} (h : S.Ok) {e : Int} (he : -1100 ≤ e) : wt (e + (S.p - 1)) = wt e * S.fn := by
  have := h.p2
  have e1 : e + (S.p - 1) = e + ((S.p.toNat - 1 : Nat) : Int) := by omega
  rw [e1, wt_add he]
  rfl
theorem Sh.Ok.fk_lt {S : Sh} (h : S.Ok) {k : Int} (k0 : 0 ≤ k) : S.fk k < S.fk (k + 1) := by
  have := h.fk_step k0
  have := wt_pos (S.lo + S.rise k)
  omega
theorem Sh.Ok.fk_mono {S : Sh} (h : S.Ok) {j : Int} (j0 : 0 ≤ j) : ∀ n : Nat, S.fk j ≤ S.fk (j + n)
  | 0 => by simp
  | n + 1 => by
    have h1 := Sh.Ok.fk_mono h j0 n
    have h2 := h.fk_lt (k := j + n) (by omega)
    rw [show j + ((n + 1 : Nat) : Int) = j + n + 1 by omega]
    omega
theorem Sh.Ok.fk_le {S : Sh} (h : S.Ok) {j k : Int} (j0 : 0 ≤ j) (jk : j ≤ k) : S.fk j ≤ S.fk k := by
  obtain ⟨n, rfl⟩ : ∃ n : Nat, k = j + n := ⟨(k - j).toNat, by omega⟩
  exact h.fk_mono j0 n
theorem Sh.Ok.fk_ge {S : Sh} (h : S.Ok) : ∀ n : Nat, (n : Int) ≤ S.fk n
  | 0 => by have := h.fk0.1; show (0 : Int) ≤ S.fk 0; omega
  | n + 1 => by
    have h1 := Sh.Ok.fk_ge h n
    have h2 := h.fk_lt (k := n) (by omega)
    rw [show ((n + 1 : Nat) : Int) = (n : Int) + 1 by omega]
    omega
theorem Sh.Ok.fk_nonneg {S : Sh} (h : S.Ok) {k : Int} (k0 : 0 ≤ k) : 0 ≤ S.fk k := by
  have := h.fk_le (Int.le_refl 0) k0
  rw [h.fk0.1] at this
  exact this
/-- k is the greatest rank whose value isn't above n / d -/
structure Flr (S : Sh) (n d k : Int) : Prop where
  k0 : 0 ≤ k
  le : S.fk k * d ≤ n * wt 0
  lt : n * wt 0 < S.fk (k + 1) * d
theorem flr_ex {S : Sh} (h : S.Ok) {n d : Int} (n0 : 0 ≤ n) (d0 : 0 < d) : ∃ k, Flr S n d k := by
  have w0 := wt_pos 0
  have N0 : 0 ≤ n * wt 0 := Int.mul_nonneg n0 (by omega)
  have key : ∀ j : Nat, (n * wt 0 < S.fk j * d) → ∃ k, Flr S n d k := by
    intro j
    induction j with
    | zero =>
      intro hj
      have z : S.fk ((0 : Nat) : Int) = 0 := h.fk0.1
      rw [z, Int.zero_mul] at hj
      omega
    | succ j ih =>
      intro hj
      by_cases hc : n * wt 0 < S.fk j * d
      · exact ih hc
      · exact ⟨j, by omega, by omega, by rw [show ((j : Int) + 1) = ((j + 1 : Nat) : Int) by omega]; exact hj⟩
  refine key ((n * wt 0).toNat + 1) ?_
  have g := h.fk_ge ((n * wt 0).toNat + 1)
  have e : (((n * wt 0).toNat + 1 : Nat) : Int) = n * wt 0 + 1 := by omega
  rw [e] at g ⊢
  have : S.fk (n * wt 0 + 1) * 1 ≤ S.fk (n * wt 0 + 1) * d := Int.mul_le_mul_of_nonneg_left (by omega) (by omega)
  omega
theorem Flr.ge {S : Sh} (h : S.Ok) {n d k : Int} (f : Flr S n d k) (d0 : 0 < d) {j : Int} (j0 : 0 ≤ j) : j ≤ k ↔ S.fk j * d ≤ n * wt 0 := by
  constructor
  · intro z
    exact Int.le_trans (Int.mul_le_mul_of_nonneg_right (h.fk_le j0 z) (by omega)) f.le
  · intro z
    rcases (show j ≤ k ∨ k + 1 ≤ j by omega) with y | y
    · exact y
    · have := Int.mul_le_mul_of_nonneg_right (h.fk_le (show 0 ≤ k + 1 by have := f.k0; omega) y) (show 0 ≤ d by omega)
      have := f.lt
      omega
theorem Flr.uniq {S : Sh} (h : S.Ok) {n d k k' : Int} (f : Flr S n d k) (f' : Flr S n d k') (d0 : 0 < d) : k = k' := by
  have h1 := (f.ge h d0 f'.k0).mpr f'.le
  have h2 := (f'.ge h d0 f.k0).mpr f.le
  omega
/-- its parts -/
theorem Flr.parts {S : Sh} (h : S.Ok) {n d k : Int} (f : Flr S n d k) : ∃ m, k = m + S.rise k * S.fn ∧ 0 ≤ S.rise k ∧ 0 ≤ m ∧ m < 2 * S.fn ∧ (0 < S.rise k → S.fn ≤ m) ∧ S.fk k = m * wt (S.lo + S.rise k) ∧ S.fk (k + 1) = (m + 1) * wt (S.lo + S.rise k) := by
  obtain ⟨r, m, e1, r0, m0, m1, hn, er⟩ := h.parts f.k0
  have hs := h.fk_step f.k0
  have e2 : S.fk k = m * wt (S.lo + S.rise k) := by
    unfold Sh.fk
    rw [er, show k - r * S.fn = m by omega]
  refine ⟨m, by rw [er]; exact e1, by omega, m0, m1, by rw [er]; exact hn, e2, ?_⟩
  rw [Int.add_mul, Int.one_mul]
  omega
/-! ### the greatest power of two -/
def tp (n d : Int) : Int :=
  let P : Int := (Builtin.Int.intBits n : Int) - (Builtin.Int.intBits d : Int)
  if d * 2 ^ P.toNat ≤ n * 2 ^ (-P).toNat then P else P - 1
theorem bits_lt {n : Int} : n.natAbs < 2 ^ Builtin.Int.intBits n := intBits_le_iff.mp (Nat.le_refl _)
theorem bits_ge {n : Int} (h : n.natAbs ≠ 0) : ∃ b, Builtin.Int.intBits n = b + 1 ∧ 2 ^ b ≤ n.natAbs := by
  rcases hb : Builtin.Int.intBits n with _ | b
  · have := bits_lt (n := n)
    rw [hb] at this
    simp at this
    omega
  · refine ⟨b, rfl, ?_⟩
    rcases Nat.lt_or_ge n.natAbs (2 ^ b) with z | z
    · have := (intBits_le_iff (m := b)).mpr z
      omega
    · exact z
/-- scaled alike -/
theorem sc_le {x y : Int} {a : Int} (ha : -1100 ≤ a) : x * 2 ^ a.toNat ≤ y * 2 ^ (-a).toNat ↔ x * wt a ≤ y * wt 0 := by
  have p := ip_pos (1100 - (-a).toNat)
  have e1 : x * wt a = x * 2 ^ a.toNat * 2 ^ (1100 - (-a).toNat) := by
    rw [Int.mul_assoc, ← Int.pow_add]
    unfold wt
    congr 2
    omega
  have e2 : y * wt 0 = y * 2 ^ (-a).toNat * 2 ^ (1100 - (-a).toNat) := by
    rw [Int.mul_assoc, ← Int.pow_add]
    unfold wt
    congr 2
    omega
  rw [e1, e2]
  exact ⟨fun z => Int.mul_le_mul_of_nonneg_right z (by omega), fun z => Int.le_of_mul_le_mul_right z p⟩
theorem tp_le {n d : Int} (n0 : 0 < n) (d0 : 0 < d) {a : Int} (ha : -1100 ≤ a) : a ≤ tp n d ↔ d * wt a ≤ n * wt 0 := by
  obtain ⟨b, eb, b0⟩ := bits_ge (n := n) (by omega)
  obtain ⟨c, ec, c0⟩ := bits_ge (n := d) (by omega)
  have b1 := bits_lt (n := n)
  have c1 := bits_lt (n := d)
  rw [eb] at b1
  rw [ec] at c1
  have hw : wt 0 = 2 ^ 1100 := rfl
  have hB0 : (2 : Int) ^ b ≤ n := by rw [ip_cast]; omega
  have hB1 : n < (2 : Int) ^ (b + 1) := by rw [ip_cast]; omega
  have hC0 : (2 : Int) ^ c ≤ d := by rw [ip_cast]; omega
  have hC1 : d < (2 : Int) ^ (c + 1) := by rw [ip_cast]; omega
  -- far above
  have far : (b : Int) - c + 1 ≤ a → n * wt 0 < d * wt a := fun z => by
    have s1 : n * wt 0 < 2 ^ (b + 1) * wt 0 := Int.mul_lt_mul_of_pos_right hB1 (wt_pos 0)
    have s2 : (2 : Int) ^ c * wt a ≤ d * wt a := Int.mul_le_mul_of_nonneg_right hC0 (by have := wt_pos a; omega)
    have s3 : (2 : Int) ^ (b + 1) * wt 0 ≤ 2 ^ c * wt a := by
      unfold wt
      rw [← Int.pow_add, ← Int.pow_add]
      exact ip_mono (by omega)
    omega
  have near : a + 1 ≤ (b : Int) - c → d * wt a ≤ n * wt 0 := fun z => by
    have s1 : d * wt a ≤ 2 ^ (c + 1) * wt a := Int.mul_le_mul_of_nonneg_right (by omega) (by have := wt_pos a; omega)
    have s2 : (2 : Int) ^ b * wt 0 ≤ n * wt 0 := Int.mul_le_mul_of_nonneg_right hB0 (by have := wt_pos 0; omega)
    have s3 : (2 : Int) ^ (c + 1) * wt a ≤ 2 ^ b * wt 0 := by
      unfold wt
      rw [← Int.pow_add, ← Int.pow_add]
      exact ip_mono (by omega)
    omega
  have eP : ((Builtin.Int.intBits n : Int) - (Builtin.Int.intBits d : Int)) = (b : Int) - c := by rw [eb, ec]; omega
  unfold tp
  simp only [eP]
  generalize hP : (b : Int) - c = P at *
  by_cases hc : d * 2 ^ P.toNat ≤ n * 2 ^ (-P).toNat
  · rw [if_pos hc]
    rcases (show a + 1 ≤ P ∨ a = P ∨ P + 1 ≤ a by omega) with z | z | z
    · exact ⟨fun _ => near z, fun _ => by omega⟩
    · subst z
      exact ⟨fun _ => (sc_le ha).mp hc, fun _ => Int.le_refl _⟩
    · have := far z
      exact ⟨fun y => by omega, fun y => by omega⟩
  · rw [if_neg hc]
    rcases (show a + 1 ≤ P ∨ a = P ∨ P + 1 ≤ a by omega) with z | z | z
    · exact ⟨fun _ => near z, fun _ => by omega⟩
    · subst z
      have : ¬ d * wt a ≤ n * wt 0 := fun y => hc ((sc_le ha).mpr y)
      exact ⟨fun y => by omega, fun y => absurd y this⟩
    · have := far z
      exact ⟨fun y => by omega, fun y => by omega⟩
theorem tp_bits (n d : Int) : tp n d ≤ (Builtin.Int.intBits n : Nat) := by
  unfold tp
  simp only
  split <;> omega
theorem Flr.exp {S : Sh} (h : S.Ok) {n d k : Int} (f : Flr S n d k) (n0 : 0 < n) (d0 : 0 < d) :
    (if tp n d - (S.p - 1) > S.lo then tp n d - (S.p - 1) else S.lo) = S.lo + S.rise k ∧ (tp n d < S.p - 1 + S.lo ↔ k < S.fn) := by
  obtain ⟨m, e1, r0, m0, m1, hn, e2, e3⟩ := f.parts h
  have l0 := h.l0
  have p2 := h.p2
  have f2 := h.fn2
  have dw : ∀ e : Int, -1100 ≤ e → d * wt (e + (S.p - 1)) = S.fn * wt e * d := fun e he => by
    rw [wt_fn h he, Int.mul_comm (wt e), Int.mul_comm]
  have wp := wt_pos (S.lo + S.rise k)
  have up : ¬ (S.lo + S.rise k + 1 + (S.p - 1) ≤ tp n d) := fun z => by
    rw [tp_le n0 d0 (by omega), dw _ (by omega), wt_succ (by omega)] at z
    have := f.lt
    rw [e3] at this
    have q : (m + 1) * wt (S.lo + S.rise k) ≤ S.fn * (2 * wt (S.lo + S.rise k)) := by
      rw [← Int.mul_assoc]
      exact Int.mul_le_mul_of_nonneg_right (by omega) (by omega)
    have := Int.mul_le_mul_of_nonneg_right q (show 0 ≤ d by omega)
    omega
  have lo : 0 < S.rise k → S.lo + S.rise k + (S.p - 1) ≤ tp n d := fun z => by
    rw [tp_le n0 d0 (by omega), dw _ (by omega)]
    have := f.le
    rw [e2] at this
    have q : S.fn * wt (S.lo + S.rise k) ≤ m * wt (S.lo + S.rise k) := Int.mul_le_mul_of_nonneg_right (hn z) (by omega)
    have := Int.mul_le_mul_of_nonneg_right q (show 0 ≤ d by omega)
    omega
  constructor
  · rcases (show 0 < S.rise k ∨ S.rise k = 0 by omega) with z | z
    · have := lo z
      rw [if_pos (by omega)]
      omega
    · rw [z] at up ⊢
      rw [if_neg (by omega)]
      omega
  · have ffn : S.fk S.fn = S.fn * wt S.lo := by
      have r : S.rise S.fn = 0 := h.rise_eq (m := S.fn) (by omega) (Int.le_refl _) (by omega) (by omega) fun z => absurd z (Int.lt_irrefl _)
      unfold Sh.fk
      rw [r, Int.zero_mul, Int.sub_zero, Int.add_zero]
    have g := f.ge h d0 (j := S.fn) (by omega)
    have t := tp_le n0 d0 (a := S.p - 1 + S.lo) (by omega)
    rw [show S.p - 1 + S.lo = S.lo + (S.p - 1) by omega, dw _ l0, ← ffn, ← g] at t
    omega
/-! ### the rounding itself -/
def Sh.gap (S : Sh) (d k : Int) : Int := wt (S.lo + S.rise k) * d
def Sh.rst (S : Sh) (n d k : Int) : Int := n * wt 0 - S.fk k * d
/-- whether n / d, above 0, goes on to the next one -/
def upK (S : Sh) (w : Way) (n d k : Int) : Bool := match w with
  | .up => decide (S.rst n d k ≠ 0)
  | .down => false
  | .zero => false
  | .near => if 2 * S.rst n d k = S.gap d k then decide (k % 2 = 1) else decide (S.gap d k < 2 * S.rst n d k)
  | .away => decide (S.gap d k ≤ 2 * S.rst n d k)
def upI (S : Sh) (w : Way) (n d k : Int) : Int := if upK S w n d k = true then 1 else 0
theorem Flr.rst {S : Sh} (h : S.Ok) {n d k : Int} (f : Flr S n d k) (d0 : 0 < d) : 0 ≤ S.rst n d k ∧ S.rst n d k < S.gap d k ∧ S.fk (k + 1) * d - S.fk k * d = S.gap d k := by
  have := h.fk_step f.k0
  have e : S.fk (k + 1) * d - S.fk k * d = S.gap d k := by
    unfold Sh.gap
    rw [← Int.sub_mul, this]
  have := f.le
  have := f.lt
  unfold Sh.rst
  omega
theorem rnd_scale (w : Way) {n d c : Int} (d0 : 0 < d) (c0 : 0 < c) : rndZ w (n * c) (d * c) = rndZ w n d := by
  obtain ⟨e, h0, h1⟩ := dm (n := n) d0
  have e1 : n * c = d * c * (n / d) + n % d * c := by
    conv => lhs; rw [e]
    rw [Int.add_mul, Int.mul_assoc, Int.mul_comm (n / d) c, ← Int.mul_assoc]
  have hd : 0 < d * c := Int.mul_pos d0 c0
  obtain ⟨q1, q2⟩ := dm_uniq hd e1 (Int.mul_nonneg h0 (by omega)) (Int.mul_lt_mul_of_pos_right h1 c0)
  unfold rndZ
  rw [q1, q2]
  have k1 : n % d * c = 0 ↔ n % d = 0 := ⟨fun z => by rcases Int.mul_eq_zero.mp z with y | y <;> omega, fun z => by rw [z, Int.zero_mul]⟩
  have k2 : 0 ≤ n * c ↔ 0 ≤ n := ⟨fun z => by
    rcases (show n < 0 ∨ 0 ≤ n by omega) with y | y
    · have := Int.mul_neg_of_neg_of_pos y c0
      omega
    · exact y, fun z => Int.mul_nonneg z (by omega)⟩
  have k3 : 2 * (n % d * c) < d * c ↔ 2 * (n % d) < d := by rw [← Int.mul_assoc]; exact ⟨fun z => Int.lt_of_mul_lt_mul_right z (by omega), fun z => Int.mul_lt_mul_of_pos_right z c0⟩
  have k4 : d * c < 2 * (n % d * c) ↔ d < 2 * (n % d) := by rw [← Int.mul_assoc]; exact ⟨fun z => Int.lt_of_mul_lt_mul_right z (by omega), fun z => Int.mul_lt_mul_of_pos_right z c0⟩
  have k5 : 0 < n * c ↔ 0 < n := ⟨fun z => by
    rcases (show n ≤ 0 ∨ 0 < n by omega) with y | y
    · have := Int.mul_le_mul_of_nonneg_right y (show 0 ≤ c by omega)
      omega
    · exact y, fun z => Int.mul_pos z c0⟩
  cases w <;> simp only [rndQ, k1, k2, k3, k4, k5]
theorem way_other (w : Way) : w.other.other = w := by cases w <;> rfl
/-- the whole number that is told, of n above 0, at the exponent of its rank -/
theorem Flr.near {S : Sh} (h : S.Ok) {n d k : Int} (f : Flr S n d k) (n0 : 0 < n) (d0 : 0 < d) (w : Way) :
    rndZ w (n * 2 ^ (-(S.lo + S.rise k)).toNat) (d * 2 ^ (S.lo + S.rise k).toNat) = k - S.rise k * S.fn + upI S w n d k ∧
    ((k - S.rise k * S.fn + upI S w n d k) * (d * 2 ^ (S.lo + S.rise k).toNat) = n * 2 ^ (-(S.lo + S.rise k)).toNat ↔ S.rst n d k = 0) := by
  obtain ⟨m, e1, r0, m0, m1, hn, e2, e3⟩ := f.parts h
  obtain ⟨q0, q1, q2⟩ := f.rst h d0
  have l0 := h.l0
  have f2 := h.fn2
  have em : k - S.rise k * S.fn = m := by omega
  rw [em]
  generalize hE : S.lo + S.rise k = e at *
  have p := ip_pos (1100 - (-e).toNat)
  have s1 : n * 2 ^ (-e).toNat * 2 ^ (1100 - (-e).toNat) = n * wt 0 := by
    rw [Int.mul_assoc, ← Int.pow_add]
    unfold wt
    congr 2
    omega
  have s2 : d * 2 ^ e.toNat * 2 ^ (1100 - (-e).toNat) = wt e * d := by
    rw [Int.mul_assoc, ← Int.pow_add, Int.mul_comm]
    unfold wt
    congr 2
    omega
  have dd0 : 0 < d * 2 ^ e.toNat := Int.mul_pos d0 (ip_pos _)
  have hg : S.gap d k = wt e * d := by unfold Sh.gap; rw [hE]
  have hg0 : 0 < wt e * d := Int.mul_pos (wt_pos e) d0
  have eN : n * wt 0 = wt e * d * m + S.rst n d k := by
    unfold Sh.rst
    rw [e2]
    grind
  obtain ⟨u1, u2⟩ := dm_uniq hg0 eN q0 (by omega)
  have par : k % 2 = m % 2 := by
    have : ∃ z, S.fn = 2 * z := ⟨2 ^ (S.p - 2).toNat, h.half.symm⟩
    obtain ⟨z, hz⟩ := this
    have : S.rise k * S.fn = 2 * (S.rise k * z) := by rw [hz, ← Int.mul_assoc, Int.mul_comm (S.rise k) 2, Int.mul_assoc]
    omega
  have N0 : 0 < n * wt 0 := Int.mul_pos n0 (wt_pos 0)
  constructor
  · rw [← rnd_scale w dd0 p, s1, s2]
    unfold rndZ upI upK
    rw [u1, u2, hg, par]
    generalize n * wt 0 = N at *
    generalize S.rst n d k = r at *
    generalize wt e * d = g at *
    cases w <;> simp only [rndQ]
    · by_cases z : 2 * r = g
      · rw [if_neg (by omega), if_neg (by omega), if_pos z]
        by_cases y : m % 2 = 0
        · rw [if_pos y, if_neg (by simp; omega)]; omega
        · rw [if_neg y, if_pos (by simp; omega)]
      · rw [if_neg z]
        by_cases y : 2 * r < g
        · rw [if_pos y, if_neg (by simp; omega)]; omega
        · rw [if_neg y, if_pos (by omega), if_pos (by simp; omega)]
    · by_cases y : 2 * r < g
      · rw [if_pos y, if_neg (by rw [decide_eq_true_eq]; omega)]; omega
      · have x : decide (g ≤ 2 * r) = true := decide_eq_true (by omega)
        rw [if_neg y, x, if_pos N0]
        split <;> rfl
    · rw [if_pos (.inl (by omega))]; simp
    · by_cases y : r = 0
      · rw [if_pos y, if_neg (by simp; omega)]; omega
      · rw [if_neg y, if_pos (by simp; omega)]
    · simp
  · have c : (m + upI S w n d k) * (d * 2 ^ e.toNat) = n * 2 ^ (-e).toNat ↔ (m + upI S w n d k) * (wt e * d) = n * wt 0 := by
      rw [← s1, ← s2]
      generalize (m + upI S w n d k) = x
      generalize d * 2 ^ e.toNat = y at *
      generalize n * 2 ^ (-e).toNat = u at *
      generalize (2 : Int) ^ (1100 - (-e).toNat) = v at *
      rw [← Int.mul_assoc]
      exact ⟨fun z => by rw [z], fun z => Int.eq_of_mul_eq_mul_right (by omega) z⟩
    rw [c, eN, Int.mul_comm (wt e * d) m, Int.add_mul]
    have hu : upI S w n d k = 0 ∨ (upI S w n d k = 1 ∧ S.rst n d k ≠ 0) := by
      unfold upI
      by_cases z : upK S w n d k = true
      · rw [if_pos z]
        refine .inr ⟨rfl, fun y => ?_⟩
        revert z
        unfold upK
        rw [hg, y]
        have hg1 : ¬ (2 * (0 : Int) = wt e * d) := by omega
        rw [if_neg hg1]
        generalize wt e * d = g at *
        cases w <;> simp <;> omega
      · rw [if_neg z]
        exact .inl rfl
    rcases hu with z | ⟨z, y⟩
    · rw [z, Int.zero_mul]
      generalize m * (wt e * d) = g at *
      omega
    · rw [z, Int.one_mul]
      generalize m * (wt e * d) = g at *
      omega
theorem upI_01 (S : Sh) (w : Way) (n d k : Int) : upI S w n d k = 0 ∨ upI S w n d k = 1 := by
  unfold upI
  split <;> simp
/-- the parts behind the rounding -/
theorem Flr.next {S : Sh} (h : S.Ok) {n d k : Int} (f : Flr S n d k) (w : Way) :
    (if k - S.rise k * S.fn + upI S w n d k = 2 * S.fn then (S.fn, S.lo + S.rise k + 1) else (k - S.rise k * S.fn + upI S w n d k, S.lo + S.rise k)) = (k + upI S w n d k - S.rise (k + upI S w n d k) * S.fn, S.lo + S.rise (k + upI S w n d k)) := by
  obtain ⟨m, e1, r0, m0, m1, hn, e2, e3⟩ := f.parts h
  have f2 := h.fn2
  have em : k - S.rise k * S.fn = m := by omega
  rw [em]
  generalize hr : S.rise k = r at *
  rcases upI_01 S w n d k with u | u
  · rw [u, if_neg (by omega), Int.add_zero, Int.add_zero, hr, em]
  · rw [u]
    by_cases z : m + 1 = 2 * S.fn
    · have e3 : k + 1 = S.fn + (r + 1) * S.fn := by rw [Int.add_mul, Int.one_mul]; omega
      have e2 : S.rise (k + 1) = r + 1 := h.rise_eq e3 (by omega) (by omega) (by omega) fun _ => Int.le_refl _
      rw [if_pos z, e2]
      congr 1 <;> omega
    · have e2 : S.rise (k + 1) = r := h.rise_eq (m := m + 1) (by omega) r0 (by omega) (by omega) fun z => by have := hn z; omega
      rw [if_neg z, e2]
      congr 1
      omega
/-- beyond the greatest -/
theorem Sh.Ok.over {S : Sh} (h : S.Ok) {j : Int} (j0 : 0 ≤ j) : S.hi < S.lo + S.rise j ↔ S.last ≤ j := by
  obtain ⟨r, m, e1, r0, m0, m1, hn, er⟩ := h.parts j0
  have f2 := h.fn2
  have h0 := h.h0
  rw [er]
  have h2 : S.last = (S.hi - S.lo + 1) * S.fn + S.fn := by unfold Sh.last; rw [show S.hi - S.lo + 2 = (S.hi - S.lo + 1) + 1 from by omega, Int.add_mul _ 1, Int.one_mul]
  constructor
  · intro z
    have := hn (by omega)
    have : (S.hi - S.lo + 1) * S.fn ≤ r * S.fn := mul_le_r (by omega) (by omega)
    omega
  · intro z
    rcases (show S.hi < S.lo + r ∨ S.lo + r ≤ S.hi by omega) with y | y
    · exact y
    · have : r * S.fn ≤ (S.hi - S.lo) * S.fn := mul_le_r (by omega) (by omega)
      have h3 : (S.hi - S.lo + 1) * S.fn = (S.hi - S.lo) * S.fn + S.fn := by rw [Int.add_mul, Int.one_mul]
      omega
/-! ### what is told -/
def inward (w : Way) (s : Int) : Bool := match w with
  | .zero => true
  | .up => decide (s = 1)
  | .down => decide (s = 0)
  | _ => false
/-- the way of the other side, where the sign is 1 -/
def sideW (w : Way) (s : Int) : Way := if s = 1 then w.other else w
def Sh.great (S : Sh) (s : Int) : Nm := ⟨S, s, 2 * S.fn - 1, S.hi, 0⟩
def Sh.told (S : Sh) (w : Way) (s j : Int) : Nm := if S.last ≤ j then (if inward w s = true then S.great s else S.inf s) else ⟨S, s, j - S.rise j * S.fn, S.lo + S.rise j, 0⟩
/-- flags by numbers: 0 none, 1 inexact, 2 overflow too, 3 underflow too -/
def Sh.mark (S : Sh) (n d k j : Int) : Nat := if S.last ≤ j then 2 else if S.rst n d k = 0 then 0 else if k < S.fn then 3 else 1
theorem Sh.Ok.rise_in {S : Sh} (h : S.Ok) {r b : Int} (r0 : 0 ≤ r) (b0 : 0 ≤ b) (b1 : b < S.fn) : S.rise (r * S.fn + (S.fn + b)) = r := h.rise_eq (m := S.fn + b) (by omega) r0 (by omega) (by omega) fun _ => by omega
theorem Sh.Ok.rise_lo {S : Sh} (h : S.Ok) {b : Int} (b0 : 0 ≤ b) (b1 : b < 2 * S.fn) : S.rise b = 0 := h.rise_eq (m := b) (by omega) (Int.le_refl _) b0 b1 fun z => absurd z (Int.lt_irrefl _)
theorem Sh.Ok.toldOk {S : Sh} (h : S.Ok) {j s : Int} (j0 : 0 ≤ j) (j1 : j < S.last) (hs : s = 0 ∨ s = 1) : Nm.Ok ⟨S, s, j - S.rise j * S.fn, S.lo + S.rise j, 0⟩ := by
  have := (h.stepsOk j0 (by omega) hs).1
  unfold Sh.ofSteps at this
  rw [if_neg (by omega)] at this
  exact this
end Dw

set_option Elab.async false
set_option linter.all false
set_option maxRecDepth 100000
/-! rounding to a shape: shapes within shapes, twice by one side -/
namespace Dw
open PySem
/-- the rank of n / d, n not below 0 -/
noncomputable def kF (S : Sh) (n d : Int) : Int := open Classical in if h : ∃ k, Flr S n d k then Classical.choose h else 0
theorem kF_flr {S : Sh} (h : S.Ok) {n d : Int} (n0 : 0 ≤ n) (d0 : 0 < d) : Flr S n d (kF S n d) := by
  have e := flr_ex h n0 d0
  unfold kF
  rw [dif_pos e]
  exact Classical.choose_spec e
def sgI (n : Int) : Int := if n < 0 then 1 else 0
theorem sgI_01 (n : Int) : sgI n = 0 ∨ sgI n = 1 := by unfold sgI; split <;> simp
theorem absI_0 (n : Int) : 0 ≤ absI n := by unfold absI; split <;> omega
theorem absI_pos {n : Int} (h : n ≠ 0) : 0 < absI n := by unfold absI; split <;> omega
/-- the rank that is told, sign left out; the greatest and beyond: any from last on -/
noncomputable def jF (S : Sh) (w : Way) (n d : Int) : Int := kF S (absI n) d + upI S (sideW w (sgI n)) (absI n) d (kF S (absI n) d)
/-- the number that is told -/
noncomputable def rN (S : Sh) (w : Way) (n d s : Int) : Nm := if n = 0 then S.zero s else S.told w (sgI n) (jF S w n d)
noncomputable def rM (S : Sh) (w : Way) (n d : Int) : Nat := if n = 0 then 0 else S.mark (absI n) d (kF S (absI n) d) (jF S w n d)
theorem jF_0 {S : Sh} (h : S.Ok) (w : Way) {n d : Int} (d0 : 0 < d) : 0 ≤ jF S w n d := by
  have := (kF_flr h (absI_0 n) d0).k0
  have := upI_01 S (sideW w (sgI n)) (absI n) d (kF S (absI n) d)
  unfold jF
  omega
theorem Sh.Ok.greatOk {S : Sh} {s : Int} (h : S.Ok) (hs : s = 0 ∨ s = 1) : (S.great s).Ok := by
  have := h.fn2
  refine ⟨h, hs, ?_, ?_, h.h0, Int.le_refl _, fun _ => ?_, Nat.le_of_ble_eq_true rfl, fun z => absurd rfl z, fun z => nomatch z⟩
  · show 0 ≤ 2 * S.fn - 1; omega
  · show 2 * S.fn - 1 < 2 * S.fn; omega
  · show S.fn ≤ 2 * S.fn - 1; omega
theorem told_Ok {S : Sh} (h : S.Ok) (w : Way) {s j : Int} (hs : s = 0 ∨ s = 1) (j0 : 0 ≤ j) : (S.told w s j).Ok := by
  unfold Sh.told
  split
  · split
    · exact h.greatOk hs
    · exact h.infOk hs
  · exact h.toldOk j0 (by omega) hs
theorem told_S {S : Sh} (w : Way) {s j : Int} : (S.told w s j).S = S ∧ (S.told w s j).s = s := by
  unfold Sh.told
  split
  · split <;> exact ⟨rfl, rfl⟩
  · exact ⟨rfl, rfl⟩
theorem rN_Ok {S : Sh} (h : S.Ok) (w : Way) {n d s : Int} (hs : s = 0 ∨ s = 1) (d0 : 0 < d) : (rN S w n d s).Ok := by
  unfold rN
  split
  · exact h.zeroOk hs
  · exact told_Ok h w (sgI_01 n) (jF_0 h w d0)
theorem rN_S {S : Sh} (w : Way) {n d s : Int} : (rN S w n d s).S = S := by
  unfold rN
  split
  · rfl
  · exact (told_S w).1
theorem rN_s {S : Sh} (w : Way) {n d s : Int} : (rN S w n d s).s = if n = 0 then s else sgI n := by
  unfold rN
  split
  · rfl
  · exact (told_S w).2
/-! ### values in order -/
theorem Sh.Ok.fk_lt_iff {S : Sh} (h : S.Ok) {j k : Int} (j0 : 0 ≤ j) (k0 : 0 ≤ k) : S.fk j < S.fk k ↔ j < k := by
  constructor
  · intro z
    rcases (show j < k ∨ k ≤ j by omega) with y | y
    · exact y
    · have := h.fk_le k0 y; omega
  · intro z
    have := h.fk_le (show 0 ≤ j + 1 by omega) (show j + 1 ≤ k by omega)
    have := h.fk_lt j0
    omega
theorem Sh.Ok.fk_le_iff {S : Sh} (h : S.Ok) {j k : Int} (j0 : 0 ≤ j) (k0 : 0 ≤ k) : S.fk j ≤ S.fk k ↔ j ≤ k := by
  have := h.fk_lt_iff k0 j0
  omega
theorem Sh.Ok.fk_inj {S : Sh} (h : S.Ok) {j k : Int} (j0 : 0 ≤ j) (k0 : 0 ≤ k) (e : S.fk j = S.fk k) : j = k := by
  have h1 := (h.fk_le_iff j0 k0).mp (by omega)
  have h2 := (h.fk_le_iff k0 j0).mp (by omega)
  omega
theorem Sh.Ok.lastParts {S : Sh} (h : S.Ok) : S.last = S.fn + (S.hi - S.lo + 1) * S.fn ∧ S.rise S.last = S.hi - S.lo + 1 ∧ S.fk S.last = S.fn * wt (S.hi + 1) ∧ S.rise (S.last - 1) = S.hi - S.lo ∧ S.last - 1 = (2 * S.fn - 1) + (S.hi - S.lo) * S.fn ∧ S.fk (S.last - 1) = (2 * S.fn - 1) * wt S.hi := by
  have f2 := h.fn2
  have h0 := h.h0
  have e1 : S.last = S.fn + (S.hi - S.lo + 1) * S.fn := by unfold Sh.last; rw [show S.hi - S.lo + 2 = (S.hi - S.lo + 1) + 1 by omega, Int.add_mul _ 1, Int.one_mul]; omega
  have r1 : S.rise S.last = S.hi - S.lo + 1 := h.rise_eq e1 (by omega) (by omega) (by omega) fun _ => Int.le_refl _
  have e2 : S.last - 1 = (2 * S.fn - 1) + (S.hi - S.lo) * S.fn := by unfold Sh.last; rw [Int.add_mul]; omega
  have r2 : S.rise (S.last - 1) = S.hi - S.lo := h.rise_eq e2 (by omega) (by omega) (by omega) fun _ => by omega
  refine ⟨e1, r1, ?_, r2, e2, ?_⟩
  · unfold Sh.fk
    rw [r1, show S.last - (S.hi - S.lo + 1) * S.fn = S.fn by omega, show S.lo + (S.hi - S.lo + 1) = S.hi + 1 by omega]
  · unfold Sh.fk
    rw [r2, show S.last - 1 - (S.hi - S.lo) * S.fn = 2 * S.fn - 1 by omega, show S.lo + (S.hi - S.lo) = S.hi by omega]
/-- the wider shape -/
structure Wid (S W : Sh) : Prop where
  p : S.p ≤ W.p
  l : W.lo ≤ S.lo
  h : S.hi ≤ W.hi
theorem Wid.fn {S W : Sh} (h : Wid S W) : S.fn ≤ W.fn := ip_mono (by have := h.p; omega)
theorem rise_nn {S : Sh} (h : S.Ok) {k : Int} (k0 : 0 ≤ k) : 0 ≤ S.rise k := by
  obtain ⟨r, m, e1, r0, m0, m1, hn, er⟩ := h.parts k0
  omega
theorem embed {S W : Sh} (hS : S.Ok) (hW : W.Ok) (w : Wid S W) {k : Int} (k0 : 0 ≤ k) : ∃ k', 0 ≤ k' ∧ W.fk k' = S.fk k := by
  have n0 := hS.fk_nonneg k0
  obtain ⟨k', f⟩ := flr_ex hW n0 (wt_pos 0)
  have le : W.fk k' ≤ S.fk k := Int.le_of_mul_le_mul_right f.le (wt_pos 0)
  have lt : S.fk k < W.fk (k' + 1) := Int.lt_of_mul_lt_mul_right f.lt (by have := wt_pos 0; omega)
  obtain ⟨m', e1', r0', m0', m1', hn', e2', e3'⟩ := f.parts hW
  obtain ⟨r, m, e1, r0, m0, m1, hn, er⟩ := hS.parts k0
  have eS : S.fk k = m * wt (S.lo + r) := by
    unfold Sh.fk
    rw [er, show k - r * S.fn = m by omega]
  have wl := w.l
  have wf := w.fn
  have l0 := hW.l0
  refine ⟨k', f.k0, ?_⟩
  generalize hE : W.lo + W.rise k' = E at *
  generalize he : S.lo + r = e at *
  have pE := wt_pos E
  have pe := wt_pos e
  by_cases c : E ≤ e
  · have e4 : wt e = wt E * 2 ^ (e - E).toNat := by
      rw [← wt_add (by omega) (e - E).toNat]
      congr 1
      omega
    rw [e2'] at le ⊢
    rw [e3'] at lt
    rw [eS, e4] at le lt ⊢
    have e5 : m * (wt E * 2 ^ (e - E).toNat) = m * 2 ^ (e - E).toNat * wt E := by rw [Int.mul_comm (wt E), Int.mul_assoc]
    rw [e5] at le lt ⊢
    have h1 := Int.le_of_mul_le_mul_right le pE
    have h2 := Int.lt_of_mul_lt_mul_right lt (by omega)
    rw [show m' = m * 2 ^ (e - E).toNat by omega]
  · exfalso
    have h1 := hn' (by omega)
    have h2 : wt (e + 1) ≤ wt E := wt_mono (by omega)
    rw [wt_succ (by omega)] at h2
    have h3 : W.fn * (2 * wt e) ≤ m' * wt E := Int.mul_le_mul h1 h2 (by omega) (by omega)
    have h4 : m * wt e < 2 * S.fn * wt e := Int.mul_lt_mul_of_pos_right m1 pe
    have h5 : 2 * S.fn * wt e ≤ 2 * W.fn * wt e := Int.mul_le_mul_of_nonneg_right (by omega) (by omega)
    have h6 : W.fn * (2 * wt e) = 2 * W.fn * wt e := by rw [← Int.mul_assoc, Int.mul_comm W.fn 2]
    omega
theorem Wid.last {S W : Sh} (hS : S.Ok) (hW : W.Ok) (w : Wid S W) : S.fk S.last ≤ W.fk W.last ∧ S.fk (S.last - 1) ≤ W.fk (W.last - 1) := by
  obtain ⟨_, _, a, _, _, b⟩ := hS.lastParts
  obtain ⟨_, _, a', _, _, b'⟩ := hW.lastParts
  have wf := w.fn
  have := hS.fn2
  have := hW.fn2
  rw [a, a', b, b']
  exact ⟨Int.mul_le_mul wf (wt_mono (by have := w.h; omega)) (by have := wt_pos (S.hi + 1); omega) (by omega), Int.mul_le_mul (by omega) (wt_mono w.h) (by have := wt_pos S.hi; omega) (by omega)⟩
/-! ### a scaled value y by itself -/
structure FlV (S : Sh) (y k : Int) : Prop where
  k0 : 0 ≤ k
  le : S.fk k ≤ y
  lt : y < S.fk (k + 1)
theorem FlV.uniq {S : Sh} (h : S.Ok) {y k k' : Int} (f : FlV S y k) (f' : FlV S y k') : k = k' := by
  have a0 := f.k0
  have b0 := f'.k0
  have h1 := (h.fk_lt_iff a0 (show 0 ≤ k' + 1 by omega)).mp (by have := f.le; have := f'.lt; omega)
  have h2 := (h.fk_lt_iff b0 (show 0 ≤ k + 1 by omega)).mp (by have := f'.le; have := f.lt; omega)
  omega
theorem FlV.of {S : Sh} {a b y k : Int} (b0 : 0 < b) (e : a * wt 0 = y * b) (f : Flr S a b k) : FlV S y k := by
  have h1 := f.le
  have h2 := f.lt
  rw [e] at h1 h2
  exact ⟨f.k0, Int.le_of_mul_le_mul_right h1 b0, Int.lt_of_mul_lt_mul_right h2 (by omega)⟩
theorem pair_val {m e : Int} (he : -1100 ≤ e) : m * 2 ^ e.toNat * wt 0 = m * wt e * 2 ^ (-e).toNat := by
  rw [Int.mul_assoc, Int.mul_assoc]
  congr 1
  unfold wt
  rw [← Int.pow_add, ← Int.pow_add]
  congr 1
  omega
theorem rst_val {S : Sh} {a b y k : Int} (b0 : 0 < b) (e : a * wt 0 = y * b) : S.rst a b k = (y - S.fk k) * b := by
  unfold Sh.rst
  rw [e, Int.sub_mul]
theorem rst_0 {S : Sh} {a b y k : Int} (b0 : 0 < b) (e : a * wt 0 = y * b) : S.rst a b k = 0 ↔ y = S.fk k := by
  rw [rst_val b0 e]
  exact ⟨fun z => by rcases Int.mul_eq_zero.mp z with v | v <;> omega, fun z => by rw [z, Int.sub_self, Int.zero_mul]⟩
/-- by one side -/
def oneSided (v : Way) : Prop := v = .zero ∨ v = .up ∨ v = .down
theorem upI_down {S : Sh} {v : Way} (hv : v = .zero ∨ v = .down) {n d k : Int} : upI S v n d k = 0 := by
  rcases hv with rfl | rfl <;> rfl
theorem upI_up {S : Sh} {n d k : Int} : upI S .up n d k = if S.rst n d k = 0 then 0 else 1 := by
  unfold upI upK
  by_cases h : S.rst n d k = 0 <;> simp [h]
/-- the rank in the lesser shape, at once and in two steps -/
theorem two_steps {S W : Sh} (hS : S.Ok) (hW : W.Ok) (w : Wid S W) {v : Way} (hv : oneSided v) {n d kS kW : Int} (n0 : 0 < n) (d0 : 0 < d) (fS : Flr S n d kS) (fW : Flr W n d kW)
    {a b y k2 : Int} (b0 : 0 < b) (ey : a * wt 0 = y * b) (hy : y = W.fk (kW + upI W v n d kW)) (f2 : Flr S a b k2) :
    kS + upI S v n d kS = k2 + upI S v a b k2 ∧ (S.rst n d kS = 0 ↔ W.rst n d kW = 0 ∧ S.rst a b k2 = 0) := by
  have fv := FlV.of b0 ey f2
  have s0 := fS.k0
  have w0 := fW.k0
  obtain ⟨a1, ea0, ea⟩ := embed hS hW w s0
  obtain ⟨a2, eb0, eb⟩ := embed hS hW w (show 0 ≤ kS + 1 by omega)
  have sle := fS.le
  have slt := fS.lt
  have wle := fW.le
  have wlt := fW.lt
  -- ranks in W about those of S
  have h1 : a1 ≤ kW := (fW.ge hW d0 ea0).mpr (by rw [ea]; exact sle)
  have h2 : kW + 1 ≤ a2 := by
    rcases (show a2 ≤ kW ∨ kW + 1 ≤ a2 by omega) with z | z
    · have := (fW.ge hW d0 eb0).mp z
      rw [eb] at this
      omega
    · exact z
  have v1 : S.fk kS ≤ W.fk kW := by rw [← ea]; exact (hW.fk_le_iff ea0 w0).mpr h1
  have v2 : W.fk (kW + 1) ≤ S.fk (kS + 1) := by rw [← eb]; exact (hW.fk_le_iff (by omega) eb0).mpr h2
  have v3 : W.fk kW < W.fk (kW + 1) := hW.fk_lt w0
  have rS : S.rst n d kS = 0 ↔ S.fk kS * d = n * wt 0 := by unfold Sh.rst; omega
  have rW : W.rst n d kW = 0 ↔ W.fk kW * d = n * wt 0 := by unfold Sh.rst; omega
  have r2 := rst_0 (S := S) (k := k2) b0 ey
  -- exact in S, exact in W
  have sw : S.rst n d kS = 0 → W.fk kW = S.fk kS := fun z => by
    have z1 := rS.mp z
    have : W.fk kW * d ≤ S.fk kS * d := by omega
    have := Int.le_of_mul_le_mul_right this d0
    omega
  have sw2 : S.rst n d kS = 0 → W.rst n d kW = 0 := fun z => by
    rw [rW, sw z]
    exact rS.mp z
  by_cases hx : W.rst n d kW = 0
  · -- exact in W
    have u0 : upI W v n d kW = 0 := by
      rcases hv with rfl | rfl | rfl
      · rfl
      · rw [upI_up, if_pos hx]
      · rfl
    rw [u0, Int.add_zero] at hy
    have k2e : k2 = kS := FlV.uniq hS fv ⟨s0, by rw [hy]; exact v1, by rw [hy]; omega⟩
    subst k2e
    have eq0 : S.rst a b k2 = 0 ↔ S.rst n d k2 = 0 := by
      rw [r2, rS, hy]
      have z1 := rW.mp hx
      constructor
      · intro z; rw [← z]; exact z1
      · intro z
        have : W.fk kW * d = S.fk k2 * d := by omega
        exact Int.eq_of_mul_eq_mul_right (by omega) this
    refine ⟨?_, ⟨fun z => ⟨hx, eq0.mpr z⟩, fun z => eq0.mp z.2⟩⟩
    rcases hv with rfl | rfl | rfl
    · rfl
    · rw [upI_up, upI_up]
      by_cases z : S.rst n d k2 = 0
      · rw [if_pos z, if_pos (eq0.mpr z)]
      · rw [if_neg z, if_neg (fun q => z (eq0.mp q))]
    · rfl
  · have nS : S.rst n d kS ≠ 0 := fun z => hx (sw2 z)
    refine ⟨?_, ⟨fun z => absurd z nS, fun z => absurd z.1 hx⟩⟩
    rcases hv with rfl | rfl | rfl
    · have k2e : k2 = kS := FlV.uniq hS fv ⟨s0, by rw [hy, upI_down (.inl rfl), Int.add_zero]; exact v1, by rw [hy, upI_down (.inl rfl), Int.add_zero]; omega⟩
      rw [k2e, upI_down (.inl rfl), upI_down (.inl rfl)]
    · rw [upI_up, if_neg hx] at hy
      have ylt : S.fk kS < y := by omega
      rw [upI_up, upI_up, if_neg nS]
      by_cases z : y = S.fk (kS + 1)
      · have k2e : k2 = kS + 1 := FlV.uniq hS fv ⟨by omega, by omega, by rw [z]; exact hS.fk_lt (by omega)⟩
        rw [k2e] at r2 ⊢
        rw [if_pos (r2.mpr z)]
        omega
      · have k2e : k2 = kS := FlV.uniq hS fv ⟨s0, by omega, by omega⟩
        rw [k2e] at r2 ⊢
        rw [if_neg (fun q => by have := r2.mp q; omega)]
    · have k2e : k2 = kS := FlV.uniq hS fv ⟨s0, by rw [hy, upI_down (.inr rfl), Int.add_zero]; exact v1, by rw [hy, upI_down (.inr rfl), Int.add_zero]; omega⟩
      rw [k2e, upI_down (.inr rfl), upI_down (.inr rfl)]
/-- beyond the wider one, beyond the lesser one -/
theorem two_over {S W : Sh} (hS : S.Ok) (hW : W.Ok) (w : Wid S W) {v : Way} (hv : oneSided v) {n d kS kW : Int} (n0 : 0 < n) (d0 : 0 < d) (fS : Flr S n d kS) (fW : Flr W n d kW) (ho : W.last ≤ kW + upI W v n d kW) : S.last ≤ kS + upI S v n d kS := by
  obtain ⟨l1, l2⟩ := w.last hS hW
  have f2 := hS.last4
  have f2' := hW.last4
  have g2 := hS.fn2
  have g2' := hW.fn2
  have far : W.last ≤ kW → S.last ≤ kS := fun z => by
    have z1 := (fW.ge hW d0 (by omega)).mp z
    exact (fS.ge hS d0 (by omega)).mpr (Int.le_trans (Int.mul_le_mul_of_nonneg_right l1 (by omega)) z1)
  have u01 := upI_01 S v n d kS
  rcases upI_01 W v n d kW with u | u
  · have := far (by omega)
    omega
  · by_cases z : W.last ≤ kW
    · have := far z
      omega
    · have kWe : kW = W.last - 1 := by omega
      have hvu : v = .up := by
        rcases hv with rfl | rfl | rfl
        · rw [upI_down (.inl rfl)] at u; omega
        · rfl
        · rw [upI_down (.inr rfl)] at u; omega
      subst hvu
      have nx : W.rst n d kW ≠ 0 := fun q => by rw [upI_up, if_pos q] at u; omega
      have lw := fW.le
      have h1 : S.last - 1 ≤ kS := (fS.ge hS d0 (by omega)).mpr (by rw [kWe] at lw; exact Int.le_trans (Int.mul_le_mul_of_nonneg_right l2 (by omega)) lw)
      rw [upI_up]
      by_cases q : S.rst n d kS = 0
      · rw [if_pos q]
        rcases (show S.last ≤ kS ∨ kS = S.last - 1 by omega) with y | y
        · omega
        · exfalso
          apply nx
          unfold Sh.rst at q ⊢
          rw [y] at q
          rw [kWe] at lw ⊢
          have := Int.mul_le_mul_of_nonneg_right l2 (show 0 ≤ d by omega)
          omega
      · rw [if_neg q]
        omega
theorem great_told {S : Sh} (h : S.Ok) (w : Way) {s j : Int} (hi : inward w s = true) (hj : S.last - 1 ≤ j) : S.told w s j = S.great s := by
  unfold Sh.told
  by_cases z : S.last ≤ j
  · rw [if_pos z, hi]
    rfl
  · obtain ⟨_, _, _, r, e, _⟩ := h.lastParts
    rw [if_neg z, show j = S.last - 1 by omega, r, show S.last - 1 - (S.hi - S.lo) * S.fn = 2 * S.fn - 1 by omega, show S.lo + (S.hi - S.lo) = S.hi by omega]
    rfl
theorem side_one {w : Way} (hw : oneSided w) (s : Int) : oneSided (sideW w s) := by
  unfold sideW
  split
  · rcases hw with rfl | rfl | rfl
    · exact .inl rfl
    · exact .inr (.inr rfl)
    · exact .inr (.inl rfl)
  · exact hw
theorem inw_side {w : Way} {s : Int} (h : inward w s = true) : sideW w s = .zero ∨ sideW w s = .down := by
  unfold inward at h
  unfold sideW
  cases w <;> simp at h
  · split <;> exact .inl rfl
  · subst h; exact .inr rfl
  · subst h; exact .inr rfl
theorem rN_st {S : Sh} {w : Way} {n d s : Int} : (rN S w n d s).st = if n ≠ 0 ∧ S.last ≤ jF S w n d ∧ inward w (sgI n) = false then 1 else 0 := by
  unfold rN
  by_cases h : n = 0
  · rw [if_pos h, if_neg (fun z => z.1 h)]
    rfl
  · rw [if_neg h]
    unfold Sh.told
    by_cases z : S.last ≤ jF S w n d
    · rw [if_pos z]
      cases hi : inward w (sgI n) <;> simp [h, z, Sh.great, Sh.inf]
    · rw [if_neg z, if_neg (fun q => z q.2.1)]
theorem two_inf {S W : Sh} (hS : S.Ok) (hW : W.Ok) (wd : Wid S W) {w : Way} (hw : oneSided w) {n d : Int} (d0 : 0 < d) (h : (rN W w n d 0).st = 1) : (rN S w n d 0).st = 1 ∧ (rN S w n d 0).s = (rN W w n d 0).s := by
  rw [rN_st] at h
  split at h
  · rename_i z
    obtain ⟨z1, z2, z3⟩ := z
    have o := two_over hS hW wd (side_one hw (sgI n)) (absI_pos z1) d0 (kF_flr hS (absI_0 n) d0) (kF_flr hW (absI_0 n) d0) z2
    rw [rN_st, if_pos ⟨z1, o, z3⟩, rN_s, rN_s]
    exact ⟨rfl, rfl⟩
  · cases h
theorem rM_0 {S : Sh} {w : Way} {n d : Int} (h : n ≠ 0) : rM S w n d ≠ 0 ↔ (S.last ≤ jF S w n d ∨ S.rst (absI n) d (kF S (absI n) d) ≠ 0) := by
  unfold rM Sh.mark
  rw [if_neg h]
  by_cases z : S.last ≤ jF S w n d
  · rw [if_pos z]
    exact ⟨fun _ => .inl z, fun _ => by decide⟩
  · rw [if_neg z]
    by_cases y : S.rst (absI n) d (kF S (absI n) d) = 0
    · rw [if_pos y]
      exact ⟨fun q => absurd rfl q, fun q => q.elim (fun q => absurd q z) fun q => absurd y q⟩
    · rw [if_neg y]
      refine ⟨fun _ => .inr y, fun _ => ?_⟩
      split <;> decide
theorem abs_sgn {s a : Int} (hs : s = 0 ∨ s = 1) (a0 : 0 ≤ a) : absI (if s = 1 then 0 - a else a) = a := by
  unfold absI
  rcases hs with rfl | rfl
  · rw [if_neg (show ¬ ((0 : Int) = 1) by decide), if_neg (by omega)]
  · rw [if_pos rfl]
    split <;> omega
theorem sgn_sgn {s a : Int} (hs : s = 0 ∨ s = 1) (a0 : 0 < a) : sgI (if s = 1 then 0 - a else a) = s := by
  unfold sgI
  rcases hs with rfl | rfl
  · rw [if_neg (show ¬ ((0 : Int) = 1) by decide), if_neg (by omega)]
  · rw [if_pos rfl, if_pos (by omega)]
/-- what is told, of the value of what the wider shape tells -/
theorem two_num {S W : Sh} (hS : S.Ok) (hW : W.Ok) (wd : Wid S W) {w : Way} (hw : oneSided w) {n d A B : Int} (d0 : 0 < d) (h0 : (rN W w n d 0).st = 0)
    (hA : A = if (rN W w n d 0).s = 1 then 0 - (rN W w n d 0).m * 2 ^ (rN W w n d 0).e.toNat else (rN W w n d 0).m * 2 ^ (rN W w n d 0).e.toNat) (hB : B = 2 ^ (-(rN W w n d 0).e).toNat) :
    rN S w A B (rN W w n d 0).s = rN S w n d 0 ∧ (rM S w n d ≠ 0 ↔ (rM W w n d ≠ 0 ∨ rM S w A B ≠ 0)) := by
  have B0 : 0 < B := by rw [hB]; exact ip_pos _
  have l4 := hS.last4
  have f2 := hS.fn2
  by_cases hn : n = 0
  · subst hn
    have e : rN W w 0 d 0 = W.zero 0 := by unfold rN; rw [if_pos rfl]
    have eA : A = 0 := by rw [hA, e]; show (if (0 : Int) = 1 then _ else (0 : Int) * _) = 0; rw [if_neg (by decide), Int.zero_mul]
    rw [e, eA]
    unfold rN rM
    rw [if_pos rfl, if_pos rfl, if_pos rfl, if_pos rfl, if_pos rfl]
    exact ⟨rfl, by simp⟩
  · have an := absI_pos hn
    have es : (rN W w n d 0).s = sgI n := by rw [rN_s, if_neg hn]
    have s01 := sgI_01 n
    have fS := kF_flr hS (absI_0 n) d0
    have fW := kF_flr hW (absI_0 n) d0
    have hv := side_one hw (sgI n)
    have jW0 := jF_0 hW w (n := n) d0
    have l0 := hW.l0
    rw [es] at hA ⊢
    have eN : rN S w n d 0 = S.told w (sgI n) (jF S w n d) := by unfold rN; rw [if_neg hn]
    have eW : rN W w n d 0 = W.told w (sgI n) (jF W w n d) := by unfold rN; rw [if_neg hn]
    by_cases hj : W.last ≤ jF W w n d
    · -- beyond the wider one
      have hi : inward w (sgI n) = true := by
        rw [rN_st] at h0
        by_cases q : n ≠ 0 ∧ W.last ≤ jF W w n d ∧ inward w (sgI n) = false
        · rw [if_pos q] at h0; cases h0
        · cases c : inward w (sgI n)
          · exact absurd ⟨hn, hj, c⟩ q
          · rfl
      have o := two_over hS hW wd hv an d0 fS fW hj
      have eG : rN W w n d 0 = W.great (sgI n) := by rw [eW]; exact great_told hW w hi (by omega)
      have g2 := hW.fn2
      have a0 : 0 < (2 * W.fn - 1) * 2 ^ W.hi.toNat := Int.mul_pos (by omega) (ip_pos _)
      have eA : A = if sgI n = 1 then 0 - (2 * W.fn - 1) * 2 ^ W.hi.toNat else (2 * W.fn - 1) * 2 ^ W.hi.toNat := by rw [hA, eG]; rfl
      have eB : B = 2 ^ (-W.hi).toNat := by rw [hB, eG]; rfl
      have aA : absI A = (2 * W.fn - 1) * 2 ^ W.hi.toNat := by rw [eA]; exact abs_sgn s01 (by omega)
      have sA : sgI A = sgI n := by rw [eA]; exact sgn_sgn s01 a0
      have A0 : A ≠ 0 := by
        intro q
        rw [q] at aA
        have : absI 0 = 0 := rfl
        omega
      obtain ⟨_, _, _, _, _, gv⟩ := hW.lastParts
      have hl1 := hW.h0
      have ey : absI A * wt 0 = W.fk (W.last - 1) * B := by rw [aA, eB, gv]; exact pair_val (by omega)
      have f2' := kF_flr hS (absI_0 A) B0
      have fv := FlV.of B0 ey f2'
      have kl : S.last - 1 ≤ kF S (absI A) B := by
        have q1 := (wd.last hS hW).2
        have := (hS.fk_lt_iff (show 0 ≤ S.last - 1 by omega) (show 0 ≤ kF S (absI A) B + 1 by have := f2'.k0; omega)).mp (by have := fv.lt; omega)
        omega
      have j2 : S.last - 1 ≤ jF S w A B := by
        have := upI_01 S (sideW w (sgI A)) (absI A) B (kF S (absI A) B)
        unfold jF
        omega
      refine ⟨?_, ?_⟩
      · rw [eN, great_told hS w hi (show S.last - 1 ≤ jF S w n d by have o' : S.last ≤ jF S w n d := o; omega)]
        unfold rN
        rw [if_neg A0, sA, great_told hS w hi j2]
      · rw [rM_0 hn, rM_0 hn]
        exact ⟨fun _ => .inl (.inl hj), fun _ => .inl o⟩
    · -- within it
      have eF : rN W w n d 0 = ⟨W, sgI n, jF W w n d - W.rise (jF W w n d) * W.fn, W.lo + W.rise (jF W w n d), 0⟩ := by rw [eW]; unfold Sh.told; rw [if_neg hj]
      have rise0 : 0 ≤ W.rise (jF W w n d) := by
        obtain ⟨r, m, e1, r0, m0, m1, hn, er⟩ := hW.parts jW0
        omega
      have m0 : 0 ≤ jF W w n d - W.rise (jF W w n d) * W.fn := by
        obtain ⟨r, m, e1, r0, m0, m1, hn, er⟩ := hW.parts jW0
        rw [er]
        omega
      have hy : W.fk (jF W w n d) = (jF W w n d - W.rise (jF W w n d) * W.fn) * wt (W.lo + W.rise (jF W w n d)) := rfl
      rw [eF] at hA hB
      simp only at hA hB
      generalize hM : jF W w n d - W.rise (jF W w n d) * W.fn = M at *
      generalize hE : W.lo + W.rise (jF W w n d) = E at *
      have a0 : 0 ≤ M * 2 ^ E.toNat := Int.mul_nonneg m0 (by have := ip_pos E.toNat; omega)
      have aA : absI A = M * 2 ^ E.toNat := by rw [hA]; exact abs_sgn s01 a0
      have ey : absI A * wt 0 = W.fk (jF W w n d) * B := by rw [aA, hB, hy]; exact pair_val (by omega)
      have fA := kF_flr hS (absI_0 A) B0
      have T := two_steps hS hW wd hv an d0 fS fW B0 ey (show W.fk (jF W w n d) = W.fk (kF W (absI n) d + upI W (sideW w (sgI n)) (absI n) d (kF W (absI n) d)) from rfl) fA
      obtain ⟨t1, t2⟩ := T
      by_cases hz : A = 0
      · -- nought
        have k20 : kF S (absI A) B = 0 := by
          have q1 : absI A = 0 := by rw [hz]; rfl
          have fv := FlV.of B0 ey fA
          have y0 : W.fk (jF W w n d) = 0 := by
            rw [q1, Int.zero_mul] at ey
            rcases Int.mul_eq_zero.mp ey.symm with q | q <;> omega
          rw [y0] at fv
          exact FlV.uniq hS fv ⟨Int.le_refl 0, by rw [hS.fk0.1]; exact Int.le_refl 0, by have := hS.fk_lt (Int.le_refl 0); rw [hS.fk0.1] at this; exact this⟩
        have r20 : S.rst (absI A) B 0 = 0 := by
          unfold Sh.rst
          rw [hz, hS.fk0.1]
          show (0 : Int) * _ - 0 * _ = 0
          rw [Int.zero_mul, Int.zero_mul]
          rfl
        rw [k20, r20] at t2
        have u20 : upI S (sideW w (sgI n)) (absI A) B 0 = 0 := by
          rcases hv with q | q | q <;> rw [q]
          · rfl
          · rw [upI_up, if_pos r20]
          · rfl
        rw [k20, u20] at t1
        have jS0 : jF S w n d = 0 := t1
        refine ⟨?_, ?_⟩
        · rw [eN, jS0]
          unfold rN Sh.told
          rw [if_pos hz, if_neg (by omega), hS.fk0.2]
          unfold Sh.zero
          simp
        · rw [rM_0 hn, rM_0 hn, jS0]
          have : rM S w A B = 0 := by unfold rM; rw [if_pos hz]
          rw [this]
          constructor
          · rintro (q | q)
            · omega
            · refine .inl (.inr fun y => q (t2.mpr ⟨y, rfl⟩))
          · rintro ((q | q) | q)
            · exact absurd q hj
            · exact .inr fun y => q (t2.mp y).1
            · exact absurd rfl q
      · have sA : sgI A = sgI n := by
          have ap : 0 < M * 2 ^ E.toNat := by
            rcases (show M * 2 ^ E.toNat = 0 ∨ 0 < M * 2 ^ E.toNat by omega) with q | q
            · exfalso
              apply hz
              rw [hA, q]
              split <;> rfl
            · exact q
          rw [hA]
          exact sgn_sgn s01 ap
        have jE : jF S w A B = jF S w n d := by
          unfold jF
          rw [sA]
          exact t1.symm
        refine ⟨?_, ?_⟩
        · rw [eN]
          unfold rN
          rw [if_neg hz, sA, jE]
        · rw [rM_0 hn, rM_0 hn, rM_0 hz, jE]
          constructor
          · rintro (q | q)
            · exact .inr (.inl q)
            · by_cases y : W.rst (absI n) d (kF W (absI n) d) = 0
              · exact .inr (.inr fun z => q (t2.mpr ⟨y, z⟩))
              · exact .inl (.inr y)
          · rintro ((q | q) | (q | q))
            · exact absurd q hj
            · exact .inr fun y => q (t2.mp y).1
            · exact .inl q
            · exact .inr fun y => q (t2.mp y).2
end Dw

set_option Elab.async false
set_option linter.all false
set_option maxRecDepth 100000
/-! what is a number itself; what a rounding to the nearest loses -/
namespace Dw
open PySem
theorem emb_val {W : Sh} (hW : W.Ok) {M e : Int} (M0 : 0 ≤ M) (M1 : M < 2 * W.fn) (he : W.lo ≤ e) : ∃ k, 0 ≤ k ∧ W.fk k = M * wt e := by
  have pe := wt_pos e
  obtain ⟨k', f⟩ := flr_ex hW (Int.mul_nonneg M0 (show 0 ≤ wt e by omega)) (wt_pos 0)
  have le : W.fk k' ≤ M * wt e := Int.le_of_mul_le_mul_right f.le (wt_pos 0)
  have lt : M * wt e < W.fk (k' + 1) := Int.lt_of_mul_lt_mul_right f.lt (by have := wt_pos 0; omega)
  obtain ⟨m', e1', r0', m0', m1', hn', e2', e3'⟩ := f.parts hW
  have l0 := hW.l0
  refine ⟨k', f.k0, ?_⟩
  generalize hE : W.lo + W.rise k' = E at *
  have pE := wt_pos E
  by_cases c : E ≤ e
  · have e4 : wt e = wt E * 2 ^ (e - E).toNat := by
      rw [← wt_add (by omega) (e - E).toNat]
      congr 1
      omega
    rw [e2'] at le ⊢
    rw [e3'] at lt
    rw [e4] at le lt ⊢
    have e5 : M * (wt E * 2 ^ (e - E).toNat) = M * 2 ^ (e - E).toNat * wt E := by rw [Int.mul_comm (wt E), Int.mul_assoc]
    rw [e5] at le lt ⊢
    have h1 := Int.le_of_mul_le_mul_right le pE
    have h2 := Int.lt_of_mul_lt_mul_right lt (by omega)
    rw [show m' = M * 2 ^ (e - E).toNat by omega]
  · exfalso
    have h1 := hn' (by omega)
    have h2 : wt (e + 1) ≤ wt E := wt_mono (by omega)
    rw [wt_succ (by omega)] at h2
    have h3 : W.fn * (2 * wt e) ≤ m' * wt E := Int.mul_le_mul h1 h2 (by omega) (by omega)
    have h4 : M * wt e < 2 * W.fn * wt e := Int.mul_lt_mul_of_pos_right M1 pe
    have h6 : W.fn * (2 * wt e) = 2 * W.fn * wt e := by rw [← Int.mul_assoc, Int.mul_comm W.fn 2]
    omega
/-- the scaled value Y is one of the finite numbers' -/
def Rep (S : Sh) (Y : Int) : Prop := ∃ k, 0 ≤ k ∧ k < S.last ∧ S.fk k = absI Y
theorem rep_of {S : Sh} (h : S.Ok) {M e Y B : Int} (he : S.lo ≤ e) (eY : Y = M * wt e) (hM : absI M < 2 * S.fn) (hB : Rep S B) (hY : absI Y ≤ absI B) : Rep S Y := by
  have pe := wt_pos e
  have a : absI Y = absI M * wt e := by
    rw [eY]
    unfold absI
    by_cases z : M < 0
    · rw [if_pos z, if_pos (Int.mul_neg_of_neg_of_pos z pe), Int.neg_mul]
    · rw [if_neg z, if_neg (by have := Int.mul_nonneg (show 0 ≤ M by omega) (show 0 ≤ wt e by omega); omega)]
  obtain ⟨k, k0, ek⟩ := emb_val h (absI_0 M) hM he
  obtain ⟨b, b0, b1, eb⟩ := hB
  refine ⟨k, k0, ?_, by rw [ek, a]⟩
  have := (h.fk_le_iff k0 b0).mp (by rw [ek, ← a, eb]; exact hY)
  omega
theorem rep_nm {n : Nm} (h : n.Ok) (h0 : n.st = 0) : Rep n.S n.sc := by
  refine ⟨n.stp, h.stp0, h.stpL, ?_⟩
  rw [← h.fk_eq]
  have := h.mw
  rcases Nm.sc_of h with ⟨s, c⟩ | ⟨s, c⟩ <;> rw [c] <;> unfold absI <;> split <;> omega
theorem abs_scale {n d Y : Int} (d0 : 0 < d) (e : n * wt 0 = Y * d) : absI n * wt 0 = absI Y * d ∧ (n = 0 ↔ Y = 0) ∧ sgI n = sgI Y := by
  have w0 := wt_pos 0
  have k1 : n < 0 ↔ Y < 0 := by
    constructor
    · intro z
      have := Int.mul_neg_of_neg_of_pos z w0
      rcases (show Y < 0 ∨ 0 ≤ Y by omega) with y | y
      · exact y
      · have := Int.mul_nonneg y (show 0 ≤ d by omega); omega
    · intro z
      have := Int.mul_neg_of_neg_of_pos z d0
      rcases (show n < 0 ∨ 0 ≤ n by omega) with y | y
      · exact y
      · have := Int.mul_nonneg y (show 0 ≤ wt 0 by omega); omega
  have k2 : n = 0 ↔ Y = 0 := by
    constructor
    · intro z
      rw [z, Int.zero_mul] at e
      rcases Int.mul_eq_zero.mp e.symm with y | y <;> omega
    · intro z
      rw [z, Int.zero_mul] at e
      rcases Int.mul_eq_zero.mp e with y | y <;> omega
  refine ⟨?_, k2, ?_⟩
  · unfold absI
    by_cases z : n < 0
    · rw [if_pos z, if_pos (k1.mp z), Int.neg_mul, Int.neg_mul, e]
    · rw [if_neg z, if_neg (fun y => z (k1.mpr y)), e]
  · unfold sgI
    by_cases z : n < 0
    · rw [if_pos z, if_pos (k1.mp z)]
    · rw [if_neg z, if_neg (fun y => z (k1.mpr y))]
theorem sc_told {S : Sh} {s j : Int} (hs : s = 0 ∨ s = 1) : (⟨S, s, j - S.rise j * S.fn, S.lo + S.rise j, 0⟩ : Nm).sc = if s = 1 then -S.fk j else S.fk j := by
  show (if s = 1 then -(j - S.rise j * S.fn) else j - S.rise j * S.fn) * wt (S.lo + S.rise j) = _
  unfold Sh.fk
  rcases hs with rfl | rfl
  · rw [if_neg (show ¬ ((0 : Int) = 1) by decide), if_neg (show ¬ ((0 : Int) = 1) by decide)]
  · rw [if_pos rfl, if_pos rfl, Int.neg_mul]
theorem sgn_abs (Y : Int) : (if sgI Y = 1 then -absI Y else absI Y) = Y := by
  unfold sgI absI
  by_cases z : Y < 0
  · rw [if_pos z, if_pos z, if_pos rfl]; omega
  · rw [if_neg z, if_neg z, if_neg (by decide)]
theorem upI_exact {S : Sh} (h : S.Ok) (w : Way) {n d k : Int} (d0 : 0 < d) (hr : S.rst n d k = 0) : upI S w n d k = 0 := by
  have g0 := Int.mul_pos (wt_pos (S.lo + S.rise k)) d0
  have hg : S.gap d k = wt (S.lo + S.rise k) * d := rfl
  unfold upI upK
  rw [hr, hg]
  generalize wt (S.lo + S.rise k) * d = g at *
  cases w <;> simp <;> first | omega | (rw [if_neg (by omega)]; simp; omega)
/-- a value that is a number's is told itself -/
theorem rN_rep {S : Sh} (h : S.Ok) (w : Way) {n d Y : Int} (d0 : 0 < d) (e : n * wt 0 = Y * d) (hR : Rep S Y) : (rN S w n d 0).st = 0 ∧ (rN S w n d 0).sc = Y ∧ rM S w n d = 0 := by
  obtain ⟨ea, e0, es⟩ := abs_scale d0 e
  obtain ⟨k, k0, k1, ek⟩ := hR
  by_cases hn : n = 0
  · have : Y = 0 := e0.mp hn
    unfold rN rM
    rw [if_pos hn, if_pos hn, this]
    refine ⟨rfl, ?_, rfl⟩
    show (if (0 : Int) = 1 then _ else (0 : Int)) * _ = 0
    rw [if_neg (by decide), Int.zero_mul]
  · have fl := kF_flr h (absI_0 n) d0
    have fv := FlV.of d0 ea fl
    have hk : kF S (absI n) d = k := FlV.uniq h fv ⟨k0, by omega, by have := h.fk_lt k0; omega⟩
    have hr : S.rst (absI n) d k = 0 := (rst_0 d0 ea).mpr ek.symm
    have hu := upI_exact h (sideW w (sgI n)) (n := absI n) (k := k) d0 hr
    have hj : jF S w n d = k := by unfold jF; rw [hk, hu, Int.add_zero]
    unfold rN rM
    rw [if_neg hn, if_neg hn, hj, hk]
    unfold Sh.told Sh.mark
    rw [if_neg (by omega), if_neg (by omega), if_pos hr]
    refine ⟨rfl, ?_, rfl⟩
    rw [sc_told (sgI_01 n), ek, es]
    exact sgn_abs Y
/-- to the nearest -/
def twoSided (w : Way) : Prop := w = .near ∨ w = .away
theorem side_two {w : Way} (hw : twoSided w) (s : Int) : sideW w s = w := by
  unfold sideW
  rcases hw with rfl | rfl <;> split <;> rfl
theorem inw_two {w : Way} (hw : twoSided w) (s : Int) : inward w s = false := by
  rcases hw with rfl | rfl <;> rfl
theorem up_two {S : Sh} {w : Way} (hw : twoSided w) {n d k : Int} : (upI S w n d k = 1 → S.gap d k ≤ 2 * S.rst n d k) ∧ (upI S w n d k = 0 → 2 * S.rst n d k ≤ S.gap d k) := by
  unfold upI upK
  rcases hw with rfl | rfl
  · by_cases z : 2 * S.rst n d k = S.gap d k
    · exact ⟨fun _ => by omega, fun _ => by omega⟩
    · simp only [z, if_false]
      by_cases y : S.gap d k < 2 * S.rst n d k
      · simp [y]; omega
      · simp [y]; omega
  · by_cases y : S.gap d k ≤ 2 * S.rst n d k
    · simp [y]
    · simp [y]; omega
/-- no number is nearer, and what is lost is a multiple of whatever the value is one of -/
theorem rN_near {S : Sh} (h : S.Ok) {w : Way} (hw : twoSided w) {n d Y : Int} (d0 : 0 < d) (e : n * wt 0 = Y * d) (hs : (rN S w n d 0).st = 0) :
    (∀ B, Rep S B → absI (Y - (rN S w n d 0).sc) ≤ absI (Y - B)) ∧ (rM S w n d = 0 ↔ Y = (rN S w n d 0).sc) ∧
    (∀ L M, S.lo ≤ L → Y = M * wt L → ∃ M', Y - (rN S w n d 0).sc = M' * wt L) := by
  obtain ⟨ea, e0, es⟩ := abs_scale d0 e
  by_cases hn : n = 0
  · have y0 : Y = 0 := e0.mp hn
    have c0 : (rN S w n d 0).sc = 0 := by
      unfold rN
      rw [if_pos hn]
      show (if (0 : Int) = 1 then _ else (0 : Int)) * _ = 0
      rw [if_neg (by decide), Int.zero_mul]
    rw [c0, y0]
    refine ⟨fun B _ => ?_, ?_, fun L M _ _ => ⟨0, by simp⟩⟩
    · have := absI_0 (0 - B)
      show absI (0 - 0) ≤ _
      exact this
    · unfold rM
      rw [if_pos hn]
      simp
  · have fl := kF_flr h (absI_0 n) d0
    have fv := FlV.of d0 ea fl
    have k0 := fl.k0
    have hst := hs
    rw [rN_st] at hst
    have hj : jF S w n d < S.last := by
      by_cases z : S.last ≤ jF S w n d
      · rw [if_pos ⟨hn, z, inw_two hw _⟩] at hst
        cases hst
      · omega
    have eN : rN S w n d 0 = ⟨S, sgI n, jF S w n d - S.rise (jF S w n d) * S.fn, S.lo + S.rise (jF S w n d), 0⟩ := by
      unfold rN Sh.told
      rw [if_neg hn, if_neg (by omega)]
    have eS : (rN S w n d 0).sc = if sgI Y = 1 then -S.fk (jF S w n d) else S.fk (jF S w n d) := by rw [eN, sc_told (sgI_01 n), es]
    have ej : jF S w n d = kF S (absI n) d + upI S w (absI n) d (kF S (absI n) d) := by unfold jF; rw [side_two hw]
    have hg := h.fk_step k0
    have hr := rst_val (S := S) (k := kF S (absI n) d) d0 ea
    have hgap : S.gap d (kF S (absI n) d) = wt (S.lo + S.rise (kF S (absI n) d)) * d := rfl
    obtain ⟨u1, u0⟩ := up_two (S := S) hw (n := absI n) (d := d) (k := kF S (absI n) d)
    rw [hr, hgap] at u1 u0
    have vle := fv.le
    have vlt := fv.lt
    generalize hK : kF S (absI n) d = k at *
    generalize hG : wt (S.lo + S.rise k) = g at *
    have g0 : 0 < g := by rw [← hG]; exact wt_pos _
    -- how far off
    have off : absI (absI Y - S.fk (jF S w n d)) ≤ absI Y - S.fk k ∧ absI (absI Y - S.fk (jF S w n d)) ≤ S.fk (k + 1) - absI Y := by
      rcases upI_01 S w (absI n) d k with u | u
      · have q := u0 u
        rw [← Int.mul_assoc] at q
        have := Int.le_of_mul_le_mul_right q d0
        rw [ej, u, Int.add_zero]
        unfold absI at *
        constructor <;> (repeat' split) <;> omega
      · have q := u1 u
        rw [← Int.mul_assoc] at q
        have := Int.le_of_mul_le_mul_right q d0
        rw [ej, u]
        unfold absI at *
        constructor <;> (repeat' split) <;> omega
    have dist : absI (Y - (rN S w n d 0).sc) = absI (absI Y - S.fk (jF S w n d)) := by
      rw [eS]
      generalize S.fk (jF S w n d) = x
      unfold sgI absI
      (repeat' split) <;> omega
    have fk0 := h.fk_nonneg k0
    refine ⟨fun B hB => ?_, ?_, fun L M hL eM => ?_⟩
    · rw [dist]
      obtain ⟨b, b0, b1, eb⟩ := hB
      have hb : S.fk b ≤ S.fk k ∨ S.fk (k + 1) ≤ S.fk b := by
        rcases (show b ≤ k ∨ k + 1 ≤ b by omega) with z | z
        · exact .inl ((h.fk_le_iff b0 k0).mpr z)
        · exact .inr ((h.fk_le_iff (by omega) b0).mpr z)
      obtain ⟨o1, o2⟩ := off
      have key : absI Y - S.fk k ≤ absI (Y - B) ∨ S.fk (k + 1) - absI Y ≤ absI (Y - B) := by
        rcases hb with z | z
        · left
          rw [eb] at z
          unfold absI at *
          (repeat' split) <;> (repeat' split at z) <;> omega
        · right
          rw [eb] at z
          unfold absI at *
          (repeat' split) <;> (repeat' split at z) <;> omega
      rcases key with z | z <;> omega
    · have hM : rM S w n d = 0 ↔ absI Y = S.fk k := by
        have := rM_0 (S := S) (w := w) (d := d) hn
        rw [hK] at this
        rw [← rst_0 (S := S) (k := k) d0 ea]
        constructor
        · intro z
          by_cases y : S.rst (absI n) d k = 0
          · exact y
          · exact absurd z (this.mpr (.inr y))
        · intro z
          by_cases y : rM S w n d = 0
          · exact y
          · rcases this.mp y with q | q
            · omega
            · exact absurd z q
      rw [hM]
      constructor
      · intro z
        have hr0 : S.rst (absI n) d k = 0 := (rst_0 d0 ea).mpr z
        have : jF S w n d = k := by rw [ej, upI_exact h w d0 hr0, Int.add_zero]
        rw [eS, this, ← z]
        exact (sgn_abs Y).symm
      · intro z
        have d2 : absI (Y - (rN S w n d 0).sc) = 0 := by rw [← z, Int.sub_self]; rfl
        rw [dist] at d2
        have q : absI Y = S.fk (jF S w n d) := by
          unfold absI at *
          (repeat' split at d2) <;> (repeat' split) <;> omega
        have : jF S w n d = k := by
          rcases upI_01 S w (absI n) d k with u | u
          · rw [ej, u, Int.add_zero]
          · rw [ej, u] at q
            omega
        rw [q, this]
    · -- multiples
      by_cases c : S.lo + S.rise k ≤ L
      · -- exact
        have e4 : wt L = g * 2 ^ (L - (S.lo + S.rise k)).toNat := by
          rw [← hG, ← wt_add (by have := h.l0; have := rise_nn h k0; omega)]
          congr 1
          omega
        obtain ⟨m, q1, q2, q3, q4, q5, q6, q7⟩ := fl.parts h
        rw [hG] at q6 q7
        have eY : absI Y = absI M * 2 ^ (L - (S.lo + S.rise k)).toNat * g := by
          rw [eM, e4]
          have p0 := ip_pos (L - (S.lo + S.rise k)).toNat
          generalize (2 : Int) ^ (L - (S.lo + S.rise k)).toNat = P at *
          have pg : 0 < g * P := Int.mul_pos g0 p0
          unfold absI
          by_cases z : M < 0
          · rw [if_pos (Int.mul_neg_of_neg_of_pos z pg), if_pos z]
            grind
          · rw [if_neg (by have := Int.mul_nonneg (show 0 ≤ M by omega) (show 0 ≤ g * P by omega); omega), if_neg z]
            grind
        rw [eY, q6] at vle
        rw [eY, q7] at vlt
        have h1 := Int.le_of_mul_le_mul_right vle g0
        have h2 := Int.lt_of_mul_lt_mul_right vlt (by omega)
        have ex : absI Y = S.fk k := by rw [eY, q6, show m = absI M * 2 ^ (L - (S.lo + S.rise k)).toNat by omega]
        have hr0 : S.rst (absI n) d k = 0 := (rst_0 d0 ea).mpr ex
        have : jF S w n d = k := by rw [ej, upI_exact h w d0 hr0, Int.add_zero]
        refine ⟨0, ?_⟩
        rw [eS, this, ← ex, sgn_abs Y]
        simp
      · have e4 : g = wt L * 2 ^ (S.lo + S.rise k - L).toNat := by
          rw [← hG, ← wt_add (by have := h.l0; omega)]
          congr 1
          omega
        obtain ⟨m, q1, q2, q3, q4, q5, q6, q7⟩ := fl.parts h
        rw [hG] at q6 q7
        have eF : S.fk (jF S w n d) = (m + upI S w (absI n) d k) * g := by
          rcases upI_01 S w (absI n) d k with u | u
          · rw [ej, u, Int.add_zero, Int.add_zero]; exact q6
          · rw [ej, u]; exact q7
        generalize m + upI S w (absI n) d k = x at eF
        rw [eS, eF, eM, e4]
        generalize (2 : Int) ^ (S.lo + S.rise k - L).toNat = P
        by_cases z : sgI (M * wt L) = 1
        · rw [if_pos z]
          exact ⟨M + x * P, by grind⟩
        · rw [if_neg z]
          exact ⟨M - x * P, by grind⟩
end Dw

set_option Elab.async false
set_option linter.all false
set_option maxRecDepth 100000
/-! rounding to a shape, as the laws judge it: by comparisons at the told exponent -/
namespace Dw
open PySem
/-- x / u by 2 ** e, as a pair -/
def scA (x e : Int) : Int := x * 2 ^ (-e).toNat
def scB (u e : Int) : Int := u * 2 ^ e.toNat
theorem sA_pos {u e : Int} (h : 0 < u) : 0 < scB u e := Int.mul_pos h (ip_pos _)
theorem sA_rel {x u e : Int} (c : Nat) (he : -1100 ≤ e) : scA x (e - c) * (wt e * u) = 2 ^ c * scB u (e - c) * (x * wt 0) := by
  unfold scA scB wt
  have : (2 : Int) ^ (-(e - c)).toNat * 2 ^ (e + 1100).toNat = 2 ^ c * 2 ^ (e - c).toNat * 2 ^ ((0 : Int) + 1100).toNat := by
    rw [← Int.pow_add, ← Int.pow_add, ← Int.pow_add]
    congr 1
    omega
  generalize (2 : Int) ^ (-(e - c)).toNat = p at *
  generalize (2 : Int) ^ (e + 1100).toNat = q at *
  generalize (2 : Int) ^ (e - c).toNat = r at *
  generalize (2 : Int) ^ c = t at *
  generalize (2 : Int) ^ ((0 : Int) + 1100).toNat = v at *
  grind
theorem sA_lt {x u e q : Int} (c : Nat) (he : -1100 ≤ e) (u0 : 0 < u) : scA x (e - c) < q * scB u (e - c) ↔ 2 ^ c * (x * wt 0) < q * (wt e * u) := by
  have r := sA_rel (x := x) (u := u) c he
  have g0 : 0 < wt e * u := Int.mul_pos (wt_pos e) u0
  have b0 : 0 < scB u (e - c) := sA_pos u0
  generalize scA x (e - c) = a at *
  generalize scB u (e - c) = b at *
  generalize wt e * u = g at *
  generalize x * wt 0 = t at *
  generalize (2 : Int) ^ c = z at *
  constructor
  · intro h
    have h1 := Int.mul_lt_mul_of_pos_right h g0
    rw [r, show q * b * g = q * g * b by grind, show z * b * t = z * t * b by grind] at h1
    exact Int.lt_of_mul_lt_mul_right h1 (by omega)
  · intro h
    have h1 := Int.mul_lt_mul_of_pos_right h b0
    rw [show z * t * b = z * b * t by grind, ← r, show q * g * b = q * b * g by grind] at h1
    exact Int.lt_of_mul_lt_mul_right h1 (by omega)
theorem sA_gt {x u e q : Int} (c : Nat) (he : -1100 ≤ e) (u0 : 0 < u) : q * scB u (e - c) < scA x (e - c) ↔ q * (wt e * u) < 2 ^ c * (x * wt 0) := by
  have r := sA_rel (x := x) (u := u) c he
  have g0 : 0 < wt e * u := Int.mul_pos (wt_pos e) u0
  have b0 : 0 < scB u (e - c) := sA_pos u0
  generalize scA x (e - c) = a at *
  generalize scB u (e - c) = b at *
  generalize wt e * u = g at *
  generalize x * wt 0 = t at *
  generalize (2 : Int) ^ c = z at *
  constructor
  · intro h
    have h1 := Int.mul_lt_mul_of_pos_right h g0
    rw [r, show q * b * g = q * g * b by grind, show z * b * t = z * t * b by grind] at h1
    exact Int.lt_of_mul_lt_mul_right h1 (by omega)
  · intro h
    have h1 := Int.mul_lt_mul_of_pos_right h b0
    rw [show z * t * b = z * b * t by grind, ← r, show q * g * b = q * b * g by grind] at h1
    exact Int.lt_of_mul_lt_mul_right h1 (by omega)
theorem sA_eq {x u e q : Int} (c : Nat) (he : -1100 ≤ e) (u0 : 0 < u) : scA x (e - c) = q * scB u (e - c) ↔ 2 ^ c * (x * wt 0) = q * (wt e * u) := by
  have h1 := sA_lt (x := x) (q := q) c he u0
  have h2 := sA_gt (x := x) (q := q) c he u0
  constructor
  · intro h
    have a : ¬ (2 ^ c * (x * wt 0) < q * (wt e * u)) := fun z => by have := h1.mpr z; omega
    have b : ¬ (q * (wt e * u) < 2 ^ c * (x * wt 0)) := fun z => by have := h2.mpr z; omega
    omega
  · intro h
    have a : ¬ (scA x (e - c) < q * scB u (e - c)) := fun z => by have := h1.mp z; omega
    have b : ¬ (q * scB u (e - c) < scA x (e - c)) := fun z => by have := h2.mp z; omega
    omega
/-! ### the same of n t over d t -/
theorem flr_mul {S : Sh} {n d t k : Int} (t0 : 0 < t) (f : Flr S n d k) : Flr S (n * t) (d * t) k := by
  refine ⟨f.k0, ?_, ?_⟩
  · have := Int.mul_le_mul_of_nonneg_right f.le (show 0 ≤ t by omega)
    rw [show S.fk k * d * t = S.fk k * (d * t) by rw [Int.mul_assoc], show n * wt 0 * t = n * t * wt 0 by grind] at this
    exact this
  · have := Int.mul_lt_mul_of_pos_right f.lt t0
    rw [show S.fk (k + 1) * d * t = S.fk (k + 1) * (d * t) by rw [Int.mul_assoc], show n * wt 0 * t = n * t * wt 0 by grind] at this
    exact this
theorem upI_mul {S : Sh} {w : Way} {n d t k : Int} (t0 : 0 < t) : upI S w (n * t) (d * t) k = upI S w n d k := by
  have r : S.rst (n * t) (d * t) k = S.rst n d k * t := by unfold Sh.rst; grind
  have g : S.gap (d * t) k = S.gap d k * t := by unfold Sh.gap; grind
  have e1 : S.rst n d k * t ≠ 0 ↔ S.rst n d k ≠ 0 := ⟨fun z y => z (by rw [y, Int.zero_mul]), fun z y => by rcases Int.mul_eq_zero.mp y with v | v <;> omega⟩
  have e2 : 2 * (S.rst n d k * t) = S.gap d k * t ↔ 2 * S.rst n d k = S.gap d k := by
    rw [← Int.mul_assoc]
    exact ⟨fun z => Int.eq_of_mul_eq_mul_right (by omega) z, fun z => by rw [z]⟩
  have e3 : S.gap d k * t < 2 * (S.rst n d k * t) ↔ S.gap d k < 2 * S.rst n d k := by
    rw [← Int.mul_assoc]
    exact ⟨fun z => Int.lt_of_mul_lt_mul_right z (by omega), fun z => Int.mul_lt_mul_of_pos_right z t0⟩
  have e4 : S.gap d k * t ≤ 2 * (S.rst n d k * t) ↔ S.gap d k ≤ 2 * S.rst n d k := by
    rw [← Int.mul_assoc]
    exact ⟨fun z => Int.le_of_mul_le_mul_right z t0, fun z => Int.mul_le_mul_of_nonneg_right z (by omega)⟩
  unfold upI upK
  rw [r, g]
  cases w <;> simp only [e1, e2, e3, e4]
theorem abs_mul {n t : Int} (t0 : 0 < t) : absI (n * t) = absI n * t ∧ sgI (n * t) = sgI n ∧ (n * t = 0 ↔ n = 0) := by
  have k1 : n * t < 0 ↔ n < 0 := by
    constructor
    · intro z
      rcases (show n < 0 ∨ 0 ≤ n by omega) with y | y
      · exact y
      · have := Int.mul_nonneg y (show 0 ≤ t by omega); omega
    · intro z
      exact Int.mul_neg_of_neg_of_pos z t0
  refine ⟨?_, ?_, ?_⟩
  · unfold absI
    by_cases z : n < 0
    · rw [if_pos z, if_pos (k1.mpr z), Int.neg_mul]
    · rw [if_neg z, if_neg (fun y => z (k1.mp y))]
  · unfold sgI
    by_cases z : n < 0
    · rw [if_pos z, if_pos (k1.mpr z)]
    · rw [if_neg z, if_neg (fun y => z (k1.mp y))]
  · exact ⟨fun z => by rcases Int.mul_eq_zero.mp z with v | v <;> omega, fun z => by rw [z, Int.zero_mul]⟩
theorem rN_mul {S : Sh} (h : S.Ok) (w : Way) {n d t s : Int} (d0 : 0 < d) (t0 : 0 < t) : rN S w (n * t) (d * t) s = rN S w n d s ∧ rM S w (n * t) (d * t) = rM S w n d := by
  obtain ⟨a, b, c⟩ := abs_mul (n := n) t0
  have dt : 0 < d * t := Int.mul_pos d0 t0
  have hk : kF S (absI (n * t)) (d * t) = kF S (absI n) d := by
    have f1 := kF_flr h (absI_0 (n * t)) dt
    have f2 := flr_mul t0 (kF_flr h (absI_0 n) d0)
    rw [← a] at f2
    exact Flr.uniq h f1 f2 dt
  have hj : jF S w (n * t) (d * t) = jF S w n d := by
    unfold jF
    rw [hk, b, a, upI_mul t0]
  have hr : S.rst (absI (n * t)) (d * t) (kF S (absI n) d) = S.rst (absI n) d (kF S (absI n) d) * t := by
    rw [a]
    unfold Sh.rst
    grind
  constructor
  · unfold rN
    rw [hj, b]
    by_cases z : n = 0
    · rw [if_pos z, if_pos (c.mpr z)]
    · rw [if_neg z, if_neg (fun y => z (c.mp y))]
  · unfold rM
    rw [hj, hk]
    by_cases z : n = 0
    · rw [if_pos z, if_pos (c.mpr z)]
    · rw [if_neg z, if_neg (fun y => z (c.mp y))]
      unfold Sh.mark
      rw [hr]
      have : S.rst (absI n) d (kF S (absI n) d) * t = 0 ↔ S.rst (absI n) d (kF S (absI n) d) = 0 := ⟨fun z => by rcases Int.mul_eq_zero.mp z with v | v <;> omega, fun z => by rw [z, Int.zero_mul]⟩
      simp only [this]
end Dw

set_option Elab.async false
set_option linter.all false
set_option maxRecDepth 100000
/-! ranks of what is told: order, sides, itself -/
namespace Dw
open PySem
def tk (S : Sh) (w : Way) (j : Int) : Int := if S.last ≤ j then (if inward w 0 = true then S.last - 1 else S.last) else j
noncomputable def aR (S : Sh) (w : Way) (a d : Int) : Int := tk S w (kF S a d + upI S w a d (kF S a d))
noncomputable def rR (S : Sh) (w : Way) (n d : Int) : Int := if n = 0 then 0 else if n < 0 then -(aR S w.other (-n) d) else aR S w n d
theorem inw_s (w : Way) : inward w 1 = inward w.other 0 := by cases w <;> rfl
theorem stp_told {S : Sh} {s j : Int} {st : Nat} : (⟨S, s, j - S.rise j * S.fn, S.lo + S.rise j, st⟩ : Nm).stp = j := by
  show j - S.rise j * S.fn + (S.lo + S.rise j - S.lo) * S.fn = j
  rw [show S.lo + S.rise j - S.lo = S.rise j by omega]
  omega
theorem told_steps {S : Sh} (h : S.Ok) (w : Way) {s j : Int} (hs : s = 0 ∨ s = 1) : (S.told w s j).steps = tk S (sideW w s) j ∧ (S.told w s j).st ≠ 2 := by
  have e : inward w s = inward (sideW w s) 0 := by
    rcases hs with rfl | rfl
    · rfl
    · exact inw_s w
  unfold Sh.told tk
  rw [e]
  split
  · split
    · refine ⟨?_, (show (0 : Nat) ≠ 2 by decide)⟩
      show (if (0 : Nat) = 1 then S.last else (2 * S.fn - 1) + (S.hi - S.lo) * S.fn) = _
      rw [if_neg (by decide)]
      exact h.lastParts.2.2.2.2.1.symm
    · refine ⟨?_, (show (1 : Nat) ≠ 2 by decide)⟩
      show (if (1 : Nat) = 1 then S.last else _) = _
      rw [if_pos rfl]
  · refine ⟨?_, (show (0 : Nat) ≠ 2 by decide)⟩
    unfold Nm.steps
    rw [if_neg (show ¬ (0 : Nat) = 1 by decide)]
    exact stp_told
theorem rN_rank {S : Sh} (h : S.Ok) (w : Way) {n d s : Int} (hs : s = 0 ∨ s = 1) : (rN S w n d s).rank = rR S w n d ∧ (rN S w n d s).st ≠ 2 := by
  unfold rN rR
  by_cases z : n = 0
  · rw [if_pos z, if_pos z]
    refine ⟨?_, (show (0 : Nat) ≠ 2 by decide)⟩
    have e : (S.zero s).steps = 0 := by
      show (if (0 : Nat) = 1 then _ else 0 + (S.lo - S.lo) * S.fn) = 0
      rw [if_neg (by decide), Int.sub_self, Int.zero_mul]; rfl
    unfold Nm.rank
    rw [e]
    split <;> rfl
  · rw [if_neg z, if_neg z]
    obtain ⟨e1, e2⟩ := told_steps h w (sgI_01 n) (j := jF S w n d)
    refine ⟨?_, e2⟩
    unfold Nm.rank
    rw [e1, (told_S w).2]
    unfold jF aR
    by_cases y : n < 0
    · have e3 : sgI n = 1 := by unfold sgI; rw [if_pos y]
      have e4 : absI n = -n := by unfold absI; rw [if_pos y]
      rw [e3, e4, if_pos rfl, if_pos y]
      rfl
    · have e3 : sgI n = 0 := by unfold sgI; rw [if_neg y]
      have e4 : absI n = n := by unfold absI; rw [if_neg y]
      rw [e3, e4, if_neg (by decide), if_neg y]
      rfl
/-! ### the five ways of one fraction -/
theorem upI_le_up {S : Sh} (h : S.Ok) (w : Way) {a d k : Int} (d0 : 0 < d) : 0 ≤ upI S w a d k ∧ upI S w a d k ≤ upI S .up a d k ∧ upI S .up a d k ≤ 1 := by
  have u1 := upI_01 S w a d k
  have u2 := upI_01 S .up a d k
  refine ⟨by omega, ?_, by omega⟩
  by_cases z : S.rst a d k = 0
  · have := upI_exact h w d0 z
    omega
  · rw [upI_up, if_neg z]
    omega
theorem aR_ways {S : Sh} (h : S.Ok) (w : Way) {a d : Int} (a0 : 0 < a) (d0 : 0 < d) : aR S .zero a d = aR S .down a d ∧ aR S .down a d ≤ aR S w a d ∧ aR S w a d ≤ aR S .up a d ∧ aR S .up a d ≤ aR S .down a d + 1 := by
  have fl := kF_flr h (n := a) (by omega) d0
  have k0 := fl.k0
  obtain ⟨w0, w1, w2⟩ := upI_le_up h w (a := a) (k := kF S a d) d0
  have z1 : upI S .zero a d (kF S a d) = 0 := upI_down (.inl rfl)
  have z2 : upI S .down a d (kF S a d) = 0 := upI_down (.inr rfl)
  unfold aR tk
  rw [z1, z2]
  generalize kF S a d = k at *
  have i0 : inward .zero 0 = true := rfl
  have i1 : inward .down 0 = true := rfl
  have i2 : inward .up 0 = false := rfl
  have i3 : inward w 0 = true → w = .zero ∨ w = .down := by cases w <;> simp [inward]
  have i4 : inward w 0 = true → upI S w a d k = 0 := fun z => by rcases i3 z with rfl | rfl <;> assumption
  rw [i0, i1, i2]
  simp only [Bool.false_eq_true, if_false, if_true]
  generalize upI S .up a d k = u at *
  generalize upI S w a d k = v at *
  by_cases c : inward w 0 = true
  · have := i4 c
    simp only [if_pos c, true_and]
    refine ⟨?_, ?_, ?_⟩ <;> (repeat' split) <;> omega
  · simp only [if_neg c, true_and]
    refine ⟨?_, ?_, ?_⟩ <;> (repeat' split) <;> omega
theorem aR_flat {S : Sh} (h : S.Ok) (w : Way) {a d : Int} (a0 : 0 < a) (d0 : 0 < d) :
    (S.last ≤ kF S a d + upI S w a d (kF S a d) ∨ S.rst a d (kF S a d) ≠ 0) ↔ aR S .up a d ≠ aR S .down a d := by
  obtain ⟨w0, w1, w2⟩ := upI_le_up h w (a := a) (k := kF S a d) d0
  have z2 : upI S .down a d (kF S a d) = 0 := upI_down (.inr rfl)
  have z3 : upI S .up a d (kF S a d) = if S.rst a d (kF S a d) = 0 then 0 else 1 := upI_up
  unfold aR tk
  rw [z2]
  have i1 : inward .down 0 = true := rfl
  have i2 : inward .up 0 = false := rfl
  rw [i1, i2]
  simp only [Bool.false_eq_true, if_false, if_true]
  by_cases z : S.rst a d (kF S a d) = 0
  · have e1 := upI_exact h w d0 z
    rw [z3, e1, if_pos z]
    constructor
    · rintro (y | y)
      · rw [if_pos y]; rw [if_pos (by omega)]; omega
      · exact absurd z y
    · intro y
      refine .inl ?_
      by_cases x : S.last ≤ kF S a d + 0
      · exact x
      · rw [if_neg x, if_neg x] at y; exact absurd rfl y
  · rw [z3, if_neg z]
    refine ⟨fun _ => ?_, fun _ => .inr z⟩
    split <;> split <;> omega
theorem other_other (w : Way) : w.other.other = w := by cases w <;> rfl
/-- low, high, each between; towards nought; flags just where they are unlike -/
theorem rR_ways {S : Sh} (h : S.Ok) {n d : Int} (d0 : 0 < d) : (∀ w, rR S .down n d ≤ rR S w n d ∧ rR S w n d ≤ rR S .up n d) ∧ rR S .up n d - rR S .down n d ≤ 1 ∧ rR S .zero n d = (if n > 0 then rR S .down n d else rR S .up n d) ∧
    ∀ w, rM S w n d ≠ 0 ↔ rR S .up n d ≠ rR S .down n d := by
  unfold rR
  by_cases z : n = 0
  · simp only [if_pos z]
    refine ⟨fun w => ⟨by omega, by omega⟩, by omega, by split <;> rfl, fun w => ?_⟩
    unfold rM
    rw [if_pos z]
    exact ⟨fun q => absurd rfl q, fun q => absurd rfl q⟩
  · simp only [if_neg z]
    by_cases y : n < 0
    · simp only [if_pos y]
      have e4 : absI n = -n := by unfold absI; rw [if_pos y]
      have e3 : sgI n = 1 := by unfold sgI; rw [if_pos y]
      have A := fun w => aR_ways h w (a := -n) (d := d) (by omega) d0
      have B := fun w => aR_flat h w (a := -n) (d := d) (by omega) d0
      have o1 : Way.other .up = .down := rfl
      have o2 : Way.other .down = .up := rfl
      have o3 : Way.other .zero = .zero := rfl
      rw [o1, o2, o3]
      refine ⟨fun w => ?_, ?_, ?_, fun w => ?_⟩
      · have := A w.other
        omega
      · have := A .up
        omega
      · rw [if_neg (by omega), (A .up).1]
      · rw [rM_0 z]
        unfold jF
        rw [e4, e3]
        have b := B w.other
        have e5 : sideW w 1 = w.other := rfl
        rw [e5, b]
        omega
    · simp only [if_neg y]
      have e4 : absI n = n := by unfold absI; rw [if_neg y]
      have e3 : sgI n = 0 := by unfold sgI; rw [if_neg y]
      have A := fun w => aR_ways h w (a := n) (d := d) (by omega) d0
      have B := fun w => aR_flat h w (a := n) (d := d) (by omega) d0
      refine ⟨fun w => ?_, ?_, ?_, fun w => ?_⟩
      · have := A w
        omega
      · have := A .up
        omega
      · rw [if_pos (by omega), (A .up).1]
      · rw [rM_0 z]
        unfold jF
        rw [e4, e3]
        exact B w
/-! ### the greater is told no lesser one -/
theorem cross_le {a b c d e : Int} (d0 : 0 < d) (e0 : 0 < e) (h : a * e ≤ b * d) (hc : c * d ≤ a) : c * e ≤ b := by
  have h1 : c * d * e ≤ a * e := Int.mul_le_mul_of_nonneg_right hc (by omega)
  have h2 : c * e * d ≤ b * d := by rw [Int.mul_right_comm]; omega
  exact Int.le_of_mul_le_mul_right h2 d0
theorem cross_lt {a b c d e : Int} (d0 : 0 < d) (e0 : 0 < e) (h : a * e ≤ b * d) (hc : c * d < a) : c * e < b := by
  have h1 : c * d * e < a * e := Int.mul_lt_mul_of_pos_right hc e0
  have h2 : c * e * d < b * d := by rw [Int.mul_right_comm]; omega
  exact Int.lt_of_mul_lt_mul_right h2 (by omega)
theorem aR_mono {S : Sh} (h : S.Ok) (w : Way) {a d b e : Int} (a0 : 0 < a) (d0 : 0 < d) (b0 : 0 < b) (e0 : 0 < e) (hh : a * e ≤ b * d) : aR S w a d ≤ aR S w b e := by
  have f := kF_flr h (n := a) (by omega) d0
  have g := kF_flr h (n := b) (by omega) e0
  have w0 := wt_pos 0
  have hw : a * wt 0 * e ≤ b * wt 0 * d := by
    rw [Int.mul_right_comm, Int.mul_right_comm b]
    exact Int.mul_le_mul_of_nonneg_right hh (by omega)
  unfold aR
  have hj : kF S a d + upI S w a d (kF S a d) ≤ kF S b e + upI S w b e (kF S b e) := by
    have hk : kF S a d ≤ kF S b e := (g.ge h e0 f.k0).mpr (cross_le d0 e0 hw f.le)
    rcases Int.lt_or_eq_of_le hk with lt | eq
    · have := upI_01 S w a d (kF S a d)
      have := upI_01 S w b e (kF S b e)
      omega
    · rw [← eq] at g ⊢
      generalize kF S a d = k at *
      -- rests
      have hr : S.rst a d k * e ≤ S.rst b e k * d := by
        unfold Sh.rst
        rw [Int.sub_mul, Int.sub_mul, Int.mul_right_comm (S.fk k) e d]
        omega
      have gd : S.gap d k = wt (S.lo + S.rise k) * d := rfl
      have ge : S.gap e k = wt (S.lo + S.rise k) * e := rfl
      have r0 := (f.rst h d0).1
      have r0' := (g.rst h e0).1
      have h2 : 2 * S.rst a d k * e ≤ 2 * S.rst b e k * d := by rw [Int.mul_assoc, Int.mul_assoc]; omega
      have hle : S.gap d k ≤ 2 * S.rst a d k → S.gap e k ≤ 2 * S.rst b e k := fun z => by rw [gd] at z; rw [ge]; exact cross_le d0 e0 h2 z
      have hlt : S.gap d k < 2 * S.rst a d k → S.gap e k < 2 * S.rst b e k := fun z => by rw [gd] at z; rw [ge]; exact cross_lt d0 e0 h2 z
      have hz : S.rst a d k ≠ 0 → S.rst b e k ≠ 0 := fun z y => by
        rw [y, Int.zero_mul] at hr
        have := Int.mul_pos (show 0 < S.rst a d k by omega) e0
        omega
      have key : upK S w a d k = true → upK S w b e k = true := by
        unfold upK
        cases w with
        | near =>
          dsimp only
          intro z
          by_cases c : 2 * S.rst b e k = S.gap e k
          · rw [if_pos c]
            by_cases c' : 2 * S.rst a d k = S.gap d k
            · rw [if_pos c'] at z; exact z
            · rw [if_neg c'] at z
              have := hlt (of_decide_eq_true z)
              omega
          · rw [if_neg c]
            have : S.gap d k ≤ 2 * S.rst a d k := by
              by_cases c' : 2 * S.rst a d k = S.gap d k
              · omega
              · rw [if_neg c'] at z; have := of_decide_eq_true z; omega
            have := hle this
            exact decide_eq_true (by omega)
        | away => exact fun z => decide_eq_true (hle (of_decide_eq_true z))
        | zero => exact id
        | up => exact fun z => decide_eq_true (hz (of_decide_eq_true z))
        | down => exact id
      unfold upI
      split
      · rename_i z; rw [if_pos (key z)]; omega
      · split <;> omega
  generalize kF S a d + upI S w a d (kF S a d) = i at *
  generalize kF S b e + upI S w b e (kF S b e) = j at *
  unfold tk
  by_cases c : S.last ≤ i
  · rw [if_pos c, if_pos (show S.last ≤ j by omega)]
    exact Int.le_refl _
  · rw [if_neg c]
    by_cases c' : S.last ≤ j
    · rw [if_pos c']
      split <;> omega
    · rw [if_neg c']
      exact hj
theorem aR_0 {S : Sh} (h : S.Ok) (w : Way) {a d : Int} (a0 : 0 < a) (d0 : 0 < d) : 0 ≤ aR S w a d := by
  have f := kF_flr h (n := a) (by omega) d0
  have := upI_01 S w a d (kF S a d)
  have := f.k0
  have := h.last4
  have := h.fn2
  unfold aR tk
  split
  · split <;> omega
  · omega
theorem rR_mono {S : Sh} (h : S.Ok) (w : Way) {n d k e : Int} (d0 : 0 < d) (e0 : 0 < e) (hh : n * e ≤ k * d) : rR S w n d ≤ rR S w k e := by
  have neg : ∀ {x y : Int}, x < 0 → 0 < y → x * y < 0 := fun a b => Int.mul_neg_of_neg_of_pos a b
  unfold rR
  by_cases n0 : n = 0
  · rw [if_pos n0]
    subst n0
    rw [Int.zero_mul] at hh
    by_cases k0 : k = 0
    · rw [if_pos k0]; omega
    · rw [if_neg k0]
      by_cases k1 : k < 0
      · have := neg k1 d0; omega
      · rw [if_neg k1]; exact aR_0 h w (by omega) e0
  · rw [if_neg n0]
    by_cases n1 : n < 0
    · rw [if_pos n1]
      have A := aR_0 h w.other (a := -n) (d := d) (by omega) d0
      by_cases k0 : k = 0
      · rw [if_pos k0]; omega
      · rw [if_neg k0]
        by_cases k1 : k < 0
        · rw [if_pos k1]
          have := aR_mono h w.other (a := -k) (d := e) (b := -n) (e := d) (by omega) e0 (by omega) d0 (by rw [Int.neg_mul, Int.neg_mul]; omega)
          omega
        · rw [if_neg k1]
          have := aR_0 h w (a := k) (d := e) (by omega) e0
          omega
    · rw [if_neg n1]
      have h1 := Int.mul_pos (show 0 < n by omega) e0
      have k1 : 0 < k := by
        rcases Int.lt_trichotomy k 0 with z | z | z
        · have := neg z d0; omega
        · subst z; rw [Int.zero_mul] at hh; omega
        · exact z
      rw [if_neg (by omega), if_neg (by omega)]
      exact aR_mono h w (by omega) d0 k1 e0 hh
/-! ### the other side -/
theorem told_other {S : Sh} (w : Way) (j : Int) : S.told w.other 1 j = { S.told w 0 j with s := 1 } := by
  unfold Sh.told
  have e : inward w.other 1 = inward w 0 := by rw [inw_s, other_other]
  rw [e]
  split
  · split <;> rfl
  · rfl
theorem rN_other {S : Sh} (w : Way) {a d : Int} (a0 : 0 ≤ a) : rN S w.other (0 - a) d 1 = { rN S w a d 0 with s := 1 } ∧ rM S w.other (0 - a) d = rM S w a d := by
  by_cases z : a = 0
  · subst z
    unfold rN rM
    rw [if_pos (by omega), if_pos rfl, if_pos (by omega), if_pos rfl]
    exact ⟨rfl, rfl⟩
  · have e1 : absI (0 - a) = a := by unfold absI; split <;> omega
    have e2 : absI a = a := by unfold absI; rw [if_neg (by omega)]
    have e3 : sgI (0 - a) = 1 := by unfold sgI; rw [if_pos (by omega)]
    have e4 : sgI a = 0 := by unfold sgI; rw [if_neg (by omega)]
    have e5 : jF S w.other (0 - a) d = jF S w a d := by
      unfold jF
      rw [e1, e2, e3, e4]
      have : sideW w.other 1 = sideW w 0 := other_other w
      rw [this]
    unfold rN rM
    rw [if_neg (by omega), if_neg z, if_neg (by omega), if_neg z, e5, e1, e2, e3, e4]
    exact ⟨told_other w _, rfl⟩
/-- a number's own value -/
theorem rN_self (w : Way) {n : Nm} (h : n.Ok) (h0 : n.st = 0) {A B : Int} (B0 : 0 < B) (e : A * wt 0 = n.sc * B) : rN n.S w A B n.s = n ∧ rM n.S w A B = 0 := by
  obtain ⟨c1, c2, c3⟩ := rN_rep h.sh w B0 e (rep_nm h h0)
  refine ⟨?_, c3⟩
  obtain ⟨_, e0, es⟩ := abs_scale B0 e
  have scz : n.sc = 0 ↔ n.stp = 0 := by
    rw [← h.mw0]
    rcases Nm.sc_of h with ⟨_, c⟩ | ⟨_, c⟩ <;> rw [c] <;> omega
  by_cases z : A = 0
  · have : n.stp = 0 := scz.mp (e0.mp z)
    have hr : n.rank = 0 := by rcases Nm.rank_of h h0 with ⟨_, c⟩ | ⟨_, c⟩ <;> omega
    have := rank_zero h (by omega) hr
    unfold rN
    rw [if_pos z]
    exact this.symm
  · have hn : rN n.S w A B n.s = rN n.S w A B 0 := by unfold rN; rw [if_neg z, if_neg z]
    rw [hn]
    have o := rN_Ok h.sh w (n := A) (d := B) (s := 0) (.inl rfl) B0
    have hS : (rN n.S w A B 0).S = n.S := rN_S w
    have hs : (rN n.S w A B 0).s = n.s := by
      rw [rN_s, if_neg z, es]
      unfold sgI
      have mw := h.mw
      have : n.sc ≠ 0 := fun y => z (e0.mpr y)
      rcases Nm.sc_of h with ⟨s, c⟩ | ⟨s, c⟩
      · rw [s, if_pos (by omega)]
      · rw [s, if_neg (by omega)]
    have hr : (rN n.S w A B 0).rank = n.rank := by
      have := sc_rank o h hS c1 h0
      rw [c2] at this
      have e3 : sgn n.sc n.sc = 0 := by unfold sgn; rw [if_pos rfl]
      rw [e3] at this
      unfold sgn at this
      split at this
      · assumption
      · split at this <;> omega
    have hst : (rN n.S w A B 0).steps = n.steps := by
      unfold Nm.rank at hr
      rw [hs] at hr
      split at hr <;> omega
    have b1 := o.back (by omega)
    have b2 := h.back (by omega)
    rw [hS, hst, hs] at b1
    rw [← b1, b2]
end Dw

set_option Elab.async false
set_option linter.all false
set_option maxRecDepth 100000
/-! a whole number times a power of two as a fraction in lowest terms; half ways between numbers -/
namespace Dw
open PySem
theorem tz_of {v : Nat} {j : Int} : tz (2 ^ v * (2 * j + 1)) = v := by
  have key : ∀ (a b : Nat) (i j : Int), (2 : Int) ^ a * (2 * i + 1) = 2 ^ b * (2 * j + 1) → a = b := by
    intro a
    induction a with
    | zero =>
      intro b i j h
      cases b with
      | zero => rfl
      | succ b =>
        rw [Int.pow_zero, Int.one_mul, Int.pow_succ, Int.mul_comm (2 ^ b), Int.mul_assoc] at h
        omega
    | succ a ih =>
      intro b i j h
      cases b with
      | zero =>
        rw [Int.pow_zero, Int.one_mul, Int.pow_succ, Int.mul_comm (2 ^ a), Int.mul_assoc] at h
        omega
      | succ b =>
        rw [Int.pow_succ, Int.mul_comm (2 ^ a), Int.mul_assoc, Int.pow_succ, Int.mul_comm (2 ^ b), Int.mul_assoc] at h
        rw [ih b i j (by omega)]
  have h0 : (2 : Int) ^ v * (2 * j + 1) ≠ 0 := by
    intro h
    rcases Int.mul_eq_zero.mp h with z | z
    · have := ip_pos v; omega
    · omega
  obtain ⟨i, hi⟩ := tz_spec h0
  exact (key _ _ _ _ hi).symm
theorem tz_double {x : Int} (h : x ≠ 0) : tz (2 * x) = tz x + 1 := by
  obtain ⟨j, hj⟩ := tz_spec h
  have e : 2 * x = 2 ^ (tz x + 1) * (2 * j + 1) := by
    rw [ip_succ, Int.mul_assoc, ← hj]
  rw [e, tz_of]
/-- n * 2 ^ e: numerator, denominator -/
def twN (n e : Int) : Int := if 0 ≤ e then n * 2 ^ e.toNat else if n = 0 then 0 else n / 2 ^ min (tz n) (-e).toNat
def twD (n e : Int) : Int := if 0 ≤ e then 1 else if n = 0 then 1 else 2 ^ ((-e).toNat - min (tz n) (-e).toNat)
theorem tw_double (x e : Int) : twN (2 * x) (e - 1) = twN x e ∧ twD (2 * x) (e - 1) = twD x e := by
  unfold twN twD
  by_cases h0 : 0 ≤ e
  · rw [if_pos h0, if_pos h0]
    by_cases h1 : 0 ≤ e - 1
    · rw [if_pos h1, if_pos h1]
      refine ⟨?_, rfl⟩
      rw [show e.toNat = (e - 1).toNat + 1 by omega, ip_succ]
      rw [Int.mul_comm 2 x, Int.mul_assoc]
    · have e0 : e = 0 := by omega
      subst e0
      rw [if_neg h1, if_neg h1]
      by_cases hx : x = 0
      · subst hx
        exact ⟨rfl, rfl⟩
      · rw [if_neg (by omega), if_neg (by omega), tz_double hx]
        rw [show (-((0 : Int) - 1)).toNat = 1 from rfl, show min (tz x + 1) 1 = 1 by omega]
        refine ⟨?_, rfl⟩
        show 2 * x / 2 ^ 1 = x * 2 ^ (0 : Nat)
        rw [Int.pow_one, Int.pow_zero, Int.mul_one]
        omega
  · have h1 : ¬ 0 ≤ e - 1 := by omega
    rw [if_neg h0, if_neg h0, if_neg h1, if_neg h1]
    by_cases hx : x = 0
    · subst hx
      exact ⟨rfl, rfl⟩
    · have h2 : ¬ 2 * x = 0 := by omega
      rw [if_neg h2, if_neg hx, if_neg h2, if_neg hx, tz_double hx]
      have hm : min (tz x + 1) (-(e - 1)).toNat = min (tz x) (-e).toNat + 1 := by omega
      rw [hm, show (-(e - 1)).toNat - (min (tz x) (-e).toNat + 1) = (-e).toNat - min (tz x) (-e).toNat by omega]
      refine ⟨?_, rfl⟩
      rw [ip_succ, Int.mul_ediv_mul_of_pos _ _ (by decide)]
theorem twD_pos (n e : Int) : 0 < twD n e := by
  unfold twD
  split
  · decide
  · split
    · decide
    · exact ip_pos _
/-- its value -/
theorem tw_val (n e : Int) : twN n e * 2 ^ (-e).toNat = n * 2 ^ e.toNat * twD n e := by
  unfold twN twD
  by_cases h0 : 0 ≤ e
  · rw [if_pos h0, if_pos h0, show (-e).toNat = 0 by omega]
    rw [Int.pow_zero]
  · rw [if_neg h0, if_neg h0, show e.toNat = 0 by omega]
    by_cases hx : n = 0
    · subst hx
      rw [if_pos rfl, if_pos rfl]
      omega
    · rw [if_neg hx, if_neg hx, Int.pow_zero, Int.mul_one]
      obtain ⟨y, hy⟩ := tz_dvd hx (show min (tz n) (-e).toNat ≤ tz n by omega)
      have e1 : n / 2 ^ min (tz n) (-e).toNat = y := by
        have p := ip_pos (min (tz n) (-e).toNat)
        generalize (2 : Int) ^ min (tz n) (-e).toNat = d at p hy
        rw [hy]
        exact Int.mul_ediv_cancel_left _ (by omega)
      rw [e1]
      have e2 : (2 : Int) ^ (-e).toNat = 2 ^ min (tz n) (-e).toNat * 2 ^ ((-e).toNat - min (tz n) (-e).toNat) := by
        rw [← Int.pow_add]
        congr 1
        omega
      rw [e2, ← Int.mul_assoc, Int.mul_comm y, ← hy]
theorem tw_size {n e : Int} {k j : Nat} (hn : n.natAbs < 2 ^ k) (h : e.toNat ≤ j) : (twN n e).natAbs < 2 ^ (k + j) := by
  have hk : (2 : Nat) ^ k ≤ 2 ^ (k + j) := Nat.pow_le_pow_right (by decide) (by omega)
  unfold twN
  split
  · rw [Int.natAbs_mul, Int.natAbs_pow, Nat.pow_add]
    exact Nat.lt_of_lt_of_le ((Nat.mul_lt_mul_right (Nat.pow_pos (by decide))).mpr hn) (Nat.mul_le_mul_left _ (Nat.pow_le_pow_right (by decide) h))
  · split
    · exact Nat.pow_pos (by decide)
    · have : (n / 2 ^ min (tz n) (-e).toNat).natAbs ≤ n.natAbs := by
        have p := ip_pos (min (tz n) (-e).toNat)
        generalize (2 : Int) ^ min (tz n) (-e).toNat = d at p
        exact Int.natAbs_ediv_le_natAbs n d
      omega
theorem twD_size {n e : Int} {j : Nat} (h : (-e).toNat ≤ j) : (twD n e).natAbs ≤ 2 ^ j := by
  unfold twD
  split
  · exact Nat.pow_pos (by decide)
  · split
    · exact Nat.pow_pos (by decide)
    · rw [Int.natAbs_pow]
      exact Nat.pow_le_pow_right (by decide) (by omega)
/-! ### half ways -/
/-- four times the half way down and up, in places of e - 2 -/
def loQ (n : Nm) : Int := if n.m = 0 then 0 else if n.m = n.S.fn ∧ n.S.lo < n.e then 4 * n.m - 1 else 4 * n.m - 2
def hiQ (n : Nm) : Int := 4 * n.m + 2
/-- the next one's lesser half way is this one's greater one -/
theorem up_parts {n : Nm} (h : n.Ok) (h0 : n.st = 0) (hs : n.s = 0) : movedN n 1 = if n.m + 1 = 2 * n.S.fn ∧ n.e = n.S.hi then n.S.inf 0 else ⟨n.S, 0, if n.m + 1 = 2 * n.S.fn then n.S.fn else n.m + 1, if n.m + 1 = 2 * n.S.fn then n.e + 1 else n.e, 0⟩ := by
  have hr : n.rank = n.stp := by rcases Nm.rank_of h h0 with ⟨a, _⟩ | ⟨_, b⟩ <;> omega
  have s0 := h.stp0
  have sL := h.stpL
  have f2 := h.sh.fn2
  have es : n.stp = n.m + (n.e - n.S.lo) * n.S.fn := rfl
  have m1 := h.m1
  have m0 := h.m0
  have e0 := h.e0
  have e1 := h.e1
  have lp := h.sh.lastParts.1
  unfold movedN
  rw [if_neg (by omega), hr, if_neg (by unfold absI; split <;> omega), if_neg (by omega)]
  unfold rankN
  rw [show absI (n.stp + 1) = n.stp + 1 by unfold absI; rw [if_neg (by omega)], if_neg (by omega)]
  unfold Sh.ofSteps
  by_cases c : n.m + 1 = 2 * n.S.fn
  · by_cases c2 : n.e = n.S.hi
    · have : n.stp + 1 = n.S.last := by
        rw [es, lp, c2]
        have : (n.S.hi - n.S.lo + 1) * n.S.fn = (n.S.hi - n.S.lo) * n.S.fn + n.S.fn := by rw [Int.add_mul, Int.one_mul]
        omega
      rw [if_pos this, if_pos ⟨c, c2⟩]
    · have e3 : n.stp + 1 = n.S.fn + (n.e - n.S.lo + 1) * n.S.fn := by rw [es, Int.add_mul, Int.one_mul]; omega
      have e4 : n.S.rise (n.stp + 1) = n.e - n.S.lo + 1 := h.sh.rise_eq e3 (by omega) (by omega) (by omega) fun _ => Int.le_refl _
      have ne : ¬ n.stp + 1 = n.S.last := by
        rw [e3, lp]
        intro z
        have : (n.e - n.S.lo + 1) * n.S.fn ≤ (n.S.hi - n.S.lo) * n.S.fn := mul_le_r (by omega) (by omega)
        have : (n.S.hi - n.S.lo + 1) * n.S.fn = (n.S.hi - n.S.lo) * n.S.fn + n.S.fn := by rw [Int.add_mul, Int.one_mul]
        omega
      rw [if_neg ne, if_neg (fun z => c2 z.2), if_pos c, if_pos c, e4, e3]
      congr 1 <;> omega
  · have e3 : n.stp + 1 = (n.m + 1) + (n.e - n.S.lo) * n.S.fn := by rw [es]; omega
    have e4 : n.S.rise (n.stp + 1) = n.e - n.S.lo := h.sh.rise_eq e3 (by omega) (by omega) (by omega) fun z => by have := h.nrm (by omega); omega
    have ne : ¬ n.stp + 1 = n.S.last := by
      rw [e3, lp]
      intro z
      have : (n.e - n.S.lo) * n.S.fn ≤ (n.S.hi - n.S.lo) * n.S.fn := mul_le_r (by omega) (by omega)
      have : (n.S.hi - n.S.lo + 1) * n.S.fn = (n.S.hi - n.S.lo) * n.S.fn + n.S.fn := by rw [Int.add_mul, Int.one_mul]
      omega
    rw [if_neg ne, if_neg (fun z => c z.1), if_neg c, if_neg c, e4, e3]
    congr 1 <;> omega
theorem up_lo {n : Nm} (h : n.Ok) (h0 : n.st = 0) (hs : n.s = 0) (hf : ¬(n.m + 1 = 2 * n.S.fn ∧ n.e = n.S.hi)) :
    twN (loQ (movedN n 1)) ((movedN n 1).e - 2) = twN (hiQ n) (n.e - 2) ∧ twD (loQ (movedN n 1)) ((movedN n 1).e - 2) = twD (hiQ n) (n.e - 2) := by
  have f2 := h.sh.fn2
  have m0 := h.m0
  have e0 := h.e0
  rw [up_parts h h0 hs, if_neg hf]
  unfold loQ hiQ
  dsimp only
  by_cases c : n.m + 1 = 2 * n.S.fn
  · rw [if_pos c, if_pos c, if_neg (by omega), if_pos ⟨rfl, by omega⟩]
    have := tw_double (4 * n.S.fn - 1) (n.e - 1)
    rw [show n.e - 1 - 1 = n.e - 2 by omega, show 2 * (4 * n.S.fn - 1) = 4 * n.m + 2 by omega] at this
    rw [show n.e + 1 - 2 = n.e - 1 by omega]
    exact ⟨this.1.symm, this.2.symm⟩
  · rw [if_neg c, if_neg c, if_neg (by omega), if_neg (fun z => by have := h.nrm z.2; omega), show 4 * (n.m + 1) - 2 = 4 * n.m + 2 by omega]
    exact ⟨rfl, rfl⟩
end Dw

set_option Elab.async false
set_option linter.all false
namespace L3
open PySem
theorem s_nearest_away : (("nearest" : Str) = ("away" : Str)) = False := eq_false (by decide +kernel)
theorem s_nearest_zero : (("nearest" : Str) = ("zero" : Str)) = False := eq_false (by decide +kernel)
theorem s_nearest_up : (("nearest" : Str) = ("up" : Str)) = False := eq_false (by decide +kernel)
theorem s_nearest_down : (("nearest" : Str) = ("down" : Str)) = False := eq_false (by decide +kernel)
theorem s_nearest_subnormal : (("nearest" : Str) = ("subnormal" : Str)) = False := eq_false (by decide +kernel)
theorem s_nearest_normal : (("nearest" : Str) = ("normal" : Str)) = False := eq_false (by decide +kernel)
theorem s_nearest_infinite : (("nearest" : Str) = ("infinite" : Str)) = False := eq_false (by decide +kernel)
theorem s_nearest_nan : (("nearest" : Str) = ("nan" : Str)) = False := eq_false (by decide +kernel)
theorem s_nearest_finite : (("nearest" : Str) = ("finite" : Str)) = False := eq_false (by decide +kernel)
theorem s_nearest_inexact : (("nearest" : Str) = ("inexact" : Str)) = False := eq_false (by decide +kernel)
theorem s_nearest_underflow : (("nearest" : Str) = ("underflow" : Str)) = False := eq_false (by decide +kernel)
theorem s_nearest_overflow : (("nearest" : Str) = ("overflow" : Str)) = False := eq_false (by decide +kernel)
theorem s_nearest_toward : (("nearest" : Str) = ("toward" : Str)) = False := eq_false (by decide +kernel)
theorem s_nearest_outward : (("nearest" : Str) = ("outward" : Str)) = False := eq_false (by decide +kernel)
theorem s_away_nearest : (("away" : Str) = ("nearest" : Str)) = False := eq_false (by decide +kernel)
theorem s_away_zero : (("away" : Str) = ("zero" : Str)) = False := eq_false (by decide +kernel)
theorem s_away_up : (("away" : Str) = ("up" : Str)) = False := eq_false (by decide +kernel)
theorem s_away_down : (("away" : Str) = ("down" : Str)) = False := eq_false (by decide +kernel)
theorem s_away_subnormal : (("away" : Str) = ("subnormal" : Str)) = False := eq_false (by decide +kernel)
theorem s_away_normal : (("away" : Str) = ("normal" : Str)) = False := eq_false (by decide +kernel)
theorem s_away_infinite : (("away" : Str) = ("infinite" : Str)) = False := eq_false (by decide +kernel)
theorem s_away_nan : (("away" : Str) = ("nan" : Str)) = False := eq_false (by decide +kernel)
theorem s_away_finite : (("away" : Str) = ("finite" : Str)) = False := eq_false (by decide +kernel)
theorem s_away_inexact : (("away" : Str) = ("inexact" : Str)) = False := eq_false (by decide +kernel)
theorem s_away_underflow : (("away" : Str) = ("underflow" : Str)) = False := eq_false (by decide +kernel)
theorem s_away_overflow : (("away" : Str) = ("overflow" : Str)) = False := eq_false (by decide +kernel)
theorem s_away_toward : (("away" : Str) = ("toward" : Str)) = False := eq_false (by decide +kernel)
theorem s_away_outward : (("away" : Str) = ("outward" : Str)) = False := eq_false (by decide +kernel)
theorem s_zero_nearest : (("zero" : Str) = ("nearest" : Str)) = False := eq_false (by decide +kernel)
theorem s_zero_away : (("zero" : Str) = ("away" : Str)) = False := eq_false (by decide +kernel)
theorem s_zero_up : (("zero" : Str) = ("up" : Str)) = False := eq_false (by decide +kernel)
theorem s_zero_down : (("zero" : Str) = ("down" : Str)) = False := eq_false (by decide +kernel)
theorem s_zero_subnormal : (("zero" : Str) = ("subnormal" : Str)) = False := eq_false (by decide +kernel)
theorem s_zero_normal : (("zero" : Str) = ("normal" : Str)) = False := eq_false (by decide +kernel)
theorem s_zero_infinite : (("zero" : Str) = ("infinite" : Str)) = False := eq_false (by decide +kernel)
theorem s_zero_nan : (("zero" : Str) = ("nan" : Str)) = False := eq_false (by decide +kernel)
theorem s_zero_finite : (("zero" : Str) = ("finite" : Str)) = False := eq_false (by decide +kernel)
theorem s_zero_inexact : (("zero" : Str) = ("inexact" : Str)) = False := eq_false (by decide +kernel)
theorem s_zero_underflow : (("zero" : Str) = ("underflow" : Str)) = False := eq_false (by decide +kernel)
theorem s_zero_overflow : (("zero" : Str) = ("overflow" : Str)) = False := eq_false (by decide +kernel)
theorem s_zero_toward : (("zero" : Str) = ("toward" : Str)) = False := eq_false (by decide +kernel)
theorem s_zero_outward : (("zero" : Str) = ("outward" : Str)) = False := eq_false (by decide +kernel)
theorem s_up_nearest : (("up" : Str) = ("nearest" : Str)) = False := eq_false (by decide +kernel)
theorem s_up_away : (("up" : Str) = ("away" : Str)) = False := eq_false (by decide +kernel)
theorem s_up_zero : (("up" : Str) = ("zero" : Str)) = False := eq_false (by decide +kernel)
theorem s_up_down : (("up" : Str) = ("down" : Str)) = False := eq_false (by decide +kernel)
theorem s_up_subnormal : (("up" : Str) = ("subnormal" : Str)) = False := eq_false (by decide +kernel)
theorem s_up_normal : (("up" : Str) = ("normal" : Str)) = False := eq_false (by decide +kernel)
theorem s_up_infinite : (("up" : Str) = ("infinite" : Str)) = False := eq_false (by decide +kernel)
theorem s_up_nan : (("up" : Str) = ("nan" : Str)) = False := eq_false (by decide +kernel)
theorem s_up_finite : (("up" : Str) = ("finite" : Str)) = False := eq_false (by decide +kernel)
theorem s_up_inexact : (("up" : Str) = ("inexact" : Str)) = False := eq_false (by decide +kernel)
theorem s_up_underflow : (("up" : Str) = ("underflow" : Str)) = False := eq_false (by decide +kernel)
theorem s_up_overflow : (("up" : Str) = ("overflow" : Str)) = False := eq_false (by decide +kernel)
theorem s_up_toward : (("up" : Str) = ("toward" : Str)) = False := eq_false (by decide +kernel)
theorem s_up_outward : (("up" : Str) = ("outward" : Str)) = False := eq_false (by decide +kernel)
theorem s_down_nearest : (("down" : Str) = ("nearest" : Str)) = False := eq_false (by decide +kernel)
theorem s_down_away : (("down" : Str) = ("away" : Str)) = False := eq_false (by decide +kernel)
theorem s_down_zero : (("down" : Str) = ("zero" : Str)) = False := eq_false (by decide +kernel)
theorem s_down_up : (("down" : Str) = ("up" : Str)) = False := eq_false (by decide +kernel)
theorem s_down_subnormal : (("down" : Str) = ("subnormal" : Str)) = False := eq_false (by decide +kernel)
theorem s_down_normal : (("down" : Str) = ("normal" : Str)) = False := eq_false (by decide +kernel)
theorem s_down_infinite : (("down" : Str) = ("infinite" : Str)) = False := eq_false (by decide +kernel)
theorem s_down_nan : (("down" : Str) = ("nan" : Str)) = False := eq_false (by decide +kernel)
theorem s_down_finite : (("down" : Str) = ("finite" : Str)) = False := eq_false (by decide +kernel)
theorem s_down_inexact : (("down" : Str) = ("inexact" : Str)) = False := eq_false (by decide +kernel)
theorem s_down_underflow : (("down" : Str) = ("underflow" : Str)) = False := eq_false (by decide +kernel)
theorem s_down_overflow : (("down" : Str) = ("overflow" : Str)) = False := eq_false (by decide +kernel)
theorem s_down_toward : (("down" : Str) = ("toward" : Str)) = False := eq_false (by decide +kernel)
theorem s_down_outward : (("down" : Str) = ("outward" : Str)) = False := eq_false (by decide +kernel)
theorem s_subnormal_nearest : (("subnormal" : Str) = ("nearest" : Str)) = False := eq_false (by decide +kernel)
theorem s_subnormal_away : (("subnormal" : Str) = ("away" : Str)) = False := eq_false (by decide +kernel)
theorem s_subnormal_zero : (("subnormal" : Str) = ("zero" : Str)) = False := eq_false (by decide +kernel)
theorem s_subnormal_up : (("subnormal" : Str) = ("up" : Str)) = False := eq_false (by decide +kernel)
theorem s_subnormal_down : (("subnormal" : Str) = ("down" : Str)) = False := eq_false (by decide +kernel)
theorem s_subnormal_normal : (("subnormal" : Str) = ("normal" : Str)) = False := eq_false (by decide +kernel)
theorem s_subnormal_infinite : (("subnormal" : Str) = ("infinite" : Str)) = False := eq_false (by decide +kernel)
theorem s_subnormal_nan : (("subnormal" : Str) = ("nan" : Str)) = False := eq_false (by decide +kernel)
theorem s_subnormal_finite : (("subnormal" : Str) = ("finite" : Str)) = False := eq_false (by decide +kernel)
theorem s_subnormal_inexact : (("subnormal" : Str) = ("inexact" : Str)) = False := eq_false (by decide +kernel)
theorem s_subnormal_underflow : (("subnormal" : Str) = ("underflow" : Str)) = False := eq_false (by decide +kernel)
theorem s_subnormal_overflow : (("subnormal" : Str) = ("overflow" : Str)) = False := eq_false (by decide +kernel)
theorem s_subnormal_toward : (("subnormal" : Str) = ("toward" : Str)) = False := eq_false (by decide +kernel)
theorem s_subnormal_outward : (("subnormal" : Str) = ("outward" : Str)) = False := eq_false (by decide +kernel)
theorem s_normal_nearest : (("normal" : Str) = ("nearest" : Str)) = False := eq_false (by decide +kernel)
theorem s_normal_away : (("normal" : Str) = ("away" : Str)) = False := eq_false (by decide +kernel)
theorem s_normal_zero : (("normal" : Str) = ("zero" : Str)) = False := eq_false (by decide +kernel)
theorem s_normal_up : (("normal" : Str) = ("up" : Str)) = False := eq_false (by decide +kernel)
theorem s_normal_down : (("normal" : Str) = ("down" : Str)) = False := eq_false (by decide +kernel)
theorem s_normal_subnormal : (("normal" : Str) = ("subnormal" : Str)) = False := eq_false (by decide +kernel)
theorem s_normal_infinite : (("normal" : Str) = ("infinite" : Str)) = False := eq_false (by decide +kernel)
theorem s_normal_nan : (("normal" : Str) = ("nan" : Str)) = False := eq_false (by decide +kernel)
theorem s_normal_finite : (("normal" : Str) = ("finite" : Str)) = False := eq_false (by decide +kernel)
theorem s_normal_inexact : (("normal" : Str) = ("inexact" : Str)) = False := eq_false (by decide +kernel)
theorem s_normal_underflow : (("normal" : Str) = ("underflow" : Str)) = False := eq_false (by decide +kernel)
theorem s_normal_overflow : (("normal" : Str) = ("overflow" : Str)) = False := eq_false (by decide +kernel)
theorem s_normal_toward : (("normal" : Str) = ("toward" : Str)) = False := eq_false (by decide +kernel)
theorem s_normal_outward : (("normal" : Str) = ("outward" : Str)) = False := eq_false (by decide +kernel)
theorem s_infinite_nearest : (("infinite" : Str) = ("nearest" : Str)) = False := eq_false (by decide +kernel)
theorem s_infinite_away : (("infinite" : Str) = ("away" : Str)) = False := eq_false (by decide +kernel)
theorem s_infinite_zero : (("infinite" : Str) = ("zero" : Str)) = False := eq_false (by decide +kernel)
theorem s_infinite_up : (("infinite" : Str) = ("up" : Str)) = False := eq_false (by decide +kernel)
theorem s_infinite_down : (("infinite" : Str) = ("down" : Str)) = False := eq_false (by decide +kernel)
theorem s_infinite_subnormal : (("infinite" : Str) = ("subnormal" : Str)) = False := eq_false (by decide +kernel)
theorem s_infinite_normal : (("infinite" : Str) = ("normal" : Str)) = False := eq_false (by decide +kernel)
theorem s_infinite_nan : (("infinite" : Str) = ("nan" : Str)) = False := eq_false (by decide +kernel)
theorem s_infinite_finite : (("infinite" : Str) = ("finite" : Str)) = False := eq_false (by decide +kernel)
theorem s_infinite_inexact : (("infinite" : Str) = ("inexact" : Str)) = False := eq_false (by decide +kernel)
theorem s_infinite_underflow : (("infinite" : Str) = ("underflow" : Str)) = False := eq_false (by decide +kernel)
theorem s_infinite_overflow : (("infinite" : Str) = ("overflow" : Str)) = False := eq_false (by decide +kernel)
theorem s_infinite_toward : (("infinite" : Str) = ("toward" : Str)) = False := eq_false (by decide +kernel)
theorem s_infinite_outward : (("infinite" : Str) = ("outward" : Str)) = False := eq_false (by decide +kernel)
theorem s_nan_nearest : (("nan" : Str) = ("nearest" : Str)) = False := eq_false (by decide +kernel)
theorem s_nan_away : (("nan" : Str) = ("away" : Str)) = False := eq_false (by decide +kernel)
theorem s_nan_zero : (("nan" : Str) = ("zero" : Str)) = False := eq_false (by decide +kernel)
theorem s_nan_up : (("nan" : Str) = ("up" : Str)) = False := eq_false (by decide +kernel)
theorem s_nan_down : (("nan" : Str) = ("down" : Str)) = False := eq_false (by decide +kernel)
theorem s_nan_subnormal : (("nan" : Str) = ("subnormal" : Str)) = False := eq_false (by decide +kernel)
theorem s_nan_normal : (("nan" : Str) = ("normal" : Str)) = False := eq_false (by decide +kernel)
theorem s_nan_infinite : (("nan" : Str) = ("infinite" : Str)) = False := eq_false (by decide +kernel)
theorem s_nan_finite : (("nan" : Str) = ("finite" : Str)) = False := eq_false (by decide +kernel)
theorem s_nan_inexact : (("nan" : Str) = ("inexact" : Str)) = False := eq_false (by decide +kernel)
theorem s_nan_underflow : (("nan" : Str) = ("underflow" : Str)) = False := eq_false (by decide +kernel)
theorem s_nan_overflow : (("nan" : Str) = ("overflow" : Str)) = False := eq_false (by decide +kernel)
theorem s_nan_toward : (("nan" : Str) = ("toward" : Str)) = False := eq_false (by decide +kernel)
theorem s_nan_outward : (("nan" : Str) = ("outward" : Str)) = False := eq_false (by decide +kernel)
theorem s_finite_nearest : (("finite" : Str) = ("nearest" : Str)) = False := eq_false (by decide +kernel)
theorem s_finite_away : (("finite" : Str) = ("away" : Str)) = False := eq_false (by decide +kernel)
theorem s_finite_zero : (("finite" : Str) = ("zero" : Str)) = False := eq_false (by decide +kernel)
theorem s_finite_up : (("finite" : Str) = ("up" : Str)) = False := eq_false (by decide +kernel)
theorem s_finite_down : (("finite" : Str) = ("down" : Str)) = False := eq_false (by decide +kernel)
theorem s_finite_subnormal : (("finite" : Str) = ("subnormal" : Str)) = False := eq_false (by decide +kernel)
theorem s_finite_normal : (("finite" : Str) = ("normal" : Str)) = False := eq_false (by decide +kernel)
theorem s_finite_infinite : (("finite" : Str) = ("infinite" : Str)) = False := eq_false (by decide +kernel)
theorem s_finite_nan : (("finite" : Str) = ("nan" : Str)) = False := eq_false (by decide +kernel)
theorem s_finite_inexact : (("finite" : Str) = ("inexact" : Str)) = False := eq_false (by decide +kernel)
theorem s_finite_underflow : (("finite" : Str) = ("underflow" : Str)) = False := eq_false (by decide +kernel)
theorem s_finite_overflow : (("finite" : Str) = ("overflow" : Str)) = False := eq_false (by decide +kernel)
theorem s_finite_toward : (("finite" : Str) = ("toward" : Str)) = False := eq_false (by decide +kernel)
theorem s_finite_outward : (("finite" : Str) = ("outward" : Str)) = False := eq_false (by decide +kernel)
theorem s_inexact_nearest : (("inexact" : Str) = ("nearest" : Str)) = False := eq_false (by decide +kernel)
theorem s_inexact_away : (("inexact" : Str) = ("away" : Str)) = False := eq_false (by decide +kernel)
theorem s_inexact_zero : (("inexact" : Str) = ("zero" : Str)) = False := eq_false (by decide +kernel)
theorem s_inexact_up : (("inexact" : Str) = ("up" : Str)) = False := eq_false (by decide +kernel)
theorem s_inexact_down : (("inexact" : Str) = ("down" : Str)) = False := eq_false (by decide +kernel)
theorem s_inexact_subnormal : (("inexact" : Str) = ("subnormal" : Str)) = False := eq_false (by decide +kernel)
theorem s_inexact_normal : (("inexact" : Str) = ("normal" : Str)) = False := eq_false (by decide +kernel)
theorem s_inexact_infinite : (("inexact" : Str) = ("infinite" : Str)) = False := eq_false (by decide +kernel)
theorem s_inexact_nan : (("inexact" : Str) = ("nan" : Str)) = False := eq_false (by decide +kernel)
theorem s_inexact_finite : (("inexact" : Str) = ("finite" : Str)) = False := eq_false (by decide +kernel)
theorem s_inexact_underflow : (("inexact" : Str) = ("underflow" : Str)) = False := eq_false (by decide +kernel)
theorem s_inexact_overflow : (("inexact" : Str) = ("overflow" : Str)) = False := eq_false (by decide +kernel)
theorem s_inexact_toward : (("inexact" : Str) = ("toward" : Str)) = False := eq_false (by decide +kernel)
theorem s_inexact_outward : (("inexact" : Str) = ("outward" : Str)) = False := eq_false (by decide +kernel)
theorem s_underflow_nearest : (("underflow" : Str) = ("nearest" : Str)) = False := eq_false (by decide +kernel)
theorem s_underflow_away : (("underflow" : Str) = ("away" : Str)) = False := eq_false (by decide +kernel)
theorem s_underflow_zero : (("underflow" : Str) = ("zero" : Str)) = False := eq_false (by decide +kernel)
theorem s_underflow_up : (("underflow" : Str) = ("up" : Str)) = False := eq_false (by decide +kernel)
theorem s_underflow_down : (("underflow" : Str) = ("down" : Str)) = False := eq_false (by decide +kernel)
theorem s_underflow_subnormal : (("underflow" : Str) = ("subnormal" : Str)) = False := eq_false (by decide +kernel)
theorem s_underflow_normal : (("underflow" : Str) = ("normal" : Str)) = False := eq_false (by decide +kernel)
theorem s_underflow_infinite : (("underflow" : Str) = ("infinite" : Str)) = False := eq_false (by decide +kernel)
theorem s_underflow_nan : (("underflow" : Str) = ("nan" : Str)) = False := eq_false (by decide +kernel)
theorem s_underflow_finite : (("underflow" : Str) = ("finite" : Str)) = False := eq_false (by decide +kernel)
theorem s_underflow_inexact : (("underflow" : Str) = ("inexact" : Str)) = False := eq_false (by decide +kernel)
theorem s_underflow_overflow : (("underflow" : Str) = ("overflow" : Str)) = False := eq_false (by decide +kernel)
theorem s_underflow_toward : (("underflow" : Str) = ("toward" : Str)) = False := eq_false (by decide +kernel)
theorem s_underflow_outward : (("underflow" : Str) = ("outward" : Str)) = False := eq_false (by decide +kernel)
theorem s_overflow_nearest : (("overflow" : Str) = ("nearest" : Str)) = False := eq_false (by decide +kernel)
theorem s_overflow_away : (("overflow" : Str) = ("away" : Str)) = False := eq_false (by decide +kernel)
theorem s_overflow_zero : (("overflow" : Str) = ("zero" : Str)) = False := eq_false (by decide +kernel)
theorem s_overflow_up : (("overflow" : Str) = ("up" : Str)) = False := eq_false (by decide +kernel)
theorem s_overflow_down : (("overflow" : Str) = ("down" : Str)) = False := eq_false (by decide +kernel)
theorem s_overflow_subnormal : (("overflow" : Str) = ("subnormal" : Str)) = False := eq_false (by decide +kernel)
theorem s_overflow_normal : (("overflow" : Str) = ("normal" : Str)) = False := eq_false (by decide +kernel)
theorem s_overflow_infinite : (("overflow" : Str) = ("infinite" : Str)) = False := eq_false (by decide +kernel)
theorem s_overflow_nan : (("overflow" : Str) = ("nan" : Str)) = False := eq_false (by decide +kernel)
theorem s_overflow_finite : (("overflow" : Str) = ("finite" : Str)) = False := eq_false (by decide +kernel)
theorem s_overflow_inexact : (("overflow" : Str) = ("inexact" : Str)) = False := eq_false (by decide +kernel)
theorem s_overflow_underflow : (("overflow" : Str) = ("underflow" : Str)) = False := eq_false (by decide +kernel)
theorem s_overflow_toward : (("overflow" : Str) = ("toward" : Str)) = False := eq_false (by decide +kernel)
theorem s_overflow_outward : (("overflow" : Str) = ("outward" : Str)) = False := eq_false (by decide +kernel)
theorem s_toward_nearest : (("toward" : Str) = ("nearest" : Str)) = False := eq_false (by decide +kernel)
theorem s_toward_away : (("toward" : Str) = ("away" : Str)) = False := eq_false (by decide +kernel)
theorem s_toward_zero : (("toward" : Str) = ("zero" : Str)) = False := eq_false (by decide +kernel)
theorem s_toward_up : (("toward" : Str) = ("up" : Str)) = False := eq_false (by decide +kernel)
theorem s_toward_down : (("toward" : Str) = ("down" : Str)) = False := eq_false (by decide +kernel)
theorem s_toward_subnormal : (("toward" : Str) = ("subnormal" : Str)) = False := eq_false (by decide +kernel)
theorem s_toward_normal : (("toward" : Str) = ("normal" : Str)) = False := eq_false (by decide +kernel)
theorem s_toward_infinite : (("toward" : Str) = ("infinite" : Str)) = False := eq_false (by decide +kernel)
theorem s_toward_nan : (("toward" : Str) = ("nan" : Str)) = False := eq_false (by decide +kernel)
theorem s_toward_finite : (("toward" : Str) = ("finite" : Str)) = False := eq_false (by decide +kernel)
theorem s_toward_inexact : (("toward" : Str) = ("inexact" : Str)) = False := eq_false (by decide +kernel)
theorem s_toward_underflow : (("toward" : Str) = ("underflow" : Str)) = False := eq_false (by decide +kernel)
theorem s_toward_overflow : (("toward" : Str) = ("overflow" : Str)) = False := eq_false (by decide +kernel)
theorem s_toward_outward : (("toward" : Str) = ("outward" : Str)) = False := eq_false (by decide +kernel)
theorem s_outward_nearest : (("outward" : Str) = ("nearest" : Str)) = False := eq_false (by decide +kernel)
theorem s_outward_away : (("outward" : Str) = ("away" : Str)) = False := eq_false (by decide +kernel)
theorem s_outward_zero : (("outward" : Str) = ("zero" : Str)) = False := eq_false (by decide +kernel)
theorem s_outward_up : (("outward" : Str) = ("up" : Str)) = False := eq_false (by decide +kernel)
theorem s_outward_down : (("outward" : Str) = ("down" : Str)) = False := eq_false (by decide +kernel)
theorem s_outward_subnormal : (("outward" : Str) = ("subnormal" : Str)) = False := eq_false (by decide +kernel)
theorem s_outward_normal : (("outward" : Str) = ("normal" : Str)) = False := eq_false (by decide +kernel)
theorem s_outward_infinite : (("outward" : Str) = ("infinite" : Str)) = False := eq_false (by decide +kernel)
theorem s_outward_nan : (("outward" : Str) = ("nan" : Str)) = False := eq_false (by decide +kernel)
theorem s_outward_finite : (("outward" : Str) = ("finite" : Str)) = False := eq_false (by decide +kernel)
theorem s_outward_inexact : (("outward" : Str) = ("inexact" : Str)) = False := eq_false (by decide +kernel)
theorem s_outward_underflow : (("outward" : Str) = ("underflow" : Str)) = False := eq_false (by decide +kernel)
theorem s_outward_overflow : (("outward" : Str) = ("overflow" : Str)) = False := eq_false (by decide +kernel)
theorem s_outward_toward : (("outward" : Str) = ("toward" : Str)) = False := eq_false (by decide +kernel)
end L3

set_option Elab.async false
set_option linter.all false
set_option maxRecDepth 100000
/-! numbers, shapes, ways as data; readings of objects -/
namespace L3
open PySem L2 Dw
def shD (S : Sh) : D := .tup [.int S.p, .int S.lo, .int S.hi]
def kdS : Nat → Str
  | 0 => "finite"
  | 1 => "infinite"
  | _ => "nan"
def nmF : List Str := ["own_shape", "own_sign", "own_significand", "own_exponent", "state"]
def nmL (n : Nm) : List D := [shD n.S, .int n.s, .int n.m, .int n.e, .str (kdS n.st)]
def nmD (n : Nm) : D := .ins "Number" nmF (nmL n)
def wS : Way → Str
  | .near => "nearest"
  | .away => "away"
  | .zero => "zero"
  | .up => "up"
  | .down => "down"
/-! ### readings, one step each (not by rfl) -/
section
variable {cs : List Str} {fl : Str → List Str} {f c m : Str} {d : D} {x0 x1 x2 x3 x4 : Option Sl} {σ : DSt} {a b e : D} {ds : List D} {i j : Int} {ks : List Str}
theorem fo0 : fFldO cs fl f 0 (some (.sh d) :: σ) = gFld cs fl f d := id rfl
theorem fo1 : fFldO cs fl f 1 (x0 :: some (.sh d) :: σ) = gFld cs fl f d := id rfl
theorem fo2 : fFldO cs fl f 2 (x0 :: x1 :: some (.sh d) :: σ) = gFld cs fl f d := id rfl
theorem fo3 : fFldO cs fl f 3 (x0 :: x1 :: x2 :: some (.sh d) :: σ) = gFld cs fl f d := id rfl
theorem fo4 : fFldO cs fl f 4 (x0 :: x1 :: x2 :: x3 :: some (.sh d) :: σ) = gFld cs fl f d := id rfl
def okM (c m : Str) (d : D) : Bool := match d with
  | .ins c' ks _ => decide (c' = c) && !ks.contains m
  | _ => false
theorem q_fMeth {g : List D → Tr D} {fo : FE} {fa : FA} : fMeth c m g fo fa σ = (fo σ).bind fun d => if okM c m d = true then (fa σ).bind fun as => g (d :: as) else .fail := by
  unfold fMeth
  congr 1
  funext d
  cases d <;> simp [okM]
theorem okM_nm {n : Nm} (h : nmF.contains m = false := by decide +kernel) : okM "Number" m (nmD n) = true := by
  show (decide (("Number" : Str) = "Number") && !nmF.contains m) = true
  rw [h, decide_eq_true rfl]
  rfl
theorem okM_shape {n : Nm} : (okM "Number" "shape" (nmD n) = true) = True := eq_true okM_nm
theorem okM_sign {n : Nm} : (okM "Number" "sign" (nmD n) = true) = True := eq_true okM_nm
theorem okM_kind {n : Nm} : (okM "Number" "kind" (nmD n) = true) = True := eq_true okM_nm
theorem okM_parts {n : Nm} : (okM "Number" "parts" (nmD n) = true) = True := eq_true okM_nm
theorem okM_value {n : Nm} : (okM "Number" "value" (nmD n) = true) = True := eq_true okM_nm
theorem okM_rank {n : Nm} : (okM "Number" "rank" (nmD n) = true) = True := eq_true okM_nm
theorem okM_word {n : Nm} : (okM "Number" "word" (nmD n) = true) = True := eq_true okM_nm
theorem okM_up {n : Nm} : (okM "Number" "up" (nmD n) = true) = True := eq_true okM_nm
theorem okM_down {n : Nm} : (okM "Number" "down" (nmD n) = true) = True := eq_true okM_nm
theorem okM_negated {n : Nm} : (okM "Number" "negated" (nmD n) = true) = True := eq_true okM_nm
theorem ixT0 : gIx (.tup (a :: ds)) (.int 0) = .ret a := by
  show (match atI (a :: ds) ((0 : Nat) : Int) with | some d => Tr.ret d | none => .fail) = _
  rw [atI_nat (v := a) rfl]
theorem ixT1 : gIx (.tup (a :: b :: ds)) (.int 1) = .ret b := by
  show (match atI (a :: b :: ds) ((1 : Nat) : Int) with | some d => Tr.ret d | none => .fail) = _
  rw [atI_nat (v := b) rfl]
theorem ixT2 : gIx (.tup (a :: b :: e :: ds)) (.int 2) = .ret e := by
  show (match atI (a :: b :: e :: ds) ((2 : Nat) : Int) with | some d => Tr.ret d | none => .fail) = _
  rw [atI_nat (v := e) rfl]
theorem ixL0 : gIx (.lst (a :: ds)) (.int 0) = .ret a := by
  show (match atI (a :: ds) ((0 : Nat) : Int) with | some d => Tr.ret d | none => .fail) = _
  rw [atI_nat (v := a) rfl]
theorem ixL1 : gIx (.lst (a :: b :: ds)) (.int 1) = .ret b := by
  show (match atI (a :: b :: ds) ((1 : Nat) : Int) with | some d => Tr.ret d | none => .fail) = _
  rw [atI_nat (v := b) rfl]
theorem ixL2 : gIx (.lst (a :: b :: e :: ds)) (.int 2) = .ret e := by
  show (match atI (a :: b :: e :: ds) ((2 : Nat) : Int) with | some d => Tr.ret d | none => .fail) = _
  rw [atI_nat (v := e) rfl]
theorem ixS0 {S : Sh} : gIx (shD S) (.int 0) = .ret (.int S.p) := id rfl
theorem ixS1 {S : Sh} : gIx (shD S) (.int 1) = .ret (.int S.lo) := id rfl
theorem ixS2 {S : Sh} : gIx (shD S) (.int 2) = .ret (.int S.hi) := id rfl
theorem lenT0 : gLen [.tup []] = .ret (.int 0) := id rfl
theorem lenT1 : gLen [.tup [a]] = .ret (.int 1) := id rfl
theorem lenT2 : gLen [.tup [a, b]] = .ret (.int 2) := id rfl
theorem lenT3 : gLen [.tup [a, b, e]] = .ret (.int 3) := id rfl
theorem lenS {S : Sh} : gLen [shD S] = .ret (.int 3) := id rfl
theorem intB {k : Bool} : gInt [.bl k] = .ret (.int (if k = true then 1 else 0)) := id rfl
theorem intI : gInt [.int i] = .ret (.int i) := id rfl
theorem bitsI : gBits (.int i) = .ret (.int (Builtin.Int.intBits i : Nat)) := id rfl
theorem shl_ok (h0 : 0 ≤ j) (h1 : j ≤ 4000000) (h : big i = true) : gShl (.int i) (.int j) = .ret (.int (i * 2 ^ j.toNat)) := by
  show (if (decide (0 ≤ j) && decide (j ≤ 4000000) && big i) = true then _ else _) = _
  rw [decide_eq_true h0, decide_eq_true h1, h]
  rfl
theorem shr_ok (h0 : 0 ≤ j) : gShr (.int i) (.int j) = .ret (.int (i / 2 ^ j.toNat)) := by
  show (if decide (0 ≤ j) = true then _ else _) = _
  rw [decide_eq_true h0]
  rfl
/-- of a tuple of three -/
theorem hT3 {p q r : Nat} {y z : D} : hTup [p, q, r] (.tup [d, y, z]) σ = some (((σ.set p (some (.sh d))).set q (some (.sh y))).set r (some (.sh z))) := id rfl
theorem hS3 {p q r : Nat} {S : Sh} : hTup [p, q, r] (shD S) σ = some (((σ.set p (some (.sh (.int S.p)))).set q (some (.sh (.int S.lo)))).set r (some (.sh (.int S.hi)))) := id rfl
def q_fSl := @fSl.eq_1
def q_fPart := @fPart.eq_1
def q_fNoP := @fNoP.eq_1
def q_fMake := @fMake.eq_1
def q_fNew := @fNew.eq_1
theorem q_frz0 {g : FS} {c : Str} : fFrz 2 g (x0 :: x1 :: some (.oi c ks ds) :: σ) = g (x0 :: x1 :: some (.sh (.ins c ks ds)) :: σ) := id rfl
end
theorem v12 {d : D} {x0 x1 x2 x3 x4 x5 x6 x7 x8 x9 x10 x11} {σ : DSt} : fVar 12 (x0 :: x1 :: x2 :: x3 :: x4 :: x5 :: x6 :: x7 :: x8 :: x9 :: x10 :: x11 :: some (.sh d) :: σ) = .ret d := id rfl
theorem v13 {d : D} {x0 x1 x2 x3 x4 x5 x6 x7 x8 x9 x10 x11 x12} {σ : DSt} : fVar 13 (x0 :: x1 :: x2 :: x3 :: x4 :: x5 :: x6 :: x7 :: x8 :: x9 :: x10 :: x11 :: x12 :: some (.sh d) :: σ) = .ret d := id rfl
theorem v14 {d : D} {x0 x1 x2 x3 x4 x5 x6 x7 x8 x9 x10 x11 x12 x13} {σ : DSt} : fVar 14 (x0 :: x1 :: x2 :: x3 :: x4 :: x5 :: x6 :: x7 :: x8 :: x9 :: x10 :: x11 :: x12 :: x13 :: some (.sh d) :: σ) = .ret d := id rfl
theorem v15 {d : D} {x0 x1 x2 x3 x4 x5 x6 x7 x8 x9 x10 x11 x12 x13 x14} {σ : DSt} : fVar 15 (x0 :: x1 :: x2 :: x3 :: x4 :: x5 :: x6 :: x7 :: x8 :: x9 :: x10 :: x11 :: x12 :: x13 :: x14 :: some (.sh d) :: σ) = .ret d := id rfl
theorem v16 {d : D} {x0 x1 x2 x3 x4 x5 x6 x7 x8 x9 x10 x11 x12 x13 x14 x15} {σ : DSt} : fVar 16 (x0 :: x1 :: x2 :: x3 :: x4 :: x5 :: x6 :: x7 :: x8 :: x9 :: x10 :: x11 :: x12 :: x13 :: x14 :: x15 :: some (.sh d) :: σ) = .ret d := id rfl
theorem v17 {d : D} {x0 x1 x2 x3 x4 x5 x6 x7 x8 x9 x10 x11 x12 x13 x14 x15 x16} {σ : DSt} : fVar 17 (x0 :: x1 :: x2 :: x3 :: x4 :: x5 :: x6 :: x7 :: x8 :: x9 :: x10 :: x11 :: x12 :: x13 :: x14 :: x15 :: x16 :: some (.sh d) :: σ) = .ret d := id rfl
theorem v18 {d : D} {x0 x1 x2 x3 x4 x5 x6 x7 x8 x9 x10 x11 x12 x13 x14 x15 x16 x17} {σ : DSt} : fVar 18 (x0 :: x1 :: x2 :: x3 :: x4 :: x5 :: x6 :: x7 :: x8 :: x9 :: x10 :: x11 :: x12 :: x13 :: x14 :: x15 :: x16 :: x17 :: some (.sh d) :: σ) = .ret d := id rfl
theorem v19 {d : D} {x0 x1 x2 x3 x4 x5 x6 x7 x8 x9 x10 x11 x12 x13 x14 x15 x16 x17 x18} {σ : DSt} : fVar 19 (x0 :: x1 :: x2 :: x3 :: x4 :: x5 :: x6 :: x7 :: x8 :: x9 :: x10 :: x11 :: x12 :: x13 :: x14 :: x15 :: x16 :: x17 :: x18 :: some (.sh d) :: σ) = .ret d := id rfl
theorem v20 {d : D} {x0 x1 x2 x3 x4 x5 x6 x7 x8 x9 x10 x11 x12 x13 x14 x15 x16 x17 x18 x19} {σ : DSt} : fVar 20 (x0 :: x1 :: x2 :: x3 :: x4 :: x5 :: x6 :: x7 :: x8 :: x9 :: x10 :: x11 :: x12 :: x13 :: x14 :: x15 :: x16 :: x17 :: x18 :: x19 :: some (.sh d) :: σ) = .ret d := id rfl
theorem v21 {d : D} {x0 x1 x2 x3 x4 x5 x6 x7 x8 x9 x10 x11 x12 x13 x14 x15 x16 x17 x18 x19 x20} {σ : DSt} : fVar 21 (x0 :: x1 :: x2 :: x3 :: x4 :: x5 :: x6 :: x7 :: x8 :: x9 :: x10 :: x11 :: x12 :: x13 :: x14 :: x15 :: x16 :: x17 :: x18 :: x19 :: x20 :: some (.sh d) :: σ) = .ret d := id rfl
theorem v22 {d : D} {x0 x1 x2 x3 x4 x5 x6 x7 x8 x9 x10 x11 x12 x13 x14 x15 x16 x17 x18 x19 x20 x21} {σ : DSt} : fVar 22 (x0 :: x1 :: x2 :: x3 :: x4 :: x5 :: x6 :: x7 :: x8 :: x9 :: x10 :: x11 :: x12 :: x13 :: x14 :: x15 :: x16 :: x17 :: x18 :: x19 :: x20 :: x21 :: some (.sh d) :: σ) = .ret d := id rfl
theorem v23 {d : D} {x0 x1 x2 x3 x4 x5 x6 x7 x8 x9 x10 x11 x12 x13 x14 x15 x16 x17 x18 x19 x20 x21 x22} {σ : DSt} : fVar 23 (x0 :: x1 :: x2 :: x3 :: x4 :: x5 :: x6 :: x7 :: x8 :: x9 :: x10 :: x11 :: x12 :: x13 :: x14 :: x15 :: x16 :: x17 :: x18 :: x19 :: x20 :: x21 :: x22 :: some (.sh d) :: σ) = .ret d := id rfl
theorem v24 {d : D} {x0 x1 x2 x3 x4 x5 x6 x7 x8 x9 x10 x11 x12 x13 x14 x15 x16 x17 x18 x19 x20 x21 x22 x23} {σ : DSt} : fVar 24 (x0 :: x1 :: x2 :: x3 :: x4 :: x5 :: x6 :: x7 :: x8 :: x9 :: x10 :: x11 :: x12 :: x13 :: x14 :: x15 :: x16 :: x17 :: x18 :: x19 :: x20 :: x21 :: x22 :: x23 :: some (.sh d) :: σ) = .ret d := id rfl
theorem v25 {d : D} {x0 x1 x2 x3 x4 x5 x6 x7 x8 x9 x10 x11 x12 x13 x14 x15 x16 x17 x18 x19 x20 x21 x22 x23 x24} {σ : DSt} : fVar 25 (x0 :: x1 :: x2 :: x3 :: x4 :: x5 :: x6 :: x7 :: x8 :: x9 :: x10 :: x11 :: x12 :: x13 :: x14 :: x15 :: x16 :: x17 :: x18 :: x19 :: x20 :: x21 :: x22 :: x23 :: x24 :: some (.sh d) :: σ) = .ret d := id rfl
theorem v26 {d : D} {x0 x1 x2 x3 x4 x5 x6 x7 x8 x9 x10 x11 x12 x13 x14 x15 x16 x17 x18 x19 x20 x21 x22 x23 x24 x25} {σ : DSt} : fVar 26 (x0 :: x1 :: x2 :: x3 :: x4 :: x5 :: x6 :: x7 :: x8 :: x9 :: x10 :: x11 :: x12 :: x13 :: x14 :: x15 :: x16 :: x17 :: x18 :: x19 :: x20 :: x21 :: x22 :: x23 :: x24 :: x25 :: some (.sh d) :: σ) = .ret d := id rfl
theorem v27 {d : D} {x0 x1 x2 x3 x4 x5 x6 x7 x8 x9 x10 x11 x12 x13 x14 x15 x16 x17 x18 x19 x20 x21 x22 x23 x24 x25 x26} {σ : DSt} : fVar 27 (x0 :: x1 :: x2 :: x3 :: x4 :: x5 :: x6 :: x7 :: x8 :: x9 :: x10 :: x11 :: x12 :: x13 :: x14 :: x15 :: x16 :: x17 :: x18 :: x19 :: x20 :: x21 :: x22 :: x23 :: x24 :: x25 :: x26 :: some (.sh d) :: σ) = .ret d := id rfl
theorem v28 {d : D} {x0 x1 x2 x3 x4 x5 x6 x7 x8 x9 x10 x11 x12 x13 x14 x15 x16 x17 x18 x19 x20 x21 x22 x23 x24 x25 x26 x27} {σ : DSt} : fVar 28 (x0 :: x1 :: x2 :: x3 :: x4 :: x5 :: x6 :: x7 :: x8 :: x9 :: x10 :: x11 :: x12 :: x13 :: x14 :: x15 :: x16 :: x17 :: x18 :: x19 :: x20 :: x21 :: x22 :: x23 :: x24 :: x25 :: x26 :: x27 :: some (.sh d) :: σ) = .ret d := id rfl
theorem v29 {d : D} {x0 x1 x2 x3 x4 x5 x6 x7 x8 x9 x10 x11 x12 x13 x14 x15 x16 x17 x18 x19 x20 x21 x22 x23 x24 x25 x26 x27 x28} {σ : DSt} : fVar 29 (x0 :: x1 :: x2 :: x3 :: x4 :: x5 :: x6 :: x7 :: x8 :: x9 :: x10 :: x11 :: x12 :: x13 :: x14 :: x15 :: x16 :: x17 :: x18 :: x19 :: x20 :: x21 :: x22 :: x23 :: x24 :: x25 :: x26 :: x27 :: x28 :: some (.sh d) :: σ) = .ret d := id rfl
theorem v30 {d : D} {x0 x1 x2 x3 x4 x5 x6 x7 x8 x9 x10 x11 x12 x13 x14 x15 x16 x17 x18 x19 x20 x21 x22 x23 x24 x25 x26 x27 x28 x29} {σ : DSt} : fVar 30 (x0 :: x1 :: x2 :: x3 :: x4 :: x5 :: x6 :: x7 :: x8 :: x9 :: x10 :: x11 :: x12 :: x13 :: x14 :: x15 :: x16 :: x17 :: x18 :: x19 :: x20 :: x21 :: x22 :: x23 :: x24 :: x25 :: x26 :: x27 :: x28 :: x29 :: some (.sh d) :: σ) = .ret d := id rfl
theorem eqO_any {f : List D → Tr D} {n k : Nm} {b : Bool} : gEqO b "Number" f (nmD n) (nmD k) = (f [nmD n, nmD k]).bind fun z => match z with
    | .bl x => .ret (.bl (if b = true then !x else x))
    | _ => .fail := by kernel_rfl
theorem eqO_nm {f : List D → Tr D} {n k : Nm} {b : Bool} (h : f [nmD n, nmD k] = .ret (.bl b)) : gEqO false "Number" f (nmD n) (nmD k) = .ret (.bl b) := by
  rw [eqO_any, h]
  rfl
theorem neO_nm {f : List D → Tr D} {n k : Nm} {b : Bool} (h : f [nmD n, nmD k] = .ret (.bl b)) : gEqO true "Number" f (nmD n) (nmD k) = .ret (.bl !b) := by
  rw [eqO_any, h]
  rfl
/-! ### == of data -/
section
variable {a b c d e f : Int} {x y : Str}
theorem eqT0 : gEqD (.tup []) (.tup []) = .ret (.bl true) := by kernel_rfl
theorem neT0 : gNeD (.tup []) (.tup []) = .ret (.bl false) := by kernel_rfl
theorem eqT2 : gEqD (.tup [.int a, .int b]) (.tup [.int c, .int d]) = .ret (.bl (decide (a = c ∧ b = d))) := by
  have : gEqD (.tup [.int a, .int b]) (.tup [.int c, .int d]) = .ret (.bl ((a == c) && ((b == d) && true))) := by kernel_rfl
  rw [this]
  by_cases h : a = c <;> by_cases h' : b = d <;> simp [h, h']
theorem neT2 : gNeD (.tup [.int a, .int b]) (.tup [.int c, .int d]) = .ret (.bl (!decide (a = c ∧ b = d))) := by
  have : gNeD (.tup [.int a, .int b]) (.tup [.int c, .int d]) = .ret (.bl (!((a == c) && ((b == d) && true)))) := by kernel_rfl
  rw [this]
  by_cases h : a = c <;> by_cases h' : b = d <;> simp [h, h']
theorem eqS (S S' : Sh) : gEqD (shD S) (shD S') = .ret (.bl (decide (S = S'))) := by
  have : gEqD (shD S) (shD S') = .ret (.bl ((S.p == S'.p) && ((S.lo == S'.lo) && ((S.hi == S'.hi) && true)))) := by kernel_rfl
  rw [this]
  obtain ⟨p, l, h⟩ := S
  obtain ⟨p', l', h'⟩ := S'
  by_cases z1 : p = p' <;> by_cases z2 : l = l' <;> by_cases z3 : h = h' <;> simp [z1, z2, z3]
theorem neS (S S' : Sh) : gNeD (shD S) (shD S') = .ret (.bl (!decide (S = S'))) := by
  have : gNeD (shD S) (shD S') = .ret (.bl (!((S.p == S'.p) && ((S.lo == S'.lo) && ((S.hi == S'.hi) && true))))) := by kernel_rfl
  rw [this]
  obtain ⟨p, l, h⟩ := S
  obtain ⟨p', l', h'⟩ := S'
  by_cases z1 : p = p' <;> by_cases z2 : l = l' <;> by_cases z3 : h = h' <;> simp [z1, z2, z3]
end
def mkD : Nat → D
  | 0 => .tup []
  | 1 => .tup [.str "inexact"]
  | 2 => .tup [.str "inexact", .str "overflow"]
  | _ => .tup [.str "inexact", .str "underflow"]
/-! ### sizes -/
theorem bg1 : big 1 = true := by decide +kernel
theorem Sz.shl {k : Nat} {i : Int} (h : Sz k i) (j : Nat) : Sz (k + j) (i * 2 ^ j) := by
  unfold Sz at *
  rw [Int.natAbs_mul, Int.natAbs_pow, Nat.pow_add]
  exact Nat.mul_lt_mul_of_lt_of_le h (Nat.le_refl _) (Nat.pow_pos (by decide))
theorem Sz.abs {k : Nat} {i j : Int} (h : Sz k i) (e : j.natAbs = i.natAbs) : Sz k j := by unfold Sz at *; rwa [e]
theorem Sz.absI {k : Nat} {i : Int} (h : Sz k i) : Sz k (Dw.absI i) := by
  refine h.abs ?_
  unfold Dw.absI
  split <;> omega
theorem sz64 {S : Sh} (h : S.Ok) : S.fn < 18446744073709551616 := by have := h.fnB; omega
theorem Sz.of_lt {k : Nat} {i : Int} (h : -(2 ^ k : Int) < i) (h' : i < 2 ^ k) : Sz k i := by
  unfold Sz
  rw [ip_cast] at h h'
  omega
theorem fn_shl {S : Sh} (h : S.Ok) : gShl (.int 1) (.int (S.p - 1)) = .ret (.int S.fn) := by
  have := h.p2
  have := h.p64
  rw [shl_ok (by omega) (by omega) bg1, Int.one_mul]
  unfold Sh.fn
  congr 3
  omega
theorem full_shl {S : Sh} (h : S.Ok) : gShl (.int 1) (.int S.p) = .ret (.int (2 * S.fn)) := by
  have := h.p2
  have := h.p64
  rw [shl_ok (by omega) (by omega) bg1, Int.one_mul, h.full]
theorem mx0 (P : Int) : (if 0 < P then P else 0) = ((P.toNat : Nat) : Int) := by split <;> omega
theorem mx1 (P : Int) : (if P > 0 then P else 0) = ((P.toNat : Nat) : Int) := by split <;> omega
theorem shlN {i : Int} {j : Nat} (h1 : j ≤ 4000000) (h : big i = true) : gShl (.int i) (.int (j : Nat)) = .ret (.int (i * 2 ^ j)) := by
  rw [shl_ok (by omega) (by omega) h, Int.toNat_natCast]
end L3

set_option Elab.async false
set_option linter.all false
set_option maxRecDepth 100000
/-! loops and comprehensions over data -/
namespace L3
open PySem L2 Dw
theorem cloop_map {g : FG} {ft : FT} {fe : FE} {σ : DSt} (F : D → D) : ∀ (ds acc : List D), (∀ d ∈ ds, ∃ σ1, g d σ = some σ1 ∧ ft σ1 = .ret true ∧ fe σ1 = .ret (F d)) → cloop g ft fe σ ds acc = .ret (.lst (acc ++ ds.map F))
  | [], acc, _ => by rw [cloop, List.map_nil, List.append_nil]
  | d :: ds, acc, h => by
    obtain ⟨σ1, e1, e2, e3⟩ := h d (List.mem_cons_self ..)
    rw [cloop, e1]
    dsimp only
    rw [e2, Tr.bind_ret, if_pos rfl, e3, Tr.bind_ret, cloop_map F ds _ fun x hx => h x (List.mem_cons_of_mem _ hx), List.map_cons, List.append_assoc]
    rfl
/-- over a list that is the image of a range -/
theorem cloop_range {g : FG} {ft : FT} {fe : FE} {σ : DSt} {n : Nat} {G : Nat → D} (F : Nat → D) (h : ∀ k, k < n → ∃ σ1, g (G k) σ = some σ1 ∧ ft σ1 = .ret true ∧ fe σ1 = .ret (F k)) : cloop g ft fe σ ((List.range n).map G) [] = .ret (.lst ((List.range n).map F)) := by
  have key : ∀ (m : Nat) (acc : List D) (a : Nat), a + m = n → cloop g ft fe σ ((List.range' a m).map G) acc = .ret (.lst (acc ++ (List.range' a m).map F)) := by
    intro m
    induction m with
    | zero => intro acc a _; rw [List.range'_zero, List.map_nil, cloop, List.map_nil, List.append_nil]
    | succ m ih =>
      intro acc a ha
      obtain ⟨σ1, e1, e2, e3⟩ := h a (by omega)
      rw [List.range'_succ, List.map_cons, cloop, e1]
      dsimp only
      rw [e2, Tr.bind_ret, if_pos rfl, e3, Tr.bind_ret, ih _ (a + 1) (by omega), List.map_cons, List.append_assoc]
      rfl
  have := key n [] 0 (by omega)
  rw [← List.range_eq_range', List.nil_append] at this
  exact this
theorem loop_ex {g : FG} {fb : FS} (I : Nat → DSt → Prop) : ∀ (ds : List D) (i : Nat) (σ : DSt), I i σ → (∀ (j : Nat) (d : D) (σ : DSt), ds[j]? = some d → I (i + j) σ → ∃ σ1 σ2, g d σ = some σ1 ∧ fb σ1 = .ret (.nx σ2) ∧ I (i + j + 1) σ2) → ∃ σ', loop g fb ds σ = .ret (.nx σ') ∧ I (i + ds.length) σ'
  | [], i, σ, h, _ => ⟨σ, loop_nil, h⟩
  | d :: ds, i, σ, h, hs => by
    obtain ⟨σ1, σ2, e1, e2, h2⟩ := hs 0 d σ rfl h
    obtain ⟨σ', e3, h3⟩ := loop_ex I ds (i + 1) σ2 h2 fun j d σ e hI => by
      have := hs (j + 1) d σ (by simpa using e) (by rw [show i + (j + 1) = i + 1 + j by omega]; exact hI)
      rw [show i + (j + 1) + 1 = i + 1 + j + 1 by omega] at this
      exact this
    refine ⟨σ', ?_, by rw [List.length_cons, show i + (ds.length + 1) = i + 1 + ds.length by omega]; exact h3⟩
    rw [loop_cons e1 e2, e3]
theorem enumD_get : ∀ (ds : List D) (a j : Nat) (d : D), (enumD ds a)[j]? = some d → ∃ x, ds[j]? = some x ∧ d = .tup [.int ((a + j : Nat) : Int), x]
  | [], _, _, _, h => by simp [enumD] at h
  | x :: ds, a, 0, d, h => by simp [enumD] at h; exact ⟨x, rfl, h.symm⟩
  | x :: ds, a, j + 1, d, h => by
    obtain ⟨y, h1, h2⟩ := enumD_get ds (a + 1) j d (by simpa [enumD] using h)
    exact ⟨y, by simpa using h1, by rw [h2, show a + 1 + j = a + (j + 1) by omega]⟩
theorem ix_lst {ds : List D} {j : Nat} {d : D} (h : ds[j]? = some d) : gIx (.lst ds) (.int (j : Int)) = .ret d := by
  show (match atI ds (j : Int) with | some d => Tr.ret d | none => .fail) = _
  rw [atI_nat h]
theorem ix_tup {ds : List D} {j : Nat} {d : D} (h : ds[j]? = some d) : gIx (.tup ds) (.int (j : Int)) = .ret d := by
  show (match atI ds (j : Int) with | some d => Tr.ret d | none => .fail) = _
  rw [atI_nat h]
theorem ix_last {ds : List D} {d : D} : gIx (.lst (ds ++ [d])) (.int (-1)) = .ret d := by
  show (match atI (ds ++ [d]) (-1) with | some d => Tr.ret d | none => .fail) = _
  rw [atI_last]
theorem len_lst {ds : List D} : gLen [.lst ds] = .ret (.int ds.length) := id rfl
section
variable {α β : Type} {E : D → Nat → Prop} {P : α → Nat → Prop}
theorem al_drawN {t : Int} {k : Int → Tr α} {n : Nat} (hn : 1 ≤ n) (h0 : 0 < t) (h1 : t < 1073741824) (h : ∀ r m, 0 ≤ r → r < t → n ≤ m + 1 → (k r).al E P m) : (Tr.draw t k).al E P n :=
  ⟨n - 1, by omega, h0, h1, fun r r0 r1 => h r (n - 1) r0 r1 (by omega)⟩
theorem al_pickN {k : D → Tr α} {ds : List D} {t : Int} {n : Nat} (Q : Int → Prop) (hn : 1 ≤ n) (h0 : 0 < t) (h1 : t < 1073741824) (hl : (ds.length : Int) = t) (hq : ∀ d ∈ ds, ∃ i, d = .int i ∧ Q i) (h : ∀ i m, Q i → n ≤ m + 1 → (k (.int i)).al E P m) :
    (Tr.draw t fun r => (gIx (.lst ds) (.int r)).bind k).al E P n := by
  refine al_drawN hn h0 h1 fun r m r0 r1 hm => ?_
  obtain ⟨d, e, hd⟩ := ix_pick r0 r1 hl
  rw [e]
  obtain ⟨i, rfl, hi⟩ := hq d hd
  exact h i m hi hm
end
end L3

set_option Elab.async false
set_option linter.all false
/-! readings of lists of one's own, by places -/
namespace L3
open PySem L2
def q_fSetL := @fSetL.eq_1
theorem app1 {x0} {f : FE} {ds : List D} {σ : DSt} : fApp 1 f (x0 :: some (.ol ds) :: σ) = if ds.length < 1000000 then (f (x0 :: some (.ol ds) :: σ)).bind fun d => .ret (.nx (x0 :: some (.ol (ds ++ [d])) :: σ)) else .fail := id rfl
theorem ixo1 {x0} {f : FE} {ds : List D} {σ : DSt} : fIxO 1 f (x0 :: some (.ol ds) :: σ) = (f (x0 :: some (.ol ds) :: σ)).bind fun y => gIx (.lst ds) y := id rfl
theorem ixs1 {x0} {f : FE} {d : D} {σ : DSt} : fIxO 1 f (x0 :: some (.sh d) :: σ) = (f (x0 :: some (.sh d) :: σ)).bind fun y => gIx d y := id rfl
theorem fro1 {x0} {g : FS} {ds : List D} {σ : DSt} : fFrz 1 g (x0 :: some (.ol ds) :: σ) = g (x0 :: some (.sh (.lst ds)) :: σ) := id rfl
theorem frs1 {x0} {g : FS} {d : D} {σ : DSt} : fFrz 1 g (x0 :: some (.sh d) :: σ) = g (x0 :: some (.sh d) :: σ) := id rfl
theorem app2 {x0 x1} {f : FE} {ds : List D} {σ : DSt} : fApp 2 f (x0 :: x1 :: some (.ol ds) :: σ) = if ds.length < 1000000 then (f (x0 :: x1 :: some (.ol ds) :: σ)).bind fun d => .ret (.nx (x0 :: x1 :: some (.ol (ds ++ [d])) :: σ)) else .fail := id rfl
theorem ixo2 {x0 x1} {f : FE} {ds : List D} {σ : DSt} : fIxO 2 f (x0 :: x1 :: some (.ol ds) :: σ) = (f (x0 :: x1 :: some (.ol ds) :: σ)).bind fun y => gIx (.lst ds) y := id rfl
theorem ixs2 {x0 x1} {f : FE} {d : D} {σ : DSt} : fIxO 2 f (x0 :: x1 :: some (.sh d) :: σ) = (f (x0 :: x1 :: some (.sh d) :: σ)).bind fun y => gIx d y := id rfl
theorem fro2 {x0 x1} {g : FS} {ds : List D} {σ : DSt} : fFrz 2 g (x0 :: x1 :: some (.ol ds) :: σ) = g (x0 :: x1 :: some (.sh (.lst ds)) :: σ) := id rfl
theorem frs2 {x0 x1} {g : FS} {d : D} {σ : DSt} : fFrz 2 g (x0 :: x1 :: some (.sh d) :: σ) = g (x0 :: x1 :: some (.sh d) :: σ) := id rfl
theorem app3 {x0 x1 x2} {f : FE} {ds : List D} {σ : DSt} : fApp 3 f (x0 :: x1 :: x2 :: some (.ol ds) :: σ) = if ds.length < 1000000 then (f (x0 :: x1 :: x2 :: some (.ol ds) :: σ)).bind fun d => .ret (.nx (x0 :: x1 :: x2 :: some (.ol (ds ++ [d])) :: σ)) else .fail := id rfl
theorem ixo3 {x0 x1 x2} {f : FE} {ds : List D} {σ : DSt} : fIxO 3 f (x0 :: x1 :: x2 :: some (.ol ds) :: σ) = (f (x0 :: x1 :: x2 :: some (.ol ds) :: σ)).bind fun y => gIx (.lst ds) y := id rfl
theorem ixs3 {x0 x1 x2} {f : FE} {d : D} {σ : DSt} : fIxO 3 f (x0 :: x1 :: x2 :: some (.sh d) :: σ) = (f (x0 :: x1 :: x2 :: some (.sh d) :: σ)).bind fun y => gIx d y := id rfl
theorem fro3 {x0 x1 x2} {g : FS} {ds : List D} {σ : DSt} : fFrz 3 g (x0 :: x1 :: x2 :: some (.ol ds) :: σ) = g (x0 :: x1 :: x2 :: some (.sh (.lst ds)) :: σ) := id rfl
theorem frs3 {x0 x1 x2} {g : FS} {d : D} {σ : DSt} : fFrz 3 g (x0 :: x1 :: x2 :: some (.sh d) :: σ) = g (x0 :: x1 :: x2 :: some (.sh d) :: σ) := id rfl
theorem app4 {x0 x1 x2 x3} {f : FE} {ds : List D} {σ : DSt} : fApp 4 f (x0 :: x1 :: x2 :: x3 :: some (.ol ds) :: σ) = if ds.length < 1000000 then (f (x0 :: x1 :: x2 :: x3 :: some (.ol ds) :: σ)).bind fun d => .ret (.nx (x0 :: x1 :: x2 :: x3 :: some (.ol (ds ++ [d])) :: σ)) else .fail := id rfl
theorem ixo4 {x0 x1 x2 x3} {f : FE} {ds : List D} {σ : DSt} : fIxO 4 f (x0 :: x1 :: x2 :: x3 :: some (.ol ds) :: σ) = (f (x0 :: x1 :: x2 :: x3 :: some (.ol ds) :: σ)).bind fun y => gIx (.lst ds) y := id rfl
theorem ixs4 {x0 x1 x2 x3} {f : FE} {d : D} {σ : DSt} : fIxO 4 f (x0 :: x1 :: x2 :: x3 :: some (.sh d) :: σ) = (f (x0 :: x1 :: x2 :: x3 :: some (.sh d) :: σ)).bind fun y => gIx d y := id rfl
theorem fro4 {x0 x1 x2 x3} {g : FS} {ds : List D} {σ : DSt} : fFrz 4 g (x0 :: x1 :: x2 :: x3 :: some (.ol ds) :: σ) = g (x0 :: x1 :: x2 :: x3 :: some (.sh (.lst ds)) :: σ) := id rfl
theorem frs4 {x0 x1 x2 x3} {g : FS} {d : D} {σ : DSt} : fFrz 4 g (x0 :: x1 :: x2 :: x3 :: some (.sh d) :: σ) = g (x0 :: x1 :: x2 :: x3 :: some (.sh d) :: σ) := id rfl
theorem app5 {x0 x1 x2 x3 x4} {f : FE} {ds : List D} {σ : DSt} : fApp 5 f (x0 :: x1 :: x2 :: x3 :: x4 :: some (.ol ds) :: σ) = if ds.length < 1000000 then (f (x0 :: x1 :: x2 :: x3 :: x4 :: some (.ol ds) :: σ)).bind fun d => .ret (.nx (x0 :: x1 :: x2 :: x3 :: x4 :: some (.ol (ds ++ [d])) :: σ)) else .fail := id rfl
theorem ixo5 {x0 x1 x2 x3 x4} {f : FE} {ds : List D} {σ : DSt} : fIxO 5 f (x0 :: x1 :: x2 :: x3 :: x4 :: some (.ol ds) :: σ) = (f (x0 :: x1 :: x2 :: x3 :: x4 :: some (.ol ds) :: σ)).bind fun y => gIx (.lst ds) y := id rfl
theorem ixs5 {x0 x1 x2 x3 x4} {f : FE} {d : D} {σ : DSt} : fIxO 5 f (x0 :: x1 :: x2 :: x3 :: x4 :: some (.sh d) :: σ) = (f (x0 :: x1 :: x2 :: x3 :: x4 :: some (.sh d) :: σ)).bind fun y => gIx d y := id rfl
theorem fro5 {x0 x1 x2 x3 x4} {g : FS} {ds : List D} {σ : DSt} : fFrz 5 g (x0 :: x1 :: x2 :: x3 :: x4 :: some (.ol ds) :: σ) = g (x0 :: x1 :: x2 :: x3 :: x4 :: some (.sh (.lst ds)) :: σ) := id rfl
theorem frs5 {x0 x1 x2 x3 x4} {g : FS} {d : D} {σ : DSt} : fFrz 5 g (x0 :: x1 :: x2 :: x3 :: x4 :: some (.sh d) :: σ) = g (x0 :: x1 :: x2 :: x3 :: x4 :: some (.sh d) :: σ) := id rfl
theorem app6 {x0 x1 x2 x3 x4 x5} {f : FE} {ds : List D} {σ : DSt} : fApp 6 f (x0 :: x1 :: x2 :: x3 :: x4 :: x5 :: some (.ol ds) :: σ) = if ds.length < 1000000 then (f (x0 :: x1 :: x2 :: x3 :: x4 :: x5 :: some (.ol ds) :: σ)).bind fun d => .ret (.nx (x0 :: x1 :: x2 :: x3 :: x4 :: x5 :: some (.ol (ds ++ [d])) :: σ)) else .fail := id rfl
theorem ixo6 {x0 x1 x2 x3 x4 x5} {f : FE} {ds : List D} {σ : DSt} : fIxO 6 f (x0 :: x1 :: x2 :: x3 :: x4 :: x5 :: some (.ol ds) :: σ) = (f (x0 :: x1 :: x2 :: x3 :: x4 :: x5 :: some (.ol ds) :: σ)).bind fun y => gIx (.lst ds) y := id rfl
theorem ixs6 {x0 x1 x2 x3 x4 x5} {f : FE} {d : D} {σ : DSt} : fIxO 6 f (x0 :: x1 :: x2 :: x3 :: x4 :: x5 :: some (.sh d) :: σ) = (f (x0 :: x1 :: x2 :: x3 :: x4 :: x5 :: some (.sh d) :: σ)).bind fun y => gIx d y := id rfl
theorem fro6 {x0 x1 x2 x3 x4 x5} {g : FS} {ds : List D} {σ : DSt} : fFrz 6 g (x0 :: x1 :: x2 :: x3 :: x4 :: x5 :: some (.ol ds) :: σ) = g (x0 :: x1 :: x2 :: x3 :: x4 :: x5 :: some (.sh (.lst ds)) :: σ) := id rfl
theorem frs6 {x0 x1 x2 x3 x4 x5} {g : FS} {d : D} {σ : DSt} : fFrz 6 g (x0 :: x1 :: x2 :: x3 :: x4 :: x5 :: some (.sh d) :: σ) = g (x0 :: x1 :: x2 :: x3 :: x4 :: x5 :: some (.sh d) :: σ) := id rfl
theorem app7 {x0 x1 x2 x3 x4 x5 x6} {f : FE} {ds : List D} {σ : DSt} : fApp 7 f (x0 :: x1 :: x2 :: x3 :: x4 :: x5 :: x6 :: some (.ol ds) :: σ) = if ds.length < 1000000 then (f (x0 :: x1 :: x2 :: x3 :: x4 :: x5 :: x6 :: some (.ol ds) :: σ)).bind fun d => .ret (.nx (x0 :: x1 :: x2 :: x3 :: x4 :: x5 :: x6 :: some (.ol (ds ++ [d])) :: σ)) else .fail := id rfl
theorem ixo7 {x0 x1 x2 x3 x4 x5 x6} {f : FE} {ds : List D} {σ : DSt} : fIxO 7 f (x0 :: x1 :: x2 :: x3 :: x4 :: x5 :: x6 :: some (.ol ds) :: σ) = (f (x0 :: x1 :: x2 :: x3 :: x4 :: x5 :: x6 :: some (.ol ds) :: σ)).bind fun y => gIx (.lst ds) y := id rfl
theorem ixs7 {x0 x1 x2 x3 x4 x5 x6} {f : FE} {d : D} {σ : DSt} : fIxO 7 f (x0 :: x1 :: x2 :: x3 :: x4 :: x5 :: x6 :: some (.sh d) :: σ) = (f (x0 :: x1 :: x2 :: x3 :: x4 :: x5 :: x6 :: some (.sh d) :: σ)).bind fun y => gIx d y := id rfl
theorem fro7 {x0 x1 x2 x3 x4 x5 x6} {g : FS} {ds : List D} {σ : DSt} : fFrz 7 g (x0 :: x1 :: x2 :: x3 :: x4 :: x5 :: x6 :: some (.ol ds) :: σ) = g (x0 :: x1 :: x2 :: x3 :: x4 :: x5 :: x6 :: some (.sh (.lst ds)) :: σ) := id rfl
theorem frs7 {x0 x1 x2 x3 x4 x5 x6} {g : FS} {d : D} {σ : DSt} : fFrz 7 g (x0 :: x1 :: x2 :: x3 :: x4 :: x5 :: x6 :: some (.sh d) :: σ) = g (x0 :: x1 :: x2 :: x3 :: x4 :: x5 :: x6 :: some (.sh d) :: σ) := id rfl
theorem app8 {x0 x1 x2 x3 x4 x5 x6 x7} {f : FE} {ds : List D} {σ : DSt} : fApp 8 f (x0 :: x1 :: x2 :: x3 :: x4 :: x5 :: x6 :: x7 :: some (.ol ds) :: σ) = if ds.length < 1000000 then (f (x0 :: x1 :: x2 :: x3 :: x4 :: x5 :: x6 :: x7 :: some (.ol ds) :: σ)).bind fun d => .ret (.nx (x0 :: x1 :: x2 :: x3 :: x4 :: x5 :: x6 :: x7 :: some (.ol (ds ++ [d])) :: σ)) else .fail := id rfl
theorem ixo8 {x0 x1 x2 x3 x4 x5 x6 x7} {f : FE} {ds : List D} {σ : DSt} : fIxO 8 f (x0 :: x1 :: x2 :: x3 :: x4 :: x5 :: x6 :: x7 :: some (.ol ds) :: σ) = (f (x0 :: x1 :: x2 :: x3 :: x4 :: x5 :: x6 :: x7 :: some (.ol ds) :: σ)).bind fun y => gIx (.lst ds) y := id rfl
theorem ixs8 {x0 x1 x2 x3 x4 x5 x6 x7} {f : FE} {d : D} {σ : DSt} : fIxO 8 f (x0 :: x1 :: x2 :: x3 :: x4 :: x5 :: x6 :: x7 :: some (.sh d) :: σ) = (f (x0 :: x1 :: x2 :: x3 :: x4 :: x5 :: x6 :: x7 :: some (.sh d) :: σ)).bind fun y => gIx d y := id rfl
theorem fro8 {x0 x1 x2 x3 x4 x5 x6 x7} {g : FS} {ds : List D} {σ : DSt} : fFrz 8 g (x0 :: x1 :: x2 :: x3 :: x4 :: x5 :: x6 :: x7 :: some (.ol ds) :: σ) = g (x0 :: x1 :: x2 :: x3 :: x4 :: x5 :: x6 :: x7 :: some (.sh (.lst ds)) :: σ) := id rfl
theorem frs8 {x0 x1 x2 x3 x4 x5 x6 x7} {g : FS} {d : D} {σ : DSt} : fFrz 8 g (x0 :: x1 :: x2 :: x3 :: x4 :: x5 :: x6 :: x7 :: some (.sh d) :: σ) = g (x0 :: x1 :: x2 :: x3 :: x4 :: x5 :: x6 :: x7 :: some (.sh d) :: σ) := id rfl
theorem app9 {x0 x1 x2 x3 x4 x5 x6 x7 x8} {f : FE} {ds : List D} {σ : DSt} : fApp 9 f (x0 :: x1 :: x2 :: x3 :: x4 :: x5 :: x6 :: x7 :: x8 :: some (.ol ds) :: σ) = if ds.length < 1000000 then (f (x0 :: x1 :: x2 :: x3 :: x4 :: x5 :: x6 :: x7 :: x8 :: some (.ol ds) :: σ)).bind fun d => .ret (.nx (x0 :: x1 :: x2 :: x3 :: x4 :: x5 :: x6 :: x7 :: x8 :: some (.ol (ds ++ [d])) :: σ)) else .fail := id rfl
theorem ixo9 {x0 x1 x2 x3 x4 x5 x6 x7 x8} {f : FE} {ds : List D} {σ : DSt} : fIxO 9 f (x0 :: x1 :: x2 :: x3 :: x4 :: x5 :: x6 :: x7 :: x8 :: some (.ol ds) :: σ) = (f (x0 :: x1 :: x2 :: x3 :: x4 :: x5 :: x6 :: x7 :: x8 :: some (.ol ds) :: σ)).bind fun y => gIx (.lst ds) y := id rfl
theorem ixs9 {x0 x1 x2 x3 x4 x5 x6 x7 x8} {f : FE} {d : D} {σ : DSt} : fIxO 9 f (x0 :: x1 :: x2 :: x3 :: x4 :: x5 :: x6 :: x7 :: x8 :: some (.sh d) :: σ) = (f (x0 :: x1 :: x2 :: x3 :: x4 :: x5 :: x6 :: x7 :: x8 :: some (.sh d) :: σ)).bind fun y => gIx d y := id rfl
theorem fro9 {x0 x1 x2 x3 x4 x5 x6 x7 x8} {g : FS} {ds : List D} {σ : DSt} : fFrz 9 g (x0 :: x1 :: x2 :: x3 :: x4 :: x5 :: x6 :: x7 :: x8 :: some (.ol ds) :: σ) = g (x0 :: x1 :: x2 :: x3 :: x4 :: x5 :: x6 :: x7 :: x8 :: some (.sh (.lst ds)) :: σ) := id rfl
theorem frs9 {x0 x1 x2 x3 x4 x5 x6 x7 x8} {g : FS} {d : D} {σ : DSt} : fFrz 9 g (x0 :: x1 :: x2 :: x3 :: x4 :: x5 :: x6 :: x7 :: x8 :: some (.sh d) :: σ) = g (x0 :: x1 :: x2 :: x3 :: x4 :: x5 :: x6 :: x7 :: x8 :: some (.sh d) :: σ) := id rfl
theorem app10 {x0 x1 x2 x3 x4 x5 x6 x7 x8 x9} {f : FE} {ds : List D} {σ : DSt} : fApp 10 f (x0 :: x1 :: x2 :: x3 :: x4 :: x5 :: x6 :: x7 :: x8 :: x9 :: some (.ol ds) :: σ) = if ds.length < 1000000 then (f (x0 :: x1 :: x2 :: x3 :: x4 :: x5 :: x6 :: x7 :: x8 :: x9 :: some (.ol ds) :: σ)).bind fun d => .ret (.nx (x0 :: x1 :: x2 :: x3 :: x4 :: x5 :: x6 :: x7 :: x8 :: x9 :: some (.ol (ds ++ [d])) :: σ)) else .fail := id rfl
theorem ixo10 {x0 x1 x2 x3 x4 x5 x6 x7 x8 x9} {f : FE} {ds : List D} {σ : DSt} : fIxO 10 f (x0 :: x1 :: x2 :: x3 :: x4 :: x5 :: x6 :: x7 :: x8 :: x9 :: some (.ol ds) :: σ) = (f (x0 :: x1 :: x2 :: x3 :: x4 :: x5 :: x6 :: x7 :: x8 :: x9 :: some (.ol ds) :: σ)).bind fun y => gIx (.lst ds) y := id rfl
theorem ixs10 {x0 x1 x2 x3 x4 x5 x6 x7 x8 x9} {f : FE} {d : D} {σ : DSt} : fIxO 10 f (x0 :: x1 :: x2 :: x3 :: x4 :: x5 :: x6 :: x7 :: x8 :: x9 :: some (.sh d) :: σ) = (f (x0 :: x1 :: x2 :: x3 :: x4 :: x5 :: x6 :: x7 :: x8 :: x9 :: some (.sh d) :: σ)).bind fun y => gIx d y := id rfl
theorem fro10 {x0 x1 x2 x3 x4 x5 x6 x7 x8 x9} {g : FS} {ds : List D} {σ : DSt} : fFrz 10 g (x0 :: x1 :: x2 :: x3 :: x4 :: x5 :: x6 :: x7 :: x8 :: x9 :: some (.ol ds) :: σ) = g (x0 :: x1 :: x2 :: x3 :: x4 :: x5 :: x6 :: x7 :: x8 :: x9 :: some (.sh (.lst ds)) :: σ) := id rfl
theorem frs10 {x0 x1 x2 x3 x4 x5 x6 x7 x8 x9} {g : FS} {d : D} {σ : DSt} : fFrz 10 g (x0 :: x1 :: x2 :: x3 :: x4 :: x5 :: x6 :: x7 :: x8 :: x9 :: some (.sh d) :: σ) = g (x0 :: x1 :: x2 :: x3 :: x4 :: x5 :: x6 :: x7 :: x8 :: x9 :: some (.sh d) :: σ) := id rfl
theorem app11 {x0 x1 x2 x3 x4 x5 x6 x7 x8 x9 x10} {f : FE} {ds : List D} {σ : DSt} : fApp 11 f (x0 :: x1 :: x2 :: x3 :: x4 :: x5 :: x6 :: x7 :: x8 :: x9 :: x10 :: some (.ol ds) :: σ) = if ds.length < 1000000 then (f (x0 :: x1 :: x2 :: x3 :: x4 :: x5 :: x6 :: x7 :: x8 :: x9 :: x10 :: some (.ol ds) :: σ)).bind fun d => .ret (.nx (x0 :: x1 :: x2 :: x3 :: x4 :: x5 :: x6 :: x7 :: x8 :: x9 :: x10 :: some (.ol (ds ++ [d])) :: σ)) else .fail := id rfl
theorem ixo11 {x0 x1 x2 x3 x4 x5 x6 x7 x8 x9 x10} {f : FE} {ds : List D} {σ : DSt} : fIxO 11 f (x0 :: x1 :: x2 :: x3 :: x4 :: x5 :: x6 :: x7 :: x8 :: x9 :: x10 :: some (.ol ds) :: σ) = (f (x0 :: x1 :: x2 :: x3 :: x4 :: x5 :: x6 :: x7 :: x8 :: x9 :: x10 :: some (.ol ds) :: σ)).bind fun y => gIx (.lst ds) y := id rfl
theorem ixs11 {x0 x1 x2 x3 x4 x5 x6 x7 x8 x9 x10} {f : FE} {d : D} {σ : DSt} : fIxO 11 f (x0 :: x1 :: x2 :: x3 :: x4 :: x5 :: x6 :: x7 :: x8 :: x9 :: x10 :: some (.sh d) :: σ) = (f (x0 :: x1 :: x2 :: x3 :: x4 :: x5 :: x6 :: x7 :: x8 :: x9 :: x10 :: some (.sh d) :: σ)).bind fun y => gIx d y := id rfl
theorem fro11 {x0 x1 x2 x3 x4 x5 x6 x7 x8 x9 x10} {g : FS} {ds : List D} {σ : DSt} : fFrz 11 g (x0 :: x1 :: x2 :: x3 :: x4 :: x5 :: x6 :: x7 :: x8 :: x9 :: x10 :: some (.ol ds) :: σ) = g (x0 :: x1 :: x2 :: x3 :: x4 :: x5 :: x6 :: x7 :: x8 :: x9 :: x10 :: some (.sh (.lst ds)) :: σ) := id rfl
theorem frs11 {x0 x1 x2 x3 x4 x5 x6 x7 x8 x9 x10} {g : FS} {d : D} {σ : DSt} : fFrz 11 g (x0 :: x1 :: x2 :: x3 :: x4 :: x5 :: x6 :: x7 :: x8 :: x9 :: x10 :: some (.sh d) :: σ) = g (x0 :: x1 :: x2 :: x3 :: x4 :: x5 :: x6 :: x7 :: x8 :: x9 :: x10 :: some (.sh d) :: σ) := id rfl
theorem app12 {x0 x1 x2 x3 x4 x5 x6 x7 x8 x9 x10 x11} {f : FE} {ds : List D} {σ : DSt} : fApp 12 f (x0 :: x1 :: x2 :: x3 :: x4 :: x5 :: x6 :: x7 :: x8 :: x9 :: x10 :: x11 :: some (.ol ds) :: σ) = if ds.length < 1000000 then (f (x0 :: x1 :: x2 :: x3 :: x4 :: x5 :: x6 :: x7 :: x8 :: x9 :: x10 :: x11 :: some (.ol ds) :: σ)).bind fun d => .ret (.nx (x0 :: x1 :: x2 :: x3 :: x4 :: x5 :: x6 :: x7 :: x8 :: x9 :: x10 :: x11 :: some (.ol (ds ++ [d])) :: σ)) else .fail := id rfl
theorem ixo12 {x0 x1 x2 x3 x4 x5 x6 x7 x8 x9 x10 x11} {f : FE} {ds : List D} {σ : DSt} : fIxO 12 f (x0 :: x1 :: x2 :: x3 :: x4 :: x5 :: x6 :: x7 :: x8 :: x9 :: x10 :: x11 :: some (.ol ds) :: σ) = (f (x0 :: x1 :: x2 :: x3 :: x4 :: x5 :: x6 :: x7 :: x8 :: x9 :: x10 :: x11 :: some (.ol ds) :: σ)).bind fun y => gIx (.lst ds) y := id rfl
theorem ixs12 {x0 x1 x2 x3 x4 x5 x6 x7 x8 x9 x10 x11} {f : FE} {d : D} {σ : DSt} : fIxO 12 f (x0 :: x1 :: x2 :: x3 :: x4 :: x5 :: x6 :: x7 :: x8 :: x9 :: x10 :: x11 :: some (.sh d) :: σ) = (f (x0 :: x1 :: x2 :: x3 :: x4 :: x5 :: x6 :: x7 :: x8 :: x9 :: x10 :: x11 :: some (.sh d) :: σ)).bind fun y => gIx d y := id rfl
theorem fro12 {x0 x1 x2 x3 x4 x5 x6 x7 x8 x9 x10 x11} {g : FS} {ds : List D} {σ : DSt} : fFrz 12 g (x0 :: x1 :: x2 :: x3 :: x4 :: x5 :: x6 :: x7 :: x8 :: x9 :: x10 :: x11 :: some (.ol ds) :: σ) = g (x0 :: x1 :: x2 :: x3 :: x4 :: x5 :: x6 :: x7 :: x8 :: x9 :: x10 :: x11 :: some (.sh (.lst ds)) :: σ) := id rfl
theorem frs12 {x0 x1 x2 x3 x4 x5 x6 x7 x8 x9 x10 x11} {g : FS} {d : D} {σ : DSt} : fFrz 12 g (x0 :: x1 :: x2 :: x3 :: x4 :: x5 :: x6 :: x7 :: x8 :: x9 :: x10 :: x11 :: some (.sh d) :: σ) = g (x0 :: x1 :: x2 :: x3 :: x4 :: x5 :: x6 :: x7 :: x8 :: x9 :: x10 :: x11 :: some (.sh d) :: σ) := id rfl
theorem app13 {x0 x1 x2 x3 x4 x5 x6 x7 x8 x9 x10 x11 x12} {f : FE} {ds : List D} {σ : DSt} : fApp 13 f (x0 :: x1 :: x2 :: x3 :: x4 :: x5 :: x6 :: x7 :: x8 :: x9 :: x10 :: x11 :: x12 :: some (.ol ds) :: σ) = if ds.length < 1000000 then (f (x0 :: x1 :: x2 :: x3 :: x4 :: x5 :: x6 :: x7 :: x8 :: x9 :: x10 :: x11 :: x12 :: some (.ol ds) :: σ)).bind fun d => .ret (.nx (x0 :: x1 :: x2 :: x3 :: x4 :: x5 :: x6 :: x7 :: x8 :: x9 :: x10 :: x11 :: x12 :: some (.ol (ds ++ [d])) :: σ)) else .fail := id rfl
theorem ixo13 {x0 x1 x2 x3 x4 x5 x6 x7 x8 x9 x10 x11 x12} {f : FE} {ds : List D} {σ : DSt} : fIxO 13 f (x0 :: x1 :: x2 :: x3 :: x4 :: x5 :: x6 :: x7 :: x8 :: x9 :: x10 :: x11 :: x12 :: some (.ol ds) :: σ) = (f (x0 :: x1 :: x2 :: x3 :: x4 :: x5 :: x6 :: x7 :: x8 :: x9 :: x10 :: x11 :: x12 :: some (.ol ds) :: σ)).bind fun y => gIx (.lst ds) y := id rfl
theorem ixs13 {x0 x1 x2 x3 x4 x5 x6 x7 x8 x9 x10 x11 x12} {f : FE} {d : D} {σ : DSt} : fIxO 13 f (x0 :: x1 :: x2 :: x3 :: x4 :: x5 :: x6 :: x7 :: x8 :: x9 :: x10 :: x11 :: x12 :: some (.sh d) :: σ) = (f (x0 :: x1 :: x2 :: x3 :: x4 :: x5 :: x6 :: x7 :: x8 :: x9 :: x10 :: x11 :: x12 :: some (.sh d) :: σ)).bind fun y => gIx d y := id rfl
theorem fro13 {x0 x1 x2 x3 x4 x5 x6 x7 x8 x9 x10 x11 x12} {g : FS} {ds : List D} {σ : DSt} : fFrz 13 g (x0 :: x1 :: x2 :: x3 :: x4 :: x5 :: x6 :: x7 :: x8 :: x9 :: x10 :: x11 :: x12 :: some (.ol ds) :: σ) = g (x0 :: x1 :: x2 :: x3 :: x4 :: x5 :: x6 :: x7 :: x8 :: x9 :: x10 :: x11 :: x12 :: some (.sh (.lst ds)) :: σ) := id rfl
theorem frs13 {x0 x1 x2 x3 x4 x5 x6 x7 x8 x9 x10 x11 x12} {g : FS} {d : D} {σ : DSt} : fFrz 13 g (x0 :: x1 :: x2 :: x3 :: x4 :: x5 :: x6 :: x7 :: x8 :: x9 :: x10 :: x11 :: x12 :: some (.sh d) :: σ) = g (x0 :: x1 :: x2 :: x3 :: x4 :: x5 :: x6 :: x7 :: x8 :: x9 :: x10 :: x11 :: x12 :: some (.sh d) :: σ) := id rfl
theorem app14 {x0 x1 x2 x3 x4 x5 x6 x7 x8 x9 x10 x11 x12 x13} {f : FE} {ds : List D} {σ : DSt} : fApp 14 f (x0 :: x1 :: x2 :: x3 :: x4 :: x5 :: x6 :: x7 :: x8 :: x9 :: x10 :: x11 :: x12 :: x13 :: some (.ol ds) :: σ) = if ds.length < 1000000 then (f (x0 :: x1 :: x2 :: x3 :: x4 :: x5 :: x6 :: x7 :: x8 :: x9 :: x10 :: x11 :: x12 :: x13 :: some (.ol ds) :: σ)).bind fun d => .ret (.nx (x0 :: x1 :: x2 :: x3 :: x4 :: x5 :: x6 :: x7 :: x8 :: x9 :: x10 :: x11 :: x12 :: x13 :: some (.ol (ds ++ [d])) :: σ)) else .fail := id rfl
theorem ixo14 {x0 x1 x2 x3 x4 x5 x6 x7 x8 x9 x10 x11 x12 x13} {f : FE} {ds : List D} {σ : DSt} : fIxO 14 f (x0 :: x1 :: x2 :: x3 :: x4 :: x5 :: x6 :: x7 :: x8 :: x9 :: x10 :: x11 :: x12 :: x13 :: some (.ol ds) :: σ) = (f (x0 :: x1 :: x2 :: x3 :: x4 :: x5 :: x6 :: x7 :: x8 :: x9 :: x10 :: x11 :: x12 :: x13 :: some (.ol ds) :: σ)).bind fun y => gIx (.lst ds) y := id rfl
theorem ixs14 {x0 x1 x2 x3 x4 x5 x6 x7 x8 x9 x10 x11 x12 x13} {f : FE} {d : D} {σ : DSt} : fIxO 14 f (x0 :: x1 :: x2 :: x3 :: x4 :: x5 :: x6 :: x7 :: x8 :: x9 :: x10 :: x11 :: x12 :: x13 :: some (.sh d) :: σ) = (f (x0 :: x1 :: x2 :: x3 :: x4 :: x5 :: x6 :: x7 :: x8 :: x9 :: x10 :: x11 :: x12 :: x13 :: some (.sh d) :: σ)).bind fun y => gIx d y := id rfl
theorem fro14 {x0 x1 x2 x3 x4 x5 x6 x7 x8 x9 x10 x11 x12 x13} {g : FS} {ds : List D} {σ : DSt} : fFrz 14 g (x0 :: x1 :: x2 :: x3 :: x4 :: x5 :: x6 :: x7 :: x8 :: x9 :: x10 :: x11 :: x12 :: x13 :: some (.ol ds) :: σ) = g (x0 :: x1 :: x2 :: x3 :: x4 :: x5 :: x6 :: x7 :: x8 :: x9 :: x10 :: x11 :: x12 :: x13 :: some (.sh (.lst ds)) :: σ) := id rfl
theorem frs14 {x0 x1 x2 x3 x4 x5 x6 x7 x8 x9 x10 x11 x12 x13} {g : FS} {d : D} {σ : DSt} : fFrz 14 g (x0 :: x1 :: x2 :: x3 :: x4 :: x5 :: x6 :: x7 :: x8 :: x9 :: x10 :: x11 :: x12 :: x13 :: some (.sh d) :: σ) = g (x0 :: x1 :: x2 :: x3 :: x4 :: x5 :: x6 :: x7 :: x8 :: x9 :: x10 :: x11 :: x12 :: x13 :: some (.sh d) :: σ) := id rfl
theorem app15 {x0 x1 x2 x3 x4 x5 x6 x7 x8 x9 x10 x11 x12 x13 x14} {f : FE} {ds : List D} {σ : DSt} : fApp 15 f (x0 :: x1 :: x2 :: x3 :: x4 :: x5 :: x6 :: x7 :: x8 :: x9 :: x10 :: x11 :: x12 :: x13 :: x14 :: some (.ol ds) :: σ) = if ds.length < 1000000 then (f (x0 :: x1 :: x2 :: x3 :: x4 :: x5 :: x6 :: x7 :: x8 :: x9 :: x10 :: x11 :: x12 :: x13 :: x14 :: some (.ol ds) :: σ)).bind fun d => .ret (.nx (x0 :: x1 :: x2 :: x3 :: x4 :: x5 :: x6 :: x7 :: x8 :: x9 :: x10 :: x11 :: x12 :: x13 :: x14 :: some (.ol (ds ++ [d])) :: σ)) else .fail := id rfl
theorem ixo15 {x0 x1 x2 x3 x4 x5 x6 x7 x8 x9 x10 x11 x12 x13 x14} {f : FE} {ds : List D} {σ : DSt} : fIxO 15 f (x0 :: x1 :: x2 :: x3 :: x4 :: x5 :: x6 :: x7 :: x8 :: x9 :: x10 :: x11 :: x12 :: x13 :: x14 :: some (.ol ds) :: σ) = (f (x0 :: x1 :: x2 :: x3 :: x4 :: x5 :: x6 :: x7 :: x8 :: x9 :: x10 :: x11 :: x12 :: x13 :: x14 :: some (.ol ds) :: σ)).bind fun y => gIx (.lst ds) y := id rfl
theorem ixs15 {x0 x1 x2 x3 x4 x5 x6 x7 x8 x9 x10 x11 x12 x13 x14} {f : FE} {d : D} {σ : DSt} : fIxO 15 f (x0 :: x1 :: x2 :: x3 :: x4 :: x5 :: x6 :: x7 :: x8 :: x9 :: x10 :: x11 :: x12 :: x13 :: x14 :: some (.sh d) :: σ) = (f (x0 :: x1 :: x2 :: x3 :: x4 :: x5 :: x6 :: x7 :: x8 :: x9 :: x10 :: x11 :: x12 :: x13 :: x14 :: some (.sh d) :: σ)).bind fun y => gIx d y := id rfl
theorem fro15 {x0 x1 x2 x3 x4 x5 x6 x7 x8 x9 x10 x11 x12 x13 x14} {g : FS} {ds : List D} {σ : DSt} : fFrz 15 g (x0 :: x1 :: x2 :: x3 :: x4 :: x5 :: x6 :: x7 :: x8 :: x9 :: x10 :: x11 :: x12 :: x13 :: x14 :: some (.ol ds) :: σ) = g (x0 :: x1 :: x2 :: x3 :: x4 :: x5 :: x6 :: x7 :: x8 :: x9 :: x10 :: x11 :: x12 :: x13 :: x14 :: some (.sh (.lst ds)) :: σ) := id rfl
theorem frs15 {x0 x1 x2 x3 x4 x5 x6 x7 x8 x9 x10 x11 x12 x13 x14} {g : FS} {d : D} {σ : DSt} : fFrz 15 g (x0 :: x1 :: x2 :: x3 :: x4 :: x5 :: x6 :: x7 :: x8 :: x9 :: x10 :: x11 :: x12 :: x13 :: x14 :: some (.sh d) :: σ) = g (x0 :: x1 :: x2 :: x3 :: x4 :: x5 :: x6 :: x7 :: x8 :: x9 :: x10 :: x11 :: x12 :: x13 :: x14 :: some (.sh d) :: σ) := id rfl
end L3

set_option Elab.async false
set_option linter.all false
set_option maxRecDepth 100000
set_option maxHeartbeats 4000000
namespace K30
open PySem L2 L3
def top (i : Nat) : Stmt := PySem.Challenge.pw_digitway_k30_bounds.main.body.getD i (.Pass ⟨0, 0, 0, 0⟩)
def CS : List Str := ["Number"]
def HI (c c' : Str) : Bool := decide (c = c')
def FL (c : Str) : List Str := if c = "Number" then ["own_shape", "own_sign", "own_significand", "own_exponent", "state"] else if c = "Decimal" then ["own_digits", "own_power", "own_sign"] else []
theorem ifF {c : Bool} {A B : Prop} (h : c = false) (hb : B) : if c = true then A else B := ifF' h hb
theorem ifT {c : Bool} {A B : Prop} (h : c = true) (ha : A) : if c = true then A else B := ifT' h ha
local macro_rules | `(tactic| walk_at "rd") => `(tactic| simp only [tSeq, tAsg, tRet, tDrop, tNext, tOp, tUn, tVar, tC, gName, rI, rI0, rU, tTest, tB, tIfS, tIf, tAnd, tOr, tNot, tAndV, tOrV, tNotV, tCons, tNil, tCall, tCB, tLst, tTup, tDGet, sDPut, rEq, rNe, gSub, rSetL, gTup, gCons, gNil,
  L2.start, List.map_cons, List.map_nil, List.length_cons, List.length_nil, List.cons_append, List.nil_append, List.append_nil, Nat.reduceAdd, Nat.reduceSub, List.replicate_succ, List.replicate_zero,
  List.getElem?_cons_zero, List.getElem?_cons_succ, List.set_cons_zero, List.set_cons_succ, Option.some.injEq, V.int.injEq, V.ref.injEq, V.bl.injEq, List.cons.injEq, and_true, true_and, exists_eq_left', exists_eq_left, exists_and_left, exists_and_right, and_assoc])
abbrev st_l_mixed : Stmt := top 31
theorem sc_l_mixed : FnScope ["_law_cell", "_law_j", "_law_turned"] ["_law_cell", "_law_j"] (defScope st_l_mixed) := ⟨rfl, rfl, rfl, by decide +kernel, rfl, by decide +kernel, by decide +kernel⟩
abbrev st_l_folded : Stmt := top 32
theorem sc_l_folded : FnScope ["_law_script", "_law_found", "_law_j", "_law_cell"] ["_law_script"] (defScope st_l_folded) := ⟨rfl, rfl, rfl, by decide +kernel, rfl, by decide +kernel, by decide +kernel⟩
abbrev st_l_draw : Stmt := top 33
theorem sc_l_draw : FnScope ["_law_m", "_law_top", "_law_j", "_law_spot", "_law_cell"] ["_law_m", "_law_top"] (defScope st_l_draw) := ⟨rfl, rfl, rfl, by decide +kernel, rfl, by decide +kernel, by decide +kernel⟩
abbrev st_l_begun : Stmt := top 34
theorem sc_l_begun : FnScope ["_law_script", "_law_m", "_law_cell"] ["_law_script"] (defScope st_l_begun) := ⟨rfl, rfl, rfl, by decide +kernel, rfl, by decide +kernel, by decide +kernel⟩
section
variable {P : Program} {w : World} {K : PySem.W.Frag} {mg : Str → Option Value} {base : Heap}
def spMixed : Sp := fun vs H Q _ => ∃ (c : Int) (k : Int), vs = [.int c, .int k] ∧ 0 ≤ c ∧ c < 2 ^ 63 ∧ 0 ≤ k ∧ k < 2 ^ 41 ∧ ∀ r, 0 ≤ r → r < 2147483648 → Q (.int r) H
theorem ok_mixed {f : Addr} {fd : FuncData} (F : Fun K "_law_mixed" "_law_mixed" st_l_mixed f fd) : FnOk P w K mg base CX0 1 f fd ["_law_cell", "_law_j"] spMixed := by
  refine F.okW sc_l_mixed (fun vs H Q E h => ?_) (fun cdv A outer s H vs Q E hr h => ?_)
  · obtain ⟨c, k, rfl, _⟩ := h
    rfl
  · obtain ⟨c, k, rfl, c0, c1, k0, k1, q⟩ := h
    refine ⟨_, (wss_cons (ws_set (i := 2) sc_l_mixed.nd rfl (Or.inl rfl) (we_op op_add (we_op op_add (we_op op_mod (we_op op_mul (we_op op_mul (wv 0) (we_op op_add we_int (we_op op_mul we_int (wv 1)))) we_int) we_int) (we_op op_mul (we_op op_mul we_int (wv 1)) (wv 1))) (we_op op_mul we_int (wv 1))))
        (wss_one (ws_ret (we_op op_fdiv (we_op op_mod (we_op op_mul (wv 2) we_int) we_int) we_int)))), ?_⟩
    walk_at "rd"
    refine ⟨.inl ⟨by decide, by decide⟩, .inl ⟨by omega, by omega⟩, .inr ⟨by decide, by decide⟩, by decide, .inl ⟨by decide, by decide⟩, .inr ⟨by omega, by omega⟩, .inl ⟨by decide, by decide⟩, .inr ⟨by decide, by decide⟩, by decide, ⟨by decide, by decide⟩, q _ ?_ ?_⟩
    all_goals
      generalize (c * (1 + 2 * k) * 48271 % 2147483647 + 7919 * k * k + 104729 * k) * 69621 = z
      omega
/-! ### the numbers into which a script is folded -/
theorem Cells_set {cs : List Int} (h : Cells cs) (j : Nat) {y : Int} (h0 : 0 ≤ y) (h1 : y < 2147483648) : Cells (cs.set j y) := by
  refine ⟨by rw [List.length_set]; exact h.1, fun x hx => ?_⟩
  rcases List.mem_or_eq_of_mem_set hx with z | z
  · exact h.2 x z
  · subst z; exact ⟨h0, h1⟩
theorem set_map (cs : List Int) (j : Nat) (y : Int) : (cs.map V.int).set j (.int y) = (cs.set j y).map V.int := by rw [List.map_set]
theorem at_map {cs : List Int} {j : Nat} (h : j < cs.length) : (cs.map V.int)[j]? = some (.int cs[j]) := by
  rw [List.getElem?_map, List.getElem?_eq_getElem h]
  rfl
theorem atI_map {cs : List Int} {j : Nat} (h : j < cs.length) : atI (cs.map V.int) (j : Int) = some (.int cs[j]) := atI_nat (at_map h)
theorem ixN_of {n j : Nat} (h : j < n) : ixN n (j : Int) = some j := by
  unfold ixN
  rw [if_pos (Int.natCast_nonneg _), if_pos (by omega), Int.toNat_natCast]
def spFolded (K : PySem.W.Frag) : Sp := fun vs H Q _ => ∃ (a : Addr) (ns : List Int), vs = [.ref a] ∧ SqL K H a (ns.map V.int) ∧ ∀ (c : Addr) (cs : List Int) (H' : Hp), Same H H' → H c = none → Cells cs → H' c = some (.lst (cs.map V.int)) → Q (.ref c) H'
theorem ok_folded {f : Addr} {fd : FuncData} (F : Fun K "_law_folded" "_law_folded" st_l_folded f fd) (nb_range : mg "range" = none) (nb_enumerate : mg "enumerate" = none) : FnOk P w K mg base CX0 1 f fd ["_law_script"] (spFolded K) := by
  refine F.okW sc_l_folded (fun vs H Q E h => ?_) (fun cdv A outer s H vs Q E hr h => ?_)
  · obtain ⟨a, ns, rfl, _⟩ := h
    rfl
  · obtain ⟨a, ns, rfl, hS, q⟩ := h
    refine ⟨_, (wss_cons (ws_setLc (i := 1) (own := [("_law_j", 2)]) (g := gName 2) (by rfl) sc_l_folded.nd rfl rfl (sw_true rfl rfl rfl (by decide +kernel)) (wi_range1 (by rfl) nb_range (wa_cons we_int wa_nil)) (blkOk_by (own := [("_law_j", 2)]) (N := ["_law_script", "_law_found", "_law_j", "_law_cell"]) (sc := defScope st_l_folded) (by decide +kernel)) (fun _ _ _ _ _ => wg_name (i := 2) sc_l_folded.nd rfl (Or.inl rfl)) (fun _ _ _ _ _ => wts_nil) (fun _ _ _ _ _ => (we_op op_add we_int (wv 2))))
        (wss_cons (ws_for rfl (wi_enum (by rfl) nb_enumerate (wa_cons (wv 0) wa_nil)) (wg_tup (n := 2) (by rfl) (wgs_cons (wg_name (i := 2) sc_l_folded.nd rfl (Or.inl rfl)) (wgs_cons (wg_name (i := 3) sc_l_folded.nd rfl (Or.inl rfl)) wgs_nil))) (wss_one (ws_asg (we_op op_mod (we_op op_add (we_op op_mul (we_ix ix_list (wv 1) (we_op op_mod (wv 2) we_int) (fun _ _ => rfl)) we_int) (wv 3)) we_int) (wg_sub (wv 1) (we_op op_mod (wv 2) we_int) set_list))))
        (wss_cons (ws_for rfl (wi_range2 (by rfl) nb_range (wa_cons we_int (wa_cons we_int wa_nil))) (wg_name (i := 2) sc_l_folded.nd rfl (Or.inl rfl)) (wss_one (ws_asg (we_op op_mod (we_op op_add (we_ix ix_list (wv 1) (wv 2) (fun _ _ => rfl)) (we_op op_mul (we_ix ix_list (wv 1) (we_op op_sub (wv 2) we_int) (fun _ _ => rfl)) we_int)) we_int) (wg_sub (wv 1) (wv 2) set_list))))
        (wss_one (ws_ret (wv 1)))))), ?_⟩
    -- found = [17 + k for k in range(64)]
    refine ⟨64, rfl, by decide, by decide, fun D hD => lc_range (lo := 0) (n := 64) (fun i H2 => ∃ cs : List Int, H2 = upd H D (.lst (cs.map V.int)) ∧ cs.length = i ∧ ∀ x ∈ cs, 0 ≤ x ∧ x < 2147483648) ⟨[], rfl, rfl, fun _ z => nomatch z⟩ ?_ ?_⟩
    · rintro i H2 hi ⟨cs, rfl, hl, hb⟩
      refine ⟨rfl, ?_⟩
      refine ⟨_, rfl, _, _, rfl, rfl, _, upd_same, ?_, cs ++ [17 + (0 + (i : Int))], ?_, ?_, ?_⟩
      · rw [List.length_map, hl, sizeLine_eq]; omega
      · rw [upd_upd, List.map_append]; rfl
      · rw [List.length_append, hl]; rfl
      · intro x hx
        rcases List.mem_append.mp hx with z | z
        · exact hb x z
        · have : x = 17 + (0 + (i : Int)) := by simpa using z
          omega
    rintro H2 ⟨cs0, rfl, hl0, hb0⟩
    have s0 : Same H (upd H D (.lst (cs0.map V.int))) := fun c o e => by rw [upd_ne (ne_of_none e hD)]; exact e
    -- for k, cell in enumerate(script)
    refine ⟨_, rfl, a, _, rfl, s0.seq hS, for_enum (K := K) (a := a) (xs := ns.map V.int) (fun i σ H2 => ∃ (cs : List Int) (v1 v2 : Option V), σ = [some (.ref a), some (.ref D), v1, v2] ∧ Same H H2 ∧ H2 D = some (.lst (cs.map V.int)) ∧ Cells cs)
      ⟨cs0, none, none, rfl, s0, upd_same, hl0, hb0⟩ (fun i σ H2 _ ⟨_, _, _, _, s2, _⟩ => s2.seq hS) ?_ ?_⟩
    · rintro i x σ H2 T hx ⟨cs, v1, v2, rfl, s2, hD2, hC⟩ hT
      have hin : i < ns.length := by
        have := (List.getElem?_eq_some_iff.mp hx).1
        rwa [List.length_map] at this
      obtain rfl : x = .int ns[i] := by
        rw [at_map hin] at hx
        exact (Option.some.inj hx).symm
      have hj : i % 64 < cs.length := by rw [hC.1]; omega
      have ek : ((i : Nat) : Int) % 64 = ((i % 64 : Nat) : Int) := by omega
      have hD3 : (upd H2 T (.tup [.int (i : Nat), .int ns[i]])) D = some (.lst (cs.map V.int)) := by rw [upd_ne (ne_of_none hD2 hT)]; exact hD2
      refine ⟨T, _, rfl, SqT.of upd_same, rfl, _, _, rfl, _, _, rfl, rfl, ?_⟩
      refine ⟨_, rfl, _, rfl, _, _, rfl, rfl, (show (0 : Int) < 64 by decide), D, _, _, .int cs[i % 64], rfl, rfl, SqL.of hD3, ?_, _, _, rfl, rfl, .inr ⟨by decide, by decide⟩, _, rfl, _, _, rfl, rfl, _, _, rfl, rfl, (show (0 : Int) < 2147483647 by decide), ?_⟩
      · rw [ek]; exact atI_map hj
      refine ⟨_, rfl, _, rfl, _, _, rfl, rfl, (show (0 : Int) < 64 by decide), D, _, _, i % 64, rfl, rfl, hD3, ?_, ?_⟩
      · rw [ek, List.length_map]; exact ixN_of hj
      refine ⟨cs.set (i % 64) ((cs[i % 64] * 48271 + ns[i]) % 2147483647), _, _, rfl, ?_, ?_, Cells_set hC _ (by omega) (by omega)⟩
      · intro c o e
        have hc : c ≠ D := ne_of_none e hD
        rw [upd_ne hc, upd_ne (ne_of_none (s2 c o e) hT)]
        exact s2 c o e
      · rw [upd_same, ← set_map]
    rintro σ H2 ⟨cs1, v1, v2, rfl, s2, hD2, hC1⟩
    -- for k in range(1, 64)
    refine ⟨1, 64, rfl, ⟨by decide, by decide, by decide, by decide⟩, for_range (lo := 1) (n := (64 - 1 : Int).toNat) (fun i σ H2 => ∃ (cs : List Int) (v1 v2 : Option V), σ = [some (.ref a), some (.ref D), v1, v2] ∧ Same H H2 ∧ H2 D = some (.lst (cs.map V.int)) ∧ Cells cs)
      ⟨cs1, _, _, rfl, s2, hD2, hC1⟩ ?_ ?_⟩
    · rintro i σ H3 hi ⟨cs, v1, v2, rfl, s3, hD3, hC⟩
      have hi' : i < 63 := hi
      have hl := hC.1
      have ek : (1 : Int) + (i : Nat) = ((1 + i : Nat) : Int) := by omega
      have ek1 : (1 : Int) + (i : Nat) - 1 = ((i : Nat) : Int) := by omega
      have h1 : 1 + i < cs.length := by omega
      have h2 : i < cs.length := by omega
      have b1 := hC.2 cs[1 + i] (List.getElem_mem h1)
      have b2 := hC.2 cs[i] (List.getElem_mem h2)
      refine ⟨_, rfl, _, rfl, D, _, _, .int cs[1 + i], rfl, rfl, SqL.of hD3, ?_, _, rfl, _, rfl, _, _, rfl, rfl, D, _, _, .int cs[i], rfl, rfl, SqL.of hD3, ?_, _, _, rfl, rfl, .inr ⟨by decide, by decide⟩, _, _, rfl, rfl, _, _, rfl, rfl, (show (0 : Int) < 2147483647 by decide), ?_⟩
      · rw [ek]; exact atI_map h1
      · rw [ek1]; exact atI_map h2
      refine ⟨_, rfl, _, rfl, D, _, _, 1 + i, rfl, rfl, hD3, ?_, ?_⟩
      · rw [ek, List.length_map]; exact ixN_of h1
      refine ⟨cs.set (1 + i) ((cs[1 + i] + cs[i] * 16807) % 2147483647), _, _, rfl, ?_, ?_, Cells_set hC _ (by omega) (by omega)⟩
      · intro c o e
        rw [upd_ne (ne_of_none e hD)]
        exact s3 c o e
      · rw [upd_same, ← set_map]
    · rintro σ H3 ⟨cs, v1, v2, rfl, s3, hD3, hC⟩
      exact ⟨_, rfl, q D cs H3 s3 hD hC hD3⟩
/-! ### data of ints -/
theorem lay_ints : ∀ ns : List Int, PyData.canLayAll0 (ns.map PyData.int) = true
  | [] => by simp [PyData.canLayAll0]
  | n :: ns => by simp [PyData.canLayAll0, PyData.canLay0, lay_ints ns]
theorem dep_ints : ∀ ns : List Int, PyData.depthAll (ns.map PyData.int) = 0
  | [] => by simp [PyData.depthAll]
  | n :: ns => by simp [PyData.depthAll, PyData.depth, dep_ints ns]
theorem shaped_ints (ns : List Int) : SeqAt.shaped (.list (ns.map PyData.int)) = true := by
  unfold SeqAt.shaped
  simp [PyData.canLay0, PyData.depth, lay_ints, dep_ints]
theorem dp_ints {K : PySem.W.Frag} {H : Hp} : ∀ ns : List Int, DpAll K H (ns.map V.int) (ns.map PyData.int)
  | [] => .nil
  | n :: ns => .cons (.int n) (dp_ints ns)
theorem eqv_nil : ∀ ns : List Int, PyData.eqv (.list (ns.map PyData.int)) (.list []) = ns.isEmpty
  | [] => by simp [PyData.eqv, PyData.eqvAll]
  | n :: ns => by simp [PyData.eqv, PyData.eqvAll]
/-! ### what all is drawn by -/
theorem m1 : ¬ (("cells" : Str) = ("next" : Str)) := by decide +kernel
theorem n1 : ¬ ((Sum.inr "cells" : Key) = (Sum.inr "next" : Key)) := fun z => m1 (Sum.inr.inj z)
theorem m2 : ¬ (("left" : Str) = ("next" : Str)) := by decide +kernel
theorem n2 : ¬ ((Sum.inr "left" : Key) = (Sum.inr "next" : Key)) := fun z => m2 (Sum.inr.inj z)
theorem m3 : ¬ (("cells" : Str) = ("left" : Str)) := by decide +kernel
theorem n3 : ¬ ((Sum.inr "cells" : Key) = (Sum.inr "left" : Key)) := fun z => m3 (Sum.inr.inj z)
theorem m4 : ¬ (("next" : Str) = ("left" : Str)) := by decide +kernel
theorem n4 : ¬ ((Sum.inr "next" : Key) = (Sum.inr "left" : Key)) := fun z => m4 (Sum.inr.inj z)
theorem val_spot (c l : Addr) (k : Int) : valV (mkv c l k) (Sum.inr "next") = some (.int k) := by
  unfold mkv
  rw [valV_neg n1, valV_neg n2, valV_pos rfl]
theorem val_left (c l : Addr) (k : Int) : valV (mkv c l k) (Sum.inr "left") = some (.ref l) := by
  unfold mkv
  rw [valV_neg n3, valV_pos rfl]
theorem val_cells (c l : Addr) (k : Int) : valV (mkv c l k) (Sum.inr "cells") = some (.ref c) := by
  unfold mkv
  rw [valV_pos rfl]
theorem put_spot (c l : Addr) (k y : Int) : putK (mkv c l k) (Sum.inr "next") (.int y) = mkv c l y := by
  unfold putK
  rw [valV_any, val_spot]
  simp [mkv, m1, m2]
theorem put_left (c l l' : Addr) (k : Int) : putK (mkv c l k) (Sum.inr "left") (.ref l') = mkv c l' k := by
  unfold putK
  rw [valV_any, val_left]
  simp [mkv, m3, m4]
theorem get_spot {H : Hp} {m c l : Addr} {k : Int} (h : H m = some (.dK (mkv c l k))) : DGet H m (.str "next") (some (.int k)) := by
  have z := DGet.k (k := Sum.inr "next") h
  rw [val_spot] at z
  exact z
theorem get_left {H : Hp} {m c l : Addr} {k : Int} (h : H m = some (.dK (mkv c l k))) : DGet H m (.str "left") (some (.ref l)) := by
  have z := DGet.k (k := Sum.inr "left") h
  rw [val_left] at z
  exact z
theorem get_cells {H : Hp} {m c l : Addr} {k : Int} (h : H m = some (.dK (mkv c l k))) : DGet H m (.str "cells") (some (.ref c)) := by
  have z := DGet.k (k := Sum.inr "cells") h
  rw [val_cells] at z
  exact z
theorem set_spot {H : Hp} {m c l : Addr} {k y : Int} (h : H m = some (.dK (mkv c l k))) : DPut H m (.str "next") (.int y) (upd H m (.dK (mkv c l y))) := by
  have z := DPut.k (k := Sum.inr "next") (v := .int y) h (by rw [sizeLine_eq]; show 3 < 16777216; decide)
  rw [put_spot] at z
  exact z
theorem set_left {H : Hp} {m c l l' : Addr} {k : Int} (h : H m = some (.dK (mkv c l k))) : DPut H m (.str "left") (.ref l') (upd H m (.dK (mkv c l' k))) := by
  have z := DPut.k (k := Sum.inr "left") (v := .ref l') h (by rw [sizeLine_eq]; show 3 < 16777216; decide)
  rw [put_left] at z
  exact z
theorem ok_draw {f : Addr} {fd : FuncData} (F : Fun K "_law_draw" "_law_draw" st_l_draw f fd) (nb_len : mg "len" = none) (C__law_mixed : Cal P w K mg base 1 "_law_mixed" ["_law_cell", "_law_j"] spMixed) : FnOk P w K mg base CX0 2 f fd ["_law_m", "_law_top"] spDraw0 := by
  refine F.okW sc_l_draw (fun vs H Q E h => ?_) (fun cdv A outer s H vs Q E hr h => ?_)
  · obtain ⟨m, c, l, n, t, rfl, _⟩ := h
    rfl
  · obtain ⟨m, c, l, n, t, rfl, ⟨⟨k, cs, ls, hk, hm, hc, hC, hl, hls⟩, ncl⟩, hn, t0, t1, q⟩ := h
    have nmc : m ≠ c := ne_of hm hc (by intro z; cases z)
    have nml : m ≠ l := ne_of hm hl (by intro z; cases z)
    refine ⟨_, (wss_cons (ws_set (i := 2) sc_l_draw.nd rfl (Or.inl rfl) (we_dget (hu_of hr) (wv 0) we_str (fun _ _ => rfl)))
        (wss_cons (ws_dput (hu_of hr) (wv 0) we_str (we_op op_add (wv 2) we_int) rfl)
        (wss_cons (ws_if (wt_cmpR (op_neD hr.units) (we_dget (hu_of hr) (wv 0) we_str (fun _ _ => rfl)) (we_lstA wa_nil) (nomark _)) (wss_cons (ws_set (i := 3) sc_l_draw.nd rfl (Or.inl rfl) (we_op op_mod (wv 2) (we_callB call_len_seq (by rfl) nb_len (by decide +kernel) (wa_cons (we_dget (hu_of hr) (wv 0) we_str (fun _ _ => rfl)) wa_nil))))
        (wss_cons (ws_set (i := 4) sc_l_draw.nd rfl (Or.inl rfl) (we_ix ix_list (we_dget (hu_of hr) (wv 0) we_str (fun _ _ => rfl)) (wv 3) (fun _ _ => rfl)))
        (wss_one (ws_if (wt_cmpR op_gt (wv 4) we_int (nomark _)) (wss_cons (ws_asg (we_op op_fdiv (wv 4) (wv 1)) (wg_sub (we_dget (hu_of hr) (wv 0) we_str (fun _ _ => rfl)) (wv 3) set_list))
        (wss_one (ws_ret (we_op op_mod (wv 4) (wv 1))))) wss_nil)))) wss_nil)
        (wss_one (ws_ret (we_op op_mod (we_cal C__law_mixed (hr.mono (by decide)) (by rfl) (wa_cons (we_cal C__law_mixed (hr.mono (by decide)) (by rfl) (wa_cons (we_op op_add (we_ix ix_list (we_dget (hu_of hr) (wv 0) we_str (fun _ _ => rfl)) (we_op op_mod (wv 2) we_int) (fun _ _ => rfl)) (we_op op_mul we_int (we_op op_fdiv (wv 2) we_int))) (wa_cons (wv 2) wa_nil))) (wa_cons (we_op op_add (wv 2) we_int) wa_nil))) (wv 1))))))), ?_⟩
    -- k = m['spot']; m['spot'] = k + 1
    refine ⟨_, rfl, m, _, rfl, get_spot hm, _, rfl, _, _, rfl, rfl, _, rfl, m, _, rfl, set_spot hm, ?_⟩
    have hm1 : (upd H m (.dK (mkv c l ((k : Int) + 1)))) m = some (.dK (mkv c l ((k : Int) + 1))) := upd_same
    have hc1 : (upd H m (.dK (mkv c l ((k : Int) + 1)))) c = some (.lst (cs.map V.int)) := by rw [upd_ne nmc.symm]; exact hc
    have hl1 : (upd H m (.dK (mkv c l ((k : Int) + 1)))) l = some (.lst (ls.map V.int)) := by rw [upd_ne nml.symm]; exact hl
    have kp1 : Keep m l H (upd H m (.dK (mkv c l ((k : Int) + 1)))) := fun b o e h1 _ => by rw [upd_ne h1]; exact e
    have sz1 : ∀ b, (upd H m (.dK (mkv c l ((k : Int) + 1)))) b = none → H b = none := fun b e => by
      by_cases hb : b = m
      · subst hb; rw [upd_same] at e; cases e
      · rwa [upd_ne hb] at e
    generalize upd H m (.dK (mkv c l ((k : Int) + 1))) = H1 at *
    -- if m['left'] != []
    refine ⟨_, rfl, m, _, rfl, get_left hm1, by decide, fun p H2 hp s2 e2 => ⟨.list (ls.map PyData.int), .list [], ?_, ?_, shaped_ints ls, shaped_ints [], _, rfl, ?_⟩⟩
    · exact .lst (SqL.of (s2 _ _ hl1)) (dp_ints ls)
    · exact .lst (SqL.of e2) .nil
    have hm2 := s2 _ _ hm1
    have hc2 := s2 _ _ hc1
    have hl2 := s2 _ _ hl1
    have kp2 : Keep m l H H2 := kp1.trans (L3.Same.keep s2)
    have M2 : M0 H2 m c l (n + 1) := ⟨⟨k + 1, cs, ls, by omega, hm2, hc2, hC, hl2, hls⟩, ncl⟩
    rw [eqv_nil]
    -- the last row
    have last : ∀ v1 v2 : Option V, (tRet (tOp (rI (fun _ j => 0 < j) fun i j => V.int (i % j)) (tCall spMixed [] E0 (tCons (tCall spMixed [] E0 (tCons (tOp (rI0 fun i j => V.int (i + j)) (tOp (rIxL K) (tDGet (tVar 0) (tC (.str "cells"))) (tOp (rI (fun _ j => 0 < j) fun i j => V.int (i % j)) (tVar 2) (tC (.int 64))))
        (tOp (rI CMul fun i j => V.int (i * j)) (tC (.int 31)) (tOp (rI CDiv fun i j => V.int (i / j)) (tVar 2) (tC (.int 64))))) (tCons (tVar 2) tNil))) (tCons (tOp (rI0 fun i j => V.int (i + j)) (tVar 2) (tC (.int 7))) tNil))) (tVar 1)))
        { nx := fun _ H' => Q .non H', rt := Q } [some (.ref m), some (.int t), some (.int k), v1, v2] H2 := by
      intro v1 v2
      have hj : k % 64 < cs.length := by rw [hC.1]; omega
      have ek : ((k : Nat) : Int) % 64 = ((k % 64 : Nat) : Int) := by omega
      have b1 := hC.2 cs[k % 64] (List.getElem_mem hj)
      refine ⟨_, rfl, m, _, rfl, get_cells hm2, _, rfl, _, _, rfl, rfl, (show (0 : Int) < 64 by decide), c, _, _, .int cs[k % 64], rfl, rfl, SqL.of hc2, ?_, _, rfl, _, _, rfl, rfl, ⟨by decide, by decide⟩, _, _, rfl, rfl, .inl ⟨by decide, by decide⟩, _, _, rfl, rfl, _, rfl, _, _, rfl, ?_, ?_, ?_, ?_, fun r r0 r1 => ?_⟩
      · rw [ek]; exact atI_map hj
      · omega
      · omega
      · omega
      · omega
      refine ⟨_, rfl, _, _, rfl, rfl, r, (k : Int) + 7, rfl, r0, by omega, by omega, by omega, fun r' r0' r1' => ⟨_, rfl, _, _, rfl, rfl, t0, ?_⟩⟩
      exact q _ H2 (Int.emod_nonneg _ (by omega)) (Int.emod_lt_of_pos _ t0) M2 kp2
    cases hls0 : ls.isEmpty with
    | true => exact ifF rfl (last none none)
    | false =>
      refine ifT rfl ?_
      have hpos : 0 < ls.length := by
        cases ls with
        | nil => cases hls0
        | cons _ _ => exact Nat.succ_pos _
      have hj : k % ls.length < ls.length := Nat.mod_lt _ hpos
      have ek : ((k : Nat) : Int) % (((ls.map V.int).length : Nat) : Int) = ((k % ls.length : Nat) : Int) := by rw [List.length_map, Int.natCast_emod]
      -- spot = k % len(m['left']); cell = m['left'][spot]
      refine ⟨_, rfl, _, rfl, m, _, rfl, get_left hm2, l, _, rfl, .inl (SqL.of hl2), _, _, rfl, rfl, ?_, ?_⟩
      · show (0 : Int) < (((ls.map V.int).length : Nat) : Int)
        rw [List.length_map]; omega
      refine ⟨_, rfl, m, _, rfl, get_left hm2, _, rfl, l, _, _, .int ls[k % ls.length], rfl, rfl, SqL.of hl2, ?_, ?_⟩
      · rw [ek]; exact atI_map hj
      -- if cell > 0
      refine ⟨_, rfl, _, _, rfl, rfl, _, rfl, ?_⟩
      by_cases hz : 0 < ls[k % ls.length]
      · refine ifT (decide_eq_true hz) ?_
        refine ⟨_, rfl, _, rfl, _, _, rfl, rfl, ⟨t0, t1⟩, _, rfl, m, _, rfl, get_left hm2, _, rfl, l, _, _, k % ls.length, rfl, rfl, hl2, ?_, ?_⟩
        · rw [ek, List.length_map]; exact ixN_of hj
        refine ⟨_, rfl, _, rfl, _, _, rfl, rfl, t0, ?_⟩
        refine q _ _ (Int.emod_nonneg _ (by omega)) (Int.emod_lt_of_pos _ t0) ⟨⟨k + 1, cs, ls.set (k % ls.length) (ls[k % ls.length] / t), by omega, ?_, ?_, hC, ?_, ?_⟩, ncl⟩ ?_
        · rw [upd_ne nml]; exact hm2
        · rw [upd_ne ncl]; exact hc2
        · rw [upd_same, ← set_map]
        · rw [List.length_set]; exact hls
        · exact fun b o e h1 h2 => by rw [upd_ne h2]; exact kp2 b o e h1 h2
      · exact ifF (decide_eq_false hz) (last _ _)
theorem merge3 (x y z : V) : mergeK [] [(.inr "cells", x), (.inr "left", y), (.inr "next", z)] = ([(.inr "cells", x), (.inr "left", y), (.inr "next", z)] : List (Key × V)) := by
  simp [mergeK, putK, m1, m2, m3]
theorem ok_begun {f : Addr} {fd : FuncData} (F : Fun K "_law_begun" "_law_begun" st_l_begun f fd) (C__law_folded : Cal P w K mg base 1 "_law_folded" ["_law_script"] (spFolded K)) : FnOk P w K mg base CX0 2 f fd ["_law_script"] (spBegun0 K) := by
  refine F.okW sc_l_begun (fun vs H Q E h => ?_) (fun cdv A outer s H vs Q E hr h => ?_)
  · obtain ⟨a, ns, rfl, _⟩ := h
    rfl
  · obtain ⟨a, ns, rfl, hS, hn, q⟩ := h
    refine ⟨_, (wss_cons (ws_set (i := 1) sc_l_begun.nd rfl (Or.inl rfl) (we_dispA (wps_cons we_str (we_cal C__law_folded (hr.mono (by decide)) (by rfl) (wa_cons (wv 0) wa_nil)) (wps_cons we_str (we_lstA wa_nil) (wps_cons we_str we_int wps_nil))) (by rfl) (by rfl) (fun z => by cases z) (by decide)))
        (wss_cons (ws_dput (hu_of hr) (wv 1) we_str (we_lc (own := [("_law_cell", 2)]) (g := gName 2) (by rfl) sc_l_begun.nd (wi_list (wv 0)) (blkOk_by (own := [("_law_cell", 2)]) (N := ["_law_script", "_law_m", "_law_cell"]) (sc := defScope st_l_begun) (by decide +kernel)) (fun _ _ _ _ _ => wg_name (i := 2) sc_l_begun.nd rfl (Or.inl rfl)) (fun _ _ _ _ _ => wts_nil) (fun _ _ _ _ _ => (we_ifExp (wt_cmpR op_ge (wv 2) (we_op op_pow we_int we_int) (nomark _)) (wv 2) we_int))) rfl)
        (wss_one (ws_ret (wv 1))))), ?_⟩
    intro m H0 hm s0 e0
    refine ⟨_, rfl, a, ns, rfl, s0.seq hS, fun c cs H1 s1 nc hC hc => ⟨by decide, fun l0 Hl hl0 sl el => ⟨sl _ _ (s1 _ _ e0), [(.inr "cells", .ref c), (.inr "left", .ref l0), (.inr "next", .int 0)], rfl, (by decide : 3 ≤ 15), ?_⟩⟩⟩
    intro H2 kp fr hm2
    rw [merge3] at hm2
    have nmc : m ≠ c := ne_of_none e0 nc
    have s2 : Same H H2 := fun b o e => kp _ _ (sl _ _ (s1 _ _ (s0 _ _ e))) (ne_of_none e hm)
    have hc2 : H2 c = some (.lst (cs.map V.int)) := kp _ _ (sl _ _ hc) nmc.symm
    -- m['left'] = [cell if cell >= 10 ** 18 else 0 for cell in script]
    refine ⟨_, rfl, a, rfl, ⟨_, s2.seq hS⟩, fun D hD => lc_list (K := K) (a := a) (xs := ns.map V.int) (fun i H3 => ∃ ls : List Int, H3 = upd H2 D (.lst (ls.map V.int)) ∧ ls.length = i) ⟨[], rfl, rfl⟩ ?_ ?_ ?_⟩
    · rintro i H3 _ ⟨ls, rfl, _⟩
      exact Same.seq (fun b o e => by rw [upd_ne (ne_of_none e hD)]; exact e) (s2.seq hS)
    · rintro i x H3 hx ⟨ls, rfl, hl⟩
      have hin : i < ns.length := by
        have := (List.getElem?_eq_some_iff.mp hx).1
        rwa [List.length_map] at this
      obtain rfl : x = .int ns[i] := by
        rw [at_map hin] at hx
        exact (Option.some.inj hx).symm
      refine ⟨rfl, ?_⟩
      refine ⟨_, rfl, _, _, rfl, rfl, ⟨by decide, by decide, by decide⟩, _, _, rfl, rfl, _, rfl, ?_⟩
      have fin : ∀ y : Int, ∃ acc, (upd H2 D (.lst (ls.map V.int))) D = some (.lst acc) ∧ acc.length < sizeLine ∧ ∃ ls' : List Int, upd (upd H2 D (.lst (ls.map V.int))) D (.lst (acc ++ [.int y])) = upd H2 D (.lst (ls'.map V.int)) ∧ ls'.length = i + 1 := fun y => by
        refine ⟨_, upd_same, ?_, ls ++ [y], ?_, ?_⟩
        · rw [List.length_map, hl, sizeLine_eq]; omega
        · rw [upd_upd, List.map_append]; rfl
        · rw [List.length_append, hl]; rfl
      exact ite2 (fun _ => ⟨_, rfl, fin _⟩) (fun _ => fin 0)
    rintro H3 ⟨ls, rfl, hl⟩
    have nmD : m ≠ D := ne_of_none hm2 hD
    have ncD : c ≠ D := ne_of_none hc2 hD
    have hm3 : (upd H2 D (.lst (ls.map V.int))) m = some (.dK (mkv c l0 0)) := by rw [upd_ne nmD]; exact hm2
    refine ⟨_, rfl, m, _, rfl, set_left hm3, _, rfl, ?_⟩
    refine q m c D _ ?_ hm (s0.free nc) (s2.free hD) ⟨⟨0, cs, ls, Nat.le_refl _, upd_same, ?_, hC, ?_, ?_⟩, ncD⟩
    · intro b o e
      rw [upd_ne (ne_of_none e hm), upd_ne (ne_of_none (s2 _ _ e) hD)]
      exact s2 _ _ e
    · rw [upd_ne nmc.symm, upd_ne ncD]; exact hc2
    · rw [upd_ne nmD.symm, upd_same]
    · rw [hl, List.length_map]; exact hn
theorem okD_draw {CT : Str → Addr} {f : Addr} {fd : FuncData} (F : Fun K "_law_draw" "_law_draw" st_l_draw f fd) (nb_len : mg "len" = none) (C__law_mixed : Cal P w K mg base 1 "_law_mixed" ["_law_cell", "_law_j"] spMixed) : FnOk P w K mg base CX0 2 f fd ["_law_m", "_law_top"] (spD ⟨K, CT⟩ 2 gDraw) :=
  (ok_draw F nb_len C__law_mixed).imp fun vs H Q E h => draw_imp h
theorem okD_begun {CT : Str → Addr} {f : Addr} {fd : FuncData} (F : Fun K "_law_begun" "_law_begun" st_l_begun f fd) (C__law_folded : Cal P w K mg base 1 "_law_folded" ["_law_script"] (spFolded K)) : FnOk P w K mg base CX0 2 f fd ["_law_script"] (spD ⟨K, CT⟩ 1 gBegun) :=
  (ok_begun F C__law_folded).imp fun vs H Q E h => begun_imp h
end
end K30

set_option Elab.async false
set_option linter.all false
set_option maxRecDepth 100000
set_option maxHeartbeats 4000000
namespace K30
open PySem L2 L3
section
variable {P : Program} {w : World} {K : PySem.W.Frag} {CT : Str → Addr} {mg : Str → Option Value} {base : Heap} {a_HALF : Addr} {a_SINGLE : Addr} {a_DOUBLE : Addr} {a_MARKS : Addr}
abbrev st_l_raised : Stmt := top 35
theorem sc_l_raised : FnScope ["_law_base", "_law_turns", "_law_found"] ["_law_base", "_law_turns"] (defScope st_l_raised) := ⟨rfl, rfl, rfl, by decide +kernel, rfl, by decide +kernel, by decide +kernel⟩
def c_l_raised_1 : FT := (fTst (fOp gGt (fVar 1) (fC (.int 0))))
def l_l_raised_2 : FS := (fSeq (fIfS (fTst (fOp gEq (fOp gMod (fVar 1) (fC (.int 2))) (fC (.int 1)))) (fSet 2 (fOp gMul (fVar 2) (fVar 0))) fNx)
        (fPar 0 1 (fCons (fOp gMul (fVar 0) (fVar 0)) (fCons (fOp gDiv (fVar 1) (fC (.int 2))) fNil))))
def b_l_raised : FS := (fSeq (fSet 2 (fC (.int 1)))
        (fSeq (fWhile c_l_raised_1 l_l_raised_2)
        (fRet (fVar 2))))
def m_l_raised : List D → Tr D := run 3 b_l_raised
theorem ok_l_raised {f : Addr} {fd : FuncData} (F : Fun K "_law_raised" "_law_raised" st_l_raised f fd)  :
    FnOk P w K mg base CX0 1 f fd ["_law_base", "_law_turns"] (spD ⟨K, CT⟩ 2 m_l_raised) :=
  fun_ok (k := 0) (n := 3) (kk := 2) (f := b_l_raised) F sc_l_raised rfl rfl fun cdv A outer s H E hr =>
    (dss_cons (ds_set (i := 2) sc_l_raised.nd rfl (Or.inl rfl) de_int)
        (dss_cons (ds_while (dt_cmp op_gt od_gt (de_var 1 (wv 1)) de_int (nomark _)) (dss_cons (ds_if (dt_cmp op_eq od_eq (de_op op_mod od_mod (de_var 1 (wv 1)) de_int) de_int (nomark _)) (dss_one (ds_set (i := 2) sc_l_raised.nd rfl (Or.inl rfl) (de_op op_mulB od_mul (de_var 2 (wv 2)) (de_var 0 (wv 0))))) dss_nil)
        (dss_one (ds_par (i := 0) (j := 1) (by rfl) sc_l_raised.nd rfl rfl (by decide) rfl rfl (da_cons (de_op op_mulB od_mul (de_var 0 (wv 0)) (de_var 0 (wv 0))) (da_cons (de_op op_divD od_div (de_var 1 (wv 1)) de_int) da_nil)) (by rfl)))))
        (dss_one (ds_ret (de_var 2 (wv 2))))))
abbrev st_l_by_ten : Stmt := top 38
theorem sc_l_by_ten : FnScope ["_law_m", "_law_form_here", "_law_bits", "_law_low", "_law_high", "_law_tens", "_law_size", "_law_power_of_two", "_law_found"] ["_law_m", "_law_form_here"] (defScope st_l_by_ten) := ⟨rfl, rfl, rfl, by decide +kernel, rfl, by decide +kernel, by decide +kernel⟩
def b_l_by_ten : FS := (fSeq (fAsg (fVar 1) (hTup [2, 3, 4]))
        (fSeq (fSet 5 (fCall m_l_raised (fCons (fC (.int 10)) (fCons (fCall gDraw (fCons (fVar 0) (fCons (fC (.int 340)) fNil))) fNil))))
        (fSeq (fSet 6 (fUn gBits (fVar 5)))
        (fSeq (fIfS (fTst (fOp gEq (fCall gDraw (fCons (fVar 0) (fCons (fC (.int 2)) fNil))) (fC (.int 0)))) (fSeq (fSet 7 (fOp gSubt (fVar 6) (fVar 2)))
        (fIfS (fTst (fOp gGe (fVar 7) (fC (.int 0)))) (fSet 8 (fOp gDiv (fVar 5) (fCall m_l_raised (fCons (fC (.int 2)) (fCons (fVar 7) fNil))))) (fSet 8 (fOp gMul (fVar 5) (fCall m_l_raised (fCons (fC (.int 2)) (fCons (fUn gNeg (fVar 7)) fNil))))))) (fSeq (fSet 7 (fOp gSubt (fOp gSubt (fC (.int 1)) (fVar 6)) (fVar 2)))
        (fSet 8 (fOp gDiv (fCall m_l_raised (fCons (fC (.int 2)) (fCons (fUn gNeg (fVar 7)) fNil))) (fVar 5)))))
        (fSeq (fIfS (fAnd (fTst (fChain gLe gLe (fVar 3) (fVar 7) (fVar 4))) (fTst (fOp gGt (fVar 5) (fC (.int 1))))) (fRet (fTup (fCons (fVar 8) (fCons (fVar 7) fNil)))) fNx)
        (fRet (fTup (fCons (fCall m_l_raised (fCons (fC (.int 2)) (fCons (fOp gSubt (fVar 2) (fC (.int 1))) fNil))) (fCons (fCall gMax (fCons (fVar 3) (fCons (fCall gMin (fCons (fVar 4) (fCons (fOp gSubt (fC (.int 1)) (fVar 2)) fNil))) fNil))) fNil)))))))))
def m_l_by_ten : List D → Tr D := run 9 b_l_by_ten
theorem ok_l_by_ten {f : Addr} {fd : FuncData} (F : Fun K "_law_by_ten" "_law_by_ten" st_l_by_ten f fd) (nb_min : mg "min" = none) (nb_max : mg "max" = none) (C__law_raised : Cal P w K mg base 1 "_law_raised" ["_law_base", "_law_turns"] (spD ⟨K, CT⟩ 2 m_l_raised)) (C__law_draw : Cal P w K mg base 2 "_law_draw" ["_law_m", "_law_top"] (spD ⟨K, CT⟩ 2 gDraw)) :
    FnOk P w K mg base CX0 3 f fd ["_law_m", "_law_form_here"] (spD ⟨K, CT⟩ 2 m_l_by_ten) :=
  fun_ok (k := 2) (n := 9) (kk := 2) (f := b_l_by_ten) F sc_l_by_ten rfl rfl fun cdv A outer s H E hr =>
    (dss_cons (ds_asg (de_var 1 (wv 1)) (dg_tup (is := [2, 3, 4]) (wg_tup (n := 3) (by rfl) (wgs_cons (wg_name (i := 2) sc_l_by_ten.nd rfl (Or.inl rfl)) (wgs_cons (wg_name (i := 3) sc_l_by_ten.nd rfl (Or.inl rfl)) (wgs_cons (wg_name (i := 4) sc_l_by_ten.nd rfl (Or.inl rfl)) wgs_nil))))))
        (dss_cons (ds_set (i := 5) sc_l_by_ten.nd rfl (Or.inl rfl) (de_cal C__law_raised (hr.mono (by decide)) (by rfl) (da_cons de_int (da_cons (de_cal C__law_draw (hr.mono (by decide)) (by rfl) (da_cons (de_var 0 (wv 0)) (da_cons de_int da_nil))) da_nil))))
        (dss_cons (ds_set (i := 6) sc_l_by_ten.nd rfl (Or.inl rfl) (de_bits (de_var 5 (wv 5))))
        (dss_cons (ds_if (dt_cmp op_eq od_eq (de_cal C__law_draw (hr.mono (by decide)) (by rfl) (da_cons (de_var 0 (wv 0)) (da_cons de_int da_nil))) de_int (nomark _)) (dss_cons (ds_set (i := 7) sc_l_by_ten.nd rfl (Or.inl rfl) (de_op op_sub od_sub (de_var 6 (wv 6)) (de_var 2 (wv 2))))
        (dss_one (ds_if (dt_cmp op_ge od_ge (de_var 7 (wv 7)) de_int (nomark _)) (dss_one (ds_set (i := 8) sc_l_by_ten.nd rfl (Or.inl rfl) (de_op op_divD od_div (de_var 5 (wv 5)) (de_cal C__law_raised (hr.mono (by decide)) (by rfl) (da_cons de_int (da_cons (de_var 7 (wv 7)) da_nil)))))) (dss_one (ds_set (i := 8) sc_l_by_ten.nd rfl (Or.inl rfl) (de_op op_mulB od_mul (de_var 5 (wv 5)) (de_cal C__law_raised (hr.mono (by decide)) (by rfl) (da_cons de_int (da_cons (de_un un_neg ud_neg (de_var 7 (wv 7))) da_nil))))))))) (dss_cons (ds_set (i := 7) sc_l_by_ten.nd rfl (Or.inl rfl) (de_op op_sub od_sub (de_op op_sub od_sub de_int (de_var 6 (wv 6))) (de_var 2 (wv 2))))
        (dss_one (ds_set (i := 8) sc_l_by_ten.nd rfl (Or.inl rfl) (de_op op_divD od_div (de_cal C__law_raised (hr.mono (by decide)) (by rfl) (da_cons de_int (da_cons (de_un un_neg ud_neg (de_var 7 (wv 7))) da_nil))) (de_var 5 (wv 5)))))))
        (dss_cons (ds_if (dt_w (dw_and (dt_chain op_le od_le op_le od_le (de_var 3 (wv 3)) (de_var 7 (wv 7)) (de_var 4 (wv 4))) (dw_and1 (dt_cmp op_gt od_gt (de_var 5 (wv 5)) de_int (nomark _))))) (dss_one (ds_ret (de_tup (da_cons (de_var 8 (wv 8)) (da_cons (de_var 7 (wv 7)) da_nil))))) dss_nil)
        (dss_one (ds_ret (de_tup (da_cons (de_cal C__law_raised (hr.mono (by decide)) (by rfl) (da_cons de_int (da_cons (de_op op_sub od_sub (de_var 2 (wv 2)) de_int) da_nil))) (da_cons (de_callB (call_maxM rfl) ad_max (by rfl) nb_max (by decide +kernel) (da_cons (de_var 3 (wv 3)) (da_cons (de_callB (call_minM rfl) ad_min (by rfl) nb_min (by decide +kernel) (da_cons (de_var 4 (wv 4)) (da_cons (de_op op_sub od_sub de_int (de_var 2 (wv 2))) da_nil))) da_nil))) da_nil))))))))))
abbrev st_l_great : Stmt := top 37
theorem sc_l_great : FnScope ["_law_m"] ["_law_m"] (defScope st_l_great) := ⟨rfl, rfl, rfl, by decide +kernel, rfl, by decide +kernel, by decide +kernel⟩
def b_l_great : FS := (fRet (fOp gAdd (fOp gAdd (fOp gMul (fCall gDraw (fCons (fVar 0) (fCons (fOp gPow (fC (.int 10)) (fC (.int 9))) fNil))) (fOp gPow (fC (.int 10)) (fC (.int 12)))) (fOp gMul (fCall gDraw (fCons (fVar 0) (fCons (fOp gPow (fC (.int 10)) (fC (.int 6))) fNil))) (fOp gPow (fC (.int 10)) (fC (.int 6))))) (fCall gDraw (fCons (fVar 0) (fCons (fOp gPow (fC (.int 10)) (fC (.int 6))) fNil)))))
def m_l_great : List D → Tr D := run 1 b_l_great
theorem ok_l_great {f : Addr} {fd : FuncData} (F : Fun K "_law_great" "_law_great" st_l_great f fd) (C__law_draw : Cal P w K mg base 2 "_law_draw" ["_law_m", "_law_top"] (spD ⟨K, CT⟩ 2 gDraw)) :
    FnOk P w K mg base CX0 3 f fd ["_law_m"] (spD ⟨K, CT⟩ 1 m_l_great) :=
  fun_ok (k := 2) (n := 1) (kk := 1) (f := b_l_great) F sc_l_great rfl rfl fun cdv A outer s H E hr =>
    (dss_one (ds_ret (de_op op_add od_add (de_op op_add od_add (de_op op_mulB od_mul (de_cal C__law_draw (hr.mono (by decide)) (by rfl) (da_cons (de_var 0 (wv 0)) (da_cons (de_op op_powB od_pow de_int de_int) da_nil))) (de_op op_powB od_pow de_int de_int)) (de_op op_mulB od_mul (de_cal C__law_draw (hr.mono (by decide)) (by rfl) (da_cons (de_var 0 (wv 0)) (da_cons (de_op op_powB od_pow de_int de_int) da_nil))) (de_op op_powB od_pow de_int de_int))) (de_cal C__law_draw (hr.mono (by decide)) (by rfl) (da_cons (de_var 0 (wv 0)) (da_cons (de_op op_powB od_pow de_int de_int) da_nil))))))
abbrev st_l_parts : Stmt := top 39
theorem sc_l_parts : FnScope ["_law_m", "_law_form_here", "_law_bits", "_law_low", "_law_high", "_law_half", "_law_kind", "_law_any_one", "_law_near", "_law_at"] ["_law_m", "_law_form_here"] (defScope st_l_parts) := ⟨rfl, rfl, rfl, by decide +kernel, rfl, by decide +kernel, by decide +kernel⟩
def b_l_parts : FS := (fSeq (fAsg (fVar 1) (hTup [2, 3, 4]))
        (fSeq (fPar3 5 6 7 (fCons (fCall m_l_raised (fCons (fC (.int 2)) (fCons (fOp gSubt (fVar 2) (fC (.int 1))) fNil))) (fCons (fCall gDraw (fCons (fVar 0) (fCons (fC (.int 8)) fNil))) (fCons (fCall m_l_great (fCons (fVar 0) fNil)) fNil))))
        (fSeq (fIfS (fTst (fOp gEq (fVar 6) (fC (.int 0)))) (fRet (fTup (fCons (fOp gIx (fLst (fCons (fC (.int 0)) (fCons (fC (.int 1)) (fCons (fC (.int 2)) (fCons (fOp gMod (fVar 7) (fVar 5)) fNil))))) (fCall gDraw (fCons (fVar 0) (fCons (fC (.int 4)) fNil)))) (fCons (fVar 3) fNil)))) fNx)
        (fSeq (fIfS (fTst (fOp gEq (fVar 6) (fC (.int 1)))) (fRet (fTup (fCons (fOp gSubt (fOp gMul (fC (.int 2)) (fVar 5)) (fC (.int 1))) (fCons (fVar 4) fNil)))) fNx)
        (fSeq (fIfS (fTst (fOp gLt (fVar 6) (fC (.int 4)))) (fRet (fCall m_l_by_ten (fCons (fVar 0) (fCons (fVar 1) fNil)))) fNx)
        (fSeq (fSet 8 (fCall gMax (fCons (fVar 3) (fCons (fCall gMin (fCons (fVar 4) (fCons (fOp gSubt (fOp gSubt (fCall gDraw (fCons (fVar 0) (fCons (fC (.int 12)) fNil))) (fVar 2)) (fC (.int 3))) fNil))) fNil))))
        (fSeq (fSet 9 (fOp gIx (fLst (fCons (fVar 3) (fCons (fVar 8) (fCons (fOp gAdd (fVar 3) (fCall gDraw (fCons (fVar 0) (fCons (fOp gAdd (fOp gSubt (fVar 4) (fVar 3)) (fC (.int 1))) fNil)))) (fCons (fOp gAdd (fVar 3) (fCall gDraw (fCons (fVar 0) (fCons (fOp gAdd (fOp gSubt (fVar 4) (fVar 3)) (fC (.int 1))) fNil)))) fNil))))) (fCall gDraw (fCons (fVar 0) (fCons (fC (.int 4)) fNil)))))
        (fRet (fTup (fCons (fOp gAdd (fVar 5) (fOp gIx (fLst (fCons (fC (.int 0)) (fCons (fC (.int 1)) (fCons (fOp gSubt (fVar 5) (fC (.int 1))) (fCons (fOp gMod (fVar 7) (fVar 5)) (fCons (fOp gMod (fVar 7) (fVar 5)) (fCons (fOp gMod (fVar 7) (fVar 5)) fNil))))))) (fCall gDraw (fCons (fVar 0) (fCons (fC (.int 6)) fNil))))) (fCons (fVar 9) fNil)))))))))))
def m_l_parts : List D → Tr D := run 10 b_l_parts
theorem ok_l_parts {f : Addr} {fd : FuncData} (F : Fun K "_law_parts" "_law_parts" st_l_parts f fd) (C__law_draw : Cal P w K mg base 2 "_law_draw" ["_law_m", "_law_top"] (spD ⟨K, CT⟩ 2 gDraw)) (nb_min : mg "min" = none) (nb_max : mg "max" = none) (C__law_by_ten : Cal P w K mg base 3 "_law_by_ten" ["_law_m", "_law_form_here"] (spD ⟨K, CT⟩ 2 m_l_by_ten)) (C__law_great : Cal P w K mg base 3 "_law_great" ["_law_m"] (spD ⟨K, CT⟩ 1 m_l_great)) (C__law_raised : Cal P w K mg base 1 "_law_raised" ["_law_base", "_law_turns"] (spD ⟨K, CT⟩ 2 m_l_raised)) :
    FnOk P w K mg base CX0 4 f fd ["_law_m", "_law_form_here"] (spD ⟨K, CT⟩ 2 m_l_parts) :=
  fun_ok (k := 3) (n := 10) (kk := 2) (f := b_l_parts) F sc_l_parts rfl rfl fun cdv A outer s H E hr =>
    (dss_cons (ds_asg (de_var 1 (wv 1)) (dg_tup (is := [2, 3, 4]) (wg_tup (n := 3) (by rfl) (wgs_cons (wg_name (i := 2) sc_l_parts.nd rfl (Or.inl rfl)) (wgs_cons (wg_name (i := 3) sc_l_parts.nd rfl (Or.inl rfl)) (wgs_cons (wg_name (i := 4) sc_l_parts.nd rfl (Or.inl rfl)) wgs_nil))))))
        (dss_cons (ds_par3 (i := 5) (j := 6) (k := 7) (by rfl) sc_l_parts.nd rfl rfl rfl (by decide) (by decide) (by decide) rfl rfl rfl (da_cons (de_cal C__law_raised (hr.mono (by decide)) (by rfl) (da_cons de_int (da_cons (de_op op_sub od_sub (de_var 2 (wv 2)) de_int) da_nil))) (da_cons (de_cal C__law_draw (hr.mono (by decide)) (by rfl) (da_cons (de_var 0 (wv 0)) (da_cons de_int da_nil))) (da_cons (de_cal C__law_great (hr.mono (by decide)) (by rfl) (da_cons (de_var 0 (wv 0)) da_nil)) da_nil))) (by rfl))
        (dss_cons (ds_if (dt_cmp op_eq od_eq (de_var 6 (wv 6)) de_int (nomark _)) (dss_one (ds_ret (de_tup (da_cons (de_ix (de_lst (da_cons de_int (da_cons de_int (da_cons de_int (da_cons (de_op op_mod od_mod (de_var 7 (wv 7)) (de_var 5 (wv 5))) da_nil))))) (de_cal C__law_draw (hr.mono (by decide)) (by rfl) (da_cons (de_var 0 (wv 0)) (da_cons de_int da_nil))) (fun _ _ => rfl)) (da_cons (de_var 3 (wv 3)) da_nil))))) dss_nil)
        (dss_cons (ds_if (dt_cmp op_eq od_eq (de_var 6 (wv 6)) de_int (nomark _)) (dss_one (ds_ret (de_tup (da_cons (de_op op_sub od_sub (de_op op_mulB od_mul de_int (de_var 5 (wv 5))) de_int) (da_cons (de_var 4 (wv 4)) da_nil))))) dss_nil)
        (dss_cons (ds_if (dt_cmp op_lt od_lt (de_var 6 (wv 6)) de_int (nomark _)) (dss_one (ds_ret (de_cal C__law_by_ten (hr.mono (by decide)) (by rfl) (da_cons (de_var 0 (wv 0)) (da_cons (de_var 1 (wv 1)) da_nil))))) dss_nil)
        (dss_cons (ds_set (i := 8) sc_l_parts.nd rfl (Or.inl rfl) (de_callB (call_maxM rfl) ad_max (by rfl) nb_max (by decide +kernel) (da_cons (de_var 3 (wv 3)) (da_cons (de_callB (call_minM rfl) ad_min (by rfl) nb_min (by decide +kernel) (da_cons (de_var 4 (wv 4)) (da_cons (de_op op_sub od_sub (de_op op_sub od_sub (de_cal C__law_draw (hr.mono (by decide)) (by rfl) (da_cons (de_var 0 (wv 0)) (da_cons de_int da_nil))) (de_var 2 (wv 2))) de_int) da_nil))) da_nil))))
        (dss_cons (ds_set (i := 9) sc_l_parts.nd rfl (Or.inl rfl) (de_ix (de_lst (da_cons (de_var 3 (wv 3)) (da_cons (de_var 8 (wv 8)) (da_cons (de_op op_add od_add (de_var 3 (wv 3)) (de_cal C__law_draw (hr.mono (by decide)) (by rfl) (da_cons (de_var 0 (wv 0)) (da_cons (de_op op_add od_add (de_op op_sub od_sub (de_var 4 (wv 4)) (de_var 3 (wv 3))) de_int) da_nil)))) (da_cons (de_op op_add od_add (de_var 3 (wv 3)) (de_cal C__law_draw (hr.mono (by decide)) (by rfl) (da_cons (de_var 0 (wv 0)) (da_cons (de_op op_add od_add (de_op op_sub od_sub (de_var 4 (wv 4)) (de_var 3 (wv 3))) de_int) da_nil)))) da_nil))))) (de_cal C__law_draw (hr.mono (by decide)) (by rfl) (da_cons (de_var 0 (wv 0)) (da_cons de_int da_nil))) (fun _ _ => rfl)))
        (dss_one (ds_ret (de_tup (da_cons (de_op op_add od_add (de_var 5 (wv 5)) (de_ix (de_lst (da_cons de_int (da_cons de_int (da_cons (de_op op_sub od_sub (de_var 5 (wv 5)) de_int) (da_cons (de_op op_mod od_mod (de_var 7 (wv 7)) (de_var 5 (wv 5))) (da_cons (de_op op_mod od_mod (de_var 7 (wv 7)) (de_var 5 (wv 5))) (da_cons (de_op op_mod od_mod (de_var 7 (wv 7)) (de_var 5 (wv 5))) da_nil))))))) (de_cal C__law_draw (hr.mono (by decide)) (by rfl) (da_cons (de_var 0 (wv 0)) (da_cons de_int da_nil))) (fun _ _ => rfl))) (da_cons (de_var 9 (wv 9)) da_nil))))))))))))
abbrev st_by_twos : Stmt := top 26
theorem sc_by_twos : FnScope ["numerator", "exponent", "twos", "spare"] ["numerator", "exponent"] (defScope st_by_twos) := ⟨rfl, rfl, rfl, by decide +kernel, rfl, by decide +kernel, by decide +kernel⟩
def b_by_twos : FS := (fSeq (fIfS (fTst (fOp gGe (fVar 1) (fC (.int 0)))) (fRet (fTup (fCons (fOp gShl (fVar 0) (fVar 1)) (fCons (fC (.int 1)) fNil)))) fNx)
        (fSeq (fIfS (fTst (fOp gEq (fVar 0) (fC (.int 0)))) (fRet (fTup (fCons (fC (.int 0)) (fCons (fC (.int 1)) fNil)))) fNx)
        (fSeq (fSet 2 (fOp gSubt (fUn gBits (fOp gBAnd (fVar 0) (fUn gNeg (fVar 0)))) (fC (.int 1))))
        (fSeq (fSet 3 (fCall gMin (fCons (fVar 2) (fCons (fUn gNeg (fVar 1)) fNil))))
        (fRet (fTup (fCons (fOp gShr (fVar 0) (fVar 3)) (fCons (fOp gShl (fC (.int 1)) (fOp gSubt (fUn gNeg (fVar 1)) (fVar 3))) fNil))))))))
def m_by_twos : List D → Tr D := run 4 b_by_twos
theorem ok_by_twos {f : Addr} {fd : FuncData} (F : Fun K "by_twos" "by_twos" st_by_twos f fd) (nb_min : mg "min" = none) :
    FnOk P w K mg base CX0 1 f fd ["numerator", "exponent"] (spD ⟨K, CT⟩ 2 m_by_twos) :=
  fun_ok (k := 0) (n := 4) (kk := 2) (f := b_by_twos) F sc_by_twos rfl rfl fun cdv A outer s H E hr =>
    (dss_cons (ds_if (dt_cmp op_ge od_ge (de_var 1 (wv 1)) de_int (nomark _)) (dss_one (ds_ret (de_tup (da_cons (de_op op_shlB od_shl (de_var 0 (wv 0)) (de_var 1 (wv 1))) (da_cons de_int da_nil))))) dss_nil)
        (dss_cons (ds_if (dt_cmp op_eq od_eq (de_var 0 (wv 0)) de_int (nomark _)) (dss_one (ds_ret (de_tup (da_cons de_int (da_cons de_int da_nil))))) dss_nil)
        (dss_cons (ds_set (i := 2) sc_by_twos.nd rfl (Or.inl rfl) (de_op op_sub od_sub (de_bits (de_op op_and od_and (de_var 0 (wv 0)) (de_un un_neg ud_neg (de_var 0 (wv 0))))) de_int))
        (dss_cons (ds_set (i := 3) sc_by_twos.nd rfl (Or.inl rfl) (de_callB (call_minM rfl) ad_min (by rfl) nb_min (by decide +kernel) (da_cons (de_var 2 (wv 2)) (da_cons (de_un un_neg ud_neg (de_var 1 (wv 1))) da_nil))))
        (dss_one (ds_ret (de_tup (da_cons (de_op op_shr od_shr (de_var 0 (wv 0)) (de_var 3 (wv 3))) (da_cons (de_op op_shlB od_shl de_int (de_op op_sub od_sub (de_un un_neg ud_neg (de_var 1 (wv 1))) (de_var 3 (wv 3)))) da_nil)))))))))
abbrev st_Number_shape : Stmt := inClass (top 16) 1
theorem sc_Number_shape : FnScope ["self"] ["self"] (defScope st_Number_shape) := ⟨rfl, rfl, rfl, by decide +kernel, rfl, by decide +kernel, by decide +kernel⟩
def b_Number_shape : FS := (fRet (fFldO CS FL "own_shape" 0))
def m_Number_shape : List D → Tr D := run 1 b_Number_shape
theorem ok_Number_shape {f : Addr} {fd : FuncData} (F : Fun K "shape" "Number.shape" st_Number_shape f fd) (FO : FldOk ⟨K, CT⟩ CS FL) :
    FnOk P w K mg base CX0 1 f fd ["self"] (spD ⟨K, CT⟩ 1 m_Number_shape) :=
  fun_ok (k := 0) (n := 1) (kk := 1) (f := b_Number_shape) F sc_Number_shape rfl rfl fun cdv A outer s H E hr =>
    (dss_one (ds_ret (de_fldO FO (wv 0))))
abbrev st_first_normal : Stmt := top 21
theorem sc_first_normal : FnScope ["shape"] ["shape"] (defScope st_first_normal) := ⟨rfl, rfl, rfl, by decide +kernel, rfl, by decide +kernel, by decide +kernel⟩
def b_first_normal : FS := (fRet (fOp gShl (fC (.int 1)) (fOp gSubt (fOp gIx (fVar 0) (fC (.int 0))) (fC (.int 1)))))
def m_first_normal : List D → Tr D := run 1 b_first_normal
theorem ok_first_normal {f : Addr} {fd : FuncData} (F : Fun K "first_normal" "first_normal" st_first_normal f fd)  :
    FnOk P w K mg base CX0 1 f fd ["shape"] (spD ⟨K, CT⟩ 1 m_first_normal) :=
  fun_ok (k := 0) (n := 1) (kk := 1) (f := b_first_normal) F sc_first_normal rfl rfl fun cdv A outer s H E hr =>
    (dss_one (ds_ret (de_op op_shlB od_shl de_int (de_op op_sub od_sub (de_ix (de_var 0 (wv 0)) de_int (fun _ _ => rfl)) de_int))))
abbrev st_Number_parts : Stmt := inClass (top 16) 4
theorem sc_Number_parts : FnScope ["self"] ["self"] (defScope st_Number_parts) := ⟨rfl, rfl, rfl, by decide +kernel, rfl, by decide +kernel, by decide +kernel⟩
def b_Number_parts : FS := (fSeq (fIfS (fTst (fOp gNe (fFldO CS FL "state" 0) (fC (.str "finite")))) fNever fNx)
        (fRet (fTup (fCons (fFldO CS FL "own_significand" 0) (fCons (fFldO CS FL "own_exponent" 0) fNil)))))
def m_Number_parts : List D → Tr D := run 1 b_Number_parts
theorem ok_Number_parts {f : Addr} {fd : FuncData} (F : Fun K "parts" "Number.parts" st_Number_parts f fd) (FO : FldOk ⟨K, CT⟩ CS FL) (G_FINITE : GStr mg "FINITE" "finite") :
    FnOk P w K mg base CX0 1 f fd ["self"] (spD ⟨K, CT⟩ 1 m_Number_parts) :=
  fun_ok (k := 0) (n := 1) (kk := 1) (f := b_Number_parts) F sc_Number_parts rfl rfl fun cdv A outer s H E hr =>
    (dss_cons (ds_if (dt_cmp op_ne od_ne (de_fldO FO (wv 0)) (de_gstr G_FINITE (by rfl)) (nomark _)) (dss_one ds_never) dss_nil)
        (dss_one (ds_ret (de_tup (da_cons (de_fldO FO (wv 0)) (da_cons (de_fldO FO (wv 0)) da_nil))))))
abbrev st_quarters : Stmt := top 29
theorem sc_quarters : FnScope ["number", "significand", "exponent", "here", "precision", "low", "high"] ["number"] (defScope st_quarters) := ⟨rfl, rfl, rfl, by decide +kernel, rfl, by decide +kernel, by decide +kernel⟩
def b_quarters : FS := (fSeq (fAsg (fMeth "Number" "parts" m_Number_parts (fVar 0) fNil) (hTup [1, 2]))
        (fSeq (fSet 3 (fOp gMul (fC (.int 4)) (fVar 1)))
        (fSeq (fIfS (fTst (fOp gEq (fVar 3) (fC (.int 0)))) (fRet (fTup (fCons (fC (.int 0)) (fCons (fVar 3) (fCons (fC (.int 2)) fNil))))) fNx)
        (fSeq (fAsg (fMeth "Number" "shape" m_Number_shape (fVar 0) fNil) (hTup [4, 5, 6]))
        (fSeq (fIfS (fAnd (fTst (fOp gEq (fVar 1) (fCall m_first_normal (fCons (fMeth "Number" "shape" m_Number_shape (fVar 0) fNil) fNil)))) (fTst (fOp gGt (fVar 2) (fVar 5)))) (fRet (fTup (fCons (fOp gSubt (fVar 3) (fC (.int 1))) (fCons (fVar 3) (fCons (fOp gAdd (fVar 3) (fC (.int 2))) fNil))))) fNx)
        (fRet (fTup (fCons (fOp gSubt (fVar 3) (fC (.int 2))) (fCons (fVar 3) (fCons (fOp gAdd (fVar 3) (fC (.int 2))) fNil))))))))))
def m_quarters : List D → Tr D := run 7 b_quarters
theorem ok_quarters {f : Addr} {fd : FuncData} (F : Fun K "quarters" "quarters" st_quarters f fd) (O_Number_shape : CalO P w K mg base 1 (CT "Number") "shape" ["self"] (spD ⟨K, CT⟩ 1 m_Number_shape)) (C_first_normal : Cal P w K mg base 1 "first_normal" ["shape"] (spD ⟨K, CT⟩ 1 m_first_normal)) (O_Number_parts : CalO P w K mg base 1 (CT "Number") "parts" ["self"] (spD ⟨K, CT⟩ 1 m_Number_parts)) :
    FnOk P w K mg base CX0 2 f fd ["number"] (spD ⟨K, CT⟩ 1 m_quarters) :=
  fun_ok (k := 1) (n := 7) (kk := 1) (f := b_quarters) F sc_quarters rfl rfl fun cdv A outer s H E hr =>
    (dss_cons (ds_asg (de_meth0 (c := "Number") O_Number_parts (hr.mono (by decide)) (de_var 0 (wv 0))) (dg_tup (is := [1, 2]) (wg_tup (n := 2) (by rfl) (wgs_cons (wg_name (i := 1) sc_quarters.nd rfl (Or.inl rfl)) (wgs_cons (wg_name (i := 2) sc_quarters.nd rfl (Or.inl rfl)) wgs_nil)))))
        (dss_cons (ds_set (i := 3) sc_quarters.nd rfl (Or.inl rfl) (de_op op_mulB od_mul de_int (de_var 1 (wv 1))))
        (dss_cons (ds_if (dt_cmp op_eq od_eq (de_var 3 (wv 3)) de_int (nomark _)) (dss_one (ds_ret (de_tup (da_cons de_int (da_cons (de_var 3 (wv 3)) (da_cons de_int da_nil)))))) dss_nil)
        (dss_cons (ds_asg (de_meth0 (c := "Number") O_Number_shape (hr.mono (by decide)) (de_var 0 (wv 0))) (dg_tup (is := [4, 5, 6]) (wg_tup (n := 3) (by rfl) (wgs_cons (wg_name (i := 4) sc_quarters.nd rfl (Or.inl rfl)) (wgs_cons (wg_name (i := 5) sc_quarters.nd rfl (Or.inl rfl)) (wgs_cons (wg_name (i := 6) sc_quarters.nd rfl (Or.inl rfl)) wgs_nil))))))
        (dss_cons (ds_if (dt_w (dw_and (dt_cmp op_eq od_eq (de_var 1 (wv 1)) (de_cal C_first_normal (hr.mono (by decide)) (by rfl) (da_cons (de_meth0 (c := "Number") O_Number_shape (hr.mono (by decide)) (de_var 0 (wv 0))) da_nil)) (nomark _)) (dw_and1 (dt_cmp op_gt od_gt (de_var 2 (wv 2)) (de_var 5 (wv 5)) (nomark _))))) (dss_one (ds_ret (de_tup (da_cons (de_op op_sub od_sub (de_var 3 (wv 3)) de_int) (da_cons (de_var 3 (wv 3)) (da_cons (de_op op_add od_add (de_var 3 (wv 3)) de_int) da_nil)))))) dss_nil)
        (dss_one (ds_ret (de_tup (da_cons (de_op op_sub od_sub (de_var 3 (wv 3)) de_int) (da_cons (de_var 3 (wv 3)) (da_cons (de_op op_add od_add (de_var 3 (wv 3)) de_int) da_nil)))))))))))
abbrev st_want_number : Stmt := top 19
theorem sc_want_number : FnScope ["thing"] ["thing"] (defScope st_want_number) := ⟨rfl, rfl, rfl, by decide +kernel, rfl, by decide +kernel, by decide +kernel⟩
def b_want_number : FS := (fIfS (fNot (fTst (fCall (gIsi CS HI) (fCons (fVar 0) (fCons (fC (.cls "Number")) fNil))))) fNever fNx)
def m_want_number : List D → Tr D := run 1 b_want_number
theorem ok_want_number {f : Addr} {fd : FuncData} (F : Fun K "want_number" "want_number" st_want_number f fd) (N_Number : mg "Number" = some (.ref (CT "Number"))) (O : ClsOk ⟨K, CT⟩ CS HI) (nb_isinstance : mg "isinstance" = none) :
    FnOk P w K mg base CX0 1 f fd ["thing"] (spD ⟨K, CT⟩ 1 m_want_number) :=
  fun_ok (k := 0) (n := 1) (kk := 1) (f := b_want_number) F sc_want_number rfl rfl fun cdv A outer s H E hr =>
    (dss_one (ds_if (dt_not (dt_val (de_callB call_isiX (ad_isi O) (by rfl) nb_isinstance (by decide +kernel) (da_cons (de_var 0 (wv 0)) (da_cons (de_gcls N_Number (by rfl)) da_nil))))) (dss_one ds_never) dss_nil))
abbrev st_want_finite : Stmt := top 20
theorem sc_want_finite : FnScope ["thing"] ["thing"] (defScope st_want_finite) := ⟨rfl, rfl, rfl, by decide +kernel, rfl, by decide +kernel, by decide +kernel⟩
def b_want_finite : FS := (fSeq (fDrop (fCall m_want_number (fCons (fVar 0) fNil)))
        (fDrop (fMeth "Number" "parts" m_Number_parts (fVar 0) fNil)))
def m_want_finite : List D → Tr D := run 1 b_want_finite
theorem ok_want_finite {f : Addr} {fd : FuncData} (F : Fun K "want_finite" "want_finite" st_want_finite f fd) (O_Number_parts : CalO P w K mg base 1 (CT "Number") "parts" ["self"] (spD ⟨K, CT⟩ 1 m_Number_parts)) (C_want_number : Cal P w K mg base 1 "want_number" ["thing"] (spD ⟨K, CT⟩ 1 m_want_number)) :
    FnOk P w K mg base CX0 2 f fd ["thing"] (spD ⟨K, CT⟩ 1 m_want_finite) :=
  fun_ok (k := 1) (n := 1) (kk := 1) (f := b_want_finite) F sc_want_finite rfl rfl fun cdv A outer s H E hr =>
    (dss_cons (ds_expr (de_cal C_want_number (hr.mono (by decide)) (by rfl) (da_cons (de_var 0 (wv 0)) da_nil)))
        (dss_one (ds_expr (de_meth0 (c := "Number") O_Number_parts (hr.mono (by decide)) (de_var 0 (wv 0))))))
abbrev st_bounds : Stmt := top 28
theorem sc_bounds : FnScope ["number", "significand", "exponent", "least", "here", "most"] ["number"] (defScope st_bounds) := ⟨rfl, rfl, rfl, by decide +kernel, rfl, by decide +kernel, by decide +kernel⟩
def b_bounds : FS := (fSeq (fDrop (fCall m_want_finite (fCons (fVar 0) fNil)))
        (fSeq (fAsg (fMeth "Number" "parts" m_Number_parts (fVar 0) fNil) (hTup [1, 2]))
        (fSeq (fAsg (fCall m_quarters (fCons (fVar 0) fNil)) (hTup [3, 4, 5]))
        (fRet (fTup (fCons (fCall m_by_twos (fCons (fVar 3) (fCons (fOp gSubt (fVar 2) (fC (.int 2))) fNil))) (fCons (fCall m_by_twos (fCons (fVar 5) (fCons (fOp gSubt (fVar 2) (fC (.int 2))) fNil))) (fCons (fOp gEq (fOp gBAnd (fVar 1) (fC (.int 1))) (fC (.int 0))) fNil))))))))
def m_bounds : List D → Tr D := run 6 b_bounds
theorem ok_bounds {f : Addr} {fd : FuncData} (F : Fun K "bounds" "bounds" st_bounds f fd) (C_by_twos : Cal P w K mg base 1 "by_twos" ["numerator", "exponent"] (spD ⟨K, CT⟩ 2 m_by_twos)) (C_quarters : Cal P w K mg base 2 "quarters" ["number"] (spD ⟨K, CT⟩ 1 m_quarters)) (O_Number_parts : CalO P w K mg base 1 (CT "Number") "parts" ["self"] (spD ⟨K, CT⟩ 1 m_Number_parts)) (C_want_finite : Cal P w K mg base 2 "want_finite" ["thing"] (spD ⟨K, CT⟩ 1 m_want_finite)) :
    FnOk P w K mg base CX0 3 f fd ["number"] (spD ⟨K, CT⟩ 1 m_bounds) :=
  fun_ok (k := 2) (n := 6) (kk := 1) (f := b_bounds) F sc_bounds rfl rfl fun cdv A outer s H E hr =>
    (dss_cons (ds_expr (de_cal C_want_finite (hr.mono (by decide)) (by rfl) (da_cons (de_var 0 (wv 0)) da_nil)))
        (dss_cons (ds_asg (de_meth0 (c := "Number") O_Number_parts (hr.mono (by decide)) (de_var 0 (wv 0))) (dg_tup (is := [1, 2]) (wg_tup (n := 2) (by rfl) (wgs_cons (wg_name (i := 1) sc_bounds.nd rfl (Or.inl rfl)) (wgs_cons (wg_name (i := 2) sc_bounds.nd rfl (Or.inl rfl)) wgs_nil)))))
        (dss_cons (ds_asg (de_cal C_quarters (hr.mono (by decide)) (by rfl) (da_cons (de_var 0 (wv 0)) da_nil)) (dg_tup (is := [3, 4, 5]) (wg_tup (n := 3) (by rfl) (wgs_cons (wg_name (i := 3) sc_bounds.nd rfl (Or.inl rfl)) (wgs_cons (wg_name (i := 4) sc_bounds.nd rfl (Or.inl rfl)) (wgs_cons (wg_name (i := 5) sc_bounds.nd rfl (Or.inl rfl)) wgs_nil))))))
        (dss_one (ds_ret (de_tup (da_cons (de_cal C_by_twos (hr.mono (by decide)) (by rfl) (da_cons (de_var 3 (wv 3)) (da_cons (de_op op_sub od_sub (de_var 2 (wv 2)) de_int) da_nil))) (da_cons (de_cal C_by_twos (hr.mono (by decide)) (by rfl) (da_cons (de_var 5 (wv 5)) (da_cons (de_op op_sub od_sub (de_var 2 (wv 2)) de_int) da_nil))) (da_cons (de_cmp op_eq od_eq (de_op op_and od_and (de_var 1 (wv 1)) de_int) de_int (nomark _)) da_nil)))))))))
abbrev st_l_halves : Stmt := top 40
theorem sc_l_halves : FnScope ["_law_top", "_law_turns", "_law_low", "_law_both"] ["_law_top", "_law_turns"] (defScope st_l_halves) := ⟨rfl, rfl, rfl, by decide +kernel, rfl, by decide +kernel, by decide +kernel⟩
def b_l_halves : FS := (fSeq (fIfS (fOr (fTst (fOp gEq (fVar 0) (fC (.int 0)))) (fTst (fOp gGe (fVar 1) (fC (.int 0))))) (fRet (fTup (fCons (fOp gMul (fVar 0) (fCall m_l_raised (fCons (fC (.int 2)) (fCons (fCall gMax (fCons (fC (.int 0)) (fCons (fVar 1) fNil))) fNil)))) (fCons (fC (.int 1)) fNil)))) fNx)
        (fSeq (fSet 2 (fCall m_l_raised (fCons (fC (.int 2)) (fCons (fUn gNeg (fVar 1)) fNil))))
        (fSeq (fSet 3 (fCall gMin (fCons (fOp gBAnd (fVar 0) (fUn gNeg (fVar 0))) (fCons (fVar 2) fNil))))
        (fRet (fTup (fCons (fOp gDiv (fVar 0) (fVar 3)) (fCons (fOp gDiv (fVar 2) (fVar 3)) fNil)))))))
def m_l_halves : List D → Tr D := run 4 b_l_halves
theorem ok_l_halves {f : Addr} {fd : FuncData} (F : Fun K "_law_halves" "_law_halves" st_l_halves f fd) (nb_min : mg "min" = none) (C__law_raised : Cal P w K mg base 1 "_law_raised" ["_law_base", "_law_turns"] (spD ⟨K, CT⟩ 2 m_l_raised)) (nb_max : mg "max" = none) :
    FnOk P w K mg base CX0 2 f fd ["_law_top", "_law_turns"] (spD ⟨K, CT⟩ 2 m_l_halves) :=
  fun_ok (k := 1) (n := 4) (kk := 2) (f := b_l_halves) F sc_l_halves rfl rfl fun cdv A outer s H E hr =>
    (dss_cons (ds_if (dt_w (dw_or (dt_cmp op_eq od_eq (de_var 0 (wv 0)) de_int (nomark _)) (dw_or1 (dt_cmp op_ge od_ge (de_var 1 (wv 1)) de_int (nomark _))))) (dss_one (ds_ret (de_tup (da_cons (de_op op_mulB od_mul (de_var 0 (wv 0)) (de_cal C__law_raised (hr.mono (by decide)) (by rfl) (da_cons de_int (da_cons (de_callB (call_maxM rfl) ad_max (by rfl) nb_max (by decide +kernel) (da_cons de_int (da_cons (de_var 1 (wv 1)) da_nil))) da_nil)))) (da_cons de_int da_nil))))) dss_nil)
        (dss_cons (ds_set (i := 2) sc_l_halves.nd rfl (Or.inl rfl) (de_cal C__law_raised (hr.mono (by decide)) (by rfl) (da_cons de_int (da_cons (de_un un_neg ud_neg (de_var 1 (wv 1))) da_nil))))
        (dss_cons (ds_set (i := 3) sc_l_halves.nd rfl (Or.inl rfl) (de_callB (call_minM rfl) ad_min (by rfl) nb_min (by decide +kernel) (da_cons (de_op op_and od_and (de_var 0 (wv 0)) (de_un un_neg ud_neg (de_var 0 (wv 0)))) (da_cons (de_var 2 (wv 2)) da_nil))))
        (dss_one (ds_ret (de_tup (da_cons (de_op op_divD od_div (de_var 0 (wv 0)) (de_var 3 (wv 3))) (da_cons (de_op op_divD od_div (de_var 2 (wv 2)) (de_var 3 (wv 3))) da_nil))))))))
abbrev st_l_limits : Stmt := top 41
theorem sc_l_limits : FnScope ["_law_form_here", "_law_parts_here", "_law_bits", "_law_low", "_law_high", "_law_top", "_law_at", "_law_most"] ["_law_form_here", "_law_parts_here"] (defScope st_l_limits) := ⟨rfl, rfl, rfl, by decide +kernel, rfl, by decide +kernel, by decide +kernel⟩
def b_l_limits : FS := (fSeq (fAsg (fVar 0) (hTup [2, 3, 4]))
        (fSeq (fAsg (fVar 1) (hTup [5, 6]))
        (fSeq (fSet 7 (fCall m_l_halves (fCons (fOp gAdd (fOp gMul (fC (.int 2)) (fVar 5)) (fC (.int 1))) (fCons (fOp gSubt (fVar 6) (fC (.int 1))) fNil))))
        (fSeq (fIfS (fTst (fOp gEq (fVar 5) (fC (.int 0)))) (fRet (fTup (fCons (fTup (fCons (fC (.int 0)) (fCons (fC (.int 1)) fNil))) (fCons (fVar 7) (fCons (fC (.bl true)) fNil))))) fNx)
        (fSeq (fIfS (fAnd (fTst (fOp gEq (fVar 5) (fCall m_l_raised (fCons (fC (.int 2)) (fCons (fOp gSubt (fVar 2) (fC (.int 1))) fNil))))) (fTst (fOp gGt (fVar 6) (fVar 3)))) (fRet (fTup (fCons (fCall m_l_halves (fCons (fOp gSubt (fOp gMul (fC (.int 4)) (fVar 5)) (fC (.int 1))) (fCons (fOp gSubt (fVar 6) (fC (.int 2))) fNil))) (fCons (fVar 7) (fCons (fOp gEq (fOp gMod (fVar 5) (fC (.int 2))) (fC (.int 0))) fNil))))) fNx)
        (fRet (fTup (fCons (fCall m_l_halves (fCons (fOp gSubt (fOp gMul (fC (.int 2)) (fVar 5)) (fC (.int 1))) (fCons (fOp gSubt (fVar 6) (fC (.int 1))) fNil))) (fCons (fVar 7) (fCons (fOp gEq (fOp gMod (fVar 5) (fC (.int 2))) (fC (.int 0))) fNil))))))))))
def m_l_limits : List D → Tr D := run 8 b_l_limits
theorem ok_l_limits {f : Addr} {fd : FuncData} (F : Fun K "_law_limits" "_law_limits" st_l_limits f fd) (C__law_halves : Cal P w K mg base 2 "_law_halves" ["_law_top", "_law_turns"] (spD ⟨K, CT⟩ 2 m_l_halves)) (C__law_raised : Cal P w K mg base 1 "_law_raised" ["_law_base", "_law_turns"] (spD ⟨K, CT⟩ 2 m_l_raised)) :
    FnOk P w K mg base CX0 3 f fd ["_law_form_here", "_law_parts_here"] (spD ⟨K, CT⟩ 2 m_l_limits) :=
  fun_ok (k := 2) (n := 8) (kk := 2) (f := b_l_limits) F sc_l_limits rfl rfl fun cdv A outer s H E hr =>
    (dss_cons (ds_asg (de_var 0 (wv 0)) (dg_tup (is := [2, 3, 4]) (wg_tup (n := 3) (by rfl) (wgs_cons (wg_name (i := 2) sc_l_limits.nd rfl (Or.inl rfl)) (wgs_cons (wg_name (i := 3) sc_l_limits.nd rfl (Or.inl rfl)) (wgs_cons (wg_name (i := 4) sc_l_limits.nd rfl (Or.inl rfl)) wgs_nil))))))
        (dss_cons (ds_asg (de_var 1 (wv 1)) (dg_tup (is := [5, 6]) (wg_tup (n := 2) (by rfl) (wgs_cons (wg_name (i := 5) sc_l_limits.nd rfl (Or.inl rfl)) (wgs_cons (wg_name (i := 6) sc_l_limits.nd rfl (Or.inl rfl)) wgs_nil)))))
        (dss_cons (ds_set (i := 7) sc_l_limits.nd rfl (Or.inl rfl) (de_cal C__law_halves (hr.mono (by decide)) (by rfl) (da_cons (de_op op_add od_add (de_op op_mulB od_mul de_int (de_var 5 (wv 5))) de_int) (da_cons (de_op op_sub od_sub (de_var 6 (wv 6)) de_int) da_nil))))
        (dss_cons (ds_if (dt_cmp op_eq od_eq (de_var 5 (wv 5)) de_int (nomark _)) (dss_one (ds_ret (de_tup (da_cons (de_tup (da_cons de_int (da_cons de_int da_nil))) (da_cons (de_var 7 (wv 7)) (da_cons de_bl da_nil)))))) dss_nil)
        (dss_cons (ds_if (dt_w (dw_and (dt_cmp op_eq od_eq (de_var 5 (wv 5)) (de_cal C__law_raised (hr.mono (by decide)) (by rfl) (da_cons de_int (da_cons (de_op op_sub od_sub (de_var 2 (wv 2)) de_int) da_nil))) (nomark _)) (dw_and1 (dt_cmp op_gt od_gt (de_var 6 (wv 6)) (de_var 3 (wv 3)) (nomark _))))) (dss_one (ds_ret (de_tup (da_cons (de_cal C__law_halves (hr.mono (by decide)) (by rfl) (da_cons (de_op op_sub od_sub (de_op op_mulB od_mul de_int (de_var 5 (wv 5))) de_int) (da_cons (de_op op_sub od_sub (de_var 6 (wv 6)) de_int) da_nil))) (da_cons (de_var 7 (wv 7)) (da_cons (de_cmp op_eq od_eq (de_op op_mod od_mod (de_var 5 (wv 5)) de_int) de_int (nomark _)) da_nil)))))) dss_nil)
        (dss_one (ds_ret (de_tup (da_cons (de_cal C__law_halves (hr.mono (by decide)) (by rfl) (da_cons (de_op op_sub od_sub (de_op op_mulB od_mul de_int (de_var 5 (wv 5))) de_int) (da_cons (de_op op_sub od_sub (de_var 6 (wv 6)) de_int) da_nil))) (da_cons (de_var 7 (wv 7)) (da_cons (de_cmp op_eq od_eq (de_op op_mod od_mod (de_var 5 (wv 5)) de_int) de_int (nomark _)) da_nil)))))))))))
abbrev st_Number_kind : Stmt := inClass (top 16) 3
theorem sc_Number_kind : FnScope ["self"] ["self"] (defScope st_Number_kind) := ⟨rfl, rfl, rfl, by decide +kernel, rfl, by decide +kernel, by decide +kernel⟩
def b_Number_kind : FS := (fSeq (fIfS (fTst (fOp gNe (fFldO CS FL "state" 0) (fC (.str "finite")))) (fRet (fFldO CS FL "state" 0)) fNx)
        (fSeq (fIfS (fTst (fOp gEq (fFldO CS FL "own_significand" 0) (fC (.int 0)))) (fRet (fC (.str "zero"))) fNx)
        (fSeq (fIfS (fTst (fOp gLt (fFldO CS FL "own_significand" 0) (fCall m_first_normal (fCons (fFldO CS FL "own_shape" 0) fNil)))) (fRet (fC (.str "subnormal"))) fNx)
        (fRet (fC (.str "normal"))))))
def m_Number_kind : List D → Tr D := run 1 b_Number_kind
theorem ok_Number_kind {f : Addr} {fd : FuncData} (F : Fun K "kind" "Number.kind" st_Number_kind f fd) (FO : FldOk ⟨K, CT⟩ CS FL) (C_first_normal : Cal P w K mg base 1 "first_normal" ["shape"] (spD ⟨K, CT⟩ 1 m_first_normal)) (G_FINITE : GStr mg "FINITE" "finite") :
    FnOk P w K mg base CX0 2 f fd ["self"] (spD ⟨K, CT⟩ 1 m_Number_kind) :=
  fun_ok (k := 1) (n := 1) (kk := 1) (f := b_Number_kind) F sc_Number_kind rfl rfl fun cdv A outer s H E hr =>
    (dss_cons (ds_if (dt_cmp op_ne od_ne (de_fldO FO (wv 0)) (de_gstr G_FINITE (by rfl)) (nomark _)) (dss_one (ds_ret (de_fldO FO (wv 0)))) dss_nil)
        (dss_cons (ds_if (dt_cmp op_eq od_eq (de_fldO FO (wv 0)) de_int (nomark _)) (dss_one (ds_ret de_str)) dss_nil)
        (dss_cons (ds_if (dt_cmp op_lt od_lt (de_fldO FO (wv 0)) (de_cal C_first_normal (hr.mono (by decide)) (by rfl) (da_cons (de_fldO FO (wv 0)) da_nil)) (nomark _)) (dss_one (ds_ret de_str)) dss_nil)
        (dss_one (ds_ret de_str)))))
abbrev st_is_whole : Stmt := top 7
theorem sc_is_whole : FnScope ["thing", "least", "most"] ["thing", "least", "most"] (defScope st_is_whole) := ⟨rfl, rfl, rfl, by decide +kernel, rfl, by decide +kernel, by decide +kernel⟩
def b_is_whole : FS := (fRet (fAndV (fCall (gIsi CS HI) (fCons (fVar 0) (fCons (fC (.ty "int")) fNil))) (fAndV (fNotV (fCall (gIsi CS HI) (fCons (fVar 0) (fCons (fC (.ty "bool")) fNil)))) (fChain gLe gLe (fVar 1) (fVar 0) (fVar 2)))))
def m_is_whole : List D → Tr D := run 3 b_is_whole
theorem ok_is_whole {f : Addr} {fd : FuncData} (F : Fun K "is_whole" "is_whole" st_is_whole f fd) (nb_bool : mg "bool" = none) (O : ClsOk ⟨K, CT⟩ CS HI) (nb_isinstance : mg "isinstance" = none) (nb_int : mg "int" = none) :
    FnOk P w K mg base CX0 1 f fd ["thing", "least", "most"] (spD ⟨K, CT⟩ 3 m_is_whole) :=
  fun_ok (k := 0) (n := 3) (kk := 3) (f := b_is_whole) F sc_is_whole rfl rfl fun cdv A outer s H E hr =>
    (dss_one (ds_ret (de_and (de_callB call_isiX (ad_isi O) (by rfl) nb_isinstance (by decide +kernel) (da_cons (de_var 0 (wv 0)) (da_cons (de_bltn (by rfl) nb_int (by decide +kernel)) da_nil))) (de_and (de_not (de_callB call_isiX (ad_isi O) (by rfl) nb_isinstance (by decide +kernel) (da_cons (de_var 0 (wv 0)) (da_cons (de_bltn (by rfl) nb_bool (by decide +kernel)) da_nil)))) (de_one (de_chain op_le od_le op_le od_le (de_var 1 (wv 1)) (de_var 0 (wv 0)) (de_var 2 (wv 2))))))))
abbrev st_want_whole : Stmt := top 9
theorem sc_want_whole : FnScope ["thing", "least", "most", "what"] ["thing", "least", "most", "what"] (defScope st_want_whole) := ⟨rfl, rfl, rfl, by decide +kernel, rfl, by decide +kernel, by decide +kernel⟩
def b_want_whole : FS := (fIfS (fNot (fTst (fCall m_is_whole (fCons (fVar 0) (fCons (fVar 1) (fCons (fVar 2) fNil)))))) fNever fNx)
def m_want_whole : List D → Tr D := run 4 b_want_whole
theorem ok_want_whole {f : Addr} {fd : FuncData} (F : Fun K "want_whole" "want_whole" st_want_whole f fd) (C_is_whole : Cal P w K mg base 1 "is_whole" ["thing", "least", "most"] (spD ⟨K, CT⟩ 3 m_is_whole)) :
    FnOk P w K mg base CX0 2 f fd ["thing", "least", "most", "what"] (spD ⟨K, CT⟩ 4 m_want_whole) :=
  fun_ok (k := 1) (n := 4) (kk := 4) (f := b_want_whole) F sc_want_whole rfl rfl fun cdv A outer s H E hr =>
    (dss_one (ds_if (dt_not (dt_val (de_cal C_is_whole (hr.mono (by decide)) (by rfl) (da_cons (de_var 0 (wv 0)) (da_cons (de_var 1 (wv 1)) (da_cons (de_var 2 (wv 2)) da_nil)))))) (dss_one ds_never) dss_nil))
abbrev st_is_shape : Stmt := top 8
theorem sc_is_shape : FnScope ["thing"] ["thing"] (defScope st_is_shape) := ⟨rfl, rfl, rfl, by decide +kernel, rfl, by decide +kernel, by decide +kernel⟩
def b_is_shape : FS := (fRet (fAndV (fCall (gIsi CS HI) (fCons (fVar 0) (fCons (fC (.ty "tuple")) fNil))) (fAndV (fOp gEq (fCall gLen (fCons (fVar 0) fNil)) (fC (.int 3))) (fAndV (fCall m_is_whole (fCons (fOp gIx (fVar 0) (fC (.int 0))) (fCons (fC (.int 2)) (fCons (fC (.int 64)) fNil)))) (fAndV (fCall m_is_whole (fCons (fOp gIx (fVar 0) (fC (.int 1))) (fCons (fC (.int (-1100))) (fCons (fC (.int 0)) fNil)))) (fCall m_is_whole (fCons (fOp gIx (fVar 0) (fC (.int 2))) (fCons (fOp gIx (fVar 0) (fC (.int 1))) (fCons (fC (.int 1000)) fNil)))))))))
def m_is_shape : List D → Tr D := run 1 b_is_shape
theorem ok_is_shape {f : Addr} {fd : FuncData} (F : Fun K "is_shape" "is_shape" st_is_shape f fd) (C_is_whole : Cal P w K mg base 1 "is_whole" ["thing", "least", "most"] (spD ⟨K, CT⟩ 3 m_is_whole)) (I_LOW_LEAST : GInt mg "LOW_LEAST" (-1100)) (nb_len : mg "len" = none) (nb_tuple : mg "tuple" = none) (O : ClsOk ⟨K, CT⟩ CS HI) (nb_isinstance : mg "isinstance" = none) :
    FnOk P w K mg base CX0 2 f fd ["thing"] (spD ⟨K, CT⟩ 1 m_is_shape) :=
  fun_ok (k := 1) (n := 1) (kk := 1) (f := b_is_shape) F sc_is_shape rfl rfl fun cdv A outer s H E hr =>
    (dss_one (ds_ret (de_and (de_callB call_isiX (ad_isi O) (by rfl) nb_isinstance (by decide +kernel) (da_cons (de_var 0 (wv 0)) (da_cons (de_bltn (by rfl) nb_tuple (by decide +kernel)) da_nil))) (de_and (de_cmp op_eq od_eq (de_callB call_lenS' ad_len (by rfl) nb_len (by decide +kernel) (da_cons (de_var 0 (wv 0)) da_nil)) de_int (nomark _)) (de_and (de_cal C_is_whole (hr.mono (by decide)) (by rfl) (da_cons (de_ix (de_var 0 (wv 0)) de_int (fun _ _ => rfl)) (da_cons de_int (da_cons de_int da_nil)))) (de_and (de_cal C_is_whole (hr.mono (by decide)) (by rfl) (da_cons (de_ix (de_var 0 (wv 0)) de_int (fun _ _ => rfl)) (da_cons (de_gint I_LOW_LEAST (by rfl)) (da_cons de_int da_nil)))) (de_one (de_cal C_is_whole (hr.mono (by decide)) (by rfl) (da_cons (de_ix (de_var 0 (wv 0)) de_int (fun _ _ => rfl)) (da_cons (de_ix (de_var 0 (wv 0)) de_int (fun _ _ => rfl)) (da_cons de_int da_nil)))))))))))
abbrev st_want_shape : Stmt := top 10
theorem sc_want_shape : FnScope ["thing"] ["thing"] (defScope st_want_shape) := ⟨rfl, rfl, rfl, by decide +kernel, rfl, by decide +kernel, by decide +kernel⟩
def b_want_shape : FS := (fIfS (fNot (fTst (fCall m_is_shape (fCons (fVar 0) fNil)))) fNever fNx)
def m_want_shape : List D → Tr D := run 1 b_want_shape
theorem ok_want_shape {f : Addr} {fd : FuncData} (F : Fun K "want_shape" "want_shape" st_want_shape f fd) (C_is_shape : Cal P w K mg base 2 "is_shape" ["thing"] (spD ⟨K, CT⟩ 1 m_is_shape)) :
    FnOk P w K mg base CX0 3 f fd ["thing"] (spD ⟨K, CT⟩ 1 m_want_shape) :=
  fun_ok (k := 2) (n := 1) (kk := 1) (f := b_want_shape) F sc_want_shape rfl rfl fun cdv A outer s H E hr =>
    (dss_one (ds_if (dt_not (dt_val (de_cal C_is_shape (hr.mono (by decide)) (by rfl) (da_cons (de_var 0 (wv 0)) da_nil)))) (dss_one ds_never) dss_nil))
abbrev st_Number_init : Stmt := inClass (top 16) 0
theorem sc_Number_init : FnScope ["self", "shape", "sign", "significand", "exponent", "precision", "low", "high", "scale"] ["self", "shape", "sign", "significand", "exponent"] (defScope st_Number_init) := ⟨rfl, rfl, rfl, by decide +kernel, rfl, by decide +kernel, by decide +kernel⟩
def b_Number_init : FS := (fSeq (fDrop (fCall m_want_shape (fCons (fVar 1) fNil)))
        (fSeq (fDrop (fCall m_want_whole (fCons (fVar 2) (fCons (fC (.int 0)) (fCons (fC (.int 1)) (fCons (fC (.str "sign")) fNil))))))
        (fSeq (fAsg (fVar 1) (hTup [5, 6, 7]))
        (fSeq (fDrop (fCall m_want_whole (fCons (fVar 3) (fCons (fC (.int 0)) (fCons (fOp gSubt (fOp gShl (fC (.int 1)) (fVar 5)) (fC (.int 1))) (fCons (fC (.str "significand")) fNil))))))
        (fSeq (fSet 8 (fIf (fTst (fOp gIsN (fVar 4) (fC .non))) (fVar 6) (fVar 4)))
        (fSeq (fDrop (fCall m_want_whole (fCons (fVar 8) (fCons (fVar 6) (fCons (fVar 7) (fCons (fC (.str "exponent")) fNil))))))
        (fSeq (fIfS (fAnd (fTst (fOp gGt (fVar 8) (fVar 6))) (fTst (fOp gLt (fVar 3) (fCall m_first_normal (fCons (fVar 1) fNil))))) fNever fNx)
        (fSeq (fFldSet CS FL "own_shape" 0 (fVar 1))
        (fSeq (fFldSet CS FL "own_sign" 0 (fVar 2))
        (fSeq (fFldSet CS FL "own_significand" 0 (fVar 3))
        (fSeq (fFldSet CS FL "own_exponent" 0 (fVar 8))
        (fFldSet CS FL "state" 0 (fC (.str "finite"))))))))))))))
def m_Number_init : List D → Tr (List Str × List D) := runI 9 "Number" b_Number_init
theorem ok_Number_init {f : Addr} {fd : FuncData} {dV kV : Value} (F : FunD K "__init__" "Number.__init__" st_Number_init f fd dV kV) (FO : FldOk ⟨K, CT⟩ CS FL) (G_FINITE : GStr mg "FINITE" "finite") (C_first_normal : Cal P w K mg base 1 "first_normal" ["shape"] (spD ⟨K, CT⟩ 1 m_first_normal)) (C_want_whole : Cal P w K mg base 2 "want_whole" ["thing", "least", "most", "what"] (spD ⟨K, CT⟩ 4 m_want_whole)) (C_want_shape : Cal P w K mg base 3 "want_shape" ["thing"] (spD ⟨K, CT⟩ 1 m_want_shape)) :
    FnOk P w K mg base CX0 4 f fd ["self", "shape", "sign", "significand", "exponent"] (spI ⟨K, CT⟩ "Number" 4 m_Number_init) :=
  fundI_ok (k := 3) (n := 9) (kk := 4) (c := "Number") (f := b_Number_init) F sc_Number_init rfl rfl fun cdv A outer s H E hr =>
    (dss_cons (ds_expr (de_cal C_want_shape (hr.mono (by decide)) (by rfl) (da_cons (de_var 1 (wv 1)) da_nil)))
        (dss_cons (ds_expr (de_cal C_want_whole (hr.mono (by decide)) (by rfl) (da_cons (de_var 2 (wv 2)) (da_cons de_int (da_cons de_int (da_cons de_str da_nil))))))
        (dss_cons (ds_asg (de_var 1 (wv 1)) (dg_tup (is := [5, 6, 7]) (wg_tup (n := 3) (by rfl) (wgs_cons (wg_name (i := 5) sc_Number_init.nd rfl (Or.inl rfl)) (wgs_cons (wg_name (i := 6) sc_Number_init.nd rfl (Or.inl rfl)) (wgs_cons (wg_name (i := 7) sc_Number_init.nd rfl (Or.inl rfl)) wgs_nil))))))
        (dss_cons (ds_expr (de_cal C_want_whole (hr.mono (by decide)) (by rfl) (da_cons (de_var 3 (wv 3)) (da_cons de_int (da_cons (de_op op_sub od_sub (de_op op_shlB od_shl de_int (de_var 5 (wv 5))) de_int) (da_cons de_str da_nil))))))
        (dss_cons (ds_set (i := 8) sc_Number_init.nd rfl (Or.inl rfl) (de_if (dt_cmp op_isNM od_isN (de_var 4 (wv 4)) de_non (nomark _)) (de_var 6 (wv 6)) (de_var 4 (wv 4))))
        (dss_cons (ds_expr (de_cal C_want_whole (hr.mono (by decide)) (by rfl) (da_cons (de_var 8 (wv 8)) (da_cons (de_var 6 (wv 6)) (da_cons (de_var 7 (wv 7)) (da_cons de_str da_nil))))))
        (dss_cons (ds_if (dt_w (dw_and (dt_cmp op_gt od_gt (de_var 8 (wv 8)) (de_var 6 (wv 6)) (nomark _)) (dw_and1 (dt_cmp op_lt od_lt (de_var 3 (wv 3)) (de_cal C_first_normal (hr.mono (by decide)) (by rfl) (da_cons (de_var 1 (wv 1)) da_nil)) (nomark _))))) (dss_one ds_never) dss_nil)
        (dss_cons (ds_fldset FO (wv 0) (de_var 1 (wv 1)))
        (dss_cons (ds_fldset FO (wv 0) (de_var 2 (wv 2)))
        (dss_cons (ds_fldset FO (wv 0) (de_var 3 (wv 3)))
        (dss_cons (ds_fldset FO (wv 0) (de_var 8 (wv 8)))
        (dss_one (ds_fldset FO (wv 0) (de_gstr G_FINITE (by rfl)))))))))))))))
abbrev st_last_rank : Stmt := top 22
theorem sc_last_rank : FnScope ["shape", "precision", "low", "high"] ["shape"] (defScope st_last_rank) := ⟨rfl, rfl, rfl, by decide +kernel, rfl, by decide +kernel, by decide +kernel⟩
def b_last_rank : FS := (fSeq (fAsg (fVar 0) (hTup [1, 2, 3]))
        (fRet (fOp gMul (fOp gAdd (fOp gSubt (fVar 3) (fVar 2)) (fC (.int 2))) (fCall m_first_normal (fCons (fVar 0) fNil)))))
def m_last_rank : List D → Tr D := run 4 b_last_rank
theorem ok_last_rank {f : Addr} {fd : FuncData} (F : Fun K "last_rank" "last_rank" st_last_rank f fd) (C_first_normal : Cal P w K mg base 1 "first_normal" ["shape"] (spD ⟨K, CT⟩ 1 m_first_normal)) :
    FnOk P w K mg base CX0 2 f fd ["shape"] (spD ⟨K, CT⟩ 1 m_last_rank) :=
  fun_ok (k := 1) (n := 4) (kk := 1) (f := b_last_rank) F sc_last_rank rfl rfl fun cdv A outer s H E hr =>
    (dss_cons (ds_asg (de_var 0 (wv 0)) (dg_tup (is := [1, 2, 3]) (wg_tup (n := 3) (by rfl) (wgs_cons (wg_name (i := 1) sc_last_rank.nd rfl (Or.inl rfl)) (wgs_cons (wg_name (i := 2) sc_last_rank.nd rfl (Or.inl rfl)) (wgs_cons (wg_name (i := 3) sc_last_rank.nd rfl (Or.inl rfl)) wgs_nil))))))
        (dss_one (ds_ret (de_op op_mulB od_mul (de_op op_add od_add (de_op op_sub od_sub (de_var 3 (wv 3)) (de_var 2 (wv 2))) de_int) (de_cal C_first_normal (hr.mono (by decide)) (by rfl) (da_cons (de_var 0 (wv 0)) da_nil))))))
def gV_Number_init_2_sign : List V → List V → List V
  | [a0, a1], [k0] => [a0, a1, k0, .int 0, .non]
  | _, _ => []
def gD_Number_init_2_sign : List D → List D → List D
  | [a1], [k0] => [a1, k0, .int 0, .non]
  | _, _ => []
theorem pm_Number_init_2_sign {G : Gd} : PutM G 4 1 1 (gV_Number_init_2_sign) gD_Number_init_2_sign := by
  refine ⟨fun ds es h1 h2 => ?_, fun W x ds es vs us h1 h2 r1 r2 => ?_⟩
  · match ds, es, h1, h2 with
    | [a1], [k0], _, _ => rfl
  · match ds, es, h1, h2 with
    | [a1], [k0], _, _ =>
      simp only [RpL] at r1 r2
      obtain ⟨av1, _, rfl, ha1, rfl⟩ := r1
      obtain ⟨kv0, _, rfl, hk0, rfl⟩ := r2
      exact ⟨_, rfl, (RpL.cons ha1 (RpL.cons hk0 (RpL.cons (by simp only [Rp]) (RpL.cons (by simp only [Rp]) RpL.nil))))⟩
abbrev st_infinite : Stmt := top 17
theorem sc_infinite : FnScope ["shape", "sign", "made"] ["shape", "sign"] (defScope st_infinite) := ⟨rfl, rfl, rfl, by decide +kernel, rfl, by decide +kernel, by decide +kernel⟩
def b_infinite : FS := (fSeq (fNew 2 "Number" m_Number_init gD_Number_init_2_sign (fCons (fVar 0) fNil) (fCons (fVar 1) fNil))
        (fSeq (fFldSet CS FL "state" 2 (fC (.str "infinite")))
        (fFrz 2 (fRet (fVar 2)))))
def m_infinite : List D → Tr D := run 3 b_infinite
theorem ok_infinite {f : Addr} {fd : FuncData} {dV kV : Value} (F : FunD K "infinite" "infinite" st_infinite f fd dV kV) (FO : FldOk ⟨K, CT⟩ CS FL) (G_INFINITE : GStr mg "INFINITE" "infinite") (M_Number_2_sign : CalM P w K mg base 4 "Number" (CT "Number") ["self", "shape", "sign", "significand", "exponent"] ["sign"] (gV_Number_init_2_sign) (spI ⟨K, CT⟩ "Number" 4 m_Number_init)) :
    FnOk P w K mg base CX0 6 f fd ["shape", "sign"] (spD ⟨K, CT⟩ 2 m_infinite) :=
  fund_ok (k := 5) (n := 3) (kk := 2) (f := b_infinite) F sc_infinite rfl rfl fun cdv A outer s H E hr =>
    (dss_cons (ds_newK (i := 2) (c := "Number") M_Number_2_sign (pm_Number_init_2_sign) (hr.mono (by decide)) (by rfl) (da_cons (de_var 0 (wv 0)) da_nil) (dk_cons (de_var 1 (wv 1)) dk_nil) (by decide) sc_infinite.nd rfl (Or.inl rfl))
        (dss_cons (ds_fldset FO (wv 2) (de_gstr G_INFINITE (by rfl)))
        (dss_one (ds_frz (i := 2) (by decide) (ds_ret (de_var 2 (wv 2)))))))
def gV_Number_init_2_sign_significand_exponent : List V → List V → List V
  | [a0, a1], [k0, k1, k2] => [a0, a1, k0, k1, k2]
  | _, _ => []
def gD_Number_init_2_sign_significand_exponent : List D → List D → List D
  | [a1], [k0, k1, k2] => [a1, k0, k1, k2]
  | _, _ => []
theorem pm_Number_init_2_sign_significand_exponent {G : Gd} : PutM G 4 1 3 (gV_Number_init_2_sign_significand_exponent) gD_Number_init_2_sign_significand_exponent := by
  refine ⟨fun ds es h1 h2 => ?_, fun W x ds es vs us h1 h2 r1 r2 => ?_⟩
  · match ds, es, h1, h2 with
    | [a1], [k0, k1, k2], _, _ => rfl
  · match ds, es, h1, h2 with
    | [a1], [k0, k1, k2], _, _ =>
      simp only [RpL] at r1 r2
      obtain ⟨av1, _, rfl, ha1, rfl⟩ := r1
      obtain ⟨kv0, _, rfl, hk0, kv1, _, rfl, hk1, kv2, _, rfl, hk2, rfl⟩ := r2
      exact ⟨_, rfl, (RpL.cons ha1 (RpL.cons hk0 (RpL.cons hk1 (RpL.cons hk2 RpL.nil))))⟩
def gV_infinite_1_sign : List V → List V → List V
  | [a0], [k0] => [a0, k0]
  | _, _ => []
def gD_infinite_1_sign : List D → List D → List D
  | [a0], [k0] => [a0, k0]
  | _, _ => []
theorem pd_infinite_1_sign {G : Gd} : PutD G 2 1 1 (gV_infinite_1_sign) gD_infinite_1_sign := by
  refine ⟨fun ds es h1 h2 => ?_, fun W ds es vs us h1 h2 r1 r2 => ?_⟩
  · match ds, es, h1, h2 with
    | [a0], [k0], _, _ => rfl
  · match ds, es, h1, h2 with
    | [a0], [k0], _, _ =>
      simp only [RpL] at r1 r2
      obtain ⟨av0, _, rfl, ha0, rfl⟩ := r1
      obtain ⟨kv0, _, rfl, hk0, rfl⟩ := r2
      exact (RpL.cons ha0 (RpL.cons hk0 RpL.nil))
abbrev st_by_steps : Stmt := top 24
theorem sc_by_steps : FnScope ["steps", "shape", "sign", "first", "rise"] ["steps", "shape", "sign"] (defScope st_by_steps) := ⟨rfl, rfl, rfl, by decide +kernel, rfl, by decide +kernel, by decide +kernel⟩
def b_by_steps : FS := (fSeq (fIfS (fTst (fOp gEq (fVar 0) (fCall m_last_rank (fCons (fVar 1) fNil)))) (fRet (fCallK m_infinite gD_infinite_1_sign (fCons (fVar 1) fNil) (fCons (fVar 2) fNil))) fNx)
        (fSeq (fSet 3 (fCall m_first_normal (fCons (fVar 1) fNil)))
        (fSeq (fSet 4 (fCall gMax (fCons (fC (.int 0)) (fCons (fOp gSubt (fOp gDiv (fVar 0) (fVar 3)) (fC (.int 1))) fNil))))
        (fRet (fMake "Number" m_Number_init gD_Number_init_2_sign_significand_exponent (fCons (fVar 1) fNil) (fCons (fVar 2) (fCons (fOp gSubt (fVar 0) (fOp gMul (fVar 4) (fVar 3))) (fCons (fOp gAdd (fOp gIx (fVar 1) (fC (.int 1))) (fVar 4)) fNil))))))))
def m_by_steps : List D → Tr D := run 5 b_by_steps
theorem ok_by_steps {f : Addr} {fd : FuncData} (F : Fun K "by_steps" "by_steps" st_by_steps f fd) (M_Number_2_sign_significand_exponent : CalM P w K mg base 4 "Number" (CT "Number") ["self", "shape", "sign", "significand", "exponent"] ["sign", "significand", "exponent"] (gV_Number_init_2_sign_significand_exponent) (spI ⟨K, CT⟩ "Number" 4 m_Number_init)) (nb_max : mg "max" = none) (C_first_normal : Cal P w K mg base 1 "first_normal" ["shape"] (spD ⟨K, CT⟩ 1 m_first_normal)) (C_last_rank : Cal P w K mg base 2 "last_rank" ["shape"] (spD ⟨K, CT⟩ 1 m_last_rank)) (K_infinite_1_sign : CalK P w K mg base 6 "infinite" ["shape", "sign"] ["sign"] (gV_infinite_1_sign) (spD ⟨K, CT⟩ 2 m_infinite)) :
    FnOk P w K mg base CX0 7 f fd ["steps", "shape", "sign"] (spD ⟨K, CT⟩ 3 m_by_steps) :=
  fun_ok (k := 6) (n := 5) (kk := 3) (f := b_by_steps) F sc_by_steps rfl rfl fun cdv A outer s H E hr =>
    (dss_cons (ds_if (dt_cmp op_eq od_eq (de_var 0 (wv 0)) (de_cal C_last_rank (hr.mono (by decide)) (by rfl) (da_cons (de_var 1 (wv 1)) da_nil)) (nomark _)) (dss_one (ds_ret (de_calP K_infinite_1_sign (pd_infinite_1_sign) (hr.mono (by decide)) (by rfl) (da_cons (de_var 1 (wv 1)) da_nil) (dk_cons (de_var 2 (wv 2)) dk_nil)))) dss_nil)
        (dss_cons (ds_set (i := 3) sc_by_steps.nd rfl (Or.inl rfl) (de_cal C_first_normal (hr.mono (by decide)) (by rfl) (da_cons (de_var 1 (wv 1)) da_nil)))
        (dss_cons (ds_set (i := 4) sc_by_steps.nd rfl (Or.inl rfl) (de_callB (call_maxM rfl) ad_max (by rfl) nb_max (by decide +kernel) (da_cons de_int (da_cons (de_op op_sub od_sub (de_op op_divD od_div (de_var 0 (wv 0)) (de_var 3 (wv 3))) de_int) da_nil))))
        (dss_one (ds_ret (de_makeK (c := "Number") M_Number_2_sign_significand_exponent (pm_Number_init_2_sign_significand_exponent) (hr.mono (by decide)) (by rfl) (da_cons (de_var 1 (wv 1)) da_nil) (dk_cons (de_var 2 (wv 2)) (dk_cons (de_op op_sub od_sub (de_var 0 (wv 0)) (de_op op_mulB od_mul (de_var 4 (wv 4)) (de_var 3 (wv 3)))) (dk_cons (de_op op_add od_add (de_ix (de_var 1 (wv 1)) de_int (fun _ _ => rfl)) (de_var 4 (wv 4))) dk_nil)))))))))
abbrev st_by_rank : Stmt := top 18
theorem sc_by_rank : FnScope ["rank", "shape", "last"] ["rank", "shape"] (defScope st_by_rank) := ⟨rfl, rfl, rfl, by decide +kernel, rfl, by decide +kernel, by decide +kernel⟩
def b_by_rank : FS := (fSeq (fDrop (fCall m_want_shape (fCons (fVar 1) fNil)))
        (fSeq (fSet 2 (fCall m_last_rank (fCons (fVar 1) fNil)))
        (fSeq (fDrop (fCall m_want_whole (fCons (fVar 0) (fCons (fUn gNeg (fVar 2)) (fCons (fVar 2) (fCons (fC (.str "rank")) fNil))))))
        (fRet (fCall m_by_steps (fCons (fCall gAbs (fCons (fVar 0) fNil)) (fCons (fVar 1) (fCons (fIf (fTst (fOp gLt (fVar 0) (fC (.int 0)))) (fC (.int 1)) (fC (.int 0))) fNil))))))))
def m_by_rank : List D → Tr D := run 3 b_by_rank
theorem ok_by_rank {f : Addr} {fd : FuncData} {dV kV : Value} (F : FunD K "by_rank" "by_rank" st_by_rank f fd dV kV) (nb_abs : mg "abs" = none) (C_by_steps : Cal P w K mg base 7 "by_steps" ["steps", "shape", "sign"] (spD ⟨K, CT⟩ 3 m_by_steps)) (C_want_whole : Cal P w K mg base 2 "want_whole" ["thing", "least", "most", "what"] (spD ⟨K, CT⟩ 4 m_want_whole)) (C_last_rank : Cal P w K mg base 2 "last_rank" ["shape"] (spD ⟨K, CT⟩ 1 m_last_rank)) (C_want_shape : Cal P w K mg base 3 "want_shape" ["thing"] (spD ⟨K, CT⟩ 1 m_want_shape)) :
    FnOk P w K mg base CX0 8 f fd ["rank", "shape"] (spD ⟨K, CT⟩ 2 m_by_rank) :=
  fund_ok (k := 7) (n := 3) (kk := 2) (f := b_by_rank) F sc_by_rank rfl rfl fun cdv A outer s H E hr =>
    (dss_cons (ds_expr (de_cal C_want_shape (hr.mono (by decide)) (by rfl) (da_cons (de_var 1 (wv 1)) da_nil)))
        (dss_cons (ds_set (i := 2) sc_by_rank.nd rfl (Or.inl rfl) (de_cal C_last_rank (hr.mono (by decide)) (by rfl) (da_cons (de_var 1 (wv 1)) da_nil)))
        (dss_cons (ds_expr (de_cal C_want_whole (hr.mono (by decide)) (by rfl) (da_cons (de_var 0 (wv 0)) (da_cons (de_un un_neg ud_neg (de_var 2 (wv 2))) (da_cons (de_var 2 (wv 2)) (da_cons de_str da_nil))))))
        (dss_one (ds_ret (de_cal C_by_steps (hr.mono (by decide)) (by rfl) (da_cons (de_callB call_absM ad_abs (by rfl) nb_abs (by decide +kernel) (da_cons (de_var 0 (wv 0)) da_nil)) (da_cons (de_var 1 (wv 1)) (da_cons (de_if (dt_cmp op_lt od_lt (de_var 0 (wv 0)) de_int (nomark _)) de_int de_int) da_nil)))))))))
abbrev st_Number_sign : Stmt := inClass (top 16) 2
theorem sc_Number_sign : FnScope ["self"] ["self"] (defScope st_Number_sign) := ⟨rfl, rfl, rfl, by decide +kernel, rfl, by decide +kernel, by decide +kernel⟩
def b_Number_sign : FS := (fRet (fFldO CS FL "own_sign" 0))
def m_Number_sign : List D → Tr D := run 1 b_Number_sign
theorem ok_Number_sign {f : Addr} {fd : FuncData} (F : Fun K "sign" "Number.sign" st_Number_sign f fd) (FO : FldOk ⟨K, CT⟩ CS FL) :
    FnOk P w K mg base CX0 1 f fd ["self"] (spD ⟨K, CT⟩ 1 m_Number_sign) :=
  fun_ok (k := 0) (n := 1) (kk := 1) (f := b_Number_sign) F sc_Number_sign rfl rfl fun cdv A outer s H E hr =>
    (dss_one (ds_ret (de_fldO FO (wv 0))))
abbrev st_steps_from_zero : Stmt := top 23
theorem sc_steps_from_zero : FnScope ["number", "significand", "exponent", "precision", "low", "high"] ["number"] (defScope st_steps_from_zero) := ⟨rfl, rfl, rfl, by decide +kernel, rfl, by decide +kernel, by decide +kernel⟩
def b_steps_from_zero : FS := (fSeq (fIfS (fTst (fOp gEq (fMeth "Number" "kind" m_Number_kind (fVar 0) fNil) (fC (.str "infinite")))) (fRet (fCall m_last_rank (fCons (fMeth "Number" "shape" m_Number_shape (fVar 0) fNil) fNil))) fNx)
        (fSeq (fAsg (fMeth "Number" "parts" m_Number_parts (fVar 0) fNil) (hTup [1, 2]))
        (fSeq (fAsg (fMeth "Number" "shape" m_Number_shape (fVar 0) fNil) (hTup [3, 4, 5]))
        (fRet (fOp gAdd (fVar 1) (fOp gMul (fOp gSubt (fVar 2) (fVar 4)) (fCall m_first_normal (fCons (fMeth "Number" "shape" m_Number_shape (fVar 0) fNil) fNil))))))))
def m_steps_from_zero : List D → Tr D := run 6 b_steps_from_zero
theorem ok_steps_from_zero {f : Addr} {fd : FuncData} (F : Fun K "steps_from_zero" "steps_from_zero" st_steps_from_zero f fd) (O_Number_shape : CalO P w K mg base 1 (CT "Number") "shape" ["self"] (spD ⟨K, CT⟩ 1 m_Number_shape)) (C_first_normal : Cal P w K mg base 1 "first_normal" ["shape"] (spD ⟨K, CT⟩ 1 m_first_normal)) (O_Number_parts : CalO P w K mg base 1 (CT "Number") "parts" ["self"] (spD ⟨K, CT⟩ 1 m_Number_parts)) (O_Number_kind : CalO P w K mg base 2 (CT "Number") "kind" ["self"] (spD ⟨K, CT⟩ 1 m_Number_kind)) (G_INFINITE : GStr mg "INFINITE" "infinite") (C_last_rank : Cal P w K mg base 2 "last_rank" ["shape"] (spD ⟨K, CT⟩ 1 m_last_rank)) :
    FnOk P w K mg base CX0 3 f fd ["number"] (spD ⟨K, CT⟩ 1 m_steps_from_zero) :=
  fun_ok (k := 2) (n := 6) (kk := 1) (f := b_steps_from_zero) F sc_steps_from_zero rfl rfl fun cdv A outer s H E hr =>
    (dss_cons (ds_if (dt_cmp op_eq od_eq (de_meth0 (c := "Number") O_Number_kind (hr.mono (by decide)) (de_var 0 (wv 0))) (de_gstr G_INFINITE (by rfl)) (nomark _)) (dss_one (ds_ret (de_cal C_last_rank (hr.mono (by decide)) (by rfl) (da_cons (de_meth0 (c := "Number") O_Number_shape (hr.mono (by decide)) (de_var 0 (wv 0))) da_nil)))) dss_nil)
        (dss_cons (ds_asg (de_meth0 (c := "Number") O_Number_parts (hr.mono (by decide)) (de_var 0 (wv 0))) (dg_tup (is := [1, 2]) (wg_tup (n := 2) (by rfl) (wgs_cons (wg_name (i := 1) sc_steps_from_zero.nd rfl (Or.inl rfl)) (wgs_cons (wg_name (i := 2) sc_steps_from_zero.nd rfl (Or.inl rfl)) wgs_nil)))))
        (dss_cons (ds_asg (de_meth0 (c := "Number") O_Number_shape (hr.mono (by decide)) (de_var 0 (wv 0))) (dg_tup (is := [3, 4, 5]) (wg_tup (n := 3) (by rfl) (wgs_cons (wg_name (i := 3) sc_steps_from_zero.nd rfl (Or.inl rfl)) (wgs_cons (wg_name (i := 4) sc_steps_from_zero.nd rfl (Or.inl rfl)) (wgs_cons (wg_name (i := 5) sc_steps_from_zero.nd rfl (Or.inl rfl)) wgs_nil))))))
        (dss_one (ds_ret (de_op op_add od_add (de_var 1 (wv 1)) (de_op op_mulB od_mul (de_op op_sub od_sub (de_var 2 (wv 2)) (de_var 4 (wv 4))) (de_cal C_first_normal (hr.mono (by decide)) (by rfl) (da_cons (de_meth0 (c := "Number") O_Number_shape (hr.mono (by decide)) (de_var 0 (wv 0))) da_nil)))))))))
abbrev st_Number_rank : Stmt := inClass (top 16) 6
theorem sc_Number_rank : FnScope ["self", "steps"] ["self"] (defScope st_Number_rank) := ⟨rfl, rfl, rfl, by decide +kernel, rfl, by decide +kernel, by decide +kernel⟩
def b_Number_rank : FS := (fSeq (fIfS (fTst (fOp gEq (fFldO CS FL "state" 0) (fC (.str "nan")))) fNever fNx)
        (fSeq (fSet 1 (fCall m_steps_from_zero (fCons (fVar 0) fNil)))
        (fRet (fIf (fTst (fOp gEq (fFldO CS FL "own_sign" 0) (fC (.int 1)))) (fUn gNeg (fVar 1)) (fVar 1)))))
def m_Number_rank : List D → Tr D := run 2 b_Number_rank
theorem ok_Number_rank {f : Addr} {fd : FuncData} (F : Fun K "rank" "Number.rank" st_Number_rank f fd) (FO : FldOk ⟨K, CT⟩ CS FL) (C_steps_from_zero : Cal P w K mg base 3 "steps_from_zero" ["number"] (spD ⟨K, CT⟩ 1 m_steps_from_zero)) (G_NAN : GStr mg "NAN" "nan") :
    FnOk P w K mg base CX0 4 f fd ["self"] (spD ⟨K, CT⟩ 1 m_Number_rank) :=
  fun_ok (k := 3) (n := 2) (kk := 1) (f := b_Number_rank) F sc_Number_rank rfl rfl fun cdv A outer s H E hr =>
    (dss_cons (ds_if (dt_cmp op_eq od_eq (de_fldO FO (wv 0)) (de_gstr G_NAN (by rfl)) (nomark _)) (dss_one ds_never) dss_nil)
        (dss_cons (ds_set (i := 1) sc_Number_rank.nd rfl (Or.inl rfl) (de_cal C_steps_from_zero (hr.mono (by decide)) (by rfl) (da_cons (de_var 0 (wv 0)) da_nil)))
        (dss_one (ds_ret (de_if (dt_cmp op_eq od_eq (de_fldO FO (wv 0)) de_int (nomark _)) (de_un un_neg ud_neg (de_var 1 (wv 1))) (de_var 1 (wv 1)))))))
def gV_by_rank_2 : List V → List V → List V
  | [a0, a1], [] => [a0, a1]
  | _, _ => []
def gD_by_rank_2 : List D → List D → List D
  | [a0, a1], [] => [a0, a1]
  | _, _ => []
theorem pd_by_rank_2 {G : Gd} : PutD G 2 2 0 (gV_by_rank_2) gD_by_rank_2 := by
  refine ⟨fun ds es h1 h2 => ?_, fun W ds es vs us h1 h2 r1 r2 => ?_⟩
  · match ds, es, h1, h2 with
    | [a0, a1], [], _, _ => rfl
  · match ds, es, h1, h2 with
    | [a0, a1], [], _, _ =>
      simp only [RpL] at r1 r2
      obtain ⟨av0, _, rfl, ha0, av1, _, rfl, ha1, rfl⟩ := r1
      obtain rfl := r2
      exact (RpL.cons ha0 (RpL.cons ha1 RpL.nil))
abbrev st_moved : Stmt := top 25
theorem sc_moved : FnScope ["number", "step", "shape", "rank"] ["number", "step"] (defScope st_moved) := ⟨rfl, rfl, rfl, by decide +kernel, rfl, by decide +kernel, by decide +kernel⟩
def b_moved : FS := (fSeq (fIfS (fTst (fOp gEq (fMeth "Number" "kind" m_Number_kind (fVar 0) fNil) (fC (.str "nan")))) (fRet (fVar 0)) fNx)
        (fSeq (fSet 2 (fMeth "Number" "shape" m_Number_shape (fVar 0) fNil))
        (fSeq (fSet 3 (fOp gAdd (fMeth "Number" "rank" m_Number_rank (fVar 0) fNil) (fVar 1)))
        (fSeq (fIfS (fTst (fOp gGt (fCall gAbs (fCons (fVar 3) fNil)) (fCall m_last_rank (fCons (fVar 2) fNil)))) (fRet (fVar 0)) fNx)
        (fSeq (fIfS (fTst (fOp gEq (fVar 3) (fC (.int 0)))) (fRet (fMake "Number" m_Number_init gD_Number_init_2_sign (fCons (fVar 2) fNil) (fCons (fMeth "Number" "sign" m_Number_sign (fVar 0) fNil) fNil))) fNx)
        (fRet (fCallK m_by_rank gD_by_rank_2 (fCons (fVar 3) (fCons (fVar 2) fNil)) fNil)))))))
def m_moved : List D → Tr D := run 4 b_moved
theorem ok_moved {f : Addr} {fd : FuncData} (F : Fun K "moved" "moved" st_moved f fd) (K_by_rank_2 : CalK P w K mg base 8 "by_rank" ["rank", "shape"] [] (gV_by_rank_2) (spD ⟨K, CT⟩ 2 m_by_rank)) (M_Number_2_sign : CalM P w K mg base 4 "Number" (CT "Number") ["self", "shape", "sign", "significand", "exponent"] ["sign"] (gV_Number_init_2_sign) (spI ⟨K, CT⟩ "Number" 4 m_Number_init)) (O_Number_sign : CalO P w K mg base 1 (CT "Number") "sign" ["self"] (spD ⟨K, CT⟩ 1 m_Number_sign)) (nb_abs : mg "abs" = none) (C_last_rank : Cal P w K mg base 2 "last_rank" ["shape"] (spD ⟨K, CT⟩ 1 m_last_rank)) (O_Number_rank : CalO P w K mg base 4 (CT "Number") "rank" ["self"] (spD ⟨K, CT⟩ 1 m_Number_rank)) (O_Number_shape : CalO P w K mg base 1 (CT "Number") "shape" ["self"] (spD ⟨K, CT⟩ 1 m_Number_shape)) (O_Number_kind : CalO P w K mg base 2 (CT "Number") "kind" ["self"] (spD ⟨K, CT⟩ 1 m_Number_kind)) (G_NAN : GStr mg "NAN" "nan") :
    FnOk P w K mg base CX0 9 f fd ["number", "step"] (spD ⟨K, CT⟩ 2 m_moved) :=
  fun_ok (k := 8) (n := 4) (kk := 2) (f := b_moved) F sc_moved rfl rfl fun cdv A outer s H E hr =>
    (dss_cons (ds_if (dt_cmp op_eq od_eq (de_meth0 (c := "Number") O_Number_kind (hr.mono (by decide)) (de_var 0 (wv 0))) (de_gstr G_NAN (by rfl)) (nomark _)) (dss_one (ds_ret (de_var 0 (wv 0)))) dss_nil)
        (dss_cons (ds_set (i := 2) sc_moved.nd rfl (Or.inl rfl) (de_meth0 (c := "Number") O_Number_shape (hr.mono (by decide)) (de_var 0 (wv 0))))
        (dss_cons (ds_set (i := 3) sc_moved.nd rfl (Or.inl rfl) (de_op op_add od_add (de_meth0 (c := "Number") O_Number_rank (hr.mono (by decide)) (de_var 0 (wv 0))) (de_var 1 (wv 1))))
        (dss_cons (ds_if (dt_cmp op_gt od_gt (de_callB call_absM ad_abs (by rfl) nb_abs (by decide +kernel) (da_cons (de_var 3 (wv 3)) da_nil)) (de_cal C_last_rank (hr.mono (by decide)) (by rfl) (da_cons (de_var 2 (wv 2)) da_nil)) (nomark _)) (dss_one (ds_ret (de_var 0 (wv 0)))) dss_nil)
        (dss_cons (ds_if (dt_cmp op_eq od_eq (de_var 3 (wv 3)) de_int (nomark _)) (dss_one (ds_ret (de_makeK (c := "Number") M_Number_2_sign (pm_Number_init_2_sign) (hr.mono (by decide)) (by rfl) (da_cons (de_var 2 (wv 2)) da_nil) (dk_cons (de_meth0 (c := "Number") O_Number_sign (hr.mono (by decide)) (de_var 0 (wv 0))) dk_nil)))) dss_nil)
        (dss_one (ds_ret (de_calD K_by_rank_2 (pd_by_rank_2) (hr.mono (by decide)) (by rfl) (da_cons (de_var 3 (wv 3)) (da_cons (de_var 2 (wv 2)) da_nil))))))))))
abbrev st_Number_up : Stmt := inClass (top 16) 8
theorem sc_Number_up : FnScope ["self"] ["self"] (defScope st_Number_up) := ⟨rfl, rfl, rfl, by decide +kernel, rfl, by decide +kernel, by decide +kernel⟩
def b_Number_up : FS := (fRet (fCall m_moved (fCons (fVar 0) (fCons (fC (.int 1)) fNil))))
def m_Number_up : List D → Tr D := run 1 b_Number_up
theorem ok_Number_up {f : Addr} {fd : FuncData} (F : Fun K "up" "Number.up" st_Number_up f fd) (C_moved : Cal P w K mg base 9 "moved" ["number", "step"] (spD ⟨K, CT⟩ 2 m_moved)) :
    FnOk P w K mg base CX0 10 f fd ["self"] (spD ⟨K, CT⟩ 1 m_Number_up) :=
  fun_ok (k := 9) (n := 1) (kk := 1) (f := b_Number_up) F sc_Number_up rfl rfl fun cdv A outer s H E hr =>
    (dss_one (ds_ret (de_cal C_moved (hr.mono (by decide)) (by rfl) (da_cons (de_var 0 (wv 0)) (da_cons de_int da_nil)))))
abbrev st_l_made : Stmt := top 42
theorem sc_l_made : FnScope ["_law_form_here", "_law_side", "_law_parts_here"] ["_law_form_here", "_law_side", "_law_parts_here"] (defScope st_l_made) := ⟨rfl, rfl, rfl, by decide +kernel, rfl, by decide +kernel, by decide +kernel⟩
def b_l_made : FS := (fRet (fMake "Number" m_Number_init gD_Number_init_2_sign_significand_exponent (fCons (fVar 0) fNil) (fCons (fVar 1) (fCons (fOp gIx (fVar 2) (fC (.int 0))) (fCons (fOp gIx (fVar 2) (fC (.int 1))) fNil)))))
def m_l_made : List D → Tr D := run 3 b_l_made
theorem ok_l_made {f : Addr} {fd : FuncData} (F : Fun K "_law_made" "_law_made" st_l_made f fd) (M_Number_2_sign_significand_exponent : CalM P w K mg base 4 "Number" (CT "Number") ["self", "shape", "sign", "significand", "exponent"] ["sign", "significand", "exponent"] (gV_Number_init_2_sign_significand_exponent) (spI ⟨K, CT⟩ "Number" 4 m_Number_init)) :
    FnOk P w K mg base CX0 6 f fd ["_law_form_here", "_law_side", "_law_parts_here"] (spD ⟨K, CT⟩ 3 m_l_made) :=
  fun_ok (k := 5) (n := 3) (kk := 3) (f := b_l_made) F sc_l_made rfl rfl fun cdv A outer s H E hr =>
    (dss_one (ds_ret (de_makeK (c := "Number") M_Number_2_sign_significand_exponent (pm_Number_init_2_sign_significand_exponent) (hr.mono (by decide)) (by rfl) (da_cons (de_var 0 (wv 0)) da_nil) (dk_cons (de_var 1 (wv 1)) (dk_cons (de_ix (de_var 2 (wv 2)) de_int (fun _ _ => rfl)) (dk_cons (de_ix (de_var 2 (wv 2)) de_int (fun _ _ => rfl)) dk_nil))))))
abbrev st_Number_negated : Stmt := inClass (top 16) 10
theorem sc_Number_negated : FnScope ["self", "significand", "exponent"] ["self"] (defScope st_Number_negated) := ⟨rfl, rfl, rfl, by decide +kernel, rfl, by decide +kernel, by decide +kernel⟩
def b_Number_negated : FS := (fSeq (fIfS (fTst (fOp gEq (fFldO CS FL "state" 0) (fC (.str "nan")))) (fRet (fVar 0)) fNx)
        (fSeq (fIfS (fTst (fOp gEq (fFldO CS FL "state" 0) (fC (.str "infinite")))) (fRet (fCallK m_infinite gD_infinite_1_sign (fCons (fFldO CS FL "own_shape" 0) fNil) (fCons (fOp gSubt (fC (.int 1)) (fFldO CS FL "own_sign" 0)) fNil))) fNx)
        (fSeq (fAsg (fMeth "Number" "parts" m_Number_parts (fVar 0) fNil) (hTup [1, 2]))
        (fRet (fMake "Number" m_Number_init gD_Number_init_2_sign_significand_exponent (fCons (fFldO CS FL "own_shape" 0) fNil) (fCons (fOp gSubt (fC (.int 1)) (fFldO CS FL "own_sign" 0)) (fCons (fVar 1) (fCons (fVar 2) fNil))))))))
def m_Number_negated : List D → Tr D := run 3 b_Number_negated
theorem ok_Number_negated {f : Addr} {fd : FuncData} (F : Fun K "negated" "Number.negated" st_Number_negated f fd) (M_Number_2_sign_significand_exponent : CalM P w K mg base 4 "Number" (CT "Number") ["self", "shape", "sign", "significand", "exponent"] ["sign", "significand", "exponent"] (gV_Number_init_2_sign_significand_exponent) (spI ⟨K, CT⟩ "Number" 4 m_Number_init)) (FO : FldOk ⟨K, CT⟩ CS FL) (O_Number_parts : CalO P w K mg base 1 (CT "Number") "parts" ["self"] (spD ⟨K, CT⟩ 1 m_Number_parts)) (G_INFINITE : GStr mg "INFINITE" "infinite") (K_infinite_1_sign : CalK P w K mg base 6 "infinite" ["shape", "sign"] ["sign"] (gV_infinite_1_sign) (spD ⟨K, CT⟩ 2 m_infinite)) (G_NAN : GStr mg "NAN" "nan") :
    FnOk P w K mg base CX0 7 f fd ["self"] (spD ⟨K, CT⟩ 1 m_Number_negated) :=
  fun_ok (k := 6) (n := 3) (kk := 1) (f := b_Number_negated) F sc_Number_negated rfl rfl fun cdv A outer s H E hr =>
    (dss_cons (ds_if (dt_cmp op_eq od_eq (de_fldO FO (wv 0)) (de_gstr G_NAN (by rfl)) (nomark _)) (dss_one (ds_ret (de_var 0 (wv 0)))) dss_nil)
        (dss_cons (ds_if (dt_cmp op_eq od_eq (de_fldO FO (wv 0)) (de_gstr G_INFINITE (by rfl)) (nomark _)) (dss_one (ds_ret (de_calP K_infinite_1_sign (pd_infinite_1_sign) (hr.mono (by decide)) (by rfl) (da_cons (de_fldO FO (wv 0)) da_nil) (dk_cons (de_op op_sub od_sub de_int (de_fldO FO (wv 0))) dk_nil)))) dss_nil)
        (dss_cons (ds_asg (de_meth0 (c := "Number") O_Number_parts (hr.mono (by decide)) (de_var 0 (wv 0))) (dg_tup (is := [1, 2]) (wg_tup (n := 2) (by rfl) (wgs_cons (wg_name (i := 1) sc_Number_negated.nd rfl (Or.inl rfl)) (wgs_cons (wg_name (i := 2) sc_Number_negated.nd rfl (Or.inl rfl)) wgs_nil)))))
        (dss_one (ds_ret (de_makeK (c := "Number") M_Number_2_sign_significand_exponent (pm_Number_init_2_sign_significand_exponent) (hr.mono (by decide)) (by rfl) (da_cons (de_fldO FO (wv 0)) da_nil) (dk_cons (de_op op_sub od_sub de_int (de_fldO FO (wv 0))) (dk_cons (de_var 1 (wv 1)) (dk_cons (de_var 2 (wv 2)) dk_nil)))))))))
def gV_bounds_0_number : List V → List V → List V
  | [], [k0] => [k0]
  | _, _ => []
def gD_bounds_0_number : List D → List D → List D
  | [], [k0] => [k0]
  | _, _ => []
theorem pd_bounds_0_number {G : Gd} : PutD G 1 0 1 (gV_bounds_0_number) gD_bounds_0_number := by
  refine ⟨fun ds es h1 h2 => ?_, fun W ds es vs us h1 h2 r1 r2 => ?_⟩
  · match ds, es, h1, h2 with
    | [], [k0], _, _ => rfl
  · match ds, es, h1, h2 with
    | [], [k0], _, _ =>
      simp only [RpL] at r1 r2
      obtain rfl := r1
      obtain ⟨kv0, _, rfl, hk0, rfl⟩ := r2
      exact (RpL.cons hk0 RpL.nil)
abbrev st_l_right : Stmt := top 43
theorem sc_l_right : FnScope ["_law_m", "_law_form_here", "_law_parts_here", "_law_due", "_law_side", "_law_figure", "_law_after"] ["_law_m", "_law_form_here", "_law_parts_here"] (defScope st_l_right) := ⟨rfl, rfl, rfl, by decide +kernel, rfl, by decide +kernel, by decide +kernel⟩
def b_l_right : FS := (fSeq (fPar 3 4 (fCons (fCall gRepr (fCons (fCall m_l_limits (fCons (fVar 1) (fCons (fVar 2) fNil))) fNil)) (fCons (fCall gDraw (fCons (fVar 0) (fCons (fC (.int 2)) fNil))) fNil)))
        (fSeq (fSet 5 (fCall m_l_made (fCons (fVar 1) (fCons (fVar 4) (fCons (fVar 2) fNil)))))
        (fSeq (fIfS (fOr (fTst (fOp gNe (fCall gRepr (fCons (fCall m_bounds (fCons (fVar 5) fNil)) fNil)) (fVar 3))) (fTst (fOp gNe (fCall gRepr (fCons (fCall m_bounds (fCons (fMeth "Number" "negated" m_Number_negated (fVar 5) fNil) fNil)) fNil)) (fVar 3)))) (fRet (fC (.bl false))) fNx)
        (fSeq (fIfS (fOr (fTst (fOp gNe (fCall gRepr (fCons (fCallK m_bounds gD_bounds_0_number fNil (fCons (fCall m_l_made (fCons (fVar 1) (fCons (fC (.int 0)) (fCons (fVar 2) fNil)))) fNil)) fNil)) (fVar 3))) (fTst (fOp gNe (fCall gRepr (fCons (fCall m_bounds (fCons (fVar 5) fNil)) fNil)) (fVar 3)))) (fRet (fC (.bl false))) fNx)
        (fSeq (fSet 6 (fMeth "Number" "up" m_Number_up (fCall m_l_made (fCons (fVar 1) (fCons (fC (.int 0)) (fCons (fVar 2) fNil)))) fNil))
        (fSeq (fIfS (fTst (fOp gEq (fMeth "Number" "kind" m_Number_kind (fVar 6) fNil) (fC (.str "infinite")))) (fRet (fOp gEqD (fVar 2) (fTup (fCons (fOp gSubt (fCall m_l_raised (fCons (fC (.int 2)) (fCons (fOp gIx (fVar 1) (fC (.int 0))) fNil))) (fC (.int 1))) (fCons (fOp gIx (fVar 1) (fC (.int 2))) fNil))))) fNx)
        (fRet (fOp gEq (fCall gRepr (fCons (fOp gIx (fCall m_bounds (fCons (fVar 6) fNil)) (fC (.int 0))) fNil)) (fCall gRepr (fCons (fOp gIx (fCall m_l_limits (fCons (fVar 1) (fCons (fVar 2) fNil))) (fC (.int 1))) fNil))))))))))
def m_l_right : List D → Tr D := run 7 b_l_right
theorem ok_l_right {f : Addr} {fd : FuncData} (F : Fun K "_law_right" "_law_right" st_l_right f fd) (C_bounds : Cal P w K mg base 3 "bounds" ["number"] (spD ⟨K, CT⟩ 1 m_bounds)) (nb_repr : mg "repr" = none) (C__law_limits : Cal P w K mg base 3 "_law_limits" ["_law_form_here", "_law_parts_here"] (spD ⟨K, CT⟩ 2 m_l_limits)) (O_Number_kind : CalO P w K mg base 2 (CT "Number") "kind" ["self"] (spD ⟨K, CT⟩ 1 m_Number_kind)) (C__law_raised : Cal P w K mg base 1 "_law_raised" ["_law_base", "_law_turns"] (spD ⟨K, CT⟩ 2 m_l_raised)) (O_Number_up : CalO P w K mg base 10 (CT "Number") "up" ["self"] (spD ⟨K, CT⟩ 1 m_Number_up)) (C__law_made : Cal P w K mg base 6 "_law_made" ["_law_form_here", "_law_side", "_law_parts_here"] (spD ⟨K, CT⟩ 3 m_l_made)) (K_bounds_0_number : CalK P w K mg base 3 "bounds" ["number"] ["number"] (gV_bounds_0_number) (spD ⟨K, CT⟩ 1 m_bounds)) (O_Number_negated : CalO P w K mg base 7 (CT "Number") "negated" ["self"] (spD ⟨K, CT⟩ 1 m_Number_negated)) (C__law_draw : Cal P w K mg base 2 "_law_draw" ["_law_m", "_law_top"] (spD ⟨K, CT⟩ 2 gDraw)) :
    FnOk P w K mg base CX0 11 f fd ["_law_m", "_law_form_here", "_law_parts_here"] (spD ⟨K, CT⟩ 3 m_l_right) :=
  fun_ok (k := 10) (n := 7) (kk := 3) (f := b_l_right) F sc_l_right rfl rfl fun cdv A outer s H E hr =>
    (dss_cons (ds_par (i := 3) (j := 4) (by rfl) sc_l_right.nd rfl rfl (by decide) rfl rfl (da_cons (de_callB (call_reprX hr.units hr.gd) ad_repr (by rfl) nb_repr (by decide +kernel) (da_cons (de_cal C__law_limits (hr.mono (by decide)) (by rfl) (da_cons (de_var 1 (wv 1)) (da_cons (de_var 2 (wv 2)) da_nil))) da_nil)) (da_cons (de_cal C__law_draw (hr.mono (by decide)) (by rfl) (da_cons (de_var 0 (wv 0)) (da_cons de_int da_nil))) da_nil)) (by rfl))
        (dss_cons (ds_set (i := 5) sc_l_right.nd rfl (Or.inl rfl) (de_cal C__law_made (hr.mono (by decide)) (by rfl) (da_cons (de_var 1 (wv 1)) (da_cons (de_var 4 (wv 4)) (da_cons (de_var 2 (wv 2)) da_nil)))))
        (dss_cons (ds_if (dt_w (dw_or (dt_cmp op_ne od_ne (de_callB (call_reprX hr.units hr.gd) ad_repr (by rfl) nb_repr (by decide +kernel) (da_cons (de_cal C_bounds (hr.mono (by decide)) (by rfl) (da_cons (de_var 5 (wv 5)) da_nil)) da_nil)) (de_var 3 (wv 3)) (nomark _)) (dw_or1 (dt_cmp op_ne od_ne (de_callB (call_reprX hr.units hr.gd) ad_repr (by rfl) nb_repr (by decide +kernel) (da_cons (de_cal C_bounds (hr.mono (by decide)) (by rfl) (da_cons (de_meth0 (c := "Number") O_Number_negated (hr.mono (by decide)) (de_var 5 (wv 5))) da_nil)) da_nil)) (de_var 3 (wv 3)) (nomark _))))) (dss_one (ds_ret de_bl)) dss_nil)
        (dss_cons (ds_if (dt_w (dw_or (dt_cmp op_ne od_ne (de_callB (call_reprX hr.units hr.gd) ad_repr (by rfl) nb_repr (by decide +kernel) (da_cons (de_calK K_bounds_0_number (pd_bounds_0_number) (hr.mono (by decide)) (by rfl) (dk_cons (de_cal C__law_made (hr.mono (by decide)) (by rfl) (da_cons (de_var 1 (wv 1)) (da_cons de_int (da_cons (de_var 2 (wv 2)) da_nil)))) dk_nil)) da_nil)) (de_var 3 (wv 3)) (nomark _)) (dw_or1 (dt_cmp op_ne od_ne (de_callB (call_reprX hr.units hr.gd) ad_repr (by rfl) nb_repr (by decide +kernel) (da_cons (de_cal C_bounds (hr.mono (by decide)) (by rfl) (da_cons (de_var 5 (wv 5)) da_nil)) da_nil)) (de_var 3 (wv 3)) (nomark _))))) (dss_one (ds_ret de_bl)) dss_nil)
        (dss_cons (ds_set (i := 6) sc_l_right.nd rfl (Or.inl rfl) (de_meth0 (c := "Number") O_Number_up (hr.mono (by decide)) (de_cal C__law_made (hr.mono (by decide)) (by rfl) (da_cons (de_var 1 (wv 1)) (da_cons de_int (da_cons (de_var 2 (wv 2)) da_nil))))))
        (dss_cons (ds_if (dt_cmp op_eq od_eq (de_meth0 (c := "Number") O_Number_kind (hr.mono (by decide)) (de_var 6 (wv 6))) de_str (nomark _)) (dss_one (ds_ret (de_cmp (op_eqD hr.units) od_eqD (de_var 2 (wv 2)) (de_tup (da_cons (de_op op_sub od_sub (de_cal C__law_raised (hr.mono (by decide)) (by rfl) (da_cons de_int (da_cons (de_ix (de_var 1 (wv 1)) de_int (fun _ _ => rfl)) da_nil))) de_int) (da_cons (de_ix (de_var 1 (wv 1)) de_int (fun _ _ => rfl)) da_nil))) (nomark _)))) dss_nil)
        (dss_one (ds_ret (de_cmp op_eq od_eq (de_callB (call_reprX hr.units hr.gd) ad_repr (by rfl) nb_repr (by decide +kernel) (da_cons (de_ix (de_cal C_bounds (hr.mono (by decide)) (by rfl) (da_cons (de_var 6 (wv 6)) da_nil)) de_int (fun _ _ => rfl)) da_nil)) (de_callB (call_reprX hr.units hr.gd) ad_repr (by rfl) nb_repr (by decide +kernel) (da_cons (de_ix (de_cal C__law_limits (hr.mono (by decide)) (by rfl) (da_cons (de_var 1 (wv 1)) (da_cons (de_var 2 (wv 2)) da_nil))) de_int (fun _ _ => rfl)) da_nil)) (nomark _))))))))))
abbrev st_l_form : Stmt := top 36
theorem sc_l_form : FnScope ["_law_m", "_law_kind", "_law_low", "_law_high"] ["_law_m"] (defScope st_l_form) := ⟨rfl, rfl, rfl, by decide +kernel, rfl, by decide +kernel, by decide +kernel⟩
def b_l_form : FS := (fSeq (fSet 1 (fCall gDraw (fCons (fVar 0) (fCons (fC (.int 7)) fNil))))
        (fSeq (fIfS (fTst (fOp gLt (fVar 1) (fC (.int 3)))) (fRet (fOp gIx (fLst (fCons (fTup (fCons (fC (.int 11)) (fCons (fUn gNeg (fC (.int 24))) (fCons (fC (.int 5)) fNil)))) (fCons (fTup (fCons (fC (.int 24)) (fCons (fUn gNeg (fC (.int 149))) (fCons (fC (.int 104)) fNil)))) (fCons (fTup (fCons (fC (.int 53)) (fCons (fUn gNeg (fC (.int 1074))) (fCons (fC (.int 971)) fNil)))) fNil)))) (fVar 1))) fNx)
        (fSeq (fSet 2 (fUn gNeg (fOp gIx (fLst (fCons (fCall gDraw (fCons (fVar 0) (fCons (fC (.int 8)) fNil))) (fCons (fCall gDraw (fCons (fVar 0) (fCons (fC (.int 1101)) fNil))) fNil))) (fCall gDraw (fCons (fVar 0) (fCons (fC (.int 2)) fNil))))))
        (fSeq (fSet 3 (fOp gAdd (fVar 2) (fOp gIx (fLst (fCons (fCall gDraw (fCons (fVar 0) (fCons (fC (.int 6)) fNil))) (fCons (fCall gDraw (fCons (fVar 0) (fCons (fOp gSubt (fC (.int 1001)) (fVar 2)) fNil))) fNil))) (fCall gDraw (fCons (fVar 0) (fCons (fC (.int 2)) fNil))))))
        (fRet (fTup (fCons (fOp gIx (fLst (fCons (fOp gAdd (fC (.int 2)) (fCall gDraw (fCons (fVar 0) (fCons (fC (.int 3)) fNil)))) (fCons (fOp gAdd (fC (.int 2)) (fCall gDraw (fCons (fVar 0) (fCons (fC (.int 63)) fNil)))) (fCons (fC (.int 64)) fNil)))) (fCall gDraw (fCons (fVar 0) (fCons (fC (.int 3)) fNil)))) (fCons (fVar 2) (fCons (fVar 3) fNil)))))))))
def m_l_form : List D → Tr D := run 4 b_l_form
theorem ok_l_form {f : Addr} {fd : FuncData} (F : Fun K "_law_form" "_law_form" st_l_form f fd) (C__law_draw : Cal P w K mg base 2 "_law_draw" ["_law_m", "_law_top"] (spD ⟨K, CT⟩ 2 gDraw)) :
    FnOk P w K mg base CX0 3 f fd ["_law_m"] (spD ⟨K, CT⟩ 1 m_l_form) :=
  fun_ok (k := 2) (n := 4) (kk := 1) (f := b_l_form) F sc_l_form rfl rfl fun cdv A outer s H E hr =>
    (dss_cons (ds_set (i := 1) sc_l_form.nd rfl (Or.inl rfl) (de_cal C__law_draw (hr.mono (by decide)) (by rfl) (da_cons (de_var 0 (wv 0)) (da_cons de_int da_nil))))
        (dss_cons (ds_if (dt_cmp op_lt od_lt (de_var 1 (wv 1)) de_int (nomark _)) (dss_one (ds_ret (de_ix (de_lst (da_cons (de_tup (da_cons de_int (da_cons (de_un un_neg ud_neg de_int) (da_cons de_int da_nil)))) (da_cons (de_tup (da_cons de_int (da_cons (de_un un_neg ud_neg de_int) (da_cons de_int da_nil)))) (da_cons (de_tup (da_cons de_int (da_cons (de_un un_neg ud_neg de_int) (da_cons de_int da_nil)))) da_nil)))) (de_var 1 (wv 1)) (fun _ _ => rfl)))) dss_nil)
        (dss_cons (ds_set (i := 2) sc_l_form.nd rfl (Or.inl rfl) (de_un un_neg ud_neg (de_ix (de_lst (da_cons (de_cal C__law_draw (hr.mono (by decide)) (by rfl) (da_cons (de_var 0 (wv 0)) (da_cons de_int da_nil))) (da_cons (de_cal C__law_draw (hr.mono (by decide)) (by rfl) (da_cons (de_var 0 (wv 0)) (da_cons de_int da_nil))) da_nil))) (de_cal C__law_draw (hr.mono (by decide)) (by rfl) (da_cons (de_var 0 (wv 0)) (da_cons de_int da_nil))) (fun _ _ => rfl))))
        (dss_cons (ds_set (i := 3) sc_l_form.nd rfl (Or.inl rfl) (de_op op_add od_add (de_var 2 (wv 2)) (de_ix (de_lst (da_cons (de_cal C__law_draw (hr.mono (by decide)) (by rfl) (da_cons (de_var 0 (wv 0)) (da_cons de_int da_nil))) (da_cons (de_cal C__law_draw (hr.mono (by decide)) (by rfl) (da_cons (de_var 0 (wv 0)) (da_cons (de_op op_sub od_sub de_int (de_var 2 (wv 2))) da_nil))) da_nil))) (de_cal C__law_draw (hr.mono (by decide)) (by rfl) (da_cons (de_var 0 (wv 0)) (da_cons de_int da_nil))) (fun _ _ => rfl))))
        (dss_one (ds_ret (de_tup (da_cons (de_ix (de_lst (da_cons (de_op op_add od_add de_int (de_cal C__law_draw (hr.mono (by decide)) (by rfl) (da_cons (de_var 0 (wv 0)) (da_cons de_int da_nil)))) (da_cons (de_op op_add od_add de_int (de_cal C__law_draw (hr.mono (by decide)) (by rfl) (da_cons (de_var 0 (wv 0)) (da_cons de_int da_nil)))) (da_cons de_int da_nil)))) (de_cal C__law_draw (hr.mono (by decide)) (by rfl) (da_cons (de_var 0 (wv 0)) (da_cons de_int da_nil))) (fun _ _ => rfl)) (da_cons (de_var 2 (wv 2)) (da_cons (de_var 3 (wv 3)) da_nil))))))))))
abbrev st_law : Stmt := top 44
theorem sc_law : FnScope ["_law_script", "_law_m", "_law_again", "_law_form_here"] ["_law_script"] (defScope st_law) := ⟨rfl, rfl, rfl, by decide +kernel, rfl, by decide +kernel, by decide +kernel⟩
def l_law_1 : FS := (fSeq (fSet 3 (fCall m_l_form (fCons (fVar 1) fNil)))
        (fIfS (fNot (fTst (fCall m_l_right (fCons (fVar 1) (fCons (fVar 3) (fCons (fCall m_l_parts (fCons (fVar 1) (fCons (fVar 3) fNil))) fNil)))))) (fRet (fC (.bl false))) fNx))
def b_law : FS := (fSeq (fSet 1 (fCall gBegun (fCons (fVar 0) fNil)))
        (fSeq (fFor (fRng1 (fCons (fC (.int 6)) fNil)) (hName 2) l_law_1)
        (fRet (fC (.bl true)))))
def m_law : List D → Tr D := run 4 b_law
theorem ok_law {f : Addr} {fd : FuncData} (F : Fun K "law" "law" st_law f fd) (nb_range : mg "range" = none) (C__law_parts : Cal P w K mg base 4 "_law_parts" ["_law_m", "_law_form_here"] (spD ⟨K, CT⟩ 2 m_l_parts)) (C__law_right : Cal P w K mg base 11 "_law_right" ["_law_m", "_law_form_here", "_law_parts_here"] (spD ⟨K, CT⟩ 3 m_l_right)) (C__law_form : Cal P w K mg base 3 "_law_form" ["_law_m"] (spD ⟨K, CT⟩ 1 m_l_form)) (C__law_begun : Cal P w K mg base 2 "_law_begun" ["_law_script"] (spD ⟨K, CT⟩ 1 gBegun)) :
    FnOk P w K mg base CX0 12 f fd ["_law_script"] (spD ⟨K, CT⟩ 1 m_law) :=
  fun_ok (k := 11) (n := 4) (kk := 1) (f := b_law) F sc_law rfl rfl fun cdv A outer s H E hr =>
    (dss_cons (ds_set (i := 1) sc_law.nd rfl (Or.inl rfl) (de_cal C__law_begun (hr.mono (by decide)) (by rfl) (da_cons (de_var 0 (wv 0)) da_nil)))
        (dss_cons (ds_for (by rfl) (di_rng1 (by rfl) nb_range (da_cons de_int da_nil)) (dg_name (wg_name (i := 2) sc_law.nd rfl (Or.inl rfl))) (dss_cons (ds_set (i := 3) sc_law.nd rfl (Or.inl rfl) (de_cal C__law_form (hr.mono (by decide)) (by rfl) (da_cons (de_var 1 (wv 1)) da_nil)))
        (dss_one (ds_if (dt_not (dt_val (de_cal C__law_right (hr.mono (by decide)) (by rfl) (da_cons (de_var 1 (wv 1)) (da_cons (de_var 3 (wv 3)) (da_cons (de_cal C__law_parts (hr.mono (by decide)) (by rfl) (da_cons (de_var 1 (wv 1)) (da_cons (de_var 3 (wv 3)) da_nil))) da_nil)))))) (dss_one (ds_ret de_bl)) dss_nil))))
        (dss_one (ds_ret de_bl))))
end
end K30

set_option Elab.async false
set_option linter.all false
set_option maxRecDepth 100000
set_option maxHeartbeats 1000000
namespace K30
open PySem L2 L3 Dw
local macro_rules | `(tactic| walk_at "dd") => `(tactic| try simp only [q_run, q_fNx, q_fSeq, q_fRet, q_fRetN, q_fDrop, q_fIfS, q_fSet, q_fNever, q_fAug, q_fAsg, q_fPar, q_fPar3, q_hName, q_hTup, hNames, q_fC, q_fOp, q_fUn, q_fTst, q_fNot, q_fAnd, q_fOr, q_fNotV, q_fAndV, q_fOrV, q_fIf, q_fNil, q_fCons, q_fTup, q_fLst, q_fCall, q_fCallK, q_fChain, q_fDic0, q_fDic1, q_fItL, q_fItT, q_fRng1, q_fRng2, q_fEnum, q_fZip, q_fFor, q_fLc, q_fYes, wipeD, q_fWhile, v0, v1, v2, v3, v4, v5, v6, v7, v8, v9, v10, v11, b_ret, b_fail, b_exc, b_draw, startD, List.map_cons, List.map_nil, List.length_cons, List.length_nil, List.cons_append, List.nil_append, List.append_nil, Nat.reduceAdd, Nat.reduceSub, List.replicate_succ, List.replicate_zero, List.set_cons_zero, List.set_cons_succ, Nat.reduceLT, reduceIte, gI0, gI, gAdd, gSubt, gMod, gLt, gLe, gGt, gGe, gNeg, gIsN, gNotN, gIsB, gNotB, gMax, gMin, gAbs, D.isNon, gBAnd, Bool.true_and, Bool.and_true, Bool.false_and, Bool.and_false, Bool.not_true, Bool.not_false, Bool.true_eq_false, Bool.false_eq_true, if_true, if_false, Bool.not_eq_true, Tr.bind_ite, eq_ii, ne_ii, eq_ss, ne_ss, eq_bb, ne_bb, PyProof.Rows.bitAnd_m1, decide_true, decide_false, decide_eq_true_eq, Bool.not_eq_eq_eq_not, decide_eq_false_iff_not, ite_not, Int.reduceLT, Int.reduceLE, Int.reducePow, eq_self, Tr.bind_assoc, fo0, fo1, fo2, fo3, fo4, q_fMeth, ixT0, ixT1, ixT2, ixL0, ixL1, ixL2, ixS0, ixS1, ixS2, lenT0, lenT1, lenT2, lenT3, lenS, intB, intI, bitsI, hT3, hS3, q_fMake, q_fNew, q_frz0, eqT0, neT0, eqT2, eqS, neS, v12, v13, v14, v15, v16, v17, v18, v19, v20, v21, v22, v23, v24, v25, v26, v27, v28, v29, v30, okM_shape, okM_sign, okM_kind, okM_parts, okM_value, okM_rank, okM_word, okM_up, okM_down, okM_negated, Int.reduceEq, and_self, q_fSl, q_fPart, q_fNoP, neT2, s_nearest_away, s_nearest_zero, s_nearest_up, s_nearest_down, s_nearest_subnormal, s_nearest_normal, s_nearest_infinite, s_nearest_nan, s_nearest_finite, s_nearest_inexact, s_nearest_underflow, s_nearest_overflow, s_nearest_toward, s_nearest_outward, s_away_nearest, s_away_zero, s_away_up, s_away_down, s_away_subnormal, s_away_normal, s_away_infinite, s_away_nan, s_away_finite, s_away_inexact, s_away_underflow, s_away_overflow, s_away_toward, s_away_outward, s_zero_nearest, s_zero_away, s_zero_up, s_zero_down, s_zero_subnormal, s_zero_normal, s_zero_infinite, s_zero_nan, s_zero_finite, s_zero_inexact, s_zero_underflow, s_zero_overflow, s_zero_toward, s_zero_outward, s_up_nearest, s_up_away, s_up_zero, s_up_down, s_up_subnormal, s_up_normal, s_up_infinite, s_up_nan, s_up_finite, s_up_inexact, s_up_underflow, s_up_overflow, s_up_toward, s_up_outward, s_down_nearest, s_down_away, s_down_zero, s_down_up, s_down_subnormal, s_down_normal, s_down_infinite, s_down_nan, s_down_finite, s_down_inexact, s_down_underflow, s_down_overflow, s_down_toward, s_down_outward, s_subnormal_nearest, s_subnormal_away, s_subnormal_zero, s_subnormal_up, s_subnormal_down, s_subnormal_normal, s_subnormal_infinite, s_subnormal_nan, s_subnormal_finite, s_subnormal_inexact, s_subnormal_underflow, s_subnormal_overflow, s_subnormal_toward, s_subnormal_outward, s_normal_nearest, s_normal_away, s_normal_zero, s_normal_up, s_normal_down, s_normal_subnormal, s_normal_infinite, s_normal_nan, s_normal_finite, s_normal_inexact, s_normal_underflow, s_normal_overflow, s_normal_toward, s_normal_outward, s_infinite_nearest, s_infinite_away, s_infinite_zero, s_infinite_up, s_infinite_down, s_infinite_subnormal, s_infinite_normal, s_infinite_nan, s_infinite_finite, s_infinite_inexact, s_infinite_underflow, s_infinite_overflow, s_infinite_toward, s_infinite_outward, s_nan_nearest, s_nan_away, s_nan_zero, s_nan_up, s_nan_down, s_nan_subnormal, s_nan_normal, s_nan_infinite, s_nan_finite, s_nan_inexact, s_nan_underflow, s_nan_overflow, s_nan_toward, s_nan_outward, s_finite_nearest, s_finite_away, s_finite_zero, s_finite_up, s_finite_down, s_finite_subnormal, s_finite_normal, s_finite_infinite, s_finite_nan, s_finite_inexact, s_finite_underflow, s_finite_overflow, s_finite_toward, s_finite_outward, s_inexact_nearest, s_inexact_away, s_inexact_zero, s_inexact_up, s_inexact_down, s_inexact_subnormal, s_inexact_normal, s_inexact_infinite, s_inexact_nan, s_inexact_finite, s_inexact_underflow, s_inexact_overflow, s_inexact_toward, s_inexact_outward, s_underflow_nearest, s_underflow_away, s_underflow_zero, s_underflow_up, s_underflow_down, s_underflow_subnormal, s_underflow_normal, s_underflow_infinite, s_underflow_nan, s_underflow_finite, s_underflow_inexact, s_underflow_overflow, s_underflow_toward, s_underflow_outward, s_overflow_nearest, s_overflow_away, s_overflow_zero, s_overflow_up, s_overflow_down, s_overflow_subnormal, s_overflow_normal, s_overflow_infinite, s_overflow_nan, s_overflow_finite, s_overflow_inexact, s_overflow_underflow, s_overflow_toward, s_overflow_outward, s_toward_nearest, s_toward_away, s_toward_zero, s_toward_up, s_toward_down, s_toward_subnormal, s_toward_normal, s_toward_infinite, s_toward_nan, s_toward_finite, s_toward_inexact, s_toward_underflow, s_toward_overflow, s_toward_outward, s_outward_nearest, s_outward_away, s_outward_zero, s_outward_up, s_outward_down, s_outward_subnormal, s_outward_normal, s_outward_infinite, s_outward_nan, s_outward_finite, s_outward_inexact, s_outward_underflow, s_outward_overflow, s_outward_toward])
theorem isi_ii (i : Int) : gIsi CS HI [.int i, .ty "int"] = .ret (.bl true) := by kernel_rfl
theorem isi_ib (i : Int) : gIsi CS HI [.int i, .ty "bool"] = .ret (.bl false) := by kernel_rfl
theorem isi_ss (x : Str) : gIsi CS HI [.str x, .ty "str"] = .ret (.bl true) := by kernel_rfl
theorem isi_tt (ds : List D) : gIsi CS HI [.tup ds, .ty "tuple"] = .ret (.bl true) := by kernel_rfl
theorem isi_st (S : Sh) : gIsi CS HI [shD S, .ty "tuple"] = .ret (.bl true) := by kernel_rfl
theorem isi_nn (n : Nm) : gIsi CS HI [nmD n, .cls "Number"] = .ret (.bl true) := by kernel_rfl
theorem e_isWhole (i a b : Int) : m_is_whole [.int i, .int a, .int b] = .ret (.bl (decide (a ≤ i) && decide (i ≤ b))) := by
  simp only [m_is_whole, b_is_whole]
  walk_at "dd"
  simp only [isi_ii, isi_ib]
  walk_at "dd"
  by_cases h : a ≤ i <;> simp [h]
theorem e_wantWhole {i a b : Int} {z : Str} (h1 : a ≤ i) (h2 : i ≤ b) : m_want_whole [.int i, .int a, .int b, .str z] = .ret .non := by
  simp only [m_want_whole, b_want_whole]
  walk_at "dd"
  rw [e_isWhole, decide_eq_true h1, decide_eq_true h2]
  rfl
theorem e_isShape {S : Sh} (h : S.Ok) : m_is_shape [shD S] = .ret (.bl true) := by
  simp only [m_is_shape, b_is_shape]
  walk_at "dd"
  rw [isi_st]
  walk_at "dd"
  rw [e_isWhole, decide_eq_true h.p2, decide_eq_true h.p64]
  walk_at "dd"
  rw [e_isWhole, decide_eq_true h.l0, decide_eq_true h.l1]
  walk_at "dd"
  rw [e_isWhole, decide_eq_true h.h0, decide_eq_true h.h1]
  rfl
theorem e_wantShape {S : Sh} (h : S.Ok) : m_want_shape [shD S] = .ret .non := by
  simp only [m_want_shape, b_want_shape]
  walk_at "dd"
  rw [e_isShape h]
  rfl
theorem e_firstNormal {S : Sh} (h : S.Ok) : m_first_normal [shD S] = .ret (.int S.fn) := by
  simp only [m_first_normal, b_first_normal]
  walk_at "dd"
  rw [fn_shl h]
  rfl
theorem e_lastRank {S : Sh} (h : S.Ok) : m_last_rank [shD S] = .ret (.int S.last) := by
  simp only [m_last_rank, b_last_rank]
  walk_at "dd"
  rw [e_firstNormal h]
  walk_at "dd"
  have := h.h0; have := h.h1; have := h.l0; have := h.fn2; have := h.fnB
  rw [mul_ok (b200 (by omega) (by omega)) (b200 (by omega) (by omega))]
  rfl
/-! ### numbers -/
theorem e_init {S : Sh} {s m e : Int} (h : Nm.Ok ⟨S, s, m, e, 0⟩) : m_Number_init [shD S, .int s, .int m, .int e] = .ret (nmF, nmL ⟨S, s, m, e, 0⟩) := by
  have hS : S.Ok := h.sh
  have f2 := hS.fn2
  have s1 : s = 0 ∨ s = 1 := h.s01
  have m1 : m < 2 * S.fn := h.m1
  have m0 : 0 ≤ m := h.m0
  have e0 : S.lo ≤ e := h.e0
  have e1 : e ≤ S.hi := h.e1
  have nr : S.lo < e → S.fn ≤ m := h.nrm
  simp only [m_Number_init, runI, startI, b_Number_init]
  walk_at "dd"
  rw [e_wantShape hS]
  walk_at "dd"
  rw [e_wantWhole (by omega) (by omega)]
  walk_at "dd"
  rw [full_shl hS]
  walk_at "dd"
  rw [e_wantWhole m0 (by omega)]
  walk_at "dd"
  rw [e_wantWhole e0 e1]
  walk_at "dd"
  rw [e_firstNormal hS]
  walk_at "dd"
  by_cases z : S.lo < e
  · rw [if_pos z, if_neg (by have := nr z; omega)]
    kernel_rfl
  · rw [if_neg z]
    kernel_rfl
/-- made without significand and exponent: a zero -/
theorem e_init0 {S : Sh} {s : Int} (h : S.Ok) (hs : s = 0 ∨ s = 1) : m_Number_init [shD S, .int s, .int 0, .non] = .ret (nmF, nmL (S.zero s)) := by
  have f2 := h.fn2
  have h0 := h.h0
  simp only [m_Number_init, runI, startI, b_Number_init]
  walk_at "dd"
  rw [e_wantShape h]
  walk_at "dd"
  rw [e_wantWhole (by omega) (by omega)]
  walk_at "dd"
  rw [full_shl h]
  walk_at "dd"
  rw [e_wantWhole (by omega) (by omega)]
  walk_at "dd"
  rw [e_wantWhole (by omega) (by omega)]
  walk_at "dd"
  rw [if_neg (by omega)]
  kernel_rfl
theorem e_infinite {S : Sh} {s : Int} (h : S.Ok) (hs : s = 0 ∨ s = 1) : m_infinite [shD S, .int s] = .ret (nmD (S.inf s)) := by
  simp only [m_infinite, b_infinite]
  walk_at "dd"
  rw [show gD_Number_init_2_sign [shD S] [.int s] = [shD S, .int s, .int 0, .non] from rfl, e_init0 h hs]
  kernel_rfl
/-! ### what a number has -/
theorem fl_shape (n : Nm) : gFld CS FL "own_shape" (nmD n) = .ret (shD n.S) := by kernel_rfl
theorem fl_sign (n : Nm) : gFld CS FL "own_sign" (nmD n) = .ret (.int n.s) := by kernel_rfl
theorem fl_sig (n : Nm) : gFld CS FL "own_significand" (nmD n) = .ret (.int n.m) := by kernel_rfl
theorem fl_exp (n : Nm) : gFld CS FL "own_exponent" (nmD n) = .ret (.int n.e) := by kernel_rfl
theorem fl_state (n : Nm) : gFld CS FL "state" (nmD n) = .ret (.str (kdS n.st)) := by kernel_rfl
theorem e_shape (n : Nm) : m_Number_shape [nmD n] = .ret (shD n.S) := by kernel_rfl
theorem e_sign (n : Nm) : m_Number_sign [nmD n] = .ret (.int n.s) := by kernel_rfl
theorem e_parts {n : Nm} (h : n.st = 0) : m_Number_parts [nmD n] = .ret (.tup [.int n.m, .int n.e]) := by
  obtain ⟨S, s, m, e, st⟩ := n
  simp only at h
  subst h
  kernel_rfl
def kndS (n : Nm) : Str := if n.st = 1 then "infinite" else if n.st = 2 then "nan" else if n.m = 0 then "zero" else if n.m < n.S.fn then "subnormal" else "normal"
theorem e_kind {n : Nm} (h : n.Ok) : m_Number_kind [nmD n] = .ret (.str (kndS n)) := by
  have hS := h.sh
  have s2 := h.st2
  obtain ⟨S, s, m, e, st⟩ := n
  have hst : st = 0 ∨ st = 1 ∨ st = 2 := by simp only at s2; omega
  rcases hst with z | z | z <;> subst z
  · simp only [m_Number_kind, b_Number_kind]
    walk_at "dd"
    simp only [fl_state, fl_sig, fl_shape]
    walk_at "dd"
    rw [show kdS 0 = "finite" from rfl]
    walk_at "dd"
    rw [e_firstNormal hS]
    walk_at "dd"
    unfold kndS
    rw [if_neg (show ¬ (0 = 1) by decide), if_neg (show ¬ (0 = 2) by decide)]
    dsimp only
    split
    · rfl
    · split <;> rfl
  · kernel_rfl
  · kernel_rfl
theorem kd_inj {a b : Nat} (h : a ≤ 2) (h' : b ≤ 2) : (kdS a = kdS b) = (a = b) := by
  have ha : a = 0 ∨ a = 1 ∨ a = 2 := by omega
  have hb : b = 0 ∨ b = 1 ∨ b = 2 := by omega
  rcases ha with rfl | rfl | rfl <;> rcases hb with rfl | rfl | rfl <;> first | rfl | (exact propext ⟨fun z => absurd z (by decide +kernel), fun z => absurd z (by decide)⟩) | (exact propext ⟨fun _ => rfl, fun _ => rfl⟩)
/-! ### ways -/
end K30
namespace K30
open PySem L2 L3 Dw
local macro_rules | `(tactic| walk_at "dd") => `(tactic| try simp only [q_run, q_fNx, q_fSeq, q_fRet, q_fRetN, q_fDrop, q_fIfS, q_fSet, q_fNever, q_fAug, q_fAsg, q_fPar, q_fPar3, q_hName, q_hTup, hNames, q_fC, q_fOp, q_fUn, q_fTst, q_fNot, q_fAnd, q_fOr, q_fNotV, q_fAndV, q_fOrV, q_fIf, q_fNil, q_fCons, q_fTup, q_fLst, q_fCall, q_fCallK, q_fChain, q_fDic0, q_fDic1, q_fItL, q_fItT, q_fRng1, q_fRng2, q_fEnum, q_fZip, q_fFor, q_fLc, q_fYes, wipeD, q_fWhile, v0, v1, v2, v3, v4, v5, v6, v7, v8, v9, v10, v11, b_ret, b_fail, b_exc, b_draw, startD, List.map_cons, List.map_nil, List.length_cons, List.length_nil, List.cons_append, List.nil_append, List.append_nil, Nat.reduceAdd, Nat.reduceSub, List.replicate_succ, List.replicate_zero, List.set_cons_zero, List.set_cons_succ, Nat.reduceLT, reduceIte, gI0, gI, gAdd, gSubt, gMod, gLt, gLe, gGt, gGe, gNeg, gIsN, gNotN, gIsB, gNotB, gMax, gMin, gAbs, D.isNon, gBAnd, Bool.true_and, Bool.and_true, Bool.false_and, Bool.and_false, Bool.not_true, Bool.not_false, Bool.true_eq_false, Bool.false_eq_true, if_true, if_false, Bool.not_eq_true, Tr.bind_ite, eq_ii, ne_ii, eq_ss, ne_ss, eq_bb, ne_bb, PyProof.Rows.bitAnd_m1, decide_true, decide_false, decide_eq_true_eq, Bool.not_eq_eq_eq_not, decide_eq_false_iff_not, ite_not, Int.reduceLT, Int.reduceLE, Int.reducePow, eq_self, Tr.bind_assoc, fo0, fo1, fo2, fo3, fo4, q_fMeth, ixT0, ixT1, ixT2, ixL0, ixL1, ixL2, ixS0, ixS1, ixS2, lenT0, lenT1, lenT2, lenT3, lenS, intB, intI, bitsI, hT3, hS3, q_fMake, q_fNew, q_frz0, eqT0, neT0, eqT2, eqS, neS, v12, v13, v14, v15, v16, v17, v18, v19, v20, v21, v22, v23, v24, v25, v26, v27, v28, v29, v30, okM_shape, okM_sign, okM_kind, okM_parts, okM_value, okM_rank, okM_word, okM_up, okM_down, okM_negated, Int.reduceEq, and_self, q_fSl, q_fPart, q_fNoP, neT2, s_nearest_away, s_nearest_zero, s_nearest_up, s_nearest_down, s_nearest_subnormal, s_nearest_normal, s_nearest_infinite, s_nearest_nan, s_nearest_finite, s_nearest_inexact, s_nearest_underflow, s_nearest_overflow, s_nearest_toward, s_nearest_outward, s_away_nearest, s_away_zero, s_away_up, s_away_down, s_away_subnormal, s_away_normal, s_away_infinite, s_away_nan, s_away_finite, s_away_inexact, s_away_underflow, s_away_overflow, s_away_toward, s_away_outward, s_zero_nearest, s_zero_away, s_zero_up, s_zero_down, s_zero_subnormal, s_zero_normal, s_zero_infinite, s_zero_nan, s_zero_finite, s_zero_inexact, s_zero_underflow, s_zero_overflow, s_zero_toward, s_zero_outward, s_up_nearest, s_up_away, s_up_zero, s_up_down, s_up_subnormal, s_up_normal, s_up_infinite, s_up_nan, s_up_finite, s_up_inexact, s_up_underflow, s_up_overflow, s_up_toward, s_up_outward, s_down_nearest, s_down_away, s_down_zero, s_down_up, s_down_subnormal, s_down_normal, s_down_infinite, s_down_nan, s_down_finite, s_down_inexact, s_down_underflow, s_down_overflow, s_down_toward, s_down_outward, s_subnormal_nearest, s_subnormal_away, s_subnormal_zero, s_subnormal_up, s_subnormal_down, s_subnormal_normal, s_subnormal_infinite, s_subnormal_nan, s_subnormal_finite, s_subnormal_inexact, s_subnormal_underflow, s_subnormal_overflow, s_subnormal_toward, s_subnormal_outward, s_normal_nearest, s_normal_away, s_normal_zero, s_normal_up, s_normal_down, s_normal_subnormal, s_normal_infinite, s_normal_nan, s_normal_finite, s_normal_inexact, s_normal_underflow, s_normal_overflow, s_normal_toward, s_normal_outward, s_infinite_nearest, s_infinite_away, s_infinite_zero, s_infinite_up, s_infinite_down, s_infinite_subnormal, s_infinite_normal, s_infinite_nan, s_infinite_finite, s_infinite_inexact, s_infinite_underflow, s_infinite_overflow, s_infinite_toward, s_infinite_outward, s_nan_nearest, s_nan_away, s_nan_zero, s_nan_up, s_nan_down, s_nan_subnormal, s_nan_normal, s_nan_infinite, s_nan_finite, s_nan_inexact, s_nan_underflow, s_nan_overflow, s_nan_toward, s_nan_outward, s_finite_nearest, s_finite_away, s_finite_zero, s_finite_up, s_finite_down, s_finite_subnormal, s_finite_normal, s_finite_infinite, s_finite_nan, s_finite_inexact, s_finite_underflow, s_finite_overflow, s_finite_toward, s_finite_outward, s_inexact_nearest, s_inexact_away, s_inexact_zero, s_inexact_up, s_inexact_down, s_inexact_subnormal, s_inexact_normal, s_inexact_infinite, s_inexact_nan, s_inexact_finite, s_inexact_underflow, s_inexact_overflow, s_inexact_toward, s_inexact_outward, s_underflow_nearest, s_underflow_away, s_underflow_zero, s_underflow_up, s_underflow_down, s_underflow_subnormal, s_underflow_normal, s_underflow_infinite, s_underflow_nan, s_underflow_finite, s_underflow_inexact, s_underflow_overflow, s_underflow_toward, s_underflow_outward, s_overflow_nearest, s_overflow_away, s_overflow_zero, s_overflow_up, s_overflow_down, s_overflow_subnormal, s_overflow_normal, s_overflow_infinite, s_overflow_nan, s_overflow_finite, s_overflow_inexact, s_overflow_underflow, s_overflow_toward, s_overflow_outward, s_toward_nearest, s_toward_away, s_toward_zero, s_toward_up, s_toward_down, s_toward_subnormal, s_toward_normal, s_toward_infinite, s_toward_nan, s_toward_finite, s_toward_inexact, s_toward_underflow, s_toward_overflow, s_toward_outward, s_outward_nearest, s_outward_away, s_outward_zero, s_outward_up, s_outward_down, s_outward_subnormal, s_outward_normal, s_outward_infinite, s_outward_nan, s_outward_finite, s_outward_inexact, s_outward_underflow, s_outward_overflow, s_outward_toward, gDraw])
theorem shl_p {S : Sh} (h : S.Ok) {x : Int} (hb : big x = true) : gShl (.int x) (.int (S.p - 1)) = .ret (.int (x * S.fn)) := by
  have p2 := h.p2
  have p64 := h.p64
  rw [shl_ok (by omega) (by omega) hb]
  unfold Sh.fn
  rw [show (S.p - 1).toNat = S.p.toNat - 1 by omega]
theorem kind_inf {n : Nm} (h : n.Ok) : (kndS n = "infinite") ↔ n.st = 1 := by
  have s2 := h.st2
  unfold kndS
  constructor
  · intro z
    by_cases c : n.st = 1
    · exact c
    · rw [if_neg c] at z
      exfalso
      revert z
      split
      · decide +kernel
      · split
        · decide +kernel
        · split <;> decide +kernel
  · intro z
    rw [if_pos z]
theorem kind_nan {n : Nm} (h : n.st ≠ 2) : ¬ (kndS n = "nan") := by
  unfold kndS
  by_cases c : n.st = 1
  · rw [if_pos c]
    decide +kernel
  · rw [if_neg c, if_neg h]
    split
    · decide +kernel
    · split <;> decide +kernel
theorem e_byTwos {n e : Int} {k : Nat} (hn : Sz k n) (hk : k ≤ 100000) (e0 : -100000 ≤ e) (e1 : e ≤ 100000) : m_by_twos [.int n, .int e] = .ret (.tup [.int (twN n e), .int (twD n e)]) := by
  simp only [m_by_twos, b_by_twos, twN, twD]
  walk_at "dd"
  by_cases c : 0 ≤ e
  · rw [if_pos c, if_pos c, if_pos c, shl_ok c (by omega) (hn.big (by omega))]
    walk_at "dd"
  · rw [if_neg c, if_neg c, if_neg c]
    by_cases z : n = 0
    · rw [if_pos z, if_pos z, if_pos z]
    · rw [if_neg z, if_neg z, if_neg z, tz_bits z]
      have hm : (if -e < (tz n : Int) then -e else (tz n : Int)) = ((min (tz n) (-e).toNat : Nat) : Int) := by split <;> omega
      rw [hm]
      walk_at "dd"
      rw [shr_ok (Int.natCast_nonneg _), Int.toNat_natCast]
      walk_at "dd"
      rw [shl_ok (by omega) (by omega) bg1, Int.one_mul]
      walk_at "dd"
      rw [show (-e - ((min (tz n) (-e).toNat : Nat) : Int)).toNat = (-e).toNat - min (tz n) (-e).toNat by omega]
theorem e_wantNumber (n : Nm) : m_want_number [nmD n] = .ret .non := by
  simp only [m_want_number, b_want_number]
  walk_at "dd"
  rw [isi_nn]
  walk_at "dd"
theorem e_wantFinite {n : Nm} (h : n.st = 0) : m_want_finite [nmD n] = .ret .non := by
  have h1 := e_wantNumber n
  have h2 := e_parts h
  simp only [m_want_finite, b_want_finite]
  generalize m_want_number = M at h1 ⊢
  walk_at "dd"
  rw [h1]
  walk_at "dd"
  rw [h2]
  walk_at "dd"
theorem e_steps {n : Nm} (h : n.Ok) (h2 : n.st ≠ 2) : m_steps_from_zero [nmD n] = .ret (.int n.steps) := by
  have h0 := h.sh.h0
  have h1 := h.sh.h1
  have l0 := h.sh.l0
  have l1 := h.sh.l1
  have fB := h.sh.fnB
  have f2 := h.sh.fn2
  have e0 := h.e0
  have e1 := h.e1
  have k := e_kind h
  have inf := kind_inf h
  have sh := e_shape n
  have lr := e_lastRank h.sh
  simp only [m_steps_from_zero, b_steps_from_zero]
  generalize m_last_rank = L at lr ⊢
  walk_at "dd"
  rw [k]
  walk_at "dd"
  unfold Nm.steps
  by_cases c : n.st = 1
  · rw [if_pos (inf.mpr c), if_pos c, sh]
    walk_at "dd"
    rw [lr]
    walk_at "dd"
  · have st : n.st = 0 := by have := h.st2; omega
    rw [if_neg (fun z => c (inf.mp z)), if_neg c, e_parts st]
    walk_at "dd"
    rw [sh]
    walk_at "dd"
    rw [sh]
    walk_at "dd"
    rw [e_firstNormal h.sh]
    walk_at "dd"
    rw [mul_ok (b200 (by omega) (by omega)) (b200 (by omega) (by omega))]
    rfl
theorem e_rank {n : Nm} (h : n.Ok) (h2 : n.st ≠ 2) : m_Number_rank [nmD n] = .ret (.int n.rank) := by
  have s := e_steps h h2
  have f1 := fl_state n
  have f2 := fl_sign n
  have nn : ¬ (kdS n.st = kdS 2) := fun z => by
    have := (kd_inj h.st2 (Nat.le_refl 2)).mp z
    omega
  simp only [m_Number_rank, b_Number_rank]
  generalize m_steps_from_zero = M at s ⊢
  walk_at "dd"
  rw [f1]
  walk_at "dd"
  rw [if_neg (show ¬ (kdS n.st = "nan") from nn), s]
  walk_at "dd"
  rw [f2]
  walk_at "dd"
  unfold Nm.rank
  split <;> rfl
theorem e_bySteps {S : Sh} (h : S.Ok) {k s : Int} (k0 : 0 ≤ k) (k1 : k ≤ S.last) (hs : s = 0 ∨ s = 1) : m_by_steps [.int k, shD S, .int s] = .ret (nmD (S.ofSteps k s)) := by
  have lB := h.lastB
  have fB := h.fnB
  have f2 := h.fn2
  have lr := e_lastRank h
  have fn := e_firstNormal h
  have inf := e_infinite h hs
  have ok := h.stepsOk k0 k1 hs
  have hr : (if 0 < k / S.fn - 1 then k / S.fn - 1 else 0) = S.rise k := rfl
  have ini := fun (z : k ≠ S.last) => e_init (S := S) (s := s) (m := k - S.rise k * S.fn) (e := S.lo + S.rise k) (by
    have := ok.1
    unfold Sh.ofSteps at this
    rwa [if_neg z] at this)
  have rB : big (S.rise k) = true := by
    obtain ⟨r, m, e1, r0, m0, m1, _, er⟩ := h.parts k0
    rw [er]
    have : r ≤ r * S.fn := by
      have := Int.mul_le_mul_of_nonneg_left (show 1 ≤ S.fn by omega) r0
      omega
    exact b200 (by omega) (by omega)
  simp only [m_by_steps, b_by_steps]
  generalize m_last_rank = L at lr ⊢
  generalize m_first_normal = Fn at fn ⊢
  generalize m_infinite = If at inf ⊢
  generalize m_Number_init = In at ini ⊢
  walk_at "dd"
  rw [lr]
  walk_at "dd"
  unfold Sh.ofSteps
  by_cases c : k = S.last
  · rw [if_pos c, if_pos c, show gD_infinite_1_sign [shD S] [D.int s] = [shD S, D.int s] from rfl, inf]
    walk_at "dd"
  · rw [if_neg c, if_neg c, fn]
    walk_at "dd"
    rw [div_ok (by omega) (np_den ((sz200 (by omega) (by omega)).mono (by decide)))]
    walk_at "dd"
    rw [hr, mul_ok rB (b200 (by omega) (by omega))]
    walk_at "dd"
    rw [show gD_Number_init_2_sign_significand_exponent [shD S] [D.int s, .int (k - S.rise k * S.fn), .int (S.lo + S.rise k)] = [shD S, .int s, .int (k - S.rise k * S.fn), .int (S.lo + S.rise k)] from rfl, ini c]
    walk_at "dd"
    rfl
theorem e_byRank {S : Sh} (h : S.Ok) {r : Int} (h1 : -S.last ≤ r) (h2 : r ≤ S.last) : m_by_rank [.int r, shD S] = .ret (nmD (rankN S r)) := by
  have ws := e_wantShape h
  have lr := e_lastRank h
  have ww := e_wantWhole (z := "rank") h1 h2
  have bs := e_bySteps h (k := absI r) (s := if r < 0 then 1 else 0) (absI_0 r) (by unfold absI; split <;> omega) (by split <;> simp)
  simp only [m_by_rank, b_by_rank]
  generalize m_want_shape = A at ws ⊢
  generalize m_last_rank = L at lr ⊢
  generalize m_want_whole = B at ww ⊢
  generalize m_by_steps = C at bs ⊢
  walk_at "dd"
  rw [ws]
  walk_at "dd"
  rw [lr]
  walk_at "dd"
  rw [ww]
  walk_at "dd"
  unfold rankN
  unfold absI at bs ⊢
  by_cases c : r < 0
  · simp only [if_pos c] at bs ⊢
    rw [bs]
    walk_at "dd"
  · simp only [if_neg c] at bs ⊢
    rw [bs]
    walk_at "dd"
theorem e_moved {n : Nm} (h : n.Ok) (h2 : n.st ≠ 2) (d : Int) : m_moved [nmD n, .int d] = .ret (nmD (movedN n d)) := by
  have k := e_kind h
  have kn := kind_nan h2
  have sh := e_shape n
  have rk := e_rank h h2
  have lr := e_lastRank h.sh
  have sg := e_sign n
  have i0 := e_init0 h.sh h.s01
  have br := fun (a : -n.S.last ≤ n.rank + d) (b : n.rank + d ≤ n.S.last) => e_byRank h.sh a b
  simp only [m_moved, b_moved]
  generalize m_last_rank = L at lr ⊢
  generalize m_Number_rank = Rk at rk ⊢
  generalize m_by_rank = Br at br ⊢
  generalize m_Number_init = In at i0 ⊢
  walk_at "dd"
  rw [k]
  walk_at "dd"
  rw [if_neg kn, sh]
  walk_at "dd"
  rw [rk]
  walk_at "dd"
  rw [lr]
  walk_at "dd"
  unfold movedN
  rw [if_neg h2]
  have ea : (if n.rank + d < 0 then -(n.rank + d) else n.rank + d) = absI (n.rank + d) := rfl
  rw [ea]
  by_cases c : absI (n.rank + d) > n.S.last
  · rw [if_pos (show n.S.last < absI (n.rank + d) from c), if_pos c]
  · rw [if_neg (show ¬ n.S.last < absI (n.rank + d) from c), if_neg c]
    by_cases z : n.rank + d = 0
    · rw [if_pos z, if_pos z, sg]
      walk_at "dd"
      rw [show gD_Number_init_2_sign [shD n.S] [D.int n.s] = [shD n.S, .int n.s, .int 0, .non] from rfl, i0]
      walk_at "dd"
      rfl
    · have b1 : -n.S.last ≤ n.rank + d ∧ n.rank + d ≤ n.S.last := by unfold absI at c; split at c <;> omega
      rw [if_neg z, if_neg z, show gD_by_rank_2 [D.int (n.rank + d), shD n.S] [] = [D.int (n.rank + d), shD n.S] from rfl, br b1.1 b1.2]
      walk_at "dd"
theorem e_up {n : Nm} (h : n.Ok) (h2 : n.st ≠ 2) : m_Number_up [nmD n] = .ret (nmD (movedN n 1)) := by
  have m := e_moved h h2 1
  simp only [m_Number_up, b_Number_up]
  generalize m_moved = M at m ⊢
  walk_at "dd"
  rw [m]
  walk_at "dd"
theorem e_negated {n : Nm} (h : n.Ok) (h0 : n.st = 0) : m_Number_negated [nmD n] = .ret (nmD (negN n)) := by
  have s01 := h.s01
  have f1 := fl_state n
  have f2 := fl_shape n
  have f3 := fl_sign n
  have pa := e_parts h0
  have ne := neg_ok h
  have nat := neg_at (n := n) (by omega)
  have en : negN n = ⟨n.S, 1 - n.s, n.m, n.e, 0⟩ := by
    unfold negN
    rw [if_neg (by omega), ← h0]
  rw [en] at ne
  have ini := e_init ne
  rw [en]
  have k0 : kdS n.st = "finite" := by rw [h0]; rfl
  have n1 : ¬ (("finite" : Str) = "nan") := by decide +kernel
  have n2 : ¬ (("finite" : Str) = "infinite") := by decide +kernel
  simp only [m_Number_negated, b_Number_negated]
  generalize m_Number_init = In at ini ⊢
  walk_at "dd"
  rw [f1]
  walk_at "dd"
  rw [k0, if_neg n1]
  walk_at "dd"
  rw [pa]
  walk_at "dd"
  rw [f2]
  walk_at "dd"
  rw [f3]
  walk_at "dd"
  rw [show gD_Number_init_2_sign_significand_exponent [shD n.S] [D.int (1 - n.s), .int n.m, .int n.e] = [shD n.S, .int (1 - n.s), .int n.m, .int n.e] from rfl, ini]
  walk_at "dd"
  rfl
theorem e_quarters {n : Nm} (h : n.Ok) (h0 : n.st = 0) : m_quarters [nmD n] = .ret (.tup [.int (loQ n), .int (4 * n.m), .int (hiQ n)]) := by
  have m1 := h.m1
  have m0 := h.m0
  have fB := h.sh.fnB
  have pa := e_parts h0
  have sh := e_shape n
  have fn := e_firstNormal h.sh
  have b4 : big 4 = true := by decide +kernel
  simp only [m_quarters, b_quarters, loQ, hiQ]
  generalize m_first_normal = Fn at fn ⊢
  walk_at "dd"
  rw [pa]
  walk_at "dd"
  rw [mul_ok b4 (b200 (by omega) (by omega))]
  walk_at "dd"
  by_cases z : n.m = 0
  · rw [if_pos (by omega), if_pos z, z]
    rfl
  · rw [if_neg (by omega), if_neg z, sh]
    walk_at "dd"
    rw [sh]
    walk_at "dd"
    rw [fn]
    walk_at "dd"
    by_cases c : n.m = n.S.fn
    · rw [if_pos c]
      by_cases c2 : n.S.lo < n.e
      · rw [if_pos c2, if_pos ⟨c, c2⟩]
      · rw [if_neg c2, if_neg (fun y => c2 y.2)]
    · rw [if_neg c, if_neg (fun y => c y.1)]
def bdD (n : Nm) : D := .tup [.tup [.int (twN (loQ n) (n.e - 2)), .int (twD (loQ n) (n.e - 2))], .tup [.int (twN (hiQ n) (n.e - 2)), .int (twD (hiQ n) (n.e - 2))], .bl (decide (n.m % 2 = 0))]
theorem lo_sz {n : Nm} (h : n.Ok) : Sz 70 (loQ n) ∧ Sz 70 (hiQ n) ∧ -1102 ≤ n.e - 2 ∧ n.e - 2 ≤ 998 := by
  have m1 := h.m1
  have m0 := h.m0
  have fB := h.sh.fnB
  have f2 := h.sh.fn2
  have e0 := h.e0
  have e1 := h.e1
  have l0 := h.sh.l0
  have h1 := h.sh.h1
  refine ⟨?_, ?_, by omega, by omega⟩
  · unfold loQ
    exact Sz.of_lt (by simp only [Int.reducePow]; split <;> (try split) <;> omega) (by simp only [Int.reducePow]; split <;> (try split) <;> omega)
  · unfold hiQ
    exact Sz.of_lt (by simp only [Int.reducePow]; omega) (by simp only [Int.reducePow]; omega)
theorem e_bounds {n : Nm} (h : n.Ok) (h0 : n.st = 0) : m_bounds [nmD n] = .ret (bdD n) := by
  obtain ⟨z1, z2, z3, z4⟩ := lo_sz h
  have wf := e_wantFinite h0
  have pa := e_parts h0
  have qu := e_quarters h h0
  have t1 := e_byTwos z1 (by decide) (e := n.e - 2) (by omega) (by omega)
  have t2 := e_byTwos z2 (by decide) (e := n.e - 2) (by omega) (by omega)
  simp only [m_bounds, b_bounds]
  generalize m_want_finite = A at wf ⊢
  generalize m_quarters = B at qu ⊢
  generalize m_by_twos = C at t1 t2 ⊢
  walk_at "dd"
  rw [wf]
  walk_at "dd"
  rw [pa]
  walk_at "dd"
  rw [qu]
  walk_at "dd"
  rw [t1]
  walk_at "dd"
  rw [t2]
  walk_at "dd"
  trace_state
  rfl
end K30

set_option Elab.async false
set_option linter.all false
set_option maxRecDepth 100000
set_option maxHeartbeats 1000000
namespace K30
open PySem L2 L3 Dw
local macro_rules | `(tactic| walk_at "dd") => `(tactic| try simp only [q_run, q_fNx, q_fSeq, q_fRet, q_fRetN, q_fDrop, q_fIfS, q_fSet, q_fNever, q_fAug, q_fAsg, q_fPar, q_fPar3, q_hName, q_hTup, hNames, q_fC, q_fOp, q_fUn, q_fTst, q_fNot, q_fAnd, q_fOr, q_fNotV, q_fAndV, q_fOrV, q_fIf, q_fNil, q_fCons, q_fTup, q_fLst, q_fCall, q_fCallK, q_fChain, q_fDic0, q_fDic1, q_fItL, q_fItT, q_fRng1, q_fRng2, q_fEnum, q_fZip, q_fFor, q_fLc, q_fYes, wipeD, q_fWhile, v0, v1, v2, v3, v4, v5, v6, v7, v8, v9, v10, v11, b_ret, b_fail, b_exc, b_draw, startD, List.map_cons, List.map_nil, List.length_cons, List.length_nil, List.cons_append, List.nil_append, List.append_nil, Nat.reduceAdd, Nat.reduceSub, List.replicate_succ, List.replicate_zero, List.set_cons_zero, List.set_cons_succ, Nat.reduceLT, reduceIte, gI0, gI, gAdd, gSubt, gMod, gLt, gLe, gGt, gGe, gNeg, gIsN, gNotN, gIsB, gNotB, gMax, gMin, gAbs, D.isNon, gBAnd, Bool.true_and, Bool.and_true, Bool.false_and, Bool.and_false, Bool.not_true, Bool.not_false, Bool.true_eq_false, Bool.false_eq_true, if_true, if_false, Bool.not_eq_true, Tr.bind_ite, eq_ii, ne_ii, eq_ss, ne_ss, eq_bb, ne_bb, PyProof.Rows.bitAnd_m1, decide_true, decide_false, decide_eq_true_eq, Bool.not_eq_eq_eq_not, decide_eq_false_iff_not, ite_not, Int.reduceLT, Int.reduceLE, Int.reducePow, eq_self, Tr.bind_assoc, fo0, fo1, fo2, fo3, fo4, q_fMeth, ixT0, ixT1, ixT2, ixL0, ixL1, ixL2, ixS0, ixS1, ixS2, lenT0, lenT1, lenT2, lenT3, lenS, intB, intI, bitsI, hT3, hS3, q_fMake, q_fNew, q_frz0, eqT0, neT0, eqT2, eqS, neS, v12, v13, v14, v15, v16, v17, v18, v19, v20, v21, v22, v23, v24, v25, v26, v27, v28, v29, v30, okM_shape, okM_sign, okM_kind, okM_parts, okM_value, okM_rank, okM_word, okM_up, okM_down, okM_negated, Int.reduceEq, and_self, q_fSl, q_fPart, q_fNoP, neT2, s_nearest_away, s_nearest_zero, s_nearest_up, s_nearest_down, s_nearest_subnormal, s_nearest_normal, s_nearest_infinite, s_nearest_nan, s_nearest_finite, s_nearest_inexact, s_nearest_underflow, s_nearest_overflow, s_nearest_toward, s_nearest_outward, s_away_nearest, s_away_zero, s_away_up, s_away_down, s_away_subnormal, s_away_normal, s_away_infinite, s_away_nan, s_away_finite, s_away_inexact, s_away_underflow, s_away_overflow, s_away_toward, s_away_outward, s_zero_nearest, s_zero_away, s_zero_up, s_zero_down, s_zero_subnormal, s_zero_normal, s_zero_infinite, s_zero_nan, s_zero_finite, s_zero_inexact, s_zero_underflow, s_zero_overflow, s_zero_toward, s_zero_outward, s_up_nearest, s_up_away, s_up_zero, s_up_down, s_up_subnormal, s_up_normal, s_up_infinite, s_up_nan, s_up_finite, s_up_inexact, s_up_underflow, s_up_overflow, s_up_toward, s_up_outward, s_down_nearest, s_down_away, s_down_zero, s_down_up, s_down_subnormal, s_down_normal, s_down_infinite, s_down_nan, s_down_finite, s_down_inexact, s_down_underflow, s_down_overflow, s_down_toward, s_down_outward, s_subnormal_nearest, s_subnormal_away, s_subnormal_zero, s_subnormal_up, s_subnormal_down, s_subnormal_normal, s_subnormal_infinite, s_subnormal_nan, s_subnormal_finite, s_subnormal_inexact, s_subnormal_underflow, s_subnormal_overflow, s_subnormal_toward, s_subnormal_outward, s_normal_nearest, s_normal_away, s_normal_zero, s_normal_up, s_normal_down, s_normal_subnormal, s_normal_infinite, s_normal_nan, s_normal_finite, s_normal_inexact, s_normal_underflow, s_normal_overflow, s_normal_toward, s_normal_outward, s_infinite_nearest, s_infinite_away, s_infinite_zero, s_infinite_up, s_infinite_down, s_infinite_subnormal, s_infinite_normal, s_infinite_nan, s_infinite_finite, s_infinite_inexact, s_infinite_underflow, s_infinite_overflow, s_infinite_toward, s_infinite_outward, s_nan_nearest, s_nan_away, s_nan_zero, s_nan_up, s_nan_down, s_nan_subnormal, s_nan_normal, s_nan_infinite, s_nan_finite, s_nan_inexact, s_nan_underflow, s_nan_overflow, s_nan_toward, s_nan_outward, s_finite_nearest, s_finite_away, s_finite_zero, s_finite_up, s_finite_down, s_finite_subnormal, s_finite_normal, s_finite_infinite, s_finite_nan, s_finite_inexact, s_finite_underflow, s_finite_overflow, s_finite_toward, s_finite_outward, s_inexact_nearest, s_inexact_away, s_inexact_zero, s_inexact_up, s_inexact_down, s_inexact_subnormal, s_inexact_normal, s_inexact_infinite, s_inexact_nan, s_inexact_finite, s_inexact_underflow, s_inexact_overflow, s_inexact_toward, s_inexact_outward, s_underflow_nearest, s_underflow_away, s_underflow_zero, s_underflow_up, s_underflow_down, s_underflow_subnormal, s_underflow_normal, s_underflow_infinite, s_underflow_nan, s_underflow_finite, s_underflow_inexact, s_underflow_overflow, s_underflow_toward, s_underflow_outward, s_overflow_nearest, s_overflow_away, s_overflow_zero, s_overflow_up, s_overflow_down, s_overflow_subnormal, s_overflow_normal, s_overflow_infinite, s_overflow_nan, s_overflow_finite, s_overflow_inexact, s_overflow_underflow, s_overflow_toward, s_overflow_outward, s_toward_nearest, s_toward_away, s_toward_zero, s_toward_up, s_toward_down, s_toward_subnormal, s_toward_normal, s_toward_infinite, s_toward_nan, s_toward_finite, s_toward_inexact, s_toward_underflow, s_toward_overflow, s_toward_outward, s_outward_nearest, s_outward_away, s_outward_zero, s_outward_up, s_outward_down, s_outward_subnormal, s_outward_normal, s_outward_infinite, s_outward_nan, s_outward_finite, s_outward_inexact, s_outward_underflow, s_outward_overflow, s_outward_toward, gDraw, p6])
theorem p9 : gPow (.int 10) (.int 9) = .ret (.int 1000000000) := by kernel_rfl
theorem p12 : gPow (.int 10) (.int 12) = .ret (.int 1000000000000) := by kernel_rfl
/-! ### powers -/
theorem c_raisedN (t g f : Int) : c_l_raised_1 [some (.sh (.int g)), some (.sh (.int t)), some (.sh (.int f))] = .ret (decide (0 < t)) := by
  simp only [c_l_raised_1]
  walk_at "dd"
theorem body_raisedN {g f : Int} {l : Nat} (bf : big f = true) (bg : big g = true) (hl : l < 10000000) :
    l_l_raised_2 [some (.sh (.int g)), some (.sh (.int (l : Nat))), some (.sh (.int f))] = .ret (.nx [some (.sh (.int (g * g))), some (.sh (.int ((l / 2 : Nat) : Int))), some (.sh (.int (if l % 2 = 1 then f * g else f)))]) := by
  have e2 : ((l : Int) / 2) = ((l / 2 : Nat) : Int) := by omega
  have hd : gDiv (.int (l : Nat)) (.int 2) = .ret (.int ((l / 2 : Nat) : Int)) := by rw [div_ok (by decide) (np_den (Sz.mono (k := 200) (sz200 (by decide) (by decide)) (by decide))), e2]
  have hc : ((l : Int) % 2 = 1) ↔ l % 2 = 1 := by omega
  simp only [l_l_raised_2]
  walk_at "dd"
  rw [mul_ok bf bg]
  walk_at "dd"
  rw [mul_ok bg bg]
  walk_at "dd"
  rw [hd]
  walk_at "dd"
  by_cases c : l % 2 = 1
  · rw [if_pos (hc.mpr c), if_pos c]
  · rw [if_neg (fun z => c (hc.mp z)), if_neg c]
theorem raisedN_loop {g : Int} {s T : Nat} (hs : Sz s g) (hT : s * (2 * T) + 1 ≤ 4000000) (hT2 : T < 10000000) : ∀ (l fuel a p : Nat), l < fuel → a + p * l = T → p ≤ 2 * T + 1 → (l ≠ 0 → p ≤ T) → l ≤ T →
    ∃ q r : Int, wloop c_l_raised_1 l_l_raised_2 fuel [some (.sh (.int (g ^ p))), some (.sh (.int (l : Nat))), some (.sh (.int (g ^ a)))] = .ret (.nx [some (.sh (.int q)), some (.sh (.int r)), some (.sh (.int (g ^ T)))]) := by
  intro l
  induction l using Nat.strongRecOn with
  | _ l ih =>
    intro fuel a p hf he hp hp2 hlT
    cases fuel with
    | zero => omega
    | succ fuel =>
      by_cases l0 : l = 0
      · subst l0
        rw [Nat.mul_zero, Nat.add_zero] at he
        subst he
        exact ⟨_, _, wloop_no (by rw [c_raisedN]; rfl)⟩
      · have pT := hp2 l0
        have h1 : s * p + 1 ≤ 4000000 := by have := Nat.mul_le_mul_left s (show p ≤ 2 * T by omega); omega
        have aT : a ≤ T := by omega
        have h2 : s * a + 1 ≤ 4000000 := by have := Nat.mul_le_mul_left s (show a ≤ 2 * T by omega); omega
        have bf : big (g ^ a) = true := (Sz.pow hs a).big h2
        have bp : big (g ^ p) = true := (Sz.pow hs p).big h1
        have e3 : (g ^ p * g ^ p : Int) = g ^ (2 * p) := by rw [← Int.pow_add]; congr 1; omega
        have e1 : (if l % 2 = 1 then g ^ a * g ^ p else g ^ a : Int) = g ^ (if l % 2 = 1 then a + p else a) := by
          split
          · rw [Int.pow_add]
          · rfl
        rw [wloop_go (by rw [c_raisedN, decide_eq_true (by omega)]) (body_raisedN bf bp (by omega)), e1, e3]
        have hm : p * l = 2 * p * (l / 2) + p * (l % 2) := by
          conv => lhs; rw [show l = 2 * (l / 2) + l % 2 by omega, Nat.mul_add]
          congr 1
          rw [← Nat.mul_assoc, Nat.mul_comm p 2]
        refine ih (l / 2) (by omega) fuel _ (2 * p) (by omega) ?_ (by omega) (fun z => ?_) (by omega)
        · split
          · rename_i c; rw [c, Nat.mul_one] at hm; omega
          · rename_i c; rw [show l % 2 = 0 by omega, Nat.mul_zero] at hm; omega
        · have : 2 * p * 1 ≤ 2 * p * (l / 2) := Nat.mul_le_mul_left _ (by omega)
          omega
theorem e_raisedG {g : Int} {s T : Nat} (hs : Sz s g) (hT : s * (2 * T) + 1 ≤ 4000000) (hT2 : T < 10000000) : m_l_raised [.int g, .int (T : Nat)] = .ret (.int (g ^ T)) := by
  simp only [m_l_raised, b_l_raised]
  have key := raisedN_loop hs hT hT2 T FUEL 0 1 (by unfold FUEL; omega) (by omega) (by omega) (by omega) (Nat.le_refl _)
  rw [Int.pow_zero, Int.pow_one] at key
  obtain ⟨q, r, e⟩ := key
  generalize c_l_raised_1 = Cc at *
  generalize l_l_raised_2 = Ll at *
  walk_at "dd"
  rw [e]
  walk_at "dd"
theorem e_raised2 {t : Int} (h0 : 0 ≤ t) (h : t ≤ 20000) : m_l_raised [.int 2, .int t] = .ret (.int (2 ^ t.toNat)) := by
  have := e_raisedG (g := 2) (s := 2) (T := t.toNat) (by unfold Sz; decide) (by omega) (by omega)
  rwa [Int.toNat_of_nonneg h0] at this
theorem e_raised10 {t : Int} (h0 : 0 ≤ t) (h : t ≤ 30000) : m_l_raised [.int 10, .int t] = .ret (.int (10 ^ t.toNat)) := by
  have := e_raisedG (g := 10) (s := 4) (T := t.toNat) (by unfold Sz; decide) (by omega) (by omega)
  rwa [Int.toNat_of_nonneg h0] at this
theorem e_raised5 {t : Int} (h0 : 0 ≤ t) (h : t ≤ 30000) : m_l_raised [.int 5, .int t] = .ret (.int (5 ^ t.toNat)) := by
  have := e_raisedG (g := 5) (s := 3) (T := t.toNat) (by unfold Sz; decide) (by omega) (by omega)
  rwa [Int.toNat_of_nonneg h0] at this
theorem sz_two {k l : Nat} (h : k + 1 ≤ l) : Sz l ((2 : Int) ^ k) := by
  have := (Sz.shl (k := 1) (i := 1) (by unfold Sz; decide) k).mono (show 1 + k ≤ l by omega)
  rwa [Int.one_mul] at this
theorem al_form {P : D → Nat → Prop} {n : Nat} (hn : 12 ≤ n) (h : ∀ S m, S.Ok → n ≤ m + 12 → P (shD S) m) : (m_l_form [.mach]).al no P n := by
  simp only [m_l_form, b_l_form]
  walk_at "dd"
  refine al_drawN (by omega) (by decide) (by decide) fun r m1 r0 r1 h1 => ?_
  by_cases c : r < 3
  · rw [if_pos c]
    have hr : r = 0 ∨ r = 1 ∨ r = 2 := by omega
    rcases hr with rfl | rfl | rfl
    · exact h ⟨11, -24, 5⟩ m1 ⟨by decide, by decide, by decide, by decide, by decide, by decide⟩ (by omega)
    · exact h ⟨24, -149, 104⟩ m1 ⟨by decide, by decide, by decide, by decide, by decide, by decide⟩ (by omega)
    · exact h ⟨53, -1074, 971⟩ m1 ⟨by decide, by decide, by decide, by decide, by decide, by decide⟩ (by omega)
  rw [if_neg c]
  refine al_drawN (by omega) (by decide) (by decide) fun x m2 x0 x1 h2 => ?_
  refine al_drawN (by omega) (by decide) (by decide) fun y m3 y0 y1 h3 => ?_
  refine al_pickN (fun i => 0 ≤ i ∧ i ≤ 1100) (by omega) (by decide) (by decide) rfl (all_cons (by omega) (all_cons (by omega) all_nil)) fun u m4 ⟨u0, u1⟩ h4 => ?_
  walk_at "dd"
  refine al_drawN (by omega) (by decide) (by decide) fun z m5 z0 z1 h5 => ?_
  refine al_drawN (by omega) (by omega) (by omega) fun v m6 v0 v1 h6 => ?_
  refine al_pickN (fun i => 0 ≤ i ∧ i ≤ 1000 + u) (by omega) (by decide) (by decide) rfl (all_cons (by omega) (all_cons (by omega) all_nil)) fun w m7 ⟨w0, w1⟩ h7 => ?_
  walk_at "dd"
  refine al_drawN (by omega) (by decide) (by decide) fun a m8 a0 a1 h8 => ?_
  refine al_drawN (by omega) (by decide) (by decide) fun b m9 b0 b1 h9 => ?_
  refine al_pickN (fun i => 2 ≤ i ∧ i ≤ 64) (by omega) (by decide) (by decide) rfl (all_cons (by omega) (all_cons (by omega) (all_cons (by omega) all_nil))) fun p m10 ⟨p0, p1⟩ h10 => ?_
  walk_at "dd"
  exact h ⟨p, -u, -u + w⟩ m10 ⟨p0, p1, by show -1100 ≤ -u; omega, by show -u ≤ 0; omega, by show -u ≤ -u + w; omega, by show -u + w ≤ 1000; omega⟩ (by omega)
theorem al_great {P : D → Nat → Prop} {n : Nat} (hn : 3 ≤ n) (h : ∀ r m, 0 ≤ r → r < 1000000000000000000000 → n ≤ m + 3 → P (.int r) m) : (m_l_great [.mach]).al no P n := by
  simp only [m_l_great, b_l_great]
  walk_at "dd"
  rw [p9]
  walk_at "dd"
  refine al_drawN (by omega) (by decide) (by decide) fun x m1 x0 x1 h1 => ?_
  rw [p12]
  walk_at "dd"
  rw [mul_ok (b200 (by omega) (by omega)) (b200 (by decide) (by decide))]
  walk_at "dd"
  refine al_drawN (by omega) (by decide) (by decide) fun y m2 y0 y1 h2 => ?_
  rw [mul_ok (b200 (by omega) (by omega)) (b200 (by decide) (by decide))]
  walk_at "dd"
  refine al_drawN (by omega) (by decide) (by decide) fun z m3 z0 z1 h3 => ?_
  exact h _ m3 (by omega) (by omega) (by omega)
theorem two5 (j : Nat) : (2 : Nat) ^ j % 5 ≠ 0 := by
  induction j with
  | zero => decide
  | succ j ih => rw [Nat.pow_succ]; omega
theorem ten_ne_two {T j : Nat} (h : 1 < 10 ^ T) : (10 : Nat) ^ T ≠ 2 ^ j := by
  intro e
  cases T with
  | zero => simp at h
  | succ T =>
    have := two5 j
    rw [← e, Nat.pow_succ] at this
    omega
/-- a power of ten by so many bits: what by_ten takes -/
theorem ten_bits {T : Nat} : ∃ b : Nat, Builtin.Int.intBits ((10 : Int) ^ T) = b + 1 ∧ (2 : Int) ^ b ≤ 10 ^ T ∧ (10 : Int) ^ T < 2 ^ (b + 1) ∧ (1 < (10 : Int) ^ T → (2 : Int) ^ b < 10 ^ T) := by
  have p : (0 : Int) < 10 ^ T := Int.pow_pos (by decide)
  obtain ⟨b, e, h⟩ := bits_ge (n := (10 : Int) ^ T) (by omega)
  have l := bits_lt (n := (10 : Int) ^ T)
  rw [e] at l
  have ec : ((10 : Int) ^ T) = ((10 ^ T : Nat) : Int) := by rw [Int.natCast_pow]; rfl
  have ea : ((10 : Int) ^ T).natAbs = 10 ^ T := by rw [ec, Int.natAbs_natCast]
  rw [ea] at h l
  refine ⟨b, e, by rw [ec, ip_cast]; omega, by rw [ec, ip_cast]; omega, fun z => ?_⟩
  have := ten_ne_two (T := T) (j := b) (by rw [ec] at z; omega)
  rw [ec, ip_cast]
  omega
def okP (S : Sh) (m e : Int) : Prop := 0 ≤ m ∧ m < 2 * S.fn ∧ S.lo ≤ e ∧ e ≤ S.hi ∧ (S.lo < e → S.fn ≤ m)
theorem al_byTen {P : D → Nat → Prop} {S : Sh} (hS : S.Ok) {n : Nat} (hn : 2 ≤ n) (h : ∀ a e m, okP S a e → n ≤ m + 2 → P (.tup [.int a, .int e]) m) : (m_l_by_ten [.mach, shD S]).al no P n := by
  have H2 := fun (t : Int) => @e_raised2 t
  have H10 := fun (t : Int) => @e_raised10 t
  have p2 := hS.p2
  have p64 := hS.p64
  have h0 := hS.h0
  have h1' := hS.h1
  have l0 := hS.l0
  have l1 := hS.l1
  have f2 := hS.fn2
  have fnE : S.fn = 2 ^ (S.p.toNat - 1) := rfl
  simp only [m_l_by_ten, b_l_by_ten]
  generalize m_l_raised = M at H2 H10 ⊢
  walk_at "dd"
  refine al_drawN (by omega) (by decide) (by decide) fun t m1 t0 t1 k1 => ?_
  rw [H10 t t0 (by omega)]
  walk_at "dd"
  obtain ⟨T, rfl⟩ : ∃ T : Nat, t = T := ⟨t.toNat, by omega⟩
  rw [Int.toNat_natCast]
  obtain ⟨b, eb, lo, hi, lt⟩ := ten_bits (T := T)
  have zT : Sz 1400 ((10 : Int) ^ T) := (Sz.pow (s := 4) (by unfold Sz; decide) T).mono (by omega)
  have pT : (0 : Int) < 10 ^ T := Int.pow_pos (by decide)
  have bB : b < 1400 := by
    have := intBits_le_iff.mpr zT
    omega
  rw [eb]
  refine al_drawN (by omega) (by decide) (by decide) fun r m2 r0 r1 k2 => ?_
  have p1 : M [.int 2, .int (S.p - 1)] = .ret (.int S.fn) := by rw [H2 _ (by omega) (by omega), fnE, show (S.p - 1).toNat = S.p.toNat - 1 by omega]
  have far : okP S S.fn (if S.lo < (if 1 - S.p < S.hi then 1 - S.p else S.hi) then (if 1 - S.p < S.hi then 1 - S.p else S.hi) else S.lo) := by
    refine ⟨by omega, by omega, ?_, ?_, fun _ => Int.le_refl _⟩ <;> (repeat' split) <;> omega
  have mx : ∀ x y : Int, (if x > y then x else y) = if y < x then x else y := fun x y => rfl
  have fin : ∀ x q : Int, (1 < (10 : Int) ^ T → S.fn ≤ x ∧ x < 2 * S.fn) → (if S.lo ≤ q then if q ≤ S.hi then if 1 < (10 : Int) ^ T then Tr.ret (D.tup [.int x, .int q]) else Tr.ret (D.tup [.int S.fn, .int (if (if 1 - S.p < S.hi then 1 - S.p else S.hi) > S.lo then if 1 - S.p < S.hi then 1 - S.p else S.hi else S.lo)]) else Tr.ret (D.tup [.int S.fn, .int (if (if 1 - S.p < S.hi then 1 - S.p else S.hi) > S.lo then if 1 - S.p < S.hi then 1 - S.p else S.hi else S.lo)])
      else Tr.ret (D.tup [.int S.fn, .int (if (if 1 - S.p < S.hi then 1 - S.p else S.hi) > S.lo then if 1 - S.p < S.hi then 1 - S.p else S.hi else S.lo)])).al no P m2 := fun x q hx => by
    have fb : P (.tup [.int S.fn, .int (if (if 1 - S.p < S.hi then 1 - S.p else S.hi) > S.lo then if 1 - S.p < S.hi then 1 - S.p else S.hi else S.lo)]) m2 := h _ _ m2 far (by omega)
    by_cases c1 : S.lo ≤ q
    · rw [if_pos c1]
      by_cases c2 : q ≤ S.hi
      · rw [if_pos c2]
        by_cases c3 : 1 < (10 : Int) ^ T
        · rw [if_pos c3]
          obtain ⟨x0, x1⟩ := hx c3
          exact h x q m2 ⟨by omega, x1, c1, c2, fun _ => x0⟩ (by omega)
        · rw [if_neg c3]; exact fb
      · rw [if_neg c2]; exact fb
    · rw [if_neg c1]; exact fb
  rw [p1]
  walk_at "dd"
  by_cases cr : r = 0
  · rw [if_pos cr]
    by_cases c0 : 0 ≤ ((b + 1 : Nat) : Int) - S.p
    · rw [if_pos c0, H2 _ c0 (by omega)]
      walk_at "dd"
      have pd : (0 : Int) < 2 ^ (((b + 1 : Nat) : Int) - S.p).toNat := ip_pos _
      have e1 : (2 : Int) ^ b = S.fn * 2 ^ (((b + 1 : Nat) : Int) - S.p).toNat := by rw [fnE, ← Int.pow_add]; congr 1; omega
      have zd : Sz 1500 ((2 : Int) ^ (((b + 1 : Nat) : Int) - S.p).toNat) := sz_two (by omega)
      rw [div_ok pd (np_den (zd.mono (by decide)))]
      walk_at "dd"
      refine fin _ _ fun _ => ⟨?_, ?_⟩
      · exact Int.le_ediv_of_mul_le pd (by omega)
      · refine Int.ediv_lt_of_lt_mul pd ?_
        rw [Int.mul_assoc, ← e1, ← ip_succ]
        exact hi
    · rw [if_neg c0, H2 _ (by omega) (by omega)]
      walk_at "dd"
      have pd : (0 : Int) < 2 ^ (-(((b + 1 : Nat) : Int) - S.p)).toNat := ip_pos _
      have e1 : S.fn = 2 ^ b * 2 ^ (-(((b + 1 : Nat) : Int) - S.p)).toNat := by rw [fnE, ← Int.pow_add]; congr 1; omega
      have zd : Sz 100 ((2 : Int) ^ (-(((b + 1 : Nat) : Int) - S.p)).toNat) := sz_two (by omega)
      rw [mul_ok (zT.big (by decide)) (zd.big (by decide))]
      walk_at "dd"
      refine fin _ _ fun _ => ⟨?_, ?_⟩
      · rw [e1]; exact Int.mul_le_mul_of_nonneg_right lo (by omega)
      · rw [e1, ← Int.mul_assoc, ← ip_succ]; exact Int.mul_lt_mul_of_pos_right hi pd
  · rw [if_neg cr, H2 _ (by omega) (by omega)]
    walk_at "dd"
    have e0 : (-(1 - ((b + 1 : Nat) : Int) - S.p)).toNat = (S.p.toNat - 1) + (b + 1) := by omega
    have e2 : (-(1 - ((b + 1 : Nat) : Int) - S.p)).toNat = S.p.toNat + b := by omega
    rw [div_ok pT (np_den (zT.mono (by decide)))]
    walk_at "dd"
    refine fin _ _ fun z => ⟨?_, ?_⟩
    · refine Int.le_ediv_of_mul_le pT ?_
      rw [e0, Int.pow_add, ← fnE]
      exact Int.le_of_lt (Int.mul_lt_mul_of_pos_left hi (by omega))
    · refine Int.ediv_lt_of_lt_mul pT ?_
      rw [e2, Int.pow_add, hS.full]
      exact Int.mul_lt_mul_of_pos_left (lt z) (by omega)
theorem okP_nm {S : Sh} (hS : S.Ok) {m e s : Int} (h : okP S m e) (hs : s = 0 ∨ s = 1) : Nm.Ok ⟨S, s, m, e, 0⟩ :=
  ⟨hS, hs, h.1, h.2.1, h.2.2.1, h.2.2.2.1, h.2.2.2.2, Nat.le_of_ble_eq_true rfl, fun z => absurd rfl z, fun z => nomatch z⟩
theorem al_parts {P : D → Nat → Prop} {S : Sh} (hS : S.Ok) {n : Nat} (hn : 12 ≤ n) (h : ∀ a e m, okP S a e → n ≤ m + 12 → P (.tup [.int a, .int e]) m) : (m_l_parts [.mach, shD S]).al no P n := by
  have Hg := fun (P : D → Nat → Prop) (n : Nat) => @al_great P n
  have Ht := fun (P : D → Nat → Prop) (n : Nat) => @al_byTen P S hS n
  have p2 := hS.p2
  have p64 := hS.p64
  have h0 := hS.h0
  have h1' := hS.h1
  have l0 := hS.l0
  have l1 := hS.l1
  have f2 := hS.fn2
  have fB := hS.fnB
  have fnE : S.fn = 2 ^ (S.p.toNat - 1) := rfl
  have p1 : m_l_raised [.int 2, .int (S.p - 1)] = .ret (.int S.fn) := by rw [e_raised2 (by omega) (by omega), fnE, show (S.p - 1).toNat = S.p.toNat - 1 by omega]
  have near : ∀ x : Int, S.lo ≤ (if (if x < S.hi then x else S.hi) > S.lo then if x < S.hi then x else S.hi else S.lo) ∧ (if (if x < S.hi then x else S.hi) > S.lo then if x < S.hi then x else S.hi else S.lo) ≤ S.hi := fun x => by constructor <;> (repeat' split) <;> omega
  simp only [m_l_parts, b_l_parts]
  generalize m_l_great = Mg at Hg ⊢
  generalize m_l_by_ten = Mt at Ht ⊢
  generalize m_l_raised = Mr at p1 ⊢
  walk_at "dd"
  rw [p1]
  walk_at "dd"
  refine al_drawN (by omega) (by decide) (by decide) fun r m1 r0 r1 h1 => ?_
  refine al_bd (Hg _ _ (by omega) fun g m2 g0 g1 h2 => ?_)
  walk_at "dd"
  have gm : 0 ≤ g % S.fn ∧ g % S.fn < S.fn := ⟨Int.emod_nonneg _ (by omega), Int.emod_lt_of_pos _ (by omega)⟩
  have gM : (if (0 : Int) < S.fn then Tr.ret (D.int (g % S.fn)) else Tr.fail) = .ret (.int (g % S.fn)) := if_pos (by omega)
  by_cases c0 : r = 0
  · rw [if_pos c0]
    rw [if_pos (by omega)]
    refine al_pickN (fun i => 0 ≤ i ∧ i < 2 * S.fn) (by omega) (by decide) (by decide) rfl (all_cons (by omega) (all_cons (by omega) (all_cons (by omega) (all_cons (by omega) all_nil)))) fun u m3 ⟨u0, u1⟩ h3 => ?_
    exact h _ _ m3 ⟨u0, u1, Int.le_refl _, h0, fun z => absurd z (Int.lt_irrefl _)⟩ (by omega)
  rw [if_neg c0]
  by_cases c1 : r = 1
  · rw [if_pos c1, mul_ok bg2 (b200 (by omega) (by omega))]
    walk_at "dd"
    exact h _ _ m2 ⟨by omega, by omega, h0, Int.le_refl _, fun _ => by omega⟩ (by omega)
  rw [if_neg c1]
  by_cases c2 : r < 4
  · rw [if_pos c2]
    refine al_bd (Ht _ _ (by omega) fun a e m3 ok h3 => ?_)
    exact h _ _ m3 ok (by omega)
  rw [if_neg c2]
  refine al_drawN (by omega) (by decide) (by decide) fun x m3 x0 x1 h3 => ?_
  refine al_drawN (by omega) (by omega) (by omega) fun y m4 y0 y1 h4 => ?_
  refine al_drawN (by omega) (by omega) (by omega) fun z m5 z0 z1 h5 => ?_
  have nx := near (x - S.p - 3)
  refine al_pickN (fun i => S.lo ≤ i ∧ i ≤ S.hi) (by omega) (by decide) (by decide) rfl (all_cons (by omega) (all_cons nx (all_cons (by omega) (all_cons (by omega) all_nil)))) fun e m6 ⟨e0, e1⟩ h6 => ?_
  walk_at "dd"
  simp only [show (0 < S.fn) = True from eq_true (by omega), if_true, Tr.bind_ret]
  refine al_pickN (fun i => 0 ≤ i ∧ i < S.fn) (by omega) (by decide) (by decide) rfl (all_cons (by omega) (all_cons (by omega) (all_cons (by omega) (all_cons gm (all_cons gm (all_cons gm all_nil)))))) fun v m7 ⟨v0, v1⟩ h7 => ?_
  walk_at "dd"
  exact h _ _ m7 ⟨by omega, by omega, e0, e1, fun _ => by omega⟩ (by omega)
theorem e_halves {n e : Int} (hn : Sz 70 n) (e0 : -2000 ≤ e) (e1 : e ≤ 2000) : m_l_halves [.int n, .int e] = .ret (.tup [.int (twN n e), .int (twD n e)]) := by
  have H2 := fun (t : Int) => @e_raised2 t
  have r0 : (2 : Int) ^ (0 : Int).toNat = 1 := rfl
  simp only [m_l_halves, b_l_halves, twN, twD]
  generalize m_l_raised = M at H2 ⊢
  walk_at "dd"
  have up : ∀ i : Int, (M [.int 2, .int (if e > 0 then e else 0)]) = .ret (.int (2 ^ e.toNat)) := fun _ => by rw [mx1, H2 _ (by omega) (by omega), Int.toNat_natCast]
  have z2 : Sz 2001 ((2 : Int) ^ e.toNat) := sz_two (by omega)
  have hp : (gMul (.int n) (.int (2 ^ e.toNat))) = .ret (.int (n * 2 ^ e.toNat)) := mul_ok (hn.big (by decide)) (z2.big (by decide))
  by_cases c : 0 ≤ e
  · rw [if_pos c, if_pos c, if_pos c, up 0]
    walk_at "dd"
    rw [hp]
    walk_at "dd"
    split <;> rfl
  · rw [if_neg c, if_neg c, if_neg c]
    by_cases z : n = 0
    · rw [if_pos z, if_pos z, if_pos z, up 0]
      walk_at "dd"
      rw [hp, z, Int.zero_mul]
      walk_at "dd"
    · rw [if_neg z, if_neg z, if_neg z, H2 _ (by omega) (by omega)]
      walk_at "dd"
      obtain ⟨v, j, e3, e4⟩ := low_ne z
      have ev : v = tz n := by rw [e3, tz_of]
      rw [e4, ev]
      have hm : (if (2 : Int) ^ (-e).toNat < 2 ^ tz n then (2 : Int) ^ (-e).toNat else 2 ^ tz n) = 2 ^ min (tz n) (-e).toNat := by
        by_cases y : tz n ≤ (-e).toNat
        · rw [if_neg (by have := ip_mono y; omega), show min (tz n) (-e).toNat = tz n by omega]
        · rw [show min (tz n) (-e).toNat = (-e).toNat by omega]
          split
          · rfl
          · have := ip_mono (show (-e).toNat + 1 ≤ tz n by omega)
            rw [ip_succ] at this
            have := ip_pos (-e).toNat
            omega
      rw [hm]
      have pd := ip_pos (min (tz n) (-e).toNat)
      have zd : Sz 2001 ((2 : Int) ^ min (tz n) (-e).toNat) := sz_two (by omega)
      rw [div_ok pd (np_den (zd.mono (by decide)))]
      walk_at "dd"
      rw [div_ok pd (np_den (zd.mono (by decide)))]
      walk_at "dd"
      have e5 : (2 : Int) ^ (-e).toNat = 2 ^ ((-e).toNat - min (tz n) (-e).toNat) * 2 ^ min (tz n) (-e).toNat := by rw [← Int.pow_add]; congr 1; omega
      rw [e5, Int.mul_ediv_cancel _ (by omega)]
/-- the law's own bounds are the program's -/
theorem e_limits {n : Nm} (h : n.Ok) : m_l_limits [shD n.S, .tup [.int n.m, .int n.e]] = .ret (bdD n) := by
  have p2 := h.sh.p2
  have p64 := h.sh.p64
  have fB := h.sh.fnB
  have m0 := h.m0
  have m1 := h.m1
  have e0 := h.e0
  have e1 := h.e1
  have l0 := h.sh.l0
  have h1 := h.sh.h1
  have fnE : n.S.fn = 2 ^ (n.S.p.toNat - 1) := rfl
  have p1 : m_l_raised [.int 2, .int (n.S.p - 1)] = .ret (.int n.S.fn) := by rw [e_raised2 (by omega) (by omega), fnE, show (n.S.p - 1).toNat = n.S.p.toNat - 1 by omega]
  have b4 : big 4 = true := by decide +kernel
  have sz : ∀ x : Int, -1000000000000000000000 < x → x < 1000000000000000000000 → Sz 70 x := fun x a b => Sz.of_lt (by simp only [Int.reducePow]; omega) (by simp only [Int.reducePow]; omega)
  have Ha : m_l_halves [.int (2 * n.m + 1), .int (n.e - 1)] = .ret (.tup [.int (twN (hiQ n) (n.e - 2)), .int (twD (hiQ n) (n.e - 2))]) := by
    rw [e_halves (sz _ (by omega) (by omega)) (by omega) (by omega)]
    have := tw_double (2 * n.m + 1) (n.e - 1)
    rw [show n.e - 1 - 1 = n.e - 2 by omega, show 2 * (2 * n.m + 1) = hiQ n by unfold hiQ; omega] at this
    rw [this.1, this.2]
  have Hb : m_l_halves [.int (4 * n.m - 1), .int (n.e - 2)] = .ret (.tup [.int (twN (4 * n.m - 1) (n.e - 2)), .int (twD (4 * n.m - 1) (n.e - 2))]) := e_halves (sz _ (by omega) (by omega)) (by omega) (by omega)
  have Hc : m_l_halves [.int (2 * n.m - 1), .int (n.e - 1)] = .ret (.tup [.int (twN (4 * n.m - 2) (n.e - 2)), .int (twD (4 * n.m - 2) (n.e - 2))]) := by
    rw [e_halves (sz _ (by omega) (by omega)) (by omega) (by omega)]
    have := tw_double (2 * n.m - 1) (n.e - 1)
    rw [show n.e - 1 - 1 = n.e - 2 by omega, show 2 * (2 * n.m - 1) = 4 * n.m - 2 by omega] at this
    rw [this.1, this.2]
  have t0 : twN 0 (n.e - 2) = 0 ∧ twD 0 (n.e - 2) = 1 := by
    unfold twN twD
    split
    · exact ⟨Int.zero_mul _, rfl⟩
    · rw [if_pos rfl, if_pos rfl]
      exact ⟨rfl, rfl⟩
  simp only [m_l_limits, b_l_limits]
  generalize m_l_halves = H at Ha Hb Hc ⊢
  generalize m_l_raised = M at p1 ⊢
  walk_at "dd"
  rw [mul_ok bg2 (b200 (by omega) (by omega))]
  walk_at "dd"
  rw [Ha]
  walk_at "dd"
  unfold bdD loQ
  by_cases z : n.m = 0
  · rw [if_pos z, if_pos z, t0.1, t0.2, decide_eq_true (by omega)]
  · rw [if_neg z, if_neg z, p1]
    walk_at "dd"
    by_cases c : n.m = n.S.fn
    · rw [if_pos c]
      by_cases c2 : n.S.lo < n.e
      · rw [if_pos c2, if_pos ⟨c, c2⟩, mul_ok b4 (b200 (by omega) (by omega))]
        walk_at "dd"
        rw [Hb]
        walk_at "dd"
      · rw [if_neg c2, if_neg (fun y => c2 y.2), Hc]
        walk_at "dd"
    · rw [if_neg c, if_neg (fun y => c y.1), Hc]
      walk_at "dd"
theorem nm_eta {k : Nm} {S : Sh} (kS : k.S = S) (k0 : k.st = 0) : k = ⟨S, k.s, k.m, k.e, 0⟩ := by
  cases k
  simp_all
theorem e_made {S : Sh} {s m e : Int} (hk : Nm.Ok ⟨S, s, m, e, 0⟩) : m_l_made [shD S, .int s, .tup [.int m, .int e]] = .ret (nmD ⟨S, s, m, e, 0⟩) := by
  have i := e_init hk
  simp only [m_l_made, b_l_made]
  generalize m_Number_init = Mi at i ⊢
  walk_at "dd"
  rw [show gD_Number_init_2_sign_significand_exponent [shD S] [D.int s, .int m, .int e] = [shD S, .int s, .int m, .int e] from rfl, i]
  rfl
end K30

set_option Elab.async false
set_option linter.all false
set_option maxRecDepth 100000
set_option maxHeartbeats 1000000
namespace K30
open PySem L2 L3 Dw
/-! ### repr of data of ints -/
theorem txt_len {i : Int} (h : i.natAbs.log2 < 1920) : (Str.ofString i.repr).length ≤ 1921 := by
  have e := int_text_length_le (k := 1920) (by decide) h
  have e2 : (Str.ofString (toString i)).length = (toString i).length := ofString_length _
  have e3 : (Str.ofString i.repr) = Str.ofString (toString i) := rfl
  rw [e3, e2]
  omega
theorem log_sz {i : Int} (h : i.natAbs < 2 ^ 1920) : i.natAbs.log2 < 1920 := by
  by_cases z : i.natAbs = 0
  · rw [z]; decide
  · exact (Nat.log2_lt z).mpr h
theorem repr_two {a b : Int} (ha : a.natAbs < 2 ^ 1920) (hb : b.natAbs < 2 ^ 1920) : ∃ x, gRepr [.tup [.int a, .int b]] = .ret (.str x) := by
  refine ⟨(PyData.tuple [.int a, .int b]).shown, ?_⟩
  have la := log_sz ha
  have lb := log_sz hb
  have h1 := txt_len la
  have h2 := txt_len lb
  have ok : shOk (.tuple [.int a, .int b]) = true := by
    have d1 : (PyData.tuple [.int a, .int b]).showable = true := by simp [PyData.showable, PyData.showableAll, la, lb]
    have d2 : (PyData.tuple [.int a, .int b]).hasDict = false := by simp [PyData.hasDict, PyData.hasDictAll]
    have d3 : (PyData.tuple [.int a, .int b]).depth ≤ 20 := by simp [PyData.depth, PyData.depthAll]
    have d4 : (PyData.tuple [.int a, .int b]).shown.length ≤ 1000000 := by
      have e2 : ((", " : String) : Str).length = 2 := rfl
      have e0 : (("" : String) : Str).length = 0 := rfl
      have e4 : (("(" : String) : Str).length = 1 := rfl
      have e5 : ((")" : String) : Str).length = 1 := rfl
      simp only [PyData.shown, PyData.shownAll, textFrom, tupleText, Str.join, strLen_append, List.length_cons, List.length_nil]
      simp
      rw [e2, e4, e5]
      omega
    unfold shOk
    rw [d1, d2, decide_eq_true d3, decide_eq_true d4]
    rfl
  exact if_pos ok
theorem repr_bd {a b c d : Int} {k : Bool} (ha : a.natAbs < 2 ^ 1920) (hb : b.natAbs < 2 ^ 1920) (hc : c.natAbs < 2 ^ 1920) (hd : d.natAbs < 2 ^ 1920) : ∃ x, gRepr [.tup [.tup [.int a, .int b], .tup [.int c, .int d], .bl k]] = .ret (.str x) := by
  refine ⟨(PyData.tuple [.tuple [.int a, .int b], .tuple [.int c, .int d], .bool k]).shown, ?_⟩
  have la := log_sz ha
  have lb := log_sz hb
  have lc := log_sz hc
  have ld := log_sz hd
  have h1 := txt_len la
  have h2 := txt_len lb
  have h3 := txt_len lc
  have h4 := txt_len ld
  have ok : shOk (.tuple [.tuple [.int a, .int b], .tuple [.int c, .int d], .bool k]) = true := by
    have d1 : (PyData.tuple [.tuple [.int a, .int b], .tuple [.int c, .int d], .bool k]).showable = true := by simp [PyData.showable, PyData.showableAll, la, lb, lc, ld]
    have d2 : (PyData.tuple [.tuple [.int a, .int b], .tuple [.int c, .int d], .bool k]).hasDict = false := by simp [PyData.hasDict, PyData.hasDictAll]
    have d3 : (PyData.tuple [.tuple [.int a, .int b], .tuple [.int c, .int d], .bool k]).depth ≤ 20 := by simp [PyData.depth, PyData.depthAll]
    have d4 : (PyData.tuple [.tuple [.int a, .int b], .tuple [.int c, .int d], .bool k]).shown.length ≤ 1000000 := by
      have e2 : ((", " : String) : Str).length = 2 := rfl
      have e0 : (("" : String) : Str).length = 0 := rfl
      have e4 : (("(" : String) : Str).length = 1 := rfl
      have e5 : ((")" : String) : Str).length = 1 := rfl
      have e6 : (("True" : String) : Str).length = 4 := rfl
      have e7 : (("False" : String) : Str).length = 5 := rfl
      simp only [PyData.shown, PyData.shownAll, textFrom, tupleText, Str.join, strLen_append, List.length_cons, List.length_nil]
      simp
      rw [e2, e4, e5]
      cases k
      · rw [if_neg (by decide), e7]; omega
      · rw [if_pos rfl, e6]; omega
    unfold shOk
    rw [d1, d2, decide_eq_true d3, decide_eq_true d4]
    rfl
  exact if_pos ok
theorem bd_small {n : Nm} (h : n.Ok) : (twN (loQ n) (n.e - 2)).natAbs < 2 ^ 1920 ∧ (twD (loQ n) (n.e - 2)).natAbs < 2 ^ 1920 ∧ (twN (hiQ n) (n.e - 2)).natAbs < 2 ^ 1920 ∧ (twD (hiQ n) (n.e - 2)).natAbs < 2 ^ 1920 := by
  obtain ⟨z1, z2, z3, z4⟩ := lo_sz h
  have a1 := tw_size (e := n.e - 2) (j := 1000) z1 (by omega)
  have a2 := tw_size (e := n.e - 2) (j := 1000) z2 (by omega)
  have b1 := twD_size (n := loQ n) (e := n.e - 2) (j := 1102) (by omega)
  have b2 := twD_size (n := hiQ n) (e := n.e - 2) (j := 1102) (by omega)
  have p1 : (2 : Nat) ^ (70 + 1000) ≤ 2 ^ 1920 := Nat.pow_le_pow_right (by decide) (by decide)
  have p2 : (2 : Nat) ^ 1102 < 2 ^ 1920 := Nat.pow_lt_pow_right (by decide) (by decide)
  exact ⟨by omega, by omega, by omega, by omega⟩
theorem repr_bounds {n : Nm} (h : n.Ok) : ∃ x, gRepr [bdD n] = .ret (.str x) :=
  let ⟨a, b, c, d⟩ := bd_small h
  repr_bd a b c d
end K30
namespace K30
open PySem L2 L3 Dw
local macro_rules | `(tactic| walk_at "dd") => `(tactic| try simp only [q_run, q_fNx, q_fSeq, q_fRet, q_fRetN, q_fDrop, q_fIfS, q_fSet, q_fNever, q_fAug, q_fAsg, q_fPar, q_fPar3, q_hName, q_hTup, hNames, q_fC, q_fOp, q_fUn, q_fTst, q_fNot, q_fAnd, q_fOr, q_fNotV, q_fAndV, q_fOrV, q_fIf, q_fNil, q_fCons, q_fTup, q_fLst, q_fCall, q_fCallK, q_fChain, q_fDic0, q_fDic1, q_fItL, q_fItT, q_fRng1, q_fRng2, q_fEnum, q_fZip, q_fFor, q_fLc, q_fYes, wipeD, q_fWhile, v0, v1, v2, v3, v4, v5, v6, v7, v8, v9, v10, v11, b_ret, b_fail, b_exc, b_draw, startD, List.map_cons, List.map_nil, List.length_cons, List.length_nil, List.cons_append, List.nil_append, List.append_nil, Nat.reduceAdd, Nat.reduceSub, List.replicate_succ, List.replicate_zero, List.set_cons_zero, List.set_cons_succ, Nat.reduceLT, reduceIte, gI0, gI, gAdd, gSubt, gMod, gLt, gLe, gGt, gGe, gNeg, gIsN, gNotN, gIsB, gNotB, gMax, gMin, gAbs, D.isNon, gBAnd, Bool.true_and, Bool.and_true, Bool.false_and, Bool.and_false, Bool.not_true, Bool.not_false, Bool.true_eq_false, Bool.false_eq_true, if_true, if_false, Bool.not_eq_true, Tr.bind_ite, eq_ii, ne_ii, eq_ss, ne_ss, eq_bb, ne_bb, PyProof.Rows.bitAnd_m1, decide_true, decide_false, decide_eq_true_eq, Bool.not_eq_eq_eq_not, decide_eq_false_iff_not, ite_not, Int.reduceLT, Int.reduceLE, Int.reducePow, eq_self, Tr.bind_assoc, fo0, fo1, fo2, fo3, fo4, q_fMeth, ixT0, ixT1, ixT2, ixL0, ixL1, ixL2, ixS0, ixS1, ixS2, lenT0, lenT1, lenT2, lenT3, lenS, intB, intI, bitsI, hT3, hS3, q_fMake, q_fNew, q_frz0, eqT0, neT0, eqT2, eqS, neS, v12, v13, v14, v15, v16, v17, v18, v19, v20, v21, v22, v23, v24, v25, v26, v27, v28, v29, v30, okM_shape, okM_sign, okM_kind, okM_parts, okM_value, okM_rank, okM_word, okM_up, okM_down, okM_negated, Int.reduceEq, and_self, q_fSl, q_fPart, q_fNoP, neT2, s_nearest_away, s_nearest_zero, s_nearest_up, s_nearest_down, s_nearest_subnormal, s_nearest_normal, s_nearest_infinite, s_nearest_nan, s_nearest_finite, s_nearest_inexact, s_nearest_underflow, s_nearest_overflow, s_nearest_toward, s_nearest_outward, s_away_nearest, s_away_zero, s_away_up, s_away_down, s_away_subnormal, s_away_normal, s_away_infinite, s_away_nan, s_away_finite, s_away_inexact, s_away_underflow, s_away_overflow, s_away_toward, s_away_outward, s_zero_nearest, s_zero_away, s_zero_up, s_zero_down, s_zero_subnormal, s_zero_normal, s_zero_infinite, s_zero_nan, s_zero_finite, s_zero_inexact, s_zero_underflow, s_zero_overflow, s_zero_toward, s_zero_outward, s_up_nearest, s_up_away, s_up_zero, s_up_down, s_up_subnormal, s_up_normal, s_up_infinite, s_up_nan, s_up_finite, s_up_inexact, s_up_underflow, s_up_overflow, s_up_toward, s_up_outward, s_down_nearest, s_down_away, s_down_zero, s_down_up, s_down_subnormal, s_down_normal, s_down_infinite, s_down_nan, s_down_finite, s_down_inexact, s_down_underflow, s_down_overflow, s_down_toward, s_down_outward, s_subnormal_nearest, s_subnormal_away, s_subnormal_zero, s_subnormal_up, s_subnormal_down, s_subnormal_normal, s_subnormal_infinite, s_subnormal_nan, s_subnormal_finite, s_subnormal_inexact, s_subnormal_underflow, s_subnormal_overflow, s_subnormal_toward, s_subnormal_outward, s_normal_nearest, s_normal_away, s_normal_zero, s_normal_up, s_normal_down, s_normal_subnormal, s_normal_infinite, s_normal_nan, s_normal_finite, s_normal_inexact, s_normal_underflow, s_normal_overflow, s_normal_toward, s_normal_outward, s_infinite_nearest, s_infinite_away, s_infinite_zero, s_infinite_up, s_infinite_down, s_infinite_subnormal, s_infinite_normal, s_infinite_nan, s_infinite_finite, s_infinite_inexact, s_infinite_underflow, s_infinite_overflow, s_infinite_toward, s_infinite_outward, s_nan_nearest, s_nan_away, s_nan_zero, s_nan_up, s_nan_down, s_nan_subnormal, s_nan_normal, s_nan_infinite, s_nan_finite, s_nan_inexact, s_nan_underflow, s_nan_overflow, s_nan_toward, s_nan_outward, s_finite_nearest, s_finite_away, s_finite_zero, s_finite_up, s_finite_down, s_finite_subnormal, s_finite_normal, s_finite_infinite, s_finite_nan, s_finite_inexact, s_finite_underflow, s_finite_overflow, s_finite_toward, s_finite_outward, s_inexact_nearest, s_inexact_away, s_inexact_zero, s_inexact_up, s_inexact_down, s_inexact_subnormal, s_inexact_normal, s_inexact_infinite, s_inexact_nan, s_inexact_finite, s_inexact_underflow, s_inexact_overflow, s_inexact_toward, s_inexact_outward, s_underflow_nearest, s_underflow_away, s_underflow_zero, s_underflow_up, s_underflow_down, s_underflow_subnormal, s_underflow_normal, s_underflow_infinite, s_underflow_nan, s_underflow_finite, s_underflow_inexact, s_underflow_overflow, s_underflow_toward, s_underflow_outward, s_overflow_nearest, s_overflow_away, s_overflow_zero, s_overflow_up, s_overflow_down, s_overflow_subnormal, s_overflow_normal, s_overflow_infinite, s_overflow_nan, s_overflow_finite, s_overflow_inexact, s_overflow_underflow, s_overflow_toward, s_overflow_outward, s_toward_nearest, s_toward_away, s_toward_zero, s_toward_up, s_toward_down, s_toward_subnormal, s_toward_normal, s_toward_infinite, s_toward_nan, s_toward_finite, s_toward_inexact, s_toward_underflow, s_toward_overflow, s_toward_outward, s_outward_nearest, s_outward_away, s_outward_zero, s_outward_up, s_outward_down, s_outward_subnormal, s_outward_normal, s_outward_infinite, s_outward_nan, s_outward_finite, s_outward_inexact, s_outward_underflow, s_outward_overflow, s_outward_toward, gDraw])
theorem al_right {P : D → Nat → Prop} {S : Sh} (hS : S.Ok) {m e : Int} (ok : okP S m e) {n : Nat} (hn : 1 ≤ n) (h : ∀ k, n ≤ k + 1 → P (.bl true) k) : (m_l_right [.mach, shD S, .tup [.int m, .int e]]).al no P n := by
  have o0 := okP_nm hS ok (s := 0) (.inl rfl)
  have El := e_limits o0
  have Rx := Classical.choose_spec (repr_bounds o0)
  generalize Classical.choose (repr_bounds o0) = x at Rx
  have Em := fun (s : Int) (hs : s = 0 ∨ s = 1) => e_made (okP_nm hS ok hs)
  have Bd := fun (s : Int) (hs : s = 0 ∨ s = 1) => e_bounds (okP_nm hS ok hs) rfl
  have Ng := fun (s : Int) (hs : s = 0 ∨ s = 1) => e_negated (okP_nm hS ok hs) rfl
  have Bn := fun (s : Int) (hs : s = 0 ∨ s = 1) => e_bounds (neg_ok (okP_nm hS ok hs)) (neg_at (n := ⟨S, s, m, e, 0⟩) (show (0 : Nat) ≠ 2 by decide)).2.2.2.1
  have bdE : ∀ s : Int, bdD ⟨S, s, m, e, 0⟩ = bdD ⟨S, 0, m, e, 0⟩ := fun _ => rfl
  have bdN : ∀ s : Int, bdD (negN ⟨S, s, m, e, 0⟩) = bdD ⟨S, 0, m, e, 0⟩ := fun _ => rfl
  have Eu := e_up o0 (show (0 : Nat) ≠ 2 by decide)
  have rf := rank_fin o0 rfl
  have oU := (moved_ok o0 (show (0 : Nat) ≠ 2 by decide) (d := 1) (by have := rf.1; omega) (by have := rf.2; omega)).1
  have up := up_parts o0 rfl rfl
  have ul := up_lo o0 rfl rfl
  have sm := bd_small o0
  have p2 := hS.p2
  have p64 := hS.p64
  have Er : m_l_raised [.int 2, .int S.p] = .ret (.int (2 * S.fn)) := by rw [e_raised2 (by omega) (by omega), hS.full]
  have s0 : (⟨S, 0, m, e, 0⟩ : Nm).s = 0 := rfl
  have Ku := fun (z : (movedN ⟨S, 0, m, e, 0⟩ 1).Ok) => e_kind z
  have bU := fun (z : (movedN ⟨S, 0, m, e, 0⟩ 1).st = 0) => e_bounds oU z
  generalize movedN (⟨S, 0, m, e, 0⟩ : Nm) 1 = U at Eu Ku oU up ul bU
  simp only [m_l_right, b_l_right]
  generalize m_l_limits = L at El ⊢
  generalize m_l_made = Mm at Em ⊢
  generalize m_Number_up = Up at Eu ⊢
  generalize m_Number_negated = Ne at Ng ⊢
  generalize m_bounds = B at Bd Bn bU ⊢
  generalize m_l_raised = Rr at Er ⊢
  generalize m_Number_kind = Kd at Ku ⊢
  walk_at "dd"
  rw [El]
  walk_at "dd"
  rw [Rx]
  walk_at "dd"
  refine al_drawN (by omega) (by decide) (by decide) fun r m1 r0 r1 h1 => ?_
  have hs : r = 0 ∨ r = 1 := by omega
  rw [Em r hs]
  walk_at "dd"
  rw [Bd r hs, bdE]
  walk_at "dd"
  rw [Rx]
  walk_at "dd"
  rw [Ng r hs]
  walk_at "dd"
  rw [Bn r hs, bdN]
  walk_at "dd"
  rw [Rx]
  walk_at "dd"
  rw [Em 0 (.inl rfl)]
  walk_at "dd"
  rw [show gD_bounds_0_number [] [nmD ⟨S, 0, m, e, 0⟩] = [nmD ⟨S, 0, m, e, 0⟩] from rfl, Bd 0 (.inl rfl)]
  walk_at "dd"
  rw [Rx]
  walk_at "dd"
  rw [Eu]
  walk_at "dd"
  rw [Ku oU]
  walk_at "dd"
  dsimp only at up ul
  by_cases c : m + 1 = 2 * S.fn ∧ e = S.hi
  · rw [if_pos c] at up
    have k1 : kndS U = "infinite" := by rw [up]; rfl
    rw [if_pos k1, Er]
    walk_at "dd"
    rw [decide_eq_true ⟨by omega, c.2⟩]
    exact h m1 (by omega)
  · rw [if_neg c] at up
    have st : U.st = 0 := by rw [up]
    have k1 : ¬ (kndS U = "infinite") := fun z => by
      have := (kind_inf oU).mp z
      omega
    have ul := ul c
    rw [if_neg k1, bU st]
    have x1 : gIx (bdD U) (.int 0) = .ret (.tup [.int (twN (hiQ ⟨S, 0, m, e, 0⟩) (e - 2)), .int (twD (hiQ ⟨S, 0, m, e, 0⟩) (e - 2))]) := by
      rw [← ul.1, ← ul.2]
      rfl
    have x2 : gIx (bdD ⟨S, 0, m, e, 0⟩) (.int 1) = .ret (.tup [.int (twN (hiQ ⟨S, 0, m, e, 0⟩) (e - 2)), .int (twD (hiQ ⟨S, 0, m, e, 0⟩) (e - 2))]) := rfl
    have Rt := Classical.choose_spec (repr_two sm.2.2.1 sm.2.2.2)
    generalize Classical.choose (repr_two sm.2.2.1 sm.2.2.2) = t at Rt
    dsimp only at Rt
    walk_at "dd"
    rw [x1]
    walk_at "dd"
    rw [Rt]
    walk_at "dd"
    rw [x2]
    walk_at "dd"
    rw [Rt]
    walk_at "dd"
    exact h m1 (by omega)
theorem al_law {ns : List Int} (hl : ns.length ≤ 63) : (m_law [.lst (ns.map D.int)]).al no (fun d _ => d = .bl true) 10000 := by
  have eb : gBegun [.lst (ns.map D.int)] = .ret .mach := by
    show (match intsOf (ns.map D.int) with | some ns => if ns.length ≤ 63 then Tr.ret D.mach else .fail | none => .fail) = _
    rw [intsOf_ints]
    exact if_pos hl
  have Hf := fun (P : D → Nat → Prop) (n : Nat) => @al_form P n
  have Hp := fun (P : D → Nat → Prop) (S : Sh) (hS : S.Ok) (n : Nat) => @al_parts P S hS n
  have Hr := fun (P : D → Nat → Prop) (S : Sh) (hS : S.Ok) (m e : Int) (ok : okP S m e) (n : Nat) => @al_right P S hS m e ok n
  simp only [m_law, b_law]
  generalize hF : l_law_1 = F1
  walk_at "dd"
  rw [eb]
  walk_at "dd"
  refine al_bd (al_loop 30 (fun _ σ => ∃ x0 x2 x3, σ = [x0, some (.sh .mach), x2, x3]) _ 0 _ _ ⟨_, _, _, rfl⟩ ?_ ?_ ?_)
  · rintro i d σ n _ ⟨x0, x2, x3, rfl⟩ hn
    refine ⟨_, rfl, ?_⟩
    rw [← hF]
    simp only [l_law_1]
    generalize m_l_form = Mf at Hf ⊢
    generalize m_l_parts = Mp at Hp ⊢
    generalize m_l_right = Mr at Hr ⊢
    walk_at "dd"
    refine al_bd (Hf _ _ (by omega) fun S m1 hS k1 => ?_)
    walk_at "dd"
    refine al_bd (Hp _ S hS _ (by omega) fun a e m2 ok k2 => ?_)
    walk_at "dd"
    refine al_bd (Hr _ S hS a e ok _ (by omega) fun m3 k3 => ?_)
    walk_at "dd"
    exact ⟨by omega, _, rfl, _, _, _, rfl⟩
  · rintro σ m ⟨x0, x2, x3, rfl⟩ hm
    walk_at "dd"
    rfl
  · rw [intsD_len]
    decide
end K30

set_option Elab.async false
set_option linter.all false
set_option maxRecDepth 100000
set_option maxHeartbeats 4000000
namespace K30
open PySem PySem.Spec PyProof.Rows L2 L3 Dw
local macro_rules | `(tactic| walk_at "bd") => `(tactic| repeat' (first
  | with_reducible refine wpAny_pure ?_ | with_reducible refine wpAny_bind ?_ | with_reducible refine wpAny_rule ?_
  | with_reducible refine Dfl.go (by assumption) (by assumption) ?_ | with_reducible refine no_go ?_
  | with_reducible refine PySem.W.Looks.here (PySem.W.looks_nsIn (by assumption) (by assumption)) ?_
  | with_reducible refine bd_ifF rfl ?_ | with_reducible refine bd_ifT rfl ?_ | with_reducible refine bd_cons rfl ?_ | with_reducible refine bd_nil rfl ?_
  | assumption
  | dsimp only))
theorem all_mk {l : PySem.W.OpenLaw} {w : World} {K : PySem.W.Frag} {h : Heap} {mg : Str → Option Value} {fa f__law_mixed f__law_draw f__law_raised f__law_by_ten f__law_great f__law_parts f_by_twos C_Number f_Number_shape f_first_normal f_Number_parts f_quarters f_want_number f_want_finite f_bounds f__law_halves f__law_limits f_Number_kind f_is_whole f_want_whole f_is_shape f_want_shape f_Number___init__ dt_Number___init__ kd_Number___init__ a_DOUBLE f_last_rank f_infinite dt_infinite kd_infinite f_by_steps f_by_rank dt_by_rank f_Number_sign f_steps_from_zero f_Number_rank f_moved f_Number_up f__law_made f_Number_negated f__law_right f__law_form f__law_folded f__law_begun f_law : Addr} (X : K.In h) (G : h.Ns mainGlobals mg) (hfa : mg "law" = some (.ref fa))
    (z_range : PySem.W.nsIn K mainGlobals "range" = some none)
    (z_len : PySem.W.nsIn K mainGlobals "len" = some none)
    (a__law_mixed : PySem.W.nsIn K mainGlobals "_law_mixed" = some (some (.ref f__law_mixed)))
    {od__law_mixed an__law_mixed : Option Addr} {sl__law_mixed : Array (Option Value)} {oc__law_mixed dc__law_mixed pm__law_mixed cd__law_mixed ct__law_mixed : Value} {kV__law_mixed : Value} (l__law_mixed : K.lookup f__law_mixed = some ⟨oc__law_mixed, od__law_mixed, .func (PySem.W.fnOf "_law_mixed" "_law_mixed" (defArgs st_l_mixed) (defBody st_l_mixed) (defScope st_l_mixed) .none kV__law_mixed dc__law_mixed pm__law_mixed an__law_mixed cd__law_mixed ct__law_mixed), sl__law_mixed⟩)
    (c__law_mixed : PySem.W.codeIn K cd__law_mixed "_law_mixed" = true)
    (k__law_mixed : PySem.W.keepIn K (.ref f__law_mixed) = true)
    (a__law_draw : PySem.W.nsIn K mainGlobals "_law_draw" = some (some (.ref f__law_draw)))
    {od__law_draw an__law_draw : Option Addr} {sl__law_draw : Array (Option Value)} {oc__law_draw dc__law_draw pm__law_draw cd__law_draw ct__law_draw : Value} {kV__law_draw : Value} (l__law_draw : K.lookup f__law_draw = some ⟨oc__law_draw, od__law_draw, .func (PySem.W.fnOf "_law_draw" "_law_draw" (defArgs st_l_draw) (defBody st_l_draw) (defScope st_l_draw) .none kV__law_draw dc__law_draw pm__law_draw an__law_draw cd__law_draw ct__law_draw), sl__law_draw⟩)
    (c__law_draw : PySem.W.codeIn K cd__law_draw "_law_draw" = true)
    (k__law_draw : PySem.W.keepIn K (.ref f__law_draw) = true)
    (z_min : PySem.W.nsIn K mainGlobals "min" = some none)
    (z_max : PySem.W.nsIn K mainGlobals "max" = some none)
    (a__law_raised : PySem.W.nsIn K mainGlobals "_law_raised" = some (some (.ref f__law_raised)))
    {od__law_raised an__law_raised : Option Addr} {sl__law_raised : Array (Option Value)} {oc__law_raised dc__law_raised pm__law_raised cd__law_raised ct__law_raised : Value} {kV__law_raised : Value} (l__law_raised : K.lookup f__law_raised = some ⟨oc__law_raised, od__law_raised, .func (PySem.W.fnOf "_law_raised" "_law_raised" (defArgs st_l_raised) (defBody st_l_raised) (defScope st_l_raised) .none kV__law_raised dc__law_raised pm__law_raised an__law_raised cd__law_raised ct__law_raised), sl__law_raised⟩)
    (c__law_raised : PySem.W.codeIn K cd__law_raised "_law_raised" = true)
    (k__law_raised : PySem.W.keepIn K (.ref f__law_raised) = true)
    (a__law_by_ten : PySem.W.nsIn K mainGlobals "_law_by_ten" = some (some (.ref f__law_by_ten)))
    {od__law_by_ten an__law_by_ten : Option Addr} {sl__law_by_ten : Array (Option Value)} {oc__law_by_ten dc__law_by_ten pm__law_by_ten cd__law_by_ten ct__law_by_ten : Value} {kV__law_by_ten : Value} (l__law_by_ten : K.lookup f__law_by_ten = some ⟨oc__law_by_ten, od__law_by_ten, .func (PySem.W.fnOf "_law_by_ten" "_law_by_ten" (defArgs st_l_by_ten) (defBody st_l_by_ten) (defScope st_l_by_ten) .none kV__law_by_ten dc__law_by_ten pm__law_by_ten an__law_by_ten cd__law_by_ten ct__law_by_ten), sl__law_by_ten⟩)
    (c__law_by_ten : PySem.W.codeIn K cd__law_by_ten "_law_by_ten" = true)
    (k__law_by_ten : PySem.W.keepIn K (.ref f__law_by_ten) = true)
    (a__law_great : PySem.W.nsIn K mainGlobals "_law_great" = some (some (.ref f__law_great)))
    {od__law_great an__law_great : Option Addr} {sl__law_great : Array (Option Value)} {oc__law_great dc__law_great pm__law_great cd__law_great ct__law_great : Value} {kV__law_great : Value} (l__law_great : K.lookup f__law_great = some ⟨oc__law_great, od__law_great, .func (PySem.W.fnOf "_law_great" "_law_great" (defArgs st_l_great) (defBody st_l_great) (defScope st_l_great) .none kV__law_great dc__law_great pm__law_great an__law_great cd__law_great ct__law_great), sl__law_great⟩)
    (c__law_great : PySem.W.codeIn K cd__law_great "_law_great" = true)
    (k__law_great : PySem.W.keepIn K (.ref f__law_great) = true)
    (a__law_parts : PySem.W.nsIn K mainGlobals "_law_parts" = some (some (.ref f__law_parts)))
    {od__law_parts an__law_parts : Option Addr} {sl__law_parts : Array (Option Value)} {oc__law_parts dc__law_parts pm__law_parts cd__law_parts ct__law_parts : Value} {kV__law_parts : Value} (l__law_parts : K.lookup f__law_parts = some ⟨oc__law_parts, od__law_parts, .func (PySem.W.fnOf "_law_parts" "_law_parts" (defArgs st_l_parts) (defBody st_l_parts) (defScope st_l_parts) .none kV__law_parts dc__law_parts pm__law_parts an__law_parts cd__law_parts ct__law_parts), sl__law_parts⟩)
    (c__law_parts : PySem.W.codeIn K cd__law_parts "_law_parts" = true)
    (k__law_parts : PySem.W.keepIn K (.ref f__law_parts) = true)
    (a_by_twos : PySem.W.nsIn K mainGlobals "by_twos" = some (some (.ref f_by_twos)))
    {od_by_twos an_by_twos : Option Addr} {sl_by_twos : Array (Option Value)} {oc_by_twos dc_by_twos pm_by_twos cd_by_twos ct_by_twos : Value} {kV_by_twos : Value} (l_by_twos : K.lookup f_by_twos = some ⟨oc_by_twos, od_by_twos, .func (PySem.W.fnOf "by_twos" "by_twos" (defArgs st_by_twos) (defBody st_by_twos) (defScope st_by_twos) .none kV_by_twos dc_by_twos pm_by_twos an_by_twos cd_by_twos ct_by_twos), sl_by_twos⟩)
    (c_by_twos : PySem.W.codeIn K cd_by_twos "by_twos" = true)
    (k_by_twos : PySem.W.keepIn K (.ref f_by_twos) = true)
    (a_Number : PySem.W.nsIn K mainGlobals "Number" = some (some (.ref C_Number)))
    (pg_Number : PySem.W.plainGet K C_Number Str.empty = true)
    (hd_Number : PySem.W.hasDictIn K C_Number = true)
    (po_Number : PySem.W.plainOver K C_Number = true)
    (sa_Number : PySem.W.findIn K (.ref C_Number) "__setattr__" = some (some (.builtin "object.__setattr__")))
    (n_Number_own_shape : PySem.W.findIn K (.ref C_Number) "own_shape" = some none)
    (n_Number_own_sign : PySem.W.findIn K (.ref C_Number) "own_sign" = some none)
    (n_Number_own_significand : PySem.W.findIn K (.ref C_Number) "own_significand" = some none)
    (n_Number_own_exponent : PySem.W.findIn K (.ref C_Number) "own_exponent" = some none)
    (n_Number_state : PySem.W.findIn K (.ref C_Number) "state" = some none)
    (ha_Number : PySem.W.findIn K (.ref C_Number) "__class__" = some (some (.builtin "object.__class__")))
    (c_hn : PySem.W.specialIn K (.builtin "object.__class__") "__get__" = some (some (.builtin "getset_descriptor.__get__")))
    (c_htk : PySem.W.takesIn K (.builtin "object.__class__") = some true)
    (hm_Number : PySem.W.mroIn K C_Number (.type "object") = some true)
    (mk_Number : PySem.W.makesIn K C_Number = true)
    (kp_Number : PySem.W.keepIn K (.ref C_Number) = true)
    (a_Number_shape : PySem.W.findIn K (.ref C_Number) "shape" = some (some (.ref f_Number_shape)))
    (i_Number_shape : PySem.W.isFn K (.ref f_Number_shape) = true)
    {od_Number_shape an_Number_shape : Option Addr} {sl_Number_shape : Array (Option Value)} {oc_Number_shape dc_Number_shape pm_Number_shape cd_Number_shape ct_Number_shape : Value} {kV_Number_shape : Value} (l_Number_shape : K.lookup f_Number_shape = some ⟨oc_Number_shape, od_Number_shape, .func (PySem.W.fnOf "shape" "Number.shape" (defArgs st_Number_shape) (defBody st_Number_shape) (defScope st_Number_shape) .none kV_Number_shape dc_Number_shape pm_Number_shape an_Number_shape cd_Number_shape ct_Number_shape), sl_Number_shape⟩)
    (c_Number_shape : PySem.W.codeIn K cd_Number_shape "Number.shape" = true)
    (k_Number_shape : PySem.W.keepIn K (.ref f_Number_shape) = true)
    (a_first_normal : PySem.W.nsIn K mainGlobals "first_normal" = some (some (.ref f_first_normal)))
    {od_first_normal an_first_normal : Option Addr} {sl_first_normal : Array (Option Value)} {oc_first_normal dc_first_normal pm_first_normal cd_first_normal ct_first_normal : Value} {kV_first_normal : Value} (l_first_normal : K.lookup f_first_normal = some ⟨oc_first_normal, od_first_normal, .func (PySem.W.fnOf "first_normal" "first_normal" (defArgs st_first_normal) (defBody st_first_normal) (defScope st_first_normal) .none kV_first_normal dc_first_normal pm_first_normal an_first_normal cd_first_normal ct_first_normal), sl_first_normal⟩)
    (c_first_normal : PySem.W.codeIn K cd_first_normal "first_normal" = true)
    (k_first_normal : PySem.W.keepIn K (.ref f_first_normal) = true)
    {gt_FINITE : Tok} (g_FINITE : PySem.W.nsIn K mainGlobals "FINITE" = some (some (.str "finite" gt_FINITE)))
    (a_Number_parts : PySem.W.findIn K (.ref C_Number) "parts" = some (some (.ref f_Number_parts)))
    (i_Number_parts : PySem.W.isFn K (.ref f_Number_parts) = true)
    {od_Number_parts an_Number_parts : Option Addr} {sl_Number_parts : Array (Option Value)} {oc_Number_parts dc_Number_parts pm_Number_parts cd_Number_parts ct_Number_parts : Value} {kV_Number_parts : Value} (l_Number_parts : K.lookup f_Number_parts = some ⟨oc_Number_parts, od_Number_parts, .func (PySem.W.fnOf "parts" "Number.parts" (defArgs st_Number_parts) (defBody st_Number_parts) (defScope st_Number_parts) .none kV_Number_parts dc_Number_parts pm_Number_parts an_Number_parts cd_Number_parts ct_Number_parts), sl_Number_parts⟩)
    (c_Number_parts : PySem.W.codeIn K cd_Number_parts "Number.parts" = true)
    (k_Number_parts : PySem.W.keepIn K (.ref f_Number_parts) = true)
    (a_quarters : PySem.W.nsIn K mainGlobals "quarters" = some (some (.ref f_quarters)))
    {od_quarters an_quarters : Option Addr} {sl_quarters : Array (Option Value)} {oc_quarters dc_quarters pm_quarters cd_quarters ct_quarters : Value} {kV_quarters : Value} (l_quarters : K.lookup f_quarters = some ⟨oc_quarters, od_quarters, .func (PySem.W.fnOf "quarters" "quarters" (defArgs st_quarters) (defBody st_quarters) (defScope st_quarters) .none kV_quarters dc_quarters pm_quarters an_quarters cd_quarters ct_quarters), sl_quarters⟩)
    (c_quarters : PySem.W.codeIn K cd_quarters "quarters" = true)
    (k_quarters : PySem.W.keepIn K (.ref f_quarters) = true)
    (cb_Number_NoneType : PySem.W.kitOne K (.ref C_Number) (.type "NoneType") = some false)
    (bc_Number_NoneType : PySem.W.kitOne K (.type "NoneType") (.ref C_Number) = some false)
    (cb_Number_bool : PySem.W.kitOne K (.ref C_Number) (.type "bool") = some false)
    (bc_Number_bool : PySem.W.kitOne K (.type "bool") (.ref C_Number) = some false)
    (cb_Number_int : PySem.W.kitOne K (.ref C_Number) (.type "int") = some false)
    (bc_Number_int : PySem.W.kitOne K (.type "int") (.ref C_Number) = some false)
    (cb_Number_str : PySem.W.kitOne K (.ref C_Number) (.type "str") = some false)
    (bc_Number_str : PySem.W.kitOne K (.type "str") (.ref C_Number) = some false)
    (cb_Number_list : PySem.W.kitOne K (.ref C_Number) (.type "list") = some false)
    (bc_Number_list : PySem.W.kitOne K (.type "list") (.ref C_Number) = some false)
    (cb_Number_tuple : PySem.W.kitOne K (.ref C_Number) (.type "tuple") = some false)
    (bc_Number_tuple : PySem.W.kitOne K (.type "tuple") (.ref C_Number) = some false)
    (cb_Number_dict : PySem.W.kitOne K (.ref C_Number) (.type "dict") = some false)
    (bc_Number_dict : PySem.W.kitOne K (.type "dict") (.ref C_Number) = some false)
    (z_isinstance : PySem.W.nsIn K mainGlobals "isinstance" = some none)
    (a_want_number : PySem.W.nsIn K mainGlobals "want_number" = some (some (.ref f_want_number)))
    {od_want_number an_want_number : Option Addr} {sl_want_number : Array (Option Value)} {oc_want_number dc_want_number pm_want_number cd_want_number ct_want_number : Value} {kV_want_number : Value} (l_want_number : K.lookup f_want_number = some ⟨oc_want_number, od_want_number, .func (PySem.W.fnOf "want_number" "want_number" (defArgs st_want_number) (defBody st_want_number) (defScope st_want_number) .none kV_want_number dc_want_number pm_want_number an_want_number cd_want_number ct_want_number), sl_want_number⟩)
    (c_want_number : PySem.W.codeIn K cd_want_number "want_number" = true)
    (k_want_number : PySem.W.keepIn K (.ref f_want_number) = true)
    (a_want_finite : PySem.W.nsIn K mainGlobals "want_finite" = some (some (.ref f_want_finite)))
    {od_want_finite an_want_finite : Option Addr} {sl_want_finite : Array (Option Value)} {oc_want_finite dc_want_finite pm_want_finite cd_want_finite ct_want_finite : Value} {kV_want_finite : Value} (l_want_finite : K.lookup f_want_finite = some ⟨oc_want_finite, od_want_finite, .func (PySem.W.fnOf "want_finite" "want_finite" (defArgs st_want_finite) (defBody st_want_finite) (defScope st_want_finite) .none kV_want_finite dc_want_finite pm_want_finite an_want_finite cd_want_finite ct_want_finite), sl_want_finite⟩)
    (c_want_finite : PySem.W.codeIn K cd_want_finite "want_finite" = true)
    (k_want_finite : PySem.W.keepIn K (.ref f_want_finite) = true)
    (a_bounds : PySem.W.nsIn K mainGlobals "bounds" = some (some (.ref f_bounds)))
    {od_bounds an_bounds : Option Addr} {sl_bounds : Array (Option Value)} {oc_bounds dc_bounds pm_bounds cd_bounds ct_bounds : Value} {kV_bounds : Value} (l_bounds : K.lookup f_bounds = some ⟨oc_bounds, od_bounds, .func (PySem.W.fnOf "bounds" "bounds" (defArgs st_bounds) (defBody st_bounds) (defScope st_bounds) .none kV_bounds dc_bounds pm_bounds an_bounds cd_bounds ct_bounds), sl_bounds⟩)
    (c_bounds : PySem.W.codeIn K cd_bounds "bounds" = true)
    (k_bounds : PySem.W.keepIn K (.ref f_bounds) = true)
    (z_repr : PySem.W.nsIn K mainGlobals "repr" = some none)
    (a__law_halves : PySem.W.nsIn K mainGlobals "_law_halves" = some (some (.ref f__law_halves)))
    {od__law_halves an__law_halves : Option Addr} {sl__law_halves : Array (Option Value)} {oc__law_halves dc__law_halves pm__law_halves cd__law_halves ct__law_halves : Value} {kV__law_halves : Value} (l__law_halves : K.lookup f__law_halves = some ⟨oc__law_halves, od__law_halves, .func (PySem.W.fnOf "_law_halves" "_law_halves" (defArgs st_l_halves) (defBody st_l_halves) (defScope st_l_halves) .none kV__law_halves dc__law_halves pm__law_halves an__law_halves cd__law_halves ct__law_halves), sl__law_halves⟩)
    (c__law_halves : PySem.W.codeIn K cd__law_halves "_law_halves" = true)
    (k__law_halves : PySem.W.keepIn K (.ref f__law_halves) = true)
    (a__law_limits : PySem.W.nsIn K mainGlobals "_law_limits" = some (some (.ref f__law_limits)))
    {od__law_limits an__law_limits : Option Addr} {sl__law_limits : Array (Option Value)} {oc__law_limits dc__law_limits pm__law_limits cd__law_limits ct__law_limits : Value} {kV__law_limits : Value} (l__law_limits : K.lookup f__law_limits = some ⟨oc__law_limits, od__law_limits, .func (PySem.W.fnOf "_law_limits" "_law_limits" (defArgs st_l_limits) (defBody st_l_limits) (defScope st_l_limits) .none kV__law_limits dc__law_limits pm__law_limits an__law_limits cd__law_limits ct__law_limits), sl__law_limits⟩)
    (c__law_limits : PySem.W.codeIn K cd__law_limits "_law_limits" = true)
    (k__law_limits : PySem.W.keepIn K (.ref f__law_limits) = true)
    (a_Number_kind : PySem.W.findIn K (.ref C_Number) "kind" = some (some (.ref f_Number_kind)))
    (i_Number_kind : PySem.W.isFn K (.ref f_Number_kind) = true)
    {od_Number_kind an_Number_kind : Option Addr} {sl_Number_kind : Array (Option Value)} {oc_Number_kind dc_Number_kind pm_Number_kind cd_Number_kind ct_Number_kind : Value} {kV_Number_kind : Value} (l_Number_kind : K.lookup f_Number_kind = some ⟨oc_Number_kind, od_Number_kind, .func (PySem.W.fnOf "kind" "Number.kind" (defArgs st_Number_kind) (defBody st_Number_kind) (defScope st_Number_kind) .none kV_Number_kind dc_Number_kind pm_Number_kind an_Number_kind cd_Number_kind ct_Number_kind), sl_Number_kind⟩)
    (c_Number_kind : PySem.W.codeIn K cd_Number_kind "Number.kind" = true)
    (k_Number_kind : PySem.W.keepIn K (.ref f_Number_kind) = true)
    (z_abs : PySem.W.nsIn K mainGlobals "abs" = some none)
    (z_bool : PySem.W.nsIn K mainGlobals "bool" = some none)
    (z_int : PySem.W.nsIn K mainGlobals "int" = some none)
    (a_is_whole : PySem.W.nsIn K mainGlobals "is_whole" = some (some (.ref f_is_whole)))
    {od_is_whole an_is_whole : Option Addr} {sl_is_whole : Array (Option Value)} {oc_is_whole dc_is_whole pm_is_whole cd_is_whole ct_is_whole : Value} {kV_is_whole : Value} (l_is_whole : K.lookup f_is_whole = some ⟨oc_is_whole, od_is_whole, .func (PySem.W.fnOf "is_whole" "is_whole" (defArgs st_is_whole) (defBody st_is_whole) (defScope st_is_whole) .none kV_is_whole dc_is_whole pm_is_whole an_is_whole cd_is_whole ct_is_whole), sl_is_whole⟩)
    (c_is_whole : PySem.W.codeIn K cd_is_whole "is_whole" = true)
    (k_is_whole : PySem.W.keepIn K (.ref f_is_whole) = true)
    (a_want_whole : PySem.W.nsIn K mainGlobals "want_whole" = some (some (.ref f_want_whole)))
    {od_want_whole an_want_whole : Option Addr} {sl_want_whole : Array (Option Value)} {oc_want_whole dc_want_whole pm_want_whole cd_want_whole ct_want_whole : Value} {kV_want_whole : Value} (l_want_whole : K.lookup f_want_whole = some ⟨oc_want_whole, od_want_whole, .func (PySem.W.fnOf "want_whole" "want_whole" (defArgs st_want_whole) (defBody st_want_whole) (defScope st_want_whole) .none kV_want_whole dc_want_whole pm_want_whole an_want_whole cd_want_whole ct_want_whole), sl_want_whole⟩)
    (c_want_whole : PySem.W.codeIn K cd_want_whole "want_whole" = true)
    (k_want_whole : PySem.W.keepIn K (.ref f_want_whole) = true)
    {gi_LOW_LEAST : Int} {gt_LOW_LEAST : Tok} (g_LOW_LEAST : PySem.W.nsIn K mainGlobals "LOW_LEAST" = some (some (.int gi_LOW_LEAST gt_LOW_LEAST)))
    (v_LOW_LEAST : gi_LOW_LEAST = -1100)
    (z_tuple : PySem.W.nsIn K mainGlobals "tuple" = some none)
    (a_is_shape : PySem.W.nsIn K mainGlobals "is_shape" = some (some (.ref f_is_shape)))
    {od_is_shape an_is_shape : Option Addr} {sl_is_shape : Array (Option Value)} {oc_is_shape dc_is_shape pm_is_shape cd_is_shape ct_is_shape : Value} {kV_is_shape : Value} (l_is_shape : K.lookup f_is_shape = some ⟨oc_is_shape, od_is_shape, .func (PySem.W.fnOf "is_shape" "is_shape" (defArgs st_is_shape) (defBody st_is_shape) (defScope st_is_shape) .none kV_is_shape dc_is_shape pm_is_shape an_is_shape cd_is_shape ct_is_shape), sl_is_shape⟩)
    (c_is_shape : PySem.W.codeIn K cd_is_shape "is_shape" = true)
    (k_is_shape : PySem.W.keepIn K (.ref f_is_shape) = true)
    (a_want_shape : PySem.W.nsIn K mainGlobals "want_shape" = some (some (.ref f_want_shape)))
    {od_want_shape an_want_shape : Option Addr} {sl_want_shape : Array (Option Value)} {oc_want_shape dc_want_shape pm_want_shape cd_want_shape ct_want_shape : Value} {kV_want_shape : Value} (l_want_shape : K.lookup f_want_shape = some ⟨oc_want_shape, od_want_shape, .func (PySem.W.fnOf "want_shape" "want_shape" (defArgs st_want_shape) (defBody st_want_shape) (defScope st_want_shape) .none kV_want_shape dc_want_shape pm_want_shape an_want_shape cd_want_shape ct_want_shape), sl_want_shape⟩)
    (c_want_shape : PySem.W.codeIn K cd_want_shape "want_shape" = true)
    (k_want_shape : PySem.W.keepIn K (.ref f_want_shape) = true)
    (a_Number___init__ : PySem.W.findIn K (.ref C_Number) "__init__" = some (some (.ref f_Number___init__)))
    (i_Number___init__ : PySem.W.isFn K (.ref f_Number___init__) = true)
    {od_Number___init__ an_Number___init__ : Option Addr} {sl_Number___init__ : Array (Option Value)} {oc_Number___init__ dc_Number___init__ pm_Number___init__ cd_Number___init__ ct_Number___init__ : Value} (l_Number___init__ : K.lookup f_Number___init__ = some ⟨oc_Number___init__, od_Number___init__, .func (PySem.W.fnOf "__init__" "Number.__init__" (defArgs st_Number_init) (defBody st_Number_init) (defScope st_Number_init) (.ref dt_Number___init__) (.ref kd_Number___init__) dc_Number___init__ pm_Number___init__ an_Number___init__ cd_Number___init__ ct_Number___init__), sl_Number___init__⟩)
    (c_Number___init__ : PySem.W.codeIn K cd_Number___init__ "Number.__init__" = true)
    (k_Number___init__ : PySem.W.keepIn K (.ref f_Number___init__) = true)
    (r_DOUBLE : PySem.W.nsIn K mainGlobals "DOUBLE" = some (some (.ref a_DOUBLE)))
    {to_Number___init__ : Option Addr} {tn_Number___init__ : Nat} {ts_Number___init__ : Array (Option Value)} (t_Number___init__ : K.lookup dt_Number___init__ = some ⟨.type "tuple", to_Number___init__, .seq #[.ref a_DOUBLE] tn_Number___init__, ts_Number___init__⟩)
    {tk_Number___init___sign : Tok} (w_Number___init___sign : PySem.W.nsIn K kd_Number___init__ "sign" = some (some (.int 0 tk_Number___init___sign)))
    {tk_Number___init___significand : Tok} (w_Number___init___significand : PySem.W.nsIn K kd_Number___init__ "significand" = some (some (.int 0 tk_Number___init___significand)))
    (w_Number___init___exponent : PySem.W.nsIn K kd_Number___init__ "exponent" = some (some (.none)))
    (a_last_rank : PySem.W.nsIn K mainGlobals "last_rank" = some (some (.ref f_last_rank)))
    {od_last_rank an_last_rank : Option Addr} {sl_last_rank : Array (Option Value)} {oc_last_rank dc_last_rank pm_last_rank cd_last_rank ct_last_rank : Value} {kV_last_rank : Value} (l_last_rank : K.lookup f_last_rank = some ⟨oc_last_rank, od_last_rank, .func (PySem.W.fnOf "last_rank" "last_rank" (defArgs st_last_rank) (defBody st_last_rank) (defScope st_last_rank) .none kV_last_rank dc_last_rank pm_last_rank an_last_rank cd_last_rank ct_last_rank), sl_last_rank⟩)
    (c_last_rank : PySem.W.codeIn K cd_last_rank "last_rank" = true)
    (k_last_rank : PySem.W.keepIn K (.ref f_last_rank) = true)
    {gt_INFINITE : Tok} (g_INFINITE : PySem.W.nsIn K mainGlobals "INFINITE" = some (some (.str "infinite" gt_INFINITE)))
    (a_infinite : PySem.W.nsIn K mainGlobals "infinite" = some (some (.ref f_infinite)))
    {od_infinite an_infinite : Option Addr} {sl_infinite : Array (Option Value)} {oc_infinite dc_infinite pm_infinite cd_infinite ct_infinite : Value} (l_infinite : K.lookup f_infinite = some ⟨oc_infinite, od_infinite, .func (PySem.W.fnOf "infinite" "infinite" (defArgs st_infinite) (defBody st_infinite) (defScope st_infinite) (.ref dt_infinite) (.ref kd_infinite) dc_infinite pm_infinite an_infinite cd_infinite ct_infinite), sl_infinite⟩)
    (c_infinite : PySem.W.codeIn K cd_infinite "infinite" = true)
    (k_infinite : PySem.W.keepIn K (.ref f_infinite) = true)
    {to_infinite : Option Addr} {tn_infinite : Nat} {ts_infinite : Array (Option Value)} (t_infinite : K.lookup dt_infinite = some ⟨.type "tuple", to_infinite, .seq #[.ref a_DOUBLE] tn_infinite, ts_infinite⟩)
    {tk_infinite_sign : Tok} (w_infinite_sign : PySem.W.nsIn K kd_infinite "sign" = some (some (.int 0 tk_infinite_sign)))
    (a_by_steps : PySem.W.nsIn K mainGlobals "by_steps" = some (some (.ref f_by_steps)))
    {od_by_steps an_by_steps : Option Addr} {sl_by_steps : Array (Option Value)} {oc_by_steps dc_by_steps pm_by_steps cd_by_steps ct_by_steps : Value} {kV_by_steps : Value} (l_by_steps : K.lookup f_by_steps = some ⟨oc_by_steps, od_by_steps, .func (PySem.W.fnOf "by_steps" "by_steps" (defArgs st_by_steps) (defBody st_by_steps) (defScope st_by_steps) .none kV_by_steps dc_by_steps pm_by_steps an_by_steps cd_by_steps ct_by_steps), sl_by_steps⟩)
    (c_by_steps : PySem.W.codeIn K cd_by_steps "by_steps" = true)
    (k_by_steps : PySem.W.keepIn K (.ref f_by_steps) = true)
    (a_by_rank : PySem.W.nsIn K mainGlobals "by_rank" = some (some (.ref f_by_rank)))
    {od_by_rank an_by_rank : Option Addr} {sl_by_rank : Array (Option Value)} {oc_by_rank dc_by_rank pm_by_rank cd_by_rank ct_by_rank : Value} {kV_by_rank : Value} (l_by_rank : K.lookup f_by_rank = some ⟨oc_by_rank, od_by_rank, .func (PySem.W.fnOf "by_rank" "by_rank" (defArgs st_by_rank) (defBody st_by_rank) (defScope st_by_rank) (.ref dt_by_rank) kV_by_rank dc_by_rank pm_by_rank an_by_rank cd_by_rank ct_by_rank), sl_by_rank⟩)
    (c_by_rank : PySem.W.codeIn K cd_by_rank "by_rank" = true)
    (k_by_rank : PySem.W.keepIn K (.ref f_by_rank) = true)
    {to_by_rank : Option Addr} {tn_by_rank : Nat} {ts_by_rank : Array (Option Value)} (t_by_rank : K.lookup dt_by_rank = some ⟨.type "tuple", to_by_rank, .seq #[.ref a_DOUBLE] tn_by_rank, ts_by_rank⟩)
    (a_Number_sign : PySem.W.findIn K (.ref C_Number) "sign" = some (some (.ref f_Number_sign)))
    (i_Number_sign : PySem.W.isFn K (.ref f_Number_sign) = true)
    {od_Number_sign an_Number_sign : Option Addr} {sl_Number_sign : Array (Option Value)} {oc_Number_sign dc_Number_sign pm_Number_sign cd_Number_sign ct_Number_sign : Value} {kV_Number_sign : Value} (l_Number_sign : K.lookup f_Number_sign = some ⟨oc_Number_sign, od_Number_sign, .func (PySem.W.fnOf "sign" "Number.sign" (defArgs st_Number_sign) (defBody st_Number_sign) (defScope st_Number_sign) .none kV_Number_sign dc_Number_sign pm_Number_sign an_Number_sign cd_Number_sign ct_Number_sign), sl_Number_sign⟩)
    (c_Number_sign : PySem.W.codeIn K cd_Number_sign "Number.sign" = true)
    (k_Number_sign : PySem.W.keepIn K (.ref f_Number_sign) = true)
    (a_steps_from_zero : PySem.W.nsIn K mainGlobals "steps_from_zero" = some (some (.ref f_steps_from_zero)))
    {od_steps_from_zero an_steps_from_zero : Option Addr} {sl_steps_from_zero : Array (Option Value)} {oc_steps_from_zero dc_steps_from_zero pm_steps_from_zero cd_steps_from_zero ct_steps_from_zero : Value} {kV_steps_from_zero : Value} (l_steps_from_zero : K.lookup f_steps_from_zero = some ⟨oc_steps_from_zero, od_steps_from_zero, .func (PySem.W.fnOf "steps_from_zero" "steps_from_zero" (defArgs st_steps_from_zero) (defBody st_steps_from_zero) (defScope st_steps_from_zero) .none kV_steps_from_zero dc_steps_from_zero pm_steps_from_zero an_steps_from_zero cd_steps_from_zero ct_steps_from_zero), sl_steps_from_zero⟩)
    (c_steps_from_zero : PySem.W.codeIn K cd_steps_from_zero "steps_from_zero" = true)
    (k_steps_from_zero : PySem.W.keepIn K (.ref f_steps_from_zero) = true)
    {gt_NAN : Tok} (g_NAN : PySem.W.nsIn K mainGlobals "NAN" = some (some (.str "nan" gt_NAN)))
    (a_Number_rank : PySem.W.findIn K (.ref C_Number) "rank" = some (some (.ref f_Number_rank)))
    (i_Number_rank : PySem.W.isFn K (.ref f_Number_rank) = true)
    {od_Number_rank an_Number_rank : Option Addr} {sl_Number_rank : Array (Option Value)} {oc_Number_rank dc_Number_rank pm_Number_rank cd_Number_rank ct_Number_rank : Value} {kV_Number_rank : Value} (l_Number_rank : K.lookup f_Number_rank = some ⟨oc_Number_rank, od_Number_rank, .func (PySem.W.fnOf "rank" "Number.rank" (defArgs st_Number_rank) (defBody st_Number_rank) (defScope st_Number_rank) .none kV_Number_rank dc_Number_rank pm_Number_rank an_Number_rank cd_Number_rank ct_Number_rank), sl_Number_rank⟩)
    (c_Number_rank : PySem.W.codeIn K cd_Number_rank "Number.rank" = true)
    (k_Number_rank : PySem.W.keepIn K (.ref f_Number_rank) = true)
    (a_moved : PySem.W.nsIn K mainGlobals "moved" = some (some (.ref f_moved)))
    {od_moved an_moved : Option Addr} {sl_moved : Array (Option Value)} {oc_moved dc_moved pm_moved cd_moved ct_moved : Value} {kV_moved : Value} (l_moved : K.lookup f_moved = some ⟨oc_moved, od_moved, .func (PySem.W.fnOf "moved" "moved" (defArgs st_moved) (defBody st_moved) (defScope st_moved) .none kV_moved dc_moved pm_moved an_moved cd_moved ct_moved), sl_moved⟩)
    (c_moved : PySem.W.codeIn K cd_moved "moved" = true)
    (k_moved : PySem.W.keepIn K (.ref f_moved) = true)
    (a_Number_up : PySem.W.findIn K (.ref C_Number) "up" = some (some (.ref f_Number_up)))
    (i_Number_up : PySem.W.isFn K (.ref f_Number_up) = true)
    {od_Number_up an_Number_up : Option Addr} {sl_Number_up : Array (Option Value)} {oc_Number_up dc_Number_up pm_Number_up cd_Number_up ct_Number_up : Value} {kV_Number_up : Value} (l_Number_up : K.lookup f_Number_up = some ⟨oc_Number_up, od_Number_up, .func (PySem.W.fnOf "up" "Number.up" (defArgs st_Number_up) (defBody st_Number_up) (defScope st_Number_up) .none kV_Number_up dc_Number_up pm_Number_up an_Number_up cd_Number_up ct_Number_up), sl_Number_up⟩)
    (c_Number_up : PySem.W.codeIn K cd_Number_up "Number.up" = true)
    (k_Number_up : PySem.W.keepIn K (.ref f_Number_up) = true)
    (a__law_made : PySem.W.nsIn K mainGlobals "_law_made" = some (some (.ref f__law_made)))
    {od__law_made an__law_made : Option Addr} {sl__law_made : Array (Option Value)} {oc__law_made dc__law_made pm__law_made cd__law_made ct__law_made : Value} {kV__law_made : Value} (l__law_made : K.lookup f__law_made = some ⟨oc__law_made, od__law_made, .func (PySem.W.fnOf "_law_made" "_law_made" (defArgs st_l_made) (defBody st_l_made) (defScope st_l_made) .none kV__law_made dc__law_made pm__law_made an__law_made cd__law_made ct__law_made), sl__law_made⟩)
    (c__law_made : PySem.W.codeIn K cd__law_made "_law_made" = true)
    (k__law_made : PySem.W.keepIn K (.ref f__law_made) = true)
    (a_Number_negated : PySem.W.findIn K (.ref C_Number) "negated" = some (some (.ref f_Number_negated)))
    (i_Number_negated : PySem.W.isFn K (.ref f_Number_negated) = true)
    {od_Number_negated an_Number_negated : Option Addr} {sl_Number_negated : Array (Option Value)} {oc_Number_negated dc_Number_negated pm_Number_negated cd_Number_negated ct_Number_negated : Value} {kV_Number_negated : Value} (l_Number_negated : K.lookup f_Number_negated = some ⟨oc_Number_negated, od_Number_negated, .func (PySem.W.fnOf "negated" "Number.negated" (defArgs st_Number_negated) (defBody st_Number_negated) (defScope st_Number_negated) .none kV_Number_negated dc_Number_negated pm_Number_negated an_Number_negated cd_Number_negated ct_Number_negated), sl_Number_negated⟩)
    (c_Number_negated : PySem.W.codeIn K cd_Number_negated "Number.negated" = true)
    (k_Number_negated : PySem.W.keepIn K (.ref f_Number_negated) = true)
    (a__law_right : PySem.W.nsIn K mainGlobals "_law_right" = some (some (.ref f__law_right)))
    {od__law_right an__law_right : Option Addr} {sl__law_right : Array (Option Value)} {oc__law_right dc__law_right pm__law_right cd__law_right ct__law_right : Value} {kV__law_right : Value} (l__law_right : K.lookup f__law_right = some ⟨oc__law_right, od__law_right, .func (PySem.W.fnOf "_law_right" "_law_right" (defArgs st_l_right) (defBody st_l_right) (defScope st_l_right) .none kV__law_right dc__law_right pm__law_right an__law_right cd__law_right ct__law_right), sl__law_right⟩)
    (c__law_right : PySem.W.codeIn K cd__law_right "_law_right" = true)
    (k__law_right : PySem.W.keepIn K (.ref f__law_right) = true)
    (a__law_form : PySem.W.nsIn K mainGlobals "_law_form" = some (some (.ref f__law_form)))
    {od__law_form an__law_form : Option Addr} {sl__law_form : Array (Option Value)} {oc__law_form dc__law_form pm__law_form cd__law_form ct__law_form : Value} {kV__law_form : Value} (l__law_form : K.lookup f__law_form = some ⟨oc__law_form, od__law_form, .func (PySem.W.fnOf "_law_form" "_law_form" (defArgs st_l_form) (defBody st_l_form) (defScope st_l_form) .none kV__law_form dc__law_form pm__law_form an__law_form cd__law_form ct__law_form), sl__law_form⟩)
    (c__law_form : PySem.W.codeIn K cd__law_form "_law_form" = true)
    (k__law_form : PySem.W.keepIn K (.ref f__law_form) = true)
    (z_enumerate : PySem.W.nsIn K mainGlobals "enumerate" = some none)
    (a__law_folded : PySem.W.nsIn K mainGlobals "_law_folded" = some (some (.ref f__law_folded)))
    {od__law_folded an__law_folded : Option Addr} {sl__law_folded : Array (Option Value)} {oc__law_folded dc__law_folded pm__law_folded cd__law_folded ct__law_folded : Value} {kV__law_folded : Value} (l__law_folded : K.lookup f__law_folded = some ⟨oc__law_folded, od__law_folded, .func (PySem.W.fnOf "_law_folded" "_law_folded" (defArgs st_l_folded) (defBody st_l_folded) (defScope st_l_folded) .none kV__law_folded dc__law_folded pm__law_folded an__law_folded cd__law_folded ct__law_folded), sl__law_folded⟩)
    (c__law_folded : PySem.W.codeIn K cd__law_folded "_law_folded" = true)
    (k__law_folded : PySem.W.keepIn K (.ref f__law_folded) = true)
    (a__law_begun : PySem.W.nsIn K mainGlobals "_law_begun" = some (some (.ref f__law_begun)))
    {od__law_begun an__law_begun : Option Addr} {sl__law_begun : Array (Option Value)} {oc__law_begun dc__law_begun pm__law_begun cd__law_begun ct__law_begun : Value} {kV__law_begun : Value} (l__law_begun : K.lookup f__law_begun = some ⟨oc__law_begun, od__law_begun, .func (PySem.W.fnOf "_law_begun" "_law_begun" (defArgs st_l_begun) (defBody st_l_begun) (defScope st_l_begun) .none kV__law_begun dc__law_begun pm__law_begun an__law_begun cd__law_begun ct__law_begun), sl__law_begun⟩)
    (c__law_begun : PySem.W.codeIn K cd__law_begun "_law_begun" = true)
    (k__law_begun : PySem.W.keepIn K (.ref f__law_begun) = true)
    (a_law : PySem.W.nsIn K mainGlobals "law" = some (some (.ref f_law)))
    {od_law an_law : Option Addr} {sl_law : Array (Option Value)} {oc_law dc_law pm_law cd_law ct_law : Value} {kV_law : Value} (l_law : K.lookup f_law = some ⟨oc_law, od_law, .func (PySem.W.fnOf "law" "law" (defArgs st_law) (defBody st_law) (defScope st_law) .none kV_law dc_law pm_law an_law cd_law ct_law), sl_law⟩)
    (c_law : PySem.W.codeIn K cd_law "law" = true)
    (k_law : PySem.W.keepIn K (.ref f_law) = true) :
    ∃ fd : FuncData, (∀ (s : Shared) (u : Value), BindsTo s fd ⟨[u], []⟩ [("_law_script", u)]) ∧ ∀ base : Heap, K.In base → base.Ns mainGlobals mg → FnOk l.prog w K mg base CX0 12 fa fd ["_law_script"] (spD ⟨K, (ctOf [("Number", C_Number)])⟩ 1 m_law) := by
  have e := hfa.symm.trans (PySem.W.mg_of X G a_law)
  cases e
  have nb_range := PySem.W.mg_none_of X G z_range
  have nb_len := PySem.W.mg_none_of X G z_len
  have F__law_mixed := fun_mk (st := st_l_mixed) l__law_mixed c__law_mixed k__law_mixed
  have b__law_mixed := F__law_mixed.binds (ps := ["_law_cell", "_law_j"]) fun _ _ _ _ _ _ us hl => match us, hl with | [_, _], _ => rfl
  have F__law_draw := fun_mk (st := st_l_draw) l__law_draw c__law_draw k__law_draw
  have b__law_draw := F__law_draw.binds (ps := ["_law_m", "_law_top"]) fun _ _ _ _ _ _ us hl => match us, hl with | [_, _], _ => rfl
  have nb_min := PySem.W.mg_none_of X G z_min
  have nb_max := PySem.W.mg_none_of X G z_max
  have F__law_raised := fun_mk (st := st_l_raised) l__law_raised c__law_raised k__law_raised
  have b__law_raised := F__law_raised.binds (ps := ["_law_base", "_law_turns"]) fun _ _ _ _ _ _ us hl => match us, hl with | [_, _], _ => rfl
  have F__law_by_ten := fun_mk (st := st_l_by_ten) l__law_by_ten c__law_by_ten k__law_by_ten
  have b__law_by_ten := F__law_by_ten.binds (ps := ["_law_m", "_law_form_here"]) fun _ _ _ _ _ _ us hl => match us, hl with | [_, _], _ => rfl
  have F__law_great := fun_mk (st := st_l_great) l__law_great c__law_great k__law_great
  have b__law_great := F__law_great.binds (ps := ["_law_m"]) fun _ _ _ _ _ _ us hl => match us, hl with | [_], _ => rfl
  have F__law_parts := fun_mk (st := st_l_parts) l__law_parts c__law_parts k__law_parts
  have b__law_parts := F__law_parts.binds (ps := ["_law_m", "_law_form_here"]) fun _ _ _ _ _ _ us hl => match us, hl with | [_, _], _ => rfl
  have F_by_twos := fun_mk (st := st_by_twos) l_by_twos c_by_twos k_by_twos
  have b_by_twos := F_by_twos.binds (ps := ["numerator", "exponent"]) fun _ _ _ _ _ _ us hl => match us, hl with | [_, _], _ => rfl
  have ct_Number : (ctOf [("Number", C_Number)]) "Number" = C_Number := by kernel_rfl
  have cl_Number : Cls K ((ctOf [("Number", C_Number)]) "Number") := by rw [ct_Number]; exact ⟨pg_Number, hd_Number, po_Number, sa_Number⟩
  have N_Number : mg "Number" = some (.ref ((ctOf [("Number", C_Number)]) "Number")) := by rw [ct_Number]; exact PySem.W.mg_of X G a_Number
  have FO : FldOk ⟨K, (ctOf [("Number", C_Number)])⟩ CS FL := by
    unfold CS
    refine ⟨(List.forall_mem_cons.mpr ⟨cl_Number, (by simp)⟩), ?_⟩
    exact (List.forall_mem_cons.mpr ⟨(show ∀ f ∈ (["own_shape", "own_sign", "own_significand", "own_exponent", "state"] : List Str), NoAttr K ((ctOf [("Number", C_Number)]) "Number") f from by rw [ct_Number]; exact (List.forall_mem_cons.mpr ⟨n_Number_own_shape, (List.forall_mem_cons.mpr ⟨n_Number_own_sign, (List.forall_mem_cons.mpr ⟨n_Number_own_significand, (List.forall_mem_cons.mpr ⟨n_Number_own_exponent, (List.forall_mem_cons.mpr ⟨n_Number_state, (by simp)⟩)⟩)⟩)⟩)⟩)), (by simp)⟩)
  have F_Number_shape := fun_mk (st := st_Number_shape) l_Number_shape c_Number_shape k_Number_shape
  have b_Number_shape := F_Number_shape.binds (ps := ["self"]) fun _ _ _ _ _ _ us hl => match us, hl with | [_], _ => rfl
  have F_first_normal := fun_mk (st := st_first_normal) l_first_normal c_first_normal k_first_normal
  have b_first_normal := F_first_normal.binds (ps := ["shape"]) fun _ _ _ _ _ _ us hl => match us, hl with | [_], _ => rfl
  have G_FINITE : GStr mg "FINITE" "finite" := ⟨_, PySem.W.mg_of X G g_FINITE⟩
  have F_Number_parts := fun_mk (st := st_Number_parts) l_Number_parts c_Number_parts k_Number_parts
  have b_Number_parts := F_Number_parts.binds (ps := ["self"]) fun _ _ _ _ _ _ us hl => match us, hl with | [_], _ => rfl
  have F_quarters := fun_mk (st := st_quarters) l_quarters c_quarters k_quarters
  have b_quarters := F_quarters.binds (ps := ["number"]) fun _ _ _ _ _ _ us hl => match us, hl with | [_], _ => rfl
  have O : ClsOk ⟨K, (ctOf [("Number", C_Number)])⟩ CS HI := by
    unfold CS
    refine ⟨(List.forall_mem_cons.mpr ⟨cl_Number, (by simp)⟩), (List.forall_mem_cons.mpr ⟨(by simp only [ct_Number]; exact ha_Number), (by simp)⟩), fun _ => c_hn, fun _ => c_htk, (List.forall_mem_cons.mpr ⟨(by simp only [ct_Number]; exact hm_Number), (by simp)⟩), ?_, ?_, ?_⟩
    · exact (List.forall_mem_cons.mpr ⟨(List.forall_mem_cons.mpr ⟨(by simp only [ct_Number]; exact kit_self K C_Number), (by simp)⟩), (by simp)⟩)
    · unfold kinds
      exact (List.forall_mem_cons.mpr ⟨(List.forall_mem_cons.mpr ⟨(by simp only [ct_Number]; exact cb_Number_NoneType), (List.forall_mem_cons.mpr ⟨(by simp only [ct_Number]; exact cb_Number_bool), (List.forall_mem_cons.mpr ⟨(by simp only [ct_Number]; exact cb_Number_int), (List.forall_mem_cons.mpr ⟨(by simp only [ct_Number]; exact cb_Number_str), (List.forall_mem_cons.mpr ⟨(by simp only [ct_Number]; exact cb_Number_list), (List.forall_mem_cons.mpr ⟨(by simp only [ct_Number]; exact cb_Number_tuple), (List.forall_mem_cons.mpr ⟨(by simp only [ct_Number]; exact cb_Number_dict), (by simp)⟩)⟩)⟩)⟩)⟩)⟩)⟩), (by simp)⟩)
    · unfold kinds
      exact (List.forall_mem_cons.mpr ⟨(List.forall_mem_cons.mpr ⟨(by simp only [ct_Number]; exact bc_Number_NoneType), (by simp)⟩), (List.forall_mem_cons.mpr ⟨(List.forall_mem_cons.mpr ⟨(by simp only [ct_Number]; exact bc_Number_bool), (by simp)⟩), (List.forall_mem_cons.mpr ⟨(List.forall_mem_cons.mpr ⟨(by simp only [ct_Number]; exact bc_Number_int), (by simp)⟩), (List.forall_mem_cons.mpr ⟨(List.forall_mem_cons.mpr ⟨(by simp only [ct_Number]; exact bc_Number_str), (by simp)⟩), (List.forall_mem_cons.mpr ⟨(List.forall_mem_cons.mpr ⟨(by simp only [ct_Number]; exact bc_Number_list), (by simp)⟩), (List.forall_mem_cons.mpr ⟨(List.forall_mem_cons.mpr ⟨(by simp only [ct_Number]; exact bc_Number_tuple), (by simp)⟩), (List.forall_mem_cons.mpr ⟨(List.forall_mem_cons.mpr ⟨(by simp only [ct_Number]; exact bc_Number_dict), (by simp)⟩), (by simp)⟩)⟩)⟩)⟩)⟩)⟩)⟩)
  have nb_isinstance := PySem.W.mg_none_of X G z_isinstance
  have F_want_number := fun_mk (st := st_want_number) l_want_number c_want_number k_want_number
  have b_want_number := F_want_number.binds (ps := ["thing"]) fun _ _ _ _ _ _ us hl => match us, hl with | [_], _ => rfl
  have F_want_finite := fun_mk (st := st_want_finite) l_want_finite c_want_finite k_want_finite
  have b_want_finite := F_want_finite.binds (ps := ["thing"]) fun _ _ _ _ _ _ us hl => match us, hl with | [_], _ => rfl
  have F_bounds := fun_mk (st := st_bounds) l_bounds c_bounds k_bounds
  have b_bounds := F_bounds.binds (ps := ["number"]) fun _ _ _ _ _ _ us hl => match us, hl with | [_], _ => rfl
  have nb_repr := PySem.W.mg_none_of X G z_repr
  have F__law_halves := fun_mk (st := st_l_halves) l__law_halves c__law_halves k__law_halves
  have b__law_halves := F__law_halves.binds (ps := ["_law_top", "_law_turns"]) fun _ _ _ _ _ _ us hl => match us, hl with | [_, _], _ => rfl
  have F__law_limits := fun_mk (st := st_l_limits) l__law_limits c__law_limits k__law_limits
  have b__law_limits := F__law_limits.binds (ps := ["_law_form_here", "_law_parts_here"]) fun _ _ _ _ _ _ us hl => match us, hl with | [_, _], _ => rfl
  have F_Number_kind := fun_mk (st := st_Number_kind) l_Number_kind c_Number_kind k_Number_kind
  have b_Number_kind := F_Number_kind.binds (ps := ["self"]) fun _ _ _ _ _ _ us hl => match us, hl with | [_], _ => rfl
  have nb_abs := PySem.W.mg_none_of X G z_abs
  have nb_bool := PySem.W.mg_none_of X G z_bool
  have nb_int := PySem.W.mg_none_of X G z_int
  have F_is_whole := fun_mk (st := st_is_whole) l_is_whole c_is_whole k_is_whole
  have b_is_whole := F_is_whole.binds (ps := ["thing", "least", "most"]) fun _ _ _ _ _ _ us hl => match us, hl with | [_, _, _], _ => rfl
  have F_want_whole := fun_mk (st := st_want_whole) l_want_whole c_want_whole k_want_whole
  have b_want_whole := F_want_whole.binds (ps := ["thing", "least", "most", "what"]) fun _ _ _ _ _ _ us hl => match us, hl with | [_, _, _, _], _ => rfl
  have I_LOW_LEAST : GInt mg "LOW_LEAST" (-1100) := ⟨⟨_, by rw [PySem.W.mg_of X G g_LOW_LEAST, v_LOW_LEAST]; skip⟩⟩
  have nb_tuple := PySem.W.mg_none_of X G z_tuple
  have F_is_shape := fun_mk (st := st_is_shape) l_is_shape c_is_shape k_is_shape
  have b_is_shape := F_is_shape.binds (ps := ["thing"]) fun _ _ _ _ _ _ us hl => match us, hl with | [_], _ => rfl
  have F_want_shape := fun_mk (st := st_want_shape) l_want_shape c_want_shape k_want_shape
  have b_want_shape := F_want_shape.binds (ps := ["thing"]) fun _ _ _ _ _ _ us hl => match us, hl with | [_], _ => rfl
  have R_DOUBLE := PySem.W.mg_of X G r_DOUBLE
  have D_Number___init__ : Dfl K (.ref dt_Number___init__) [.ref a_DOUBLE] := ⟨⟨_, _, _, rfl, t_Number___init__, rfl⟩⟩
  have F_Number___init__ := funD_mk (st := st_Number_init) l_Number___init__ c_Number___init__ k_Number___init__
  have F_last_rank := fun_mk (st := st_last_rank) l_last_rank c_last_rank k_last_rank
  have b_last_rank := F_last_rank.binds (ps := ["shape"]) fun _ _ _ _ _ _ us hl => match us, hl with | [_], _ => rfl
  have G_INFINITE : GStr mg "INFINITE" "infinite" := ⟨_, PySem.W.mg_of X G g_INFINITE⟩
  have D_infinite : Dfl K (.ref dt_infinite) [.ref a_DOUBLE] := ⟨⟨_, _, _, rfl, t_infinite, rfl⟩⟩
  have F_infinite := funD_mk (st := st_infinite) l_infinite c_infinite k_infinite
  have F_by_steps := fun_mk (st := st_by_steps) l_by_steps c_by_steps k_by_steps
  have b_by_steps := F_by_steps.binds (ps := ["steps", "shape", "sign"]) fun _ _ _ _ _ _ us hl => match us, hl with | [_, _, _], _ => rfl
  have D_by_rank : Dfl K (.ref dt_by_rank) [.ref a_DOUBLE] := ⟨⟨_, _, _, rfl, t_by_rank, rfl⟩⟩
  have F_by_rank := funD_mk (st := st_by_rank) l_by_rank c_by_rank k_by_rank
  have F_Number_sign := fun_mk (st := st_Number_sign) l_Number_sign c_Number_sign k_Number_sign
  have b_Number_sign := F_Number_sign.binds (ps := ["self"]) fun _ _ _ _ _ _ us hl => match us, hl with | [_], _ => rfl
  have F_steps_from_zero := fun_mk (st := st_steps_from_zero) l_steps_from_zero c_steps_from_zero k_steps_from_zero
  have b_steps_from_zero := F_steps_from_zero.binds (ps := ["number"]) fun _ _ _ _ _ _ us hl => match us, hl with | [_], _ => rfl
  have G_NAN : GStr mg "NAN" "nan" := ⟨_, PySem.W.mg_of X G g_NAN⟩
  have F_Number_rank := fun_mk (st := st_Number_rank) l_Number_rank c_Number_rank k_Number_rank
  have b_Number_rank := F_Number_rank.binds (ps := ["self"]) fun _ _ _ _ _ _ us hl => match us, hl with | [_], _ => rfl
  have F_moved := fun_mk (st := st_moved) l_moved c_moved k_moved
  have b_moved := F_moved.binds (ps := ["number", "step"]) fun _ _ _ _ _ _ us hl => match us, hl with | [_, _], _ => rfl
  have F_Number_up := fun_mk (st := st_Number_up) l_Number_up c_Number_up k_Number_up
  have b_Number_up := F_Number_up.binds (ps := ["self"]) fun _ _ _ _ _ _ us hl => match us, hl with | [_], _ => rfl
  have F__law_made := fun_mk (st := st_l_made) l__law_made c__law_made k__law_made
  have b__law_made := F__law_made.binds (ps := ["_law_form_here", "_law_side", "_law_parts_here"]) fun _ _ _ _ _ _ us hl => match us, hl with | [_, _, _], _ => rfl
  have F_Number_negated := fun_mk (st := st_Number_negated) l_Number_negated c_Number_negated k_Number_negated
  have b_Number_negated := F_Number_negated.binds (ps := ["self"]) fun _ _ _ _ _ _ us hl => match us, hl with | [_], _ => rfl
  have F__law_right := fun_mk (st := st_l_right) l__law_right c__law_right k__law_right
  have b__law_right := F__law_right.binds (ps := ["_law_m", "_law_form_here", "_law_parts_here"]) fun _ _ _ _ _ _ us hl => match us, hl with | [_, _, _], _ => rfl
  have F__law_form := fun_mk (st := st_l_form) l__law_form c__law_form k__law_form
  have b__law_form := F__law_form.binds (ps := ["_law_m"]) fun _ _ _ _ _ _ us hl => match us, hl with | [_], _ => rfl
  have nb_enumerate := PySem.W.mg_none_of X G z_enumerate
  have F__law_folded := fun_mk (st := st_l_folded) l__law_folded c__law_folded k__law_folded
  have b__law_folded := F__law_folded.binds (ps := ["_law_script"]) fun _ _ _ _ _ _ us hl => match us, hl with | [_], _ => rfl
  have F__law_begun := fun_mk (st := st_l_begun) l__law_begun c__law_begun k__law_begun
  have b__law_begun := F__law_begun.binds (ps := ["_law_script"]) fun _ _ _ _ _ _ us hl => match us, hl with | [_], _ => rfl
  have F_law := fun_mk (st := st_law) l_law c_law k_law
  refine ⟨PySem.W.fnOf "law" "law" (defArgs st_law) (defBody st_law) (defScope st_law) .none kV_law dc_law pm_law an_law cd_law ct_law, fun s v => .of_eq rfl, fun base _ _ => ?_⟩
  have Q__law_mixed : FnOk l.prog w K mg base CX0 1 f__law_mixed _ ["_law_cell", "_law_j"] (spMixed) := ok_mixed F__law_mixed 
  have C__law_mixed : Cal l.prog w K mg base 1 "_law_mixed" ["_law_cell", "_law_j"] (spMixed) := ⟨⟨_, _, Q__law_mixed, PySem.W.mg_of X G a__law_mixed, k__law_mixed, b__law_mixed⟩⟩
  have Q__law_draw : FnOk l.prog w K mg base CX0 2 f__law_draw _ ["_law_m", "_law_top"] (spD ⟨K, (ctOf [("Number", C_Number)])⟩ 2 gDraw) := okD_draw F__law_draw nb_len C__law_mixed
  have C__law_draw : Cal l.prog w K mg base 2 "_law_draw" ["_law_m", "_law_top"] (spD ⟨K, (ctOf [("Number", C_Number)])⟩ 2 gDraw) := ⟨⟨_, _, Q__law_draw, PySem.W.mg_of X G a__law_draw, k__law_draw, b__law_draw⟩⟩
  have Q__law_raised : FnOk l.prog w K mg base CX0 1 f__law_raised _ ["_law_base", "_law_turns"] (spD ⟨K, (ctOf [("Number", C_Number)])⟩ 2 m_l_raised) := ok_l_raised F__law_raised 
  have C__law_raised : Cal l.prog w K mg base 1 "_law_raised" ["_law_base", "_law_turns"] (spD ⟨K, (ctOf [("Number", C_Number)])⟩ 2 m_l_raised) := ⟨⟨_, _, Q__law_raised, PySem.W.mg_of X G a__law_raised, k__law_raised, b__law_raised⟩⟩
  have Q__law_by_ten : FnOk l.prog w K mg base CX0 3 f__law_by_ten _ ["_law_m", "_law_form_here"] (spD ⟨K, (ctOf [("Number", C_Number)])⟩ 2 m_l_by_ten) := ok_l_by_ten F__law_by_ten nb_min nb_max C__law_raised C__law_draw
  have C__law_by_ten : Cal l.prog w K mg base 3 "_law_by_ten" ["_law_m", "_law_form_here"] (spD ⟨K, (ctOf [("Number", C_Number)])⟩ 2 m_l_by_ten) := ⟨⟨_, _, Q__law_by_ten, PySem.W.mg_of X G a__law_by_ten, k__law_by_ten, b__law_by_ten⟩⟩
  have Q__law_great : FnOk l.prog w K mg base CX0 3 f__law_great _ ["_law_m"] (spD ⟨K, (ctOf [("Number", C_Number)])⟩ 1 m_l_great) := ok_l_great F__law_great C__law_draw
  have C__law_great : Cal l.prog w K mg base 3 "_law_great" ["_law_m"] (spD ⟨K, (ctOf [("Number", C_Number)])⟩ 1 m_l_great) := ⟨⟨_, _, Q__law_great, PySem.W.mg_of X G a__law_great, k__law_great, b__law_great⟩⟩
  have Q__law_parts : FnOk l.prog w K mg base CX0 4 f__law_parts _ ["_law_m", "_law_form_here"] (spD ⟨K, (ctOf [("Number", C_Number)])⟩ 2 m_l_parts) := ok_l_parts F__law_parts C__law_draw nb_min nb_max C__law_by_ten C__law_great C__law_raised
  have C__law_parts : Cal l.prog w K mg base 4 "_law_parts" ["_law_m", "_law_form_here"] (spD ⟨K, (ctOf [("Number", C_Number)])⟩ 2 m_l_parts) := ⟨⟨_, _, Q__law_parts, PySem.W.mg_of X G a__law_parts, k__law_parts, b__law_parts⟩⟩
  have Q_by_twos : FnOk l.prog w K mg base CX0 1 f_by_twos _ ["numerator", "exponent"] (spD ⟨K, (ctOf [("Number", C_Number)])⟩ 2 m_by_twos) := ok_by_twos F_by_twos nb_min
  have C_by_twos : Cal l.prog w K mg base 1 "by_twos" ["numerator", "exponent"] (spD ⟨K, (ctOf [("Number", C_Number)])⟩ 2 m_by_twos) := ⟨⟨_, _, Q_by_twos, PySem.W.mg_of X G a_by_twos, k_by_twos, b_by_twos⟩⟩
  have Q_Number_shape : FnOk l.prog w K mg base CX0 1 f_Number_shape _ ["self"] (spD ⟨K, (ctOf [("Number", C_Number)])⟩ 1 m_Number_shape) := ok_Number_shape F_Number_shape FO
  have O_Number_shape : CalO l.prog w K mg base 1 ((ctOf [("Number", C_Number)]) "Number") "shape" ["self"] (spD ⟨K, (ctOf [("Number", C_Number)])⟩ 1 m_Number_shape) := ⟨⟨_, _, cl_Number, by rw [ct_Number]; exact ⟨a_Number_shape, i_Number_shape, k_Number_shape⟩, Q_Number_shape, b_Number_shape⟩⟩
  have Q_first_normal : FnOk l.prog w K mg base CX0 1 f_first_normal _ ["shape"] (spD ⟨K, (ctOf [("Number", C_Number)])⟩ 1 m_first_normal) := ok_first_normal F_first_normal 
  have C_first_normal : Cal l.prog w K mg base 1 "first_normal" ["shape"] (spD ⟨K, (ctOf [("Number", C_Number)])⟩ 1 m_first_normal) := ⟨⟨_, _, Q_first_normal, PySem.W.mg_of X G a_first_normal, k_first_normal, b_first_normal⟩⟩
  have Q_Number_parts : FnOk l.prog w K mg base CX0 1 f_Number_parts _ ["self"] (spD ⟨K, (ctOf [("Number", C_Number)])⟩ 1 m_Number_parts) := ok_Number_parts F_Number_parts FO G_FINITE
  have O_Number_parts : CalO l.prog w K mg base 1 ((ctOf [("Number", C_Number)]) "Number") "parts" ["self"] (spD ⟨K, (ctOf [("Number", C_Number)])⟩ 1 m_Number_parts) := ⟨⟨_, _, cl_Number, by rw [ct_Number]; exact ⟨a_Number_parts, i_Number_parts, k_Number_parts⟩, Q_Number_parts, b_Number_parts⟩⟩
  have Q_quarters : FnOk l.prog w K mg base CX0 2 f_quarters _ ["number"] (spD ⟨K, (ctOf [("Number", C_Number)])⟩ 1 m_quarters) := ok_quarters F_quarters O_Number_shape C_first_normal O_Number_parts
  have C_quarters : Cal l.prog w K mg base 2 "quarters" ["number"] (spD ⟨K, (ctOf [("Number", C_Number)])⟩ 1 m_quarters) := ⟨⟨_, _, Q_quarters, PySem.W.mg_of X G a_quarters, k_quarters, b_quarters⟩⟩
  have Q_want_number : FnOk l.prog w K mg base CX0 1 f_want_number _ ["thing"] (spD ⟨K, (ctOf [("Number", C_Number)])⟩ 1 m_want_number) := ok_want_number F_want_number N_Number O nb_isinstance
  have C_want_number : Cal l.prog w K mg base 1 "want_number" ["thing"] (spD ⟨K, (ctOf [("Number", C_Number)])⟩ 1 m_want_number) := ⟨⟨_, _, Q_want_number, PySem.W.mg_of X G a_want_number, k_want_number, b_want_number⟩⟩
  have Q_want_finite : FnOk l.prog w K mg base CX0 2 f_want_finite _ ["thing"] (spD ⟨K, (ctOf [("Number", C_Number)])⟩ 1 m_want_finite) := ok_want_finite F_want_finite O_Number_parts C_want_number
  have C_want_finite : Cal l.prog w K mg base 2 "want_finite" ["thing"] (spD ⟨K, (ctOf [("Number", C_Number)])⟩ 1 m_want_finite) := ⟨⟨_, _, Q_want_finite, PySem.W.mg_of X G a_want_finite, k_want_finite, b_want_finite⟩⟩
  have Q_bounds : FnOk l.prog w K mg base CX0 3 f_bounds _ ["number"] (spD ⟨K, (ctOf [("Number", C_Number)])⟩ 1 m_bounds) := ok_bounds F_bounds C_by_twos C_quarters O_Number_parts C_want_finite
  have C_bounds : Cal l.prog w K mg base 3 "bounds" ["number"] (spD ⟨K, (ctOf [("Number", C_Number)])⟩ 1 m_bounds) := ⟨⟨_, _, Q_bounds, PySem.W.mg_of X G a_bounds, k_bounds, b_bounds⟩⟩
  have Q__law_halves : FnOk l.prog w K mg base CX0 2 f__law_halves _ ["_law_top", "_law_turns"] (spD ⟨K, (ctOf [("Number", C_Number)])⟩ 2 m_l_halves) := ok_l_halves F__law_halves nb_min C__law_raised nb_max
  have C__law_halves : Cal l.prog w K mg base 2 "_law_halves" ["_law_top", "_law_turns"] (spD ⟨K, (ctOf [("Number", C_Number)])⟩ 2 m_l_halves) := ⟨⟨_, _, Q__law_halves, PySem.W.mg_of X G a__law_halves, k__law_halves, b__law_halves⟩⟩
  have Q__law_limits : FnOk l.prog w K mg base CX0 3 f__law_limits _ ["_law_form_here", "_law_parts_here"] (spD ⟨K, (ctOf [("Number", C_Number)])⟩ 2 m_l_limits) := ok_l_limits F__law_limits C__law_halves C__law_raised
  have C__law_limits : Cal l.prog w K mg base 3 "_law_limits" ["_law_form_here", "_law_parts_here"] (spD ⟨K, (ctOf [("Number", C_Number)])⟩ 2 m_l_limits) := ⟨⟨_, _, Q__law_limits, PySem.W.mg_of X G a__law_limits, k__law_limits, b__law_limits⟩⟩
  have Q_Number_kind : FnOk l.prog w K mg base CX0 2 f_Number_kind _ ["self"] (spD ⟨K, (ctOf [("Number", C_Number)])⟩ 1 m_Number_kind) := ok_Number_kind F_Number_kind FO C_first_normal G_FINITE
  have O_Number_kind : CalO l.prog w K mg base 2 ((ctOf [("Number", C_Number)]) "Number") "kind" ["self"] (spD ⟨K, (ctOf [("Number", C_Number)])⟩ 1 m_Number_kind) := ⟨⟨_, _, cl_Number, by rw [ct_Number]; exact ⟨a_Number_kind, i_Number_kind, k_Number_kind⟩, Q_Number_kind, b_Number_kind⟩⟩
  have Q_is_whole : FnOk l.prog w K mg base CX0 1 f_is_whole _ ["thing", "least", "most"] (spD ⟨K, (ctOf [("Number", C_Number)])⟩ 3 m_is_whole) := ok_is_whole F_is_whole nb_bool O nb_isinstance nb_int
  have C_is_whole : Cal l.prog w K mg base 1 "is_whole" ["thing", "least", "most"] (spD ⟨K, (ctOf [("Number", C_Number)])⟩ 3 m_is_whole) := ⟨⟨_, _, Q_is_whole, PySem.W.mg_of X G a_is_whole, k_is_whole, b_is_whole⟩⟩
  have Q_want_whole : FnOk l.prog w K mg base CX0 2 f_want_whole _ ["thing", "least", "most", "what"] (spD ⟨K, (ctOf [("Number", C_Number)])⟩ 4 m_want_whole) := ok_want_whole F_want_whole C_is_whole
  have C_want_whole : Cal l.prog w K mg base 2 "want_whole" ["thing", "least", "most", "what"] (spD ⟨K, (ctOf [("Number", C_Number)])⟩ 4 m_want_whole) := ⟨⟨_, _, Q_want_whole, PySem.W.mg_of X G a_want_whole, k_want_whole, b_want_whole⟩⟩
  have Q_is_shape : FnOk l.prog w K mg base CX0 2 f_is_shape _ ["thing"] (spD ⟨K, (ctOf [("Number", C_Number)])⟩ 1 m_is_shape) := ok_is_shape F_is_shape C_is_whole I_LOW_LEAST nb_len nb_tuple O nb_isinstance
  have C_is_shape : Cal l.prog w K mg base 2 "is_shape" ["thing"] (spD ⟨K, (ctOf [("Number", C_Number)])⟩ 1 m_is_shape) := ⟨⟨_, _, Q_is_shape, PySem.W.mg_of X G a_is_shape, k_is_shape, b_is_shape⟩⟩
  have Q_want_shape : FnOk l.prog w K mg base CX0 3 f_want_shape _ ["thing"] (spD ⟨K, (ctOf [("Number", C_Number)])⟩ 1 m_want_shape) := ok_want_shape F_want_shape C_is_shape
  have C_want_shape : Cal l.prog w K mg base 3 "want_shape" ["thing"] (spD ⟨K, (ctOf [("Number", C_Number)])⟩ 1 m_want_shape) := ⟨⟨_, _, Q_want_shape, PySem.W.mg_of X G a_want_shape, k_want_shape, b_want_shape⟩⟩
  have Q_Number___init__ : FnOk l.prog w K mg base CX0 4 f_Number___init__ _ ["self", "shape", "sign", "significand", "exponent"] (spI ⟨K, (ctOf [("Number", C_Number)])⟩ "Number" 4 m_Number_init) := ok_Number_init F_Number___init__ FO G_FINITE C_first_normal C_want_whole C_want_shape
  have M_Number_2_sign_significand_exponent : CalM l.prog w K mg base 4 "Number" ((ctOf [("Number", C_Number)]) "Number") ["self", "shape", "sign", "significand", "exponent"] ["sign", "significand", "exponent"] (gV_Number_init_2_sign_significand_exponent) (spI ⟨K, (ctOf [("Number", C_Number)])⟩ "Number" 4 m_Number_init) := by
    refine ⟨⟨_, _, fun us ws => (match us, ws with | [a0, a1], [k0, k1, k2] => [a0, a1, k0, k1, k2] | _, _ => []), by rw [ct_Number]; exact ⟨mk_Number, a_Number___init__, i_Number___init__, kp_Number⟩, Q_Number___init__, N_Number, ?_, ?_⟩⟩
    · intro s us ws X' hl
      match us, ws, hl with
      | [a0, a1], [k0, k1, k2], _ =>
        intro M A E Q hq
        unfold bindArgs
        walk_at "bd"
        exact wpAny_pure hq
    · intro vs us zs ws r1 r2
      cases r1 with
      | nil => exact .nil
      | cons ha0 r1 =>
        cases r1 with
        | nil => exact .nil
        | cons ha1 r1 =>
          cases r1 with
          | cons _ _ => exact .nil
          | nil =>
            cases r2 with
            | nil => exact .nil
            | cons hk0 r2 =>
              cases r2 with
              | nil => exact .nil
              | cons hk1 r2 =>
                cases r2 with
                | nil => exact .nil
                | cons hk2 r2 =>
                  cases r2 with
                  | cons _ _ => exact .nil
                  | nil =>
                    exact .cons ha0 (.cons ha1 (.cons hk0 (.cons hk1 (.cons hk2 (.nil)))))
  have Q_last_rank : FnOk l.prog w K mg base CX0 2 f_last_rank _ ["shape"] (spD ⟨K, (ctOf [("Number", C_Number)])⟩ 1 m_last_rank) := ok_last_rank F_last_rank C_first_normal
  have C_last_rank : Cal l.prog w K mg base 2 "last_rank" ["shape"] (spD ⟨K, (ctOf [("Number", C_Number)])⟩ 1 m_last_rank) := ⟨⟨_, _, Q_last_rank, PySem.W.mg_of X G a_last_rank, k_last_rank, b_last_rank⟩⟩
  have M_Number_2_sign : CalM l.prog w K mg base 4 "Number" ((ctOf [("Number", C_Number)]) "Number") ["self", "shape", "sign", "significand", "exponent"] ["sign"] (gV_Number_init_2_sign) (spI ⟨K, (ctOf [("Number", C_Number)])⟩ "Number" 4 m_Number_init) := by
    refine ⟨⟨_, _, fun us ws => (match us, ws with | [a0, a1], [k0] => [a0, a1, k0, .int 0 tk_Number___init___significand, .none] | _, _ => []), by rw [ct_Number]; exact ⟨mk_Number, a_Number___init__, i_Number___init__, kp_Number⟩, Q_Number___init__, N_Number, ?_, ?_⟩⟩
    · intro s us ws X' hl
      match us, ws, hl with
      | [a0, a1], [k0], _ =>
        intro M A E Q hq
        unfold bindArgs
        walk_at "bd"
        exact wpAny_pure hq
    · intro vs us zs ws r1 r2
      cases r1 with
      | nil => exact .nil
      | cons ha0 r1 =>
        cases r1 with
        | nil => exact .nil
        | cons ha1 r1 =>
          cases r1 with
          | cons _ _ => exact .nil
          | nil =>
            cases r2 with
            | nil => exact .nil
            | cons hk0 r2 =>
              cases r2 with
              | cons _ _ => exact .nil
              | nil =>
                exact .cons ha0 (.cons ha1 (.cons hk0 (.cons ⟨_, rfl⟩ (.cons rfl (.nil)))))
  have Q_infinite : FnOk l.prog w K mg base CX0 6 f_infinite _ ["shape", "sign"] (spD ⟨K, (ctOf [("Number", C_Number)])⟩ 2 m_infinite) := ok_infinite F_infinite FO G_INFINITE M_Number_2_sign
  have K_infinite_1_sign : CalK l.prog w K mg base 6 "infinite" ["shape", "sign"] ["sign"] (gV_infinite_1_sign) (spD ⟨K, (ctOf [("Number", C_Number)])⟩ 2 m_infinite) := by
    refine ⟨⟨_, _, fun us ws => (match us, ws with | [a0], [k0] => [a0, k0] | _, _ => []), Q_infinite, PySem.W.mg_of X G a_infinite, k_infinite, ?_, ?_⟩⟩
    · intro s us ws X' hl
      match us, ws, hl with
      | [a0], [k0], _ =>
        intro M A E Q hq
        unfold bindArgs
        walk_at "bd"
        exact wpAny_pure hq
    · intro vs us zs ws r1 r2
      cases r1 with
      | nil => exact .nil
      | cons ha0 r1 =>
        cases r1 with
        | cons _ _ => exact .nil
        | nil =>
          cases r2 with
          | nil => exact .nil
          | cons hk0 r2 =>
            cases r2 with
            | cons _ _ => exact .nil
            | nil =>
              exact .cons ha0 (.cons hk0 (.nil))
  have Q_by_steps : FnOk l.prog w K mg base CX0 7 f_by_steps _ ["steps", "shape", "sign"] (spD ⟨K, (ctOf [("Number", C_Number)])⟩ 3 m_by_steps) := ok_by_steps F_by_steps M_Number_2_sign_significand_exponent nb_max C_first_normal C_last_rank K_infinite_1_sign
  have C_by_steps : Cal l.prog w K mg base 7 "by_steps" ["steps", "shape", "sign"] (spD ⟨K, (ctOf [("Number", C_Number)])⟩ 3 m_by_steps) := ⟨⟨_, _, Q_by_steps, PySem.W.mg_of X G a_by_steps, k_by_steps, b_by_steps⟩⟩
  have Q_by_rank : FnOk l.prog w K mg base CX0 8 f_by_rank _ ["rank", "shape"] (spD ⟨K, (ctOf [("Number", C_Number)])⟩ 2 m_by_rank) := ok_by_rank F_by_rank nb_abs C_by_steps C_want_whole C_last_rank C_want_shape
  have K_by_rank_2 : CalK l.prog w K mg base 8 "by_rank" ["rank", "shape"] [] (gV_by_rank_2) (spD ⟨K, (ctOf [("Number", C_Number)])⟩ 2 m_by_rank) := by
    refine ⟨⟨_, _, fun us ws => (match us, ws with | [a0, a1], [] => [a0, a1] | _, _ => []), Q_by_rank, PySem.W.mg_of X G a_by_rank, k_by_rank, ?_, ?_⟩⟩
    · intro s us ws X' hl
      match us, ws, hl with
      | [a0, a1], [], _ =>
        intro M A E Q hq
        unfold bindArgs
        walk_at "bd"
        exact wpAny_pure hq
    · intro vs us zs ws r1 r2
      cases r1 with
      | nil => exact .nil
      | cons ha0 r1 =>
        cases r1 with
        | nil => exact .nil
        | cons ha1 r1 =>
          cases r1 with
          | cons _ _ => exact .nil
          | nil =>
            cases r2 with
            | cons _ _ => exact .nil
            | nil =>
              exact .cons ha0 (.cons ha1 (.nil))
  have Q_Number_sign : FnOk l.prog w K mg base CX0 1 f_Number_sign _ ["self"] (spD ⟨K, (ctOf [("Number", C_Number)])⟩ 1 m_Number_sign) := ok_Number_sign F_Number_sign FO
  have O_Number_sign : CalO l.prog w K mg base 1 ((ctOf [("Number", C_Number)]) "Number") "sign" ["self"] (spD ⟨K, (ctOf [("Number", C_Number)])⟩ 1 m_Number_sign) := ⟨⟨_, _, cl_Number, by rw [ct_Number]; exact ⟨a_Number_sign, i_Number_sign, k_Number_sign⟩, Q_Number_sign, b_Number_sign⟩⟩
  have Q_steps_from_zero : FnOk l.prog w K mg base CX0 3 f_steps_from_zero _ ["number"] (spD ⟨K, (ctOf [("Number", C_Number)])⟩ 1 m_steps_from_zero) := ok_steps_from_zero F_steps_from_zero O_Number_shape C_first_normal O_Number_parts O_Number_kind G_INFINITE C_last_rank
  have C_steps_from_zero : Cal l.prog w K mg base 3 "steps_from_zero" ["number"] (spD ⟨K, (ctOf [("Number", C_Number)])⟩ 1 m_steps_from_zero) := ⟨⟨_, _, Q_steps_from_zero, PySem.W.mg_of X G a_steps_from_zero, k_steps_from_zero, b_steps_from_zero⟩⟩
  have Q_Number_rank : FnOk l.prog w K mg base CX0 4 f_Number_rank _ ["self"] (spD ⟨K, (ctOf [("Number", C_Number)])⟩ 1 m_Number_rank) := ok_Number_rank F_Number_rank FO C_steps_from_zero G_NAN
  have O_Number_rank : CalO l.prog w K mg base 4 ((ctOf [("Number", C_Number)]) "Number") "rank" ["self"] (spD ⟨K, (ctOf [("Number", C_Number)])⟩ 1 m_Number_rank) := ⟨⟨_, _, cl_Number, by rw [ct_Number]; exact ⟨a_Number_rank, i_Number_rank, k_Number_rank⟩, Q_Number_rank, b_Number_rank⟩⟩
  have Q_moved : FnOk l.prog w K mg base CX0 9 f_moved _ ["number", "step"] (spD ⟨K, (ctOf [("Number", C_Number)])⟩ 2 m_moved) := ok_moved F_moved K_by_rank_2 M_Number_2_sign O_Number_sign nb_abs C_last_rank O_Number_rank O_Number_shape O_Number_kind G_NAN
  have C_moved : Cal l.prog w K mg base 9 "moved" ["number", "step"] (spD ⟨K, (ctOf [("Number", C_Number)])⟩ 2 m_moved) := ⟨⟨_, _, Q_moved, PySem.W.mg_of X G a_moved, k_moved, b_moved⟩⟩
  have Q_Number_up : FnOk l.prog w K mg base CX0 10 f_Number_up _ ["self"] (spD ⟨K, (ctOf [("Number", C_Number)])⟩ 1 m_Number_up) := ok_Number_up F_Number_up C_moved
  have O_Number_up : CalO l.prog w K mg base 10 ((ctOf [("Number", C_Number)]) "Number") "up" ["self"] (spD ⟨K, (ctOf [("Number", C_Number)])⟩ 1 m_Number_up) := ⟨⟨_, _, cl_Number, by rw [ct_Number]; exact ⟨a_Number_up, i_Number_up, k_Number_up⟩, Q_Number_up, b_Number_up⟩⟩
  have Q__law_made : FnOk l.prog w K mg base CX0 6 f__law_made _ ["_law_form_here", "_law_side", "_law_parts_here"] (spD ⟨K, (ctOf [("Number", C_Number)])⟩ 3 m_l_made) := ok_l_made F__law_made M_Number_2_sign_significand_exponent
  have C__law_made : Cal l.prog w K mg base 6 "_law_made" ["_law_form_here", "_law_side", "_law_parts_here"] (spD ⟨K, (ctOf [("Number", C_Number)])⟩ 3 m_l_made) := ⟨⟨_, _, Q__law_made, PySem.W.mg_of X G a__law_made, k__law_made, b__law_made⟩⟩
  have K_bounds_0_number : CalK l.prog w K mg base 3 "bounds" ["number"] ["number"] (gV_bounds_0_number) (spD ⟨K, (ctOf [("Number", C_Number)])⟩ 1 m_bounds) := by
    refine ⟨⟨_, _, fun us ws => (match us, ws with | [], [k0] => [k0] | _, _ => []), Q_bounds, PySem.W.mg_of X G a_bounds, k_bounds, ?_, ?_⟩⟩
    · intro s us ws X' hl
      match us, ws, hl with
      | [], [k0], _ =>
        intro M A E Q hq
        unfold bindArgs
        walk_at "bd"
        exact wpAny_pure hq
    · intro vs us zs ws r1 r2
      cases r1 with
      | cons _ _ => exact .nil
      | nil =>
        cases r2 with
        | nil => exact .nil
        | cons hk0 r2 =>
          cases r2 with
          | cons _ _ => exact .nil
          | nil =>
            exact .cons hk0 (.nil)
  have Q_Number_negated : FnOk l.prog w K mg base CX0 7 f_Number_negated _ ["self"] (spD ⟨K, (ctOf [("Number", C_Number)])⟩ 1 m_Number_negated) := ok_Number_negated F_Number_negated M_Number_2_sign_significand_exponent FO O_Number_parts G_INFINITE K_infinite_1_sign G_NAN
  have O_Number_negated : CalO l.prog w K mg base 7 ((ctOf [("Number", C_Number)]) "Number") "negated" ["self"] (spD ⟨K, (ctOf [("Number", C_Number)])⟩ 1 m_Number_negated) := ⟨⟨_, _, cl_Number, by rw [ct_Number]; exact ⟨a_Number_negated, i_Number_negated, k_Number_negated⟩, Q_Number_negated, b_Number_negated⟩⟩
  have Q__law_right : FnOk l.prog w K mg base CX0 11 f__law_right _ ["_law_m", "_law_form_here", "_law_parts_here"] (spD ⟨K, (ctOf [("Number", C_Number)])⟩ 3 m_l_right) := ok_l_right F__law_right C_bounds nb_repr C__law_limits O_Number_kind C__law_raised O_Number_up C__law_made K_bounds_0_number O_Number_negated C__law_draw
  have C__law_right : Cal l.prog w K mg base 11 "_law_right" ["_law_m", "_law_form_here", "_law_parts_here"] (spD ⟨K, (ctOf [("Number", C_Number)])⟩ 3 m_l_right) := ⟨⟨_, _, Q__law_right, PySem.W.mg_of X G a__law_right, k__law_right, b__law_right⟩⟩
  have Q__law_form : FnOk l.prog w K mg base CX0 3 f__law_form _ ["_law_m"] (spD ⟨K, (ctOf [("Number", C_Number)])⟩ 1 m_l_form) := ok_l_form F__law_form C__law_draw
  have C__law_form : Cal l.prog w K mg base 3 "_law_form" ["_law_m"] (spD ⟨K, (ctOf [("Number", C_Number)])⟩ 1 m_l_form) := ⟨⟨_, _, Q__law_form, PySem.W.mg_of X G a__law_form, k__law_form, b__law_form⟩⟩
  have Q__law_folded : FnOk l.prog w K mg base CX0 1 f__law_folded _ ["_law_script"] (spFolded K) := ok_folded F__law_folded nb_range nb_enumerate
  have C__law_folded : Cal l.prog w K mg base 1 "_law_folded" ["_law_script"] (spFolded K) := ⟨⟨_, _, Q__law_folded, PySem.W.mg_of X G a__law_folded, k__law_folded, b__law_folded⟩⟩
  have Q__law_begun : FnOk l.prog w K mg base CX0 2 f__law_begun _ ["_law_script"] (spD ⟨K, (ctOf [("Number", C_Number)])⟩ 1 gBegun) := okD_begun F__law_begun C__law_folded
  have C__law_begun : Cal l.prog w K mg base 2 "_law_begun" ["_law_script"] (spD ⟨K, (ctOf [("Number", C_Number)])⟩ 1 gBegun) := ⟨⟨_, _, Q__law_begun, PySem.W.mg_of X G a__law_begun, k__law_begun, b__law_begun⟩⟩
  exact ok_law F_law nb_range C__law_parts C__law_right C__law_form C__law_begun
theorem walk {l : PySem.W.OpenLaw} {q : Program} {loose : List Str} {XP : (Str → Option Value) → Heap → Prop} {YP : World → Heap → Prop} {d : DefRec} {K : Params → PySem.W.Frag} (hn : l.most = some 63) (hdf : d.params.defaults = [])
    (hY : ∀ (w : World) (h : Heap), YP w h → (K w.params).In h)
    (F : ∀ (w : World) (mg : Str → Option Value) (fa : Addr) (h : Heap), (K w.params).In h → h.Ns mainGlobals mg → mg d.name = some (.ref fa) →
      ∃ fd : FuncData, (∀ (s : Shared) (u : Value), BindsTo s fd ⟨[u], []⟩ [("_law_script", u)]) ∧ ∀ base : Heap, (K w.params).In base → base.Ns mainGlobals mg → FnOk l.prog w (K w.params) mg base CX0 12 fa fd ["_law_script"] (spD ⟨K w.params, (ctOf [("Number", C_Number)])⟩ 1 m_law)) :
    PySem.W.WalkO q loose XP YP l.row.toRowW d [] (fun f vs => PySem.call f vs) :=
  L2.walk_of (n := 63) (k := 12) (x := "_law_script") (CX := fun _ => CX0) (sp := fun w => spD ⟨K w.params, (ctOf [("Number", C_Number)])⟩ 1 m_law) hn (by decide) hdf ⟨rfl, by decide, by decide, rfl⟩ hY F (fun _ _ a ns hl _ hS => law_sp (by unfold LIM; decide) hS (al_law hl)) fun _ _ _ _ _ z => z
end K30
open PySem PySem.W PyProof.Rows
set_option maxRecDepth 100000 in
set_option maxHeartbeats 0 in
theorem PySem.Challenge.cw_digitway_k30_bounds_holds : PySem.Challenge.rw_digitway_k30_bounds.Holds := by
  w_on; o_law; k_head; (case hw => w_witness2)
  k_fill
  refine' K30.walk (l := PySem.Challenge.rw_digitway_k30_bounds) rfl rfl (fun w h Y => PySem.W.kIn_of Y) ?F
  case F =>
    intro w mg fa h KX G hmg
    refine' K30.all_mk KX G hmg ?z_range ?z_len ?a__law_mixed ?l__law_mixed ?c__law_mixed ?k__law_mixed ?a__law_draw ?l__law_draw ?c__law_draw ?k__law_draw ?z_min ?z_max ?a__law_raised ?l__law_raised ?c__law_raised ?k__law_raised ?a__law_by_ten ?l__law_by_ten ?c__law_by_ten ?k__law_by_ten ?a__law_great ?l__law_great ?c__law_great ?k__law_great ?a__law_parts ?l__law_parts ?c__law_parts ?k__law_parts ?a_by_twos ?l_by_twos ?c_by_twos ?k_by_twos ?a_Number ?pg_Number ?hd_Number ?po_Number ?sa_Number ?n_Number_own_shape ?n_Number_own_sign ?n_Number_own_significand ?n_Number_own_exponent ?n_Number_state ?ha_Number ?c_hn ?c_htk ?hm_Number ?mk_Number ?kp_Number ?a_Number_shape ?i_Number_shape ?l_Number_shape ?c_Number_shape ?k_Number_shape ?a_first_normal ?l_first_normal ?c_first_normal ?k_first_normal ?g_FINITE ?a_Number_parts ?i_Number_parts ?l_Number_parts ?c_Number_parts ?k_Number_parts ?a_quarters ?l_quarters ?c_quarters ?k_quarters ?cb_Number_NoneType ?bc_Number_NoneType ?cb_Number_bool ?bc_Number_bool ?cb_Number_int ?bc_Number_int ?cb_Number_str ?bc_Number_str ?cb_Number_list ?bc_Number_list ?cb_Number_tuple ?bc_Number_tuple ?cb_Number_dict ?bc_Number_dict ?z_isinstance ?a_want_number ?l_want_number ?c_want_number ?k_want_number ?a_want_finite ?l_want_finite ?c_want_finite ?k_want_finite ?a_bounds ?l_bounds ?c_bounds ?k_bounds ?z_repr ?a__law_halves ?l__law_halves ?c__law_halves ?k__law_halves ?a__law_limits ?l__law_limits ?c__law_limits ?k__law_limits ?a_Number_kind ?i_Number_kind ?l_Number_kind ?c_Number_kind ?k_Number_kind ?z_abs ?z_bool ?z_int ?a_is_whole ?l_is_whole ?c_is_whole ?k_is_whole ?a_want_whole ?l_want_whole ?c_want_whole ?k_want_whole ?g_LOW_LEAST ?v_LOW_LEAST ?z_tuple ?a_is_shape ?l_is_shape ?c_is_shape ?k_is_shape ?a_want_shape ?l_want_shape ?c_want_shape ?k_want_shape ?a_Number___init__ ?i_Number___init__ ?l_Number___init__ ?c_Number___init__ ?k_Number___init__ ?r_DOUBLE ?t_Number___init__ ?w_Number___init___sign ?w_Number___init___significand ?w_Number___init___exponent ?a_last_rank ?l_last_rank ?c_last_rank ?k_last_rank ?g_INFINITE ?a_infinite ?l_infinite ?c_infinite ?k_infinite ?t_infinite ?w_infinite_sign ?a_by_steps ?l_by_steps ?c_by_steps ?k_by_steps ?a_by_rank ?l_by_rank ?c_by_rank ?k_by_rank ?t_by_rank ?a_Number_sign ?i_Number_sign ?l_Number_sign ?c_Number_sign ?k_Number_sign ?a_steps_from_zero ?l_steps_from_zero ?c_steps_from_zero ?k_steps_from_zero ?g_NAN ?a_Number_rank ?i_Number_rank ?l_Number_rank ?c_Number_rank ?k_Number_rank ?a_moved ?l_moved ?c_moved ?k_moved ?a_Number_up ?i_Number_up ?l_Number_up ?c_Number_up ?k_Number_up ?a__law_made ?l__law_made ?c__law_made ?k__law_made ?a_Number_negated ?i_Number_negated ?l_Number_negated ?c_Number_negated ?k_Number_negated ?a__law_right ?l__law_right ?c__law_right ?k__law_right ?a__law_form ?l__law_form ?c__law_form ?k__law_form ?z_enumerate ?a__law_folded ?l__law_folded ?c__law_folded ?k__law_folded ?a__law_begun ?l__law_begun ?c__law_begun ?k__law_begun ?a_law ?l_law ?c_law ?k_law
    (case z_range => k_is)
    (case z_len => k_is)
    (case a__law_mixed => k_is)
    (case l__law_mixed => k_is)
    (case c__law_mixed => k_is)
    (case k__law_mixed => k_is)
    (case a__law_draw => k_is)
    (case l__law_draw => k_is)
    (case c__law_draw => k_is)
    (case k__law_draw => k_is)
    (case z_min => k_is)
    (case z_max => k_is)
    (case a__law_raised => k_is)
    (case l__law_raised => k_is)
    (case c__law_raised => k_is)
    (case k__law_raised => k_is)
    (case a__law_by_ten => k_is)
    (case l__law_by_ten => k_is)
    (case c__law_by_ten => k_is)
    (case k__law_by_ten => k_is)
    (case a__law_great => k_is)
    (case l__law_great => k_is)
    (case c__law_great => k_is)
    (case k__law_great => k_is)
    (case a__law_parts => k_is)
    (case l__law_parts => k_is)
    (case c__law_parts => k_is)
    (case k__law_parts => k_is)
    (case a_by_twos => k_is)
    (case l_by_twos => k_is)
    (case c_by_twos => k_is)
    (case k_by_twos => k_is)
    (case a_Number => k_is)
    (case pg_Number => k_is)
    (case hd_Number => k_is)
    (case po_Number => k_is)
    (case sa_Number => k_is)
    (case n_Number_own_shape => k_is)
    (case n_Number_own_sign => k_is)
    (case n_Number_own_significand => k_is)
    (case n_Number_own_exponent => k_is)
    (case n_Number_state => k_is)
    (case ha_Number => k_is)
    (case c_hn => k_is)
    (case c_htk => k_is)
    (case hm_Number => k_is)
    (case mk_Number => k_is)
    (case kp_Number => k_is)
    (case a_Number_shape => k_is)
    (case i_Number_shape => k_is)
    (case l_Number_shape => k_is)
    (case c_Number_shape => k_is)
    (case k_Number_shape => k_is)
    (case a_first_normal => k_is)
    (case l_first_normal => k_is)
    (case c_first_normal => k_is)
    (case k_first_normal => k_is)
    (case g_FINITE => k_is)
    (case a_Number_parts => k_is)
    (case i_Number_parts => k_is)
    (case l_Number_parts => k_is)
    (case c_Number_parts => k_is)
    (case k_Number_parts => k_is)
    (case a_quarters => k_is)
    (case l_quarters => k_is)
    (case c_quarters => k_is)
    (case k_quarters => k_is)
    (case cb_Number_NoneType => kit_is)
    (case bc_Number_NoneType => kit_is)
    (case cb_Number_bool => kit_is)
    (case bc_Number_bool => kit_is)
    (case cb_Number_int => kit_is)
    (case bc_Number_int => kit_is)
    (case cb_Number_str => kit_is)
    (case bc_Number_str => kit_is)
    (case cb_Number_list => kit_is)
    (case bc_Number_list => kit_is)
    (case cb_Number_tuple => kit_is)
    (case bc_Number_tuple => kit_is)
    (case cb_Number_dict => kit_is)
    (case bc_Number_dict => kit_is)
    (case z_isinstance => k_is)
    (case a_want_number => k_is)
    (case l_want_number => k_is)
    (case c_want_number => k_is)
    (case k_want_number => k_is)
    (case a_want_finite => k_is)
    (case l_want_finite => k_is)
    (case c_want_finite => k_is)
    (case k_want_finite => k_is)
    (case a_bounds => k_is)
    (case l_bounds => k_is)
    (case c_bounds => k_is)
    (case k_bounds => k_is)
    (case z_repr => k_is)
    (case a__law_halves => k_is)
    (case l__law_halves => k_is)
    (case c__law_halves => k_is)
    (case k__law_halves => k_is)
    (case a__law_limits => k_is)
    (case l__law_limits => k_is)
    (case c__law_limits => k_is)
    (case k__law_limits => k_is)
    (case a_Number_kind => k_is)
    (case i_Number_kind => k_is)
    (case l_Number_kind => k_is)
    (case c_Number_kind => k_is)
    (case k_Number_kind => k_is)
    (case z_abs => k_is)
    (case z_bool => k_is)
    (case z_int => k_is)
    (case a_is_whole => k_is)
    (case l_is_whole => k_is)
    (case c_is_whole => k_is)
    (case k_is_whole => k_is)
    (case a_want_whole => k_is)
    (case l_want_whole => k_is)
    (case c_want_whole => k_is)
    (case k_want_whole => k_is)
    (case g_LOW_LEAST => k_is)
    (case v_LOW_LEAST => rfl)
    (case z_tuple => k_is)
    (case a_is_shape => k_is)
    (case l_is_shape => k_is)
    (case c_is_shape => k_is)
    (case k_is_shape => k_is)
    (case a_want_shape => k_is)
    (case l_want_shape => k_is)
    (case c_want_shape => k_is)
    (case k_want_shape => k_is)
    (case a_Number___init__ => k_is)
    (case i_Number___init__ => k_is)
    (case l_Number___init__ => k_is)
    (case c_Number___init__ => k_is)
    (case k_Number___init__ => k_is)
    (case r_DOUBLE => k_is)
    (case t_Number___init__ => k_is)
    (case w_Number___init___sign => k_is)
    (case w_Number___init___significand => k_is)
    (case w_Number___init___exponent => k_is)
    (case a_last_rank => k_is)
    (case l_last_rank => k_is)
    (case c_last_rank => k_is)
    (case k_last_rank => k_is)
    (case g_INFINITE => k_is)
    (case a_infinite => k_is)
    (case l_infinite => k_is)
    (case c_infinite => k_is)
    (case k_infinite => k_is)
    (case t_infinite => k_is)
    (case w_infinite_sign => k_is)
    (case a_by_steps => k_is)
    (case l_by_steps => k_is)
    (case c_by_steps => k_is)
    (case k_by_steps => k_is)
    (case a_by_rank => k_is)
    (case l_by_rank => k_is)
    (case c_by_rank => k_is)
    (case k_by_rank => k_is)
    (case t_by_rank => k_is)
    (case a_Number_sign => k_is)
    (case i_Number_sign => k_is)
    (case l_Number_sign => k_is)
    (case c_Number_sign => k_is)
    (case k_Number_sign => k_is)
    (case a_steps_from_zero => k_is)
    (case l_steps_from_zero => k_is)
    (case c_steps_from_zero => k_is)
    (case k_steps_from_zero => k_is)
    (case g_NAN => k_is)
    (case a_Number_rank => k_is)
    (case i_Number_rank => k_is)
    (case l_Number_rank => k_is)
    (case c_Number_rank => k_is)
    (case k_Number_rank => k_is)
    (case a_moved => k_is)
    (case l_moved => k_is)
    (case c_moved => k_is)
    (case k_moved => k_is)
    (case a_Number_up => k_is)
    (case i_Number_up => k_is)
    (case l_Number_up => k_is)
    (case c_Number_up => k_is)
    (case k_Number_up => k_is)
    (case a__law_made => k_is)
    (case l__law_made => k_is)
    (case c__law_made => k_is)
    (case k__law_made => k_is)
    (case a_Number_negated => k_is)
    (case i_Number_negated => k_is)
    (case l_Number_negated => k_is)
    (case c_Number_negated => k_is)
    (case k_Number_negated => k_is)
    (case a__law_right => k_is)
    (case l__law_right => k_is)
    (case c__law_right => k_is)
    (case k__law_right => k_is)
    (case a__law_form => k_is)
    (case l__law_form => k_is)
    (case c__law_form => k_is)
    (case k__law_form => k_is)
    (case z_enumerate => k_is)
    (case a__law_folded => k_is)
    (case l__law_folded => k_is)
    (case c__law_folded => k_is)
    (case k__law_folded => k_is)
    (case a__law_begun => k_is)
    (case l__law_begun => k_is)
    (case c__law_begun => k_is)
    (case k__law_begun => k_is)
    (case a_law => k_is)
    (case l_law => k_is)
    (case c_law => k_is)
    (case k_law => k_is)
#print axioms PySem.Challenge.cw_digitway_k30_bounds_holds
