import PyProof.Rows.All
import Wide.All
import OpenK.AllK
import Wide.FinOn
import PyProof.EqAt
import PyProof.EqKinds
import PyProof.TupleCall
import KE.BitLaws
import Open.SpecLaws
import KE.OsHead
import KE.OsGo
import KE.KRevIter
import PyProof.ListStr
import PyProof.WalkInts
import PyProof.ListMulRoad
import PyProof.TupleOps
import PyProof.AutoSeq1
import PyProof.DictTruth
import PySem.Challenge.RW_toadsfrogs_s01_answers
section
set_option Elab.async false
set_option linter.all false
set_option maxRecDepth 100000
/-! THE HAND LAYER, for ints, bools, texts, own classes, lists, tuples, dicts, comprehensions, walks over dicts, enumerate, zip, reversed, texts, calls, loops. Paste it whole ahead of your own text; what your proof does not reach may be deleted. -/
namespace L2
open PySem PySem.Spec PyProof.Rows

/-- a key: an int or a str -/
abbrev Key := Sum Int Str
def keyIs : Key → Value → Bool
  | .inl k, v => Value.isInt k v
  | .inr x, v => Value.isStrOf x v
def keyH (w : World) : Key → Int
  | .inl k => hashInt k
  | .inr x => hashStr w x
theorem keyIs_shape : ∀ {k : Key} {v : Value}, keyIs k v = true → (∃ i t, k = Sum.inl i ∧ v = Value.int i t) ∨ (∃ x t, k = Sum.inr x ∧ v = Value.str x t)
  | .inl i, v, h => by
    obtain ⟨t, e⟩ := Value.isInt_shape (k := i) (v := v) h
    exact .inl ⟨i, t, rfl, e⟩
  | .inr x, v, h => by
    obtain ⟨t, e⟩ := Value.isStrOf_shape (x := x) (v := v) h
    exact .inr ⟨x, t, rfl, e⟩
theorem keyIs_int (i : Int) (t : Tok) : keyIs (.inl i) (.int i t) = true := by simp [keyIs, Value.isInt]
theorem keyIs_str (x : Str) (t : Tok) : keyIs (.inr x) (.str x t) = true := by simp [keyIs, Value.isStrOf]
theorem key_ll (a b : Int) : decide ((Sum.inl a : Key) = Sum.inl b) = (a == b) := by
  by_cases e : a = b
  · subst e; simp
  · have h : ¬ (Sum.inl a : Key) = Sum.inl b := fun q => e (Sum.inl.inj q)
    rw [decide_eq_false h]
    exact (beq_eq_false_iff_ne.mpr e).symm
theorem key_rr (a b : Str) : decide ((Sum.inr a : Key) = Sum.inr b) = decide (a = b) := by
  by_cases e : a = b
  · subst e; simp
  · have h : ¬ (Sum.inr a : Key) = Sum.inr b := fun q => e (Sum.inr.inj q)
    rw [decide_eq_false h, decide_eq_false e]
theorem key_lr (a : Int) (b : Str) : decide ((Sum.inl a : Key) = Sum.inr b) = false := decide_eq_false (fun q => nomatch q)
theorem key_rl (a : Str) (b : Int) : decide ((Sum.inr a : Key) = Sum.inl b) = false := decide_eq_false (fun q => nomatch q)

def mixKind (prog : Program) (w : World) : PySem.KeyKind prog w Key where
  is := keyIs
  hash := keyH w
  inj := fun v a b ha hb => by
    rcases keyIs_shape ha with ⟨i, t, rfl, rfl⟩ | ⟨x, t, rfl, rfl⟩
    · rcases keyIs_shape hb with ⟨j, u, rfl, e⟩ | ⟨y, u, rfl, e⟩
      · injection e with e1 _; rw [e1]
      · exact nomatch e
    · rcases keyIs_shape hb with ⟨j, u, rfl, e⟩ | ⟨y, u, rfl, e⟩
      · exact nomatch e
      · injection e with e1 _; rw [e1]
  byValue := fun k v h => by
    rcases keyIs_shape h with ⟨i, t, rfl, rfl⟩ | ⟨x, t, rfl, rfl⟩ <;> rfl
  pyHash := fun hv h => by
    rcases keyIs_shape hv with ⟨i, t, rfl, rfl⟩ | ⟨x, t, rfl, rfl⟩
    · exact wpAny_pyHash_int h
    · exact wpAny_pyHash_str h
  eqBool := fun hu hv h => by
    rcases keyIs_shape hu with ⟨i, t, rfl, rfl⟩ | ⟨x, t, rfl, rfl⟩
    · rcases keyIs_shape hv with ⟨j, u, rfl, rfl⟩ | ⟨y, u, rfl, rfl⟩
      · rw [key_ll] at h; exact wpAny_eqBool_int h
      · rw [key_lr] at h; exact SeqAt.EqAt.int_str i t y u _ _ _ _ h
    · rcases keyIs_shape hv with ⟨j, u, rfl, rfl⟩ | ⟨y, u, rfl, rfl⟩
      · rw [key_rl] at h; exact SeqAt.EqAt.str_int x t j u _ _ _ _ h
      · rw [key_rr] at h; exact wpAny_eqBool_str h
  «strs» := fun k x t v h => by
    rcases keyIs_shape h with ⟨i, u, rfl, e⟩ | ⟨y, u, rfl, e⟩
    · exact nomatch e
    · injection e with e1 _
      subst e1
      cases v <;> rfl

theorem mixKind_int (prog : Program) (w : World) (i : Int) (t : Tok) : (mixKind prog w).is (.inl i) (.int i t) = true := keyIs_int i t
theorem mixKind_str (prog : Program) (w : World) (x : Str) (t : Tok) : (mixKind prog w).is (.inr x) (.str x t) = true := keyIs_str x t
end L2

namespace L2
open PySem PySem.Spec PyProof.Rows

/-- a value, without the heap -/
inductive V where
  | non | bl (b : Bool) | int (i : Int) | str (x : Str) | byt (b : Array UInt8) | flt (b : UInt64) | ref (a : Addr) | ty (n : String)
  deriving DecidableEq

def RelV : V → Value → Prop
  | .non, u => u = Value.none
  | .bl b, u => u = Value.bool b
  | .int i, u => ∃ t, u = Value.int i t
  | .str x, u => ∃ t, u = Value.str x t
  | .byt b, u => ∃ t, u = Value.bytes b t
  | .flt b, u => ∃ t, u = Value.float b t
  | .ref a, u => u = Value.ref a
  | .ty n, u => u = Value.type n

abbrev Vals : List V → List Value → Prop := Paired RelV
theorem Vals.length {xs : List V} {us : List Value} (r : Vals xs us) : xs.length = us.length := Paired.length r
theorem Vals.get : ∀ {xs : List V} {us : List Value} {i : Nat} {x : V}, Vals xs us → xs[i]? = some x → ∃ u, us[i]? = some u ∧ RelV x u
  | _, _, _, _, .nil, e => by simp at e
  | _, _, 0, _, .cons r _, e => by simp at e; subst e; exact ⟨_, rfl, r⟩
  | _, _, i + 1, x, .cons _ t, e => by
    obtain ⟨u, h1, h2⟩ := Vals.get (i := i) (x := x) t (by simpa using e)
    exact ⟨u, by simpa using h1, h2⟩
theorem Vals.set {x : V} {u : Value} (r : RelV x u) : ∀ {xs : List V} {us : List Value} (i : Nat), Vals xs us → Vals (xs.set i x) (us.set i u)
  | _, _, _, .nil => .nil
  | _, _, 0, .cons _ t => .cons r t
  | _, _, i + 1, .cons q t => .cons q (Vals.set r i t)
theorem Vals.append : ∀ {xs ys : List V} {us ws : List Value}, Vals xs us → Vals ys ws → Vals (xs ++ ys) (us ++ ws)
  | _, _, _, _, .nil, s => s
  | _, _, _, _, .cons r t, s => .cons r (Vals.append t s)
theorem Vals.take : ∀ {xs : List V} {us : List Value} (n : Nat), Vals xs us → Vals (xs.take n) (us.take n)
  | _, _, 0, _ => .nil
  | _, _, _ + 1, .nil => .nil
  | _, _, n + 1, .cons r t => .cons r (Vals.take n t)
theorem Vals.drop : ∀ {xs : List V} {us : List Value} (n : Nat), Vals xs us → Vals (xs.drop n) (us.drop n)
  | _, _, 0, r => r
  | _, _, _ + 1, .nil => .nil
  | _, _, n + 1, .cons _ t => Vals.drop n t
def RelO : Option V → Option Value → Prop
  | some v, some u => RelV v u
  | none, none => True
  | _, _ => False
def KV {κ : Type} : List (κ × V) → List (κ × Value) → Prop := Paired fun (p : κ × V) (q : κ × Value) => p.1 = q.1 ∧ RelV p.2 q.2

/-- a key of a dict (00_mix): an int or a text -/
def kV : Key → V
  | .inl i => .int i
  | .inr x => .str x

/-- what stands at a tracked address -/
inductive HO where
  /-- a list -/
  | lst (xs : List V)
  /-- a tuple (never changes) -/
  | tup (xs : List V)
  /-- a dict whose keys are ints and texts; one whose keys are tuples of ints and texts (the empty one is both) -/
  | dK (kvs : List (Key × V)) | dT (kvs : List (List Key × V))
  /-- a set of ints: its members, its size -/
  | set (S : Int → Bool) (n : Nat)
  /-- an instance of the class at C, its dict at dx, its attributes -/
  | ins (C dx : Addr) (fs : List (Str × V))
  /-- the dict of the instance at x -/
  | own (x : Addr)
  /-- the dict of an exception -/
  | xd (fs : List (Str × V))
  /-- a bound method, f of x -/
  | met (f x : Addr)
  /-- a range object lo, lo + 1, .. below hi -/
  | rng (lo hi : Int)
  /-- a thing that is known to the object (the script; a dict while a loop walks it): read, never written while it is so -/
  | frz (o : Obj) (u : HO)
  /-- a code object's table -/
  | tbl (ps : Array Value)
  /-- any other thing, by what is true of its one object (a def of one's own: SetO a S n := HO.ext fun h => ..) -/
  | ext (φ : Heap → Prop)

abbrev Hp := Addr → Option HO
def upd (H : Hp) (a : Addr) (o : HO) : Hp := fun b => if b = a then some o else H b
theorem upd_same {H : Hp} {a : Addr} {o : HO} : upd H a o a = some o := by unfold upd; rw [if_pos rfl]
theorem upd_ne {H : Hp} {a b : Addr} {o : HO} (h : b ≠ a) : upd H a o b = H b := by unfold upd; rw [if_neg h]
theorem upd_upd {H : Hp} {a : Addr} {o u : HO} : upd (upd H a o) a u = upd H a u := by
  funext b; unfold upd; split <;> rfl
/-- two objects of different content stand apart -/
theorem ne_of {H : Hp} {a b : Addr} {o u : HO} (h : H a = some o) (h' : H b = some u) (d : o ≠ u) : a ≠ b := by
  intro e; subst e; rw [h] at h'; exact d (Option.some.inj h')
theorem ne_of_none {H : Hp} {a b : Addr} {o : HO} (h : H a = some o) (h' : H b = none) : a ≠ b := by
  intro e; subst e; rw [h] at h'; cases h'

/-- where the module's own tuple lies, and what it holds -/
def begAddr : Addr := 137
def St0 (b : Addr) (k : List Key) : Prop := b = begAddr ∧ k = [Sum.inl 1, Sum.inl 0, Sum.inl 2]
def KeyAt (H : Hp) (b : Addr) (k : List Key) : Prop := H b = some (.tup (k.map kV)) ∨ St0 b k
theorem KeyAt.keep {H H' : Hp} {b : Addr} {k : List Key} (q : KeyAt H b k) (ht : ∀ b ys, H b = some (.tup ys) → H' b = some (.tup ys)) : KeyAt H' b k := by
  rcases q with q | q
  · exact .inl (ht _ _ q)
  · exact .inr q
section
variable (P : Program) (w : World)
def ObjOk (H : Hp) (h : Heap) (a : Addr) : HO → Prop
  | .lst xs => xs.length ≤ sizeLine ∧ ∃ (its : List Value) (n : Nat), Vals xs its ∧ h.get? a = some { cls := .type "list", data := .seq its.toArray n }
  | .tup xs => xs.length ≤ sizeLine ∧ ∃ its : List Value, Vals xs its ∧ IsTup h a its.toArray
  | .dK kvs => kvs.length ≤ sizeLine ∧ (a == sysModules) = false ∧ ∃ vs, KV kvs vs ∧ h.DictOf (mixKind P w) a vs
  | .dT kvs => kvs.length ≤ sizeLine ∧ (a == sysModules) = false ∧ ∃ xs : List (List Key × Addr × Value),
      Paired (fun (p : List Key × V) (q : List Key × Addr × Value) => p.1 = q.1 ∧ KeyAt H q.2.1 p.1 ∧ RelV p.2 q.2.2) kvs xs ∧
      ∃ o es ep, h.get? a = some o ∧ o.ExactDict ∧ o.data = .dict es ep ∧ es.toList = xs.map (entryOfKey (tupleKind (mixKind P w))) ∧ (xs.map (·.1)).Nodup
  | .set S n => h.SetOf (intKind P w) a S n
  | .ins C dx fs => H dx = some (.own a) ∧ fs.length ≤ 1000 ∧ dx ≠ a ∧ h.get? a = some (PySem.W.instObj C dx) ∧
      ∃ mA, h.Ns1 dx mA ∧ (∀ f, RelO (fs.lookup f) (mA f)) ∧ PySem.Within mA (fs.map (·.1))
  | .own _ => ∃ o, h.get? a = some o
  | .xd fs => ∃ mA, h.Ns1 a mA ∧ ∀ f, RelO (fs.lookup f) (mA f)
  | .rng lo hi => ∃ t u v, h.get? a = some { cls := .type "range", data := .fields #[.int lo t, .int hi u, .int 1 v] }
  | .frz o u => h.get? a = some o ∧ ObjOk H h a u
  | .tbl ps => h.get? a = some { cls := .none, data := .fields ps }
  | .met f x => h.get? a = some (PySem.W.methodObj (.ref f) (.ref x))
  | .ext φ => φ h ∧ (∃ o, h.get? a = some o) ∧ ∀ h1 h2 : Heap, φ h1 → (∀ o, h1.get? a = some o → h2.get? a = some o) → φ h2
/-- the abstract heap is held -/
def HOk (H : Hp) (h : Heap) : Prop := ∀ a o, H a = some o → ObjOk P w H h a o
end

section
variable {P : Program} {w : World} {H H' : Hp} {h h' : Heap} {a : Addr} {o : HO}
theorem ObjOk.lt (x : ObjOk P w H h a o) : a < h.objs.size := by
  cases o with
  | lst xs => obtain ⟨_, _, _, _, e⟩ := x; exact Heap.lt_size e
  | tup xs => obtain ⟨_, _, _, p⟩ := x; exact p.lt
  | dK kvs => obtain ⟨_, _, _, _, o, _, _, e, _⟩ := x; exact Heap.lt_size e
  | dT kvs => obtain ⟨_, _, _, _, o, _, _, e, _⟩ := x; exact Heap.lt_size e
  | set S n => obtain ⟨o, _, _, _, e, _⟩ := x; exact Heap.lt_size e
  | ins C dx fs => obtain ⟨_, _, _, e, _⟩ := x; exact Heap.lt_size e
  | own y => obtain ⟨_, e⟩ := x; exact Heap.lt_size e
  | xd fs => obtain ⟨_, ⟨_, _, _, e, _⟩, _⟩ := x; exact Heap.lt_size e
  | rng lo hi => obtain ⟨_, _, _, e⟩ := x; exact Heap.lt_size e
  | frz ob u => obtain ⟨e, _⟩ := x; exact Heap.lt_size e
  | tbl ps => exact Heap.lt_size (show h.get? a = some _ from x)
  | met f y => exact Heap.lt_size (show h.get? a = some _ from x)
  | ext φ => obtain ⟨_, ⟨_, e⟩, _⟩ := x; exact Heap.lt_size e
theorem Paired.mapP {α β : Type} {F G : α → β → Prop} : ∀ {l₁ : List α} {l₂ : List β}, Paired F l₁ l₂ → (∀ a b, F a b → G a b) → Paired G l₁ l₂
  | _, _, .nil, _ => .nil
  | _, _, .cons r t, f => .cons (f _ _ r) (Paired.mapP t f)
/-- what an object's description leans on: its own object, its own dict, the tuples -/
theorem ObjOk.stay (x : ObjOk P w H h a o) (k : ∀ b u, (b = a ∨ H b = some (.own a)) → h.get? b = some u → h'.get? b = some u)
    (ho : ∀ b, H b = some (.own a) → H' b = some (.own a)) (ht : ∀ b xs, H b = some (.tup xs) → H' b = some (.tup xs)) : ObjOk P w H' h' a o := by
  induction o with
  | lst xs => obtain ⟨z, its, n, r, e⟩ := x; exact ⟨z, its, n, r, k _ _ (.inl rfl) e⟩
  | tup xs => obtain ⟨z, its, r, ob, e, c⟩ := x; exact ⟨z, its, r, ob, k _ _ (.inl rfl) e, c⟩
  | dK kvs => obtain ⟨z, y, vs, r, ob, es, ep, e, c⟩ := x; exact ⟨z, y, vs, r, ob, es, ep, k _ _ (.inl rfl) e, c⟩
  | dT kvs =>
    obtain ⟨z, y, xs, r, ob, es, ep, e, c⟩ := x
    exact ⟨z, y, xs, Paired.mapP r fun p q z => ⟨z.1, z.2.1.keep ht, z.2.2⟩, ob, es, ep, k _ _ (.inl rfl) e, c⟩
  | set S n => obtain ⟨ob, es, ep, t, e, c⟩ := x; exact ⟨ob, es, ep, t, k _ _ (.inl rfl) e, c⟩
  | ins C dx fs =>
    obtain ⟨d, z, ne, e, mA, ⟨od, es, ep, e2, c⟩, r⟩ := x
    exact ⟨ho _ d, z, ne, k _ _ (.inl rfl) e, mA, ⟨od, es, ep, k _ _ (.inr d) e2, c⟩, r⟩
  | own y => obtain ⟨ob, e⟩ := x; exact ⟨ob, k _ _ (.inl rfl) e⟩
  | xd fs => obtain ⟨mA, ⟨od, es, ep, e, c⟩, r⟩ := x; exact ⟨mA, ⟨od, es, ep, k _ _ (.inl rfl) e, c⟩, r⟩
  | rng lo hi => obtain ⟨t, u, v, e⟩ := x; exact ⟨t, u, v, k _ _ (.inl rfl) e⟩
  | frz ob u ih => obtain ⟨e, q⟩ := x; exact ⟨k _ _ (.inl rfl) e, ih q⟩
  | tbl ps =>
    have e : h.get? a = some { cls := .none, data := .fields ps } := x
    show h'.get? a = some { cls := .none, data := .fields ps }
    exact k a _ (.inl rfl) e
  | met f y =>
    have e : h.get? a = some (PySem.W.methodObj (.ref f) (.ref y)) := x
    show h'.get? a = some (PySem.W.methodObj (.ref f) (.ref y))
    exact k a _ (.inl rfl) e
  | ext φ => obtain ⟨p, ⟨o, e⟩, st⟩ := x; exact ⟨st _ _ p fun o q => k _ _ (.inl rfl) q, ⟨o, k _ _ (.inl rfl) e⟩, st⟩
theorem HOk.lt (x : HOk P w H h) (e : H a = some o) : a < h.objs.size := (x a o e).lt
theorem HOk.fresh (x : HOk P w H h) (e : h.objs.size ≤ a) : H a = none := by
  cases q : H a with
  | none => rfl
  | some u => exact absurd (Nat.lt_of_lt_of_le (x.lt q) e) (Nat.lt_irrefl _)
/-- every object of the heap is kept -/
theorem HOk.kept (x : HOk P w H h) (k : ∀ b u, h.get? b = some u → h'.get? b = some u) : HOk P w H h' := fun a o e =>
  (x a o e).stay (fun b u _ q => k b u q) (fun _ q => q) fun _ _ q => q
/-- a new object is laid and tracked -/
theorem HOk.laid (x : HOk P w H h) (k : ∀ b u, h.get? b = some u → h'.get? b = some u) (hp : h.objs.size ≤ a) (new : ObjOk P w (upd H a o) h' a o) : HOk P w (upd H a o) h' := fun b u e => by
  have hn := x.fresh hp
  by_cases hb : b = a
  · subst hb; rw [upd_same] at e; cases e; exact new
  · rw [upd_ne hb] at e
    exact (x b u e).stay (fun c v _ q => k c v q) (fun c q => by rw [upd_ne (ne_of_none q hn)]; exact q) fun c xs q => by rw [upd_ne (ne_of_none q hn)]; exact q
end

/-- what may be read as u: it is u, or a known u -/
def Rd (H : Hp) (a : Addr) (u : HO) : Prop := H a = some u ∨ ∃ o, H a = some (.frz o u)
theorem Rd.ok {P : Program} {w : World} {H : Hp} {h : Heap} {a : Addr} {u : HO} (r : Rd H a u) (x : HOk P w H h) : ObjOk P w H h a u := by
  rcases r with r | ⟨o, r⟩
  · exact x a u r
  · obtain ⟨_, q⟩ := x a _ r
    exact q
/-- what may be written -/
def Mut : Option HO → Prop
  | some (.lst _) => True
  | some (.dK _) => True
  | some (.dT _) => True
  | some (.set _ _) => True
  | some (.ins _ _ _) => True
  | some (.ext _) => True
  | _ => False
section
variable {P : Program} {w : World} {H : Hp} {h h' : Heap} {x e : Addr} {o' : HO}
/-- the object at e is changed: x itself, or the dict of the instance x -/
theorem HOk.write (ok : HOk P w H h) (mu : Mut (H x)) (he : e = x ∨ H e = some (.own x)) (k : ∀ b u, b ≠ e → h.get? b = some u → h'.get? b = some u) (heo : ∃ u, h'.get? e = some u)
    (new : ObjOk P w (upd H x o') h' x o') : HOk P w (upd H x o') h' := fun b u q => by
  have nown : ∀ c y, H c = some (.own y) → c ≠ x := fun c y r z => by subst z; rw [r] at mu; exact mu
  have ntup : ∀ c xs, H c = some (.tup xs) → c ≠ x := fun c xs r z => by subst z; rw [r] at mu; exact mu
  by_cases hb : b = x
  · subst hb; rw [upd_same] at q; cases q; exact new
  · rw [upd_ne hb] at q
    by_cases hbe : b = e
    · have q' : H b = some (.own x) := by
        rcases he with z | z
        · exact absurd (hbe.trans z) hb
        · rw [hbe]; exact z
      rw [q] at q'; cases q'
      obtain ⟨v, hv⟩ := heo
      exact ⟨v, by rw [hbe]; exact hv⟩
    · refine (ok b u q).stay (fun c v hc r => k c v ?_ r) (fun c r => by rw [upd_ne (nown c b r)]; exact r) fun c xs r => by rw [upd_ne (ntup c xs r)]; exact r
      rcases hc with rfl | hc
      · exact hbe
      · rintro rfl
        rcases he with z | z
        · exact nown c b hc z
        · rw [hc] at z; cases z; exact hb rfl
end

/-! ### kept unless tracked; of the frames at fs (the callers') the slots may change (an exception that passes writes there); of the records at ex (iterators) nothing is said -/
structure Un (fs ex : List Addr) (H H' : Hp) (h h' : Heap) : Prop where
  keep : ∀ b o, h.get? b = some o → H b = none → b ∉ fs → b ∉ ex → h'.get? b = some o
  slot : ∀ b o, h.get? b = some o → H b = none → b ∈ fs → b ∉ ex → ∃ sl, h'.get? b = some { o with slots := sl }
  free : ∀ b o, h.get? b = some o → H b = none → b ∉ ex → H' b = none
  there : ∀ b o, h.get? b = some o → b ∉ ex → ∃ o', h'.get? b = some o'
  tups : ∀ b xs, H b = some (.tup xs) → H' b = some (.tup xs)
  frzs : ∀ b o u, H b = some (.frz o u) → H' b = some (.frz o u)
  tbls : ∀ b ps, H b = some (.tbl ps) → ∃ more, H' b = some (.tbl (ps ++ more))
section
variable {fs fs' ex ex' : List Addr} {H H1 H2 : Hp} {h h1 h2 h' : Heap} {a x e : Addr} {o : HO}
theorem Un.any (u : Un fs ex H H1 h h1) {b : Addr} {ob : Obj} (q : h.get? b = some ob) (n : H b = none) (hx : b ∉ ex) : ∃ sl, h1.get? b = some { ob with slots := sl } := by
  by_cases hb : b ∈ fs
  · exact u.slot b ob q n hb hx
  · exact ⟨ob.slots, u.keep b ob q n hb hx⟩
theorem Un.kept (k : ∀ b u, h.get? b = some u → h'.get? b = some u) : Un fs ex H H h h' :=
  ⟨fun b ob q _ _ _ => k b ob q, fun b ob q _ _ _ => ⟨ob.slots, k b ob q⟩, fun _ _ _ n _ => n, fun b ob q _ => ⟨ob, k b ob q⟩, fun _ _ q => q, fun _ _ _ q => q, fun _ ps q => ⟨#[], by rw [q]; simp⟩⟩
theorem Un.refl : Un fs ex H H h h := Un.kept fun _ _ q => q
theorem Un.laid (k : ∀ b u, h.get? b = some u → h'.get? b = some u) (hp : h.objs.size ≤ a) (hn : H a = none) : Un fs ex H (upd H a o) h h' where
  keep := fun b u q _ _ _ => k b u q
  slot := fun b u q _ _ _ => ⟨u.slots, k b u q⟩
  free := fun b u q n _ => by rw [upd_ne (Nat.ne_of_lt (Nat.lt_of_lt_of_le (Heap.lt_size q) hp))]; exact n
  there := fun b u q _ => ⟨u, k b u q⟩
  tups := fun b xs q => by rw [upd_ne (ne_of_none q hn)]; exact q
  frzs := fun b u xs q => by rw [upd_ne (ne_of_none q hn)]; exact q
  tbls := fun b ps q => ⟨#[], by rw [upd_ne (ne_of_none q hn), q]; simp⟩
theorem Un.write (mu : Mut (H x)) (he : e = x ∨ H e = some (.own x)) (k : ∀ b u, b ≠ e → h.get? b = some u → h'.get? b = some u) (heo : ∃ u, h'.get? e = some u) : Un fs ex H (upd H x o) h h' := by
  have hx : ∀ b, H b = none → b ≠ x := fun b n z => by subst z; rw [n] at mu; exact mu
  have hb : ∀ b, H b = none → b ≠ e := fun b n z => by
    subst z
    rcases he with r | r
    · exact hx b n r
    · rw [n] at r; cases r
  have hm : ∀ b u, H b = some u → ¬ Mut (some u) → b ≠ x := fun b u q nm z => by subst z; rw [q] at mu; exact nm mu
  refine ⟨fun b u q n _ _ => k b u (hb b n) q, fun b u q n _ _ => ⟨u.slots, k b u (hb b n) q⟩, fun b u q n _ => by rw [upd_ne (hx b n)]; exact n, fun b u q _ => ?_,
    fun b xs q => by rw [upd_ne (hm b _ q fun z => z)]; exact q, fun b u xs q => by rw [upd_ne (hm b _ q fun z => z)]; exact q, fun b ps q => ⟨#[], by rw [upd_ne (hm b _ q fun z => z), q]; simp⟩⟩
  by_cases hbe : b = e
  · subst hbe; exact heo
  · exact ⟨u, k b u hbe q⟩
end

/-! ### the heap without what is tracked -/
def trk (h : Heap) (H : Hp) : List Addr := (List.range h.objs.size).filter fun a => (H a).isSome
def hidT (h : Heap) (H : Hp) : Heap := PySem.W.hideAll h (trk h H)
theorem hidT_size (h : Heap) (H : Hp) : (hidT h H).objs.size = h.objs.size := PySem.W.hideAll_size _ _
theorem hidT_get {h : Heap} {H : Hp} {b : Addr} {o : Obj} (e : h.get? b = some o) (n : H b = none) : (hidT h H).get? b = some o :=
  PySem.W.hideAll_get _ e fun hm => by
    have q : (H b).isSome = true := (List.mem_filter.mp hm).2
    rw [n] at q; simp at q
theorem of_hidT {h : Heap} {H : Hp} {b : Addr} {o : Obj} (e : (hidT h H).get? b = some o) : h.get? b = some o ∧ H b = none := by
  have e' : h.get? b = some o := PySem.W.of_hideAll (trk h H) e
  refine ⟨e', ?_⟩
  cases q : H b with
  | none => rfl
  | some x =>
    have hm : b ∈ trk h H := List.mem_filter.mpr ⟨List.mem_range.mpr (Heap.lt_size e'), by simp [q]⟩
    have z : (hidT h H).get? b = none := PySem.W.hideAll_none (trk h H) hm
    rw [z] at e; cases e

/-! ### OpenK's ledger, filled with every new object but one -/
def allNews (g h : Heap) (L : Addr) : List (Addr × Obj) := (List.range h.objs.size).filterMap fun a => if a = L ∨ (g.get? a).isSome = true then none else (h.get? a).map fun o => (a, o)
def rest (g h : Heap) (L d : Addr) : List (Addr × Obj) := (allNews g h L).filter fun p => decide (p.1 ≠ d)
end L2

namespace L2
open PySem PySem.Spec PyProof.Rows

/-- the module's facts, over the base: the heap at the law's entry without what is tracked there -/
structure Mod (K : PySem.W.Frag) (mg : Str → Option Value) (base : Heap) : Prop where
  kin : K.In base
  glob : base.Ns mainGlobals mg
  blt : ∃ mb, base.Ns builtinsNs mb ∧ ∀ x : Str, x ≠ "__name__" → mb x = bootBuiltins x
  nolimit : base.NoLimit
  stat : ∀ b k, St0 b k → ∃ (o : Obj) (its : Array Value) (n : Nat), K.lookup b = some o ∧ o.cls = .type "tuple" ∧ o.data = .seq its n ∧ its.size ≤ sizeLine ∧ Vals (k.map kV) its.toList

/-- the context: a def's body (or a comprehension's block) running. base: fixed through the whole law; s₀, H₀: the entry; outer: the frames whose slots others may change (a def's callers); stack: all frames that run;
   ex: iterators that were made ahead of the entry and are walked here (a comprehension's); fn: the names whose cells were made at the entry (a def: all; a comprehension's block: its own); calm: not within an except suite; pn: pins that every state bears; xe: what is wanted of an exception that leaves the code -/
structure Cx where
  prog : Program
  w : World
  K : PySem.W.Frag
  mg : Str → Option Value
  base : Heap
  A : Around
  N : List Str
  s_0 : Shared
  H_0 : Hp
  env : Env
  outer : List Env
  stack : List Env
  ex : List Addr
  fn : Str → Bool
  calm : Bool
  pn : List (Addr × Obj)
  xe : Value → Shared → Prop
/-- the callers' frames -/
def frs (l : List Env) : List Addr := l.filterMap (·.frame)
abbrev Cx.fs (X : Cx) : List Addr := frs X.outer

def Vis (sc : Scope) (x : Str) : Prop := sc.names.lookup x = some .local ∨ sc.names.lookup x = some .cell ∨ sc.names.lookup x = some .free
def Loc (sc : Scope) (x : Str) : Prop := sc.names.lookup x = some .local ∨ sc.names.lookup x = some .cell
def Look (env : Env) (h : Heap) (m : Str → Option Value) (x : Str) (u : Value) : Prop :=
  (env.kindOf x = some .local ∧ m x = some u) ∨ ((env.kindOf x = some .cell ∨ env.kindOf x = some .free) ∧ ∃ c, env.cells.lookup x = some c ∧ h.IsCell c (some u))

structure Cx.Ok (X : Cx) : Prop where
  mod : Mod X.K X.mg X.base
  kind : X.env.scope.kind = .function
  glob : X.env.globals = mainGlobals
  blt : X.env.builtins = builtinsNs
  above : X.s_0.heap.objs.size ≤ X.env.locals
  inj : ∀ x y c, X.env.cells.lookup x = some c → X.env.cells.lookup y = some c → x = y
  has : ∀ x, (X.env.kindOf x = some .cell ∨ X.env.kindOf x = some .free) → ∃ c, X.env.cells.lookup x = some c
  cab : ∀ x c, X.fn x = true → X.env.cells.lookup x = some c → X.s_0.heap.objs.size ≤ c
  hd : X.calm = true → X.A.handled = none
  frames : X.A.frames = some X.stack
  stk : X.stack = X.outer ∨ (X.stack = X.env :: X.outer ∧ X.env.frame = some X.env.locals)
  exf : ∀ b ∈ X.ex, b ≠ X.env.locals ∧ ∀ x c, X.env.cells.lookup x = some c → c ≠ b
  bs : ∀ b o, X.base.get? b = some o → X.s_0.heap.get? b = some o ∧ X.H_0 b = none
  bsz : X.base.objs.size ≤ X.s_0.heap.objs.size
  noex : ∀ b o, X.base.get? b = some o → b ∉ X.ex
  exfs : ∀ b ∈ X.ex, b ∉ X.fs
  funs : X.s_0.heap.FunFrames X.base X.outer
  frf : ∀ b ∈ X.fs, X.H_0 b = none

structure Inv (X : Cx) (pins : List (Addr × Obj)) (σ : List (Option V)) (H : Hp) (s : Shared) : Prop where
  ok : X.Ok
  os : s.os = X.s_0.os
  bare : AllBare s.gens
  base : Un X.fs X.ex X.H_0 H X.s_0.heap s.heap
  loc : ∃ m, s.heap.Ns X.env.locals m ∧ ∀ (i : Nat) (x : Str) (v : V), X.N[i]? = some x → σ[i]? = some (some v) → Vis X.env.scope x → ∃ u, RelV v u ∧ Look X.env s.heap m x u
  cell : ∀ x c, X.env.cells.lookup x = some c → ∃ v, s.heap.IsCell c v
  free : H X.env.locals = none
  freeC : ∀ x c, X.env.cells.lookup x = some c → H c = none
  pin : ∀ p ∈ X.pn ++ pins, s.heap.get? p.1 = some p.2 ∧ H p.1 = none ∧ p.1 ≠ X.env.locals ∧ p.1 ∉ X.fs ∧ ∀ v, p.2.data ≠ .cell v
  hok : HOk X.prog X.w H s.heap
  len : σ.length = X.N.length

section
variable {X : Cx} {pins : List (Addr × Obj)} {σ : List (Option V)} {H H' : Hp} {s : Shared} {h' : Heap}

theorem Cx.Ok.nofr (ok : X.Ok) {b : Addr} {o : Obj} (e : X.base.get? b = some o) : b ∉ X.fs := fun hb => by
  have := (ok.funs.mem hb).1
  rw [e] at this; cases this
theorem Inv.bs (I : Inv X pins σ H s) : ∀ b o, X.base.get? b = some o → s.heap.get? b = some o ∧ H b = none := fun b o e =>
  ⟨I.base.keep b o (I.ok.bs b o e).1 (I.ok.bs b o e).2 (I.ok.nofr e) (I.ok.noex b o e), I.base.free b o (I.ok.bs b o e).1 (I.ok.bs b o e).2 (I.ok.noex b o e)⟩
theorem Inv.bk (I : Inv X pins σ H s) : ∀ b o, X.base.get? b = some o → s.heap.get? b = some o := fun b o e => (I.bs b o e).1
theorem Inv.mod (I : Inv X pins σ H s) : Mod X.K X.mg X.base := I.ok.mod
theorem Inv.kIn (I : Inv X pins σ H s) : X.K.In s.heap := I.ok.mod.kin.keeps I.bk
theorem Inv.lt (I : Inv X pins σ H s) : X.env.locals < s.heap.objs.size := let ⟨_, hn, _⟩ := I.loc; hn.lt
theorem Inv.sz (I : Inv X pins σ H s) : X.s_0.heap.objs.size ≤ s.heap.objs.size := Nat.le_trans I.ok.above (Nat.le_of_lt I.lt)
theorem Inv.nofs (I : Inv X pins σ H s) {a : Addr} (h : s.heap.objs.size ≤ a) : a ∉ X.fs := fun hb => by
  obtain ⟨_, o, ho, _⟩ := I.ok.funs.mem hb
  exact absurd (Nat.lt_of_lt_of_le (Heap.lt_size ho) (Nat.le_trans I.sz h)) (Nat.lt_irrefl _)
theorem Inv.cne (I : Inv X pins σ H s) : ∀ x c, X.env.cells.lookup x = some c → c ≠ X.env.locals := fun x c e z => by
  obtain ⟨v, o, ho, hd⟩ := I.cell x c e
  obtain ⟨m, ⟨o', es, ep, ho', hd', _⟩, _⟩ := I.loc
  rw [z, ho'] at ho; cases ho; rw [hd'] at hd; cases hd
theorem Inv.funs (I : Inv X pins σ H s) : s.heap.FunFrames X.base X.outer := by
  have all : ∀ (l : List Env), (∀ b ∈ frs l, b ∈ X.fs) → X.s_0.heap.FunFrames X.base l → s.heap.FunFrames X.base l := by
    intro l
    induction l with
    | nil => intro _ _; trivial
    | cons env r ih =>
      intro hs hl
      obtain ⟨hk, ⟨L, o, hf, hn, ho, hd⟩, hr⟩ := hl
      have hL : L ∈ X.fs := hs L (by unfold frs; rw [List.filterMap_cons, hf]; exact List.mem_cons_self)
      obtain ⟨sl, e⟩ := I.base.slot L o ho (I.ok.frf L hL) hL fun z => I.ok.exfs L z hL
      exact ⟨hk, ⟨L, _, hf, hn, e, hd⟩, ih (fun b hb => hs b (by unfold frs; rw [List.filterMap_cons, hf]; exact List.mem_cons_of_mem _ hb)) hr⟩
  exact all X.outer (fun _ hb => hb) I.ok.funs

/-- the frames that run, for a call -/
theorem Inv.stack (I : Inv X pins σ H s) : s.heap.FunFrames X.base X.stack := by
  rcases I.ok.stk with e | ⟨e, hf⟩
  · rw [e]; exact I.funs
  · rw [e]
    obtain ⟨m, hn, _⟩ := I.loc
    refine .cons (by rw [I.ok.kind]; decide) hf hn ?_ I.funs
    exact Heap.get?_none_of_le (Nat.le_trans I.ok.bsz I.ok.above)
theorem Inv.stkSub (I : Inv X pins σ H s) : ∀ b ∈ frs X.stack, b ∈ X.env.locals :: X.fs := fun b hb => by
  rcases I.ok.stk with e | ⟨e, hf⟩
  · rw [e] at hb; exact List.mem_cons_of_mem _ hb
  · rw [e] at hb
    unfold frs at hb
    rw [List.filterMap_cons, hf] at hb
    exact hb
theorem Inv.stkFree (I : Inv X pins σ H s) : ∀ b ∈ frs X.stack, H b = none := fun b hb => by
  rcases List.mem_cons.mp (I.stkSub b hb) with e | hb
  · rw [e]; exact I.free
  · obtain ⟨_, o, ho, _⟩ := I.ok.funs.mem hb
    exact I.base.free b o ho (I.ok.frf b hb) fun z => I.ok.exfs b z hb

/-- THE STEP: the untracked objects but the frame and the records at ch are kept (the callers' frames up to slots), the frame's map is kept, the new abstract heap is held -/
theorem Inv.step {g' : Array GenState} {t' : Nat} {d' : Drawn} {ch : List Addr} (I : Inv X pins σ H s)
    (hch : ∀ b ∈ ch, (b ∈ X.ex ∨ X.s_0.heap.objs.size ≤ b) ∧ b ≠ X.env.locals ∧ (∀ x c, X.env.cells.lookup x = some c → c ≠ b) ∧ ∀ p ∈ X.pn ++ pins, p.1 ≠ b)
    (keep : ∀ b o, b ≠ X.env.locals → b ∉ X.fs → b ∉ ch → s.heap.get? b = some o → H b = none → h'.get? b = some o)
    (slot : ∀ b o, b ≠ X.env.locals → b ∈ X.fs → b ∉ ch → s.heap.get? b = some o → H b = none → ∃ sl, h'.get? b = some { o with slots := sl }) (free : ∀ b o, b ∉ ch → s.heap.get? b = some o → H b = none → H' b = none)
    (there : ∀ b o, b ∉ ch → s.heap.get? b = some o → ∃ o', h'.get? b = some o')
    (tups : ∀ b xs, H b = some (.tup xs) → H' b = some (.tup xs)) (frzs : ∀ b o u, H b = some (.frz o u) → H' b = some (.frz o u)) (tbls : ∀ b ps, H b = some (.tbl ps) → ∃ more, H' b = some (.tbl (ps ++ more)))
    (ns : ∀ m, s.heap.Ns X.env.locals m → h'.Ns X.env.locals m) (hok : HOk X.prog X.w H' h') (hg : AllBare g') :
    Inv X pins σ H' { s with heap := h', gens := g', drawn := d', toks := t' } := by
  have neL : ∀ b o, X.s_0.heap.get? b = some o → b ≠ X.env.locals := fun b o e => Nat.ne_of_lt (Nat.lt_of_lt_of_le (Heap.lt_size e) I.ok.above)
  have neC : ∀ b o, X.s_0.heap.get? b = some o → b ∉ X.ex → b ∉ ch := fun b o e hx hb => by
    rcases (hch b hb).1 with z | z
    · exact hx z
    · exact absurd (Nat.lt_of_lt_of_le (Heap.lt_size e) z) (Nat.lt_irrefl _)
  have cellK : ∀ x c, X.env.cells.lookup x = some c → ∀ v, s.heap.IsCell c v → h'.IsCell c v := fun x c e v ⟨o, ho, hd⟩ => by
    have nch : c ∉ ch := fun z => (hch c z).2.2.1 x c e rfl
    by_cases hc : c ∈ X.fs
    · obtain ⟨sl, q⟩ := slot c o (I.cne x c e) hc nch ho (I.freeC x c e)
      exact ⟨_, q, hd⟩
    · exact ⟨o, keep c o (I.cne x c e) hc nch ho (I.freeC x c e), hd⟩
  refine ⟨I.ok, I.os, hg, ⟨fun b o e n hb hx => ?_, fun b o e n hb hx => ?_, fun b o e n hx => ?_, fun b o e hx => ?_, fun b xs e => tups b xs (I.base.tups b xs e), fun b o xs e => frzs b o xs (I.base.frzs b o xs e), fun b ps e => ?_⟩, ?_, fun x c e => ?_, ?_, fun x c e => ?_, fun p hp => ?_, hok, I.len⟩
  · exact keep b o (neL b o e) hb (neC b o e hx) (I.base.keep b o e n hb hx) (I.base.free b o e n hx)
  · obtain ⟨sl, e1⟩ := I.base.slot b o e n hb hx
    obtain ⟨sl', e2⟩ := slot b _ (neL b o e) hb (neC b o e hx) e1 (I.base.free b o e n hx)
    exact ⟨sl', e2⟩
  · obtain ⟨o', e1⟩ := I.base.there b o e hx
    exact free b o' (neC b o e hx) e1 (I.base.free b o e n hx)
  · obtain ⟨o', e1⟩ := I.base.there b o e hx
    exact there b o' (neC b o e hx) e1
  · obtain ⟨m1, e1⟩ := I.base.tbls b ps e
    obtain ⟨m2, e2⟩ := tbls b _ e1
    exact ⟨m1 ++ m2, by rw [e2, Array.append_assoc]⟩
  · obtain ⟨m, hn, hl⟩ := I.loc
    refine ⟨m, ns m hn, fun i x v e1 e2 e3 => ?_⟩
    obtain ⟨u, r, l⟩ := hl i x v e1 e2 e3
    refine ⟨u, r, ?_⟩
    rcases l with l | ⟨k, c, e, z⟩
    · exact .inl l
    · exact .inr ⟨k, c, e, cellK x c e _ z⟩
  · obtain ⟨v, z⟩ := I.cell x c e
    exact ⟨v, cellK x c e v z⟩
  · obtain ⟨m, ⟨o, _, _, ho, _⟩, _⟩ := I.loc
    exact free _ o (fun z => (hch _ z).2.1 rfl) ho I.free
  · obtain ⟨v, o, ho, hd⟩ := I.cell x c e
    exact free c o (fun z => (hch c z).2.2.1 x c e rfl) ho (I.freeC x c e)
  · obtain ⟨e, n, ne, nf, d⟩ := I.pin p hp
    have nch : p.1 ∉ ch := fun z => (hch p.1 z).2.2.2 p hp rfl
    exact ⟨keep p.1 p.2 ne nf nch e n, free p.1 p.2 nch e n, ne, nf, d⟩
/-- .. where the frame's own object is kept too -/
theorem Inv.un {t' : Nat} (I : Inv X pins σ H s) (u : Un X.fs [] H H' s.heap h') (hok : HOk X.prog X.w H' h') : Inv X pins σ H' { s with heap := h', toks := t' } := by
  obtain ⟨m, ⟨o, es, ep, ho, r⟩, _⟩ := id I.loc
  obtain ⟨sl, hL⟩ := u.any ho I.free (by simp)
  exact I.step (g' := s.gens) (d' := s.drawn) (ch := []) (fun _ z => nomatch z) (fun b o _ hb _ e n => u.keep b o e n hb (by simp)) (fun b o _ hb _ e n => u.slot b o e n hb (by simp)) (fun b o _ e n => u.free b o e n (by simp)) (fun b o _ e => u.there b o e (by simp)) u.tups u.frzs u.tbls (fun m' hm => by
    obtain ⟨o', es', ep', ho', r'⟩ := hm
    rw [ho] at ho'; cases ho'
    exact ⟨_, es', ep', hL, r'⟩) hok I.bare
/-- behind a call (or a comprehension's block): the slots of this frame may have changed too, the records at ch may have turned -/
theorem Inv.call {g' : Array GenState} {t' : Nat} {d' : Drawn} {ch : List Addr} (I : Inv X pins σ H s) (u : Un (frs X.stack) ch H H' s.heap h') (hok : HOk X.prog X.w H' h') (hg : AllBare g')
    (hch : ∀ b ∈ ch, (b ∈ X.ex ∨ X.s_0.heap.objs.size ≤ b) ∧ b ≠ X.env.locals ∧ (∀ x c, X.env.cells.lookup x = some c → c ≠ b) ∧ ∀ p ∈ X.pn ++ pins, p.1 ≠ b) :
    Inv X pins σ H' { s with heap := h', gens := g', drawn := d', toks := t' } := by
  obtain ⟨m, ⟨o, es, ep, ho, r⟩, _⟩ := id I.loc
  obtain ⟨sl, hL⟩ := u.any ho I.free fun z => (hch _ z).2.1 rfl
  exact I.step (ch := ch) hch (fun b o hL hb hc e n => u.keep b o e n (fun z => (List.mem_cons.mp (I.stkSub b z)).elim hL hb) hc) (fun b o _ _ hc e n => u.any e n hc) (fun b o hc e n => u.free b o e n hc) (fun b o hc e => u.there b o e hc) u.tups u.frzs u.tbls (fun m' hm => by
    obtain ⟨o', es', ep', ho', r'⟩ := hm
    rw [ho] at ho'; cases ho'
    exact ⟨_, es', ep', hL, r'⟩) hok hg
/-- an untracked record of ours (an iterator) has turned -/
theorem Inv.turned {t' : Nat} {it : Addr} (I : Inv X pins σ H s) (k : ∀ b o, b ≠ it → s.heap.get? b = some o → h'.get? b = some o) (hn : H it = none) (hL : it ≠ X.env.locals)
    (h1 : it ∈ X.ex ∨ X.s_0.heap.objs.size ≤ it) (h2 : ∀ x c, X.env.cells.lookup x = some c → c ≠ it) (h3 : ∀ p ∈ X.pn ++ pins, p.1 ≠ it) : Inv X pins σ H { s with heap := h', toks := t' } := by
  have nit : ∀ b u, H b = some u → b ≠ it := fun b u e z => by rw [z, hn] at e; cases e
  refine I.step (g' := s.gens) (d' := s.drawn) (ch := [it]) (fun b hb => ?_) (fun b o _ _ hc e _ => k b o (fun z => hc (by simp [z])) e) (fun b o _ _ hc e _ => ⟨o.slots, k b o (fun z => hc (by simp [z])) e⟩) (fun _ _ _ _ n => n)
    (fun b o hc e => ⟨o, k b o (fun z => hc (by simp [z])) e⟩) (fun _ _ e => e) (fun _ _ _ e => e) (fun b ps e => ⟨#[], by rw [e]; simp⟩) (fun m hm => ?_) (fun b u e => ?_) I.bare
  · have e : b = it := by simpa using hb
    subst e
    exact ⟨h1, hL, h2, h3⟩
  · obtain ⟨o, es, ep, ho, r⟩ := hm
    exact ⟨o, es, ep, k _ o (Ne.symm hL) ho, r⟩
  · refine (I.hok b u e).stay (fun c v hc q => k c v ?_ q) (fun _ q => q) fun _ _ q => q
    rcases hc with z | z
    · rw [z]; exact nit b u e
    · exact nit c _ z
theorem Inv.tok (I : Inv X pins σ H s) (t : Nat) : Inv X pins σ H { s with toks := t } := I.un (h' := s.heap) (t' := t) Un.refl I.hok
/-- all objects kept -/
theorem Inv.kept {t' : Nat} (I : Inv X pins σ H s) (k : ∀ b u, s.heap.get? b = some u → h'.get? b = some u) : Inv X pins σ H { s with heap := h', toks := t' } := I.un (Un.kept k) (I.hok.kept k)
/-- a new object laid and tracked -/
theorem Inv.laid {a : Addr} {o : HO} {t' : Nat} (I : Inv X pins σ H s) (k : ∀ b u, s.heap.get? b = some u → h'.get? b = some u) (hp : s.heap.objs.size ≤ a) (new : ObjOk X.prog X.w (upd H a o) h' a o) :
    Inv X pins σ (upd H a o) { s with heap := h', toks := t' } := I.un (Un.laid k hp (I.hok.fresh hp)) (I.hok.laid k hp new)
/-- an object written -/
theorem Inv.write {x e : Addr} {o : HO} {t' : Nat} (I : Inv X pins σ H s) (mu : Mut (H x)) (he : e = x ∨ H e = some (.own x)) (k : ∀ b u, b ≠ e → s.heap.get? b = some u → h'.get? b = some u) (heo : ∃ u, h'.get? e = some u)
    (new : ObjOk X.prog X.w (upd H x o) h' x o) : Inv X pins σ (upd H x o) { s with heap := h', toks := t' } := I.un (Un.write mu he k heo) (I.hok.write mu he k heo new)
/-- forgetting slots, pins -/
theorem Inv.weak {σ' : List (Option V)} (I : Inv X pins σ H s) (hl : σ'.length = σ.length) (w : ∀ (i : Nat) v, σ'[i]? = some (some v) → σ[i]? = some (some v)) : Inv X pins σ' H s :=
  ⟨I.ok, I.os, I.bare, I.base, let ⟨m, hn, hl'⟩ := I.loc; ⟨m, hn, fun i x v e1 e2 e3 => hl' i x v e1 (w i v e2) e3⟩, I.cell, I.free, I.freeC, I.pin, I.hok, hl.trans I.len⟩
theorem Inv.pins_of {pins' : List (Addr × Obj)} (I : Inv X pins σ H s) (h : ∀ p ∈ pins', s.heap.get? p.1 = some p.2 ∧ H p.1 = none ∧ p.1 ≠ X.env.locals ∧ p.1 ∉ X.fs ∧ ∀ v, p.2.data ≠ .cell v) : Inv X pins' σ H s :=
  ⟨I.ok, I.os, I.bare, I.base, I.loc, I.cell, I.free, I.freeC, fun p hp => (List.mem_append.mp hp).elim (fun z => I.pin p (List.mem_append_left _ z)) (h p), I.hok, I.len⟩

theorem nodup_ix {N : List Str} (hN : N.Nodup) {i j : Nat} {x : Str} (a : N[i]? = some x) (b : N[j]? = some x) : i = j := by
  obtain ⟨h1, e1⟩ := List.getElem?_eq_some_iff.mp a
  obtain ⟨h2, e2⟩ := List.getElem?_eq_some_iff.mp b
  exact (List.getElem_inj hN).mp (e1.trans e2.symm)

/-- a name is stored; what changed -/
theorem store_ok2 {M : Model} {A : Around} {E : Value → Shared → Prop} {i : Nat} {x : Str} {v : V} {u : Value} {Q : Unit → Shared → Prop} (I : Inv X pins σ H s) (hN : X.N.Nodup) (hi : X.N[i]? = some x) (hx : Loc X.env.scope x) (r : RelV v u)
    (h : ∀ s', Inv X pins (σ.set i (some v)) H s' → (∃ a, Heap.SameBut a s.heap s'.heap ∧ (a = X.env.locals ∨ X.env.cells.lookup x = some a)) → Q () s') (hf : X.fn x = true ∨ X.env.scope.names.lookup x = some .local := by first | exact .inl rfl | exact .inr rfl | assumption) : wpAny M A (storeName X.env x u) Q E s := by
  obtain ⟨m, hn, hl⟩ := id I.loc
  have hcls : (X.env.scope.kind == .class || (X.env.scope.kind == .module && X.env.locals != X.env.globals)) = false := by rw [I.ok.kind]; rfl
  have hiσ : i < σ.length := by rw [I.len]; exact (List.getElem?_eq_some_iff.mp hi).1
  have cne := I.cne
  have tracked : ∀ {a : Addr} {h' : Heap}, (∃ o, s.heap.get? a = some o ∧ H a = none) → Heap.SameBut a s.heap h' → HOk X.prog X.w H h' := fun {a h'} ha hs b ob e => by
    obtain ⟨_, _, hfree⟩ := ha
    refine (I.hok b ob e).stay (fun c w' hc q => (hs.2 c ?_).trans q) (fun _ q => q) fun _ _ q => q
    rintro rfl
    rcases hc with rfl | hc
    · rw [hfree] at e; cases e
    · rw [hfree] at hc; cases hc
  rcases hx with hk | hk
  · refine wpAny_storeName_local hk hn (fun h' hn' hs => ?_) hcls
    obtain ⟨oL, _, _, hoL, _⟩ := id hn
    refine h _ ⟨I.ok, I.os, I.bare, ⟨fun b o e n hb hx => ?_, fun b o e n hb hx => ?_, I.base.free, fun b o e hx => ?_, I.base.tups, I.base.frzs, I.base.tbls⟩, ⟨_, hn', fun j y v' e1 e2 e3 => ?_⟩, fun y c e => ?_, I.free, I.freeC, fun p hp => ?_, tracked ⟨oL, hoL, I.free⟩ hs, by simpa using I.len⟩ ⟨_, hs, .inl rfl⟩
    · exact (hs.2 b (Nat.ne_of_lt (Nat.lt_of_lt_of_le (Heap.lt_size e) I.ok.above))).trans (I.base.keep b o e n hb hx)
    · obtain ⟨sl, e1⟩ := I.base.slot b o e n hb hx
      exact ⟨sl, (hs.2 b (Nat.ne_of_lt (Nat.lt_of_lt_of_le (Heap.lt_size e) I.ok.above))).trans e1⟩
    · obtain ⟨o', e1⟩ := I.base.there b o e hx
      exact ⟨o', (hs.2 b (Nat.ne_of_lt (Nat.lt_of_lt_of_le (Heap.lt_size e) I.ok.above))).trans e1⟩
    · by_cases hj : j = i
      · subst hj
        rw [hi] at e1; cases e1
        rw [List.getElem?_set_self hiσ] at e2
        cases e2
        exact ⟨u, r, .inl ⟨hk, by simp⟩⟩
      · rw [List.getElem?_set_ne (Ne.symm hj)] at e2
        obtain ⟨u', r', q⟩ := hl j y v' e1 e2 e3
        refine ⟨u', r', ?_⟩
        rcases q with ⟨k, e⟩ | ⟨k, c, e, z⟩
        · refine .inl ⟨k, ?_⟩
          have : y ≠ x := fun e => hj (nodup_ix hN e1 (e ▸ hi))
          simp [this, e]
        · exact .inr ⟨k, c, e, z.sameBut hs (cne y c e)⟩
    · obtain ⟨w', z⟩ := I.cell y c e
      exact ⟨w', z.sameBut hs (cne y c e)⟩
    · obtain ⟨e, n, ne, nf, d⟩ := I.pin p hp
      exact ⟨(hs.2 p.1 ne).trans e, n, ne, nf, d⟩
  · have hfn : X.fn x = true := by
      rcases hf with z | z
      · exact z
      · rw [z] at hk; cases hk
    obtain ⟨c, hc⟩ := I.ok.has x (.inl hk)
    obtain ⟨w', z⟩ := I.cell x c hc
    refine wpAny_storeName_cell I.ok.kind hk hc z (fun h' hc' hs => ?_)
    obtain ⟨oc, hoc, hocd⟩ := id z
    refine h { s with heap := h' } ⟨I.ok, I.os, I.bare, ⟨fun b o e n hb hx => ?_, fun b o e n hb hx => ?_, I.base.free, fun b o e hx => ?_, I.base.tups, I.base.frzs, I.base.tbls⟩, ⟨m, hn.sameBut hs (Ne.symm (cne x c hc)), fun j y v' e1 e2 e3 => ?_⟩, fun y c' e => ?_, I.free, I.freeC, fun p hp => ?_, tracked ⟨oc, hoc, I.freeC x c hc⟩ hs, by simpa using I.len⟩ ⟨c, hs, .inr hc⟩
    · exact (hs.2 b (Nat.ne_of_lt (Nat.lt_of_lt_of_le (Heap.lt_size e) (I.ok.cab x c hfn hc)))).trans (I.base.keep b o e n hb hx)
    · obtain ⟨sl, e1⟩ := I.base.slot b o e n hb hx
      exact ⟨sl, (hs.2 b (Nat.ne_of_lt (Nat.lt_of_lt_of_le (Heap.lt_size e) (I.ok.cab x c hfn hc)))).trans e1⟩
    · obtain ⟨o', e1⟩ := I.base.there b o e hx
      exact ⟨o', (hs.2 b (Nat.ne_of_lt (Nat.lt_of_lt_of_le (Heap.lt_size e) (I.ok.cab x c hfn hc)))).trans e1⟩
    · by_cases hj : j = i
      · subst hj
        rw [hi] at e1; cases e1
        rw [List.getElem?_set_self hiσ] at e2
        cases e2
        exact ⟨u, r, .inr ⟨.inl hk, c, hc, hc'⟩⟩
      · rw [List.getElem?_set_ne (Ne.symm hj)] at e2
        obtain ⟨u', r', q⟩ := hl j y v' e1 e2 e3
        refine ⟨u', r', ?_⟩
        rcases q with q | ⟨k, c', e, z'⟩
        · exact .inl q
        · refine .inr ⟨k, c', e, z'.sameBut hs ?_⟩
          rintro rfl
          exact hj (nodup_ix hN e1 (I.ok.inj _ _ _ e hc ▸ hi))
    · by_cases hcc : c' = c
      · subst hcc; exact ⟨_, hc'⟩
      · obtain ⟨w2, z2⟩ := I.cell y c' e
        exact ⟨w2, z2.sameBut hs hcc⟩
    · obtain ⟨e, n, ne, nf, d⟩ := I.pin p hp
      refine ⟨(hs.2 p.1 ?_).trans e, n, ne, nf, d⟩
      intro q
      rw [q, hoc] at e
      have q' : oc = p.2 := Option.some.inj e
      exact d w' (by rw [← q']; exact hocd)
theorem store_ok {M : Model} {A : Around} {E : Value → Shared → Prop} {i : Nat} {x : Str} {v : V} {u : Value} {Q : Unit → Shared → Prop} (I : Inv X pins σ H s) (hN : X.N.Nodup) (hi : X.N[i]? = some x) (hx : Loc X.env.scope x) (r : RelV v u)
    (h : ∀ s', Inv X pins (σ.set i (some v)) H s' → Q () s') (hf : X.fn x = true ∨ X.env.scope.names.lookup x = some .local := by first | exact .inl rfl | exact .inr rfl | assumption) : wpAny M A (storeName X.env x u) Q E s :=
  store_ok2 I hN hi hx r (fun s' I' _ => h s' I') hf
/-- behind a call or a block, the state as it is -/
theorem Inv.call' {s' : Shared} {ch : List Addr} (I : Inv X pins σ H s) (ho : s'.os = s.os) (u : Un (frs X.stack) ch H H' s.heap s'.heap) (hok : HOk X.prog X.w H' s'.heap) (hg : AllBare s'.gens)
    (hch : ∀ b ∈ ch, (b ∈ X.ex ∨ X.s_0.heap.objs.size ≤ b) ∧ b ≠ X.env.locals ∧ (∀ x c, X.env.cells.lookup x = some c → c ≠ b) ∧ ∀ p ∈ X.pn ++ pins, p.1 ≠ b) : Inv X pins σ H' s' := by
  obtain ⟨h', g', d', t', o'⟩ := s'
  have e : o' = s.os := ho
  subst e
  exact I.call (g' := g') (t' := t') (d' := d') u hok hg hch
end

/-! ### the judgements -/
/-- an exception: its class, its own dict's address (where it has one), the abstract heap behind it -/
abbrev XK := Value → Option Addr → Hp → Prop
abbrev St := List (Option V)
abbrev VK := V → Hp → Prop
/-- an expression's reading; a test's; an argument list's -/
abbrev TE := St → Hp → VK → Prop
abbrev TT := St → Hp → (Bool → Hp → Prop) → Prop
abbrev TA := St → Hp → (List V → Hp → Prop) → Prop
/-- what is wanted behind a statement -/
structure Ends where
  nx : St → Hp → Prop
  rt : VK
  bk : St → Hp → Prop := fun _ _ => False
  ct : St → Hp → Prop := fun _ _ => False
abbrev TS := Ends → St → Hp → Prop

def EP (X : Cx) (pins : List (Addr × Obj)) (σ : St) (Q : VK) (u : Value) (s' : Shared) : Prop := ∃ v H', Inv X pins σ H' s' ∧ RelV v u ∧ Q v H'
def TP (X : Cx) (pins : List (Addr × Obj)) (σ : St) (Q : Bool → Hp → Prop) (b : Bool) (s' : Shared) : Prop := ∃ H', Inv X pins σ H' s' ∧ Q b H'
def AP (X : Cx) (pins : List (Addr × Obj)) (σ : St) (Q : List V → Hp → Prop) (us : List Value) (s' : Shared) : Prop := ∃ vs H', Inv X pins σ H' s' ∧ Vals vs us ∧ Q vs H'
def SP (X : Cx) (pins : List (Addr × Obj)) (D : Ends) (f : Flow) (s' : Shared) : Prop :=
  match f with
  | .next => ∃ σ' H', Inv X pins σ' H' s' ∧ D.nx σ' H'
  | .brk => ∃ σ' H', Inv X pins σ' H' s' ∧ D.bk σ' H'
  | .cont => ∃ σ' H', Inv X pins σ' H' s' ∧ D.ct σ' H'
  | .ret u => ∃ v σ' H', Inv X pins σ' H' s' ∧ RelV v u ∧ D.rt v H'

def PE (X : Cx) (e : Expr) (t : TE) : Prop :=
  ∀ (pins : List (Addr × Obj)) (s : Shared) (σ : St) (H : Hp) (Q : VK), Inv X pins σ H s → t σ H Q → wpAny (model X.prog X.w) X.A (eval e X.env) (EP X pins σ Q) X.xe s
def PT (X : Cx) (e : Expr) (t : TT) : Prop :=
  ∀ (pins : List (Addr × Obj)) (s : Shared) (σ : St) (H : Hp) (Q : Bool → Hp → Prop), Inv X pins σ H s → t σ H Q → wpAny (model X.prog X.w) X.A (isTrue e X.env (eval e X.env)) (TP X pins σ Q) X.xe s
/-- a test whatever its 'whole' is (and, or) -/
def PW (X : Cx) (e : Expr) (t : TT) : Prop :=
  ∀ (whole : Sem Value) (pins : List (Addr × Obj)) (s : Shared) (σ : St) (H : Hp) (Q : Bool → Hp → Prop), Inv X pins σ H s → t σ H Q → wpAny (model X.prog X.w) X.A (isTrue e X.env whole) (TP X pins σ Q) X.xe s
theorem PW.pt {X : Cx} {e : Expr} {t : TT} (h : PW X e t) : PT X e t := h _
/-- an argument list (no star), from the left -/
def PA (X : Cx) (es : List Expr) (t : TA) : Prop :=
  ∀ (pos : Pos) (pins : List (Addr × Obj)) (s : Shared) (σ : St) (H : Hp) (Q : List V → Hp → Prop), Inv X pins σ H s → t σ H Q → wpAny (model X.prog X.w) X.A (spliced (backTo pos (starEach es X.env))) (AP X pins σ Q) X.xe s
def PS (X : Cx) (st : Stmt) (t : TS) : Prop :=
  ∀ (pins : List (Addr × Obj)) (s : Shared) (σ : St) (H : Hp) (D : Ends), Inv X pins σ H s → t D σ H → wpAny (model X.prog X.w) X.A (exec st X.env) (SP X pins D) X.xe s
def PSs (X : Cx) (st : List Stmt) (t : TS) : Prop :=
  ∀ (pins : List (Addr × Obj)) (s : Shared) (σ : St) (H : Hp) (D : Ends), Inv X pins σ H s → t D σ H → wpAny (model X.prog X.w) X.A (execs st X.env) (SP X pins D) X.xe s
/-- weaken the end -/
theorem thn {α : Type} {t : Sem α} {Q Q' : α → Shared → Prop} {M : Model} {A : Around} {E : Value → Shared → Prop} {s : Shared} (h : wpAny M A t Q E s) (hQ : ∀ a s, Q a s → Q' a s) : wpAny M A t Q' E s := wpAny_mono h hQ fun _ _ x => x
end L2

namespace L2
open PySem PySem.Spec PyProof.Rows
section
variable {X : Cx}

/-! ### names and constants -/
def tVar (i : Nat) : TE := fun σ H Q => ∃ v, σ[i]? = some (some v) ∧ Q v H
def tC (v : V) : TE := fun _ H Q => Q v H
theorem pe_var {i : Nat} {x : Str} {pos : Pos} (hN : X.N[i]? = some x) (hv : Vis X.env.scope x) (hd : (x == ("__debug__" : Str)) = false := by decide) (hcd : (x == ("__classdict__" : Str)) = false := by decide) : PE X (.Name x pos) (tVar i) := by
  intro pins s σ H Q I h
  obtain ⟨v, e, h⟩ := h
  obtain ⟨m, hn, hl⟩ := I.loc
  obtain ⟨u, r, l⟩ := hl i x v hN e hv
  have fin : EP X pins σ Q u s := ⟨v, H, I, r, h⟩
  rcases l with ⟨hk, hm⟩ | ⟨hk, c, hc, hcell⟩
  · exact wpAny_Name (wpAny_loadName_local I.ok.kind hk hn hm fin) hd
  · rcases hk with hk | hk
    · exact wpAny_Name (wpAny_loadName_cell I.ok.kind hk hc hcell fin) hd
    · exact wpAny_Name (wpAny_loadName_free I.ok.kind hk hc hcell fin hcd) hd
theorem pe_int {i j pos} : PE X (.Constant (.int i) j pos) (tC (.int i)) := fun _ _ _ H _ I h => wpAny_Constant_int ⟨.int i, H, I.tok _, ⟨_, rfl⟩, h⟩
theorem pe_bl {b j pos} : PE X (.Constant (.bool b) j pos) (tC (.bl b)) := fun _ _ _ H _ I h => Constant_bool ⟨.bl b, H, I, rfl, h⟩
/-- a global name of the def -/
def Gl (X : Cx) (x : Str) : Prop := X.env.kindOf x = some .globalImplicit
theorem ld_glob {E : Value → Shared → Prop} {pins : List (Addr × Obj)} {s : Shared} {σ : St} {H : Hp} {x : Str} {u : Value} {pos : Pos} {Q : Value → Shared → Prop} (I : Inv X pins σ H s) (hg : Gl X x) (hm : X.mg x = some u) (h : Q u s)
    (hd : (x == ("__debug__" : Str)) = false := by decide) : wpAny (model X.prog X.w) X.A (eval (.Name x pos) X.env) Q E s :=
  Calls.Name_function_global I.ok.kind hg (Calls.loadGlobal_global (by rw [I.ok.glob]; exact I.mod.glob.keeps I.bk) hm h) hd
theorem ld_blt {E : Value → Shared → Prop} {pins : List (Addr × Obj)} {s : Shared} {σ : St} {H : Hp} {x : Str} {u : Value} {pos : Pos} {Q : Value → Shared → Prop} (I : Inv X pins σ H s) (hg : Gl X x) (hm : X.mg x = none) (hv : bootBuiltins x = some u) (h : Q u s)
    (hn : x ≠ "__name__" := by decide) (hd : (x == ("__debug__" : Str)) = false := by decide) : wpAny (model X.prog X.w) X.A (eval (.Name x pos) X.env) Q E s := by
  obtain ⟨mb, h1, h2⟩ := I.mod.blt
  exact Calls.Name_function_global I.ok.kind hg (Calls.loadGlobal_builtin (by rw [I.ok.glob]; exact I.mod.glob.keeps I.bk) hm (by rw [I.ok.blt]; exact h1.keeps I.bk) ((h2 x hn).trans hv) h) hd
/-- a module's constant, a class, a function, as a value -/
theorem pe_glob {x : Str} {v : V} {u : Value} {pos : Pos} (hg : Gl X x) (hm : X.mg x = some u) (r : RelV v u) (hd : (x == ("__debug__" : Str)) = false := by decide) : PE X (.Name x pos) (tC v) :=
  fun _ _ _ H _ I h => ld_glob I hg hm ⟨v, H, I, r, h⟩ hd
/-! ### arithmetic -/
/-- two ints -/
def t2I (ta tb : TE) (k : Int → Int → Hp → Prop) : St → Hp → Prop := fun σ H => ta σ H fun x H1 => tb σ H1 fun y H2 => ∃ i j, x = .int i ∧ y = .int j ∧ k i j H2
def tAdd (ta tb : TE) : TE := fun σ H Q => t2I ta tb (fun i j H2 => Q (.int (i + j)) H2) σ H
def tSub (ta tb : TE) : TE := fun σ H Q => t2I ta tb (fun i j H2 => Q (.int (i - j)) H2) σ H
/-- the left factor below 2^64 -/
def tMul (ta tb : TE) : TE := fun σ H Q => t2I ta tb (fun i j H2 => (-(2 ^ 64) < i ∧ i < 2 ^ 64) ∧ Q (.int (i * j)) H2) σ H
variable {a b : Expr} {ta tb : TE} {pos : Pos}
/-! ### comparisons -/
def PC (X : Cx) (op : CmpOp) (a b : Expr) (t : TE) : Prop :=
  ∀ (pins : List (Addr × Obj)) (s : Shared) (σ : St) (H : Hp) (Q : VK), Inv X pins σ H s → t σ H Q →
    wpAny (model X.prog X.w) X.A (eval a X.env) (fun v s₁ => wpAny (model X.prog X.w) X.A (eval b X.env) (fun u s₂ => wpAny (model X.prog X.w) X.A (compareOp op v u) (EP X pins σ Q) X.xe s₂) X.xe s₁) X.xe s
def tCmp (p : Int → Int → Bool) (ta tb : TE) : TE := fun σ H Q => t2I ta tb (fun i j H2 => Q (.bl (p i j)) H2) σ H
abbrev tLt : TE → TE → TE := tCmp fun i j => decide (i < j)
abbrev tLe : TE → TE → TE := tCmp fun i j => decide (i ≤ j)
abbrev tGt : TE → TE → TE := tCmp fun i j => decide (j < i)
abbrev tGe : TE → TE → TE := tCmp fun i j => decide (j ≤ i)
abbrev tEqI : TE → TE → TE := tCmp fun i j => decide (i = j)
abbrev tNeI : TE → TE → TE := tCmp fun i j => !decide (i = j)
/-- is None -/
def tIsN (ta : TE) : TE := fun σ H Q => ta σ H fun x H1 => Q (.bl (decide (x = .non))) H1
def tNotN (ta : TE) : TE := fun σ H Q => ta σ H fun x H1 => Q (.bl (!decide (x = .non))) H1
/-- a comparison as a value, as a test -/
def tB (t : TE) : TT := fun σ H Q => t σ H fun x H1 => ∃ c, x = .bl c ∧ Q c H1
theorem pe_cmp {op : CmpOp} {t : TE} (h : PC X op a b t) (h1 : behindInMarks op b = false := by first | exact nobehind _ (by decide) (by decide) | rfl) : PE X (.Compare a [op] [b] pos) t := fun pins s σ H Q I hw => wpAny_Compare1 (h pins s σ H Q I hw) h1
theorem pt_cmp {op : CmpOp} {t : TE} (h : PC X op a b t) (h1 : behindInMarks op b = false := by first | exact nobehind _ (by decide) (by decide) | rfl) : PT X (.Compare a [op] [b] pos) (tB t) := by
  intro pins s σ H Q I hw
  refine wpAny_isTrue_Compare1 (thn (h pins s σ H _ I hw) fun v s1 h1 => thn h1 fun u s2 h2 => thn h2 fun c s3 ⟨x, H1, I1, r1, q1⟩ => ?_) h1
  obtain ⟨d, rfl, q⟩ := q1
  cases r1
  exact wpAny_truthy_bool ⟨H1, I1, q⟩
/-- an expression whose value is a bool, as a test -/
theorem pt_val {e : Expr} {t : TE} (h : PE X e t) (he : ∀ whole, isTrue e X.env whole = (do let v ← whole; standAt e.pos; holding [v] (truthy v)) := by intro _; rfl) : PT X e (tB t) := by
  intro pins s σ H Q I hw
  refine isTrue_plain (thn (h pins s σ H _ I hw) fun v s1 ⟨x, H1, I1, r1, q1⟩ => ?_) (he _)
  obtain ⟨d, rfl, q⟩ := q1
  cases r1
  exact wpAny_truthy_bool ⟨H1, I1, q⟩

/-! ### and, or, not -/
variable {tA tB' : TT} {rest : List Expr}
def tAnd (t u : TT) : TT := fun σ H Q => t σ H fun c H1 => if c = true then u σ H1 Q else Q false H1
def tOr (t u : TT) : TT := fun σ H Q => t σ H fun c H1 => if c = true then Q true H1 else u σ H1 Q
def tNot (t : TT) : TT := fun σ H Q => t σ H fun c H1 => Q (!c) H1
theorem pw_and1 (ha : PT X a tA) : PW X (.BoolOp .And [a] pos) tA := by
  intro wh pins s σ H Q I h
  refine isTrue_and (thn (ha pins s σ H Q I h) fun c s1 e => ?_)
  cases c with
  | true => exact isTrue_and_nil e
  | false => exact e
theorem pw_or1 (ha : PT X a tA) : PW X (.BoolOp .Or [a] pos) tA := by
  intro wh pins s σ H Q I h
  refine isTrue_or (thn (ha pins s σ H Q I h) fun c s1 e => ?_)
  cases c with
  | false => exact isTrue_or_nil e
  | true => exact e
theorem pw_and (ha : PT X a tA) (hb : PW X (.BoolOp .And (b :: rest) pos) tB') : PW X (.BoolOp .And (a :: b :: rest) pos) (tAnd tA tB') := by
  intro wh pins s σ H Q I h
  refine isTrue_and (thn (ha pins s σ H _ I h) fun c s1 ⟨H1, I1, q1⟩ => ?_)
  cases c with
  | true => exact hb wh pins s1 σ H1 Q I1 q1
  | false => exact ⟨H1, I1, q1⟩
theorem pw_or (ha : PT X a tA) (hb : PW X (.BoolOp .Or (b :: rest) pos) tB') : PW X (.BoolOp .Or (a :: b :: rest) pos) (tOr tA tB') := by
  intro wh pins s σ H Q I h
  refine isTrue_or (thn (ha pins s σ H _ I h) fun c s1 ⟨H1, I1, q1⟩ => ?_)
  cases c with
  | true => exact ⟨H1, I1, q1⟩
  | false => exact hb wh pins s1 σ H1 Q I1 q1
theorem pt_not (ha : PT X a tA) : PT X (.UnaryOp .Not a pos) (tNot tA) := by
  intro pins s σ H Q I h
  exact isTrue_not (ha pins s σ H (fun c H1 => Q (!c) H1) I h)
/-- .. as values (bools) -/
def tAndV (ta tb : TE) : TE := fun σ H Q => ta σ H fun x H1 => ∃ c, x = .bl c ∧ if c = true then tb σ H1 Q else Q (.bl false) H1
def tOrV (ta tb : TE) : TE := fun σ H Q => ta σ H fun x H1 => ∃ c, x = .bl c ∧ if c = true then Q (.bl true) H1 else tb σ H1 Q
def tNotV (ta : TE) : TE := fun σ H Q => ta σ H fun x H1 => ∃ c, x = .bl c ∧ Q (.bl (!c)) H1
theorem pe_one {op} {t : TE} (h : PE X a t) : PE X (.BoolOp op [a] pos) t := fun pins s σ H Q I hw => BoolOp_one (h pins s σ H Q I hw)
theorem pe_and (ha : PE X a ta) (hb : PE X (.BoolOp .And (b :: rest) pos) tb) : PE X (.BoolOp .And (a :: b :: rest) pos) (tAndV ta tb) := by
  intro pins s σ H Q I h
  refine BoolOp_and (thn (ha pins s σ H _ I h) fun v s1 ⟨x, H1, I1, r1, q1⟩ => ?_)
  obtain ⟨c, rfl, q1⟩ := q1
  cases r1
  refine wpAny_truthy_bool ?_
  cases c with
  | true => exact hb pins s1 σ H1 Q I1 q1
  | false => exact ⟨.bl false, H1, I1, rfl, q1⟩
/-- a if t else b -/
def tIf (t : TT) (ta tb : TE) : TE := fun σ H Q => t σ H fun c H1 => if c = true then ta σ H1 Q else tb σ H1 Q
theorem pe_ifExp {c : Expr} (hc : PT X c tA) (ha : PE X a ta) (hb : PE X b tb) : PE X (.IfExp c a b pos) (tIf tA ta tb) := by
  intro pins s σ H Q I h
  refine wpAny_IfExp (thn (hc pins s σ H _ I h) fun d s1 ⟨H1, I1, q1⟩ => ?_)
  cases d with
  | true => exact ha pins s1 σ H1 Q I1 q1
  | false => exact hb pins s1 σ H1 Q I1 q1
end
end L2

namespace L2
open PySem PySem.Spec PyProof.Rows

/-! ### a list, a tuple that is read: tracked, frozen, or an object of the module -/
def SqL (K : PySem.W.Frag) (H : Hp) (a : Addr) (xs : List V) : Prop :=
  Rd H a (.lst xs) ∨
    ∃ (o : Obj) (its : Array Value) (n : Nat), K.lookup a = some o ∧ o.cls = .type "list" ∧ o.dict = none ∧ o.data = .seq its n ∧ its.size ≤ sizeLine ∧ Vals xs its.toList
def SqT (K : PySem.W.Frag) (H : Hp) (a : Addr) (xs : List V) : Prop :=
  Rd H a (.tup xs) ∨
    ∃ (o : Obj) (its : Array Value) (n : Nat), K.lookup a = some o ∧ o.cls = .type "tuple" ∧ o.data = .seq its n ∧ its.size ≤ sizeLine ∧ Vals xs its.toList
def absV : Value → Option V
  | .none => some .non
  | .bool b => some (.bl b)
  | .int i _ => some (.int i)
  | .str x _ => some (.str x)
  | .bytes b _ => some (.byt b)
  | .float b _ => some (.flt b)
  | .ref a => some (.ref a)
  | .type n => some (.ty n)
  | _ => none
theorem RelV.abs {x : V} {u : Value} (r : RelV x u) : absV u = some x := by
  cases x with
  | non => cases r; rfl
  | bl _ => cases r; rfl
  | int _ => obtain ⟨t, rfl⟩ := r; rfl
  | str _ => obtain ⟨t, rfl⟩ := r; rfl
  | byt _ => obtain ⟨t, rfl⟩ := r; rfl
  | flt _ => obtain ⟨t, rfl⟩ := r; rfl
  | ref _ => cases r; rfl
  | ty _ => cases r; rfl
theorem RelV.inj {x y : V} {u : Value} (r : RelV x u) (q : RelV y u) : x = y := Option.some.inj (r.abs.symm.trans q.abs)
theorem Vals.inj : ∀ {xs ys : List V} {us : List Value}, Vals xs us → Vals ys us → xs = ys
  | _, _, _, .nil, .nil => rfl
  | _, _, _, .cons r t, .cons r' t' => by rw [r.inj r', Vals.inj t t']
section
variable {X : Cx} {pins : List (Addr × Obj)} {σ : St} {H : Hp} {s : Shared} {a : Addr} {xs ys : List V}
theorem SqL.of {K : PySem.W.Frag} (h : H a = some (.lst xs)) : SqL K H a xs := .inl (.inl h)
theorem SqT.of {K : PySem.W.Frag} (h : H a = some (.tup xs)) : SqT K H a xs := .inl (.inl h)
theorem Inv.list (I : Inv X pins σ H s) (h : SqL X.K H a xs) : ∃ its : List Value, Vals xs its ∧ PlainL s.heap a its.toArray ∧ xs.length ≤ sizeLine := by
  rcases h with h | ⟨o, its, n, hk, hc, hd, hs, hz, r⟩
  · obtain ⟨z, its, n, r, e⟩ := h.ok I.hok
    exact ⟨its, r, ⟨_, n, e, rfl, rfl, rfl⟩, z⟩
  · refine ⟨its.toList, r, ⟨o, n, I.kIn a o hk, hc, hd, by simpa using hs⟩, ?_⟩
    have e := r.length
    simp only [Array.length_toList] at e
    omega
theorem Inv.tuple (I : Inv X pins σ H s) (h : SqT X.K H a xs) : ∃ its : List Value, Vals xs its ∧ IsTup s.heap a its.toArray ∧ xs.length ≤ sizeLine := by
  rcases h with h | ⟨o, its, n, hk, hc, hs, hz, r⟩
  · obtain ⟨z, its, r, p⟩ := h.ok I.hok
    exact ⟨its, r, p, z⟩
  · refine ⟨its.toList, r, ⟨o, I.kIn a o hk, hc, n, by simpa using hs⟩, ?_⟩
    have e := r.length
    simp only [Array.length_toList] at e
    omega
theorem Inv.list_inj (I : Inv X pins σ H s) (h : SqL X.K H a xs) (h' : SqL X.K H a ys) : xs = ys := by
  obtain ⟨its, r, ⟨o, n, e, _, _, d⟩, _⟩ := I.list h
  obtain ⟨its', r', ⟨o', n', e', _, _, d'⟩, _⟩ := I.list h'
  rw [e] at e'; cases e'
  rw [d] at d'
  injection d' with d1 _
  have : its = its' := by simpa using congrArg Array.toList d1
  subst this
  exact r.inj r'
end

/-! ### another wish about exceptions -/
abbrev Cx.wish (X : Cx) (E : Value → Shared → Prop) : Cx := { X with xe := E }
/-- no exception leaves -/
abbrev Cx.nox (X : Cx) : Cx := X.wish fun _ _ => False
theorem Cx.Ok.wish {X : Cx} (ok : X.Ok) (E : Value → Shared → Prop) : (X.wish E).Ok :=
  ⟨ok.mod, ok.kind, ok.glob, ok.blt, ok.above, ok.inj, ok.has, ok.cab, ok.hd, ok.frames, ok.stk, ok.exf, ok.bs, ok.bsz, ok.noex, ok.exfs, ok.funs, ok.frf⟩
theorem Cx.Ok.unwish {X : Cx} {E : Value → Shared → Prop} (ok : (X.wish E).Ok) : X.Ok :=
  ⟨ok.mod, ok.kind, ok.glob, ok.blt, ok.above, ok.inj, ok.has, ok.cab, ok.hd, ok.frames, ok.stk, ok.exf, ok.bs, ok.bsz, ok.noex, ok.exfs, ok.funs, ok.frf⟩
section
variable {X : Cx} {pins : List (Addr × Obj)} {σ : St} {H : Hp} {s : Shared} {E : Value → Shared → Prop}
theorem Inv.wish (I : Inv X pins σ H s) (E : Value → Shared → Prop) : Inv (X.wish E) pins σ H s := ⟨I.ok.wish E, I.os, I.bare, I.base, I.loc, I.cell, I.free, I.freeC, I.pin, I.hok, I.len⟩
theorem Inv.unwish (I : Inv (X.wish E) pins σ H s) : Inv X pins σ H s := ⟨I.ok.unwish, I.os, I.bare, I.base, I.loc, I.cell, I.free, I.freeC, I.pin, I.hok, I.len⟩
theorem SP.unwish {D : Ends} {f : Flow} {s' : Shared} (h : SP (X.wish E) pins D f s') : SP X pins D f s' := by
  cases f with
  | next => obtain ⟨σ', H', I, q⟩ := h; exact ⟨σ', H', I.unwish, q⟩
  | brk => obtain ⟨σ', H', I, q⟩ := h; exact ⟨σ', H', I.unwish, q⟩
  | cont => obtain ⟨σ', H', I, q⟩ := h; exact ⟨σ', H', I.unwish, q⟩
  | ret u => obtain ⟨v, σ', H', I, r, q⟩ := h; exact ⟨v, σ', H', I.unwish, r, q⟩
theorem PSs.nox {st : List Stmt} {t : TS} (h : PSs X.nox st t) : PSs X st t := fun pins s σ H D I hw =>
  wpAny_mono (h pins s σ H D (I.wish _) hw) (fun _ _ q => q.unwish) fun _ _ z => False.elim z
end

/-! ### blocks and small statements -/
section
variable {X : Cx} {st : Stmt} {rest : List Stmt} {t u : TS} {e : Expr} {te : TE} {pos : Pos}
def tNext : TS := fun D σ H => D.nx σ H
def tSeq (t u : TS) : TS := fun D σ H => t { D with nx := u D } σ H
theorem pss_nil : PSs X [] tNext := fun _ _ σ H _ I h => wpAny_execs_nil ⟨σ, H, I, h⟩
theorem pss_cons (h1 : PS X st t) (h2 : PSs X rest u) : PSs X (st :: rest) (tSeq t u) := by
  intro pins s σ H D I h
  refine wpAny_execs_cons (thn (h1 pins s σ H { D with nx := u D } I h) fun f s1 q => ?_)
  cases f with
  | next =>
    obtain ⟨σ', H', I', q⟩ := q
    exact h2 pins s1 σ' H' D I' q
  | ret v => exact q
  | brk => exact q
  | cont => exact q
theorem pss_one (h1 : PS X st t) : PSs X [st] t := by
  intro pins s σ H D I h
  refine wpAny_execs_cons (thn (h1 pins s σ H D I h) fun f s1 q => ?_)
  cases f with
  | next => exact wpAny_execs_nil q
  | ret v => exact q
  | brk => exact q
  | cont => exact q
def tBreak : TS := fun D σ H => D.bk σ H
def tCont : TS := fun D σ H => D.ct σ H
/-- in a def's body nothing is shown -/
theorem Inv.quiet {pins : List (Addr × Obj)} {σ : St} {H : Hp} {s : Shared} (I : Inv X pins σ H s) : interactive X.env = false := by simp [interactive, I.ok.kind]
/-- an expression whose value is dropped -/
def tDrop (te : TE) : TS := fun D σ H => te σ H fun _ H1 => D.nx σ H1
theorem ps_expr (he : PE X e te) (hs : swapsWith e none pos.line X.env = pure false := by rfl) : PS X (.Expr e pos) (tDrop te) := by
  intro pins s σ H D I h
  exact wpAny_Expr_any (thn (he pins s σ H _ I h) fun v s1 ⟨x, H1, I1, r1, q1⟩ => ⟨σ, H1, I1, q1⟩) I.quiet hs
def tRet (te : TE) : TS := fun D σ H => te σ H D.rt
theorem ps_ret (he : PE X e te) : PS X (.Return (some e) pos) (tRet te) := by
  intro pins s σ H D I h
  exact wpAny_Return_some (thn (he pins s σ H _ I h) fun v s1 ⟨x, H1, I1, r1, q1⟩ => ⟨x, σ, H1, I1, r1, q1⟩)
def tRetN : TS := fun D _ H => D.rt .non H
def tIfS (c : TT) (t u : TS) : TS := fun D σ H => c σ H fun b H1 => if b = true then t D σ H1 else u D σ H1
theorem ps_if {c : Expr} {a b : List Stmt} {tc : TT} (hc : PT X c tc) (ha : PSs X a t) (hb : PSs X b u) : PS X (.If c a b pos) (tIfS tc t u) := by
  intro pins s σ H D I h
  refine wpAny_If (thn (hc pins s σ H _ I h) fun d s1 ⟨H1, I1, q1⟩ => ?_)
  cases d with
  | true => exact ha pins s1 σ H1 D I1 q1
  | false => exact hb pins s1 σ H1 D I1 q1
/-- code that the proof never comes to -/
def tNever : TS := fun _ _ _ => False
end

/-! ### targets -/
abbrev TG := V → St → Hp → (St → Hp → Prop) → Prop
abbrev TGs := List V → St → Hp → (St → Hp → Prop) → Prop
def PG (X : Cx) (target : Expr) (t : TG) : Prop :=
  ∀ (pins : List (Addr × Obj)) (s : Shared) (σ : St) (H : Hp) (v : V) (u : Value) (Q : St → Hp → Prop), Inv X pins σ H s → RelV v u → t v σ H Q →
    wpAny (model X.prog X.w) X.A (assign target X.env u) (fun _ s' => ∃ σ' H', Inv X pins σ' H' s' ∧ Q σ' H') X.xe s
/-- several targets, one after another -/
def PGs (X : Cx) (ts : List Expr) (t : TGs) : Prop :=
  ∀ (pins : List (Addr × Obj)) (s : Shared) (σ : St) (H : Hp) (vs : List V) (us : List Value) (Q : St → Hp → Prop), Inv X pins σ H s → Vals vs us → t vs σ H Q →
    wpAny (model X.prog X.w) X.A (assignInOrder ((assignEach ts X.env).map (·.2)) us) (fun _ s' => ∃ σ' H', Inv X pins σ' H' s' ∧ Q σ' H') X.xe s
/-- o[i] = v, by values -/
abbrev TSet := V → V → V → Hp → (Hp → Prop) → Prop
def PSet (X : Cx) (t : TSet) : Prop :=
  ∀ (pins : List (Addr × Obj)) (s : Shared) (σ : St) (H : Hp) (o i v : V) (ov iv u : Value) (Q : Hp → Prop), Inv X pins σ H s → RelV o ov → RelV i iv → RelV v u → t o i v H Q →
    wpAny (model X.prog X.w) X.A (setItem ov iv u) (fun _ s' => ∃ H', Inv X pins σ H' s' ∧ Q H') X.xe s
/-- a op= b, by values -/
abbrev TIp := V → V → Hp → VK → Prop
def PIp (X : Cx) (op : Operator) (t : TIp) : Prop :=
  ∀ (pins : List (Addr × Obj)) (s : Shared) (σ : St) (H : Hp) (x y : V) (v u : Value) (Q : VK), Inv X pins σ H s → RelV x v → RelV y u → t x y H Q →
    wpAny (model X.prog X.w) X.A (inplaceOp op v u) (EP X pins σ Q) X.xe s
section
variable {X : Cx} {pos : Pos}
def gName (i : Nat) : TG := fun v σ H Q => Q (σ.set i (some v)) H
theorem pg_name {i : Nat} {x : Str} (hN : X.N.Nodup) (hi : X.N[i]? = some x) (hx : Loc X.env.scope x) (hf : X.fn x = true ∨ X.env.scope.names.lookup x = some .local := by first | exact .inl rfl | exact .inr rfl | assumption) : PG X (.Name x pos) (gName i) := by
  intro pins s σ H v u Q I r h
  exact wpAny_assign_Name (store_ok I hN hi hx r (fun s' I' => ⟨_, H, I', h⟩) hf)
def gNil : TGs := fun vs σ H Q => vs = [] ∧ Q σ H
def gCons (t : TG) (u : TGs) : TGs := fun vs σ H Q => ∃ v r, vs = v :: r ∧ t v σ H fun σ' H' => u r σ' H' Q
/-- (a, b, ..) = a tuple of that length -/
def gTup (K : PySem.W.Frag) (n : Nat) (t : TGs) : TG := fun v σ H Q => ∃ a xs, v = .ref a ∧ SqT K H a xs ∧ xs.length = n ∧ t xs σ H Q
/-- o[i] = .. -/
def gSub (to ti : TE) (t : TSet) : TG := fun v σ H Q => to σ H fun o H1 => ti σ H1 fun i H2 => t o i v H2 fun H3 => Q σ H3
theorem pg_sub {o i : Expr} {to ti : TE} {t : TSet} (ho : PE X o to) (hi : PE X i ti) (hs : PSet X t)
    (ha : ∀ v, assign (.Subscript o i pos) X.env v = (do
      let ov ← holding [v] (eval o X.env)
      let iv ← holding [v, ov] (eval i X.env)
      standAt pos
      holding [v, ov, iv] (setItem ov iv v)
      release [v, ov, iv] []) := by intro _; rfl) : PG X (.Subscript o i pos) (gSub to ti t) := by
  intro pins s σ H v u Q I r h
  rw [ha]
  refine wpAny_bind (wpAny_holding (thn (ho pins s σ H _ I h) fun ov s1 ⟨x, H1, I1, r1, q1⟩ => ?_))
  refine wpAny_bind (wpAny_holding (thn (hi pins s1 σ H1 _ I1 q1) fun iv s2 ⟨y, H2, I2, r2, q2⟩ => ?_))
  refine wpAny_bind (wpAny_standAt (wpAny_bind (wpAny_holding (thn (hs pins s2 σ H2 x y v ov iv u _ I2 r1 r2 r q2) fun _ s3 ⟨H3, I3, q3⟩ => ?_))))
  exact wpAny_release ⟨σ, H3, I3, q3⟩
/-- target = value -/
def tAsg (te : TE) (g : TG) : TS := fun D σ H => te σ H fun x H1 => g x σ H1 D.nx
theorem ps_asg {tg e : Expr} {te : TE} {g : TG} (he : PE X e te) (hg : PG X tg g) (hs : swapsWithSole [tg] e pos.line X.env = pure false := by rfl) (hw : swappedStores [tg] e X.env = pure none := by rfl)
    (h1 : (assignEach [tg] X.env).map (·.2) = [assign tg X.env] := by rfl) : PS X (.Assign [tg] e pos) (tAsg te g) := by
  intro pins s σ H D I h
  refine wpAny_Assign_stores (thn (he pins s σ H _ I h) fun v s1 ⟨x, H1, I1, r1, q1⟩ => ?_) hs hw
  rw [h1]
  exact thn (hg pins s1 σ H1 x v _ I1 r1 q1) fun _ s2 q => q
/-- name = value -/
theorem ps_set {i : Nat} {x : Str} {e : Expr} {te : TE} {pos' : Pos} (hN : X.N.Nodup) (hi : X.N[i]? = some x) (hx : Loc X.env.scope x) (he : PE X e te) (hs : swapsWith e (some (.Name x pos')) pos.line X.env = pure false := by rfl) (hf : X.fn x = true ∨ X.env.scope.names.lookup x = some .local := by first | exact .inl rfl | exact .inr rfl | assumption) :
    PS X (.Assign [.Name x pos'] e pos) (tAsg te (gName i)) := by
  intro pins s σ H D I h
  refine wpAny_Assign_Name (thn (he pins s σ H _ I h) fun v s1 ⟨y, H1, I1, r1, q1⟩ => ?_) hs
  exact store_ok I1 hN hi hx r1 (fun s2 I2 => ⟨_, H1, I2, q1⟩) hf
/-- a, b = x, y with plain local names: stored from the right; the pair itself is not tracked (the opening rows as in PyProof/Rows/TupAssign.lean:23) -/
def tPar (i j : Nat) (ta : TA) : TS := fun D σ H => ta σ H fun vs H1 => ∃ v w, vs = [v, w] ∧ D.nx ((σ.set i (some v)).set j (some w)) H1
/-- name op= e -/
def tAug (i : Nat) (te : TE) (ti : TIp) : TS := fun D σ H => ∃ x, σ[i]? = some (some x) ∧ te σ H fun y H1 => ti x y H1 fun z H2 => D.nx (σ.set i (some z)) H2
theorem ps_aug {i : Nat} {x : Str} {e : Expr} {te : TE} {op : Operator} {ti : TIp} {pos' : Pos} (hN : X.N.Nodup) (hi : X.N[i]? = some x) (hx : Loc X.env.scope x) (he : PE X e te) (ho : PIp X op ti) (hf : X.fn x = true ∨ X.env.scope.names.lookup x = some .local := by first | exact .inl rfl | exact .inr rfl | assumption) :
    PS X (.AugAssign (.Name x pos') op e pos) (tAug i te ti) := by
  intro pins s σ H D I h
  obtain ⟨v, e1, h⟩ := h
  obtain ⟨m, hn, hl⟩ := I.loc
  have vis : Vis X.env.scope x := by rcases hx with k | k; exact .inl k; exact .inr (.inl k)
  obtain ⟨u, r, l⟩ := hl i x v hi e1 vis
  refine wpAny_AugAssign_Name ?_
  have go : wpAny (model X.prog X.w) X.A (eval e X.env) (fun w s₂ => wpAny (model X.prog X.w) X.A (inplaceOp op u w) (fun r s₃ => wpAny (model X.prog X.w) X.A (storeName X.env x r) (fun _ => SP X pins D .next) X.xe s₃) X.xe s₂) X.xe s := by
    refine thn (he pins s σ H _ I h) fun w s1 ⟨y, H1, I1, r1, q1⟩ => ?_
    refine thn (ho pins s1 σ H1 v y u w _ I1 r r1 q1) fun z s2 ⟨zv, H2, I2, r2, q2⟩ => ?_
    exact store_ok I2 hN hi hx r2 (fun s3 I3 => ⟨_, H2, I3, q2⟩) hf
  rcases l with ⟨hk, hm⟩ | ⟨hk, c, hc, hcell⟩
  · exact wpAny_loadName_local I.ok.kind hk hn hm go
  · rcases hk with hk | hk
    · exact wpAny_loadName_cell I.ok.kind hk hc hcell go
    · rcases hx with k | k
      · have : X.env.scope.names.lookup x = some .free := hk
        rw [k] at this; cases this
      · have : X.env.scope.names.lookup x = some .free := hk
        rw [k] at this; cases this
/-- o[i] op= e -/
def tAugS (to ti te : TE) (tget : V → V → Hp → VK → Prop) (tip : TIp) (tset : TSet) : TS := fun D σ H => to σ H fun o H1 => ti σ H1 fun i H2 => tget o i H2 fun x H3 => te σ H3 fun y H4 => tip x y H4 fun z H5 => tset o i z H5 fun H6 => D.nx σ H6
/-- o[i], by values -/
def PGet (X : Cx) (t : V → V → Hp → VK → Prop) : Prop :=
  ∀ (pins : List (Addr × Obj)) (s : Shared) (σ : St) (H : Hp) (o i : V) (ov iv : Value) (Q : VK), Inv X pins σ H s → RelV o ov → RelV i iv → t o i H Q →
    wpAny (model X.prog X.w) X.A (getItem ov iv) (EP X pins σ Q) X.xe s
/-- ints -/
def ipI (f : Int → Int → Int) : TIp := fun x y H Q => ∃ i j, x = .int i ∧ y = .int j ∧ Q (.int (f i j)) H
theorem ip_add : PIp X .Add (ipI fun i j => i + j) := by
  intro pins s σ H x y v u Q I r1 r2 h
  obtain ⟨i, j, e1, e2, q⟩ := h
  subst e1; subst e2
  obtain ⟨t, rfl⟩ := r1
  obtain ⟨t', rfl⟩ := r2
  exact iadd_int ⟨.int _, H, I.tok _, ⟨_, rfl⟩, q⟩
end

/-! ### while -/
section
variable {X : Cx} {pos : Pos}
/-- the invariant W with its measure -/
def tWhile (c : TT) (tb : TS) : TS := fun D σ H => ∃ W : Nat → St → Hp → Prop, (∃ m, W m σ H) ∧ ∀ m σ H, W m σ H →
  c σ H fun b H1 => if b = true then ∃ N : St → Hp → Prop, (∀ σ' H', N σ' H' → ∃ m', m' < m ∧ W m' σ' H') ∧ tb { D with nx := N, ct := N, bk := D.nx } σ H1 else D.nx σ H1
theorem ps_while {c : Expr} {body : List Stmt} {tc : TT} {tb : TS} (hp : PassesOwn (model X.prog X.w) X.A X.env X.xe) (hc : PT X c tc) (hb : PSs X body tb) : PS X (.While c body [] pos) (tWhile tc tb) := by
  intro pins s σ H D I h
  obtain ⟨W, ⟨m0, w0⟩, turn⟩ := h
  refine wpAny_While (codeAny_whileLoop (fun n s' => ∃ σ' H', Inv X pins σ' H' s' ∧ W n σ' H') ?_ m0 ⟨σ, H, I, w0⟩)
  rintro n s1 ⟨σ1, H1, I1, w1⟩
  refine wpAny_passesOwn hp (thn (hc pins s1 σ1 H1 _ I1 (turn n σ1 H1 w1)) fun b s2 ⟨H2, I2, q2⟩ => ?_)
  cases b with
  | true =>
    obtain ⟨N, hN, q2⟩ := q2
    rw [if_pos rfl]
    refine wpAny_passesOwn hp (thn (hb pins s2 σ1 H2 _ I2 q2) fun f s3 q3 => ?_)
    cases f with
    | next =>
      obtain ⟨σ3, H3, I3, n3⟩ := q3
      obtain ⟨m', hm, w3⟩ := hN σ3 H3 n3
      exact ⟨m', hm, σ3, H3, I3, w3⟩
    | cont =>
      obtain ⟨σ3, H3, I3, n3⟩ := q3
      obtain ⟨m', hm, w3⟩ := hN σ3 H3 n3
      exact ⟨m', hm, σ3, H3, I3, w3⟩
    | brk => exact q3
    | ret v => exact q3
  | false =>
    rw [if_neg Bool.false_ne_true]
    exact wpAny_execs_nil ⟨σ1, H2, I2, q2⟩
end

/-! ### what a loop or a comprehension walks -/
/-- at turn i: it yields x (the heap may grow), or it stops -/
structure It where
  go : Nat → Hp → Prop
  yld : Nat → Hp → V → Hp → Prop
  stop : Nat → Hp → Prop
/-- the iterator's own objects may turn: they are not the frame's, not pinned, younger than the entry (or a comprehension's own) -/
def FpOk (X : Cx) (pins : List (Addr × Obj)) (H : Hp) (b : Addr) : Prop :=
  H b = none ∧ b ≠ X.env.locals ∧ b ∉ X.fs ∧ (b ∈ X.ex ∨ X.s_0.heap.objs.size ≤ b) ∧ (∀ x c, X.env.cells.lookup x = some c → c ≠ b) ∧ ∀ p ∈ X.pn ++ pins, p.1 ≠ b
theorem Inv.fpOk {X : Cx} {pins : List (Addr × Obj)} {σ : St} {H H' : Hp} {s : Shared} {b : Addr} (I : Inv X pins σ H s) (hb : s.heap.objs.size ≤ b) (hn : H' b = none) : FpOk X pins H' b := by
  refine ⟨hn, Nat.ne_of_gt (Nat.lt_of_lt_of_le I.lt hb), I.nofs hb, .inr (Nat.le_trans I.sz hb), fun x c e z => ?_, fun p hp z => ?_⟩
  · obtain ⟨v, q⟩ := I.cell x c e
    exact absurd (Nat.lt_of_lt_of_le q.lt (by rw [z]; exact hb)) (Nat.lt_irrefl _)
  · exact absurd (Nat.lt_of_lt_of_le (Heap.lt_size (I.pin p hp).1) (by rw [z]; exact hb)) (Nat.lt_irrefl _)
structure Turn (P : Program) (w : World) (K : PySem.W.Frag) (tg : Expr) (J : It) (fp : List Addr) (it : Addr) (tn : Nat → Heap → Prop) : Prop where
  mem : it ∈ fp
  obj : ∀ i h, tn i h → ∀ b ∈ fp, ∃ o, h.get? b = some o ∧ ∀ v, o.data ≠ .cell v
  keep : ∀ i h h', tn i h → (∀ b ∈ fp, ∀ o, h.get? b = some o → h'.get? b = some o) → tn i h'
  item : ∀ (X : Cx), X.prog = P → X.w = w → X.K = K → X.calm = true → ∀ (i : Nat) (pins : List (Addr × Obj)) (s : Shared) (σ : St) (H : Hp) (E : Value → Shared → Prop), Inv X pins σ H s → (∀ b ∈ fp, FpOk X pins H b) → tn i s.heap → J.go i H →
    wpAny (model P w) X.A (pyNext (.ref it)) (fun r s1 => ∃ u, r = some u ∧
      wpAny (model P w) X.A (letOwnedTupleGo tg (.ref it) u) (fun _ s2 => ∃ x H', Inv X pins σ H' s2 ∧ RelV x u ∧ J.yld i H x H' ∧ tn (i + 1) s2.heap ∧ ∀ b ∈ fp, H' b = none) E s1) E s
  done : ∀ (X : Cx), X.prog = P → X.w = w → X.K = K → X.calm = true → ∀ (i : Nat) (pins : List (Addr × Obj)) (s : Shared) (σ : St) (H : Hp) (E : Value → Shared → Prop), Inv X pins σ H s → (∀ b ∈ fp, FpOk X pins H b) → tn i s.heap → J.stop i H →
    wpAny (model P w) X.A (pyNext (.ref it)) (fun r s1 => r = none ∧ Inv X pins σ H s1) E s
  self : ∀ (A : Around) (i : Nat) (s : Shared) (Q : Value → Shared → Prop) (E : Value → Shared → Prop), tn i s.heap → Q (.ref it) s → wpAny (model P w) A (pyIter (.ref it)) Q E s
abbrev TI := St → Hp → (It → Hp → Prop) → Prop
/-- an iterator has come -/
def PIE (X : Cx) (pins : List (Addr × Obj)) (σ : St) (tg : Expr) (R : It → Hp → Prop) (itv : Value) (s2 : Shared) : Prop :=
  ∃ (it : Addr) (fp : List Addr) (tn : Nat → Heap → Prop) (J : It) (H' : Hp), itv = .ref it ∧ Inv X pins σ H' s2 ∧ Turn X.prog X.w X.K tg J fp it tn ∧ tn 0 s2.heap ∧ (∀ b ∈ fp, FpOk X pins H' b) ∧ R J H'
def PI (X : Cx) (tg iter : Expr) (wi : TI) : Prop :=
  ∀ (pins : List (Addr × Obj)) (s : Shared) (σ : St) (H : Hp) (R : It → Hp → Prop), Inv X pins σ H s → wi σ H R →
    wpAny (model X.prog X.w) X.A (eval iter X.env) (fun v s1 => wpAny (model X.prog X.w) X.A (pyIter v) (PIE X pins σ tg R) X.xe s1) X.xe s

/-- the step ahead of the store is nothing for an iterator that keeps no tuple -/
theorem go_of {M : Model} {A : Around} {E : Value → Shared → Prop} {s : Shared} {tg : Expr} {it : Addr} {u : Value} {o : Obj} {n : String} {vs : Array Value} {Q : Unit → Shared → Prop} (ho : s.heap.get? it = some o) (hc : o.cls = .type n) (hd : o.data = .fields vs)
    (hn : ["enumerate", "zip", "dict_itemiterator", "dict_reverseitemiterator", "odict_iterator", "itertools.zip_longest", "itertools.pairwise"].contains n = false) (hQ : Q () s) : wpAny M A (letOwnedTupleGo tg (.ref it) u) Q E s := by
  unfold letOwnedTupleGo
  cases tg <;> first
    | exact wpAny_pure hQ
    | (cases u <;> first
        | exact wpAny_pure hQ
        | (refine wpAny_bind (wpAny_load ho ?_)
           rw [hc, hd]
           show wpAny M A (if (["enumerate", "zip", "dict_itemiterator", "dict_reverseitemiterator", "odict_iterator", "itertools.zip_longest", "itertools.pairwise"].contains n && vs[0]? == some (rawInt _)) = true then _ else _) Q E s
           rw [if_neg (by intro h; rw [hn, Bool.false_and] at h; cases h)]
           exact wpAny_pure hQ))

/-- the list at a, as it stands at each turn (a loop may append to it) -/
def Itl (K : PySem.W.Frag) (a : Addr) : It :=
  ⟨fun i H => ∃ xs x, SqL K H a xs ∧ xs[i]? = some x, fun i H x H' => H' = H ∧ ∀ xs, SqL K H a xs → xs[i]? = some x, fun i H => ∃ xs, SqL K H a xs ∧ xs.length ≤ i⟩
def Itt (K : PySem.W.Frag) (a : Addr) : It :=
  ⟨fun i H => ∃ xs x, SqT K H a xs ∧ xs[i]? = some x, fun i H x H' => H' = H ∧ ∀ xs, SqT K H a xs → xs[i]? = some x, fun i H => ∃ xs, SqT K H a xs ∧ xs.length ≤ i⟩
/-- lo, lo + 1, .. (n of them) -/
def Itr (lo : Int) (n : Nat) : It := ⟨fun i _ => i < n, fun i H x H' => H' = H ∧ x = .int (lo + i), fun i _ => n ≤ i⟩
theorem turn_list {P : Program} {w : World} {K : PySem.W.Frag} {tg : Expr} (a it : Addr) : Turn P w K tg (Itl K a) [it] it (fun i h => h.IsListIter it a i) where
  mem := by simp
  obj := fun i h st b hb => by
    have e : b = it := by simpa using hb
    subst e
    obtain ⟨o, e, c, d⟩ := st
    exact ⟨o, e, fun v z => by rw [d] at z; cases z⟩
  keep := fun i h h' st k => st.at fun o e => k it (by simp) o e
  item := by
    intro X hP hw hK hc i pins s σ H E I hf st hg
    subst hP hw hK
    obtain ⟨xs, x, hq, hx⟩ := hg
    obtain ⟨its, rv, p, hz⟩ := I.list hq
    obtain ⟨u, hu, ru⟩ := rv.get hx
    obtain ⟨f0, f1, f2, f3, f4, f5⟩ := hf it (by simp)
    refine wpAny_pyNext_list_item st p.isList (x := u) (by simpa using hu) fun h' st' sb => ?_
    have I1 : Inv X pins σ H { s with heap := h' } := I.turned (t' := s.toks) (fun b o hb e => (sb.2 b hb).trans e) f0 f1 f3 f4 f5
    obtain ⟨o, e, c, d⟩ := id st'
    exact ⟨u, rfl, go_of (s := { s with heap := h' }) e c d (by decide) ⟨x, H, I1, ru, ⟨rfl, fun ys hy => by rw [I.list_inj hy hq]; exact hx⟩, st', fun b hb => (hf b hb).1⟩⟩
  done := by
    intro X hP hw hK hc i pins s σ H E I hf st hg
    subst hP hw hK
    obtain ⟨xs, hq, hx⟩ := hg
    obtain ⟨its, rv, p, hz⟩ := I.list hq
    obtain ⟨f0, f1, f2, f3, f4, f5⟩ := hf it (by simp)
    have hl := rv.length
    exact wpAny_pyNext_list_end (I.ok.hd hc) st p.isList (by simp; omega) fun h' eb => ⟨rfl, I.turned (t' := s.toks) (fun b o hb e => eb b o hb e) f0 f1 f3 f4 f5⟩
  self := fun _ _ _ _ _ st h => wpAny_pyIter_listiter st h
theorem turn_range {P : Program} {w : World} {K : PySem.W.Frag} {tg : Expr} (it : Addr) (lo : Int) (n : Nat) : Turn P w K tg (Itr lo n) [it] it (fun i h => IsRangeIter h it (lo + (i : Nat) * 1) ((n : Int) - (i : Nat)) 1) where
  mem := by simp
  obj := fun i h st b hb => by
    have e : b = it := by simpa using hb
    subst e
    exact ⟨_, st, fun v z => by
      have z' : Data.fields _ = Data.cell v := z
      cases z'⟩
  keep := fun i h h' st k => k it (by simp) _ st
  item := by
    intro X hP hw hK hc i pins s σ H E I hf st hg
    subst hP hw hK
    obtain ⟨f0, f1, f2, f3, f4, f5⟩ := hf it (by simp)
    have W := Walks.range (prog := X.prog) (w := X.w) (I.ok.hd hc) it lo 1 n
    refine W.item i s _ _ hg st fun v h' tk hv st' kk => ?_
    obtain ⟨t, rfl⟩ := hv
    have I1 : Inv X pins σ H { s with heap := h', toks := tk } := I.turned (fun b o hb e => kk b o (by simpa using hb) e) f0 f1 f3 f4 f5
    refine ⟨_, rfl, go_of (s := { s with heap := h', toks := tk }) (n := "range_iterator") st' rfl rfl (by decide) ⟨.int (lo + i), H, I1, ⟨t, ?_⟩, ⟨rfl, rfl⟩, st', fun b hb => (hf b hb).1⟩⟩
    rw [Int.mul_one]
  done := by
    intro X hP hw hK hc i pins s σ H E I hf st hg
    subst hP hw hK
    obtain ⟨f0, f1, f2, f3, f4, f5⟩ := hf it (by simp)
    exact wpAny_pyNext_range_end (I.ok.hd hc) st (by have : n ≤ i := hg; omega) fun h' eb => ⟨rfl, I.turned (t' := s.toks) (fun b o hb e => eb b o hb e) f0 f1 f3 f4 f5⟩
  self := fun _ _ _ _ _ st h => wpAny_pyIter_rangeiter st h
end L2

namespace L2
open PySem PySem.Spec PyProof.Rows
section
variable {X : Cx} {tg : Expr}
def iList (K : PySem.W.Frag) (tl : TE) : TI := fun σ H R => tl σ H fun x H1 => ∃ a, x = .ref a ∧ (∃ xs, SqL K H1 a xs) ∧ R (Itl K a) H1
def iTup (K : PySem.W.Frag) (tl : TE) : TI := fun σ H R => tl σ H fun x H1 => ∃ a, x = .ref a ∧ (∃ xs, SqT K H1 a xs) ∧ R (Itt K a) H1
theorem pi_list {l : Expr} {tl : TE} (hl : PE X l tl) : PI X tg l (iList X.K tl) := by
  intro pins s σ H R I h
  refine thn (hl pins s σ H _ I h) fun v s1 ⟨x, H1, I1, r1, q1⟩ => ?_
  obtain ⟨a, e, ⟨xs, hq⟩, q⟩ := q1
  subst e
  cases r1
  obtain ⟨its, rv, p, hz⟩ := I1.list hq
  refine wpAny_pyIter_list p.isList ?_
  refine ⟨s1.heap.objs.size, [s1.heap.objs.size], _, _, H1, rfl, I1.kept (t' := s1.toks) fun b o e => Heap.get?_push_of_some _ e, turn_list a _, ⟨_, Heap.get?_push_size _ rfl, rfl, rfl⟩, fun b hb => ?_, q⟩
  have e : b = s1.heap.objs.size := by simpa using hb
  subst e
  exact I1.fpOk (Nat.le_refl _) (I1.hok.fresh (Nat.le_refl _))
/-- a range object just made, walked -/
theorem range_it {pins : List (Addr × Obj)} {σ : St} {H : Hp} {s : Shared} {R : It → Hp → Prop} {E : Value → Shared → Prop} {lo hi : Int} {t u v : Tok} {tk : Nat} (I : Inv X pins σ H s) (h1 : -(2 ^ 62) ≤ lo) (h2 : lo < 2 ^ 62) (h3 : -(2 ^ 62) ≤ hi) (h4 : hi < 2 ^ 62)
    (q : R (Itr lo (hi - lo).toNat) H) : wpAny (model X.prog X.w) X.A (pyIter (.ref s.heap.objs.size)) (PIE X pins σ tg R) E { s with heap := s.heap.push { cls := .type "range", data := .fields #[.int lo t, .int hi u, .int 1 v] }, toks := tk } := by
  refine wpAny_pyIter_range (IsRange.new ..) (small_one h1 h2 h3 h4) ?_
  have I1 : Inv X pins σ H { s with heap := s.heap.push { cls := .type "range", data := .fields #[.int lo t, .int hi u, .int 1 v] }, toks := tk } := I.kept fun b o e => Heap.get?_push_of_some _ e
  refine ⟨(s.heap.push { cls := .type "range", data := .fields #[.int lo t, .int hi u, .int 1 v] }).objs.size, [(s.heap.push { cls := .type "range", data := .fields #[.int lo t, .int hi u, .int 1 v] }).objs.size], _, _, H, rfl,
    I1.kept (t' := tk) fun b o e => Heap.get?_push_of_some _ e, turn_range _ lo (hi - lo).toNat, ?_, fun b hb => ?_, q⟩
  · have e1 : lo + ((0 : Nat) : Int) * 1 = lo := by simp
    have e2 : (((hi - lo).toNat : Nat) : Int) - ((0 : Nat) : Int) = Builtin.Range.rangeSize lo hi 1 := by rw [rangeSize_one]; split <;> omega
    show IsRangeIter _ _ (lo + ((0 : Nat) : Int) * 1) ((((hi - lo).toNat : Nat) : Int) - ((0 : Nat) : Int)) 1
    rw [e1, e2]
    exact Heap.get?_push_size _ rfl
  · have e : b = (s.heap.push { cls := .type "range", data := .fields #[.int lo t, .int hi u, .int 1 v] }).objs.size := by simpa using hb
    subst e
    exact I1.fpOk (Nat.le_refl _) (I1.hok.fresh (Nat.le_refl _))
def iRng1 (ta : TA) : TI := fun σ H R => ta σ H fun vs H1 => ∃ j : Int, vs = [.int j] ∧ -(2 ^ 62) ≤ j ∧ j < 2 ^ 62 ∧ R (Itr 0 j.toNat) H1
def iRng2 (ta : TA) : TI := fun σ H R => ta σ H fun vs H1 => ∃ i j : Int, vs = [.int i, .int j] ∧ (-(2 ^ 62) ≤ i ∧ i < 2 ^ 62 ∧ -(2 ^ 62) ≤ j ∧ j < 2 ^ 62) ∧ R (Itr i (j - i).toNat) H1
theorem pi_range1 {a : Expr} {ta : TA} {p pos : Pos} (hg : Gl X "range") (hm : X.mg "range" = none) (ha : PA X [a] ta) (hs : starEach [a] X.env = [(false, eval a X.env)] := by rfl) : PI X tg (.Call (.Name "range" p) [a] [] pos) (iRng1 ta) := by
  intro pins s σ H R I h
  refine Call_ (ld_blt I hg hm boot_range (PyProof.Rows.callWith_type1 (thn (ha pos pins s σ H _ I h) fun us s1 ⟨vs, H1, I1, r1, q1⟩ => ?_) hs rfl))
  obtain ⟨j, e, q1, q2, q⟩ := q1
  subst e
  cases r1 with
  | cons r rr =>
    cases rr
    obtain ⟨t, rfl⟩ := r
    exact call_range_1 (range_it I1 (by omega) (by omega) q1 q2 (by simpa using q))
/-! ### for -/
/-- W: the invariant by the turn and a measure; N: what the body is to reach -/
def tFor (wi : TI) (g : TG) (tb : TS) : TS := fun D σ H => wi σ H fun J H1 => ∃ W : Nat → Nat → St → Hp → Prop, (∃ m, W 0 m σ H1) ∧ ∀ i m σ H, W i m σ H →
  (J.stop i H ∧ D.nx σ H) ∨ (J.go i H ∧ ∃ N : St → Hp → Prop, (∀ σ' H', N σ' H' → ∃ m', m' < m ∧ W (i + 1) m' σ' H') ∧ ∀ x H', J.yld i H x H' → g x σ H' fun σ2 H2 => tb { D with nx := N, ct := N, bk := D.nx } σ2 H2)
/-- the records at fp as they stand -/
def pinsAt (fp : List Addr) (h : Heap) : List (Addr × Obj) := fp.filterMap fun b => (h.get? b).map fun o => (b, o)
theorem mem_pinsAt {fp : List Addr} {h : Heap} {b : Addr} {o : Obj} (hb : b ∈ fp) (e : h.get? b = some o) : (b, o) ∈ pinsAt fp h := List.mem_filterMap.mpr ⟨b, hb, by rw [e]; rfl⟩
theorem of_pinsAt {fp : List Addr} {h : Heap} {p : Addr × Obj} (hp : p ∈ pinsAt fp h) : p.1 ∈ fp ∧ h.get? p.1 = some p.2 := by
  obtain ⟨b, hb, e⟩ := List.mem_filterMap.mp hp
  cases q : h.get? b with
  | none => rw [q] at e; cases e
  | some o =>
    rw [q] at e
    have e' : (b, o) = p := Option.some.inj e
    subst e'
    exact ⟨hb, q⟩
theorem Inv.pinned {pins : List (Addr × Obj)} {σ : St} {H : Hp} {s : Shared} {fp : List Addr} (I : Inv X pins σ H s) (hf : ∀ b ∈ fp, FpOk X pins H b) (ho : ∀ b ∈ fp, ∃ o, s.heap.get? b = some o ∧ ∀ v, o.data ≠ .cell v) : Inv X (pins ++ pinsAt fp s.heap) σ H s :=
  I.pins_of fun p hp => (List.mem_append.mp hp).elim (fun z => I.pin p (List.mem_append_right _ z)) fun z => by
    obtain ⟨hb, e⟩ := of_pinsAt z
    obtain ⟨f0, f1, f2, _⟩ := hf p.1 hb
    obtain ⟨o, e', d⟩ := ho p.1 hb
    rw [e] at e'; cases e'
    exact ⟨e, f0, f1, f2, d⟩
theorem Inv.unpinned {pins pl : List (Addr × Obj)} {σ : St} {H : Hp} {s : Shared} (I : Inv X (pins ++ pl) σ H s) : Inv X pins σ H s := I.pins_of fun p hp => I.pin p (List.mem_append_right _ (List.mem_append_left _ hp))
theorem ps_for {iter : Expr} {body : List Stmt} {wi : TI} {g : TG} {tb : TS} {pos : Pos} (hp : PassesOwn (model X.prog X.w) X.A X.env X.xe) (hc : X.calm = true) (hi : PI X tg iter wi) (hg : PG X tg g) (hb : PSs X body tb)
    (hs : ∀ x, foldedSetIterable iter X.env x = pure x := by intro _; rfl) : PS X (.For tg iter body [] pos) (tFor wi g tb) := by
  intro pins s σ H D I h
  refine wpAny_For (thn (hi pins s σ H _ I h) fun v s1 h1 => thn h1 fun itv s2 h2 => ?_) hs
  obtain ⟨it, fp, tn, J, H2, e, I2, T, st2, f2, W, ⟨m0, w0⟩, turn⟩ := h2
  subst e
  -- what stays true of the iterator's objects through the loop
  have stat : ∀ {H' : Hp}, (∀ b ∈ fp, H' b = none) → ∀ b ∈ fp, FpOk X pins H' b := fun hn b hb => ⟨hn b hb, (f2 b hb).2⟩
  refine codeAny_forLoop_any (fun n s' => ∃ i σ' H', Inv X pins σ' H' s' ∧ tn i s'.heap ∧ (∀ b ∈ fp, H' b = none) ∧ W i n σ' H') ?_ m0 ⟨0, σ, H2, I2, st2, fun b hb => (f2 b hb).1, w0⟩
  rintro n s3 ⟨i, σ3, H3, I3, st3, fr3, w3⟩
  rcases turn i n σ3 H3 w3 with ⟨stop, qn⟩ | ⟨go, N, hN, step⟩
  · refine wpAny_passesOwn hp (thn (T.done X rfl rfl rfl hc i pins s3 σ3 H3 X.xe I3 (stat fr3) st3 stop) fun r s4 ⟨hr, I4⟩ => ?_)
    subst hr
    exact wpAny_execs_nil ⟨σ3, H3, I4, qn⟩
  · refine wpAny_passesOwn hp (thn (T.item X rfl rfl rfl hc i pins s3 σ3 H3 X.xe I3 (stat fr3) st3 go) fun r s4 ⟨u, hr, h4⟩ => ?_)
    subst hr
    refine wpAny_passesOwn hp (thn h4 fun _ s5 ⟨x, H5, I5, r5, y5, st5, fr5⟩ => ?_)
    have I5' := I5.pinned (stat fr5) (T.obj _ _ st5)
    refine wpAny_passesOwn hp (thn (hg _ s5 σ3 H5 x u _ I5' r5 (step x H5 y5)) fun _ s6 ⟨σ6, H6, I6, q6⟩ => ?_)
    refine wpAny_passesOwn hp (thn (hb _ s6 σ6 H6 _ I6 q6) fun f s7 q7 => ?_)
    have again : ∀ {σ7 : St} {H7 : Hp}, Inv X (pins ++ pinsAt fp s5.heap) σ7 H7 s7 → N σ7 H7 → ∃ m, m < n ∧ ∃ i σ' H', Inv X pins σ' H' s7 ∧ tn i s7.heap ∧ (∀ b ∈ fp, H' b = none) ∧ W i m σ' H' := fun {σ7 H7} I7 n7 => by
      obtain ⟨m', hm, w7⟩ := hN σ7 H7 n7
      refine ⟨m', hm, i + 1, σ7, H7, I7.unpinned, T.keep _ _ _ st5 fun b hb o e => (I7.pin (b, o) (List.mem_append_right _ (List.mem_append_right _ (mem_pinsAt hb e)))).1, fun b hb => ?_, w7⟩
      obtain ⟨o, e, d⟩ := T.obj _ _ st5 b hb
      exact (I7.pin (b, o) (List.mem_append_right _ (List.mem_append_right _ (mem_pinsAt hb e)))).2.1
    cases f with
    | next => obtain ⟨σ7, H7, I7, n7⟩ := q7; exact again I7 n7
    | cont => obtain ⟨σ7, H7, I7, n7⟩ := q7; exact again I7 n7
    | brk => obtain ⟨σ7, H7, I7, q7⟩ := q7; exact ⟨σ7, H7, I7.unpinned, q7⟩
    | ret v => obtain ⟨x7, σ7, H7, I7, r7, q7⟩ := q7; exact ⟨x7, σ7, H7, I7.unpinned, r7, q7⟩
end

/-! ### the forms one uses -/
/-- over a list that the body leaves as it is -/
theorem for_list {K : PySem.W.Frag} {a : Addr} {xs : List V} {g : TG} {tb : TS} {D : Ends} {σ : St} {H : Hp} (Pv : Nat → St → Hp → Prop) (h0 : Pv 0 σ H) (hl : ∀ i σ H, i ≤ xs.length → Pv i σ H → SqL K H a xs)
    (hs : ∀ i x σ H, xs[i]? = some x → Pv i σ H → g x σ H fun σ2 H2 => tb { D with nx := Pv (i + 1), ct := Pv (i + 1), bk := D.nx } σ2 H2) (hd : ∀ σ H, Pv xs.length σ H → D.nx σ H) :
    ∃ W : Nat → Nat → St → Hp → Prop, (∃ m, W 0 m σ H) ∧ ∀ i m σ H, W i m σ H →
      ((Itl K a).stop i H ∧ D.nx σ H) ∨ ((Itl K a).go i H ∧ ∃ N : St → Hp → Prop, (∀ σ' H', N σ' H' → ∃ m', m' < m ∧ W (i + 1) m' σ' H') ∧ ∀ x H', (Itl K a).yld i H x H' → g x σ H' fun σ2 H2 => tb { D with nx := N, ct := N, bk := D.nx } σ2 H2) := by
  refine ⟨fun i m σ H => m = xs.length - i ∧ i ≤ xs.length ∧ Pv i σ H, ⟨xs.length, by simp, Nat.zero_le _, h0⟩, ?_⟩
  rintro i m σ H ⟨rfl, hi, p⟩
  have q := hl i σ H hi p
  by_cases hlt : i < xs.length
  · refine .inr ⟨⟨xs, xs[i], q, by simp [hlt]⟩, Pv (i + 1), fun σ' H' p' => ⟨xs.length - (i + 1), by omega, rfl, hlt, p'⟩, fun x H' y => ?_⟩
    obtain ⟨e, y⟩ := y
    subst e
    exact hs i x σ _ (y xs q) p
  · have e : i = xs.length := by omega
    subst e
    exact .inl ⟨⟨xs, q, Nat.le_refl _⟩, hd σ H p⟩
end L2

namespace L2
open PySem PySem.Spec PyProof.Rows

abbrev R2 := V → V → Hp → VK → Prop
/-- a two-place operation on values: f is binaryOp op, inplaceOp op or compareOp op -/
def OpR (X : Cx) (f : Value → Value → Sem Value) (r : R2) : Prop :=
  ∀ (pins : List (Addr × Obj)) (s : Shared) (σ : St) (H : Hp) (x y : V) (v u : Value) (Q : VK), Inv X pins σ H s → RelV x v → RelV y u → r x y H Q →
    wpAny (model X.prog X.w) X.A (f v u) (EP X pins σ Q) X.xe s
/-- a one-place operation -/
def UnR (X : Cx) (f : Value → Sem Value) (r : V → Hp → VK → Prop) : Prop :=
  ∀ (pins : List (Addr × Obj)) (s : Shared) (σ : St) (H : Hp) (x : V) (v : Value) (Q : VK), Inv X pins σ H s → RelV x v → r x H Q →
    wpAny (model X.prog X.w) X.A (f v) (EP X pins σ Q) X.xe s
/-- a call of a value that is known (a builtin, a type) with values -/
def CallR (X : Cx) (f : Value) (r : List V → Hp → VK → Prop) : Prop :=
  ∀ (pins : List (Addr × Obj)) (s : Shared) (σ : St) (H : Hp) (xs : List V) (us : List Value) (Q : VK), Inv X pins σ H s → Vals xs us → r xs H Q →
    wpAny (model X.prog X.w) X.A (call f us) (EP X pins σ Q) X.xe s
/-- a value's truth -/
def TruR (X : Cx) (r : V → Hp → (Bool → Hp → Prop) → Prop) : Prop :=
  ∀ (pins : List (Addr × Obj)) (s : Shared) (σ : St) (H : Hp) (x : V) (v : Value) (Q : Bool → Hp → Prop), Inv X pins σ H s → RelV x v → r x H Q →
    wpAny (model X.prog X.w) X.A (truthy v) (TP X pins σ Q) X.xe s

def tOp (r : R2) (ta tb : TE) : TE := fun σ H Q => ta σ H fun x H1 => tb σ H1 fun y H2 => r x y H2 Q
def tUn (r : V → Hp → VK → Prop) (ta : TE) : TE := fun σ H Q => ta σ H fun x H1 => r x H1 Q
/-- ints in, under C, and a value out -/
def rI (C : Int → Int → Prop) (g : Int → Int → V) : R2 := fun x y H Q => ∃ i j, x = .int i ∧ y = .int j ∧ C i j ∧ Q (g i j) H
def rI0 (g : Int → Int → V) : R2 := fun x y H Q => ∃ i j, x = .int i ∧ y = .int j ∧ Q (g i j) H
def rU (g : Int → V) : V → Hp → VK → Prop := fun x H Q => ∃ i, x = .int i ∧ Q (g i) H

section
variable {X : Cx} {a b c : Expr} {ta tb tc : TE} {pos : Pos}

theorem binT (ha : PE X a ta) (hb : PE X b tb) {pins : List (Addr × Obj)} {s : Shared} {σ : St} {H : Hp} {R : V → V → Hp → Prop} (I : Inv X pins σ H s)
    (h : ta σ H fun x H1 => tb σ H1 fun y H2 => R x y H2) {Q : Value → Shared → Prop} {f : Value → Value → Sem Value}
    (hf : ∀ v u s2 x y H2, Inv X pins σ H2 s2 → RelV x v → RelV y u → R x y H2 → wpAny (model X.prog X.w) X.A (f v u) Q X.xe s2) :
    wpAny (model X.prog X.w) X.A (eval a X.env) (fun v s₁ => wpAny (model X.prog X.w) X.A (eval b X.env) (fun u s₂ => wpAny (model X.prog X.w) X.A (f v u) Q X.xe s₂) X.xe s₁) X.xe s := by
  refine thn (ha pins s σ H _ I h) fun v s1 ⟨x, H1, I1, r1, q1⟩ => ?_
  refine thn (hb pins s1 σ H1 _ I1 q1) fun u s2 ⟨y, H2, I2, r2, q2⟩ => ?_
  exact hf v u s2 x y H2 I2 r1 r2 q2

theorem pe_op {op : Operator} {r : R2} (ho : OpR X (binaryOp op) r) (ha : PE X a ta) (hb : PE X b tb) : PE X (.BinOp a op b pos) (tOp r ta tb) := by
  intro pins s σ H Q I h
  exact wpAny_BinOp (binT ha hb I h fun v u s2 x y H2 I2 rx ry q => ho pins s2 σ H2 x y v u Q I2 rx ry q)
theorem pe_un {op : UnaryOp} {r : V → Hp → VK → Prop} (ho : UnR X (unaryOp op) r) (ha : PE X a ta) : PE X (.UnaryOp op a pos) (tUn r ta) := by
  intro pins s σ H Q I h
  exact UnaryOp_ (thn (ha pins s σ H _ I h) fun v s1 ⟨x, H1, I1, r1, q1⟩ => ho pins s1 σ H1 x v Q I1 r1 q1)
/-! ### ints -/
theorem opI {f : Value → Value → Sem Value} {C : Int → Int → Prop} {g : Int → Int → Int}
    (rule : ∀ (i j : Int) (t u : Tok) (s : Shared) (Q : Value → Shared → Prop) (E : Value → Shared → Prop), C i j → Q (.int (g i j) s.toks) { s with toks := s.toks + 1 } → wpAny (model X.prog X.w) X.A (f (.int i t) (.int j u)) Q E s) :
    OpR X f (rI C fun i j => .int (g i j)) := by
  intro pins s σ H x y v u Q I rx ry h
  obtain ⟨i, j, rfl, rfl, hc, q⟩ := h
  obtain ⟨t, rfl⟩ := rx
  obtain ⟨t', rfl⟩ := ry
  exact rule i j t t' s _ _ hc ⟨.int (g i j), H, I.tok _, ⟨_, rfl⟩, q⟩
theorem opI0 {f : Value → Value → Sem Value} {g : Int → Int → Int}
    (rule : ∀ (i j : Int) (t u : Tok) (s : Shared) (Q : Value → Shared → Prop) (E : Value → Shared → Prop), Q (.int (g i j) s.toks) { s with toks := s.toks + 1 } → wpAny (model X.prog X.w) X.A (f (.int i t) (.int j u)) Q E s) :
    OpR X f (rI0 fun i j => .int (g i j)) := by
  intro pins s σ H x y v u Q I rx ry h
  obtain ⟨i, j, rfl, rfl, q⟩ := h
  obtain ⟨t, rfl⟩ := rx
  obtain ⟨t', rfl⟩ := ry
  exact rule i j t t' s _ _ ⟨.int (g i j), H, I.tok _, ⟨_, rfl⟩, q⟩
theorem opB0 {f : Value → Value → Sem Value} {g : Int → Int → Bool}
    (rule : ∀ (i j : Int) (t u : Tok) (s : Shared) (Q : Value → Shared → Prop) (E : Value → Shared → Prop), Q (.bool (g i j)) s → wpAny (model X.prog X.w) X.A (f (.int i t) (.int j u)) Q E s) :
    OpR X f (rI0 fun i j => .bl (g i j)) := by
  intro pins s σ H x y v u Q I rx ry h
  obtain ⟨i, j, rfl, rfl, q⟩ := h
  obtain ⟨t, rfl⟩ := rx
  obtain ⟨t', rfl⟩ := ry
  exact rule i j t t' s _ _ ⟨.bl (g i j), H, I, rfl, q⟩

def CDiv (i j : Int) : Prop := 0 < j ∧ j < 1073741824
def CDivN (i j : Int) : Prop := j ≠ 0 ∧ j.natAbs < 1073741824
def CPow (i j : Int) : Prop := 0 ≤ j ∧ j ≤ 1000000 ∧ i.natAbs < 2 ^ 64
def CMul (i j : Int) : Prop := (-(2 ^ 64) < i ∧ i < 2 ^ 64) ∨ (-(2 ^ 64) < j ∧ j < 2 ^ 64)
theorem CMul.ok {i j : Int} (h : CMul i j) : IntMulOk i j := by
  rcases h with ⟨h1, h2⟩ | ⟨h1, h2⟩
  · exact .of_left (intBits_le_64 h1 h2)
  · exact .of_right (intBits_le_64 h1 h2)
theorem op_add : OpR X (binaryOp .Add) (rI0 fun i j => .int (i + j)) := opI0 fun _ _ _ _ _ _ _ q => add_int q
theorem op_mul : OpR X (binaryOp .Mult) (rI CMul fun i j => .int (i * j)) := opI fun _ _ _ _ _ _ _ hc q => mul_int q hc.ok
theorem unI {f : Value → Sem Value} {g : Int → Int}
    (rule : ∀ (i : Int) (t : Tok) (s : Shared) (Q : Value → Shared → Prop) (E : Value → Shared → Prop), Q (.int (g i) s.toks) { s with toks := s.toks + 1 } → wpAny (model X.prog X.w) X.A (f (.int i t)) Q E s) :
    UnR X f (rU fun i => .int (g i)) := by
  intro pins s σ H x v Q I rx h
  obtain ⟨i, rfl, q⟩ := h
  obtain ⟨t, rfl⟩ := rx
  exact rule i t s _ _ ⟨.int (g i), H, I.tok _, ⟨_, rfl⟩, q⟩
theorem un_neg : UnR X (unaryOp .USub) (rU fun i => .int (-i)) := unI fun _ _ _ _ _ q => neg_int q
/-! ### bools among ints: n += (a < b) -/
end

/-! ### comparisons -/
/-- the scalars that == tells apart as data does -/
def scal : V → V → Bool
  | .non, .non => true | .non, .int _ => true | .int _, .non => true | .non, .bl _ => true | .bl _, .non => true | .non, .str _ => true | .str _, .non => true
  | .int _, .int _ => true | .bl _, .bl _ => true | .str _, .str _ => true | .byt _, .byt _ => true
  | .int _, .str _ => true | .str _, .int _ => true | .bl _, .str _ => true | .str _, .bl _ => true
  | _, _ => false
def rEq : R2 := fun x y H Q => scal x y = true ∧ Q (.bl (decide (x = y))) H
def rNe : R2 := fun x y H Q => scal x y = true ∧ Q (.bl (!decide (x = y))) H

theorem dec_int {i j : Int} : decide (V.int i = V.int j) = (i == j) := by
  rw [Bool.eq_iff_iff]
  simp
theorem dec_bl {i j : Bool} : decide (V.bl i = V.bl j) = (i == j) := by
  rw [Bool.eq_iff_iff]
  simp
theorem dec_str {i j : Str} : decide (V.str i = V.str j) = (i == j) := by
  rw [Bool.eq_iff_iff]
  simp
theorem dec_byt {i j : Array UInt8} : decide (V.byt i = V.byt j) = (i.toList == j.toList) := by
  rw [Bool.eq_iff_iff]
  cases i
  cases j
  simp

section
variable {X : Cx} {a b c : Expr} {ta tb tc : TE} {pos : Pos}
theorem fin_bl {pins : List (Addr × Obj)} {σ : St} {H : Hp} {s : Shared} {Q : VK} {k k' : Bool} (I : Inv X pins σ H s) (q : Q (.bl k) H) (e : k = k') : EP X pins σ Q (.bool k') s := by
  subst e
  exact ⟨.bl k, H, I, rfl, q⟩
theorem op_eq : OpR X (compareOp .Eq) rEq := by
  intro pins s σ H x y v u Q I rx ry h
  obtain ⟨hs, q⟩ := h
  cases x with
  | non =>
    cases rx
    cases y with
    | non => cases ry; exact PySem.EqNone.eq_none_none (fin_bl I q (by simp))
    | bl j => cases ry; exact PySem.EqNone.eq_none_bool (fin_bl I q (by simp))
    | int j => obtain ⟨t', rfl⟩ := ry; exact PySem.EqNone.eq_none_int (fin_bl I q (by simp))
    | str j => obtain ⟨t', rfl⟩ := ry; exact PySem.EqNone.eq_none_str (fin_bl I q (by simp))
    | _ => exact absurd (show false = true from hs) Bool.false_ne_true
  | bl i =>
    cases rx
    cases y with
    | non => cases ry; exact PySem.EqNone.eq_bool_none (fin_bl I q (by simp))
    | bl j => cases ry; exact eq_bool (fin_bl I q dec_bl)
    | str j => obtain ⟨t', rfl⟩ := ry; exact PySem.EqMixed.eq_bool_str (fin_bl I q (by simp))
    | _ => exact absurd (show false = true from hs) Bool.false_ne_true
  | int i =>
    obtain ⟨t, rfl⟩ := rx
    cases y with
    | non => cases ry; exact PySem.EqNone.eq_int_none (fin_bl I q (by simp))
    | int j => obtain ⟨t', rfl⟩ := ry; exact eq_int (fin_bl I q dec_int)
    | str j => obtain ⟨t', rfl⟩ := ry; exact PySem.EqMixed.eq_int_str (fin_bl I q (by simp))
    | _ => exact absurd (show false = true from hs) Bool.false_ne_true
  | str i =>
    obtain ⟨t, rfl⟩ := rx
    cases y with
    | non => cases ry; exact PySem.EqNone.eq_str_none (fin_bl I q (by simp))
    | bl j => cases ry; exact PySem.EqMixed.eq_str_bool (fin_bl I q (by simp))
    | int j => obtain ⟨t', rfl⟩ := ry; exact PySem.EqMixed.eq_str_int (fin_bl I q (by simp))
    | str j => obtain ⟨t', rfl⟩ := ry; exact eq_str (fin_bl I q dec_str)
    | _ => exact absurd (show false = true from hs) Bool.false_ne_true
  | byt i =>
    obtain ⟨t, rfl⟩ := rx
    cases y with
    | byt j => obtain ⟨t', rfl⟩ := ry; exact PySem.W.eq_bytes (fin_bl I q dec_byt)
    | _ => exact absurd (show false = true from hs) Bool.false_ne_true
  | _ => cases y <;> exact absurd (show false = true from hs) Bool.false_ne_true
theorem op_ne : OpR X (compareOp .NotEq) rNe := by
  intro pins s σ H x y v u Q I rx ry h
  obtain ⟨hs, q⟩ := h
  cases x with
  | non =>
    cases rx
    cases y with
    | non => cases ry; exact PySem.EqNone.ne_none_none (fin_bl I q (by simp))
    | bl j => cases ry; exact PySem.EqNone.ne_none_bool (fin_bl I q (by simp))
    | int j => obtain ⟨t', rfl⟩ := ry; exact PySem.EqNone.ne_none_int (fin_bl I q (by simp))
    | str j => obtain ⟨t', rfl⟩ := ry; exact PySem.EqNone.ne_none_str (fin_bl I q (by simp))
    | _ => exact absurd (show false = true from hs) Bool.false_ne_true
  | bl i =>
    cases rx
    cases y with
    | non => cases ry; exact PySem.EqNone.ne_bool_none (fin_bl I q (by simp))
    | bl j => cases ry; exact ne_bool (fin_bl I q (congrArg not dec_bl))
    | str j => obtain ⟨t', rfl⟩ := ry; exact PySem.EqMixed.ne_bool_str (fin_bl I q (by simp))
    | _ => exact absurd (show false = true from hs) Bool.false_ne_true
  | int i =>
    obtain ⟨t, rfl⟩ := rx
    cases y with
    | non => cases ry; exact PySem.EqNone.ne_int_none (fin_bl I q (by simp))
    | int j => obtain ⟨t', rfl⟩ := ry; exact ne_int (fin_bl I q (congrArg not dec_int))
    | str j => obtain ⟨t', rfl⟩ := ry; exact PySem.EqMixed.ne_int_str (fin_bl I q (by simp))
    | _ => exact absurd (show false = true from hs) Bool.false_ne_true
  | str i =>
    obtain ⟨t, rfl⟩ := rx
    cases y with
    | non => cases ry; exact PySem.EqNone.ne_str_none (fin_bl I q (by simp))
    | bl j => cases ry; exact PySem.EqMixed.ne_str_bool (fin_bl I q (by simp))
    | int j => obtain ⟨t', rfl⟩ := ry; exact PySem.EqMixed.ne_str_int (fin_bl I q (by simp))
    | str j => obtain ⟨t', rfl⟩ := ry; exact ne_str (fin_bl I q (congrArg not dec_str))
    | _ => exact absurd (show false = true from hs) Bool.false_ne_true
  | byt i =>
    obtain ⟨t, rfl⟩ := rx
    cases y with
    | byt j => obtain ⟨t', rfl⟩ := ry; exact PySem.W.ne_bytes (fin_bl I q (congrArg not dec_byt))
    | _ => exact absurd (show false = true from hs) Bool.false_ne_true
  | _ => cases y <;> exact absurd (show false = true from hs) Bool.false_ne_true

theorem op_lt : OpR X (compareOp .Lt) (rI0 fun i j => .bl (decide (i < j))) := opB0 fun _ _ _ _ _ _ _ q => lt_int q
theorem op_le : OpR X (compareOp .LtE) (rI0 fun i j => .bl (decide (i ≤ j))) := opB0 fun _ _ _ _ _ _ _ q => le_int q
theorem op_gt : OpR X (compareOp .Gt) (rI0 fun i j => .bl (decide (j < i))) := opB0 fun _ _ _ _ _ _ _ q => gt_int q
theorem op_ge : OpR X (compareOp .GtE) (rI0 fun i j => .bl (decide (j ≤ i))) := opB0 fun _ _ _ _ _ _ _ q => ge_int q
/-- is, is not of two objects that are tracked lists or instances -/
def isObj : HO → Bool
  | .lst _ => true
  | .ins _ _ _ => true
  | _ => false
theorem nomark (b : Expr) {op : CmpOp} (h : op ≠ .In := by decide) (h2 : op ≠ .NotIn := by decide) : behindInMarks op b = false := by
  have e1 : (op == CmpOp.In) = false := by cases op <;> first | rfl | exact absurd rfl h
  have e2 : (op == CmpOp.NotIn) = false := by cases op <;> first | rfl | exact absurd rfl h2
  cases b <;> simp [behindInMarks, e1, e2]
/-- a comparison as a value; hm: nomark b, or (for in, not in) by with_unfolding_all rfl -/
theorem pe_cmpR {op : CmpOp} {r : R2} (ho : OpR X (compareOp op) r) (ha : PE X a ta) (hb : PE X b tb) (hm : behindInMarks op b = false) : PE X (.Compare a [op] [b] pos) (tOp r ta tb) := by
  intro pins s σ H Q I h
  exact wpAny_Compare1 (binT ha hb I h fun v u s2 x y H2 I2 rx ry q => ho pins s2 σ H2 x y v u Q I2 rx ry q) hm
/-- a reading of a value as a test -/
def tTest (t : TE) : TT := fun σ H Q => t σ H fun x H' => ∃ k, x = .bl k ∧ Q k H'
theorem pt_cmpR {op : CmpOp} {r : R2} (ho : OpR X (compareOp op) r) (ha : PE X a ta) (hb : PE X b tb) (hm : behindInMarks op b = false) : PT X (.Compare a [op] [b] pos) (tTest (tOp r ta tb)) := by
  intro pins s σ H Q I h
  refine wpAny_isTrue_Compare1 (thn (ha pins s σ H _ I h) fun v s1 ⟨x, H1, I1, r1, q1⟩ => thn (hb pins s1 σ H1 _ I1 q1) fun u s2 ⟨y, H2, I2, r2, q2⟩ =>
    thn (ho pins s2 σ H2 x y v u _ I2 r1 r2 q2) fun c s3 ⟨z, H3, I3, r3, k, e, q3⟩ => ?_) hm
  subst e
  cases r3
  exact wpAny_truthy_bool ⟨H3, I3, q3⟩
/-- a op1 b op2 c -/
def tChain (r r' : R2) (ta tb tc : TE) : TE := fun σ H Q => ta σ H fun x H1 => tb σ H1 fun y H2 => r x y H2 fun z H3 => ∃ k, z = .bl k ∧
  (if k = true then tc σ H3 fun w' H4 => r' y w' H4 Q else Q (.bl false) H3)
/-! ### truth -/
/-- a value's truth by the abstract heap -/
def TruV (K : PySem.W.Frag) (x : V) (H : Hp) (k : Bool) : Prop :=
  match x with
  | .non => k = false
  | .bl b => k = b
  | .int i => k = (i != 0)
  | .str y => y.length ≤ sizeLine ∧ k = ((y.length : Int) != 0)
  | .byt y => y.size ≤ sizeLine ∧ k = ((y.size : Int) != 0)
  | .ref p => (∃ xs, SqL K H p xs ∧ k = !xs.isEmpty) ∨ (∃ xs, SqT K H p xs ∧ k = !xs.isEmpty) ∨ ∃ kvs, H p = some (.dK kvs) ∧ k = !kvs.isEmpty
  | _ => False
theorem isEmpty_kv {κ : Type} {kvs : List (κ × V)} {vs : List (κ × Value)} (r : KV kvs vs) : (!vs.isEmpty) = !kvs.isEmpty := by
  cases r <;> rfl
theorem isEmpty_of {xs : List V} {its : List Value} (r : Vals xs its) : (!its.toArray.isEmpty) = !xs.isEmpty := by
  cases r <;> simp
theorem line63 : (sizeLine : Nat) < 2 ^ 63 := by rw [sizeLine_eq]; decide
theorem tru_ok : TruR X (fun x H Q => ∃ k, TruV X.K x H k ∧ Q k H) := by
  intro pins s σ H x v Q I rx h
  obtain ⟨k, e, q⟩ := h
  have hl := line63
  have hs : sizeLine = 16777216 := sizeLine_eq
  cases x with
  | non =>
    cases rx
    have e' : k = false := e
    subst e'
    exact truthy_none ⟨H, I, q⟩
  | bl b =>
    cases rx
    have e' : k = b := e
    subst e'
    exact wpAny_truthy_bool ⟨H, I, q⟩
  | int i =>
    obtain ⟨t, rfl⟩ := rx
    have e' : k = (i != 0) := e
    subst e'
    exact PySem.P.truthy_int ⟨H, I, q⟩
  | str y =>
    obtain ⟨t, rfl⟩ := rx
    obtain ⟨hy, e'⟩ : y.length ≤ sizeLine ∧ k = ((y.length : Int) != 0) := e
    subst e'
    exact PySem.P.truthy_str (by omega) ⟨H, I.tok _, q⟩
  | byt y =>
    obtain ⟨t, rfl⟩ := rx
    obtain ⟨hy, e'⟩ : y.size ≤ sizeLine ∧ k = ((y.size : Int) != 0) := e
    subst e'
    exact PySem.W.truthy_bytes (by omega) ⟨H, I.tok _, q⟩
  | ref p =>
    cases rx
    have e' : (∃ xs, SqL X.K H p xs ∧ k = !xs.isEmpty) ∨ (∃ xs, SqT X.K H p xs ∧ k = !xs.isEmpty) ∨ ∃ kvs, H p = some (.dK kvs) ∧ k = !kvs.isEmpty := e
    rcases e' with ⟨xs, hx, e'⟩ | ⟨xs, hx, e'⟩ | ⟨kvs, hx, e'⟩
    · subst e'
      obtain ⟨its, r, pl, hz⟩ := I.list hx
      have hlen := r.length
      exact wpAny_truthy_list pl.isList (by simp only [List.size_toArray]; omega) ⟨H, I.tok _, by rw [isEmpty_of r]; exact q⟩
    · subst e'
      obtain ⟨its, r, pl, hz⟩ := I.tuple hx
      have hlen := r.length
      exact truthy_tuple pl (by simp only [List.size_toArray]; omega) ⟨H, I.tok _, by rw [isEmpty_of r]; exact q⟩
    · subst e'
      obtain ⟨hz, hS, vs, r, m⟩ : kvs.length ≤ sizeLine ∧ (p == sysModules) = false ∧ ∃ vs, KV kvs vs ∧ s.heap.DictOf (mixKind X.prog X.w) p vs := I.hok p _ hx
      have hlen : kvs.length = vs.length := Paired.length r
      exact wpAny_truthy_dict hS m (by omega) ⟨H, I.tok _, by rw [isEmpty_kv r]; exact q⟩
  | _ => exact (show False from e).elim
/-- any expression whose test is its value's truth (a name, a call, a subscript, a field ..: he by fun _ => rfl) -/
theorem pt_truth (ha : PE X a ta) (he : ∀ whole, isTrue a X.env whole = (do let v ← whole; standAt a.pos; holding [v] (truthy v))) :
    PT X a (fun σ H Q => ta σ H fun x H' => ∃ k, TruV X.K x H' k ∧ Q k H') := by
  intro pins s σ H Q I h
  exact isTrue_plain (thn (ha pins s σ H _ I h) fun v s1 ⟨x, H1, I1, r1, q1⟩ => tru_ok pins s1 σ H1 x v Q I1 r1 q1) (he _)

/-! ### strs and bytes -/
def PlainIxT (b : Expr) : Prop := ∀ o i, subscripted b false o i = operate [o, i] (getItem o i)
/-! ### scalar builtins, by CallR -/
theorem vals1 {x : V} {us : List Value} (r : Vals [x] us) : ∃ u, us = [u] ∧ RelV x u := by
  cases r with
  | cons r1 r2 => cases r2; exact ⟨_, rfl, r1⟩
/-- len of a str, a bytes, a list, a tuple -/
def LenV (K : PySem.W.Frag) (x : V) (H : Hp) (n : Nat) : Prop :=
  match x with
  | .str y => y.length ≤ sizeLine ∧ n = y.length
  | .byt y => y.size ≤ sizeLine ∧ n = y.size
  | .ref p => (∃ xs, SqL K H p xs ∧ n = xs.length) ∨ ∃ xs, SqT K H p xs ∧ n = xs.length
  | _ => False
end
end L2

namespace L2
open PySem PySem.Spec PyProof.Rows

/-! ### an instance, its attributes a map -/
structure ObjM (h : Heap) (x dx C : Addr) (mA : Str → Option Value) : Prop where
  obj : h.get? x = some (PySem.W.instObj C dx)
  ns : h.Ns1 dx mA
  ne : dx ≠ x

theorem lookIn_ns {h : Heap} {dx : Addr} {mA : Str → Option Value} (n : h.Ns1 dx mA) : ∃ od, h.get? dx = some od ∧ ∀ name, PySem.W.lookIn name od = some (mA name) := by
  obtain ⟨o, es, ep, ho, hd, hk, _, hm⟩ := n
  refine ⟨o, ho, fun name => ?_⟩
  have e := hm name
  unfold nsFind findBy at e
  rw [← Array.find?_toList] at e
  unfold PySem.W.lookIn
  rw [hd]
  dsimp only
  split
  · rename_i y q
    rw [q] at e
    exact congrArg some e
  · rename_i q
    rw [q] at e
    have a : es.toList.any (·.refKey) = false := by
      rw [List.any_eq_false]
      intro y hy
      obtain ⟨z, t, hkey⟩ := hk y (Array.mem_toList_iff.mp hy)
      simp [DictEntry.refKey, hkey]
    have a' : ¬ es.toList.any (·.refKey) = true := by rw [a]; exact Bool.false_ne_true
    rw [if_neg a']
    exact congrArg some e

theorem ObjM.look {h : Heap} {x dx C : Addr} {mA : Str → Option Value} (I : ObjM h x dx C mA) : ∃ od, PySem.W.InstAt h x (PySem.W.instObj C dx) C (some od) ∧ ∀ name, PySem.W.lookIn name od = some (mA name) :=
  let ⟨od, ho, hl⟩ := lookIn_ns I.ns
  ⟨od, ⟨I.obj, rfl, rfl, ho⟩, hl⟩

section
variable {prog : Program} {w : World} {A : Around} {E : Value → Shared → Prop} {s : Shared} {K : PySem.W.Frag} {x dx C f : Addr} {mA : Str → Option Value} {name : Str} {v : Value}

theorem get_map {expr : Bool} {Q : Value → Shared → Prop} (X : K.In s.heap) (I : ObjM s.heap x dx C mA) (hg : PySem.W.plainGet K C name = true) (hh : PySem.W.hasDictIn K C = true)
    (ha : PySem.W.findIn K (.ref C) name = some none) (hv : mA name = some v) (hv' : PySem.W.handedIn v = true) (h : Q v { s with toks := s.toks + 1 }) :
    wpAny (model prog w) A (getAttr (.ref x) name expr) Q E s := by
  obtain ⟨od, J, hl⟩ := I.look
  exact PySem.W.get_value X J (PySem.W.plainGet_of hg).1 (PySem.W.findObj_own hh ha rfl (by rw [hl, hv])) hv' h

theorem get_meth {pl : Sem Bool} {Q : Value × List Value → Shared → Prop} (X : K.In s.heap) (I : ObjM s.heap x dx C mA) (hg : PySem.W.plainGet K C name = true)
    (hf : PySem.W.findIn K (.ref C) name = some (some (.ref f))) (ht : PySem.W.isFn K (.ref f) = true) (hv : mA name = none) (h : Q (.ref f, [.ref x]) s) :
    wpAny (model prog w) A (getMethod (.ref x) name pl) Q E s := by
  obtain ⟨od, J, hl⟩ := I.look
  exact PySem.W.method_fn X J (PySem.W.plainGet_of hg).1 (PySem.W.plainGet_of hg).2 hf (beq_iff_eq.mp ht) (by show (PySem.W.lookIn name od).map (·.isSome) = some false; rw [hl, hv]; rfl) h

theorem set_map {ns : List Str} {Q : Unit → Shared → Prop} (X : K.In s.heap) (I : ObjM s.heap x dx C mA)
    (hs : PySem.W.findIn K (.ref C) "__setattr__" = some (some (.builtin "object.__setattr__"))) (hp : PySem.W.plainOver K C = true) (ht : PySem.W.takerIn K C name = some none) (hh : PySem.W.hasDictIn K C = true)
    (hw : PySem.Within mA ns) (hsz : ns.length ≤ sizeLine)
    (h : ∀ h', ObjM h' x dx C (fun y => if y = name then some v else mA y) → Heap.SameBut dx s.heap h' → Q () { s with heap := h', toks := s.toks + 2 }) :
    wpAny (model prog w) A (setAttr (.ref x) name v) Q E s := by
  obtain ⟨od, J, hl⟩ := I.look
  refine PySem.W.set_plain X J hs (PySem.W.osa_open (s := { s with toks := s.toks + 1 }) (r := none) X J hp ht fun b => ?_)
  obtain ⟨cd, hc, hd'⟩ := PySem.W.any_some hh
  have hx : s.heap.get? x = some ⟨.ref C, some dx, .plain, #[]⟩ := I.obj
  refine wpAny_bind (wpAny_pure (wpAny_bind (wpAny_bind (wpAny_loadPart hx (wpAny_bind (PySem.W.Looks.here (s := { s with toks := s.toks + 1 }) (PySem.W.looks_clsIn X hc) ?_))))))
  rw [hd']
  refine wpAny_pure (a := some dx) (wpAny_bind (wpAny_pure (wpAny_bind ?_)))
  refine wpAny_nsSet1 (s := { s with toks := s.toks + 1 }) I.ns fun h' hn2 hs2 => ?_
  obtain ⟨oD, esD, epD, hoD, hdD, hcD⟩ := hn2.count (PySem.Within.cons name v hw)
  refine wpAny_bind (wpAny_lookBehind hoD (by rw [hdD]; exact pastItsLine_dict (Nat.le_trans hcD (by rw [List.length_cons]; omega))) ?_)
  exact wpAny_pure (h _ ⟨(hs2.2 _ (Ne.symm I.ne)).trans I.obj, hn2, I.ne⟩ hs2)

/-- C(..): the dict at the heap's end, the instance behind it; then its __init__ -/
theorem make_map {R : Result → Shared → Prop} {vs : List Value} {kw : List (Str × Value)} (X : K.In s.heap) (hm : PySem.W.makesIn K C = true)
    (hi : PySem.W.findIn K (.ref C) "__init__" = some (some (.ref f))) (hf : PySem.W.typeIn K (.ref f) = some (.type "function"))
    (h : codeAny (model prog w) (A.under (.builtin "type.__call__" ⟨.ref C :: vs, kw⟩)) (.call (.ref f) ⟨.ref (s.heap.objs.size + 1) :: vs, kw⟩) (PySem.W.InitBack (s.heap.objs.size + 1) R)
      { s with heap := (s.heap.push PySem.W.emptyDict).push (PySem.W.instObj C s.heap.objs.size) }) :
    codeAny (model prog w) A (.call (.ref C) ⟨vs, kw⟩) R s := by
  obtain ⟨hh, g, d, t, os⟩ := s
  exact PySem.W.make_core (PySem.W.makes_of X hm) (PySem.W.looks_findIn X hi) (fun self => PySem.W.bind_fn X self hf) (.inl rfl) h
end

/-! ### the attributes as a list of pairs -/
def putF (f : Str) (v : V) : List (Str × V) → List (Str × V)
  | [] => [(f, v)]
  | (g, x) :: r => if g = f then (g, v) :: r else (g, x) :: putF f v r
theorem lookup_putF (f g : Str) (v : V) : ∀ fs : List (Str × V), (putF f v fs).lookup g = if g = f then some v else fs.lookup g
  | [] => by
    show List.lookup g [(f, v)] = _
    by_cases h : g = f
    · have hb : (g == f) = true := beq_iff_eq.mpr h
      simp only [List.lookup, hb, if_pos h]
    · have hb : (g == f) = false := beq_eq_false_iff_ne.mpr h
      simp only [List.lookup, hb, if_neg h]
  | (k, x) :: r => by
    have ih := lookup_putF f g v r
    rw [show putF f v ((k, x) :: r) = (if k = f then (k, v) :: r else (k, x) :: putF f v r) from rfl]
    by_cases hk : k = f
    · rw [if_pos hk]
      by_cases h : g = k
      · have hb : (g == k) = true := beq_iff_eq.mpr h
        simp only [List.lookup, hb, if_pos (h.trans hk)]
      · have hb : (g == k) = false := beq_eq_false_iff_ne.mpr h
        simp only [List.lookup, hb, if_neg (fun e : g = f => h (e.trans hk.symm))]
    · rw [if_neg hk]
      by_cases h : g = k
      · have hb : (g == k) = true := beq_iff_eq.mpr h
        simp only [List.lookup, hb, if_neg (fun e : g = f => hk (h.symm.trans e))]
      · have hb : (g == k) = false := beq_eq_false_iff_ne.mpr h
        simp only [List.lookup, hb]
        exact ih
theorem keys_putF (f : Str) (v : V) : ∀ fs : List (Str × V), f ∈ (putF f v fs).map (·.1) ∧ ∀ g, g ∈ fs.map (·.1) → g ∈ (putF f v fs).map (·.1)
  | [] => ⟨by simp [putF], fun g h => by simp at h⟩
  | (k, x) :: r => by
    obtain ⟨i1, i2⟩ := keys_putF f v r
    rw [show putF f v ((k, x) :: r) = (if k = f then (k, v) :: r else (k, x) :: putF f v r) from rfl]
    by_cases hk : k = f
    · rw [if_pos hk]
      subst hk
      exact ⟨by simp, fun g h => by simpa using h⟩
    · rw [if_neg hk]
      refine ⟨?_, fun g h => ?_⟩
      · rw [List.map_cons]
        exact List.mem_cons_of_mem _ i1
      · rw [List.map_cons] at h ⊢
        rcases List.mem_cons.mp h with e | e
        · exact List.mem_cons.mpr (.inl e)
        · exact List.mem_cons_of_mem _ (i2 g e)
theorem length_putF (f : Str) (v : V) : ∀ fs : List (Str × V), (putF f v fs).length ≤ fs.length + 1
  | [] => by simp [putF]
  | (k, x) :: r => by
    have ih := length_putF f v r
    rw [show putF f v ((k, x) :: r) = (if k = f then (k, v) :: r else (k, x) :: putF f v r) from rfl]
    by_cases hk : k = f
    · rw [if_pos hk, List.length_cons, List.length_cons]; omega
    · rw [if_neg hk, List.length_cons, List.length_cons]; omega

theorem RelO.some_of {v : V} {o : Option Value} (r : RelO (some v) o) : ∃ u, o = some u ∧ RelV v u := by
  cases o with
  | none => exact (show False from r).elim
  | some u => exact ⟨u, rfl, r⟩
theorem RelO.none_of {o : Option Value} (r : RelO none o) : o = none := by
  cases o with
  | none => rfl
  | some u => exact (show False from r).elim
theorem handed_of {v : V} {u : Value} (r : RelV v u) : PySem.W.handedIn u = true := by
  cases v with
  | non => cases (show u = Value.none from r); rfl
  | bl b => cases (show u = Value.bool b from r); rfl
  | int i => obtain ⟨t, e⟩ := (show ∃ t, u = Value.int i t from r); cases e; rfl
  | str x => obtain ⟨t, e⟩ := (show ∃ t, u = Value.str x t from r); cases e; rfl
  | byt b => obtain ⟨t, e⟩ := (show ∃ t, u = Value.bytes b t from r); cases e; rfl
  | flt b => obtain ⟨t, e⟩ := (show ∃ t, u = Value.float b t from r); cases e; rfl
  | ref a => cases (show u = Value.ref a from r); rfl
  | ty n => cases (show u = Value.type n from r); rfl

section
variable {P : Program} {w : World} {H H' : Hp} {h h' : Heap} {a C dx : Addr} {fs fs' : List (Str × V)}
theorem ins_get (hok : HOk P w H h) (e : H a = some (.ins C dx fs)) : ∃ mA, ObjM h a dx C mA ∧ (∀ f, RelO (fs.lookup f) (mA f)) ∧ PySem.Within mA (fs.map (·.1)) ∧ fs.length ≤ 1000 ∧ H dx = some (.own a) := by
  obtain ⟨d, z, ne, ob, mA, n, r, q⟩ := (show ObjOk P w H h a (.ins C dx fs) from hok a _ e)
  exact ⟨mA, ⟨ob, n, ne⟩, r, q, z, d⟩
end

/-! ### what of the text a class must have -/
structure Cls (K : PySem.W.Frag) (C : Addr) : Prop where
  pg : PySem.W.plainGet K C Str.empty = true
  hd : PySem.W.hasDictIn K C = true
  po : PySem.W.plainOver K C = true
  sa : PySem.W.findIn K (.ref C) "__setattr__" = some (some (.builtin "object.__setattr__"))
theorem Cls.get {K : PySem.W.Frag} {C : Addr} (c : Cls K C) (f : Str) : PySem.W.plainGet K C f = true := c.pg
/-- no class of it has the name -/
def NoAttr (K : PySem.W.Frag) (C : Addr) (f : Str) : Prop := PySem.W.findIn K (.ref C) f = some none
theorem NoAttr.taker {K : PySem.W.Frag} {C : Addr} {f : Str} (n : NoAttr K C f) : PySem.W.takerIn K C f = some none := by
  unfold PySem.W.takerIn
  rw [show PySem.W.findIn K (.ref C) f = some none from n]
  rfl
/-- a constant of the class -/
structure Con (K : PySem.W.Frag) (C : Addr) (f : Str) (v : V) (u : Value) : Prop where
  at_ : PySem.W.findIn K (.ref C) f = some (some u)
  rel : RelV v u
  get : PySem.W.specialIn K u "__get__" = some none
  cp : PySem.W.copiedNames.contains f = false
/-- a method: a plain def of the class or of one above it -/
structure Meth (K : PySem.W.Frag) (C : Addr) (m : Str) (f : Addr) : Prop where
  at_ : PySem.W.findIn K (.ref C) m = some (some (.ref f))
  fn : PySem.W.isFn K (.ref f) = true
  kp : PySem.W.keepIn K (.ref f) = true

section
variable {X : Cx} {pins : List (Addr × Obj)} {σ : St} {H : Hp} {s : Shared} {a C dx : Addr} {fs : List (Str × V)} {f : Str} {v : V} {A : Around} {E : Value → Shared → Prop}

theorem getattr_ok {b : Bool} {Q : Value → Shared → Prop} (I : Inv X pins σ H s) (e : H a = some (.ins C dx fs)) (c : Cls X.K C) (n : NoAttr X.K C f) (l : fs.lookup f = some v)
    (h : ∀ u s', Inv X pins σ H s' → RelV v u → Q u s') : wpAny (model X.prog X.w) A (getAttr (.ref a) f b) Q E s := by
  obtain ⟨mA, O, r, _, _, _⟩ := ins_get I.hok e
  obtain ⟨u, hu, ru⟩ := RelO.some_of (v := v) (o := mA f) (by rw [← l]; exact r f)
  exact get_map I.kIn O (c.get f) c.hd n hu (handed_of ru) (h u _ (I.tok _) ru)

theorem getmeth_ok {m : Str} {g : Addr} {pl : Sem Bool} {Q : Value × List Value → Shared → Prop} (I : Inv X pins σ H s) (e : H a = some (.ins C dx fs)) (c : Cls X.K C) (k : Meth X.K C m g) (l : fs.lookup m = none)
    (h : Q (.ref g, [.ref a]) s) : wpAny (model X.prog X.w) A (getMethod (.ref a) m pl) Q E s := by
  obtain ⟨mA, O, r, _, _, _⟩ := ins_get I.hok e
  have hn : mA m = none := RelO.none_of (by rw [← l]; exact r m)
  exact get_meth I.kIn O (c.get m) k.at_ k.fn hn h

theorem setattr_ok {y : V} {u : Value} {Q : Unit → Shared → Prop} (I : Inv X pins σ H s) (e : H a = some (.ins C dx fs)) (c : Cls X.K C) (n : NoAttr X.K C f) (hl : fs.length < 1000) (ry : RelV y u)
    (h : ∀ s', Inv X pins σ (upd H a (.ins C dx (putF f y fs))) s' → Q () s') : wpAny (model X.prog X.w) A (setAttr (.ref a) f u) Q E s := by
  obtain ⟨mA, O, r, wi, _, ho⟩ := ins_get I.hok e
  have hz : (fs.map (·.1)).length ≤ sizeLine := by rw [List.length_map, sizeLine_eq]; omega
  refine set_map I.kIn O c.sa c.po n.taker c.hd wi hz fun h' O' sb => h _ ?_
  have hd : ∃ o, h'.get? dx = some o := let ⟨o, _, _, e', _⟩ := O'.ns; ⟨o, e'⟩
  refine I.write (x := a) (e := dx) (by rw [e]; exact True.intro) (.inr ho) (fun b q hb z => (sb.2 b hb).trans z) hd ?_
  refine ⟨by rw [upd_ne O.ne]; exact ho, ?_, O.ne, O'.obj, _, O'.ns, fun g => ?_, fun g hg => ?_⟩
  · have := length_putF f y fs; omega
  · show RelO ((putF f y fs).lookup g) (if g = f then some u else mA g)
    rw [lookup_putF]
    by_cases q : g = f
    · rw [if_pos q, if_pos q]; exact ry
    · rw [if_neg q, if_neg q]; exact r g
  · by_cases q : g = f
    · rw [q]; exact (keys_putF f y fs).1
    · refine (keys_putF f y fs).2 g (wi g fun z => hg ?_)
      show (if g = f then some u else mA g) = none
      rw [if_neg q]; exact z

/-- a new instance, tracked, without attributes -/
theorem Inv.made (I : Inv X pins σ H s) : Inv X pins σ (upd (upd H s.heap.objs.size (.own (s.heap.objs.size + 1))) (s.heap.objs.size + 1) (.ins C s.heap.objs.size []))
    { s with heap := (s.heap.push PySem.W.emptyDict).push (PySem.W.instObj C s.heap.objs.size) } := by
  have e1 : (s.heap.push PySem.W.emptyDict).get? s.heap.objs.size = some PySem.W.emptyDict := Heap.get?_push_size s.heap rfl
  have e2 : ((s.heap.push PySem.W.emptyDict).push (PySem.W.instObj C s.heap.objs.size)).get? (s.heap.objs.size + 1) = some (PySem.W.instObj C s.heap.objs.size) := by
    have := Heap.get?_push_size (s.heap.push PySem.W.emptyDict) (o := PySem.W.instObj C s.heap.objs.size) rfl
    rwa [Heap.size_push] at this
  have e3 : (s.heap.push PySem.W.emptyDict).Ns s.heap.objs.size (fun _ => none) := ⟨PySem.W.emptyDict, #[], _, e1, rfl, (fun e he => absurd he (by simp)), fun _ => rfl⟩
  have I1 := I.laid (a := s.heap.objs.size) (o := .own (s.heap.objs.size + 1)) (h' := s.heap.push PySem.W.emptyDict) (t' := s.toks) (fun b u q => Heap.get?_push_of_some _ q) (Nat.le_refl _) ⟨_, e1⟩
  refine I1.laid (a := s.heap.objs.size + 1) (o := .ins C s.heap.objs.size []) (t' := s.toks) (fun b u q => Heap.get?_push_of_some _ q) (Nat.le_of_eq (Heap.size_push _ _)) ?_
  have ne : s.heap.objs.size ≠ s.heap.objs.size + 1 := Nat.ne_of_lt (Nat.lt_succ_self _)
  refine ⟨by rw [upd_ne ne, upd_same], Nat.zero_le _, ne, e2, fun _ => none, (Heap.Ns1.of_empty e3).at fun o q => Heap.get?_push_of_some _ q, fun _ => True.intro, fun y hy => absurd rfl hy⟩

/-- e.f where nothing but the object is asked: through attributeBase (super) and the last hold -/
theorem attr_of {prog : Program} {w : World} {env : Env} {e : Expr} {f : Str} {pos : Pos} {s : Shared} {Q : Value → Shared → Prop} (hb : attributeBase e f env (eval e env) = eval e env)
    (h : wpAny (model prog w) A (eval e env) (fun o s₁ => wpAny (model prog w) A (getAttr o f true) Q E s₁) E s) : wpAny (model prog w) A (eval (.Attribute e f pos) env) Q E s :=
  Attribute_any_ h (by rw [arm_eval_Attribute, hb])
end

/-! ### readings and rules -/
/-- e.f, an attribute of the instance -/
def tFld (K : PySem.W.Frag) (ta : TE) (f : Str) : TE := fun σ H Q => ta σ H fun x H1 => ∃ a C dx fs v, x = .ref a ∧ H1 a = some (.ins C dx fs) ∧ Cls K C ∧ NoAttr K C f ∧ fs.lookup f = some v ∧ Q v H1
/-- e.f, a constant of the class -/
def tCon (K : PySem.W.Frag) (ta : TE) (f : Str) : TE := fun σ H Q => ta σ H fun x H1 => ∃ a C dx fs v u, x = .ref a ∧ H1 a = some (.ins C dx fs) ∧ Cls K C ∧ Con K C f v u ∧ fs.lookup f = none ∧ Q v H1
/-- e.f = value -/
def sFld (K : PySem.W.Frag) (ta tv : TE) (f : Str) : TS := fun D σ H => tv σ H fun y H1 => ta σ H1 fun x H2 => ∃ a C dx fs, x = .ref a ∧ H2 a = some (.ins C dx fs) ∧ Cls K C ∧ NoAttr K C f ∧ fs.length < 1000 ∧
  D.nx σ (upd H2 a (.ins C dx (putF f y fs)))
/-- an augmented operator on two values -/
def InOp (X : Cx) (op : Operator) (rd : V → V → Hp → VK → Prop) : Prop :=
  ∀ (pins : List (Addr × Obj)) (s : Shared) (σ : St) (H : Hp) (x y : V) (u v : Value) (Q : VK), Inv X pins σ H s → RelV x u → RelV y v → rd x y H Q → wpAny (model X.prog X.w) X.A (inplaceOp op u v) (EP X pins σ Q) X.xe s
/-- e.f op= value -/
def sFldAug (K : PySem.W.Frag) (ta tv : TE) (rd : V → V → Hp → VK → Prop) (f : Str) : TS := fun D σ H => ta σ H fun x H1 => ∃ a C dx fs v, x = .ref a ∧ H1 a = some (.ins C dx fs) ∧ Cls K C ∧ NoAttr K C f ∧ fs.lookup f = some v ∧
  tv σ H1 fun y H2 => rd v y H2 fun z H3 => ∃ dx' fs', H3 a = some (.ins C dx' fs') ∧ fs'.length < 1000 ∧ D.nx σ (upd H3 a (.ins C dx' (putF f z fs')))

section
variable {X : Cx} {o e value : Expr} {f : Str} {pos pos' tpos : Pos} {ta tv : TE}
theorem pe_fld (he : PE X e ta) (hb : attributeBase e f X.env (eval e X.env) = eval e X.env) : PE X (.Attribute e f pos) (tFld X.K ta f) := by
  intro pins s σ H Q I h
  refine attr_of hb (thn (he pins s σ H _ I h) fun u s1 ⟨x, H1, I1, rx, a, C, dx, fs, v, ex, ea, c, n, l, q⟩ => ?_)
  subst ex
  obtain rfl : u = Value.ref a := rx
  exact getattr_ok I1 ea c n l fun u' s2 I2 ru => ⟨v, H1, I2, ru, q⟩
theorem ps_fld (ha : PE X o ta) (hv : PE X value tv) (hs : swapsWith value (some (.Attribute o f pos')) pos.line X.env = pure false) : PS X (.Assign [.Attribute o f pos'] value pos) (sFld X.K ta tv f) := by
  intro pins s σ H D I h
  refine plainObj_wpAny_Assign_Attribute (thn (hv pins s σ H _ I h) fun u s1 ⟨y, H1, I1, ry, q⟩ => thn (ha pins s1 σ H1 _ I1 q) fun ov s2 ⟨x, H2, I2, rx, a, C, dx, fs, ex, ea, c, n, l, q2⟩ => ?_) hs
  subst ex
  obtain rfl : ov = Value.ref a := rx
  exact setattr_ok I2 ea c n l ry fun s3 I3 => ⟨σ, _, I3, q2⟩
def rAdd : V → V → Hp → VK → Prop := fun x y H Q => ∃ i j, x = .int i ∧ y = .int j ∧ Q (.int (i + j)) H
def rSub : V → V → Hp → VK → Prop := fun x y H Q => ∃ i j, x = .int i ∧ y = .int j ∧ Q (.int (i - j)) H
theorem in_add : InOp X .Add rAdd := by
  rintro pins s σ H x y u v Q I rx ry ⟨i, j, rfl, rfl, q⟩
  obtain ⟨t, rfl⟩ := (show ∃ t, u = Value.int i t from rx)
  obtain ⟨t', rfl⟩ := (show ∃ t', v = Value.int j t' from ry)
  exact PyProof.Rows.iadd_int ⟨.int (i + j), H, I.tok _, ⟨_, rfl⟩, q⟩
end

/-! ### isinstance -/
section
variable {X : Cx} {pins : List (Addr × Obj)} {σ : St} {H : Hp} {s : Shared} {A : Around} {E : Value → Shared → Prop} {Q : Value → Shared → Prop} {c : Value} {b : Bool}
/-- the type of a value, as the fragment's deciders take it; for an instance its class -/
inductive TyOf (K : PySem.W.Frag) (H : Hp) : V → Value → Prop where
  | non : TyOf K H .non (.type "NoneType")
  | bl (x : Bool) : TyOf K H (.bl x) (.type "bool")
  | int (i : Int) : TyOf K H (.int i) (.type "int")
  | str (x : Str) : TyOf K H (.str x) (.type "str")
  | flt (x : UInt64) : TyOf K H (.flt x) (.type "float")
  | lst {a : Addr} {xs : List V} (e : H a = some (.lst xs)) : TyOf K H (.ref a) (.type "list")
  | frz {a : Addr} {o : Obj} {xs : List V} (e : H a = some (.frz o (.lst xs))) : TyOf K H (.ref a) (.type "list")
  | tup {a : Addr} {xs : List V} (e : H a = some (.tup xs)) : TyOf K H (.ref a) (.type "tuple")
  | dK {a : Addr} {kvs : List (Key × V)} (e : H a = some (.dK kvs)) : TyOf K H (.ref a) (.type "dict")
  | dT {a : Addr} {kvs : List (List Key × V)} (e : H a = some (.dT kvs)) : TyOf K H (.ref a) (.type "dict")
  | ins {a C dx : Addr} {fs : List (Str × V)} (e : H a = some (.ins C dx fs)) (cl : Cls K C) (ha : PySem.W.findIn K (.ref C) "__class__" = some (some (.builtin "object.__class__")))
      (hn : PySem.W.specialIn K (.builtin "object.__class__") "__get__" = some (some (.builtin "getset_descriptor.__get__"))) (htk : PySem.W.takesIn K (.builtin "object.__class__") = some true)
      (hm : PySem.W.mroIn K C (.type "object") = some true) : TyOf K H (.ref a) (.ref C)
end
end L2

namespace L2
open PySem PySem.Spec PyProof.Rows

/-! ### room -/
structure Room (k : Nat) (A : Around) : Prop where
  hd : A.handled = none
  dp : A.depth + 3 * k + 5 < recursionLimit
  un : A.units + 16 * k + 200 < cLine
theorem Room.mono {j k : Nat} {A : Around} (r : Room k A) (h : j ≤ k) : Room j A := ⟨r.hd, by have := r.dp; omega, by have := r.un; omega⟩
theorem Room.deeper {k : Nat} {A : Around} (r : Room (k + 1) A) (env : Env) : Room k (A.deeper env) :=
  ⟨r.hd, by have := r.dp; show A.depth + 1 + 3 * k + 5 < _; omega, by have := r.un; show A.units + 3 + 16 * k + 200 < _; omega⟩
theorem make_depth {A : Around} {C : Addr} {us : List Value} {kw : List (Str × Value)} : (A.under (.builtin "type.__call__" ⟨.ref C :: us, kw⟩)).depth = A.depth + 1 := by
  first | rfl | simp [Around.under, Code.weight, Code.isCreation, Code.isGuard, Code.isCaller, Code.frames, Code.isFrame, guardIds]
theorem make_units {A : Around} {C : Addr} {us : List Value} {kw : List (Str × Value)} : (A.under (.builtin "type.__call__" ⟨.ref C :: us, kw⟩)).units = A.units + 1 := by
  first | rfl | simp [Around.under, Code.cUnits, Code.frames, Code.isFrame]
theorem Room.make {k : Nat} {A : Around} (r : Room (k + 1) A) (C : Addr) (us : List Value) (kw : List (Str × Value)) : Room k (A.under (.builtin "type.__call__" ⟨.ref C :: us, kw⟩)) :=
  ⟨r.hd, by have := r.dp; rw [make_depth]; omega, by have := r.un; rw [make_units]; omega⟩
theorem Room.depth {k : Nat} {A : Around} (r : Room k A) : A.depth < recursionLimit := by have := r.dp; omega
theorem Room.units {k : Nat} {A : Around} (r : Room k A) : A.units + 64 < cLine := by have := r.un; omega
/-! ### argument lists and displays -/
def tNil : TA := fun _ H Q => Q [] H
def tCons (ta : TE) (tr : TA) : TA := fun σ H Q => ta σ H fun x H1 => tr σ H1 fun xs H2 => Q (x :: xs) H2
section
variable {X : Cx} {e : Expr} {es : List Expr} {te : TE} {t : TA} {pos : Pos}
theorem pa_nil : PA X [] tNil := fun _ _ _ _ H Q I h => Calls.spliced_nil ⟨[], H, I, .nil, h⟩
theorem pa_cons (ha : PE X e te) (hr : PA X es t) (hs : starEach (e :: es) X.env = (false, eval e X.env) :: starEach es X.env := by rfl) : PA X (e :: es) (tCons te t) := by
  intro pos pins s σ H Q I h
  rw [hs]
  show wpAny _ _ (spliced ((false, eval e X.env) :: backTo pos (starEach es X.env))) _ _ s
  refine Calls.spliced_cons (thn (ha pins s σ H _ I h) fun u s1 ⟨x, H1, I1, r1, q1⟩ => ?_)
  exact thn (hr pos pins s1 σ H1 _ I1 q1) fun us s2 ⟨xs, H2, I2, r2, q2⟩ => ⟨x :: xs, H2, I2, .cons r1 r2, q2⟩

/-- a tuple, a list of written items -/
def tTup (t : TA) : TE := fun σ H Q => t σ H fun xs H1 => xs.length ≤ sizeLine ∧ ∀ p, H1 p = none → Q (.ref p) (upd H1 p (.tup xs))
def tLst (t : TA) : TE := fun σ H Q => t σ H fun xs H1 => xs.length ≤ sizeLine ∧ ∀ p, H1 p = none → Q (.ref p) (upd H1 p (.lst xs))
theorem pe_tup {x1} (h : PA X es t) : PE X (.Tuple es x1 pos) (tTup t) := by
  intro pins s σ H Q I hq
  refine wpAny_Tuple_spliced (thn (h pos pins s σ H _ I hq) fun us s1 ⟨xs, H1, I1, r, z, q⟩ => ⟨by rw [← r.length]; exact z, ?_⟩)
  have hf : H1 s1.heap.objs.size = none := I1.hok.fresh (Nat.le_refl _)
  refine ⟨.ref s1.heap.objs.size, upd H1 s1.heap.objs.size (.tup xs), I1.laid (t' := s1.toks) (fun b u e => Heap.get?_push_of_some _ e) (Nat.le_refl _) ?_, rfl, q _ hf⟩
  exact ⟨z, us, r, ⟨_, Heap.get?_push_size _ rfl, rfl, _, rfl⟩⟩
theorem pe_lst (h : PA X es t) : PE X (.List es pos) (tLst t) := by
  intro pins s σ H Q I hq
  refine wpAny_List_spliced (thn (h pos pins s σ H _ I hq) fun us s1 ⟨xs, H1, I1, r, z, q⟩ => ⟨by rw [← r.length]; exact z, ?_⟩)
  have hf : H1 s1.heap.objs.size = none := I1.hok.fresh (Nat.le_refl _)
  refine ⟨.ref s1.heap.objs.size, upd H1 s1.heap.objs.size (.lst xs), I1.laid (t' := s1.toks) (fun b u e => Heap.get?_push_of_some _ e) (Nat.le_refl _) ?_, rfl, q _ hf⟩
  exact ⟨z, us, 0, r, Heap.get?_push_size _ rfl⟩
end

/-! ### what a def promises -/
/-- a def's promise: the bound arguments in the parameters' order, the heap, the wanted end, the wanted exception -/
abbrev Sp := List V → Hp → VK → XK → Prop
/-- how an exception lies behind a call (file 08 gives it): the callers' frames, abstract heap and state ahead of the call, the wish, the exception, the state -/
abbrev CXT := List Env → Hp → Shared → XK → Value → Shared → Prop

/-- the state at a call -/
structure Env0 (P : Program) (w : World) (K : PySem.W.Frag) (mg : Str → Option Value) (base : Heap) (A : Around) (outer : List Env) (s : Shared) (H : Hp) : Prop where
  frames : A.frames = some outer
  mod : Mod K mg base
  bs : ∀ b o, base.get? b = some o → s.heap.get? b = some o ∧ H b = none
  bsz : base.objs.size ≤ s.heap.objs.size
  funs : s.heap.FunFrames base outer
  frf : ∀ b ∈ frs outer, H b = none
  hok : HOk P w H s.heap
  bare : AllBare s.gens
/-- a call's end -/
def CE (outer : List Env) (P : Program) (w : World) (H : Hp) (s : Shared) (Q : VK) (u : Value) (s' : Shared) : Prop :=
  ∃ v H', s'.os = s.os ∧ AllBare s'.gens ∧ Un (frs outer) [] H H' s.heap s'.heap ∧ HOk P w H' s'.heap ∧ RelV v u ∧ Q v H'
def CR (CX : CXT) (outer : List Env) (P : Program) (w : World) (H : Hp) (s : Shared) (Q : VK) (E : XK) (r : Result) (s' : Shared) : Prop :=
  match r with
  | .ok (.ret u) => CE outer P w H s Q u s'
  | .ok _ => False
  | .error e => CX outer H s E e s'
structure FnOk (P : Program) (w : World) (K : PySem.W.Frag) (mg : Str → Option Value) (base : Heap) (CX : CXT) (k : Nat) (f : Addr) (fd : FuncData) (ps : List Str) (sp : Sp) : Prop where
  len : ∀ vs H Q E, sp vs H Q E → vs.length = ps.length
  run : ∀ (A : Around) (outer : List Env) (s : Shared) (H : Hp) (args : Args) (us : List Value) (vs : List V) (Q : VK) (E : XK), Room k A → Env0 P w K mg base A outer s H → BindsTo s fd args (ps.zip us) → Vals vs us → sp vs H Q E →
    codeAny (model P w) A (.call (.ref f) args) (CR CX outer P w H s Q E) s
theorem Env0.make {P : Program} {w : World} {K : PySem.W.Frag} {mg : Str → Option Value} {base : Heap} {A : Around} {outer : List Env} {s : Shared} {H : Hp} (e : Env0 P w K mg base A outer s H) (C : Addr) (us : List Value) (kw : List (Str × Value)) :
    Env0 P w K mg base (A.under (.builtin "type.__call__" ⟨.ref C :: us, kw⟩)) outer s H := ⟨by first | exact e.frames | (simpa [Around.under, Code.envs, Code.isFrame, pushEnvs] using e.frames), e.mod, e.bs, e.bsz, e.funs, e.frf, e.hok, e.bare⟩
section
variable {X : Cx} {pins : List (Addr × Obj)} {σ : St} {H : Hp} {s s' : Shared}
/-- from a body: what a callee wants -/
theorem Inv.env0 (I : Inv X pins σ H s) : Env0 X.prog X.w X.K X.mg X.base X.A X.stack s H :=
  ⟨I.ok.frames, I.ok.mod, I.bs, Nat.le_trans I.ok.bsz I.sz, I.stack, I.stkFree, I.hok, I.bare⟩
/-- behind a call -/
theorem Inv.after {Q : VK} {u : Value} (I : Inv X pins σ H s) (h : CE X.stack X.prog X.w H s Q u s') : EP X pins σ Q u s' := by
  obtain ⟨v, H', os, bare, un, hok, r, q⟩ := h
  obtain ⟨hh, g, d, t, os'⟩ := s'
  obtain rfl : os' = s.os := os
  exact ⟨v, H', I.call (h' := hh) (g' := g) (d' := d) (t' := t) (ch := []) un hok bare (fun b z => absurd z (by simp)), r, q⟩
end

/-! ### calls -/
/-- f(..): the written arguments, then the defaults dvs; E: what is wanted of an exception -/
def tCall (sp : Sp) (dvs : List V) (E : XK) (t : TA) : TE := fun σ H Q => t σ H fun vs H1 => sp (vs ++ dvs) H1 Q E
/-- o.m(..) of an instance of the class at C -/
def tMeth (C : Addr) (m : Str) (sp : Sp) (dvs : List V) (E : XK) (ta : TE) (t : TA) : TE := fun σ H Q => ta σ H fun x H1 => ∃ a dx fs, x = .ref a ∧ H1 a = some (.ins C dx fs) ∧ fs.lookup m = none ∧
  t σ H1 fun vs H2 => sp (x :: (vs ++ dvs)) H2 Q E
/-- C(..): a new instance and its dict, then __init__ -/
def tMake (C : Addr) (sp : Sp) (dvs : List V) (E : XK) (t : TA) : TE := fun σ H Q => t σ H fun vs H1 => ∀ x dx, H1 x = none → H1 dx = none → dx ≠ x →
  sp (.ref x :: (vs ++ dvs)) (upd (upd H1 dx (.own x)) x (.ins C dx [])) (fun v H2 => v = .non ∧ Q (.ref x) H2) E

/-- how the parameters are bound: us the positional arguments, kw the keywords' values by name, ds the defaults that fill up -/
def Binds (K : PySem.W.Frag) (fd : FuncData) (ps : List Str) (ds : List Value) : Prop :=
  ∀ (s : Shared) (us : List Value), K.In s.heap → (us ++ ds).length = ps.length → BindsTo s fd ⟨us, []⟩ (ps.zip (us ++ ds))
/-- every parameter is given -/
theorem Binds.all {K : PySem.W.Frag} {fd : FuncData} {ps : List Str} (h : ∀ us : List Value, us.length = ps.length → bindArgs fd ⟨us, []⟩ = pure (ps.zip us)) : Binds K fd ps [] := fun s us _ hl => by
  rw [List.append_nil] at hl ⊢
  exact .of_eq (h us hl)

/-- an exception of a callee reaches what this body wants of exceptions -/
def Passes (CX : CXT) (X : Cx) (E : XK) : Prop := ∀ (pins : List (Addr × Obj)) (σ : St) (H : Hp) (s : Shared) (e : Value) (s' : Shared), Inv X pins σ H s → CX X.stack H s E e s' → X.xe e s'

section
variable {X : Cx} {CX : CXT} {k : Nat} {f C : Addr} {fd : FuncData} {ps : List Str} {sp : Sp} {dvs : List V} {ds : List Value} {E : XK} {x m : Str} {p pos apos : Pos} {e o : Expr} {es : List Expr} {ta : TE} {t : TA}

/-- the callee runs -/
theorem run_fn {pins : List (Addr × Obj)} {σ : St} {H : Hp} {s : Shared} {Q : VK} {us : List Value} {vs : List V} (F : FnOk X.prog X.w X.K X.mg X.base CX k f fd ps sp) (hr : Room k X.A) (hb : Binds X.K fd ps ds) (hd : Vals dvs ds) (hx : Passes CX X E)
    (I : Inv X pins σ H s) (r : Vals vs us) (h : sp (vs ++ dvs) H Q E) : wpAny (model X.prog X.w) X.A (call (.ref f) us) (EP X pins σ Q) X.xe s := by
  have r2 : Vals (vs ++ dvs) (us ++ ds) := r.append hd
  have hl : (us ++ ds).length = ps.length := by rw [← r2.length]; exact F.len _ _ _ _ h
  refine wpAny_call (codeAny_mono (F.run X.A X.stack s H ⟨us, []⟩ (us ++ ds) (vs ++ dvs) Q E hr I.env0 (hb s us I.kIn hl) r2 h) fun r s' hq => ?_)
  cases r with
  | error e => exact hx pins σ H s e s' I hq
  | ok fl =>
    cases fl with
    | ret u => exact I.after hq
    | next => exact False.elim hq
    | brk => exact False.elim hq
    | cont => exact False.elim hq

theorem pe_call (F : FnOk X.prog X.w X.K X.mg X.base CX k f fd ps sp) (hr : Room k X.A) (hg : Gl X x) (hm : X.mg x = some (.ref f)) (hk : PySem.W.keepIn X.K (.ref f) = true) (hb : Binds X.K fd ps ds) (hd : Vals dvs ds) (hx : Passes CX X E)
    (ha : PA X (e :: es) t) (hdb : (x == ("__debug__" : Str)) = false := by decide) (he : starEach (e :: es) X.env = (false, eval e X.env) :: starEach es X.env := by rfl) (hpl : (backTo pos (starEach es X.env)).any (·.1) = false := by rfl) :
    PE X (.Call (.Name x p) (e :: es) [] pos) (tCall sp dvs E t) := by
  intro pins s σ H Q I h
  refine wpAny_Call_Name_kw (ld_glob I hg hm ?_ hdb)
  refine PySem.W.callWith_K (h₀ := X.base) I.ok.mod.kin hk (thn (ha pos pins s σ H _ I h) fun us s1 ⟨vs, H1, I1, r, q⟩ => ⟨I1.kIn, ?_⟩) he hpl
  exact run_fn F hr hb hd hx I1 r q
/-- o.m(e, ..) -/
theorem pe_meth {pl : Sem Bool} (he : PE X o ta) (c : Cls X.K C) (hm : Meth X.K C m f) (F : FnOk X.prog X.w X.K X.mg X.base CX k f fd ps sp) (hr : Room k X.A) (hb : Binds X.K fd ps ds) (hd : Vals dvs ds) (hx : Passes CX X E) (ha : PA X (e :: es) t)
    (hst : starEach (e :: es) X.env = (false, eval e X.env) :: starEach es X.env := by rfl) (hpl : (backTo pos (starEach es X.env)).any (·.1) = false := by rfl)
    (ht : eval (.Call (.Attribute o m apos) (e :: es) [] pos) X.env = (do
      let ov ← eval o X.env
      standAt apos.atName
      let (f, first) ← holding [ov] (getMethod ov m pl)
      callWith pos f first (backTo pos (starEach (e :: es) X.env)) (backToKw pos (keywordEach [] X.env))) := by rfl) :
    PE X (.Call (.Attribute o m apos) (e :: es) [] pos) (tMeth C m sp dvs E ta t) := by
  intro pins s σ H Q I h
  refine PySem.W.methodCall_KW (pl := pl) (thn (he pins s σ H _ I h) fun u s1 ⟨x, H1, I1, rx, a, dx, fs, ex, ea, l, q⟩ => ?_) ht
  subst ex
  obtain rfl : u = Value.ref a := rx
  refine getmeth_ok I1 ea c hm l ?_
  refine PySem.W.callWith_K (first := [.ref a]) (h₀ := X.base) I.ok.mod.kin hm.kp (thn (ha pos pins s1 σ H1 _ I1 q) fun us s2 ⟨vs, H2, I2, r, q2⟩ => ⟨I2.kIn, ?_⟩) hst hpl
  exact run_fn (us := .ref a :: us) (vs := .ref a :: vs) F hr hb hd hx I2 (.cons rfl r) q2
/-- o.m() -/
theorem pe_meth0 {pl : Sem Bool} (he : PE X o ta) (c : Cls X.K C) (hm : Meth X.K C m f) (F : FnOk X.prog X.w X.K X.mg X.base CX k f fd ps sp) (hr : Room k X.A) (hb : Binds X.K fd ps ds) (hd : Vals dvs ds) (hx : Passes CX X E)
    (ht : eval (.Call (.Attribute o m apos) [] [] pos) X.env = (do
      let ov ← eval o X.env
      standAt apos.atName
      let (f, first) ← holding [ov] (getMethod ov m pl)
      callWith pos f first (backTo pos (starEach [] X.env)) (backToKw pos (keywordEach [] X.env))) := by rfl) :
    PE X (.Call (.Attribute o m apos) [] [] pos) (tMeth C m sp dvs E ta tNil) := by
  intro pins s σ H Q I h
  refine PySem.W.methodCall_KW (pl := pl) (thn (he pins s σ H _ I h) fun u s1 ⟨x, H1, I1, rx, a, dx, fs, ex, ea, l, q⟩ => ?_) ht
  subst ex
  obtain rfl : u = Value.ref a := rx
  refine getmeth_ok I1 ea c hm l ?_
  exact PySem.W.callWith_K0 (first := [.ref a]) I1.kIn hm.kp (run_fn (us := [.ref a]) (vs := [.ref a]) F hr hb hd hx I1 (.cons rfl .nil) q)

/-- what a class must have to be made -/
structure Mk (K : PySem.W.Frag) (C f : Addr) : Prop where
  makes : PySem.W.makesIn K C = true
  init : PySem.W.findIn K (.ref C) "__init__" = some (some (.ref f))
  fn : PySem.W.isFn K (.ref f) = true
  kp : PySem.W.keepIn K (.ref C) = true

theorem run_make {pins : List (Addr × Obj)} {σ : St} {H : Hp} {s : Shared} {Q : VK} {us : List Value} {vs : List V} (M : Mk X.K C f) (F : FnOk X.prog X.w X.K X.mg X.base CX k f fd ps sp) (hr : Room (k + 1) X.A) (hb : Binds X.K fd ps ds) (hd : Vals dvs ds)
    (hx : Passes CX X E) (I : Inv X pins σ H s) (r : Vals vs us)
    (h : ∀ x dx, H x = none → H dx = none → dx ≠ x → sp (.ref x :: (vs ++ dvs)) (upd (upd H dx (.own x)) x (.ins C dx [])) (fun v H2 => v = .non ∧ Q (.ref x) H2) E) :
    wpAny (model X.prog X.w) X.A (call (.ref C) us) (EP X pins σ Q) X.xe s := by
  have hq := h (s.heap.objs.size + 1) s.heap.objs.size (I.hok.fresh (Nat.le_succ _)) (I.hok.fresh (Nat.le_refl _)) (Nat.ne_of_lt (Nat.lt_succ_self _))
  have I2 := Inv.made (C := C) I
  have r2 : Vals (V.ref (s.heap.objs.size + 1) :: (vs ++ dvs)) (Value.ref (s.heap.objs.size + 1) :: (us ++ ds)) := .cons rfl (r.append hd)
  have hl : (Value.ref (s.heap.objs.size + 1) :: us ++ ds).length = ps.length := by
    have e := r2.length
    rw [F.len _ _ _ _ hq] at e
    exact e.symm
  refine wpAny_call (make_map (f := f) I.kIn M.makes M.init (beq_iff_eq.mp M.fn) (codeAny_mono (F.run _ X.stack _ _ ⟨Value.ref (s.heap.objs.size + 1) :: us, []⟩ (Value.ref (s.heap.objs.size + 1) :: (us ++ ds)) _ _ E (hr.make C us [])
    (I2.env0.make C us []) (hb _ (Value.ref (s.heap.objs.size + 1) :: us) I2.kIn hl) r2 hq) fun r s' hq' => ?_))
  cases r with
  | error e => exact hx pins σ _ _ e s' I2 hq'
  | ok fl =>
    cases fl with
    | ret u =>
      obtain ⟨v, H', I3, rv, ev, q3⟩ := I2.after hq'
      subst ev
      exact ⟨rv, ⟨V.ref (s.heap.objs.size + 1), H', I3, rfl, q3⟩⟩
    | next => exact False.elim hq'
    | brk => exact False.elim hq'
    | cont => exact False.elim hq'
theorem pe_make (M : Mk X.K C f) (F : FnOk X.prog X.w X.K X.mg X.base CX k f fd ps sp) (hr : Room (k + 1) X.A) (hg : Gl X x) (hm : X.mg x = some (.ref C)) (hb : Binds X.K fd ps ds) (hd : Vals dvs ds) (hx : Passes CX X E)
    (ha : PA X (e :: es) t) (hdb : (x == ("__debug__" : Str)) = false := by decide) (he : starEach (e :: es) X.env = (false, eval e X.env) :: starEach es X.env := by rfl) (hpl : (backTo pos (starEach es X.env)).any (·.1) = false := by rfl) :
    PE X (.Call (.Name x p) (e :: es) [] pos) (tMake C sp dvs E t) := by
  intro pins s σ H Q I h
  refine wpAny_Call_Name_kw (ld_glob I hg hm ?_ hdb)
  refine PySem.W.callWith_K (h₀ := X.base) I.ok.mod.kin M.kp (thn (ha pos pins s σ H _ I h) fun us s1 ⟨vs, H1, I1, r, q⟩ => ⟨I1.kIn, ?_⟩) he hpl
  exact run_make M F hr hb hd hx I1 r q
theorem pe_make0 (M : Mk X.K C f) (F : FnOk X.prog X.w X.K X.mg X.base CX k f fd ps sp) (hr : Room (k + 1) X.A) (hg : Gl X x) (hm : X.mg x = some (.ref C)) (hb : Binds X.K fd ps ds) (hd : Vals dvs ds) (hx : Passes CX X E)
    (hdb : (x == ("__debug__" : Str)) = false := by decide) : PE X (.Call (.Name x p) [] [] pos) (tMake C sp dvs E tNil) := by
  intro pins s σ H Q I h
  refine wpAny_Call_Name_kw (ld_glob I hg hm ?_ hdb)
  exact PySem.W.callWith_K0 I.kIn M.kp (run_make (us := []) M F hr hb hd hx I .nil h)
end

/-! ### keywords -/
/-- the values of the keywords, from the left -/
def PK (X : Cx) (kws : List Keyword) (t : TA) : Prop :=
  ∀ (pos : Pos) (pins : List (Addr × Obj)) (s : Shared) (σ : St) (H : Hp) (Q : List V → Hp → Prop), Inv X pins σ H s → t σ H Q → wpAny (model X.prog X.w) X.A (evalAll ((backToKw pos (keywordEach kws X.env)).map (·.2))) (AP X pins σ Q) X.xe s
section
variable {X : Cx} {CX : CXT} {k : Nat} {f C : Addr} {fd : FuncData} {ps ks : List Str} {sp : Sp} {E : XK} {x m : Str} {p pos apos kpos : Pos} {e o : Expr} {es : List Expr} {kws : List Keyword} {te ta : TE} {t tk : TA} {nm : Option Str}
/-- how a call with keywords binds: g puts the positional values us and the keywords' values ws (names ks) in the parameters' order, defaults among them -/
structure KBinds (K : PySem.W.Frag) (fd : FuncData) (ps ks : List Str) (g : List Value → List Value → List Value) (gV : List V → List V → List V) : Prop where
  to : ∀ (s : Shared) (us ws : List Value), K.In s.heap → (g us ws).length = ps.length → BindsTo s fd ⟨us, ks.zip ws⟩ (ps.zip (g us ws))
  rel : ∀ {vs : List V} {us : List Value} {zs : List V} {ws : List Value}, Vals vs us → Vals zs ws → Vals (gV vs zs) (g us ws)
def tCallK (sp : Sp) (gV : List V → List V → List V) (E : XK) (t tk : TA) : TE := fun σ H Q => t σ H fun vs H1 => tk σ H1 fun zs H2 => sp (gV vs zs) H2 Q E
variable {g : List Value → List Value → List Value} {gV : List V → List V → List V}
end

/-! ### a def's body keeps its promise -/
/-- names: the parameters first -/
structure FnScope (N P : List Str) (sc : Scope) : Prop where
  kind : sc.kind = .function
  co : sc.isCoroutine = false
  gen : sc.isGenerator = false
  nd : N.Nodup
  pre : N.take P.length = P
  par : ∀ x ∈ P, sc.names.lookup x = some .local ∨ sc.names.lookup x = some .cell
  nofree : ∀ y ∈ sc.names, y.2 ≠ .free

theorem bindL_out {kindOf : Str → Option NameKind} {x : Str} : ∀ {binds : List (Str × Value)} {m : Str → Option Value}, (∀ v, (x, v) ∉ binds) → bindL kindOf binds m x = m x
  | [], _, _ => rfl
  | (n, v) :: r, m, h => by
    unfold bindL
    rw [bindL_out fun w hw => h w (List.mem_cons_of_mem _ hw)]
    split
    · have : x ≠ n := by rintro rfl; exact h v List.mem_cons_self
      simp [this]
    · rfl
theorem bindC_out {kindOf : Str → Option NameKind} {x : Str} : ∀ {binds : List (Str × Value)} {m : Str → Option Value}, (∀ v, (x, v) ∉ binds) → bindC kindOf binds m x = m x
  | [], _, _ => rfl
  | (n, v) :: r, m, h => by
    unfold bindC
    rw [bindC_out fun w hw => h w (List.mem_cons_of_mem _ hw)]
    split
    · rfl
    · have : x ≠ n := by rintro rfl; exact h v List.mem_cons_self
      simp [this]
theorem bindL_get {kindOf : Str → Option NameKind} {x : Str} {v : Value} : ∀ {P : List Str} {vs : List Value} {i : Nat} {m : Str → Option Value}, P.Nodup → P[i]? = some x → vs[i]? = some v → kindOf x = some .local →
    bindL kindOf (P.zip vs) m x = some v
  | [], _, _, _, _, h, _, _ => by simp at h
  | _ :: _, [], _, _, _, _, h, _ => by simp at h
  | p :: P, w :: vs, 0, m, nd, h1, h2, hk => by
    simp at h1 h2; subst h1; subst h2
    show bindL kindOf ((p, w) :: P.zip vs) m p = _
    unfold bindL
    rw [bindL_out fun v hv => (List.nodup_cons.mp nd).1 (List.of_mem_zip hv).1, if_pos hk]
    simp
  | p :: P, w :: vs, i + 1, m, nd, h1, h2, hk => by
    show bindL kindOf ((p, w) :: P.zip vs) m x = _
    unfold bindL
    exact bindL_get (i := i) (List.nodup_cons.mp nd).2 (by simpa using h1) (by simpa using h2) hk
theorem bindC_get {kindOf : Str → Option NameKind} {x : Str} {v : Value} : ∀ {P : List Str} {vs : List Value} {i : Nat} {m : Str → Option Value}, P.Nodup → P[i]? = some x → vs[i]? = some v → kindOf x ≠ some .local →
    bindC kindOf (P.zip vs) m x = some v
  | [], _, _, _, _, h, _, _ => by simp at h
  | _ :: _, [], _, _, _, _, h, _ => by simp at h
  | p :: P, w :: vs, 0, m, nd, h1, h2, hk => by
    simp at h1 h2; subst h1; subst h2
    show bindC kindOf ((p, w) :: P.zip vs) m p = _
    unfold bindC
    rw [bindC_out fun v hv => (List.nodup_cons.mp nd).1 (List.of_mem_zip hv).1, if_neg hk]
    simp
  | p :: P, w :: vs, i + 1, m, nd, h1, h2, hk => by
    show bindC kindOf ((p, w) :: P.zip vs) m x = _
    unfold bindC
    exact bindC_get (i := i) (List.nodup_cons.mp nd).2 (by simpa using h1) (by simpa using h2) hk

/-- the names' values at the entry -/
def start (N : List Str) (vs : List V) : St := vs.map some ++ List.replicate (N.length - vs.length) none

/-- the context of a def's body, at its entry; an exception leaves the frame, then lies as CX says -/
def cxOf (CX : CXT) (P : Program) (w : World) (K : PySem.W.Frag) (mg : Str → Option Value) (base : Heap) (N : List Str) (qual : Str) (scope : Scope) (f : Addr) (cd : Value) (A : Around) (outer : List Env) (s : Shared) (H : Hp) (E : XK) : Cx where
  prog := P
  w := w
  K := K
  mg := mg
  base := base
  A := A.deeper (envOfC qual scope s.heap.objs.size f cd)
  N := N
  s_0 := s
  H_0 := H
  env := envOfC qual scope s.heap.objs.size f cd
  outer := outer
  stack := envOfC qual scope s.heap.objs.size f cd :: outer
  ex := []
  calm := true
  fn := fun _ => true
  pn := []
  xe := fun e s' => wpAny (model P w) (A.deeper (envOfC qual scope s.heap.objs.size f cd)) (leaving (envOfC qual scope s.heap.objs.size f cd) e) (fun _ s'' => CX outer H s E e s'') (fun e' s'' => CX outer H s E e' s'') s'

theorem cell_has {sc : Scope} {n : Nat} {x : Str} (h : sc.names.lookup x = some .cell) : ∃ c, (cellsFrom n sc.names []).lookup x = some c := by
  have q := PySem.W.cellsFrom_some sc.names n [] (.inl h)
  exact Option.isSome_iff_exists.mp q

theorem inv_start {CX : CXT} {P : Program} {w : World} {K : PySem.W.Frag} {mg : Str → Option Value} {base : Heap} {N ps : List Str} {qual : Str} {scope : Scope} {f : Addr} {cd : Value} {A : Around} {outer : List Env} {s s1 : Shared} {H : Hp} {E : XK} {us : List Value} {vs : List V}
    (S : FnScope N ps scope) (hd : A.handled = none) (e0 : Env0 P w K mg base A outer s H) (hl : vs.length = ps.length) (r : Vals vs us)
    (x : InCallC s s.heap.objs.size (bindL (envOfC qual scope s.heap.objs.size f cd).kindOf (ps.zip us) fun _ => none) (cellsFrom (s.heap.objs.size + 1) scope.names []) (bindC (envOfC qual scope s.heap.objs.size f cd).kindOf (ps.zip us) fun _ => none) s1) :
    Inv (cxOf CX P w K mg base N qual scope f cd A outer s H E) [] (start N vs) H s1 := by
  have hpl : ps.length ≤ N.length := by have := congrArg List.length S.pre; rw [List.length_take] at this; omega
  obtain ⟨h1, tk, rfl, hk⟩ := x.done
  have noA : ∀ b : Addr, b ∉ (cxOf CX P w K mg base N qual scope f cd A outer s H E).ex := fun b z => absurd (show b ∈ ([] : List Addr) from z) (by simp)
  refine ⟨⟨e0.mod, S.kind, rfl, rfl, Nat.le_refl _, fun y z c h1 h2 => ?_, fun y hy => ?_, fun y c _ h => ?_, fun _ => hd, Around.frames_deeper e0.frames, .inr ⟨rfl, rfl⟩, fun b z => absurd z (noA b), e0.bs, e0.bsz, fun b _ _ => noA b, fun b z => absurd z (noA b), e0.funs, e0.frf⟩,
    rfl, e0.bare, Un.kept hk, ⟨_, x.toInCall.ns, fun i y v h1 h2 h3 => ?_⟩, fun y c h => ⟨_, x.cell y c h⟩, e0.hok.fresh (Nat.le_refl _), fun y c h => ?_, fun p hp => absurd (show p ∈ ([] : List (Addr × Obj)) from hp) (by simp), e0.hok.kept hk, ?_⟩
  · exact name_of_addr x.apart (PySem.mem_of_lookup h1) (PySem.mem_of_lookup h2)
  · have hy : scope.names.lookup y = some .cell ∨ scope.names.lookup y = some .free := hy
    rcases hy with hy | hy
    · exact cell_has hy
    · exact absurd rfl (S.nofree _ (PySem.mem_of_lookup hy))
  · exact Nat.le_of_lt (x.above y c (PySem.mem_of_lookup h))
  · have hi : i < vs.length := by
      unfold start at h2
      by_cases hi : i < vs.length
      · exact hi
      · rw [List.getElem?_append_right (by simpa using hi)] at h2
        rw [List.getElem?_replicate] at h2
        split at h2 <;> cases h2
    have ha : vs[i]? = some v := by
      unfold start at h2
      rw [List.getElem?_append_left (by simpa using hi), List.getElem?_map] at h2
      cases e : vs[i]? with
      | none => rw [e] at h2; cases h2
      | some a => rw [e] at h2; cases h2; rfl
    obtain ⟨u, hu, rv⟩ := r.get ha
    have hp : ps[i]? = some y := by
      rw [← S.pre, List.getElem?_take_of_lt (by omega)]; exact h1
    have ndP : ps.Nodup := by rw [← S.pre]; exact S.nd.sublist (List.take_sublist _ _)
    refine ⟨u, rv, ?_⟩
    rcases S.par y (List.mem_of_getElem? hp) with k | k
    · exact .inl ⟨k, bindL_get ndP hp hu k⟩
    · obtain ⟨c, e⟩ := cell_has (n := s.heap.objs.size + 1) k
      refine .inr ⟨.inl k, c, e, ?_⟩
      have q := x.cell y c e
      rw [bindC_get ndP hp hu (by show scope.names.lookup y ≠ _; rw [k]; decide)] at q
      exact q
  · exact e0.hok.fresh (Nat.le_of_lt (x.above y c (PySem.mem_of_lookup h)))
  · unfold start
    show _ = N.length
    rw [List.length_append, List.length_map, List.length_replicate]
    omega

/-- THE RULE: a def (or a method) of the text, by its body. The body's reading t is chosen for each entry; it is run at the parameters' values -/
theorem fn_of {CX : CXT} {P : Program} {w : World} {K : PySem.W.Frag} {mg : Str → Option Value} {base : Heap} {k : Nat} {f : Addr} {name qual : Str} {params : Arguments} {body : List Stmt} {scope : Scope} {dV kV doc pm cdv ct oc : Value} {an od : Option Addr}
    {osl : Array (Option Value)} {N ps : List Str} {sp : Sp} (lk : K.lookup f = some ⟨oc, od, .func (PySem.W.fnOf name qual params body scope dV kV doc pm an cdv ct), osl⟩) (hcd : PySem.W.codeIn K cdv qual = true) (S : FnScope N ps scope)
    (len : ∀ vs H Q E, sp vs H Q E → vs.length = ps.length)
    (hbody : ∀ (A : Around) (outer : List Env) (s : Shared) (H : Hp) (vs : List V) (Q : VK) (E : XK), Room k (A.deeper (envOfC qual scope s.heap.objs.size f cdv)) → sp vs H Q E →
      ∃ t, PSs (cxOf CX P w K mg base N qual scope f cdv A outer s H E) body t ∧ t { nx := fun _ H' => Q .non H', rt := Q } (start N vs) H) :
    FnOk P w K mg base CX (k + 1) f (PySem.W.fnOf name qual params body scope dV kV doc pm an cdv ct) ps sp := by
  refine ⟨len, fun A outer s H args us vs Q E hr e0 hb r hsp => ?_⟩
  have hl := len _ _ _ _ hsp
  have KX : K.In s.heap := e0.mod.kin.keeps fun b o e => (e0.bs b o e).1
  have lim : s.heap.NoLimit := e0.mod.nolimit.keeps fun b o e => (e0.bs b o e).1
  have hkind : ∀ y ∈ ps.zip us, scope.names.lookup y.1 = some .local ∨ (scope.names.lookup y.1 = some .cell ∧ ((cellsFrom (s.heap.objs.size + 1) scope.names []).lookup y.1).isSome = true) := fun ⟨n, v⟩ hy => by
    rcases S.par n (List.of_mem_zip hy).1 with q | q
    · exact .inl q
    · exact .inr ⟨q, PySem.W.cellsFrom_some _ _ _ (.inl q)⟩
  refine codeAny_call_function hr.depth (KX _ _ lk) rfl S.co S.gen rfl (PySem.W.codeRec_of KX hcd) (hb _ _ _ _ ?_)
  refine wpAny_newFunctionEnv_cells S.kind hkind fun env he s1 x => ?_
  subst he
  refine ⟨lim.keeps x.toInCall.keep, codeAny_func ?_⟩
  obtain ⟨t, ht, hq⟩ := hbody A outer s H vs Q E (hr.deeper _) hsp
  have I : Inv (cxOf CX P w K mg base N qual scope f cdv A outer s H E) [] (start N vs) H s1 := inv_start S hr.hd e0 hl r x
  refine wpAny_mono (ht [] s1 (start N vs) H _ I hq) (fun fl s' hs => ?_) fun e s' hs => hs
  have fin : ∀ {σ' : St} {H' : Hp} {v : V} {u : Value}, Inv (cxOf CX P w K mg base N qual scope f cdv A outer s H E) [] σ' H' s' → RelV v u → Q v H' → CE outer P w H s Q u s' :=
    fun {σ' H' v u} J rv q => ⟨v, H', J.os, J.bare, J.base, J.hok, rv, q⟩
  cases fl with
  | ret u =>
    obtain ⟨v, σ', H', J, rv, q⟩ := hs
    exact fin J rv q
  | next =>
    obtain ⟨σ', H', J, q⟩ := hs
    exact fin (v := V.non) (u := Value.none) J rfl q
  | brk =>
    obtain ⟨_, _, _, q⟩ := hs
    exact False.elim q
  | cont =>
    obtain ⟨_, _, _, q⟩ := hs
    exact False.elim q
end L2

namespace L2
open PySem PySem.Spec PyProof.Rows
section
variable {X : Cx} {x : Str} {p pos : Pos} {e : Expr} {es : List Expr} {t : TA} {id T : String} {r : List V → Hp → VK → Prop}

def tCB (r : List V → Hp → VK → Prop) (t : TA) : TE := fun σ H Q => t σ H fun vs H1 => r vs H1 Q
/-- f(e, ..), f a built-in function -/
theorem pe_callB (hc : CallR X (.builtin id) r) (hg : Gl X x) (hm : X.mg x = none) (hv : bootBuiltins x = some (.builtin id)) (ha : PA X (e :: es) t) (hn : x ≠ "__name__" := by decide) (hdb : (x == ("__debug__" : Str)) = false := by decide)
    (he : starEach (e :: es) X.env = (false, eval e X.env) :: starEach es X.env := by rfl) (hpl : (backTo pos (starEach es X.env)).any (·.1) = false := by rfl) : PE X (.Call (.Name x p) (e :: es) [] pos) (tCB r t) := by
  intro pins s σ H Q I h
  refine wpAny_Call_Name_kw (ld_blt I hg hm hv ?_ hn hdb)
  exact PyProof.Rows.callWith_builtin1 (thn (ha pos pins s σ H _ I h) fun us s1 ⟨vs, H1, I1, r1, q1⟩ => hc pins s1 σ H1 vs us Q I1 r1 q1) he hpl
/-- T(e, ..), T a built-in type -/
theorem pe_callTy (hc : CallR X (.type T) r) (hg : Gl X x) (hm : X.mg x = none) (hv : bootBuiltins x = some (.type T)) (ha : PA X (e :: es) t) (hn : x ≠ "__name__" := by decide) (hdb : (x == ("__debug__" : Str)) = false := by decide)
    (he : starEach (e :: es) X.env = (false, eval e X.env) :: starEach es X.env := by rfl) (hpl : (backTo pos (starEach es X.env)).any (·.1) = false := by rfl) : PE X (.Call (.Name x p) (e :: es) [] pos) (tCB r t) := by
  intro pins s σ H Q I h
  refine wpAny_Call_Name_kw (ld_blt I hg hm hv ?_ hn hdb)
  exact PyProof.Rows.callWith_type1 (thn (ha pos pins s σ H _ I h) fun us s1 ⟨vs, H1, I1, r1, q1⟩ => hc pins s1 σ H1 vs us Q I1 r1 q1) he hpl
end
end L2

namespace HT
open PySem PyProof.Rows

/-- t < u of tuples of ints -/
def lexLt : List Int → List Int → Bool
  | [], [] => false
  | [], _ :: _ => true
  | _ :: _, [] => false
  | x :: xs, y :: ys => if x = y then lexLt xs ys else decide (x < y)
theorem lexLt_cons (x y : Int) (xs ys : List Int) : lexLt (x :: xs) (y :: ys) = if x = y then lexLt xs ys else decide (x < y) := rfl
theorem lexLt_nil_nil : lexLt [] [] = false := rfl
theorem lexLt_nil_cons (y : Int) (ys : List Int) : lexLt [] (y :: ys) = true := rfl
theorem lexLt_cons_nil (x : Int) (xs : List Int) : lexLt (x :: xs) [] = false := rfl

theorem eqAt_int (A : Around) (s : Shared) (a : Int) (t : Tok) (c : Int) (u : Tok) : ∃ e, SeqAt.EqAt A s (.int a t) (.int c u) e ∧ (e = true ↔ a = c) :=
  ⟨(a == c), SeqAt.EqAt.int_int a t c u, by simp⟩
theorem rcLt_int (A : Around) (s : Shared) (a : Int) (t : Tok) (c : Int) (u : Tok) (prog : Program) (w : World) (E : Value → Shared → Prop) (Q : Value → Shared → Prop) (h : Q (.bool (decide (a < c))) s) :
    wpAny (model prog w) A (richCompare .Lt (.int a t) (.int c u)) Q E s :=
  (PyProof.Rows.lt_int h : wpAny (model prog w) A (compareOp .Lt (.int a t) (.int c u)) Q E s)

section
open PySem.SeqAt
open PySem.AutoSeq1 (wpAny_loadPart')
open PySem.MeetsSeq PySem.MeetsSeq2 PySem.MeetsSeq3

theorem tuple_lt_ints (l b : Addr) (items items2 : Array Value) (n n2 : Nat) (dd dd2 : Option Addr) (sl sl2 : Array (Option Value)) (ns ms : List Int) (hi : IntsAre items.toList ns) (hj : IntsAre items2.toList ms) :
    Meets (Builtin.«tuple.__lt__» ⟨[.ref l, .ref b], []⟩)
      (fun _ R s => s.heap.get? l = some { cls := .type "tuple", dict := dd, data := .seq items n, slots := sl } ∧ s.heap.get? b = some { cls := .type "tuple", dict := dd2, data := .seq items2 n2, slots := sl2 } ∧
        R (.ok (.ret (.bool (lexLt ns ms)))) s) :=
  .of_wp fun prog w A R s h => by
    obtain ⟨hp, g, d, tk, os⟩ := s; obtain ⟨hl, hb, h⟩ := h
    have f2 := AutoSeq1.sub_tuple_tuple
    have z1 : items.size = ns.length := by rw [← hi.length]; simp
    have z2 : items2.size = ms.length := by rw [← hj.length]; simp
    wp_walk using wpAny_loadPart' hl, wpAny_loadPart' hb, wpAny_forIn_list _ (fun rest b s' => b.1 = none ∧ s' = ⟨hp, g, d, tk, os⟩ ∧ ∃ (vs ws : List Value) (ns' ms' : List Int), rest = vs.zip ws ∧
      IntsAre vs ns' ∧ IntsAre ws ms' ∧ ns'.length + items2.size = ms'.length + items.size ∧ R (.ok (.ret (.bool (lexLt ns' ms')))) ⟨hp, g, d, tk, os⟩) _
    case turn =>
      rintro ⟨y, x⟩ rest b s' ⟨hb', rfl, vs, ws, ns', ms', hz, hvi, hwi, hlen, hR⟩
      cases hvi with
      | nil => rw [List.zip_nil_left] at hz; cases hz
      | cons a t hvi' =>
        cases hwi with
        | nil => rw [List.zip_nil_right] at hz; cases hz
        | cons c u hwi' =>
          rw [List.zip_cons_cons] at hz
          injection hz with hyx hrest
          injection hyx with hy hx
          subst hy hx
          rw [lexLt_cons] at hR
          simp only [List.length_cons] at hlen
          obtain ⟨e, he, hiff⟩ := eqAt_int A.in1 ⟨hp, g, d, tk, os⟩ a t c u
          refine wpAny_bind (he prog w _ _ ?_)
          cases e with
          | true =>
            rw [if_pos (hiff.mp rfl)] at hR
            wp_walk
            exact ⟨rfl, rfl, _, _, _, _, hrest, hvi', hwi', by omega, hR⟩
          | false =>
            rw [if_neg (fun q => absurd (hiff.mpr q) Bool.false_ne_true)] at hR
            have hri := rcLt_int A.in1 ⟨hp, g, d, tk, os⟩ a t c u prog w
            wp_walk using hri
            exact ⟨_, rfl, by simpa using hR⟩
    case fin =>
      rintro ⟨b1, b2⟩ s' ⟨hb', rfl, vs, ws, ns', ms', hz, hvi, hwi, hlen, hR⟩
      simp only at hb'
      subst hb'
      have hv : lexLt ns' ms' = decide (items.size < items2.size) := by
        cases hvi with
        | nil =>
          cases hwi with
          | nil =>
            simp only [List.length_nil] at hlen
            rw [lexLt_nil_nil]
            exact (decide_eq_false (by omega)).symm
          | cons c u hw =>
            simp only [List.length_nil, List.length_cons] at hlen
            rw [lexLt_nil_cons]
            exact (decide_eq_true (by omega)).symm
        | cons a t hv =>
          cases hwi with
          | nil =>
            simp only [List.length_nil, List.length_cons] at hlen
            rw [lexLt_cons_nil]
            exact (decide_eq_false (by omega)).symm
          | cons c u hw =>
            rw [List.zip_cons_cons] at hz
            cases hz
      rw [hv] at hR
      wp_walk
      exact ⟨_, rfl, by simpa [Builtin.Tuple.tupleCompareSizes] using hR⟩
    case h =>
      exact ⟨rfl, rfl, items.toList, items2.toList, ns, ms, rfl, hi, hj, by omega, h⟩
end

section
variable {prog : Program} {w : World} {A : Around} {E : Value → Shared → Prop} {s : Shared}

theorem lt_tupInts {l b : Addr} {items items2 : Array Value} {ns ms : List Int} {Q : Value → Shared → Prop} (hl : IsTup s.heap l items) (hb : IsTup s.heap b items2) (hi : IntsAre items.toList ns) (hj : IntsAre items2.toList ms)
    (hu : A.units < cLine) (h : Q (.bool (lexLt ns ms)) s) : wpAny (model prog w) A (compareOp .Lt (.ref l) (.ref b)) Q E s := by
  obtain ⟨⟨cls, dd, data, sl⟩, ho, hc, n, hd⟩ := id hl
  obtain ⟨⟨cls2, dd2, data2, sl2⟩, ho2, hc2, n2, hd2⟩ := id hb
  simp only at hc hd hc2 hd2
  subst hc hd hc2 hd2
  exact richCompare_meets_room (op := .Lt) ⟨_, ho, rfl⟩ ⟨_, ho2, rfl⟩ PySem.F.slot_tuple_lt PySem.F.entry_tuple_lt (PySem.F.args_tuple_lt_2 _ _) (tuple_lt_ints l b items items2 n n2 dd dd2 sl sl2 ns ms hi hj)
    ⟨ho, ho2, show Value.bool (lexLt ns ms) ≠ Value.notImplemented ∧ Q (.bool (lexLt ns ms)) s from ⟨(fun x => nomatch x), h⟩⟩ hu

/-- t + u, t not empty -/
theorem cat_tup {t b : Addr} {vs ws : List Value} {Q : Value → Shared → Prop} (ht : IsTup s.heap t vs.toArray) (hb : IsTup s.heap b ws.toArray) (hv : vs ≠ [])
    (h1 : ws = [] → Q (.ref t) s) (h2 : ws ≠ [] → Q (.ref s.heap.objs.size) { s with heap := s.heap.push { cls := .type "tuple", data := .seq (vs ++ ws).toArray } })
    (hsz : vs.length + ws.length ≤ sizeLine) : wpAny (model prog w) A (binaryOp .Add (.ref t) (.ref b)) Q E s := by
  obtain ⟨⟨cls, dd, data, sl⟩, ho, hc, n, hd⟩ := id ht
  obtain ⟨⟨cls2, dd2, data2, sl2⟩, ho2, hc2, n2, hd2⟩ := id hb
  simp only at hc hd hc2 hd2
  subst hc hd hc2 hd2
  have e : vs.toArray ++ ws.toArray = (vs ++ ws).toArray := by simp
  by_cases hw : ws = []
  · exact concat_meets ⟨_, ho, rfl⟩ ⟨_, ho2, rfl⟩ noFill_tuple_add seq_tuple_add PySem.F.slot_tuple_add PySem.F.entry_tuple_add (PySem.F.args_tuple_add_2 _ _)
      (tuple_addW1 t b vs.toArray ws.toArray n n2 dd dd2 sl sl2 (by simpa using hv) (by simp [hw])) ⟨ho, ho2, h1 hw⟩
  · refine concat_meets ⟨_, ho, rfl⟩ ⟨_, ho2, rfl⟩ noFill_tuple_add seq_tuple_add PySem.F.slot_tuple_add PySem.F.entry_tuple_add (PySem.F.args_tuple_add_2 _ _)
      (tuple_addW2 t b vs.toArray ws.toArray n n2 dd dd2 sl sl2 (by simpa using hv) (by simpa using hw) (by rw [List.size_toArray, List.size_toArray]; exact hsz)) ⟨ho, ho2, ?_⟩
    rw [e]
    exact h2 hw

/-! ### t[a:b], not the whole -/
/-- a slice's bound as a place among n (d where it is left out) -/
def sIx (n d : Nat) : Option Int → Nat
  | none => d
  | some v => if v < 0 then (v + (n : Int)).toNat else min v.toNat n
theorem sIx_none (n d : Nat) : sIx n d none = d := rfl
theorem sIx_nat (n d k : Nat) : sIx n d (some (k : Int)) = min k n := by
  show (if (k : Int) < 0 then ((k : Int) + (n : Int)).toNat else min (k : Int).toNat n) = min k n
  rw [if_neg (by omega), Int.toNat_natCast]
end
end HT

namespace L2
open PySem PySem.Spec PyProof.Rows

/-! ### the parts of a slice -/
abbrev TO := St → Hp → (Option Int → Hp → Prop) → Prop
/-- a slice's part (left out, or an int) -/
def PO (X : Cx) (e : Option Expr) (t : TO) : Prop :=
  ∀ (pins : List (Addr × Obj)) (s : Shared) (σ : St) (H : Hp) (Q : Option Int → Hp → Prop), Inv X pins σ H s → t σ H Q →
    wpAny (model X.prog X.w) X.A (evalPart e X.env) (fun u s' => ∃ o H', Inv X pins σ H' s' ∧ IsPart u o ∧ Q o H') X.xe s
def tNoPart : TO := fun _ H Q => Q none H
def tPart (t : TE) : TO := fun σ H Q => t σ H fun x H1 => ∃ i, x = .int i ∧ Q (some i) H1

section
variable {X : Cx} {e : Expr} {te : TE} {lo hi : Option Expr} {tl th : TO} {pos p2 : Pos}

theorem po_none : PO X none tNoPart := by
  intro pins s σ H Q I h
  rw [evalPart_none]
  exact wpAny_pure ⟨none, H, I, .none, h⟩
theorem po_some (h : PE X e te) : PO X (some e) (tPart te) := by
  intro pins s σ H Q I hw
  rw [evalPart_some]
  refine thn (h pins s σ H _ I hw) fun u s1 ⟨x, H1, I1, r1, q1⟩ => ?_
  obtain ⟨i, rfl, q⟩ := q1
  obtain ⟨t, rfl⟩ := r1
  exact ⟨some i, H1, I1, .int i t, q⟩

/-- what a slice of a value is, by values: the slice object stands at sl -/
def SlR (X : Cx) (r : V → Option Int → Option Int → Hp → VK → Prop) : Prop :=
  ∀ (pins : List (Addr × Obj)) (s : Shared) (σ : St) (H : Hp) (x : V) (v vl vu : Value) (lo hi : Option Int) (sl : Addr) (Q : VK), Inv X pins σ H s → RelV x v → s.heap.IsSliceOf sl vl vu .none → IsPart vl lo → IsPart vu hi → r x lo hi H Q →
    ∃ T id, typeLookup (.type T) "__getitem__" = pure (some (.builtin id)) ∧ s.TypeIs v T ∧ wpAny (model X.prog X.w) X.A (getItem v (.ref sl)) (EP X pins σ Q) X.xe s
def tSl (r : V → Option Int → Option Int → Hp → VK → Prop) (te : TE) (tl th : TO) : TE := fun σ H Q => te σ H fun x H1 => tl σ H1 fun l H2 => th σ H2 fun u H3 => r x l u H3 Q
/-- a[lo:hi], any a -/
theorem pe_slice {r : V → Option Int → Option Int → Hp → VK → Prop} (hr : SlR X r) (he : PE X e te) (hl : PO X lo tl) (hu : PO X hi th) : PE X (.Subscript e (.Slice lo hi none p2) pos) (tSl r te tl th) := by
  intro pins s σ H Q I h
  refine Subscript_ (thn (he pins s σ H _ I h) fun v s1 ⟨x, H1, I1, r1, q1⟩ => ?_)
  refine wpAny_Slice (thn (hl pins s1 σ H1 _ I1 q1) fun vl s2 ⟨l, H2, I2, pl, q2⟩ => thn (hu pins s2 σ H2 _ I2 q2) fun vu s3 ⟨u, H3, I3, pu, q3⟩ => ?_)
  rw [evalPart_none]
  refine wpAny_pure ?_
  have I4 : Inv X pins σ H3 { s3 with heap := s3.heap.push { cls := .type "slice", data := .fields #[vl, vu, .none] } } := I3.kept (t' := s3.toks) fun b ob q => Heap.get?_push_of_some _ q
  obtain ⟨T, id, hT, ht, hg⟩ := hr pins { s3 with heap := s3.heap.push { cls := .type "slice", data := .fields #[vl, vu, .none] } } σ H3 x v vl vu l u s3.heap.objs.size Q I4 r1 (Heap.IsSliceOf.new ..) pl pu q3
  show wpAny (model X.prog X.w) X.A (subscriptTail e (.Slice lo hi none p2) v (.ref s3.heap.objs.size)) (EP X pins σ Q) X.xe { s3 with heap := s3.heap.push { cls := .type "slice", data := .fields #[vl, vu, .none] } }
  exact tail_any (ops := [.ref s3.heap.objs.size, v]) ht hT hg (by with_unfolding_all rfl)

/-- the items of xs[lo:hi] -/
def cutV (xs : List V) (lo hi : Option Int) : List V := (xs.drop (HT.sIx xs.length 0 lo)).take (HT.sIx xs.length xs.length hi - HT.sIx xs.length 0 lo)
theorem cutV_length (xs : List V) (lo hi : Option Int) : (cutV xs lo hi).length ≤ xs.length := by
  unfold cutV
  rw [List.length_take, List.length_drop]
  omega
/-- t[lo:hi], not the whole of it (the whole would be t itself) -/
def rSlT (K : PySem.W.Frag) : V → Option Int → Option Int → Hp → VK → Prop := fun x lo hi H Q => ∃ a xs, x = .ref a ∧ SqT K H a xs ∧
  ¬ (HT.sIx xs.length 0 lo = 0 ∧ HT.sIx xs.length xs.length hi = xs.length) ∧ ∀ p, H p = none → Q (.ref p) (upd H p (.tup (cutV xs lo hi)))
/-! ### t < u, t + u -/
def rLtT (K : PySem.W.Frag) : R2 := fun x y H Q => ∃ a b ns ms, x = .ref a ∧ y = .ref b ∧ SqT K H a (ns.map V.int) ∧ SqT K H b (ms.map V.int) ∧ Q (.bl (HT.lexLt ns ms)) H
/-- t + u, t not empty: u empty gives t itself -/
def rCatT (K : PySem.W.Frag) : R2 := fun x y H Q => ∃ a b xs ys, x = .ref a ∧ y = .ref b ∧ SqT K H a xs ∧ SqT K H b ys ∧ xs ≠ [] ∧ xs.length + ys.length ≤ sizeLine ∧
  (ys = [] → Q (.ref a) H) ∧ (ys ≠ [] → ∀ p, H p = none → Q (.ref p) (upd H p (.tup (xs ++ ys))))
theorem Vals.nil_iff {xs : List V} {us : List Value} (r : Vals xs us) : us = [] ↔ xs = [] := by
  cases r with
  | nil => simp
  | cons _ _ => simp
end
end L2

namespace L2
open PySem PySem.Spec PyProof.Rows

/-! ### places -/
/-- the place that an index of any sign means -/
def ixN (n : Nat) (i : Int) : Option Nat := if 0 ≤ i then (if i < n then some i.toNat else none) else if -(n : Int) ≤ i then some (i + n).toNat else none
def atI {α : Type} (xs : List α) (i : Int) : Option α := (ixN xs.length i).bind fun j => xs[j]?
theorem ixN_seq {n : Nat} {i : Int} {j : Nat} (h : ixN n i = some j) : seqIndex? i n = some j ∧ j < n ∧ -(n : Int) ≤ i ∧ i < n := by
  unfold ixN at h
  by_cases h0 : 0 ≤ i
  · rw [if_pos h0] at h
    by_cases h1 : i < n
    · rw [if_pos h1] at h
      have e : i.toNat = j := Option.some.inj h
      exact ⟨by rw [seqIndex_of h0 h1, e], by omega, by omega, h1⟩
    · rw [if_neg h1] at h; cases h
  · rw [if_neg h0] at h
    by_cases h1 : -(n : Int) ≤ i
    · rw [if_pos h1] at h
      have e : (i + n).toNat = j := Option.some.inj h
      exact ⟨by rw [seqIndex_neg (by omega) h1, e], by omega, h1, by omega⟩
    · rw [if_neg h1] at h; cases h
theorem atI_get {α : Type} {xs : List α} {i : Int} {v : α} (h : atI xs i = some v) : ∃ j, seqIndex? i xs.length = some j ∧ xs[j]? = some v ∧ j < xs.length ∧ -(xs.length : Int) ≤ i ∧ i < xs.length := by
  unfold atI at h
  cases e : ixN xs.length i with
  | none => rw [e] at h; cases h
  | some j =>
    rw [e] at h
    obtain ⟨h1, h2, h3, h4⟩ := ixN_seq e
    exact ⟨j, h1, h, h2, h3, h4⟩
theorem atI_nat {α : Type} {xs : List α} {j : Nat} {v : α} (h : xs[j]? = some v) : atI xs (j : Int) = some v := by
  have hj : j < xs.length := (List.getElem?_eq_some_iff.mp h).1
  have e : ixN xs.length (j : Int) = some j := by
    unfold ixN
    rw [if_pos (by omega), if_pos (by omega)]; simp
  unfold atI; rw [e]; exact h
/-! ### what may be subscripted -/
/-- what stands as an index of a plain subscript -/
def PlainIx (b : Expr) : Prop := ∀ o i, subscripted b false o i = operate [o, i] (getItem o i)
/-- a subscript by values -/
def IxR (X : Cx) (r : R2) : Prop :=
  ∀ (value slice : Expr) (pins : List (Addr × Obj)) (s : Shared) (σ : St) (H : Hp) (x y : V) (v u : Value) (Q : VK), Inv X pins σ H s → RelV x v → RelV y u → r x y H Q →
    subscripted slice false v u = operate [v, u] (getItem v u) → wpAny (model X.prog X.w) X.A (subscriptTail value slice v u) (EP X pins σ Q) X.xe s
/-- a call of a builtin's method by values: the receiver, the arguments -/
def MtR (X : Cx) (id : String) (r : V → List V → Hp → VK → Prop) : Prop :=
  ∀ (pins : List (Addr × Obj)) (s : Shared) (σ : St) (H : Hp) (x : V) (xs : List V) (v : Value) (us : List Value) (Q : VK), Inv X pins σ H s → RelV x v → Vals xs us → r x xs H Q →
    wpAny (model X.prog X.w) X.A (call (.builtin id) (v :: us)) (EP X pins σ Q) X.xe s
section
variable {X : Cx} {a b : Expr} {ta tb : TE} {pos : Pos}
/-- a[b] -/
theorem pe_ix {r : R2} (hr : IxR X r) (ha : PE X a ta) (hb : PE X b tb) (hs : PlainIx b) : PE X (.Subscript a b pos) (tOp r ta tb) := by
  intro pins s σ H Q I h
  exact Subscript_ (binT ha hb I h fun v u s2 x y H2 I2 rx ry q => hr a b pins s2 σ H2 x y v u Q I2 rx ry q (hs _ _))

def rIxL (K : PySem.W.Frag) : R2 := fun x y H Q => ∃ p xs i v, x = .ref p ∧ y = .int i ∧ SqL K H p xs ∧ atI xs i = some v ∧ Q v H
def rIxT (K : PySem.W.Frag) : R2 := fun x y H Q => ∃ p xs i v, x = .ref p ∧ y = .int i ∧ SqT K H p xs ∧ atI xs i = some v ∧ Q v H
def rIxS : R2 := fun x y H Q => ∃ z i c, x = .str z ∧ y = .int i ∧ z.length ≤ sizeLine ∧ atI z.cps.toList i = some c ∧ Q (.str ⟨#[c]⟩) H
theorem ix_list : IxR X (rIxL X.K) := by
  intro value slice pins s σ H x y v u Q I rx ry h hs
  obtain ⟨p, xs, i, z, rfl, rfl, hq, he, q⟩ := h
  cases rx
  obtain ⟨t, rfl⟩ := ry
  obtain ⟨its, r, pl, hz⟩ := I.list hq
  obtain ⟨j, h1, h2, h3, h4, h5⟩ := atI_get he
  obtain ⟨w, ew, rw'⟩ := r.get h2
  have hl := r.length
  have hn := line63
  have fin : EP X pins σ Q w s := ⟨z, H, I, rw', q⟩
  by_cases h0 : 0 ≤ i
  · have hj : i.toNat = j := by
      rw [seqIndex_of h0 h5] at h1
      exact Option.some.inj h1
    exact item_listR pl.isList h0 (by omega) (by rw [hj]; simpa using ew) fin hs
  · have hj : (i + (its.toArray.size : Int)).toNat = j := by
      rw [seqIndex_neg (by omega) h4] at h1
      rw [List.size_toArray, ← hl]
      exact Option.some.inj h1
    exact subscriptTail_builtinR (x := w) pl.isList.typeIs slot_list_getitem.lookup
      (wpAny_getItem_list_neg (Q := fun r s' => r = w ∧ EP X pins σ Q r s') pl.isList (by omega) (by rw [List.size_toArray] <;> omega) (by omega) (by rw [hj]; simpa using ew) ⟨rfl, fin⟩) hs
theorem ix_tup : IxR X (rIxT X.K) := by
  intro value slice pins s σ H x y v u Q I rx ry h hs
  obtain ⟨p, xs, i, z, rfl, rfl, hq, he, q⟩ := h
  cases rx
  obtain ⟨t, rfl⟩ := ry
  obtain ⟨its, r, pl, hz⟩ := I.tuple hq
  obtain ⟨j, h1, h2, h3, h4, h5⟩ := atI_get he
  obtain ⟨w, ew, rw'⟩ := r.get h2
  have hl := r.length
  have hn := line63
  have fin : EP X pins σ Q w s := ⟨z, H, I, rw', q⟩
  exact subscriptTail_builtinR (x := w) pl.typeIs slot_tuple_getitem.lookup
    (getItem_tuple (j := j) (Q := fun r s' => r = w ∧ EP X pins σ Q r s') pl (by omega) (by omega) (by rw [List.size_toArray, ← hl]; exact h1) (by simpa using ew) ⟨rfl, fin⟩) hs
/-- list, tuple or str -/
def rIx (K : PySem.W.Frag) : R2 := fun x y H Q => rIxL K x y H Q ∨ rIxT K x y H Q ∨ rIxS x y H Q
/-! ### xs[i] = v, any sign -/
/-- the list's object behind a store -/
theorem mapSeq_set (its : List Value) (n j : Nat) (u : Value) : Obj.mapSeq (·.setIfInBounds j u) { cls := .type "list", data := .seq its.toArray n } = { cls := .type "list", data := .seq (its.set j u).toArray n } := by
  simp [Obj.mapSeq]
theorem Inv.lst {pins : List (Addr × Obj)} {σ : St} {H : Hp} {s : Shared} {p : Addr} {xs : List V} (I : Inv X pins σ H s) (h : H p = some (.lst xs)) :
    ∃ (its : List Value) (n : Nat), Vals xs its ∧ s.heap.get? p = some { cls := .type "list", data := .seq its.toArray n } ∧ xs.length ≤ sizeLine := by
  obtain ⟨z, its, n, r, e⟩ := I.hok p _ h
  exact ⟨its, n, r, e, z⟩
/-- the list at p is written by an update of its object -/
theorem Inv.lstUpd {pins : List (Addr × Obj)} {σ : St} {H : Hp} {s : Shared} {p : Addr} {xs ys : List V} {its its' : List Value} {n n' : Nat} {f : Obj → Obj} (I : Inv X pins σ H s) (h : H p = some (.lst xs))
    (ho : s.heap.get? p = some { cls := .type "list", data := .seq its.toArray n }) (hf : f { cls := .type "list", data := .seq its.toArray n } = { cls := .type "list", data := .seq its'.toArray n' }) (r : Vals ys its') (hz : ys.length ≤ sizeLine) (t : Nat) :
    Inv X pins σ (upd H p (.lst ys)) { s with heap := s.heap.update p f, toks := t } := by
  have e : (s.heap.update p f).get? p = some { cls := .type "list", data := .seq its'.toArray n' } := by
    rw [Heap.get?_update_self f ho (by rw [hf] <;> rfl), hf]
  refine I.write (x := p) (e := p) (by rw [h]; trivial) (.inl rfl) (fun b u hb q => (Heap.get?_update_other _ _ (Ne.symm hb)).trans q) ⟨_, e⟩ ?_
  exact ⟨hz, its', n', r, e⟩
def rSetL : V → V → V → Hp → (Hp → Prop) → Prop := fun o i v H Q => ∃ p xs k j, o = .ref p ∧ i = .int k ∧ H p = some (.lst xs) ∧ ixN xs.length k = some j ∧ Q (upd H p (.lst (xs.set j v)))
theorem set_list : PSet X rSetL := by
  intro pins s σ H o i v ov iv u Q I ro ri rv h
  obtain ⟨p, xs, k, j, rfl, rfl, hp, hj, q⟩ := h
  cases ro
  obtain ⟨t, rfl⟩ := ri
  obtain ⟨its, n, r, ho, hz⟩ := I.lst hp
  obtain ⟨h1, h2, h3, h4⟩ := ixN_seq hj
  have hl := r.length
  have hn := line63
  have I' : Inv X pins σ (upd H p (.lst (xs.set j v))) { s with heap := s.heap.update p (Obj.mapSeq (·.setIfInBounds j u)) } :=
    I.lstUpd hp ho (mapSeq_set its n j u) (r.set rv j) (by rw [List.length_set]; exact hz) s.toks
  by_cases h0 : 0 ≤ k
  · have hk : k.toNat = j := by
      rw [seqIndex_of h0 h4] at h1
      exact Option.some.inj h1
    exact PySem.W.ki_setAt ho h0 (by omega) (by rw [List.size_toArray, ← hl]; exact h4) (by rw [hk]; exact ⟨_, I', q⟩)
  · have hk : (k + (its.toArray.size : Int)).toNat = j := by
      rw [seqIndex_neg (by omega) h3] at h1
      rw [List.size_toArray, ← hl]
      exact Option.some.inj h1
    exact PySem.W.ki_setBack ho (by omega) (by rw [List.size_toArray, ← hl]; exact h3) (by omega) (by rw [hk]; exact ⟨_, I', q⟩)

/-! ### slices -/
theorem slice_bounds (lo hi : Option Int) (n : Nat) : (sliceBounds lo hi none n).1 = ((HT.sIx n 0 lo : Nat) : Int) ∧ (sliceBounds lo hi none n).2.1 = ((HT.sIx n n hi : Nat) : Int) ∧ (sliceBounds lo hi none n).2.2 = 1 := by
  refine ⟨?_, ?_, rfl⟩
  · cases lo with
    | none => simp [sliceBounds, HT.sIx]
    | some i =>
      simp only [sliceBounds, HT.sIx, Option.getD_none, show (1 : Int) > 0 by decide, if_true]
      by_cases h : i < 0
      · simp only [h, if_true] <;> omega
      · simp only [h, if_false] <;> omega
  · cases hi with
    | none => simp [sliceBounds, HT.sIx]
    | some i =>
      simp only [sliceBounds, HT.sIx, Option.getD_none, show (1 : Int) > 0 by decide, if_true]
      by_cases h : i < 0
      · simp only [h, if_true] <;> omega
      · simp only [h, if_false] <;> omega
theorem slicePick_cut (its : List Value) (lo hi : Option Int) : slicePick its.toArray lo hi none = ((its.drop (HT.sIx its.length 0 lo)).take (HT.sIx its.length its.length hi - HT.sIx its.length 0 lo)).toArray := by
  obtain ⟨h1, h2, h3⟩ := slice_bounds lo hi its.toArray.size
  unfold slicePick
  rw [h1, h2, h3]
  simp only [sliceRange_one, pick_run, List.size_toArray] <;> rfl
/-- xs[lo:hi] of a list: a new list -/
def rSlL (K : PySem.W.Frag) : V → Option Int → Option Int → Hp → VK → Prop := fun x lo hi H Q => ∃ a xs, x = .ref a ∧ SqL K H a xs ∧ ∀ p, H p = none → Q (.ref p) (upd H p (.lst (cutV xs lo hi)))
theorem sl_list : SlR X (rSlL X.K) := by
  intro pins s σ H x v vl vu lo hi sl Q I rx hs pl pu h
  obtain ⟨a, xs, rfl, hx, q⟩ := h
  cases rx
  obtain ⟨its, r, ht, hz⟩ := I.list hx
  have hlen := r.length
  refine ⟨"list", _, slot_list_getitem.lookup, ht.isList.typeIs, ?_⟩
  refine wpAny_getItem_list_slice ht.isList hs pl pu .none (by simp) ?_ (by rw [List.size_toArray] <;> omega)
  rw [slicePick_cut, ← hlen]
  refine ⟨.ref s.heap.objs.size, _, I.laid (t' := s.toks) (o := .lst (cutV xs lo hi)) (fun b ob q => Heap.get?_push_of_some _ q) (Nat.le_refl _) ?_, rfl, q _ (I.hok.fresh (Nat.le_refl _))⟩
  exact ⟨Nat.le_trans (cutV_length xs lo hi) hz, _, 0, (r.drop (HT.sIx xs.length 0 lo)).take (HT.sIx xs.length xs.length hi - HT.sIx xs.length 0 lo), Heap.get?_push_size _ rfl⟩

/-! ### in, not in: flat items -/
def flatV : V → Bool
  | .non => true
  | .bl _ => true
  | .int _ => true
  | .str _ => true
  | _ => false
/-- == of flat values -/
def eqV : V → V → Bool
  | .non, .non => true
  | .bl a, .bl b => a == b
  | .bl a, .int b => (if a then 1 else 0) == b
  | .int a, .bl b => a == (if b then 1 else 0)
  | .int a, .int b => a == b
  | .str a, .str b => a == b
  | _, _ => false
theorem eqAt_V {A : Around} {s : Shared} {y x : V} {u v : Value} (ry : RelV y u) (rx : RelV x v) (fy : flatV y = true) (fx : flatV x = true) : SeqAt.EqAt A s u v (eqV y x) := by
  cases y with
  | non =>
    cases ry
    cases x with
    | non => cases rx; exact SeqAt.EqAt.same _
    | bl b => cases rx; exact SeqAt.EqAt.none_bool b
    | int b => obtain ⟨t, rfl⟩ := rx; exact SeqAt.EqAt.none_int b t
    | str b => obtain ⟨t, rfl⟩ := rx; exact SeqAt.EqAt.none_str b t
    | _ => exact absurd (show false = true from fx) Bool.false_ne_true
  | bl a =>
    cases ry
    cases x with
    | non => cases rx; exact SeqAt.EqAt.bool_none a
    | bl b => cases rx; exact SeqAt.EqAt.bool_bool a b
    | int b => obtain ⟨t, rfl⟩ := rx; exact SeqAt.EqAt.bool_int a b t
    | str b => obtain ⟨t, rfl⟩ := rx; exact SeqAt.EqAt.bool_str a b t
    | _ => exact absurd (show false = true from fx) Bool.false_ne_true
  | int a =>
    obtain ⟨t', rfl⟩ := ry
    cases x with
    | non => cases rx; exact SeqAt.EqAt.int_none a t'
    | bl b => cases rx; exact SeqAt.EqAt.int_bool a t' b
    | int b => obtain ⟨t, rfl⟩ := rx; exact SeqAt.EqAt.int_int a t' b t
    | str b => obtain ⟨t, rfl⟩ := rx; exact SeqAt.EqAt.int_str a t' b t
    | _ => exact absurd (show false = true from fx) Bool.false_ne_true
  | str a =>
    obtain ⟨t', rfl⟩ := ry
    cases x with
    | non => cases rx; exact SeqAt.EqAt.str_none a t'
    | bl b => cases rx; exact SeqAt.EqAt.str_bool a t' b
    | int b => obtain ⟨t, rfl⟩ := rx; exact SeqAt.EqAt.str_int a t' b t
    | str b => obtain ⟨t, rfl⟩ := rx; exact SeqAt.EqAt.str_str a t' b t
    | _ => exact absurd (show false = true from fx) Bool.false_ne_true
  | _ => exact absurd (show false = true from fy) Bool.false_ne_true
/-- the items' answers, read off the values (a value's own answer does not lean on its token) -/
def eqU (x : V) (u : Value) : Bool := match u with
  | .none => eqV .non x
  | .bool b => eqV (.bl b) x
  | .int i _ => eqV (.int i) x
  | .str z _ => eqV (.str z) x
  | _ => false
theorem eqU_of {x y : V} {u : Value} (r : RelV y u) (f : flatV y = true) : eqU x u = eqV y x := by
  cases y with
  | non => cases r; rfl
  | bl b => cases r; rfl
  | int i => obtain ⟨t, rfl⟩ := r; rfl
  | str z => obtain ⟨t, rfl⟩ := r; rfl
  | _ => exact absurd (show false = true from f) Bool.false_ne_true
theorem any_eqU {x : V} : ∀ {xs : List V} {us : List Value}, Vals xs us → xs.all flatV = true → us.any (eqU x) = xs.any fun y => eqV y x
  | _, _, .nil, _ => rfl
  | y :: xs, u :: us, .cons r t, f => by
    rw [List.all_cons, Bool.and_eq_true] at f
    rw [List.any_cons, List.any_cons, eqU_of r f.1, any_eqU t f.2]
theorem mem_eqAt {A : Around} {s : Shared} {x : V} {v : Value} (rx : RelV x v) (fx : flatV x = true) : ∀ {xs : List V} {us : List Value}, Vals xs us → xs.all flatV = true → ∀ u ∈ us, SeqAt.EqAt A s u v (eqU x u)
  | _, _, .nil, _ => fun u hu => by cases hu
  | y :: xs, u :: us, .cons r t, f => fun u' hu => by
    rw [List.all_cons, Bool.and_eq_true] at f
    rcases List.mem_cons.mp hu with rfl | hu
    · rw [eqU_of r f.1]; exact eqAt_V r rx f.1 fx
    · exact mem_eqAt rx fx t f.2 u' hu
def inV (x : V) (xs : List V) : Bool := xs.any fun y => eqV y x
/-- x in a list or tuple of flat items -/
def rIn (K : PySem.W.Frag) (neg : Bool) : R2 := fun x y H Q => ∃ p xs, y = .ref p ∧ (SqL K H p xs ∨ SqT K H p xs) ∧ flatV x = true ∧ xs.all flatV = true ∧ Q (.bl (if neg then !inV x xs else inV x xs)) H
theorem op_in_seq : OpR X (compareOp .In) (rIn X.K false) := by
  intro pins s σ H x y v u Q I rx ry h
  obtain ⟨p, xs, rfl, hq, fx, fs, q⟩ := h
  cases ry
  rcases hq with hq | hq
  · obtain ⟨its, r, pl, hz⟩ := I.list hq
    refine SeqAt.in_listAt (eqU x) pl.isList (fun w hw => mem_eqAt rx fx r fs w (by simpa using hw)) ⟨.bl _, H, I, rfl, ?_⟩
    rw [show its.toArray.any (eqU x) = its.any (eqU x) by simp, any_eqU r fs]
    exact q
  · obtain ⟨its, r, pl, hz⟩ := I.tuple hq
    refine SeqAt.in_tupleAt (eqU x) pl (fun w hw => mem_eqAt rx fx r fs w (by simpa using hw)) ⟨.bl _, H, I, rfl, ?_⟩
    rw [show its.toArray.any (eqU x) = its.any (eqU x) by simp, any_eqU r fs]
    exact q
/-! ### len, list(x), tuple(x) of any list or tuple that is read -/
theorem call_len_seq : CallR X (.builtin "len") (fun xs H Q => ∃ p ys, xs = [.ref p] ∧ (SqL X.K H p ys ∨ SqT X.K H p ys) ∧ Q (.int ys.length) H) := by
  intro pins s σ H xs us Q I r h
  obtain ⟨p, ys, rfl, hq, q⟩ := h
  obtain ⟨u, rfl, rx⟩ := vals1 r
  cases rx
  have hn := line63
  rcases hq with hq | hq
  · obtain ⟨its, r', pl, hz⟩ := I.list hq
    have hlen := r'.length
    exact Calls.call_len_list pl.isList (by simp only [List.size_toArray] <;> omega) ⟨.int ys.length, H, I.tok _, ⟨s.toks + 1, by rw [List.size_toArray, hlen]⟩, q⟩
  · obtain ⟨its, r', pl, hz⟩ := I.tuple hq
    have hlen := r'.length
    exact len_tuple pl (by simp only [List.size_toArray] <;> omega) ⟨.int ys.length, H, I.tok _, ⟨s.toks + 1, by rw [List.size_toArray, hlen]⟩, q⟩
theorem call_list_of : CallR X (.type "list") (fun xs H Q => ∃ p ys, xs = [.ref p] ∧ (SqL X.K H p ys ∨ SqT X.K H p ys) ∧ ∀ l, H l = none → Q (.ref l) (upd H l (.lst ys))) := by
  intro pins s σ H xs us Q I r h
  obtain ⟨p, ys, rfl, hq, q⟩ := h
  obtain ⟨u, rfl, rx⟩ := vals1 r
  cases rx
  have fin : ∀ (its : List Value), Vals ys its → ys.length ≤ sizeLine → ∀ (h' : Heap) (c' : Nat), (∀ b o', s.heap.get? b = some o' → h'.get? b = some o') →
      h'.get? s.heap.objs.size = some { cls := .type "list", dict := none, data := .seq its.toArray c', slots := #[] } → EP X pins σ Q (.ref s.heap.objs.size) { s with heap := h' } := fun its r' hz h' c' kp e =>
    ⟨.ref s.heap.objs.size, _, I.laid (t' := s.toks) kp (Nat.le_refl _) (show ObjOk X.prog X.w _ h' _ (.lst ys) from ⟨hz, its, c', r', e⟩), rfl, q _ (I.hok.fresh (Nat.le_refl _))⟩
  rcases hq with hq | hq
  · obtain ⟨its, r', pl, hz⟩ := I.list hq
    have hlen := r'.length
    obtain ⟨o, ho, hc, n, hd⟩ := pl.isList
    exact call_list_seq p (.inl rfl) ho hc hd (fun h' c' kp e => fin its r' hz h' c' kp e) (by simp only [List.size_toArray] <;> omega)
  · obtain ⟨its, r', pl, hz⟩ := I.tuple hq
    have hlen := r'.length
    obtain ⟨o, ho, hc, n, hd⟩ := pl
    exact call_list_seq p (.inr rfl) ho hc hd (fun h' c' kp e => fin its r' hz h' c' kp e) (by simp only [List.size_toArray] <;> omega)
theorem call_tuple_of : CallR X (.type "tuple") (fun xs H Q => ∃ p ys, xs = [.ref p] ∧ ((SqL X.K H p ys ∧ ∀ l, H l = none → Q (.ref l) (upd H l (.tup ys))) ∨ (SqT X.K H p ys ∧ Q (.ref p) H))) := by
  intro pins s σ H xs us Q I r h
  obtain ⟨p, ys, rfl, h⟩ := h
  obtain ⟨u, rfl, rx⟩ := vals1 r
  cases rx
  rcases h with ⟨hq, q⟩ | ⟨hq, q⟩
  · obtain ⟨its, r', pl, hz⟩ := I.list hq
    have hlen := r'.length
    refine call_tuple_list pl.isList (fun h' kp => ?_) (by simp only [List.size_toArray] <;> omega)
    have I1 : Inv X pins σ H { s with heap := h' } := I.kept (t' := s.toks) kp
    have I2 : Inv X pins σ (upd H h'.objs.size (.tup ys)) { s with heap := h'.push { cls := .type "tuple", data := .seq its.toArray } } :=
      I1.laid (t' := s.toks) (fun b o e => Heap.get?_push_of_some _ e) (Nat.le_refl _) (show ObjOk X.prog X.w _ _ _ (.tup ys) from ⟨hz, its, r', IsTup.new _ _⟩)
    exact ⟨.ref h'.objs.size, _, I2, rfl, q _ (I1.hok.fresh (Nat.le_refl _))⟩
  · obtain ⟨its, r', pl, hz⟩ := I.tuple hq
    exact call_tuple_same pl ⟨.ref p, H, I, rfl, q⟩

/-! ### the call of a builtin's method: o.m(..) -/
/-- the value is of that builtin type -/
def tyV (K : PySem.W.Frag) (T : String) (x : V) (H : Hp) : Prop := match x with
  | .str _ => T = "str"
  | .int _ => T = "int"
  | .ref p => (T = "list" ∧ ∃ xs, SqL K H p xs) ∨ (T = "tuple" ∧ ∃ o, K.lookup p = some o ∧ o.cls = .type "tuple" ∧ o.dict = none) ∨
      (T = "dict" ∧ ((∃ kvs, H p = some (.dK kvs)) ∨ ∃ kvs, H p = some (.dT kvs))) ∨ (T = "set" ∧ ∃ S n, H p = some (.set S n))
  | _ => False
theorem tyV_is {pins : List (Addr × Obj)} {σ : St} {H : Hp} {s : Shared} {T : String} {x : V} {v : Value} (I : Inv X pins σ H s) (r : RelV x v) (ty : tyV X.K T x H) :
    s.TypeIs v T ∧ ∀ a, v = .ref a → ∃ ob, s.heap.get? a = some ob ∧ ob.dict = none := by
  cases x with
  | str z =>
    obtain ⟨t, rfl⟩ := r
    cases (show T = "str" from ty)
    exact ⟨typeIs_str s z t, fun _ e => nomatch e⟩
  | int i =>
    obtain ⟨t, rfl⟩ := r
    cases (show T = "int" from ty)
    exact ⟨typeIs_int s i t, fun _ e => nomatch e⟩
  | ref p =>
    cases r
    rcases ty with ⟨rfl, xs, hq⟩ | ⟨rfl, o, hk, hc, hd⟩ | ⟨rfl, hk⟩ | ⟨rfl, S, n, hk⟩
    · obtain ⟨its, _, pl, _⟩ := I.list hq
      refine ⟨pl.isList.typeIs, fun a e => ?_⟩
      cases e
      obtain ⟨o, n, e, c, hd, _⟩ := pl
      exact ⟨o, e, hd⟩
    · refine ⟨⟨o, I.kIn p o hk, hc⟩, fun a e => ?_⟩
      cases e
      exact ⟨o, I.kIn _ o hk, hd⟩
    · have z : ∃ o, s.heap.get? p = some o ∧ o.ExactDict := by
        rcases hk with ⟨kvs, hk⟩ | ⟨kvs, hk⟩
        · obtain ⟨_, _, _, _, o, _, _, e, ex, _⟩ := I.hok p _ hk
          exact ⟨o, e, ex⟩
        · obtain ⟨_, _, _, _, o, _, _, e, ex, _⟩ := I.hok p _ hk
          exact ⟨o, e, ex⟩
      obtain ⟨o, e, ex⟩ := z
      refine ⟨⟨o, e, ex.1⟩, fun a e2 => ?_⟩
      cases e2
      exact ⟨o, e, ex.2.1⟩
    · obtain ⟨o, _, _, _, e, ex, _⟩ := I.hok p _ hk
      refine ⟨⟨o, e, ex.1⟩, fun a e2 => ?_⟩
      cases e2
      exact ⟨o, e, ex.2.1⟩
  | _ => exact False.elim ty
def tBM0 (K : PySem.W.Frag) (T : String) (r : V → List V → Hp → VK → Prop) (to : TE) : TE := fun σ H Q => to σ H fun x H1 => tyV K T x H1 ∧ r x [] H1 Q
def tBM (K : PySem.W.Frag) (T : String) (r : V → List V → Hp → VK → Prop) (to : TE) (t : TA) : TE := fun σ H Q => to σ H fun x H1 => tyV K T x H1 ∧ t σ H1 fun xs H2 => r x xs H2 Q
variable {o e : Expr} {es : List Expr} {to : TE} {t : TA} {name : Str} {apos cpos : Pos} {T id : String} {r : V → List V → Hp → VK → Prop}
theorem pe_bm (pa : PlainAttrs T) (slot : Slot T name id) (hty : typeOf (.builtin id) = pure (.type "method_descriptor")) (hm : MtR X id r) (ho : PE X o to) (ha : PA X (e :: es) t)
    (hbase : attributeBase o name X.env (eval o X.env) = eval o X.env := by rfl)
    (hfew : ((backTo cpos (starEach (e :: es) X.env)).all (fun x => !x.1) && (backToKw cpos (keywordEach [] X.env)).all (fun x => x.1.isSome)
      && decide ((e :: es).length + ([] : List Keyword).length + (if ([] : List Keyword).isEmpty then 0 else 1) < 30)) = true := by rfl)
    (hline : (apos.endLine == cpos.line) = true := by rfl) (hs : starEach (e :: es) X.env = (false, eval e X.env) :: starEach es X.env := by rfl) (hplain : (backTo cpos (starEach es X.env)).any (·.1) = false := by rfl) :
    PE X (.Call (.Attribute o name apos) (e :: es) [] cpos) (tBM X.K T r to t) := by
  intro pins s σ H Q I h
  refine wpAny_Call_method_late hbase hfew hline rfl (thn (ho pins s σ H _ I h) fun v s1 ⟨x, H1, I1, r1, ty, q1⟩ => ?_)
  obtain ⟨h1, h2⟩ := tyV_is I1 r1 ty
  refine ⟨T, id, pa, slot, hty, h1, h2, ?_⟩
  have hA := ha cpos pins s1 σ H1 _ I1 q1
  rw [hs] at hA ⊢
  refine Calls.callWith_builtin (by show (false || (backTo cpos (starEach es X.env)).any (·.1)) = false; rw [hplain] <;> rfl) (Calls.evalArgs_plain ?_)
  exact thn hA fun us s2 ⟨vs, H2, I2, r2, q2⟩ => hm pins s2 σ H2 x vs v us Q I2 r1 r2 q2
/- xs.append(e), list.index on a module's tuple .. are MtR facts of 06m -/
end
end L2

namespace L2
open PySem PySem.Spec PyProof.Rows

def MtM (X : Cx) (id : String) (r : V → List V → Hp → VK → Prop) : Prop :=
  ∀ (pins : List (Addr × Obj)) (s : Shared) (σ : St) (H : Hp) (x : V) (xs : List V) (v : Value) (us : List Value) (Q : VK), Inv X pins σ H s → RelV x v → Vals xs us → r x xs H Q →
    wpAny (model X.prog X.w) X.A (call (.builtin id) (v :: us)) (EP X pins σ Q) X.xe s

/-! ### lists of values -/
theorem Vals.one : ∀ {x : V} {us : List Value}, Vals [x] us → ∃ u, us = [u] ∧ RelV x u
  | _, _, .cons r .nil => ⟨_, rfl, r⟩
theorem Vals.reverse {xs : List V} {us : List Value} (h : Vals xs us) : Vals xs.reverse us.reverse := by
  induction h with
  | nil => exact .nil
  | cons r t ih => rw [List.reverse_cons, List.reverse_cons]; exact Vals.append ih (.cons r .nil)
theorem foldl_rep (its : List Value) : ∀ (k : Nat) (acc : List Value),
    List.foldl (fun x1 x2 => x1 ++ x2) acc.toArray (List.replicate k its.toArray) = (acc ++ (List.replicate k its).flatten).toArray
  | 0, acc => by simp
  | k + 1, acc => by
    have e : acc.toArray ++ its.toArray = (acc ++ its).toArray := by simp
    have e2 : (acc ++ its) ++ (List.replicate k its).flatten = acc ++ (List.replicate (k + 1) its).flatten := by
      rw [List.replicate_succ, List.flatten_cons, List.append_assoc]
    rw [← e2, ← foldl_rep its k (acc ++ its), ← e, List.replicate_succ, List.foldl_cons]

section
variable {X : Cx} {pins : List (Addr × Obj)} {σ : St} {H : Hp} {s : Shared} {l b : Addr} {xs ys zs : List V}

/-! ### the two steps: a tracked list is rewritten, a new list is laid -/
theorem Inv.lset {its its' : List Value} {n : Nat} {f : Array Value → Array Value} {t' : Nat} (I : Inv X pins σ H s) (hH : H l = some (.lst xs))
    (e : s.heap.get? l = some { cls := .type "list", data := .seq its.toArray n }) (hf : f its.toArray = its'.toArray) (hv : Vals ys its') (hz : ys.length ≤ sizeLine) :
    Inv X pins σ (upd H l (.lst ys)) { s with heap := s.heap.update l (Obj.mapSeq f), toks := t' } := by
  have q := PySem.IsL.update e f
  rw [hf] at q
  refine I.write (x := l) (e := l) (by rw [hH]; exact trivial) (.inl rfl) (fun b' u hb hu => (Heap.get?_update_other s.heap (Obj.mapSeq f) (Ne.symm hb)).trans hu) ⟨_, q⟩ ?_
  exact ⟨hz, its', _, hv, q⟩
theorem Inv.lnew {its : List Value} {t' : Nat} (I : Inv X pins σ H s) (hv : Vals ys its) (hz : ys.length ≤ sizeLine) :
    Inv X pins σ (upd H s.heap.objs.size (.lst ys)) { s with heap := s.heap.push { cls := .type "list", data := .seq its.toArray }, toks := t' } :=
  I.laid (fun _ _ q => Heap.get?_push_of_some _ q) (Nat.le_refl _) ⟨hz, its, 0, hv, Heap.get?_push_size _ rfl⟩
theorem Inv.fresh (I : Inv X pins σ H s) : H s.heap.objs.size = none := I.hok.fresh (Nat.le_refl _)
theorem Inv.lstM (I : Inv X pins σ H s) (hH : H l = some (.lst xs)) : xs.length ≤ sizeLine ∧ ∃ (its : List Value) (n : Nat), Vals xs its ∧ xs.length = its.length ∧ s.heap.get? l = some { cls := .type "list", data := .seq its.toArray n } := by
  obtain ⟨z, its, n, r, e⟩ := I.hok l _ hH
  exact ⟨z, its, n, r, r.length, e⟩

theorem notLongL {n : Nat} (h : n ≤ sizeLine) : Builtin.List.listTooLong n = false := by
  unfold Builtin.List.listTooLong
  exact decide_eq_false (by omega)
end

section
variable {X : Cx}

/-! ### methods -/
def rAppend : V → List V → Hp → VK → Prop := fun x vs H Q => ∃ l xs y, x = .ref l ∧ vs = [y] ∧ H l = some (.lst xs) ∧ xs.length < sizeLine ∧ Q .non (upd H l (.lst (xs ++ [y])))
theorem mt_append : MtM X "list.append" rAppend := by
  intro pins s σ H x vs v us Q I rx rv h
  obtain ⟨l, xs, y, rfl, rfl, hH, hz, q⟩ := h
  cases rx
  obtain ⟨u, rfl, ru⟩ := rv.one
  obtain ⟨z, its, n, r, hl, e⟩ := I.lstM hH
  refine call_meets F.slot_list_append ⟨_, e, rfl⟩ F.entry_list_append (F.args_list_append_2 _ _) (PySem.list_append l its.toArray n u (by rw [List.size_toArray]; omega)) ⟨e, ?_⟩
  refine ⟨.non, _, I.lset (its' := its ++ [u]) hH e (by simp) (r.append (.cons ru .nil)) ?_, rfl, q⟩
  rw [List.length_append, List.length_singleton]
  omega

def rExtend : V → List V → Hp → VK → Prop := fun x vs H Q => ∃ l b xs zs, x = .ref l ∧ vs = [.ref b] ∧ H l = some (.lst xs) ∧ H b = some (.lst zs) ∧ xs.length + zs.length ≤ sizeLine ∧ Q .non (upd H l (.lst (xs ++ zs)))
theorem mt_extend : MtM X "list.extend" rExtend := by
  intro pins s σ H x vs v us Q I rx rv h
  obtain ⟨l, b, xs, zs, rfl, rfl, hH, hB, hz, q⟩ := h
  cases rx
  obtain ⟨u, rfl, ru⟩ := rv.one
  cases ru
  obtain ⟨z, its, n, r, hl, e⟩ := I.lstM hH
  obtain ⟨z2, its2, n2, r2, hl2, e2⟩ := I.lstM hB
  have hsz : its.toArray.size + its2.toArray.size ≤ sizeLine := by rw [List.size_toArray, List.size_toArray]; omega
  have hlong : ¬ (!its.toArray.isEmpty && Builtin.List.listTooLong (its.toArray.size + its2.toArray.size)) = true := by
    rw [notLongL hsz, Bool.and_false]
    exact Bool.false_ne_true
  refine call_meets F.slot_list_extend ⟨_, e, rfl⟩ F.entry_list_extend (F.args_list_extend_2 _ _)
    (AutoSeq1.list_extend_list_list_0 l its.toArray n b its2.toArray n2 hlong (by rw [List.size_toArray]; omega) (by omega)) ⟨e, e2, ?_⟩
  refine ⟨.non, _, I.lset (its' := its ++ its2) hH e (by simp) (r.append r2) ?_, rfl, q⟩
  rw [List.length_append]
  omega

def rPop : V → List V → Hp → VK → Prop := fun x vs H Q => ∃ l xs y, x = .ref l ∧ vs = [] ∧ H l = some (.lst xs) ∧ xs[xs.length - 1]? = some y ∧ Q y (upd H l (.lst xs.dropLast))
def rPopAt : V → List V → Hp → VK → Prop := fun x vs H Q => ∃ l xs i k y, x = .ref l ∧ vs = [.int i] ∧ H l = some (.lst xs) ∧ -(2 ^ 63) ≤ i ∧ i < 2 ^ 63 ∧ seqIndex? i xs.length = some k ∧ xs[k]? = some y ∧ Q y (upd H l (.lst (xs.eraseIdx k)))
def rReverse : V → List V → Hp → VK → Prop := fun x vs H Q => ∃ l xs, x = .ref l ∧ vs = [] ∧ H l = some (.lst xs) ∧ Q .non (upd H l (.lst xs.reverse))
def rClear : V → List V → Hp → VK → Prop := fun x vs H Q => ∃ l xs, x = .ref l ∧ vs = [] ∧ H l = some (.lst xs) ∧ Q .non (upd H l (.lst []))
/-! ### list + list, list += list, list * int -/
def rCat : R2 := fun x y H Q => ∃ l b xs zs, x = .ref l ∧ y = .ref b ∧ H l = some (.lst xs) ∧ H b = some (.lst zs) ∧ xs.length + zs.length ≤ sizeLine ∧ ∀ p, H p = none → Q (.ref p) (upd H p (.lst (xs ++ zs)))
theorem op_cat : OpR X (binaryOp .Add) rCat := by
  intro pins s σ H x y v u Q I rx ry h
  obtain ⟨l, b, xs, zs, rfl, rfl, hH, hB, hz, q⟩ := h
  cases rx
  cases ry
  obtain ⟨z, its, n, r, hl, e⟩ := I.lstM hH
  obtain ⟨z2, its2, n2, r2, hl2, e2⟩ := I.lstM hB
  refine PySem.P.add_list e e2 ?_ (by rw [List.size_toArray, List.size_toArray]; omega)
  have ea : its.toArray ++ its2.toArray = (its ++ its2).toArray := by simp
  rw [ea]
  exact ⟨.ref _, _, I.lnew (t' := s.toks) (r.append r2) (by rw [List.length_append]; omega), rfl, q _ I.fresh⟩
/-- a list times an int (a negative one is nothing) -/
def rRep : R2 := fun x y H Q => ∃ l k xs, x = .ref l ∧ y = .int k ∧ H l = some (.lst xs) ∧ -(2 ^ 63) ≤ k ∧ k < 2 ^ 63 ∧ xs.length * k.toNat ≤ sizeLine ∧
  ∀ p, H p = none → Q (.ref p) (upd H p (.lst (List.replicate k.toNat xs).flatten))
/-! ### del xs[i] -/
end

/-! ### xs[a:b] = ys -/
section
variable {prog : Program} {w : World} {A : Around} {E : Value → Shared → Prop} {s : Shared}
end

section
variable {X : Cx}
end
end L2

namespace L2
open PySem PySem.Spec PyProof.Rows

theorem Vals.ints : ∀ {ns : List Int} {us : List Value}, Vals (ns.map V.int) us → IntsAre us ns
  | [], us, h => by
    rw [List.map_nil] at h
    cases h
    exact IntsAre.nil
  | n :: ns, us, h => by
    rw [List.map_cons] at h
    cases h with
    | cons r t =>
      obtain ⟨k, rfl⟩ := r
      exact IntsAre.cons n k (Vals.ints t)
theorem Vals.ref1 {a : Addr} {us : List Value} (r : Vals [V.ref a] us) : us = [Value.ref a] := by
  cases r with
  | cons r t =>
    cases t
    cases r
    rfl
/-! ### the library's walks over a list of ints, kept objects alone -/
section
variable {prog : Program} {w : World} {A : Around} {E : Value → Shared → Prop} {s : Shared} {l : Addr} {its : List Value} {ns : List Int} {Q : Value → Shared → Prop}
theorem max_raw (hh : A.handled = none) (hl : s.heap.IsList l its.toArray) (hi : IntsAre its ns) (hne : 0 < ns.length)
    (h : ∀ h' tk M t', (∀ b o, s.heap.get? b = some o → h'.get? b = some o) → M ∈ ns → (∀ a, a ∈ ns → a ≤ M) → Q (.int M t') { s with heap := h', toks := tk }) : wpAny (model prog w) A (call (.builtin "max") [.ref l]) Q E s := by
  obtain ⟨xs, e⟩ := hi.allInts.items
  have hn : numsOf (intItems xs).toList = ns := by rw [← e]; exact hi.numsOf
  rw [nums_intItems] at hn
  subst hn
  rw [e] at hl
  have hsz : 0 < xs.size := by simpa using hne
  refine PySem.max_intList hh hl hsz fun v h' tk hv hk => ?_
  obtain ⟨t, rfl⟩ := intItems_at hv
  obtain ⟨h1, h2⟩ := argBest_gt (numAt xs) (xs.size - 1)
  refine h h' tk _ t hk ?_ fun a ha => ?_
  · rw [numAt_eq]; exact PySem.getD_mem (by rw [List.length_map, Array.length_toList]; omega)
  · obtain ⟨j, hj, rfl⟩ := mem_getD ha
    rw [List.length_map, Array.length_toList] at hj
    rw [← numAt_eq]; exact h2 j (by omega)
end

/-! ### the calls, by values (CallR of 03t; MtR of 06l) -/
section
variable {X : Cx}
/-- sum(xs) of a list of ints -/
def rSum (K : PySem.W.Frag) : List V → Hp → VK → Prop := fun vs H Q => ∃ (a : Addr) (ns : List Int), vs = [V.ref a] ∧ SqL K H a (ns.map V.int) ∧ Q (.int ns.sum) H
/-- max(xs), min(xs) of a list of ints -/
def rMax (K : PySem.W.Frag) : List V → Hp → VK → Prop := fun vs H Q => ∃ (a : Addr) (ns : List Int), vs = [V.ref a] ∧ SqL K H a (ns.map V.int) ∧ 0 < ns.length ∧ ∀ m, m ∈ ns → (∀ y, y ∈ ns → y ≤ m) → Q (.int m) H
def rMin (K : PySem.W.Frag) : List V → Hp → VK → Prop := fun vs H Q => ∃ (a : Addr) (ns : List Int), vs = [V.ref a] ∧ SqL K H a (ns.map V.int) ∧ 0 < ns.length ∧ ∀ m, m ∈ ns → (∀ y, y ∈ ns → m ≤ y) → Q (.int m) H
theorem cr_max (hc : X.calm = true) : CallR X (.builtin "max") (rMax X.K) := by
  intro pins s σ H vs us Q I r h
  obtain ⟨a, ns, rfl, hs, hne, q⟩ := h
  obtain ⟨its, rv, hl, _⟩ := I.list hs
  rw [Vals.ref1 r]
  exact max_raw (I.ok.hd hc) hl.isList rv.ints hne fun h' tk m t' hk h1 h2 => ⟨.int _, H, I.kept hk, ⟨_, rfl⟩, q m h1 h2⟩
/-! sorted, sort (fewer than 64 items: the library's own bound) -/
def rSorted (K : PySem.W.Frag) : List V → Hp → VK → Prop := fun vs H Q => ∃ (a : Addr) (ns : List Int), vs = [V.ref a] ∧ SqL K H a (ns.map V.int) ∧ ns.length < 64 ∧
  ∀ (ns' : List Int) (p : Addr), ns'.Perm ns → ns'.Pairwise (· ≤ ·) → H p = none → Q (.ref p) (upd H p (.lst (ns'.map V.int)))
def rSortedS (K : PySem.W.Frag) : List V → Hp → VK → Prop := fun vs H Q => ∃ (a : Addr) (xs : List Str), vs = [V.ref a] ∧ SqL K H a (xs.map V.str) ∧ xs.length < 64 ∧
  ∀ (ys : List Str) (p : Addr), ys.Perm xs → sortedS ys = true → H p = none → Q (.ref p) (upd H p (.lst (ys.map V.str)))
/-- xs.sort(), ints -/
def rSort : V → List V → Hp → VK → Prop := fun x xs H Q => ∃ (a : Addr) (ns : List Int), x = V.ref a ∧ xs = [] ∧ H a = some (.lst (ns.map V.int)) ∧ ns.length < 64 ∧
  ∀ ns' : List Int, ns'.Perm ns → ns'.Pairwise (· ≤ ·) → Q .non (upd H a (.lst (ns'.map V.int)))
end

/-! ### list.index, flat items -/
section
variable {X : Cx}
def rIndex (K : PySem.W.Frag) : V → List V → Hp → VK → Prop := fun x xs H Q => ∃ (a : Addr) (ys : List V) (y : V) (j : Nat) (z : V), x = V.ref a ∧ xs = [y] ∧ SqL K H a ys ∧ flatV y = true ∧ ys.all flatV = true ∧ ys[j]? = some z ∧ eqV z y = true ∧
  (∀ (m : Nat) (z' : V), m < j → ys[m]? = some z' → eqV z' y = false) ∧ Q (.int (j : Nat)) H
end

/-! ### type(x) of an own instance; is, is not of a module's class -/
section
variable {X : Cx}
end

/-! ### any(xs), all(xs) of a list of bools -/
section
variable {X : Cx}
def rAny (K : PySem.W.Frag) : List V → Hp → VK → Prop := fun vs H Q => ∃ (a : Addr) (bs : List Bool), vs = [V.ref a] ∧ SqL K H a (bs.map V.bl) ∧ Q (.bl (bs.any id)) H
def rAll (K : PySem.W.Frag) : List V → Hp → VK → Prop := fun vs H Q => ∃ (a : Addr) (bs : List Bool), vs = [V.ref a] ∧ SqL K H a (bs.map V.bl) ∧ Q (.bl (bs.all id)) H
end

/-! ### == and != of data at any depth: none, bools, ints, texts, lists, tuples -/
mutual
inductive Dp (K : PySem.W.Frag) (H : Hp) : V → PyData → Prop
  | non : Dp K H .non .none
  | bl (b : Bool) : Dp K H (.bl b) (.bool b)
  | int (i : Int) : Dp K H (.int i) (.int i)
  | str (x : Str) : Dp K H (.str x) (.str x)
  | lst {a : Addr} {xs : List V} {ds : List PyData} : SqL K H a xs → DpAll K H xs ds → Dp K H (.ref a) (.list ds)
  | tup {a : Addr} {xs : List V} {ds : List PyData} : SqT K H a xs → DpAll K H xs ds → Dp K H (.ref a) (.tuple ds)
inductive DpAll (K : PySem.W.Frag) (H : Hp) : List V → List PyData → Prop
  | nil : DpAll K H [] []
  | cons {v : V} {vs : List V} {d : PyData} {ds : List PyData} : Dp K H v d → DpAll K H vs ds → DpAll K H (v :: vs) (d :: ds)
end
section
variable {X : Cx} {pins : List (Addr × Obj)} {σ : St} {H : Hp} {s : Shared}
mutual
theorem Dp.reads (I : Inv X pins σ H s) : ∀ (d : PyData) (v : V) (u : Value), Dp X.K H v d → RelV v u → ∃ as, Reads s.heap u d as
  | .none, _, _, h, r => by
    cases h
    cases r
    exact ⟨_, Reads.none⟩
  | .bool b, _, _, h, r => by
    cases h
    cases r
    exact ⟨_, Reads.bool b⟩
  | .int i, _, _, h, r => by
    cases h
    obtain ⟨t, rfl⟩ := r
    exact ⟨_, Reads.int i t⟩
  | .str x, _, _, h, r => by
    cases h
    obtain ⟨t, rfl⟩ := r
    exact ⟨_, Reads.str x t⟩
  | .list ds, _, _, h, r => by
    cases h with
    | lst hs ha =>
      cases r
      obtain ⟨its, rv, ⟨o, n, ho, hc, _, hd⟩, _⟩ := I.list hs
      obtain ⟨as, hr⟩ := Dp.readsAll I ds _ its ha rv
      exact ⟨_, Reads.list ho hc hd hr⟩
  | .tuple ds, _, _, h, r => by
    cases h with
    | tup hs ha =>
      cases r
      obtain ⟨its, rv, ⟨o, ho, hc, n, hd⟩, _⟩ := I.tuple hs
      obtain ⟨as, hr⟩ := Dp.readsAll I ds _ its ha rv
      exact ⟨_, Reads.tuple ho hc hd hr⟩
  | .dict _, _, _, h, _ => by cases h
theorem Dp.readsAll (I : Inv X pins σ H s) : ∀ (ds : List PyData) (vs : List V) (us : List Value), DpAll X.K H vs ds → Vals vs us → ∃ as, ReadsAll s.heap us ds as
  | [], _, _, h, r => by
    cases h
    cases r
    exact ⟨_, ReadsAll.nil⟩
  | d :: ds, _, _, h, r => by
    cases h with
    | cons h1 h2 =>
      cases r with
      | cons r1 r2 =>
        obtain ⟨as, q1⟩ := Dp.reads I d _ _ h1 r1
        obtain ⟨bs, q2⟩ := Dp.readsAll I ds _ _ h2 r2
        exact ⟨_, ReadsAll.cons q1 q2⟩
end
end
section
variable {X : Cx}
def rEqD (K : PySem.W.Frag) : R2 := fun x y H Q => ∃ d e, Dp K H x d ∧ Dp K H y e ∧ SeqAt.shaped d = true ∧ SeqAt.shaped e = true ∧ Q (.bl (PyData.eqv d e)) H
def rNeD (K : PySem.W.Frag) : R2 := fun x y H Q => ∃ d e, Dp K H x d ∧ Dp K H y e ∧ SeqAt.shaped d = true ∧ SeqAt.shaped e = true ∧ Q (.bl (!PyData.eqv d e)) H
theorem op_eqD (hu : X.A.units + 64 < cLine) : OpR X (compareOp .Eq) (rEqD X.K) := by
  intro pins s σ H x y v u Q I rx ry h
  obtain ⟨d, e, hd, he, sd, se, q⟩ := h
  obtain ⟨as, r1⟩ := Dp.reads I d x v hd rx
  obtain ⟨bs, r2⟩ := Dp.reads I e y u he ry
  exact SeqAt.compareEq_shaped r1 r2 sd se hu ⟨.bl _, H, I, rfl, q⟩
theorem op_neD (hu : X.A.units + 64 < cLine) : OpR X (compareOp .NotEq) (rNeD X.K) := by
  intro pins s σ H x y v u Q I rx ry h
  obtain ⟨d, e, hd, he, sd, se, q⟩ := h
  obtain ⟨as, r1⟩ := Dp.reads I d x v hd rx
  obtain ⟨bs, r2⟩ := Dp.reads I e y u he ry
  exact SeqAt.compareNe_shaped r1 r2 sd se hu ⟨.bl _, H, I, rfl, q⟩
end
end L2

namespace L2
open PySem PySem.Spec PyProof.Rows
abbrev CellAt (h : Heap) (c : Addr) (v : Option Value) : Prop := h.IsCell c v
def relS (scope sc : Scope) : Scope :=
  { scope with names := scope.names.map fun (n, k) => if (k == .free && sc.kind == .function && sc.names.lookup n == some .cell) then (n, .cell) else (n, k) }

def cloFrom (cells : List (Str × Addr)) : List (Str × NameKind) → List (Str × Addr) → List (Str × Addr)
  | [], acc => acc
  | (n, k) :: r, acc => if k == .free then cloFrom cells r ((n, (cells.lookup n).getD 0) :: acc) else cloFrom cells r acc

theorem closure_loop (env : Env) (f : Str × NameKind → List (Str × Addr) → Sem (ForInStep (List (Str × Addr))))
    (hf : ∀ n k c, f (n, k) c = if k == .free then (do let a ← cellOf env n; pure (.yield ((n, a) :: c))) else pure (.yield c)) :
    ∀ (names : List (Str × NameKind)) (acc : List (Str × Addr)), (∀ y ∈ names, y.2 = .free → ∃ c, env.cells.lookup y.1 = some c) → forIn names acc f = pure (cloFrom env.cells names acc)
  | [], acc, _ => by rw [List.forIn_nil]; rfl
  | (n, k) :: r, acc, h => by
    rw [List.forIn_cons, hf]
    have ih := fun acc => closure_loop env f hf r acc fun y hy => h y (List.mem_cons_of_mem _ hy)
    unfold cloFrom
    by_cases hk : (k == NameKind.free) = true
    · rw [if_pos hk, if_pos hk]
      obtain ⟨c, hc⟩ := h (n, k) List.mem_cons_self (by simpa using hk)
      have e : cellOf env n = pure c := by unfold cellOf; rw [hc]
      rw [e]
      have e2 : (env.cells.lookup n).getD 0 = c := by rw [hc]; rfl
      rw [e2]
      exact ih _
    · rw [if_neg hk, if_neg hk]
      exact ih _
theorem closure_ok {scope : Scope} {env : Env} (h : ∀ y ∈ scope.names, y.2 = .free → ∃ c, env.cells.lookup y.1 = some c) : closureFor scope env = pure (cloFrom env.cells scope.names []) := by
  simp only [closureFor]
  rw [closure_loop env _ (fun n k c => rfl) scope.names [] h]
  rfl

theorem mem_lookup {α : Type} : ∀ {l : List (Str × α)} {n : Str} {c : α}, (n, c) ∈ l → ∃ c', l.lookup n = some c'
  | (k, v) :: r, n, c, h => by
    rw [List.lookup_cons]
    cases hb : n == k with
    | true => exact ⟨_, rfl⟩
    | false =>
      rcases List.mem_cons.mp h with e | h
      · cases e; simp at hb
      · exact mem_lookup h

theorem cloFrom_mem {cells : List (Str × Addr)} : ∀ {names : List (Str × NameKind)} {acc : List (Str × Addr)} {n : Str} {c : Addr}, (n, c) ∈ cloFrom cells names acc → (n, c) ∈ acc ∨ ((n, .free) ∈ names ∧ c = (cells.lookup n).getD 0)
  | [], _, _, _, h => .inl h
  | (m, k) :: r, acc, n, c, h => by
    unfold cloFrom at h
    split at h
    · rename_i hk
      have hk : k = .free := by simpa using hk
      rcases cloFrom_mem h with h | ⟨h1, h2⟩
      · rcases List.mem_cons.mp h with e | h
        · cases e; exact .inr ⟨hk ▸ List.mem_cons_self, rfl⟩
        · exact .inl h
      · exact .inr ⟨List.mem_cons_of_mem _ h1, h2⟩
    · rcases cloFrom_mem h with h | ⟨h1, h2⟩
      · exact .inl h
      · exact .inr ⟨List.mem_cons_of_mem _ h1, h2⟩
theorem cloFrom_acc {cells : List (Str × Addr)} : ∀ {names : List (Str × NameKind)} {acc : List (Str × Addr)} {p : Str × Addr}, p ∈ acc → p ∈ cloFrom cells names acc
  | [], _, _, h => h
  | (m, k) :: r, acc, p, h => by
    unfold cloFrom
    split
    · exact cloFrom_acc (List.mem_cons_of_mem _ h)
    · exact cloFrom_acc h
theorem cloFrom_has {cells : List (Str × Addr)} : ∀ {names : List (Str × NameKind)} {acc : List (Str × Addr)} {n : Str}, (n, .free) ∈ names → (n, (cells.lookup n).getD 0) ∈ cloFrom cells names acc
  | (m, k) :: r, acc, n, h => by
    unfold cloFrom
    rcases List.mem_cons.mp h with e | h
    · cases e
      exact cloFrom_acc List.mem_cons_self
    · split
      · exact cloFrom_has h
      · exact cloFrom_has h

theorem cells_mem : ∀ {names : List (Str × NameKind)} {h : Heap} {acc : List (Str × Addr)} {x : Str} {c : Addr}, (x, c) ∈ cellsFrom h.objs.size names acc →
    (x, c) ∈ acc ∨ ((x, .cell) ∈ names ∧ h.objs.size ≤ c ∧ CellAt (pushCells h names) c none)
  | [], _, _, _, _, h => .inl h
  | (n, k) :: r, h, acc, x, c, hm => by
    unfold cellsFrom at hm
    unfold pushCells
    split at hm
    · rename_i hk
      rw [if_pos hk]
      have hk : k = .cell := by simpa using hk
      rw [← Heap.size_push h { cls := .type "cell", data := .cell none }] at hm
      rcases cells_mem hm with hm | ⟨h1, h2, h3⟩
      · rcases List.mem_cons.mp hm with e | hm
        · cases e
          exact .inr ⟨hk ▸ List.mem_cons_self, Nat.le_refl _, _, pushCells_keeps r _ _ _ (Heap.get?_push_size _ rfl), rfl⟩
        · exact .inl hm
      · rw [Heap.size_push] at h2
        exact .inr ⟨List.mem_cons_of_mem _ h1, Nat.le_of_succ_le h2, h3⟩
    · rename_i hk
      rw [if_neg hk]
      rcases cells_mem hm with hm | ⟨h1, h2, h3⟩
      · exact .inl hm
      · exact .inr ⟨List.mem_cons_of_mem _ h1, h2, h3⟩
theorem cells_acc : ∀ {names : List (Str × NameKind)} {n : Nat} {acc : List (Str × Addr)} {p : Str × Addr}, p ∈ acc → p ∈ cellsFrom n names acc
  | [], _, _, _, h => h
  | (m, k) :: r, n, acc, p, h => by
    unfold cellsFrom
    split
    · exact cells_acc (List.mem_cons_of_mem _ h)
    · exact cells_acc h
theorem cells_has : ∀ {names : List (Str × NameKind)} {n : Nat} {acc : List (Str × Addr)} {x : Str}, (x, .cell) ∈ names → ∃ c, (x, c) ∈ cellsFrom n names acc
  | (m, k) :: r, n, acc, x, h => by
    unfold cellsFrom
    rcases List.mem_cons.mp h with e | h
    · cases e
      exact ⟨n, cells_acc List.mem_cons_self⟩
    · split
      · exact cells_has h
      · exact cells_has h
theorem cells_inj : ∀ {names : List (Str × NameKind)} {h : Heap} {acc : List (Str × Addr)} {x y : Str} {c : Addr}, (∀ p ∈ acc, p.2 < h.objs.size) → (∀ x y c, (x, c) ∈ acc → (y, c) ∈ acc → x = y) →
    (x, c) ∈ cellsFrom h.objs.size names acc → (y, c) ∈ cellsFrom h.objs.size names acc → x = y
  | [], _, _, _, _, _, _, hi, h1, h2 => hi _ _ _ h1 h2
  | (n, k) :: r, h, acc, x, y, c, hl, hi, h1, h2 => by
    unfold cellsFrom at h1 h2
    split at h1
    · rename_i hk
      rw [if_pos hk] at h2
      rw [← Heap.size_push h { cls := .type "cell", data := .cell none }] at h1 h2
      refine cells_inj (h := h.push _) (fun p hp => ?_) (fun x y c a b => ?_) h1 h2
      · rw [Heap.size_push]
        rcases List.mem_cons.mp hp with rfl | hp
        · exact Nat.lt_succ_self _
        · exact Nat.lt_succ_of_lt (hl p hp)
      · rcases List.mem_cons.mp a with e | a <;> rcases List.mem_cons.mp b with e' | b
        · cases e; cases e'; rfl
        · cases e; exact absurd (hl _ b) (Nat.lt_irrefl _)
        · cases e'; exact absurd (hl _ a) (Nat.lt_irrefl _)
        · exact hi _ _ _ a b
    · rename_i hk
      rw [if_neg hk] at h2
      exact cells_inj hl hi h1 h2

theorem newEnv_comp {M : Model} {A : Around} {E : Value → Shared → Prop} {s : Shared} {scope : Scope} {globals : Addr} {closure : List (Str × Addr)} {qual : Str} {func : Option Addr} {code : Value} {around : Env} {builtins : Addr} {Q : Env → Shared → Prop}
    (h : Q (newEnv scope s.heap.objs.size globals (cellsFrom (s.heap.objs.size + 1) scope.names closure) qual func code (some around) builtins)
      { s with heap := pushCells (s.heap.push { cls := .type "dict", data := .dict #[] }) scope.names }) :
    wpAny M A (newFunctionEnv scope globals closure [] qual func code (some around) builtins) Q E s := by
  simp only [newFunctionEnv, Option.isSome_some, if_true]
  refine wpAny_bind (wpAny_alloc ?_)
  refine wpAny_bind (wpAny_layCells _ (fun n k c => rfl) scope.names closure _ _ ?_)
  rw [show ({ s with heap := s.heap.push { cls := .type "dict", data := .dict #[] } } : Shared).heap.objs.size = s.heap.objs.size + 1 from Heap.size_push ..]
  rw [List.forIn_nil]
  exact wpAny_bind (wpAny_pure (wpAny_pure h))

/-- every name of the written scope, in the scope that runs -/
theorem lookup_relS {sc : Scope} : ∀ {names : List (Str × NameKind)} {x : Str} {k : NameKind},
    (names.map fun (n, k) => if (k == NameKind.free && sc.kind == .function && sc.names.lookup n == some .cell) then (n, NameKind.cell) else (n, k)).lookup x = some k →
    ∃ k', names.lookup x = some k' ∧ (k = k' ∨ (k' = .free ∧ k = .cell))
  | [], _, _, h => by simp at h
  | (n, k₀) :: r, x, k, h => by
    have ih := @lookup_relS sc r x k
    have h' : List.lookup x ((if (k₀ == NameKind.free && sc.kind == .function && sc.names.lookup n == some .cell) = true then (n, NameKind.cell) else (n, k₀)) :: (r.map _)) = some k := h
    cases hx : x == n with
    | true =>
      simp only [List.lookup_cons, hx]
      by_cases hc : (k₀ == NameKind.free && sc.kind == .function && sc.names.lookup n == some .cell) = true
      · rw [if_pos hc] at h'
        simp only [List.lookup_cons, hx] at h'
        cases h'
        simp only [Bool.and_eq_true, beq_iff_eq] at hc
        exact ⟨k₀, rfl, .inr ⟨hc.1.1, rfl⟩⟩
      · rw [if_neg hc] at h'
        simp only [List.lookup_cons, hx] at h'
        cases h'
        exact ⟨_, rfl, .inl rfl⟩
    | false =>
      simp only [List.lookup_cons, hx]
      by_cases hc : (k₀ == NameKind.free && sc.kind == .function && sc.names.lookup n == some .cell) = true
      · rw [if_pos hc] at h'
        simp only [List.lookup_cons, hx] at h'
        exact ih h'
      · rw [if_neg hc] at h'
        simp only [List.lookup_cons, hx] at h'
        exact ih h'
/-- the names of a comprehension's block: its own (with their places in N), or captured -/
structure BlkOk (N : List Str) (sc scope : Scope) (own : List (Str × Nat)) : Prop where
  kind : scope.kind = .function
  uniq : ∀ y ∈ scope.names, scope.names.lookup y.1 = some y.2
  ix : ∀ p ∈ own, N[p.2]? = some p.1
  free : ∀ y ∈ scope.names, y.2 = .free → sc.names.lookup y.1 = some .cell ∨ sc.names.lookup y.1 = some .free
  own : ∀ y ∈ scope.names, y.2 = .local ∨ y.2 = .cell → y.1 ∈ own.map (·.1) ∨ y.1 ∉ N
/-- the slots of the block's own names forgotten -/
def wipe (σ : St) : List Nat → St
  | [] => σ
  | v :: vs => (wipe σ vs).set v none
theorem wipe_length (σ : St) : ∀ vs : List Nat, (wipe σ vs).length = σ.length
  | [] => rfl
  | v :: vs => by unfold wipe; rw [List.length_set, wipe_length σ vs]
theorem wipe_some {σ : St} {i : Nat} {x : V} : ∀ {vs : List Nat}, (wipe σ vs)[i]? = some (some x) → σ[i]? = some (some x) ∧ i ∉ vs
  | [], h => ⟨h, by simp⟩
  | v :: vs, h => by
    unfold wipe at h
    by_cases hi : v = i
    · subst hi
      by_cases hv : v < (wipe σ vs).length
      · rw [List.getElem?_set_self hv] at h; cases h
      · rw [List.getElem?_eq_none (by simpa using hv)] at h; cases h
    · rw [List.getElem?_set_ne hi] at h
      obtain ⟨h1, h2⟩ := wipe_some h
      exact ⟨h1, by simp only [List.mem_cons, not_or]; exact ⟨fun e => hi e.symm, h2⟩⟩

/-- the context of a block that starts at s, its iterator's objects at fp -/
abbrev Cx.blk (X : Cx) (s : Shared) (H : Hp) (scope : Scope) (cenv : Env) (fp : List Addr) : Cx := { X with s_0 := s, H_0 := H, env := cenv, outer := X.stack, ex := fp, fn := fun x => scope.names.lookup x == some .cell, pn := [], xe := fun _ _ => False }
section
variable {X : Cx} {pins : List (Addr × Obj)} {σ : St} {H : Hp} {s : Shared}
theorem block_start {scope : Scope} {own : List (Str × Nat)} {fp : List Addr} (I : Inv X pins σ H s) (ok : BlkOk X.N X.env.scope scope own) (hN : X.N.Nodup) (hfp : ∀ b ∈ fp, FpOk X pins H b ∧ b < s.heap.objs.size) :
    Inv (X.blk s H scope (compEnvC scope (cellsFrom (s.heap.objs.size + 1) scope.names (cloFrom X.env.cells scope.names [])) s.heap.objs.size X.env) fp) [] (wipe σ (own.map (·.2))) H { s with heap := pushCells (s.heap.push { cls := .type "dict", data := .dict #[] }) scope.names } := by
  have hfree : ∀ y ∈ scope.names, y.2 = .free → ∃ c, X.env.cells.lookup y.1 = some c := fun y hy e => by
    rcases ok.free y hy e with k | k
    · exact I.ok.has _ (.inl k)
    · exact I.ok.has _ (.inr k)
  generalize hcenv : compEnvC scope (cellsFrom (s.heap.objs.size + 1) scope.names (cloFrom X.env.cells scope.names [])) s.heap.objs.size X.env = cenv
  have kp : ∀ b o, s.heap.get? b = some o → (pushCells (s.heap.push { cls := .type "dict", data := .dict #[] }) scope.names).get? b = some o := fun b o e => pushCells_keeps _ _ _ _ (Heap.get?_push_of_some _ e)
  have hL : cenv.locals = s.heap.objs.size := by rw [← hcenv]; rfl
  have hcl : cenv.cells = cellsFrom (s.heap.objs.size + 1) scope.names (cloFrom X.env.cells scope.names []) := by rw [← hcenv]; rfl
  have hsc : cenv.scope = relS scope X.env.scope := by rw [← hcenv]; rfl
  rw [← Heap.size_push s.heap { cls := .type "dict", data := .dict #[] }] at hcl
  have cm : ∀ {y c}, (y, c) ∈ cloFrom X.env.cells scope.names [] → X.env.cells.lookup y = some c ∧ c < s.heap.objs.size := fun {y c} hm => by
    rcases cloFrom_mem hm with hm | ⟨h1, rfl⟩
    · cases hm
    · obtain ⟨c, hc⟩ := hfree _ h1 rfl
      rw [hc]
      obtain ⟨w, z⟩ := I.cell _ _ hc
      exact ⟨rfl, z.lt⟩
  have mem : ∀ {y c}, cenv.cells.lookup y = some c → (X.env.cells.lookup y = some c ∧ c < s.heap.objs.size) ∨ (s.heap.objs.size + 1 ≤ c ∧ CellAt (pushCells (s.heap.push { cls := .type "dict", data := .dict #[] }) scope.names) c none) := fun {y c} e => by
    rw [hcl] at e
    rcases cells_mem (PySem.mem_of_lookup e) with hm | ⟨_, h2, h3⟩
    · exact .inl (cm hm)
    · rw [Heap.size_push] at h2; exact .inr ⟨h2, h3⟩
  have look : ∀ {y}, scope.names.lookup y = some .free → ∃ c, cenv.cells.lookup y = some c ∧ X.env.cells.lookup y = some c := fun {y} hl => by
    have hy : (y, NameKind.free) ∈ scope.names := PySem.mem_of_lookup hl
    obtain ⟨c', e'⟩ := mem_lookup (cells_acc (names := scope.names) (n := (s.heap.push { cls := .type "dict", data := .dict #[] }).objs.size) (cloFrom_has (cells := X.env.cells) (acc := []) hy))
    rw [← hcl] at e'
    refine ⟨c', e', ?_⟩
    rw [hcl] at e'
    rcases cells_mem (PySem.mem_of_lookup e') with hm | ⟨h1, _, _⟩
    · exact (cm hm).1
    · have := ok.uniq _ h1
      rw [hl] at this; cases this
  have okB : (X.blk s H scope cenv fp).Ok := by
    refine ⟨I.ok.mod, by show cenv.scope.kind = _; rw [hsc]; exact ok.kind, by show cenv.globals = _; rw [← hcenv]; exact I.ok.glob, by show cenv.builtins = _; rw [← hcenv]; exact I.ok.blt, by show s.heap.objs.size ≤ cenv.locals; rw [hL]; exact Nat.le_refl _,
      fun y z c e1 e2 => ?_, fun y hy => ?_, fun y c z e => ?_, I.ok.hd, I.ok.frames, .inl rfl, fun b hb => ⟨?_, fun y c e z => ?_⟩, I.bs, Nat.le_trans I.ok.bsz I.sz, fun b o e hb => ?_, fun b hb z => ?_, I.stack, I.stkFree⟩
    · have e1 : cenv.cells.lookup y = some c := e1
      have e2 : cenv.cells.lookup z = some c := e2
      rw [hcl] at e1 e2
      refine cells_inj (fun p hp => ?_) (fun y z c a b => I.ok.inj y z c (cm a).1 (cm b).1) (PySem.mem_of_lookup e1) (PySem.mem_of_lookup e2)
      rw [Heap.size_push]
      exact Nat.lt_succ_of_lt (cm (y := p.1) (c := p.2) hp).2
    · show ∃ c, cenv.cells.lookup y = some c
      have key : ∀ k, cenv.kindOf y = some k → (k = .cell ∨ k = .free) → ∃ c, cenv.cells.lookup y = some c := fun k hk hk' => by
        unfold Env.kindOf at hk
        rw [hsc] at hk
        obtain ⟨k', e, r⟩ := lookup_relS hk
        have : k' = .cell ∨ k' = .free := by
          rcases r with rfl | ⟨rfl, _⟩
          · exact hk'
          · exact .inr rfl
        rcases this with rfl | rfl
        · obtain ⟨c, hm⟩ := cells_has (n := (s.heap.push { cls := .type "dict", data := .dict #[] }).objs.size) (acc := cloFrom X.env.cells scope.names []) (PySem.mem_of_lookup e)
          obtain ⟨c', e'⟩ := mem_lookup hm
          exact ⟨c', by rw [hcl]; exact e'⟩
        · obtain ⟨c, h1, _⟩ := look e
          exact ⟨c, h1⟩
      rcases hy with hy | hy
      · exact key _ hy (.inl rfl)
      · exact key _ hy (.inr rfl)
    · have z : (scope.names.lookup y == some NameKind.cell) = true := z
      have z : scope.names.lookup y = some .cell := by simpa using z
      have e : cenv.cells.lookup y = some c := e
      rw [hcl] at e
      rcases cells_mem (PySem.mem_of_lookup e) with hm | ⟨_, h2, _⟩
      · rcases cloFrom_mem hm with hm | ⟨h1, _⟩
        · cases hm
        · have q := ok.uniq _ h1
          rw [z] at q; cases q
      · rw [Heap.size_push] at h2
        exact Nat.le_of_succ_le h2
    · show b ≠ cenv.locals
      rw [hL]; exact Nat.ne_of_lt (hfp b hb).2
    · have e : cenv.cells.lookup y = some c := e
      rcases mem e with ⟨h1, _⟩ | ⟨h1, _⟩
      · exact (hfp b hb).1.2.2.2.2.1 y c h1 z
      · have h2 : s.heap.objs.size + 1 ≤ b := by rw [← z]; exact h1
        exact absurd (Nat.lt_of_lt_of_le (hfp b hb).2 (Nat.le_of_succ_le h2)) (Nat.lt_irrefl _)
    · rcases (hfp b hb).1.2.2.2.1 with z | z
      · exact I.ok.noex b o e z
      · exact absurd (Nat.lt_of_lt_of_le (Heap.lt_size e) (Nat.le_trans I.ok.bsz z)) (Nat.lt_irrefl _)
    · rcases List.mem_cons.mp (I.stkSub b z) with z | z
      · exact (hfp b hb).1.2.1 z
      · exact (hfp b hb).1.2.2.1 z
  refine ⟨okB, rfl, I.bare, Un.kept kp, ⟨fun _ => none, ?_, fun i y av e1 e2 e3 => ?_⟩, fun y c e => ?_, ?_, fun y c e => ?_, fun p hp => ?_, I.hok.kept kp, by rw [wipe_length]; exact I.len⟩
  · show Heap.Ns _ cenv.locals _
    rw [hL]
    exact Heap.Ns.keeps (Heap.Ns.new ..) fun b o e => pushCells_keeps _ _ _ _ e
  · obtain ⟨e2, hne⟩ := wipe_some e2
    have hfr : scope.names.lookup y = some .free ∧ (cenv.kindOf y = some .cell ∨ cenv.kindOf y = some .free) := by
      have key : ∀ k, cenv.scope.names.lookup y = some k → k = .local ∨ k = .cell ∨ k = .free → scope.names.lookup y = some .free ∧ (cenv.kindOf y = some .cell ∨ cenv.kindOf y = some .free) := fun k hk hk' => by
        have hk0 := hk
        rw [hsc] at hk
        obtain ⟨k', e, r⟩ := lookup_relS hk
        have no : ¬ (k' = .local ∨ k' = .cell) := fun hh => by
          rcases ok.own _ (PySem.mem_of_lookup e) hh with e' | e'
          · obtain ⟨p, hp, hpy⟩ := List.mem_map.mp e'
            have e3 := ok.ix p hp
            have : p.1 = y := hpy
            rw [this] at e3
            exact hne (List.mem_map.mpr ⟨p, hp, nodup_ix hN e3 e1⟩)
          · exact e' (List.mem_of_getElem? e1)
        rcases r with rfl | ⟨rfl, rfl⟩
        · rcases hk' with rfl | rfl | rfl
          · exact absurd (.inl rfl) no
          · exact absurd (.inr rfl) no
          · exact ⟨e, .inr hk0⟩
        · exact ⟨e, .inl hk0⟩
      have e3 : Vis cenv.scope y := e3
      rcases e3 with e3 | e3 | e3
      · exact key _ e3 (.inl rfl)
      · exact key _ e3 (.inr (.inl rfl))
      · exact key _ e3 (.inr (.inr rfl))
    obtain ⟨m, hn, hl⟩ := I.loc
    have hvis : Vis X.env.scope y := (ok.free _ (PySem.mem_of_lookup hfr.1) rfl).elim (fun k => .inr (.inl k)) (fun k => .inr (.inr k))
    obtain ⟨w, r, q⟩ := hl i y av e1 e2 hvis
    refine ⟨w, r, .inr ⟨hfr.2, ?_⟩⟩
    obtain ⟨c, h1, h2⟩ := look hfr.1
    rcases q with ⟨k, _⟩ | ⟨_, c', e', z⟩
    · have k : X.env.scope.names.lookup y = some .local := k
      rcases ok.free _ (PySem.mem_of_lookup hfr.1) rfl with k' | k' <;> rw [show X.env.scope.names.lookup y = _ from k'] at k <;> cases k
    · rw [h2] at e'; cases e'
      exact ⟨c, h1, z.keeps kp⟩
  · have e : cenv.cells.lookup y = some c := e
    rcases mem e with ⟨h1, _⟩ | ⟨_, z⟩
    · obtain ⟨w, z⟩ := I.cell y c h1
      exact ⟨w, z.keeps kp⟩
    · exact ⟨_, z⟩
  · show H cenv.locals = none
    rw [hL]; exact I.hok.fresh (Nat.le_refl _)
  · have e : cenv.cells.lookup y = some c := e
    rcases mem e with ⟨h1, _⟩ | ⟨h1, _⟩
    · exact I.freeC y c h1
    · exact I.hok.fresh (Nat.le_of_succ_le h1)
  · exact absurd (show p ∈ ([] : List (Addr × Obj)) ++ [] from hp) (by simp)

/-- an item appended to a tracked list -/
theorem app_ok {E : Value → Shared → Prop} {D : Addr} {xs : List V} {y : V} {v : Value} {Q : Value → Shared → Prop} (I : Inv X pins σ H s) (hD : H D = some (.lst xs)) (hz : xs.length < sizeLine) (r : RelV y v)
    (h : ∀ s', Inv X pins σ (upd H D (.lst (xs ++ [y]))) s' → Q .none s') : wpAny (model X.prog X.w) X.A (call (.builtin "list.append") [.ref D, v]) Q E s := by
  obtain ⟨hz', its, n, ri, e⟩ := I.hok D _ hD
  have hl := ri.length
  refine append_at (hsz := by rw [List.size_toArray]; omega) e fun h' sb ho' => ?_
  refine h { s with heap := h' } (I.write (t' := s.toks) (by rw [hD]; trivial) (.inl rfl) (fun b u hb q => (sb.2 b hb).trans q) ⟨_, ho'⟩ ⟨by rw [List.length_append]; exact hz, its ++ [v], n + 1, ri.append (.cons r .nil), ?_⟩)
  rw [ho']
  simp

/-- a clause's tests -/
def PTs (X : Cx) (ifs : List Expr) (t : TT) : Prop :=
  ∀ (pins : List (Addr × Obj)) (s : Shared) (σ : St) (H : Hp) (Q : Bool → Hp → Prop), Inv X pins σ H s → t σ H Q →
    wpAny (model X.prog X.w) X.A (forIn ifs true fun c r => if r = true then do let ok ← isTrue c X.env (eval c X.env); pure (ForInStep.yield ok) else pure (ForInStep.yield r)) (TP X pins σ Q) X.xe s
def tYes : TT := fun _ H Q => Q true H
theorem pts_one {c : Expr} {t : TT} (h : PT X c t) : PTs X [c] t := fun pins s σ H Q I hw => wpAny_tests_one (h pins s σ H Q I hw)
end

theorem thnF {α : Type} {t : Sem α} {Q Q' : α → Shared → Prop} {M : Model} {A : Around} {E : Value → Shared → Prop} {s : Shared} (h : wpAny M A t Q (fun _ _ => False) s) (hQ : ∀ a s, Q a s → Q' a s) : wpAny M A t Q' E s := wpAny_mono h hQ fun _ _ z => False.elim z

/-- the loop of a list comprehension's block, the target of any form (codeAny_compLoop_tests asks a target that no tuple goes to; statement and proof follow it, PyProof/CompMap.lean:41-61, with the step letOwnedTupleGo kept) -/
theorem compLoop_any {prog : Program} {w : World} {A : Around} {R : Result → Shared → Prop} {s : Shared} {elt target iter : Expr} {ifs : List Expr} {scope : Scope} {pos : Pos} {it acc : Value} {env : Env} (I : Nat → Shared → Prop)
    (turn : ∀ n s, I n s → wpAny (model prog w) A (pyNext it) (fun r s₁ => match r with
      | none => R (.ok .next) s₁
      | some v => wpAny (model prog w) A (letOwnedTupleGo target it v) (fun _ s₁' => wpAny (model prog w) A (assign target env v) (fun _ s₂ =>
          wpAny (model prog w) A (forIn ifs true fun c r => if r = true then do let ok ← isTrue c env (eval c env); pure (ForInStep.yield ok) else pure (ForInStep.yield r)) (fun ok s₃ =>
            if ok = true then wpAny (model prog w) A (eval elt env) (fun x s₄ =>
              wpAny (model prog w) A (call (.builtin "list.append") [acc, x]) (fun _ s₅ => ∃ m, m < n ∧ I m s₅) (notedBy (model prog w) A env fun e s' => R (.error e) s') s₄) (notedBy (model prog w) A env fun e s' => R (.error e) s') s₃
            else ∃ m, m < n ∧ I m s₃) (notedBy (model prog w) A env fun e s' => R (.error e) s') s₂) (notedBy (model prog w) A env fun e s' => R (.error e) s') s₁') (notedBy (model prog w) A env fun e s' => R (.error e) s') s₁) (notedBy (model prog w) A env fun e s' => R (.error e) s') s)
    (n : Nat) (h : I n s) :
    codeAny (model prog w) A (.compLoop (.ListComp elt [⟨target, iter, ifs, 0⟩] scope pos) 0 it acc env) R s := by
  refine codeAny_loop rfl I (fun n s hI => ?_) n h
  show wpAny _ A ((compTurn (.ListComp elt [⟨target, iter, ifs, 0⟩] scope pos) 0 it acc env).onRaise (fun x => do noteFrame x env; theTreesLotGoes x)) _ _ s
  refine wpAny_noted ?_
  rw [compTurn_list]
  refine wpAny_bind (wpAny_standAt (wpAny_bind (wpAny_mono (turn n s hI) (fun r s₁ h₁ => ?_) fun _ _ h' => h')))
  cases r with
  | none => exact wpAny_pure h₁
  | some v =>
    refine wpAny_bind (wpAny_mono h₁ (fun _ s₁' h₁' => ?_) fun _ _ h' => h')
    refine wpAny_bind (wpAny_mono h₁' (fun _ s₂ h₂ => wpAny_bind (wpAny_mono h₂ (fun ok s₃ h₃ => ?_) fun _ _ h' => h')) fun _ _ h' => h')
    cases ok with
    | false => exact wpAny_pure ⟨rfl, h₃⟩
    | true =>
      exact wpAny_bind (wpAny_bind (wpAny_mono h₃ (fun x s₄ h₄ => wpAny_bind (wpAny_mono h₄ (fun _ s₅ h₅ => wpAny_pure (wpAny_pure ⟨rfl, h₅⟩)) fun _ _ h' => h')) fun _ _ h' => h'))

section
variable {X : Cx}
/-- [elt for target in iter if ..]: D the new list; W by the turn and a measure, Nx what a turn is to reach -/
def tLc (wi : TI) (g : TG) (tt : TT) (te : TE) (vs : List Nat) : TE := fun σ H Q => wi σ H fun J H1 => ∀ D, H1 D = none → ∃ W : Nat → Nat → Hp → Prop, (∃ m, W 0 m (upd H1 D (.lst []))) ∧ ∀ i m H, W i m H →
  (J.stop i H ∧ Q (.ref D) H) ∨ (J.go i H ∧ ∃ Nx : Hp → Prop, (∀ H', Nx H' → ∃ m', m' < m ∧ W (i + 1) m' H') ∧ ∀ x H', J.yld i H x H' → g x (wipe σ vs) H' fun σ2 H2 => wipe σ2 vs = wipe σ vs ∧ tt σ2 H2 fun b H3 =>
    if b = true then te σ2 H3 fun y H4 => ∃ acc, H4 D = some (.lst acc) ∧ acc.length < sizeLine ∧ Nx (upd H4 D (.lst (acc ++ [y]))) else Nx H3)
theorem lc_core {pins : List (Addr × Obj)} {s : Shared} {σ : St} {H : Hp} {Q : VK} {elt tg iter : Expr} {ifs : List Expr} {scope : Scope} {own : List (Str × Nat)} {pos pos' : Pos} {wi : TI} {g : TG} {tt : TT} {te : TE} {use : Option (Value → Sem Unit)} {Qf : Value → Shared → Prop}
    (hc : X.calm = true) (hN : X.N.Nodup) (I : Inv X pins σ H s) (hi : PI X tg iter wi) (ok : BlkOk X.N X.env.scope scope own)
    (hg : ∀ (s : Shared) (H : Hp) (C : Addr) (cl : List (Str × Addr)) (fp : List Addr), PG (X.blk s H scope (compEnvC scope cl C X.env) fp) tg g) (ht : ∀ (s : Shared) (H : Hp) (C : Addr) (cl : List (Str × Addr)) (fp : List Addr), PTs (X.blk s H scope (compEnvC scope cl C X.env) fp) ifs tt)
    (he : ∀ (s : Shared) (H : Hp) (C : Addr) (cl : List (Str × Addr)) (fp : List Addr), PE (X.blk s H scope (compEnvC scope cl C X.env) fp) elt te) (hs : ∀ x, foldedSetIterable iter X.env x = pure x)
    (h : tLc wi g tt te (own.map (·.2)) σ H Q)
    (hRR : ∀ D C s' m H', Inv X pins σ H' s' → Q (.ref D) H' → s'.heap.Ns C m → FpOk X pins H' C → compPost (model X.prog X.w) X.A X.xe use Qf (.ref D) C (.ok .next) s') :
    wpAny (model X.prog X.w) X.A (comprehension (.ListComp elt [⟨tg, iter, ifs, 0⟩] scope pos) scope X.env pos' (newList []) false (eval iter X.env) use) Qf X.xe s := by
  have hfree : ∀ y ∈ scope.names, y.2 = .free → ∃ c, X.env.cells.lookup y.1 = some c := fun y hy e => by
    rcases ok.free y hy e with k | k
    · exact I.ok.has _ (.inl k)
    · exact I.ok.has _ (.inr k)
  refine wpAny_comprehension_free (use := use) rfl hs (closure_ok hfree) ok.kind (fun y hy e => by rw [ok.uniq y hy, e])
    (thn (hi pins s σ H _ I h) fun xv s1 hx => thn hx fun itv s2 h2 => ?_)
  obtain ⟨it, fp, tn, J, H2, e, I2, T, st2, f2, q⟩ := h2
  subst e
  refine wpAny_newObj_type (newEnv_comp ?_) (by show 0 ≤ sizeLine; decide)
  generalize hD : s2.heap.objs.size = D
  have hDn : H2 D = none := I2.hok.fresh (Nat.le_of_eq hD)
  obtain ⟨W, ⟨m0, w0⟩, turn⟩ := q D hDn
  -- the new list
  generalize hs3 : ({ s2 with heap := s2.heap.push { cls := .type "list", data := .seq ([] : List Value).toArray } } : Shared) = s3
  have I3 : Inv X pins σ (upd H2 D (.lst [])) s3 := by
    rw [← hs3]
    refine I2.laid (t' := s2.toks) (fun b o e => Heap.get?_push_of_some _ e) (Nat.le_of_eq hD) ⟨Nat.zero_le _, [], 0, .nil, ?_⟩
    rw [← hD]
    exact Heap.get?_push_size _ rfl
  have h3 : s3.heap = s2.heap.push { cls := .type "list", data := .seq ([] : List Value).toArray } := by rw [← hs3]
  have sz : ∀ b ∈ fp, b < s2.heap.objs.size := fun b hb => by
    obtain ⟨o, e, _⟩ := T.obj _ _ st2 b hb
    exact Heap.lt_size e
  have f3 : ∀ b ∈ fp, FpOk X pins (upd H2 D (.lst [])) b ∧ b < s3.heap.objs.size := fun b hb => by
    have hlt := sz b hb
    refine ⟨⟨?_, (f2 b hb).2⟩, by rw [h3, Heap.size_push]; exact Nat.lt_succ_of_lt hlt⟩
    rw [upd_ne (by rw [← hD]; exact Nat.ne_of_lt hlt)]
    exact (f2 b hb).1
  have st3 : tn 0 s3.heap := T.keep _ _ _ st2 fun b _ o e => by rw [h3]; exact Heap.get?_push_of_some _ e
  have I4 := block_start I3 ok hN f3
  have pg := hg s3 (upd H2 D (.lst [])) s3.heap.objs.size (cellsFrom (s3.heap.objs.size + 1) scope.names (cloFrom X.env.cells scope.names [])) fp
  have pt := ht s3 (upd H2 D (.lst [])) s3.heap.objs.size (cellsFrom (s3.heap.objs.size + 1) scope.names (cloFrom X.env.cells scope.names [])) fp
  have pe := he s3 (upd H2 D (.lst [])) s3.heap.objs.size (cellsFrom (s3.heap.objs.size + 1) scope.names (cloFrom X.env.cells scope.names [])) fp
  show codeAny _ _ (.compStart (.ListComp elt [⟨tg, iter, ifs, 0⟩] scope pos) 0 (.ref it) (.ref D) (compEnvC scope (cellsFrom (s3.heap.objs.size + 1) scope.names (cloFrom X.env.cells scope.names [])) s3.heap.objs.size X.env)) (compPost (model X.prog X.w) X.A X.xe use Qf (.ref D) s3.heap.objs.size) { s3 with heap := pushCells (s3.heap.push { cls := .type "dict", data := .dict #[] }) scope.names }
  have nfp : ∀ b ∈ fp, (upd H2 D (.lst [])) b = none := fun b hb => (f3 b hb).1.1
  generalize hce : compEnvC scope (cellsFrom (s3.heap.objs.size + 1) scope.names (cloFrom X.env.cells scope.names [])) s3.heap.objs.size X.env = ce at I4 pg pt pe ⊢
  have cL : ce.locals = s3.heap.objs.size := by subst hce; rfl
  generalize hH3 : upd H2 D (.lst []) = H3 at I3 I4 pg pt pe w0 nfp f3
  generalize hs4 : ({ s3 with heap := pushCells (s3.heap.push { cls := .type "dict", data := .dict #[] }) scope.names } : Shared) = s4 at I4 ⊢
  have st4 : tn 0 s4.heap := T.keep _ _ _ st3 fun b _ o e => by rw [← hs4]; exact pushCells_keeps _ _ _ _ (Heap.get?_push_of_some _ e)
  have stat : ∀ {σ' : St} {H' : Hp} {s' : Shared}, Inv (X.blk s3 H3 scope ce fp) [] σ' H' s' → (∀ b ∈ fp, H' b = none) → ∀ b ∈ fp, FpOk (X.blk s3 H3 scope ce fp) [] H' b := fun {σ' H' s'} I' hn b hb =>
    ⟨hn b hb, (I'.ok.exf b hb).1, I'.ok.exfs b hb, .inl hb, fun x c e => (I'.ok.exf b hb).2 x c e, fun p hp => absurd (show p ∈ ([] : List (Addr × Obj)) ++ [] from hp) (by simp)⟩
  have loop : codeAny (model X.prog X.w) X.A (.compLoop (.ListComp elt [⟨tg, iter, ifs, 0⟩] scope pos) 0 (.ref it) (.ref D) ce) (compPost (model X.prog X.w) X.A X.xe use Qf (.ref D) s3.heap.objs.size) s4 := by
    refine compLoop_any (fun n s' => ∃ i H', Inv (X.blk s3 H3 scope ce fp) [] (wipe σ (own.map (·.2))) H' s' ∧ tn i s'.heap ∧ (∀ b ∈ fp, H' b = none) ∧ W i n H') ?_ m0 ⟨0, H3, I4, st4, nfp, w0⟩
    rintro n s5 ⟨i, H5, I5, st5, n5, w5⟩
    rcases turn i n H5 w5 with ⟨stop, qq⟩ | ⟨go, Nx, hNx, step⟩
    · have td := T.done (X.blk s3 H3 scope ce fp) rfl rfl rfl hc i [] s5 _ H5 (fun _ _ => False) I5 (stat I5 n5) st5 stop
      refine thnF td fun r s6 ⟨hr, I6⟩ => ?_
      subst hr
      -- back in the def's context
      have I7 : Inv X pins σ H5 s6 := I3.call' (ch := fp) I6.os I6.base I6.hok I6.bare fun b hb => ⟨(f3 b hb).1.2.2.2.1, (f3 b hb).1.2.1, (f3 b hb).1.2.2.2.2.1, (f3 b hb).1.2.2.2.2.2⟩
      have nC : H5 s3.heap.objs.size = none := by
        have z : H5 ce.locals = none := I6.free
        rw [cL] at z
        exact z
      obtain ⟨m, hn, _⟩ := I6.loc
      have hn : s6.heap.Ns ce.locals m := hn
      rw [cL] at hn
      exact hRR D s3.heap.objs.size s6 m H5 I7 qq hn (I3.fpOk (Nat.le_refl _) nC)
    · have ti := T.item (X.blk s3 H3 scope ce fp) rfl rfl rfl hc i [] s5 _ H5 (fun _ _ => False) I5 (stat I5 n5) st5 go
      refine thnF ti fun r s6 ⟨u, hr, h6⟩ => ?_
      subst hr
      refine thnF h6 fun _ s7 ⟨x, H7, I7, r7, y7, st7, n7⟩ => ?_
      have I7' := I7.pinned (stat I7 n7) (T.obj _ _ st7)
      refine thnF (pg _ s7 _ H7 x u _ I7' r7 (step x H7 y7)) fun _ s8 ⟨σ8, H8, I8, hw8, q8⟩ => ?_
      refine thnF (pt _ s8 σ8 H8 _ I8 q8) fun b s9 ⟨H9, I9, q9⟩ => ?_
      -- the turn's end
      have fin : ∀ {s' : Shared} {H' : Hp}, Inv (X.blk s3 H3 scope ce fp) ([] ++ pinsAt fp s7.heap) σ8 H' s' → Nx H' → ∃ m, m < n ∧ ∃ i H', Inv (X.blk s3 H3 scope ce fp) [] (wipe σ (own.map (·.2))) H' s' ∧ tn i s'.heap ∧ (∀ b ∈ fp, H' b = none) ∧ W i m H' := fun {s' H'} I' nx => by
        obtain ⟨m', hm, w'⟩ := hNx H' nx
        have pin' : ∀ b ∈ fp, ∀ o, s7.heap.get? b = some o → s'.heap.get? b = some o ∧ H' b = none := fun b hb o e =>
          let z := I'.pin (b, o) (List.mem_append_right _ (List.mem_append_right _ (mem_pinsAt hb e)))
          ⟨z.1, z.2.1⟩
        have hl : (wipe σ (own.map (·.2))).length = σ8.length := by rw [← hw8, wipe_length]
        refine ⟨m', hm, i + 1, H', (I'.unpinned (pins := [])).weak hl (fun j v e => ?_), T.keep _ _ _ st7 fun b hb o e => (pin' b hb o e).1, fun b hb => ?_, w'⟩
        · rw [← hw8] at e
          exact (wipe_some e).1
        · obtain ⟨o, e, _⟩ := T.obj _ _ st7 b hb
          exact (pin' b hb o e).2
      cases b with
      | false =>
        simp only [Bool.false_eq_true, if_false] at q9 ⊢
        exact fin I9 q9
      | true =>
        simp only [if_true] at q9 ⊢
        refine thnF (pe _ s9 σ8 H9 _ I9 q9) fun z s10 ⟨yv, H10, I10, r10, acc, hD10, hz10, nx⟩ => ?_
        exact app_ok (X := X.blk s3 H3 scope ce fp) I10 hD10 hz10 r10 fun s11 I11 => fin I11 nx
  exact codeAny_compStart_list loop (T.self X.A 0 _ _ _ st4 loop)
/-- as a value -/
theorem pe_lc {elt tg iter : Expr} {ifs : List Expr} {scope : Scope} {own : List (Str × Nat)} {pos : Pos} {wi : TI} {g : TG} {tt : TT} {te : TE} (hc : X.calm = true) (hN : X.N.Nodup) (hi : PI X tg iter wi) (ok : BlkOk X.N X.env.scope scope own)
    (hg : ∀ (s : Shared) (H : Hp) (C : Addr) (cl : List (Str × Addr)) (fp : List Addr), PG (X.blk s H scope (compEnvC scope cl C X.env) fp) tg g) (ht : ∀ (s : Shared) (H : Hp) (C : Addr) (cl : List (Str × Addr)) (fp : List Addr), PTs (X.blk s H scope (compEnvC scope cl C X.env) fp) ifs tt)
    (he : ∀ (s : Shared) (H : Hp) (C : Addr) (cl : List (Str × Addr)) (fp : List Addr), PE (X.blk s H scope (compEnvC scope cl C X.env) fp) elt te) (hs : ∀ x, foldedSetIterable iter X.env x = pure x := by intro _; rfl) :
    PE X (.ListComp elt [⟨tg, iter, ifs, 0⟩] scope pos) (tLc wi g tt te (own.map (·.2))) := by
  intro pins s σ H Q I h
  rw [eval_ListComp]
  refine lc_core hc hN I hi ok hg ht he hs h fun D C s' m H' I' q hn f => ⟨m, hn, fun h'' sb => ?_⟩
  obtain ⟨f0, f1, f2, f3, f4, f5⟩ := f
  exact ⟨.ref D, H', I'.turned (t' := s'.toks) (fun b o hb e => (sb.2 b hb).trans e) f0 f1 f3 f4 f5, rfl, q⟩
/-- name = [..] on one line, the name a local -/
theorem ps_setLc {i : Nat} {y : Str} {py : Pos} {elt tg iter : Expr} {ifs : List Expr} {scope : Scope} {own : List (Str × Nat)} {pos spos : Pos} {wi : TI} {g : TG} {tt : TT} {te : TE} (hc : X.calm = true) (hN : X.N.Nodup) (hy : X.N[i]? = some y) (hyl : X.env.scope.names.lookup y = some .local)
    (hsw : swapsWith (.ListComp elt [⟨tg, iter, ifs, 0⟩] scope pos) (some (.Name y py)) spos.line X.env = pure true) (hi : PI X tg iter wi) (ok : BlkOk X.N X.env.scope scope own)
    (hg : ∀ (s : Shared) (H : Hp) (C : Addr) (cl : List (Str × Addr)) (fp : List Addr), PG (X.blk s H scope (compEnvC scope cl C X.env) fp) tg g) (ht : ∀ (s : Shared) (H : Hp) (C : Addr) (cl : List (Str × Addr)) (fp : List Addr), PTs (X.blk s H scope (compEnvC scope cl C X.env) fp) ifs tt)
    (he : ∀ (s : Shared) (H : Hp) (C : Addr) (cl : List (Str × Addr)) (fp : List Addr), PE (X.blk s H scope (compEnvC scope cl C X.env) fp) elt te) (hs : ∀ x, foldedSetIterable iter X.env x = pure x := by intro _; rfl) :
    PS X (.Assign [.Name y py] (.ListComp elt [⟨tg, iter, ifs, 0⟩] scope pos) spos) (tAsg (tLc wi g tt te (own.map (·.2))) (gName i)) := by
  intro pins s σ H D I h
  rw [exec_Assign_Name_used _ _ _ _ hsw]
  refine wpAny_bind (wpAny_standAt (wpAny_bind ?_))
  show wpAny _ X.A (do let _ ← comprehension (.ListComp elt [⟨tg, iter, ifs, 0⟩] scope pos) scope X.env (firstIterPos [⟨tg, iter, ifs, 0⟩] pos) (newList []) false (eval iter X.env) (some (assign (.Name y py) X.env))) _ _ s
  have h : tLc wi g tt te (own.map (·.2)) σ H (fun x H1 => gName i x σ H1 D.nx) := h
  refine wpAny_bind (thn (lc_core (Qf := fun _ s' => SP X pins D .next s') hc hN I hi ok hg ht he hs h fun L C s' m H' I' q hn f => ?_) fun _ s' hq => wpAny_pure (wpAny_pure hq))
  show wpAny _ _ (assign (.Name y py) X.env (.ref L)) _ _ _
  refine wpAny_assign_Name (store_ok2 (v := V.ref L) I' hN hy (.inl hyl) rfl (fun s2 I2 ⟨a, sb, ha⟩ => ?_) (.inr hyl))
  obtain ⟨f0, f1, f2, f3, f4, f5⟩ := f
  have haC : C ≠ a := by
    rcases ha with z | z
    · rw [z]; exact f1
    · exact fun e => f4 y a z e.symm
  refine ⟨m, hn.sameBut sb haC, fun h3 sb3 => ?_⟩
  exact ⟨_, H', I2.turned (t' := s2.toks) (fun b o hb e => (sb3.2 b hb).trans e) f0 f1 f3 f4 f5, q⟩
theorem sw_true {elt : Expr} {gs : List Comprehension} {scope : Scope} {pos py : Pos} {y : Str} {l : Nat} {env : Env} (hk : env.scope.kind = .function) (hy : env.scope.names.lookup y = some .local) (hl : (py.line == pos.line) = true)
    (ha : (scope.names.any fun (n, k) => n == y && (k == .local || k == .cell)) = false) : swapsWith (.ListComp elt gs scope pos) (some (.Name y py)) l env = pure true := by
  have ky : env.kindOf y = some .local := hy
  have hb : env.blockKind = .function := by unfold Env.blockKind; rw [hk]; rfl
  unfold swapsWith
  simp only [hb, ky, ha, Expr.pos, hl]
  rfl
end

/-! ### the forms one uses -/
/-- over a range: Pv by the turn and the heap (the new list at D within) -/
theorem lc_range {lo : Int} {n : Nat} {g : TG} {tt : TT} {te : TE} {vs : List Nat} {σ : St} {H1 : Hp} {D : Addr} {Qd : Hp → Prop} (Pv : Nat → Hp → Prop) (h0 : Pv 0 (upd H1 D (.lst [])))
    (hs : ∀ i H, i < n → Pv i H → g (.int (lo + i)) (wipe σ vs) H fun σ2 H2 => wipe σ2 vs = wipe σ vs ∧ tt σ2 H2 fun b H3 =>
      if b = true then te σ2 H3 fun y H4 => ∃ acc, H4 D = some (.lst acc) ∧ acc.length < sizeLine ∧ Pv (i + 1) (upd H4 D (.lst (acc ++ [y]))) else Pv (i + 1) H3) (hd : ∀ H, Pv n H → Qd H) :
    ∃ W : Nat → Nat → Hp → Prop, (∃ m, W 0 m (upd H1 D (.lst []))) ∧ ∀ i m H, W i m H →
      ((Itr lo n).stop i H ∧ Qd H) ∨ ((Itr lo n).go i H ∧ ∃ Nx : Hp → Prop, (∀ H', Nx H' → ∃ m', m' < m ∧ W (i + 1) m' H') ∧ ∀ x H', (Itr lo n).yld i H x H' → g x (wipe σ vs) H' fun σ2 H2 => wipe σ2 vs = wipe σ vs ∧ tt σ2 H2 fun b H3 =>
        if b = true then te σ2 H3 fun y H4 => ∃ acc, H4 D = some (.lst acc) ∧ acc.length < sizeLine ∧ Nx (upd H4 D (.lst (acc ++ [y]))) else Nx H3) := by
  refine ⟨fun i m H => m = n - i ∧ i ≤ n ∧ Pv i H, ⟨n, by simp, Nat.zero_le _, h0⟩, ?_⟩
  rintro i m H ⟨rfl, hi, p⟩
  by_cases hlt : i < n
  · refine .inr ⟨hlt, Pv (i + 1), fun H' p' => ⟨n - (i + 1), by omega, rfl, hlt, p'⟩, fun x H' y => ?_⟩
    obtain ⟨e, y⟩ := y
    subst e y
    exact hs i _ hlt p
  · have e : i = n := by omega
    subst e
    exact .inl ⟨Nat.le_refl _, hd H p⟩
/-- over a list that the block leaves as it is -/
theorem lc_list {K : PySem.W.Frag} {a : Addr} {xs : List V} {g : TG} {tt : TT} {te : TE} {vs : List Nat} {σ : St} {H1 : Hp} {D : Addr} {Qd : Hp → Prop} (Pv : Nat → Hp → Prop) (h0 : Pv 0 (upd H1 D (.lst []))) (hl : ∀ i H, i ≤ xs.length → Pv i H → SqL K H a xs)
    (hs : ∀ i x H, xs[i]? = some x → Pv i H → g x (wipe σ vs) H fun σ2 H2 => wipe σ2 vs = wipe σ vs ∧ tt σ2 H2 fun b H3 =>
      if b = true then te σ2 H3 fun y H4 => ∃ acc, H4 D = some (.lst acc) ∧ acc.length < sizeLine ∧ Pv (i + 1) (upd H4 D (.lst (acc ++ [y]))) else Pv (i + 1) H3) (hd : ∀ H, Pv xs.length H → Qd H) :
    ∃ W : Nat → Nat → Hp → Prop, (∃ m, W 0 m (upd H1 D (.lst []))) ∧ ∀ i m H, W i m H →
      ((Itl K a).stop i H ∧ Qd H) ∨ ((Itl K a).go i H ∧ ∃ Nx : Hp → Prop, (∀ H', Nx H' → ∃ m', m' < m ∧ W (i + 1) m' H') ∧ ∀ x H', (Itl K a).yld i H x H' → g x (wipe σ vs) H' fun σ2 H2 => wipe σ2 vs = wipe σ vs ∧ tt σ2 H2 fun b H3 =>
        if b = true then te σ2 H3 fun y H4 => ∃ acc, H4 D = some (.lst acc) ∧ acc.length < sizeLine ∧ Nx (upd H4 D (.lst (acc ++ [y]))) else Nx H3) := by
  refine ⟨fun i m H => m = xs.length - i ∧ i ≤ xs.length ∧ Pv i H, ⟨xs.length, by simp, Nat.zero_le _, h0⟩, ?_⟩
  rintro i m H ⟨rfl, hi, p⟩
  have q := hl i H hi p
  by_cases hlt : i < xs.length
  · refine .inr ⟨⟨xs, xs[i], q, by simp [hlt]⟩, Pv (i + 1), fun H' p' => ⟨xs.length - (i + 1), by omega, rfl, hlt, p'⟩, fun x H' y => ?_⟩
    obtain ⟨e, y⟩ := y
    subst e
    exact hs i x _ (y xs q) p
  · have e : i = xs.length := by omega
    subst e
    exact .inl ⟨⟨xs, q, Nat.le_refl _⟩, hd H p⟩
def blkC (N : List Str) (sc scope : Scope) (own : List (Str × Nat)) : Bool :=
  (match scope.kind with | .function => true | _ => false) && (scope.names.all fun y => decide (scope.names.lookup y.1 = some y.2)) && (own.all fun p => decide (N[p.2]? = some p.1)) &&
    (scope.names.all fun y => match y.2 with
      | .free => (match sc.names.lookup y.1 with | some .cell => true | some .free => true | _ => false)
      | .local => decide (y.1 ∈ own.map (·.1)) || decide (y.1 ∉ N)
      | .cell => decide (y.1 ∈ own.map (·.1)) || decide (y.1 ∉ N)
      | _ => true)
theorem blkOk_by {N : List Str} {sc scope : Scope} {own : List (Str × Nat)} (h : blkC N sc scope own = true) : BlkOk N sc scope own := by
  unfold blkC at h
  simp only [Bool.and_eq_true, List.all_eq_true, decide_eq_true_eq] at h
  obtain ⟨⟨⟨h1, h2⟩, h3⟩, h4⟩ := h
  refine ⟨?_, h2, h3, fun y hy e => ?_, fun y hy e => ?_⟩
  · split at h1
    · assumption
    · cases h1
  · have q := h4 y hy
    simp only [e] at q
    split at q <;> first | exact .inl (by assumption) | exact .inr (by assumption) | cases q
  · have q := h4 y hy
    rcases e with e | e <;> (simp only [e, Bool.or_eq_true, decide_eq_true_eq] at q; exact q)
end L2

namespace L2
open PySem PySem.Spec PyProof.Rows

section
variable {prog : Program} {w : World} {A : Around} {R : Result → Shared → Prop} {s : Shared} {elt t0 i0 t1 i1 : Expr} {ifs0 ifs1 : List Expr} {scope : Scope} {pos : Pos} {it acc : Value} {env : Env}
end

section
variable {X : Cx}
/-- [elt for tg in iter if .. for tg1 in iter1 if ..]: behind the first clause's store and tests the second source's own loop, from which Nx is reached. vs: the block's names; vs1: those of the second target -/
def tLc2 (wi : TI) (g : TG) (tt : TT) (wi1 : TI) (g1 : TG) (tt1 : TT) (te : TE) (vs vs1 : List Nat) : TE := fun σ H Q => wi σ H fun J H1 => ∀ D, H1 D = none → ∃ W : Nat → Nat → Hp → Prop, (∃ m, W 0 m (upd H1 D (.lst []))) ∧ ∀ i m H, W i m H →
  (J.stop i H ∧ Q (.ref D) H) ∨ (J.go i H ∧ ∃ Nx : Hp → Prop, (∀ H', Nx H' → ∃ m', m' < m ∧ W (i + 1) m' H') ∧ ∀ x H', J.yld i H x H' → g x (wipe σ vs) H' fun σ2 H2 => wipe σ2 vs = wipe σ vs ∧ tt σ2 H2 fun b H3 =>
    if b = true then wi1 σ2 H3 fun J1 H4 => ∃ W1 : Nat → Nat → Hp → Prop, (∃ m, W1 0 m H4) ∧ ∀ j k H, W1 j k H →
      (J1.stop j H ∧ Nx H) ∨ (J1.go j H ∧ ∃ Nx1 : Hp → Prop, (∀ H', Nx1 H' → ∃ k', k' < k ∧ W1 (j + 1) k' H') ∧ ∀ x H', J1.yld j H x H' → g1 x (wipe σ2 vs1) H' fun σ3 H5 => wipe σ3 vs1 = wipe σ2 vs1 ∧ tt1 σ3 H5 fun b H6 =>
        if b = true then te σ3 H6 fun y H7 => ∃ acc, H7 D = some (.lst acc) ∧ acc.length < sizeLine ∧ Nx1 (upd H7 D (.lst (acc ++ [y]))) else Nx1 H6)
    else Nx H3)
end
end L2

namespace L2
open PySem PySem.Spec PyProof.Rows

/-! ### lists of pairs as tables -/
section
variable {κ : Type} [DecidableEq κ]
def valV (kvs : List (κ × V)) (k : κ) : Option V := (kvs.find? fun kv => decide (kv.1 = k)).map (·.2)
/-- in its place, or at the end -/
def putK (kvs : List (κ × V)) (k : κ) (v : V) : List (κ × V) :=
  if (kvs.any fun kv => decide (kv.1 = k)) = true then kvs.map (fun kv => if kv.1 = k then (kv.1, v) else kv) else kvs ++ [(k, v)]
def dropK (kvs : List (κ × V)) (k : κ) : List (κ × V) := kvs.filter fun kv => decide (kv.1 ≠ k)

theorem valV_pos {p : κ × V} {r : List (κ × V)} {k : κ} (e : p.1 = k) : valV (p :: r) k = some p.2 := by simp [valV, List.find?_cons, e]
theorem valV_neg {p : κ × V} {r : List (κ × V)} {k : κ} (e : ¬ p.1 = k) : valV (p :: r) k = valV r k := by simp [valV, List.find?_cons, e]
theorem valV_any (k : κ) : ∀ kvs : List (κ × V), (kvs.any fun kv => decide (kv.1 = k)) = (valV kvs k).isSome
  | [] => rfl
  | p :: r => by
    rw [List.any_cons]
    by_cases e : p.1 = k
    · simp only [valV_pos e, decide_eq_true e, Bool.true_or, Option.isSome_some]
    · rw [valV_neg e, decide_eq_false e, Bool.false_or]; exact valV_any k r
theorem valV_map (k j : κ) (y : V) : ∀ kvs : List (κ × V), valV (kvs.map fun kv => if kv.1 = k then (kv.1, y) else kv) j = (valV kvs j).map fun x => if j = k then y else x
  | [] => rfl
  | p :: r => by
    have ih := valV_map k j y r
    rw [List.map_cons]
    by_cases h : p.1 = k
    · rw [if_pos h]
      by_cases e : p.1 = j
      · rw [valV_pos (p := (p.1, y)) e, valV_pos e, Option.map_some, if_pos (e.symm.trans h)]
      · rw [valV_neg (p := (p.1, y)) e, valV_neg e, ih]
    · rw [if_neg h]
      by_cases e : p.1 = j
      · rw [valV_pos (p := p) e, valV_pos e, Option.map_some, if_neg (fun z => h (e.trans z))]
      · rw [valV_neg (p := p) e, valV_neg e, ih]
theorem valV_snoc (k j : κ) (y : V) : ∀ kvs : List (κ × V), valV kvs k = none → valV (kvs ++ [(k, y)]) j = if j = k then some y else valV kvs j
  | [], _ => by
    by_cases e : k = j
    · rw [if_pos e.symm]; exact valV_pos (p := (k, y)) e
    · rw [if_neg (fun z => e z.symm)]; exact valV_neg (p := (k, y)) e
  | p :: r, hn => by
    rw [List.cons_append]
    have hk : ¬ p.1 = k := fun z => by rw [valV_pos z] at hn; cases hn
    rw [valV_neg hk] at hn
    have ih := valV_snoc k j y r hn
    by_cases e : p.1 = j
    · rw [valV_pos e, valV_pos e, if_neg (fun z => hk (e.trans z))]
    · rw [valV_neg e, valV_neg e, ih]
theorem valV_put (kvs : List (κ × V)) (k j : κ) (y : V) : valV (putK kvs k y) j = if j = k then some y else valV kvs j := by
  unfold putK
  by_cases a : (kvs.any fun kv => decide (kv.1 = k)) = true
  · rw [if_pos a, valV_map]
    rw [valV_any] at a
    by_cases e : j = k
    · obtain ⟨x, hx⟩ := Option.isSome_iff_exists.mp a
      rw [if_pos e, e, hx, Option.map_some, if_pos rfl]
    · rw [if_neg e]
      cases valV kvs j with
      | none => rfl
      | some x => rw [Option.map_some, if_neg e]
  · rw [if_neg a]
    refine valV_snoc k j y kvs ?_
    rw [valV_any] at a
    cases q : valV kvs k with
    | none => rfl
    | some x => rw [q] at a; exact (a rfl).elim
theorem length_putK (kvs : List (κ × V)) (k : κ) (v : V) : (putK kvs k v).length ≤ kvs.length + 1 := by
  unfold putK
  split
  · rw [List.length_map]; omega
  · rw [List.length_append, List.length_cons, List.length_nil]; omega
theorem putK_new {kvs : List (κ × V)} {k : κ} (v : V) (h : valV kvs k = none) : putK kvs k v = kvs ++ [(k, v)] := by
  unfold putK
  rw [valV_any, h]
  exact if_neg (by decide)

theorem RelO.isSome_eq {o : Option V} {u : Option Value} (r : RelO o u) : o.isSome = u.isSome := by
  cases o with
  | none => cases u with
    | none => rfl
    | some _ => exact (show False from r).elim
  | some _ => cases u with
    | none => exact (show False from r).elim
    | some _ => rfl
theorem RelO.getD {o : Option V} {u : Option Value} {d : V} {d' : Value} (r : RelO o u) (rd : RelV d d') : RelV (o.getD d) (u.getD d') := by
  cases o with
  | none => cases u with
    | none => exact rd
    | some _ => exact (show False from r).elim
  | some _ => cases u with
    | none => exact (show False from r).elim
    | some _ => exact r

/-- raw tables of the same keys -/
theorem KV.val {kvs : List (κ × V)} {vs : List (κ × Value)} (r : KV kvs vs) (k : κ) : RelO (valV kvs k) (valueAt vs k) := by
  unfold KV at r
  induction r with
  | nil => exact True.intro
  | @cons p q ps qs h t ih =>
    obtain ⟨h1, h2⟩ := h
    by_cases e : p.1 = k
    · have e' : q.1 = k := h1.symm.trans e
      have b : valueAt (q :: qs) k = some q.2 := by simp [valueAt, List.find?_cons, e']
      rw [valV_pos e, b]; exact h2
    · have e' : ¬ q.1 = k := fun z => e (h1.trans z)
      have b : valueAt (q :: qs) k = valueAt qs k := by simp [valueAt, List.find?_cons, e']
      rw [valV_neg e, b]; exact ih
theorem KV.any {kvs : List (κ × V)} {vs : List (κ × Value)} (r : KV kvs vs) (k : κ) : (kvs.any fun kv => decide (kv.1 = k)) = vs.any fun kv => decide (kv.1 = k) := by
  unfold KV at r
  induction r with
  | nil => rfl
  | cons h t ih => rw [List.any_cons, List.any_cons, ih, h.1]
theorem KV.repl {kvs : List (κ × V)} {vs : List (κ × Value)} (r : KV kvs vs) (k : κ) {y : V} {u : Value} (ry : RelV y u) :
    KV (kvs.map fun kv => if kv.1 = k then (kv.1, y) else kv) (vs.map fun kv => if kv.1 = k then (kv.1, u) else kv) := by
  unfold KV at r ⊢
  induction r with
  | nil => exact .nil
  | @cons p q ps qs h t ih =>
    rw [List.map_cons, List.map_cons]
    refine .cons ?_ ih
    obtain ⟨h1, h2⟩ := h
    by_cases e : p.1 = k
    · rw [if_pos e, if_pos (h1.symm.trans e)]; exact ⟨h1, ry⟩
    · rw [if_neg e, if_neg (fun z => e (h1.trans z))]; exact ⟨h1, h2⟩
theorem KV.put {kvs : List (κ × V)} {vs : List (κ × Value)} (r : KV kvs vs) (k : κ) {y : V} {u : Value} (ry : RelV y u) : KV (putK kvs k y) (stored vs k u) := by
  unfold putK stored
  rw [r.any k]
  by_cases e : (vs.any fun kv => decide (kv.1 = k)) = true
  · rw [if_pos e, if_pos e]; exact r.repl k ry
  · rw [if_neg e, if_neg e]; exact Paired.snoc r ⟨rfl, ry⟩
theorem KV.length {kvs : List (κ × V)} {vs : List (κ × Value)} (r : KV kvs vs) : kvs.length = vs.length := Paired.length r
end


/-! ### a tracked dict, its keys ints and texts or tuples of these -/
theorem kV_is {P : Program} {w : World} {k : Key} {u : Value} (r : RelV (kV k) u) : (mixKind P w).is k u = true := by
  cases k with
  | inl i => obtain ⟨t, e⟩ := (show ∃ t, u = Value.int i t from r); subst e; exact mixKind_int P w i t
  | inr x => obtain ⟨t, e⟩ := (show ∃ t, u = Value.str x t from r); subst e; exact mixKind_str P w x t
theorem items_are {P : Program} {w : World} : ∀ {ks : List Key} {us : List Value}, Vals (ks.map kV) us → ItemsAre (mixKind P w) ks us
  | [], _, r => by rw [List.map_nil] at r; cases r; exact .nil
  | k :: ks, _, r => by
    rw [List.map_cons] at r
    cases r with
    | cons h t => exact .cons (kV_is h) (items_are t)

/-- raw entries of a dict with tuple keys -/
abbrev KT (H : Hp) : List (List Key × V) → List (List Key × Addr × Value) → Prop := Paired fun p q => p.1 = q.1 ∧ KeyAt H q.2.1 p.1 ∧ RelV p.2 q.2.2
theorem KT.val {H : Hp} {kvs : List (List Key × V)} {xs : List (List Key × Addr × Value)} (r : KT H kvs xs) (k : List Key) : RelO (valV kvs k) ((atKey xs k).map (·.2)) := by
  induction r with
  | nil => exact True.intro
  | @cons p q ps qs h t ih =>
    obtain ⟨h1, _, h2⟩ := h
    by_cases e : p.1 = k
    · have e' : q.1 = k := h1.symm.trans e
      have b : atKey (q :: qs) k = some q.2 := by simp [atKey, List.find?_cons, e']
      rw [valV_pos e, b]; exact h2
    · have e' : ¬ q.1 = k := fun z => e (h1.trans z)
      have b : atKey (q :: qs) k = atKey qs k := by simp [atKey, List.find?_cons, e']
      rw [valV_neg e, b]; exact ih
theorem KT.repl {H : Hp} {kvs : List (List Key × V)} {xs : List (List Key × Addr × Value)} (r : KT H kvs xs) (k : List Key) {y : V} {u : Value} (ry : RelV y u) :
    KT H (kvs.map fun kv => if kv.1 = k then (kv.1, y) else kv) (xs.map (putAt k u)) := by
  induction r with
  | nil => exact .nil
  | @cons p q ps qs h t ih =>
    rw [List.map_cons, List.map_cons]
    refine .cons ?_ ih
    obtain ⟨h1, h2, h3⟩ := h
    unfold putAt
    by_cases e : p.1 = k
    · rw [if_pos e, if_pos (h1.symm.trans e)]; exact ⟨h1, h2, ry⟩
    · rw [if_neg e, if_neg (fun z => e (h1.trans z))]; exact ⟨h1, h2, h3⟩
theorem KT.put {H : Hp} {kvs : List (List Key × V)} {xs : List (List Key × Addr × Value)} (r : KT H kvs xs) (k : List Key) {b : Addr} {y : V} {u : Value} (hb : KeyAt H b k) (ry : RelV y u) :
    KT H (putK kvs k y) (storedH xs k b u) := by
  have e : (kvs.any fun kv => decide (kv.1 = k)) = (atKey xs k).isSome := by
    rw [valV_any, (r.val k).isSome_eq, Option.isSome_map]
  unfold putK storedH
  rw [e]
  by_cases q : (atKey xs k).isSome = true
  · rw [if_pos q, if_pos q]; exact r.repl k ry
  · rw [if_neg q, if_neg q]; exact Paired.snoc r ⟨rfl, hb, ry⟩
theorem KT.keeps {H H' : Hp} {kvs : List (List Key × V)} {xs : List (List Key × Addr × Value)} (r : KT H kvs xs) (ht : ∀ b ys, H b = some (.tup ys) → H' b = some (.tup ys)) : KT H' kvs xs :=
  Paired.mapP r fun _ _ z => ⟨z.1, z.2.1.keep ht, z.2.2⟩

section
variable {P : Program} {w : World} {H : Hp} {h : Heap} {a : Addr}
theorem rd_of {u : HO} (ok : HOk P w H h) (e : Rd H a u) : ObjOk P w H h a u := e.ok ok
theorem dk_rd {kvs : List (Key × V)} (ok : HOk P w H h) (e : Rd H a (.dK kvs)) : kvs.length ≤ sizeLine ∧ (a == sysModules) = false ∧ ∃ vs, KV kvs vs ∧ h.DictOf (mixKind P w) a vs :=
  show ObjOk P w H h a (.dK kvs) from rd_of ok e
theorem dk_of {kvs : List (Key × V)} (ok : HOk P w H h) (e : H a = some (.dK kvs)) : kvs.length ≤ sizeLine ∧ (a == sysModules) = false ∧ ∃ vs, KV kvs vs ∧ h.DictOf (mixKind P w) a vs := dk_rd ok (.inl e)
/-- a tracked tuple of ints and texts is a key -/
def StatOk (h : Heap) : Prop := ∀ b k, St0 b k → ∃ its : List Value, Vals (k.map kV) its ∧ IsTup h b its.toArray
theorem key_of {ks : List Key} (ok : HOk P w H h) (st : StatOk h) (e : KeyAt H a ks) : (tupleKind (mixKind P w)).is h ks a := by
  have e2 : ∃ its : List Value, Vals (ks.map kV) its ∧ IsTup h a its.toArray := by
    rcases e with e | e
    · obtain ⟨_, its, r, q⟩ := (show ObjOk P w H h a (.tup (ks.map kV)) from ok a _ e)
      exact ⟨its, r, q⟩
    · exact st a ks e
  obtain ⟨its, r, o, h1, h2, n, h3⟩ := e2
  exact ⟨o, its.toArray, n, h1, h2, h3, by simpa using items_are r⟩
theorem dt_rd {kvs : List (List Key × V)} (ok : HOk P w H h) (st : StatOk h) (e : Rd H a (.dT kvs)) : kvs.length ≤ sizeLine ∧ (a == sysModules) = false ∧
    ∃ xs, KT H kvs xs ∧ h.DictOfH (tupleKind (mixKind P w)) a xs := by
  obtain ⟨z, y, xs, r, o, es, ep, h1, h2, h3, h4, h5⟩ := (show ObjOk P w H h a (.dT kvs) from rd_of ok e)
  refine ⟨z, y, xs, r, o, es, ep, h1, h2, h3, h4, fun x hx => ?_, h5⟩
  have all : ∀ {l : List (List Key × V)} {m : List (List Key × Addr × Value)}, KT H l m → ∀ x ∈ m, (tupleKind (mixKind P w)).is h x.1 x.2.1 := by
    intro l m q
    induction q with
    | nil => intro x hx; exact nomatch hx
    | @cons p q ps qs hq t ih =>
      intro x hx
      rcases List.mem_cons.mp hx with e | hx
      · subst e
        exact key_of ok st (by rw [← hq.1]; exact hq.2.1)
      · exact ih x hx
  exact all r x hx
theorem dt_of {kvs : List (List Key × V)} (ok : HOk P w H h) (st : StatOk h) (e : H a = some (.dT kvs)) : kvs.length ≤ sizeLine ∧ (a == sysModules) = false ∧
    ∃ xs, KT H kvs xs ∧ h.DictOfH (tupleKind (mixKind P w)) a xs := dt_rd ok st (.inl e)
end

/-- what the dict at a holds at the key y -/
def DGet (H : Hp) (a : Addr) (y : V) (r : Option V) : Prop :=
  (∃ kvs k, Rd H a (.dK kvs) ∧ y = kV k ∧ r = valV kvs k) ∨ ∃ kvs k b, Rd H a (.dT kvs) ∧ y = .ref b ∧ KeyAt H b k ∧ r = valV kvs k
/-- the heap behind a[y] = v -/
def DPut (H : Hp) (a : Addr) (y v : V) (H' : Hp) : Prop :=
  (∃ kvs k, H a = some (.dK kvs) ∧ y = kV k ∧ kvs.length < sizeLine ∧ H' = upd H a (.dK (putK kvs k v))) ∨
  ∃ kvs k b, H a = some (.dT kvs) ∧ y = .ref b ∧ KeyAt H b k ∧ kvs.length < sizeLine ∧ H' = upd H a (.dT (putK kvs k v))
theorem DGet.t {H : Hp} {a b : Addr} {kvs : List (List Key × V)} {k : List Key} (e : H a = some (.dT kvs)) (eb : KeyAt H b k) : DGet H a (.ref b) (valV kvs k) := .inr ⟨kvs, k, b, .inl e, rfl, eb, rfl⟩
theorem DPut.t {H : Hp} {a b : Addr} {kvs : List (List Key × V)} {k : List Key} {v : V} (e : H a = some (.dT kvs)) (eb : KeyAt H b k) (hl : kvs.length < sizeLine) :
    DPut H a (.ref b) v (upd H a (.dT (putK kvs k v))) := .inr ⟨kvs, k, b, e, rfl, eb, hl, rfl⟩


section
variable {X : Cx} {pins : List (Addr × Obj)} {σ : St} {H : Hp} {s : Shared} {a : Addr} {y v : V} {u r : Value} {o : Option V} {A : Around} {E : Value → Shared → Prop}

theorem Inv.stat (I : Inv X pins σ H s) : StatOk s.heap := fun b k e => by
  obtain ⟨o, its, n, h1, h2, h3, _, h5⟩ := I.ok.mod.stat b k e
  exact ⟨its.toList, h5, o, I.kIn b o h1, h2, n, by simpa using h3⟩
theorem Inv.big (I : Inv X pins σ H s) : sysModules < s.heap.objs.size := by
  have h : mainGlobals < s.heap.objs.size := (I.mod.glob.keeps I.bk).lt
  exact Nat.lt_trans (by decide) h

/-- d[y], there -/
theorem d_getItem {Q : Value → Shared → Prop} (hu : A.units + 1 < cLine) (I : Inv X pins σ H s) (g : DGet H a y (some v)) (ry : RelV y u) (h : ∀ w' s', Inv X pins σ H s' → RelV v w' → Q w' s') :
    wpAny (model X.prog X.w) A (getItem (.ref a) u) Q E s := by
  rcases g with ⟨kvs, k, e, ey, l⟩ | ⟨kvs, k, b, e, ey, eb, l⟩
  · subst ey
    obtain ⟨z, hd, vs, rel, dd⟩ := dk_rd I.hok e
    obtain ⟨w', hw, rw'⟩ := RelO.some_of (v := v) (o := valueAt vs k) (by rw [l]; exact rel.val k)
    exact wpAny_getItem_of (kV_is ry) dd.mapOf hw (h w' _ (I.tok _) rw')
  · subst ey
    cases (show u = Value.ref b from ry)
    obtain ⟨z, hd, xs, rel, dd⟩ := dt_rd I.hok I.stat e
    obtain ⟨w', hw, rw'⟩ := RelO.some_of (v := v) (o := (atKey xs k).map (·.2)) (by rw [l]; exact rel.val k)
    obtain ⟨p, hp, hp2⟩ := Option.map_eq_some_iff.mp hw
    refine wpAny_getItem_heap (tupleKind_room_in1 hu) (key_of I.hok I.stat eb) dd hp ?_
    rw [hp2]
    exact h w' _ (I.tok _) rw'
/-- y in d -/
theorem d_in {Q : Value → Shared → Prop} (hu : A.units + 1 < cLine) (I : Inv X pins σ H s) (g : DGet H a y o) (ry : RelV y u) (h : ∀ s', Inv X pins σ H s' → Q (.bool o.isSome) s') :
    wpAny (model X.prog X.w) A (compareOp .In u (.ref a)) Q E s := by
  rcases g with ⟨kvs, k, e, ey, l⟩ | ⟨kvs, k, b, e, ey, eb, l⟩
  · subst ey
    obtain ⟨z, hd, vs, rel, dd⟩ := dk_rd I.hok e
    refine wpAny_in_of (kV_is ry) hd dd.mapOf ?_
    rw [← (rel.val k).isSome_eq, ← l]
    exact h _ (I.tok _)
  · subst ey
    cases (show u = Value.ref b from ry)
    obtain ⟨z, hd, xs, rel, dd⟩ := dt_rd I.hok I.stat e
    refine wpAny_in_heap (tupleKind_room_in1 hu) (key_of I.hok I.stat eb) hd dd ?_
    have q := (rel.val k).isSome_eq
    rw [Option.isSome_map] at q
    rw [← q, ← l]
    exact h _ (I.tok _)
theorem d_notIn {Q : Value → Shared → Prop} (hu : A.units + 1 < cLine) (I : Inv X pins σ H s) (g : DGet H a y o) (ry : RelV y u) (h : ∀ s', Inv X pins σ H s' → Q (.bool (!o.isSome)) s') :
    wpAny (model X.prog X.w) A (compareOp .NotIn u (.ref a)) Q E s := by
  rcases g with ⟨kvs, k, e, ey, l⟩ | ⟨kvs, k, b, e, ey, eb, l⟩
  · subst ey
    obtain ⟨z, hd, vs, rel, dd⟩ := dk_rd I.hok e
    refine wpAny_notIn_of (kV_is ry) hd dd.mapOf ?_
    rw [← (rel.val k).isSome_eq, ← l]
    exact h _ (I.tok _)
  · subst ey
    cases (show u = Value.ref b from ry)
    obtain ⟨z, hd, xs, rel, dd⟩ := dt_rd I.hok I.stat e
    refine wpAny_notIn_heap (tupleKind_room_in1 hu) (key_of I.hok I.stat eb) hd dd ?_
    have q := (rel.val k).isSome_eq
    rw [Option.isSome_map] at q
    rw [← q, ← l]
    exact h _ (I.tok _)
/-- a dict's object is replaced -/
theorem d_write {h' : Heap} {t' : Nat} {ob : HO} (I : Inv X pins σ H s) (mu : Mut (H a)) (hs : Heap.SameBut a s.heap h') (he : ∃ q, h'.get? a = some q) (new : ObjOk X.prog X.w (upd H a ob) h' a ob) :
    Inv X pins σ (upd H a ob) { s with heap := h', toks := t' } :=
  I.write (x := a) (e := a) mu (.inl rfl) (fun b q hb z => (hs.2 b hb).trans z) he new
theorem dk_new {P : Program} {w : World} {H' : Hp} {h' : Heap} {kvs : List (Key × V)} {vs : List (Key × Value)} (z : kvs.length ≤ sizeLine) (hd : (a == sysModules) = false) (rel : KV kvs vs) (dd : h'.DictOf (mixKind P w) a vs) :
    ObjOk P w H' h' a (.dK kvs) := ⟨z, hd, vs, rel, dd⟩
/-- d[y] = v -/
theorem d_setItem {H' : Hp} {Q : Unit → Shared → Prop} (hu : A.units + 1 < cLine) (I : Inv X pins σ H s) (g : DPut H a y v H') (ry : RelV y u) (rv : RelV v r) (h : ∀ s', Inv X pins σ H' s' → Q () s') :
    wpAny (model X.prog X.w) A (setItem (.ref a) u r) Q E s := by
  rcases g with ⟨kvs, k, e, ey, l, eH⟩ | ⟨kvs, k, b, e, ey, eb, l, eH⟩
  · subst ey eH
    obtain ⟨z, hd, vs, rel, dd⟩ := dk_of I.hok e
    have hz : vs.length ≤ sizeLine := by rw [← rel.length]; exact z
    have hl : (putK kvs k v).length ≤ sizeLine := by have := length_putK kvs k v; omega
    refine wpAny_setItem_pairs (hsz := hz) (kV_is ry) dd fun h' dd' hs => h _ ?_
    have he : ∃ q, h'.get? a = some q := let ⟨q, _, _, hq, _⟩ := dd'; ⟨q, hq⟩
    exact d_write I (by rw [e]; exact True.intro) hs he (dk_new hl hd (rel.put k rv) dd')
  · subst ey eH
    cases (show u = Value.ref b from ry)
    obtain ⟨z, hd, xs, rel, dd⟩ := dt_of I.hok I.stat e
    have hz : xs.length ≤ sizeLine := by rw [← Paired.length rel]; exact z
    have hl : (putK kvs k v).length ≤ sizeLine := by have := length_putK kvs k v; omega
    refine wpAny_setItem_heap (hsz := hz) (tupleKind_room_in1 hu) (key_of I.hok I.stat eb) dd fun h' dd' hs => h _ ?_
    obtain ⟨q, es, ep, hq, h2, h3, h4, _, h5⟩ := dd'
    refine d_write I (by rw [e]; exact True.intro) hs ⟨q, hq⟩ ⟨hl, hd, _, (rel.put k eb rv).keeps fun c ys ec => ?_, q, es, ep, hq, h2, h3, h4, h5⟩
    rw [upd_ne (ne_of ec e (fun z => nomatch z))]
    exact ec
end

section
variable {X : Cx} {pins : List (Addr × Obj)} {σ : St} {H : Hp} {s : Shared} {a : Addr} {kvs : List (Key × V)} {k : Key} {u : Value} {A : Around} {E : Value → Shared → Prop}
end


/-! ### readings and rules -/
/-- the element of a subscription, not a slice -/
def NoSl (i : Expr) : Prop := ∀ ov iv, subscripted i false ov iv = operate [ov, iv] (getItem ov iv)
theorem subD_of {prog : Program} {w : World} {A : Around} {E : Value → Shared → Prop} {s : Shared} {env : Env} {value slice : Expr} {pos : Pos} {T id : String} {Q : Value → Shared → Prop}
    (hl : typeLookup (.type T) "__getitem__" = pure (some (.builtin id))) (hs : NoSl slice)
    (h : wpAny (model prog w) A (eval value env) (fun o s₁ => wpAny (model prog w) A (eval slice env) (fun i s₂ => s₂.TypeIs o T ∧ wpAny (model prog w) A (getItem o i) Q E s₂) E s₁) E s) :
    wpAny (model prog w) A (eval (.Subscript value slice pos) env) Q E s := by
  refine Subscript_ (wpAny_mono h (fun o s₁ h₁ => wpAny_mono h₁ (fun i s₂ h₂ => ?_) fun _ _ x => x) fun _ _ x => x)
  obtain ⟨hT, h₂⟩ := h₂
  unfold subscriptTail
  refine wpAny_bind ?_
  rw [getitemInPython_of_ne hT.not_modules]
  refine wpAny_bind (wpAny_specialOf hT hl ?_)
  have fin : wpAny (model prog w) A (subscripted slice false o i) (fun r s₃ => wpAny (model prog w) A (letTemporaryGo value o r >>= fun _ => pure r) Q E s₃) E s₂ := by
    rw [hs o i]
    exact wpAny_operating (wpAny_mono h₂ (fun r s₃ h₃ => wpAny_bind (wpAny_letTemporaryGo (wpAny_pure h₃))) fun _ _ x => x)
  first
    | exact wpAny_pure (wpAny_bind fin)
    | exact wpAny_bind (wpAny_pure (wpAny_bind fin))
    | exact wpAny_bind fin

theorem dict_typeIs {X : Cx} {pins : List (Addr × Obj)} {σ : St} {H : Hp} {s : Shared} {a : Addr} {y : V} {o : Option V} (I : Inv X pins σ H s) (g : DGet H a y o) : s.TypeIs (.ref a) "dict" := by
  rcases g with ⟨kvs, k, e, _, _⟩ | ⟨kvs, k, b, e, _, _, _⟩
  · obtain ⟨_, _, vs, _, dd⟩ := dk_rd I.hok e
    exact dd.typeIs
  · obtain ⟨_, _, xs, _, dd⟩ := dt_rd I.hok I.stat e
    exact dd.typeIs
/-- d[y] -/
def tDGet (td ty : TE) : TE := fun σ H Q => td σ H fun x H1 => ty σ H1 fun y H2 => ∃ a v, x = .ref a ∧ DGet H2 a y (some v) ∧ Q v H2
/-- y in d, y not in d -/
def tDIn (ty td : TE) : TE := fun σ H Q => ty σ H fun y H1 => td σ H1 fun x H2 => ∃ a o, x = .ref a ∧ DGet H2 a y o ∧ Q (.bl o.isSome) H2
def tDNotIn (ty td : TE) : TE := fun σ H Q => ty σ H fun y H1 => td σ H1 fun x H2 => ∃ a o, x = .ref a ∧ DGet H2 a y o ∧ Q (.bl (!o.isSome)) H2
/-- d[y] = v -/
def sDPut (td ty tv : TE) : TS := fun D σ H => tv σ H fun v H1 => td σ H1 fun x H2 => ty σ H2 fun y H3 => ∃ a H4, x = .ref a ∧ DPut H3 a y v H4 ∧ D.nx σ H4
/-- d[y] op= v -/
def sDAug (td ty tv : TE) (rd : V → V → Hp → VK → Prop) : TS := fun D σ H => td σ H fun x H1 => ty σ H1 fun y H2 => ∃ a v, x = .ref a ∧ DGet H2 a y (some v) ∧
  tv σ H2 fun y2 H3 => rd v y2 H3 fun z H4 => ∃ H5, DPut H4 a y z H5 ∧ D.nx σ H5
/-- del d[y] -/
def sDDel (td ty : TE) : TS := fun D σ H => td σ H fun x H1 => ty σ H1 fun y H2 => ∃ a kvs k, x = .ref a ∧ H2 a = some (.dK kvs) ∧ y = kV k ∧ (valV kvs k).isSome = true ∧ D.nx σ (upd H2 a (.dK (dropK kvs k)))

section
variable {X : Cx} {o i e value : Expr} {pos pos' tpos : Pos} {td ty tv : TE}
theorem pe_dget (hu : X.A.units + 1 < cLine) (ho : PE X o td) (hi : PE X i ty) (hs : NoSl i) : PE X (.Subscript o i pos) (tDGet td ty) := by
  intro pins s σ H Q I h
  refine subD_of PySem.F.slot_dict_getitem.lookup hs (thn (ho pins s σ H _ I h) fun u s1 ⟨x, H1, I1, rx, q1⟩ => thn (hi pins s1 σ H1 _ I1 q1) fun iv s2 ⟨y, H2, I2, ry, a, v, ex, g, q2⟩ => ?_)
  subst ex
  obtain rfl : u = Value.ref a := rx
  exact ⟨dict_typeIs I2 g, d_getItem hu I2 g ry fun w' s3 I3 rw' => ⟨v, H2, I3, rw', q2⟩⟩
theorem pc_din (hu : X.A.units + 1 < cLine) (hi : PE X i ty) (ho : PE X o td) : PC X .In i o (tDIn ty td) := by
  intro pins s σ H Q I h
  refine thn (hi pins s σ H _ I h) fun iv s1 ⟨y, H1, I1, ry, q1⟩ => thn (ho pins s1 σ H1 _ I1 q1) fun u s2 ⟨x, H2, I2, rx, a, ov, ex, g, q2⟩ => ?_
  subst ex
  obtain rfl : u = Value.ref a := rx
  exact d_in hu I2 g ry fun s3 I3 => ⟨.bl ov.isSome, H2, I3, rfl, q2⟩
theorem pc_dnotin (hu : X.A.units + 1 < cLine) (hi : PE X i ty) (ho : PE X o td) : PC X .NotIn i o (tDNotIn ty td) := by
  intro pins s σ H Q I h
  refine thn (hi pins s σ H _ I h) fun iv s1 ⟨y, H1, I1, ry, q1⟩ => thn (ho pins s1 σ H1 _ I1 q1) fun u s2 ⟨x, H2, I2, rx, a, ov, ex, g, q2⟩ => ?_
  subst ex
  obtain rfl : u = Value.ref a := rx
  exact d_notIn hu I2 g ry fun s3 I3 => ⟨.bl (!ov.isSome), H2, I3, rfl, q2⟩
theorem ps_dput (hu : X.A.units + 1 < cLine) (ho : PE X o td) (hi : PE X i ty) (hv : PE X value tv) (hs : swapsWith value (some (.Subscript o i pos')) pos.line X.env = pure false) :
    PS X (.Assign [.Subscript o i pos'] value pos) (sDPut td ty tv) := by
  intro pins s σ H D I h
  refine wpAny_Assign_Subscript (thn (hv pins s σ H _ I h) fun r s1 ⟨v, H1, I1, rv, q1⟩ => thn (ho pins s1 σ H1 _ I1 q1) fun u s2 ⟨x, H2, I2, rx, q2⟩ => thn (hi pins s2 σ H2 _ I2 q2) fun iv s3 ⟨y, H3, I3, ry, a, H4, ex, g, q3⟩ => ?_) hs
  subst ex
  obtain rfl : u = Value.ref a := rx
  exact d_setItem hu I3 g ry rv fun s4 I4 => ⟨σ, H4, I4, q3⟩
theorem ps_daug {op : Operator} {rd : V → V → Hp → VK → Prop} (hu : X.A.units + 1 < cLine) (ho : PE X o td) (hi : PE X i ty) (hv : PE X value tv) (hop : InOp X op rd)
    (ha : ∀ ov iv new, augStore i ov iv new = (do holding [new, ov, iv] (setItem ov iv new); release [new, ov, iv] []; pure .next)) : PS X (.AugAssign (.Subscript o i tpos) op value pos) (sDAug td ty tv rd) := by
  intro pins s σ H D I h
  refine wpAny_AugAssign_SubscriptAny (thn (ho pins s σ H _ I h) fun u s1 ⟨x, H1, I1, rx, q1⟩ => thn (hi pins s1 σ H1 _ I1 q1) fun iv s2 ⟨y, H2, I2, ry, a, v, ex, g, q2⟩ => ?_) ha
  subst ex
  obtain rfl : u = Value.ref a := rx
  refine d_getItem hu I2 g ry fun w' s3 I3 rw' => thn (hv pins s3 σ H2 _ I3 q2) fun w2 s4 ⟨y2, H3, I4, ry2, q3⟩ => thn (hop pins s4 σ H3 v y2 w' w2 _ I4 rw' ry2 q3) fun w3 s5 ⟨z, H4, I5, rz, H5, g5, q4⟩ => ?_
  exact d_setItem hu I5 g5 ry rz fun s6 I6 => ⟨σ, H5, I6, q4⟩
end


/-! ### displays -/
theorem dt_empty {P : Program} {w : World} {H : Hp} (h : Heap) (hb : sysModules < h.objs.size) : ObjOk P w H (h.push { cls := .type "dict", data := .dict #[] }) h.objs.size (.dT []) :=
  ⟨Nat.zero_le _, beq_eq_false_iff_ne.mpr (Ne.symm (Nat.ne_of_lt hb)), [], .nil, _, #[], 0, Heap.get?_push_size _ rfl, ⟨rfl, rfl, rfl⟩, rfl, rfl, List.nodup_nil⟩
/-- {}, to be a dict of the kind that is wanted -/
def tDNewK : TE := fun _ H Q => ∀ p, H p = none → Q (.ref p) (upd H p (.dK []))
def tDNewT : TE := fun _ H Q => ∀ p, H p = none → Q (.ref p) (upd H p (.dT []))
section
variable {X : Cx} {pos : Pos}
theorem pe_dnewT : PE X (.Dict [] [] pos) tDNewT := fun pins s σ H Q I h =>
  wpAny_Dict_empty ⟨.ref s.heap.objs.size, _, I.laid (a := s.heap.objs.size) (o := .dT []) (t' := s.toks) (fun _ _ q => Heap.get?_push_of_some _ q) (Nat.le_refl _) (dt_empty s.heap I.big), rfl, h _ (I.hok.fresh (Nat.le_refl _))⟩
end

/-- the pairs of a display, from the left -/
def tPairs : List (TE × TE) → St → Hp → (List (V × V) → Hp → Prop) → Prop
  | [], _, H, Q => Q [] H
  | (tk, tv) :: r, σ, H, Q => tk σ H fun x H1 => tv σ H1 fun y H2 => tPairs r σ H2 fun ps H3 => Q ((x, y) :: ps) H3
abbrev VV : List (V × V) → List (Value × Value) → Prop := Paired fun p q => RelV p.1 q.1 ∧ RelV p.2 q.2
def PPs (X : Cx) (pos : Pos) (keys : List (Option Expr)) (values : List Expr) (trs : List (TE × TE)) : Prop :=
  ∀ (pins : List (Addr × Obj)) (s : Shared) (σ : St) (H : Hp) (Q : List (V × V) → Hp → Prop), Inv X pins σ H s → tPairs trs σ H Q →
    wpAny (model X.prog X.w) X.A (evalPairs (pairTrees keys values X.env pos)) (fun vs s' => ∃ ps H', Inv X pins σ H' s' ∧ VV ps vs ∧ Q ps H') X.xe s
def mergeK (kvs more : List (Key × V)) : List (Key × V) := more.foldl (fun acc kv => putK acc kv.1 kv.2) kvs
/-- {k: v, ..} with keys ints and texts; the new dict stands empty while the pairs are made -/
def tDisp (trs : List (TE × TE)) : TE := fun σ H Q => ∀ p, H p = none → tPairs trs σ (upd H p (.dK [])) fun ps H2 => H2 p = some (.dK []) ∧ ∃ kvs : List (Key × V), ps = kvs.map (fun kv => (kV kv.1, kv.2)) ∧ kvs.length ≤ 15 ∧ Q (.ref p) (upd H2 p (.dK (mergeK [] kvs)))
/-! ### methods -/
/-- a method call o.m(e) of a built-in, with one argument: what must be seen of the text -/
structure M1 (X : Cx) (o : Expr) (m : Str) (apos : Pos) (e : Expr) (cpos : Pos) : Prop where
  base : attributeBase o m X.env (eval o X.env) = eval o X.env
  few : ((backTo cpos (starEach [e] X.env)).all (fun x => !x.1) && (backToKw cpos (keywordEach [] X.env)).all (fun x => x.1.isSome)
    && decide (([e] : List Expr).length + ([] : List Keyword).length + (if ([] : List Keyword).isEmpty then 0 else 1) < 30)) = true
  line : (apos.endLine == cpos.line) = true
  trees : backTo cpos (starEach [e] X.env) = [(false, eval e X.env)]
structure M2 (X : Cx) (o : Expr) (m : Str) (apos : Pos) (e f : Expr) (cpos : Pos) : Prop where
  base : attributeBase o m X.env (eval o X.env) = eval o X.env
  few : ((backTo cpos (starEach [e, f] X.env)).all (fun x => !x.1) && (backToKw cpos (keywordEach [] X.env)).all (fun x => x.1.isSome)
    && decide (([e, f] : List Expr).length + ([] : List Keyword).length + (if ([] : List Keyword).isEmpty then 0 else 1) < 30)) = true
  line : (apos.endLine == cpos.line) = true
  trees : backTo cpos (starEach [e, f] X.env) = [(false, eval e X.env), (false, eval f X.env)]

/-- a is a dict, whatever its keys -/
def IsD (H : Hp) (a : Addr) : Prop := (∃ kvs, Rd H a (.dK kvs)) ∨ ∃ kvs, Rd H a (.dT kvs)
theorem isD_at {X : Cx} {pins : List (Addr × Obj)} {σ : St} {H : Hp} {s : Shared} {a : Addr} (I : Inv X pins σ H s) (d : IsD H a) :
    s.TypeIs (.ref a) "dict" ∧ (∀ b, Value.ref a = .ref b → ∃ ob, s.heap.get? b = some ob ∧ ob.dict = none) ∧ (a == sysModules) = false := by
  rcases d with ⟨kvs, e⟩ | ⟨kvs, e⟩
  · obtain ⟨_, hd, vs, _, dd⟩ := dk_rd I.hok e
    refine ⟨dd.typeIs, fun b q => ?_, hd⟩
    cases q
    obtain ⟨ob, _, _, h1, h2, _⟩ := dd
    exact ⟨ob, h1, h2.2.1⟩
  · obtain ⟨_, hd, xs, _, dd⟩ := dt_rd I.hok I.stat e
    refine ⟨dd.typeIs, fun b q => ?_, hd⟩
    cases q
    obtain ⟨ob, _, _, h1, h2, _⟩ := dd
    exact ⟨ob, h1, h2.2.1⟩

section
variable {X : Cx} {pins : List (Addr × Obj)} {σ : St} {H : Hp} {s : Shared} {a : Addr} {y d : V} {u r : Value} {o : Option V} {A : Around} {E : Value → Shared → Prop}
/-- d.get(y, x) -/
theorem d_get2 {Q : Value → Shared → Prop} (hu : A.units + 1 < cLine) (I : Inv X pins σ H s) (g : DGet H a y o) (ry : RelV y u) (rd : RelV d r) (h : ∀ w' s', Inv X pins σ H s' → RelV (o.getD d) w' → Q w' s') :
    wpAny (model X.prog X.w) A (call (.builtin "dict.get") [.ref a, u, r]) Q E s := by
  rcases g with ⟨kvs, k, e, ey, l⟩ | ⟨kvs, k, b, e, ey, eb, l⟩
  · subst ey
    obtain ⟨z, hd, vs, rel, dd⟩ := dk_rd I.hok e
    refine call_meetsIn PySem.F.slot_dict_get dd.typeIs PySem.F.entry_dict_get (PySem.F.args_dict_get_3 _ _ _) (meets_dict_get_default (mixKind X.prog X.w) a (kV_is ry) hd r) ⟨_, dd.mapOf, h _ _ (I.tok _) ?_⟩
    rw [l]
    exact (rel.val k).getD rd
  · subst ey
    cases (show u = Value.ref b from ry)
    obtain ⟨z, hd, xs, rel, dd⟩ := dt_rd I.hok I.stat e
    refine call_meetsIn PySem.F.slot_dict_get dd.typeIs PySem.F.entry_dict_get (PySem.F.args_dict_get_3 _ _ _) (meetsH_dict_get_default (tupleKind (mixKind X.prog X.w)) a b hd r) ⟨tupleKind_room_in1 hu, k, xs, key_of I.hok I.stat eb, dd, h _ _ (I.tok _) ?_⟩
    rw [l]
    exact (rel.val k).getD rd
end

def tDGet1 (td ty : TE) : TE := fun σ H Q => td σ H fun x H1 => ∃ a, x = .ref a ∧ IsD H1 a ∧ ty σ H1 fun y H2 => ∃ o, DGet H2 a y o ∧ Q (o.getD .non) H2
def tDGet2 (td ty tx : TE) : TE := fun σ H Q => td σ H fun x H1 => ∃ a, x = .ref a ∧ IsD H1 a ∧ ty σ H1 fun y H2 => tx σ H2 fun z H3 => ∃ o, DGet H3 a y o ∧ Q (o.getD z) H3
/-- d.pop(k): there; d.pop(k, x): there or not -/
def tDPop1 (td ty : TE) : TE := fun σ H Q => td σ H fun x H1 => ∃ a, x = .ref a ∧ IsD H1 a ∧ ty σ H1 fun y H2 => ∃ kvs k v, H2 a = some (.dK kvs) ∧ y = kV k ∧ valV kvs k = some v ∧ Q v (upd H2 a (.dK (dropK kvs k)))
def tDPop2 (td ty tx : TE) : TE := fun σ H Q => td σ H fun x H1 => ∃ a, x = .ref a ∧ IsD H1 a ∧ ty σ H1 fun y H2 => tx σ H2 fun z H3 => ∃ kvs k, H3 a = some (.dK kvs) ∧ y = kV k ∧
  (∀ v, valV kvs k = some v → Q v (upd H3 a (.dK (dropK kvs k)))) ∧ (valV kvs k = none → Q z H3)
section
variable {X : Cx} {o e f : Expr} {apos cpos : Pos} {td ty tx : TE}
theorem pe_dget2 (hu : X.A.units + 1 < cLine) (ho : PE X o td) (he : PE X e ty) (hf : PE X f tx) (m : M2 X o "get" apos e f cpos) : PE X (.Call (.Attribute o "get" apos) [e, f] [] cpos) (tDGet2 td ty tx) := by
  intro pins s σ H Q I h
  refine wpAny_Call_method m.base m.few m.line PySem.F.plainAttrs_dict PySem.F.slot_dict_get PySem.F.type_dict_get (thn (ho pins s σ H _ I h) fun u s1 ⟨x, H1, I1, rx, a, ex, d, q1⟩ => ?_)
  subst ex
  obtain rfl : u = Value.ref a := rx
  obtain ⟨t1, t2, _⟩ := isD_at I1 d
  refine ⟨t1, t2, ?_⟩
  rw [m.trees]
  refine Calls.callWith_builtin rfl (Calls.evalArgs_plain (Calls.spliced_cons (thn (he pins s1 σ H1 _ I1 q1) fun iv s2 ⟨y, H2, I2, ry, q2⟩ =>
    Calls.spliced_cons (thn (hf pins s2 σ H2 _ I2 q2) fun fv s3 ⟨z, H3, I3, rz, ov, g, q3⟩ => Calls.spliced_nil ?_))))
  exact d_get2 hu I3 g ry rz fun w' s4 I4 rw' => ⟨_, H3, I4, rw', q3⟩
end

/-! ### dict(d): a copy -/
section
variable {X : Cx} {pins : List (Addr × Obj)} {σ : St} {H : Hp} {s : Shared} {a : Addr} {kvs : List (Key × V)} {A : Around} {E : Value → Shared → Prop}
end


section
variable {X : Cx} {pins : List (Addr × Obj)} {σ : St} {H : Hp} {s : Shared} {a : Addr} {y : V} {u : Value} {A : Around} {E : Value → Shared → Prop}
end
end L2

namespace L2
open PySem PySem.Spec PyProof.Rows

section
variable {prog : Program} {w : World} {A : Around} {E : Value → Shared → Prop}
end

section
variable {X : Cx}
end
end L2

namespace L2
open PySem PySem.Spec PyProof.Rows

theorem boot_reversed5 : bootBuiltins "reversed" = some (.type "reversed") := by decide +kernel

section
variable {X : Cx} {pins : List (Addr × Obj)} {σ : St} {H : Hp} {s : Shared} {h' : Heap}
/-! ### locking a thing while a statement runs -/
theorem Inv.lock {d : Addr} {u : HO} (I : Inv X pins σ H s) (h : H d = some u) (mu : Mut (some u)) : ∃ od, Inv X pins σ (upd H d (.frz od u)) s := by
  have x := I.hok d u h
  have ex : ∃ od, s.heap.get? d = some od := by
    cases u with
    | lst xs => obtain ⟨_, _, _, _, e⟩ := x; exact ⟨_, e⟩
    | dK kvs => obtain ⟨_, _, _, _, o, _, _, e, _⟩ := x; exact ⟨o, e⟩
    | dT kvs => obtain ⟨_, _, _, _, o, _, _, e, _⟩ := x; exact ⟨o, e⟩
    | set S n => obtain ⟨o, _, _, _, e, _⟩ := x; exact ⟨o, e⟩
    | ins C dx fs => obtain ⟨_, _, _, e, _⟩ := x; exact ⟨_, e⟩
    | ext φ => obtain ⟨_, ⟨_, e⟩, _⟩ := x; exact ⟨_, e⟩
    | _ => exact False.elim mu
  obtain ⟨od, e⟩ := ex
  have new : ObjOk X.prog X.w (upd H d (.frz od u)) s.heap d (.frz od u) := by
    refine ⟨e, x.stay (fun b v _ q => q) (fun b q => ?_) fun b xs q => ?_⟩
    · rw [upd_ne (fun z => by rw [z, h] at q; cases q; exact mu)]; exact q
    · rw [upd_ne (fun z => by rw [z, h] at q; cases q; exact mu)]; exact q
  exact ⟨od, I.write (x := d) (e := d) (t' := s.toks) (h' := s.heap) (by rw [h]; exact mu) (.inl rfl) (fun b v _ q => q) ⟨od, e⟩ new⟩
theorem Inv.nofrz {d : Addr} {u : HO} (I : Inv X pins σ H s) (h : H d = some u) (mu : Mut (some u)) : ∀ o' u', X.H_0 d ≠ some (.frz o' u') := fun o' u' e => by
  have q := I.base.frzs d o' u' e
  rw [h] at q
  cases q
  exact mu
theorem Inv.unlock {d : Addr} {od : Obj} {u : HO} (I : Inv X pins σ H s) (h : H d = some (.frz od u)) (hn : ∀ o' u', X.H_0 d ≠ some (.frz o' u')) : Inv X pins σ (upd H d u) s := by
  have neH : ∀ b o, H b = some o → (∀ o' u', o ≠ .frz o' u') → b ≠ d := fun b o e hne z => by
    rw [z, h] at e
    cases e
    exact hne _ _ rfl
  have neN : ∀ b, H b = none → b ≠ d := fun b e z => by rw [z, h] at e; cases e
  refine ⟨I.ok, I.os, I.bare, ⟨I.base.keep, I.base.slot, fun b o e n hx => ?_, I.base.there, fun b xs e => ?_, fun b o x e => ?_, fun b ps e => ?_⟩, I.loc, I.cell, ?_, fun x c e => ?_, fun p hp => ?_, fun b o e => ?_, I.len⟩
  · rw [upd_ne (neN b (I.base.free b o e n hx))]; exact I.base.free b o e n hx
  · have q := I.base.tups b xs e
    rw [upd_ne (neH b _ q (fun _ _ z => nomatch z))]; exact q
  · have q := I.base.frzs b o x e
    rw [upd_ne (fun z => by rw [z] at e; exact hn _ _ e)]; exact q
  · obtain ⟨m, q⟩ := I.base.tbls b ps e
    exact ⟨m, by rw [upd_ne (neH b _ q (fun _ _ z => nomatch z))]; exact q⟩
  · rw [upd_ne (neN _ I.free)]; exact I.free
  · rw [upd_ne (neN c (I.freeC x c e))]; exact I.freeC x c e
  · obtain ⟨e, n, r⟩ := I.pin p hp
    exact ⟨e, by rw [upd_ne (neN _ n)]; exact n, r⟩
  · by_cases hb : b = d
    · rw [hb, upd_same] at e
      cases e
      rw [hb]
      obtain ⟨_, x⟩ := I.hok d _ h
      exact x.stay (fun c v _ q => q) (fun c q => by rw [upd_ne (neH c _ q (fun _ _ z => nomatch z))]; exact q) fun c xs q => by rw [upd_ne (neH c _ q (fun _ _ z => nomatch z))]; exact q
    · rw [upd_ne hb] at e
      exact (I.hok b o e).stay (fun c v _ q => q) (fun c q => by rw [upd_ne (neH c _ q (fun _ _ z => nomatch z))]; exact q) fun c xs q => by rw [upd_ne (neH c _ q (fun _ _ z => nomatch z))]; exact q
end
/-- the statement runs while the thing at d is locked (read, not written); d and what stands there are the reading's choice -/
def tLock (t : TS) : TS := fun D σ H => ∃ d u, H d = some u ∧ Mut (some u) ∧ ∀ od, t ⟨fun σ' H' => H' d = some (.frz od u) ∧ D.nx σ' (upd H' d u), fun v H' => H' d = some (.frz od u) ∧ D.rt v (upd H' d u), fun σ' H' => H' d = some (.frz od u) ∧ D.bk σ' (upd H' d u), fun σ' H' => H' d = some (.frz od u) ∧ D.ct σ' (upd H' d u)⟩ σ (upd H d (.frz od u))
def tLockE (t : TE) : TE := fun σ H Q => ∃ d u, H d = some u ∧ Mut (some u) ∧ ∀ od, t σ (upd H d (.frz od u)) fun v H' => H' d = some (.frz od u) ∧ Q v (upd H' d u)
section
variable {X : Cx}
theorem pe_lock {e : Expr} {t : TE} (h : PE X e t) : PE X e (tLockE t) := by
  intro pins s σ H Q I hw
  obtain ⟨d, u, hd, mu, hw⟩ := hw
  obtain ⟨od, I1⟩ := I.lock hd mu
  refine thn (h pins s σ _ _ I1 (hw od)) fun v s1 ⟨x, H1, I2, r, e2, q⟩ => ?_
  exact ⟨x, _, I2.unlock e2 (I.nofrz hd mu), r, q⟩

/-! ### one iterator just laid -/
theorem pi_one {tg : Expr} {pins : List (Addr × Obj)} {σ : St} {H : Hp} {s : Shared} {R : It → Hp → Prop} {J : It} {tn : Nat → Heap → Prop} {tk : Nat} (I : Inv X pins σ H s) (o : Obj)
    (T : Turn X.prog X.w X.K tg J [s.heap.objs.size] s.heap.objs.size tn) (st : tn 0 (s.heap.push o)) (q : R J H) : PIE X pins σ tg R (.ref s.heap.objs.size) { s with heap := s.heap.push o, toks := tk } := by
  refine ⟨s.heap.objs.size, [s.heap.objs.size], tn, J, H, rfl, I.kept fun b ob e => Heap.get?_push_of_some _ e, T, st, fun b hb => ?_, q⟩
  have e : b = s.heap.objs.size := by simpa using hb
  subst e
  exact I.fpOk (Nat.le_refl _) (I.hok.fresh (Nat.le_refl _))
end

/-! ### range with a step -/
/-- lo, lo + c, .. (n of them) -/
def Itc (lo c : Int) (n : Nat) : It := ⟨fun i _ => i < n, fun i H x H' => H' = H ∧ x = .int (lo + (i : Nat) * c), fun i _ => n ≤ i⟩
/-- range(i, j, c): small bounds, n items -/
def RgC (i j c : Int) (n : Nat) : Prop := c ≠ 0 ∧ c.natAbs < 1073741824 ∧ Builtin.Range.small i j c = true ∧ Builtin.Range.rangeSize i j c = n
def iRng3 (ta : TA) : TI := fun σ H R => ta σ H fun vs H1 => ∃ (i j c : Int) (n : Nat), vs = [.int i, .int j, .int c] ∧ RgC i j c n ∧ R (Itc i c n) H1
section
variable {X : Cx} {tg : Expr}
end
/-! ### reversed(list) -/
/-- the list at a (n items at the start, which the loop leaves there), from its end -/
def Itv (K : PySem.W.Frag) (a : Addr) (n : Nat) : It :=
  ⟨fun i H => i < n ∧ ∃ (xs : List V) (x : V), SqL K H a xs ∧ xs[n - 1 - i]? = some x, fun i H x H' => H' = H ∧ ∀ xs, SqL K H a xs → xs[n - 1 - i]? = some x, fun i _ => n ≤ i⟩
def iRev (K : PySem.W.Frag) (ta : TA) : TI := fun σ H R => ta σ H fun vs H1 => ∃ (a : Addr) (xs : List V), vs = [.ref a] ∧ SqL K H1 a xs ∧ R (Itv K a xs.length) H1
section
variable {X : Cx} {tg : Expr}
end

/-! ### a str -/
def Its (x : Str) : It := ⟨fun i _ => i < x.cps.size, fun i H v H' => H' = H ∧ ∃ c, x.cps[i]? = some c ∧ v = .str ⟨#[c]⟩, fun i _ => x.cps.size ≤ i⟩
def iStr (te : TE) : TI := fun σ H R => te σ H fun v H1 => ∃ x, v = .str x ∧ R (Its x) H1
/-! ### a dict's keys: any dict's entries -/
section
variable {prog : Program} {w : World} {A : Around} {E : Value → Shared → Prop} {s : Shared}
theorem iter_keys {d : Addr} {o : Obj} {es : Array DictEntry} {ep : Nat} {Q : Value → Shared → Prop} (hd : (d == sysModules) = false) (ho : s.heap.get? d = some o) (hc : o.ExactDict) (hdat : o.data = .dict es ep)
    (hQ : Q (.ref s.heap.objs.size) { s with heap := s.heap.push { cls := .type "dict_keyiterator", data := .fields #[.ref d, .int 0 0, .int es.size 0, .int ep 0] } }) :
    wpAny (model prog w) A (pyIter (.ref d)) Q E s := by
  have hT : s.TypeIs (.ref d) "dict" := ⟨o, ho, hc.1⟩
  refine wpAny_pyIter_slot hT F.slot_dict_iter (wpAny_call_entry F.slot_dict_iter hT F.entry_dict_iter ?_ (F.args_dict_iter_1 _))
  unfold Builtin.«dict.__iter__»
  refine wpAny_bind ?_
  unfold Builtin.Dict.dictSlotNone
  refine wpAny_bind (wpAny_notOrdered_dict hT ?_)
  show wpAny _ _ (pure (Value.ref d)) _ _ s
  refine wpAny_pure ?_
  show wpAny _ _ (Builtin.Dict.showsAll d >>= _) _ _ s
  unfold Builtin.Dict.showsAll
  rw [if_neg (by rw [hd]; exact Bool.false_ne_true)]
  refine wpAny_bind (wpAny_pure ?_)
  refine wpAny_bind (wpAny_dictEntries ho hdat ?_)
  refine wpAny_bind (wpAny_dictEpoch ho hdat ?_)
  refine wpAny_bind (wpAny_newObj_type (wpAny_pure ⟨_, rfl, "dict_keyiterator", _, ⟨_, Heap.get?_push_size _ rfl, rfl⟩, F.slot_dict_keyiterator_next.lookup, ?_⟩))
  simpa [rawInt] using hQ
theorem next_key_item {it d : Addr} {i n ep : Nat} {od : Obj} {es : Array DictEntry} {en : DictEntry} {Q : Option Value → Shared → Prop} (hit : s.heap.IsKeyIter it d i n ep) (hod : s.heap.get? d = some od) (hdd : od.data = .dict es ep)
    (hsz : es.size = n) (hx : es[i]? = some en) (hQ : ∀ h', h'.IsKeyIter it d (i + 1) n ep → Heap.SameBut it s.heap h' → Q (some en.key) { s with heap := h' }) : wpAny (model prog w) A (pyNext (.ref it)) Q E s := by
  obtain ⟨o, ho, hc, hd⟩ := id hit
  unfold pyNext
  refine wpAny_bind (wpAny_attempt (wpAny_callSpecial?_slot (name := Str.ofString "__next__") hit.typeIs F.slot_dict_keyiterator_next
    (wpAny_call_entry F.slot_dict_keyiterator_next hit.typeIs F.entry_dict_keyiterator_next ?_ (F.args_dict_keyiterator_next_1 _))))
  refine wpAny_bind (wpAny_pure ?_)
  refine wpAny_bind ?_
  refine wpAny_bind ?_
  first | refine wpAny_bind (wpAny_typeNameOfWhole_keyiter hit.typeIs (wpAny_pure ?_)) | refine wpAny_bind (wpAny_typeNameOf_keyiter hit.typeIs (wpAny_pure ?_))
  refine wpAny_bind (wpAny_fieldsOf ho hd ?_)
  have hown : Builtin.Dict_items.ownsTuple "dict_keyiterator" = false := by decide
  simp only [hown, Bool.false_eq_true, if_false]
  show wpAny _ _ (if (Value.ref d == Value.none) = true then _ else _) _ _ s
  rw [if_neg (show ¬ ((Value.ref d == Value.none) = true) from Bool.false_ne_true)]
  refine wpAny_bind (wpAny_pure ?_)
  refine wpAny_bind (wpAny_dictEntries hod hdd ?_)
  rw [if_neg (by rw [hsz]; simp)]
  refine wpAny_bind (wpAny_pure ?_)
  refine wpAny_bind (wpAny_dictEpoch hod hdd ?_)
  rw [if_neg (by simp)]
  refine wpAny_pure ?_
  obtain ⟨hlt', hen⟩ := Array.getElem?_eq_some_iff.mp hx
  simp only [show ¬ ((i : Int) < 0) from by omega, if_false, Int.toNat_natCast, Array.getElem?_eq_getElem hlt']
  refine wpAny_bind ?_
  first | refine wpAny_bind (wpAny_typeNameOfWhole_keyiter hit.typeIs (wpAny_pure ?_)) | refine wpAny_bind (wpAny_typeNameOf_keyiter hit.typeIs (wpAny_pure ?_))
  refine wpAny_bind (wpAny_isOneOf_keyiter hit.typeIs ?_)
  show wpAny _ _ (setField (.ref it) 1 (rawInt ((i : Int) + 1)) >>= _) _ _ s
  refine wpAny_bind (wpAny_setField ho hd (by simp) ?_)
  have hit' : (s.heap.update it (Obj.mapFields (·.setIfInBounds 1 (rawInt ((i : Int) + 1))))).IsKeyIter it d (i + 1) n ep :=
    ⟨_, Heap.get?_update_self _ ho (Obj.isFreed_of_fields (Obj.data_mapFields hd _)), (Obj.cls_mapFields ..).trans hc, by rw [Obj.data_mapFields hd]; simp [rawInt]⟩
  refine wpAny_bind (wpAny_holding ?_)
  refine wpAny_bind (wpAny_isOneOf_keyiter (s := { s with heap := s.heap.update it (Obj.mapFields (·.setIfInBounds 1 (rawInt ((i : Int) + 1)))) }) hit'.typeIs ?_)
  show wpAny _ _ (pure es[i].key) _ _ _
  rw [hen]
  exact wpAny_pure (wpAny_pure ⟨_, rfl, wpAny_pure (hQ _ hit' (Heap.SameBut.update ..))⟩)
theorem next_key_end {it d : Addr} {i n ep : Nat} {od : Obj} {es : Array DictEntry} {Q : Option Value → Shared → Prop} (hh : A.handled = none) (hit : s.heap.IsKeyIter it d i n ep) (hod : s.heap.get? d = some od) (hdd : od.data = .dict es ep)
    (hsz : es.size = n) (hge : n ≤ i) (hQ : ∀ h', Heap.ExtBut it s.heap h' → Q none { s with heap := h' }) : wpAny (model prog w) A (pyNext (.ref it)) Q E s := by
  obtain ⟨o, ho, hc, hd⟩ := id hit
  unfold pyNext
  refine wpAny_bind (wpAny_attempt (wpAny_callSpecial?_slot (name := Str.ofString "__next__") hit.typeIs F.slot_dict_keyiterator_next
    (wpAny_call_entry F.slot_dict_keyiterator_next hit.typeIs F.entry_dict_keyiterator_next ?_ (F.args_dict_keyiterator_next_1 _))))
  refine wpAny_bind (wpAny_pure ?_)
  refine wpAny_bind ?_
  refine wpAny_bind ?_
  first | refine wpAny_bind (wpAny_typeNameOfWhole_keyiter hit.typeIs (wpAny_pure ?_)) | refine wpAny_bind (wpAny_typeNameOf_keyiter hit.typeIs (wpAny_pure ?_))
  refine wpAny_bind (wpAny_fieldsOf ho hd ?_)
  have hown : Builtin.Dict_items.ownsTuple "dict_keyiterator" = false := by decide
  simp only [hown, Bool.false_eq_true, if_false]
  show wpAny _ _ (if (Value.ref d == Value.none) = true then _ else _) _ _ s
  rw [if_neg (show ¬ ((Value.ref d == Value.none) = true) from Bool.false_ne_true)]
  refine wpAny_bind (wpAny_pure ?_)
  refine wpAny_bind (wpAny_dictEntries hod hdd ?_)
  rw [if_neg (by rw [hsz]; simp)]
  refine wpAny_bind (wpAny_pure ?_)
  refine wpAny_bind (wpAny_dictEpoch hod hdd ?_)
  rw [if_neg (by simp)]
  refine wpAny_pure ?_
  have hge' : es.size ≤ i := by rw [hsz]; exact hge
  simp only [show ¬ ((i : Int) < 0) from by omega, if_false, Int.toNat_natCast, Array.getElem?_eq_none hge']
  refine wpAny_bind ?_
  first | refine wpAny_bind (wpAny_typeNameOfWhole_keyiter hit.typeIs (wpAny_pure ?_)) | refine wpAny_bind (wpAny_typeNameOf_keyiter hit.typeIs (wpAny_pure ?_))
  show wpAny _ _ (setField (.ref it) 0 .none >>= _) _ _ s
  refine wpAny_bind (wpAny_setField ho hd (by simp) ?_)
  show wpAny _ _ (newExc (.type "StopIteration") [] >>= _) _ _ _
  refine wpAny_bind ?_
  simp only [newExc, newTuple]
  refine wpAny_bind (wpAny_newObj_type ?_ (by size_fits))
  refine wpAny_bind (m := firstArgMember _ _) (wpAny_of_eq (a := Value.none) (by first | rfl | (simp only [firstArgMember]; rfl)) ?_)
  refine wpAny_newObj_type ?_ (by size_fits)
  simp only [raiseNew]
  refine wpAny_bind (wpAny_handled ?_)
  rw [show A.in1.handled = none from hh]
  refine wpAny_bind (wpAny_pure (wpAny_throw ?_))
  refine wpAny_bind (wpAny_isInstance (T := "StopIteration") (b := true) ⟨_, Heap.get?_push_size _ rfl, rfl⟩ isSubtype_stop ?_)
  exact wpAny_pure (hQ _ (((Heap.SameBut.update ..).extBut.push _).push _))
end

/-! ### a locked dict -/
theorem kv_get {κ : Type} {kvs : List (κ × V)} {vs : List (κ × Value)} (h : KV kvs vs) : ∀ {i : Nat} {k : κ} {v : V}, kvs[i]? = some (k, v) → ∃ u, vs[i]? = some (k, u) ∧ RelV v u := by
  unfold KV at h
  induction h with
  | nil => intro i k v e; simp at e
  | @cons a b l₁ l₂ r t ih =>
    intro i k v e
    cases i with
    | zero =>
      simp only [List.getElem?_cons_zero, Option.some.injEq] at e
      subst e
      refine ⟨b.2, ?_, r.2⟩
      simp only [List.getElem?_cons_zero]
      exact congrArg some (Prod.ext r.1.symm rfl)
    | succ j =>
      simp only [List.getElem?_cons_succ] at e ⊢
      exact ih e
theorem paired_get {α β : Type} {G : α → β → Prop} {l₁ : List α} {l₂ : List β} (h : Paired G l₁ l₂) : ∀ {i : Nat} {a : α}, l₁[i]? = some a → ∃ b, l₂[i]? = some b ∧ G a b := by
  induction h with
  | nil => intro i a e; simp at e
  | @cons a b l₁ l₂ r t ih =>
    intro i a' e
    cases i with
    | zero =>
      simp only [List.getElem?_cons_zero, Option.some.injEq] at e
      subst e
      exact ⟨b, rfl, r⟩
    | succ j =>
      simp only [List.getElem?_cons_succ] at e ⊢
      exact ih e
theorem relV_key {k : Key} {u : Value} (h : keyIs k u = true) : RelV (kV k) u := by
  rcases keyIs_shape h with ⟨i, t, rfl, rfl⟩ | ⟨x, t, rfl, rfl⟩
  · exact ⟨t, rfl⟩
  · exact ⟨t, rfl⟩
section
variable {X : Cx} {pins : List (Addr × Obj)} {σ : St} {H : Hp} {s : Shared} {d : Addr} {o : Obj}
theorem Inv.frzK {kvs : List (Key × V)} (I : Inv X pins σ H s) (h : H d = some (.frz o (.dK kvs))) :
    (d == sysModules) = false ∧ s.heap.get? d = some o ∧ o.ExactDict ∧ ∃ (es : Array DictEntry) (ep : Nat) (vs : List (Key × Value)), o.data = .dict es ep ∧ es.size = kvs.length ∧ KV kvs vs ∧ s.heap.DictAt (mixKind X.prog X.w) d vs ep := by
  obtain ⟨hd, z, hs, vs, kv, o', es, ep, ho, hx, hdt, r⟩ := I.hok d _ h
  rw [hd] at ho
  cases ho
  refine ⟨hs, hd, hx, es, ep, vs, hdt, ?_, kv, o, es, hd, hx, hdt, r⟩
  have l1 := r.2.1.length
  have l2 : kvs.length = vs.length := Paired.length kv
  rw [Array.length_toList] at l1
  omega
/-- the same for tuple keys -/
theorem Inv.frzT {kvs : List (List Key × V)} (I : Inv X pins σ H s) (h : H d = some (.frz o (.dT kvs))) :
    (d == sysModules) = false ∧ s.heap.get? d = some o ∧ o.ExactDict ∧ ∃ (es : Array DictEntry) (ep : Nat), o.data = .dict es ep ∧ es.size = kvs.length ∧
      ∀ (i : Nat) (k : List Key) (v : V), kvs[i]? = some (k, v) → ∃ (en : DictEntry) (q : Addr), es[i]? = some en ∧ en.key = .ref q ∧ KeyAt H q k := by
  obtain ⟨hd, z, hs, xs, pr, o', es, ep, ho, hx, hdt, he, _⟩ := I.hok d _ h
  rw [hd] at ho
  cases ho
  refine ⟨hs, hd, hx, es, ep, hdt, ?_, fun i k v e => ?_⟩
  · have l1 : es.size = xs.length := size_of_entries he
    have l2 : kvs.length = xs.length := Paired.length pr
    omega
  · obtain ⟨b, hb, e1, e2, _⟩ := paired_get pr e
    have q := entry_at he i
    rw [hb] at q
    exact ⟨_, b.2.1, q, rfl, e2⟩
end

/-- the keys of the locked dict at d, in their order -/
def Itk (d : Addr) (o : Obj) (kvs : List (Key × V)) : It :=
  ⟨fun i H => H d = some (.frz o (.dK kvs)) ∧ i < kvs.length, fun i H x H' => H' = H ∧ ∃ k v, kvs[i]? = some (k, v) ∧ x = kV k, fun i H => H d = some (.frz o (.dK kvs)) ∧ kvs.length ≤ i⟩
/-- .. of tuple keys: the key's own tuple -/
def Itkt (d : Addr) (o : Obj) (kvs : List (List Key × V)) : It :=
  ⟨fun i H => H d = some (.frz o (.dT kvs)) ∧ i < kvs.length, fun i H x H' => H' = H ∧ ∃ (k : List Key) (v : V) (q : Addr), kvs[i]? = some (k, v) ∧ x = .ref q ∧ KeyAt H q k, fun i H => H d = some (.frz o (.dT kvs)) ∧ kvs.length ≤ i⟩
/-- the values -/
def Itd (d : Addr) (o : Obj) (kvs : List (Key × V)) : It :=
  ⟨fun i H => H d = some (.frz o (.dK kvs)) ∧ i < kvs.length, fun i H x H' => H' = H ∧ ∃ k, kvs[i]? = some (k, x), fun i H => H d = some (.frz o (.dK kvs)) ∧ kvs.length ≤ i⟩
/-- the pairs, each a new tuple -/
def Iti (d : Addr) (o : Obj) (kvs : List (Key × V)) : It :=
  ⟨fun i H => H d = some (.frz o (.dK kvs)) ∧ i < kvs.length, fun i H x H' => ∃ T k v, kvs[i]? = some (k, v) ∧ x = .ref T ∧ H T = none ∧ H' = upd H T (.tup [kV k, v]), fun i H => H d = some (.frz o (.dK kvs)) ∧ kvs.length ≤ i⟩
theorem dict_ep {o : Obj} {es es' : Array DictEntry} {ep ep' : Nat} (h : o.data = .dict es ep) (h' : o.data = .dict es' ep') : es' = es ∧ ep' = ep := by
  rw [h] at h'
  cases h'
  exact ⟨rfl, rfl⟩
section
variable {P : Program} {w : World} {K : PySem.W.Frag} {tg : Expr} {d : Addr} {o : Obj} {es : Array DictEntry} {ep : Nat}
theorem turn_keys {kvs : List (Key × V)} (it : Addr) (hod : o.data = .dict es ep) : Turn P w K tg (Itk d o kvs) [it] it (fun i h => h.IsKeyIter it d i kvs.length ep) where
  mem := by simp
  obj := fun i h st b hb => by
    have e : b = it := by simpa using hb
    subst e
    obtain ⟨oi, e, c, dd⟩ := st
    exact ⟨oi, e, fun v z => by rw [dd] at z; cases z⟩
  keep := fun i h h' st k => st.at fun oi e => k it (by simp) oi e
  item := by
    intro X hP hw hK hc i pins s σ H E I hf st hg
    subst hP hw hK
    obtain ⟨hd, hi⟩ := hg
    obtain ⟨f0, f1, f2, f3, f4, f5⟩ := hf it (by simp)
    obtain ⟨hs, hgd, hx, es', ep', vs, hdt, hsz, kv, hm⟩ := I.frzK hd
    obtain ⟨rfl, rfl⟩ := dict_ep hod hdt
    obtain ⟨⟨k, v⟩, hkv⟩ : ∃ p, kvs[i]? = some p := ⟨kvs[i], List.getElem?_eq_getElem hi⟩
    obtain ⟨u, hu, ru⟩ := kv_get kv hkv
    have hl : kvs.length = vs.length := Paired.length kv
    rw [hl] at st
    refine wpAny_pyNext_dict_item st hm hu fun key h' hkey st' sb => ?_
    have I1 : Inv X pins σ H { s with heap := h' } := I.turned (t' := s.toks) (fun b ob hb e => (sb.2 b hb).trans e) f0 f1 f3 f4 f5
    obtain ⟨oi, e, c, dd⟩ := id st'
    refine ⟨key, rfl, go_of (s := { s with heap := h' }) e c dd (by decide) ⟨kV k, H, I1, relV_key (show keyIs k key = true from hkey), ⟨rfl, k, v, hkv, rfl⟩, ?_, fun b hb => (hf b hb).1⟩⟩
    show h'.IsKeyIter it d (i + 1) kvs.length _
    rw [hl]
    exact st'
  done := by
    intro X hP hw hK hc i pins s σ H E I hf st hg
    subst hP hw hK
    obtain ⟨hd, hi⟩ := hg
    obtain ⟨f0, f1, f2, f3, f4, f5⟩ := hf it (by simp)
    obtain ⟨hs, hgd, hx, es', ep', vs, hdt, hsz, kv, hm⟩ := I.frzK hd
    obtain ⟨rfl, rfl⟩ := dict_ep hod hdt
    exact next_key_end (I.ok.hd hc) st hgd hdt hsz hi fun h' eb => ⟨rfl, I.turned (t' := s.toks) (fun b ob hb e => eb b ob hb e) f0 f1 f3 f4 f5⟩
  self := fun A i s Q E st h => wpAny_pyIter_keyiter st h
theorem turn_keysT {kvs : List (List Key × V)} (it : Addr) (hod : o.data = .dict es ep) : Turn P w K tg (Itkt d o kvs) [it] it (fun i h => h.IsKeyIter it d i kvs.length ep) where
  mem := by simp
  obj := fun i h st b hb => by
    have e : b = it := by simpa using hb
    subst e
    obtain ⟨oi, e, c, dd⟩ := st
    exact ⟨oi, e, fun v z => by rw [dd] at z; cases z⟩
  keep := fun i h h' st k => st.at fun oi e => k it (by simp) oi e
  item := by
    intro X hP hw hK hc i pins s σ H E I hf st hg
    subst hP hw hK
    obtain ⟨hd, hi⟩ := hg
    obtain ⟨f0, f1, f2, f3, f4, f5⟩ := hf it (by simp)
    obtain ⟨hs, hgd, hx, es', ep', hdt, hsz, ent⟩ := I.frzT hd
    obtain ⟨rfl, rfl⟩ := dict_ep hod hdt
    obtain ⟨⟨k, v⟩, hkv⟩ : ∃ p, kvs[i]? = some p := ⟨kvs[i], List.getElem?_eq_getElem hi⟩
    obtain ⟨en, q, hen, hkey, hq⟩ := ent i k v hkv
    refine next_key_item st hgd hdt hsz hen fun h' st' sb => ?_
    have I1 : Inv X pins σ H { s with heap := h' } := I.turned (t' := s.toks) (fun b ob hb e => (sb.2 b hb).trans e) f0 f1 f3 f4 f5
    obtain ⟨oi, e, c, dd⟩ := id st'
    exact ⟨en.key, rfl, go_of (s := { s with heap := h' }) e c dd (by decide) ⟨.ref q, H, I1, hkey, ⟨rfl, k, v, q, hkv, rfl, hq⟩, st', fun b hb => (hf b hb).1⟩⟩
  done := by
    intro X hP hw hK hc i pins s σ H E I hf st hg
    subst hP hw hK
    obtain ⟨hd, hi⟩ := hg
    obtain ⟨f0, f1, f2, f3, f4, f5⟩ := hf it (by simp)
    obtain ⟨hs, hgd, hx, es', ep', hdt, hsz, ent⟩ := I.frzT hd
    obtain ⟨rfl, rfl⟩ := dict_ep hod hdt
    exact next_key_end (I.ok.hd hc) st hgd hdt hsz hi fun h' eb => ⟨rfl, I.turned (t' := s.toks) (fun b ob hb e => eb b ob hb e) f0 f1 f3 f4 f5⟩
  self := fun A i s Q E st h => by
    refine wpAny_pyIter_slot st.typeIs F.slot_dict_keyiterator_iter (wpAny_call_entry F.slot_dict_keyiterator_iter st.typeIs F.entry_dict_keyiterator_iter ?_ (F.args_dict_keyiterator_iter_1 _))
    show wpAny _ _ (ret (.ref it)) _ _ s
    exact wpAny_pure ⟨_, rfl, "dict_keyiterator", _, st.typeIs, F.slot_dict_keyiterator_next.lookup, h⟩
end

/-! ### for k in d, d.keys(), d.values(), d.items() -/
/-- the dict is locked (tLock, or by the caller) -/
def iKeys (td : TE) : TI := fun σ H R => td σ H fun x H1 => ∃ d o, x = .ref d ∧ ((∃ kvs, H1 d = some (.frz o (.dK kvs)) ∧ R (Itk d o kvs) H1) ∨ ∃ kvs, H1 d = some (.frz o (.dT kvs)) ∧ R (Itkt d o kvs) H1)
def iVals (td : TE) : TI := fun σ H R => td σ H fun x H1 => ∃ d o kvs, x = .ref d ∧ H1 d = some (.frz o (.dK kvs)) ∧ R (Itd d o kvs) H1
def iItems (td : TE) : TI := fun σ H R => td σ H fun x H1 => ∃ d o kvs, x = .ref d ∧ H1 d = some (.frz o (.dK kvs)) ∧ R (Iti d o kvs) H1
def iKeysM (td : TE) : TI := fun σ H R => td σ H fun x H1 => ∃ d o kvs, x = .ref d ∧ H1 d = some (.frz o (.dK kvs)) ∧ R (Itk d o kvs) H1
section
variable {X : Cx} {tg e : Expr} {td : TE} {apos cpos : Pos}
theorem pi_keys (he : PE X e td) : PI X tg e (iKeys td) := by
  intro pins s σ H R I h
  refine thn (he pins s σ H _ I h) fun u s1 ⟨x, H1, I1, rx, d, o, ex, q⟩ => ?_
  subst ex
  obtain rfl : u = Value.ref d := rx
  rcases q with ⟨kvs, hd, q⟩ | ⟨kvs, hd, q⟩
  · obtain ⟨hs, hgd, hx, es, ep, vs, hdt, hsz, kv, hm⟩ := I1.frzK hd
    refine iter_keys hs hgd hx hdt (pi_one (tk := s1.toks) I1 _ (turn_keys _ hdt) ⟨_, Heap.get?_push_size _ rfl, rfl, ?_⟩ q)
    rw [hsz] <;> rfl
  · obtain ⟨hs, hgd, hx, es, ep, hdt, hsz, ent⟩ := I1.frzT hd
    refine iter_keys hs hgd hx hdt (pi_one (tk := s1.toks) I1 _ (turn_keysT _ hdt) ⟨_, Heap.get?_push_size _ rfl, rfl, ?_⟩ q)
    rw [hsz] <;> rfl
end

/-! ### enumerate(list) -/
/-- the list at a as it stands at each turn, each item in a new pair -/
def Ite (K : PySem.W.Frag) (a : Addr) : It :=
  ⟨fun i H => ∃ (xs : List V) (x : V), SqL K H a xs ∧ xs[i]? = some x, fun i H v H' => ∃ T x, v = .ref T ∧ H T = none ∧ H' = upd H T (.tup [.int (i : Nat), x]) ∧ ∀ xs, SqL K H a xs → xs[i]? = some x, fun i H => ∃ xs : List V, SqL K H a xs ∧ xs.length ≤ i⟩
def iEnum (K : PySem.W.Frag) (ta : TA) : TI := fun σ H R => ta σ H fun vs H1 => ∃ a xs, vs = [.ref a] ∧ SqL K H1 a xs ∧ R (Ite K a) H1
/-! ### zip(list, list) -/
/-- the lists at a and b as they stand at each turn, the items in new pairs -/
def Itz (K : PySem.W.Frag) (a b : Addr) : It :=
  ⟨fun i H => ∃ (xs ys : List V) (x y : V), SqL K H a xs ∧ SqL K H b ys ∧ xs[i]? = some x ∧ ys[i]? = some y,
    fun i H v H' => ∃ T x y, v = .ref T ∧ H T = none ∧ H' = upd H T (.tup [x, y]) ∧ (∀ xs, SqL K H a xs → xs[i]? = some x) ∧ ∀ ys, SqL K H b ys → ys[i]? = some y,
    fun i H => ∃ xs ys : List V, SqL K H a xs ∧ SqL K H b ys ∧ (xs.length ≤ i ∨ ys.length ≤ i)⟩
def iZip (K : PySem.W.Frag) (ta : TA) : TI := fun σ H R => ta σ H fun vs H1 => ∃ a b xs ys, vs = [.ref a, .ref b] ∧ SqL K H1 a xs ∧ SqL K H1 b ys ∧ R (Itz K a b) H1
end L2

section 

end
section
set_option Elab.async false
set_option linter.all false
set_option maxRecDepth 100000
set_option maxHeartbeats 2000000
/-! SHORT WORDS over the layer: a def of the text, its body, what a loop and a test want. -/
namespace L2
open PySem PySem.Spec PyProof.Rows

/-! ### the text by places -/
/-- the j-th statement of a class's body -/
def inClass (s : Stmt) (j : Nat) : Stmt := match s with
  | .ClassDef _ _ _ body _ _ _ _ _ _ _ => body.getD j (.Pass ⟨0, 0, 0, 0⟩)
  | _ => .Pass ⟨0, 0, 0, 0⟩
def defArgs (s : Stmt) : Arguments := match s with
  | .FunctionDef _ a _ _ _ _ _ _ _ _ => a
  | _ => { posonlyargs := [], args := [], vararg := none, kwonlyargs := [], kw_defaults := [], kwarg := none, defaults := [] }
def defBody (s : Stmt) : List Stmt := match s with
  | .FunctionDef _ _ b _ _ _ _ _ _ _ => b
  | _ => []
def defScope (s : Stmt) : Scope := match s with
  | .FunctionDef _ _ _ _ _ _ sc _ _ _ => sc
  | _ => { kind := .function, names := [], isGenerator := false, isCoroutine := false }

/-! ### no exception leaves a def -/
abbrev CX0 : CXT := fun _ _ _ _ _ _ => False
abbrev E0 : XK := fun _ _ _ => False
theorem pass0 {X : Cx} : Passes CX0 X E0 := fun _ _ _ _ _ _ _ h => h.elim

/-! ### a def (or method) of the text as it stands behind the top -/
structure Fun (K : PySem.W.Frag) (x qual : Str) (st : Stmt) (f : Addr) (fd : FuncData) : Prop where
  ex : ∃ (oc : Value) (od : Option Addr) (kV doc pm : Value) (an : Option Addr) (cdv ct : Value) (osl : Array (Option Value)),
    fd = PySem.W.fnOf x qual (defArgs st) (defBody st) (defScope st) .none kV doc pm an cdv ct ∧ K.lookup f = some ⟨oc, od, .func fd, osl⟩ ∧ PySem.W.codeIn K cdv qual = true
  kp : PySem.W.keepIn K (.ref f) = true
section
variable {P : Program} {w : World} {K : PySem.W.Frag} {mg : Str → Option Value} {base : Heap}
/-- THE RULE for a def: its body as a term of rules, and the reading of that term -/
theorem Fun.ok {x qual : Str} {st : Stmt} {f : Addr} {fd : FuncData} {N ps : List Str} {k : Nat} {sp : Sp} (F : Fun K x qual st f fd) (S : FnScope N ps (defScope st)) (len : ∀ vs H Q E, sp vs H Q E → vs.length = ps.length)
    (hbody : ∀ (cdv : Value) (A : Around) (outer : List Env) (s : Shared) (H : Hp) (vs : List V) (Q : VK) (E : XK), Room k (A.deeper (envOfC qual (defScope st) s.heap.objs.size f cdv)) → sp vs H Q E →
      ∃ t, PSs (cxOf CX0 P w K mg base N qual (defScope st) f cdv A outer s H E).nox (defBody st) t ∧ t { nx := fun _ H' => Q .non H', rt := Q } (start N vs) H) : FnOk P w K mg base CX0 (k + 1) f fd ps sp := by
  obtain ⟨oc, od, kV, doc, pm, an, cdv, ct, osl, rfl, lk, hcd⟩ := F.ex
  refine fn_of lk hcd S len fun A outer s H vs Q E hr hsp => ?_
  obtain ⟨t, h, q⟩ := hbody cdv A outer s H vs Q E hr hsp
  exact ⟨t, h.nox, q⟩
/-- how its arguments bind (no defaults): h is «fun _ _ _ _ _ _ us hl => match us, hl with | [_, _], _ => rfl», one _ a parameter -/
theorem Fun.binds {x qual : Str} {st : Stmt} {f : Addr} {fd : FuncData} {ps : List Str} (F : Fun K x qual st f fd)
    (h : ∀ (kV doc pm : Value) (an : Option Addr) (cdv ct : Value) (us : List Value), us.length = ps.length → bindArgs (PySem.W.fnOf x qual (defArgs st) (defBody st) (defScope st) .none kV doc pm an cdv ct) ⟨us, []⟩ = pure (ps.zip us)) : Binds K fd ps [] := by
  obtain ⟨oc, od, kV, doc, pm, an, cdv, ct, osl, rfl, lk, hcd⟩ := F.ex
  exact .all (h kV doc pm an cdv ct)
theorem fun_mk {x qual : Str} {st : Stmt} {f : Addr} {oc : Value} {od an : Option Addr} {osl : Array (Option Value)} {kV doc pm cdv ct : Value} (l : K.lookup f = some ⟨oc, od, .func (PySem.W.fnOf x qual (defArgs st) (defBody st) (defScope st) .none kV doc pm an cdv ct), osl⟩)
    (c : PySem.W.codeIn K cdv qual = true) (k : PySem.W.keepIn K (.ref f) = true) : Fun K x qual st f (PySem.W.fnOf x qual (defArgs st) (defBody st) (defScope st) .none kV doc pm an cdv ct) := ⟨⟨oc, od, kV, doc, pm, an, cdv, ct, osl, rfl, l, c⟩, k⟩
end
theorem hu_of {A : Around} {k : Nat} (hr : Room k A) : A.units + 1 < cLine := Nat.lt_of_le_of_lt (Nat.add_le_add_left (by decide : 1 ≤ 64) _) hr.units
/-! ### expressions in short: the name that stands in the i-th slot -/
section
variable {X : Cx}
theorem pv (i : Nat) {x : Str} {pos : Pos} (hN : X.N[i]? = some x := by rfl) (hv : Vis X.env.scope x := by first | exact Or.inl rfl | exact Or.inr (Or.inl rfl) | exact Or.inr (Or.inr rfl)) (hd : (x == ("__debug__" : Str)) = false := by decide)
    (hcd : (x == ("__classdict__" : Str)) = false := by decide) : PE X (.Name x pos) (tVar i) := pe_var hN hv hd hcd
end

/-! ### tests -/
theorem iteF {A B : Prop} (h : B) : if false = true then A else B := by
  rw [if_neg Bool.false_ne_true]
  exact h
theorem iteT {A B : Prop} (h : A) : if true = true then A else B := by
  rw [if_pos rfl]
  exact h
theorem ite2 {c A B : Prop} [Decidable c] (h1 : c → A) (h2 : ¬ c → B) : if c then A else B := by
  by_cases h : c
  · rw [if_pos h]
    exact h1 h
  · rw [if_neg h]
    exact h2 h
/-! ### heaps -/
/-- all that was tracked is as it was -/
def Same (H H' : Hp) : Prop := ∀ b o, H b = some o → H' b = some o
theorem Same.refl (H : Hp) : Same H H := fun _ _ h => h
theorem Same.trans {H H1 H2 : Hp} (a : Same H H1) (b : Same H1 H2) : Same H H2 := fun c o h => b c o (a c o h)
theorem Same.free {H H' : Hp} (e : Same H H') {l : Addr} (h : H' l = Option.none) : H l = Option.none := by
  cases q : H l with
  | none => rfl
  | some o =>
    rw [e l o q] at h
    cases h
theorem Same.seq {K : PySem.W.Frag} {H H' : Hp} {a : Addr} {xs : List V} (e : Same H H') (h : SqL K H a xs) : SqL K H' a xs := by
  rcases h with (h | ⟨o, h⟩) | h
  · exact .inl (.inl (e _ _ h))
  · exact .inl (.inr ⟨o, e _ _ h⟩)
  · exact .inr h

/-! ### a dict's pairs: keys that differ -/
section
variable {κ : Type} [DecidableEq κ]
end
/-! ### lists -/
theorem at_of {xs : List V} {z : Int} {j : Nat} {v : V} (e : z = (j : Int)) (h : xs[j]? = some v) : atI xs z = some v := by
  rw [e]
  exact atI_nat h
/-- a new instance and its __init__ leave all that was tracked as it was -/
theorem Same.made {H H1 : Hp} {x dx C : Addr} (nx : H x = Option.none) (nd : H dx = Option.none) (k : ∀ b o, (upd (upd H dx (.own x)) x (.ins C dx [])) b = some o → b ≠ x → H1 b = some o) : Same H H1 := fun b o e =>
  k b o (by rw [upd_ne (ne_of_none e nx), upd_ne (ne_of_none e nd)]; exact e) (ne_of_none e nx)
end L2

end
section
set_option Elab.async false
set_option linter.all false
set_option maxRecDepth 100000
set_option maxHeartbeats 2000000
namespace L2
open PySem PySem.Spec PyProof.Rows
open PySem.W (WData Codec OpenSpec Well WellAll ReadsW ReadsAllW)
/-! ### an answer as data -/
mutual
/-- x stands for the datum d, lists and tuples all the way -/
inductive Dw (K : PySem.W.Frag) (H : Hp) : V → WData → Prop
  | non : Dw K H .non .none
  | bl (b : Bool) : Dw K H (.bl b) (.bool b)
  | int (i : Int) : Dw K H (.int i) (.int i)
  | str (x : Str) : Dw K H (.str x) (.str x)
  | byt (b : Array UInt8) : Dw K H (.byt b) (.bytes b.toList)
  | lst {a : Addr} {xs : List V} {ds : List WData} : SqL K H a xs → DwAll K H xs ds → Dw K H (.ref a) (.list ds)
  | tup {a : Addr} {xs : List V} {ds : List WData} : SqT K H a xs → DwAll K H xs ds → Dw K H (.ref a) (.tuple ds)
inductive DwAll (K : PySem.W.Frag) (H : Hp) : List V → List WData → Prop
  | nil : DwAll K H [] []
  | cons {v : V} {vs : List V} {d : WData} {ds : List WData} : Dw K H v d → DwAll K H vs ds → DwAll K H (v :: vs) (d :: ds)
end
theorem dw_ints {K : PySem.W.Frag} {H : Hp} : ∀ ns : List Int, DwAll K H (ns.map V.int) (ns.map WData.int)
  | [] => .nil
  | n :: r => .cons (.int n) (dw_ints r)
theorem ints_dw {K : PySem.W.Frag} {H : Hp} : ∀ (ns : List Int) (xs : List V), DwAll K H xs (ns.map WData.int) → xs = ns.map V.int
  | [], xs, h => by
    cases h
    rfl
  | n :: r, xs, h => by
    cases h with
    | cons h1 h2 =>
      cases h1
      rw [ints_dw r _ h2] <;> rfl
section
variable {P : Program} {w : World} {K : PySem.W.Frag} {H : Hp} {h : Heap} {R : PySem.W.WRecords} {cl : Str → Option Addr}
theorem sqL_at {a : Addr} {xs : List V} (hok : HOk P w H h) (KX : K.In h) (q : SqL K H a xs) : ∃ (its : List Value) (o : Obj) (n : Nat), Vals xs its ∧ h.get? a = some o ∧ o.cls = .type "list" ∧ o.data = .seq its.toArray n := by
  rcases q with q | ⟨o, its, n, e, hc, _, hd, _, hv⟩
  · obtain ⟨_, its, n, hv, e⟩ := (show ObjOk P w H h a (.lst xs) from q.ok hok)
    exact ⟨its, _, n, hv, e, rfl, rfl⟩
  · exact ⟨its.toList, o, n, hv, KX _ _ e, hc, by simp [hd]⟩
theorem sqT_at {a : Addr} {xs : List V} (hok : HOk P w H h) (KX : K.In h) (q : SqT K H a xs) : ∃ (its : List Value) (o : Obj) (n : Nat), Vals xs its ∧ h.get? a = some o ∧ o.cls = .type "tuple" ∧ o.data = .seq its.toArray n := by
  rcases q with q | ⟨o, its, n, e, hc, hd, _, hv⟩
  · obtain ⟨_, its, hv, o, e, hc, n, hd⟩ := (show ObjOk P w H h a (.tup xs) from q.ok hok)
    exact ⟨its, o, n, hv, e, hc, hd⟩
  · exact ⟨its.toList, o, n, hv, KX _ _ e, hc, by simp [hd]⟩
mutual
theorem Dw.reads (hok : HOk P w H h) (KX : K.In h) : ∀ (d : WData) (v : V) (u : Value), Dw K H v d → RelV v u → ∃ as, ReadsW R cl h u d as
  | .none, _, _, x, r => by
    cases x
    cases r
    exact ⟨_, ReadsW.none⟩
  | .bool b, _, _, x, r => by
    cases x
    cases r
    exact ⟨_, ReadsW.bool b⟩
  | .int i, _, _, x, r => by
    cases x
    obtain ⟨t, rfl⟩ := r
    exact ⟨_, ReadsW.int i t⟩
  | .str s, _, _, x, r => by
    cases x
    obtain ⟨t, rfl⟩ := r
    exact ⟨_, ReadsW.str s t⟩
  | .bytes b, _, _, x, r => by
    cases x
    obtain ⟨t, rfl⟩ := r
    exact ⟨_, ReadsW.bytes _ t⟩
  | .list ds, _, _, x, r => by
    cases x with
    | lst hs ha =>
      cases r
      obtain ⟨its, o, n, rv, ho, hc, hd⟩ := sqL_at hok KX hs
      obtain ⟨as, hr⟩ := Dw.readsAll hok KX ds _ its ha rv
      exact ⟨_, ReadsW.list ho hc hd hr⟩
  | .tuple ds, _, _, x, r => by
    cases x with
    | tup hs ha =>
      cases r
      obtain ⟨its, o, n, rv, ho, hc, hd⟩ := sqT_at hok KX hs
      obtain ⟨as, hr⟩ := Dw.readsAll hok KX ds _ its ha rv
      exact ⟨_, ReadsW.tuple ho hc hd hr⟩
  | .float _, _, _, x, _ => by cases x
  | .dict _, _, _, x, _ => by cases x
  | .bytearray _, _, _, x, _ => by cases x
  | .set _, _, _, x, _ => by cases x
  | .frozenset _, _, _, x, _ => by cases x
  | .obj _ _, _, _, x, _ => by cases x
theorem Dw.readsAll (hok : HOk P w H h) (KX : K.In h) : ∀ (ds : List WData) (vs : List V) (us : List Value), DwAll K H vs ds → Vals vs us → ∃ as, ReadsAllW R cl h us ds as
  | [], _, _, x, r => by
    cases x
    cases r
    exact ⟨_, ReadsAllW.nil⟩
  | d :: ds, _, _, x, r => by
    cases x with
    | cons h1 h2 =>
      cases r with
      | cons r1 r2 =>
        obtain ⟨as, q1⟩ := Dw.reads hok KX d _ _ h1 r1
        obtain ⟨bs, q2⟩ := Dw.readsAll hok KX ds _ _ h2 r2
        exact ⟨_, ReadsAllW.cons q1 q2⟩
end
end
/-! ### the arguments -/
mutual
/-- data that a codec tells -/
def plW : WData → Bool
  | .none => true
  | .bool _ => true
  | .int _ => true
  | .str _ => true
  | .bytes _ => true
  | .list xs => plWs xs
  | .tuple xs => plWs xs
  | _ => false
def plWs : List WData → Bool
  | [] => true
  | x :: r => plW x && plWs r
end
theorem plWs_map {α : Type} {f : α → WData} (h : ∀ a, plW (f a) = true) : ∀ l : List α, plWs (l.map f) = true
  | [] => rfl
  | x :: r => by
    show (plW (f x) && plWs (r.map f)) = true
    rw [h x, plWs_map h r] <;> rfl
theorem pl_enc : ∀ (c : Codec) (a : c.denote), plW (c.enc a) = true
  | .unit, _ => rfl
  | .bool, _ => rfl
  | .int _ _, _ => rfl
  | .nat _ _, _ => rfl
  | .u8, _ => rfl
  | .bytes _ _, _ => rfl
  | .text _ _ _ _, _ => rfl
  | .list _ _ c, a => plWs_map (fun x => pl_enc c x) a
  | .pair c d, a => by
    show (plW (c.enc a.1) && (plW (d.enc a.2) && true)) = true
    rw [pl_enc c a.1, pl_enc d a.2] <;> rfl
  | .triple c d e, a => by
    show (plW (c.enc a.1) && (plW (d.enc a.2.1) && (plW (e.enc a.2.2) && true))) = true
    rw [pl_enc c a.1, pl_enc d a.2.1, pl_enc e a.2.2] <;> rfl
  | .option c, none => rfl
  | .option c, some x => pl_enc c x
theorem pl_encAll : ∀ (cs : List Codec) (a : Codec.denoteAll cs), plWs (Codec.encAll cs a) = true
  | [], _ => rfl
  | c :: cs, a => by
    show (plW (c.enc a.1) && plWs (Codec.encAll cs a.2)) = true
    rw [pl_enc c a.1, pl_encAll cs a.2] <;> rfl
theorem weight_mem : ∀ {xs : List WData} {d : WData}, d ∈ xs → d.weight ≤ WData.weightAll xs
  | [], d, h => absurd h (by simp)
  | x :: r, d, h => by
    show d.weight ≤ x.weight + 1 + WData.weightAll r
    rcases List.mem_cons.mp h with e | m
    · rw [e]
      omega
    · have z := weight_mem m
      omega
def toV : Value → V
  | .none => .non
  | .bool b => .bl b
  | .int i _ => .int i
  | .str x _ => .str x
  | .bytes b _ => .byt b
  | .ref a => .ref a
  | _ => .non
/-- a value of the arguments, its objects among A -/
def OkU (A : List Addr) : Value → Prop
  | .none => True
  | .bool _ => True
  | .int _ _ => True
  | .str _ _ => True
  | .bytes _ _ => True
  | .ref a => a ∈ A
  | _ => False
theorem OkU.mono {A B : List Addr} (h : ∀ a ∈ A, a ∈ B) : ∀ {u : Value}, OkU A u → OkU B u := fun {u} x => by
  cases u with
  | ref a => exact h a x
  | none => trivial
  | bool b => trivial
  | int i t => trivial
  | str s t => trivial
  | bytes b t => trivial
  | _ => exact False.elim x
theorem relV_toV {A : List Addr} {u : Value} (x : OkU A u) : RelV (toV u) u := by
  cases u with
  | ref a => rfl
  | none => rfl
  | bool b => rfl
  | int i t => exact ⟨t, rfl⟩
  | str s t => exact ⟨t, rfl⟩
  | bytes b t => exact ⟨t, rfl⟩
  | _ => exact False.elim x
theorem vals_toV {A : List Addr} : ∀ {vs : List Value}, (∀ u ∈ vs, OkU A u) → Vals (vs.map toV) vs
  | [], _ => .nil
  | u :: r, h => .cons (relV_toV (h u (List.mem_cons_self ..))) (vals_toV fun x hx => h x (List.mem_cons_of_mem _ hx))
/-- an object of the arguments -/
def ArgOb (h : Heap) (A : List Addr) (a : Addr) : Prop := ∃ vs : List Value, vs.length ≤ sizeLine ∧ (∀ u ∈ vs, OkU A u) ∧
  (h.get? a = some { cls := .type "list", data := .seq vs.toArray } ∨ h.get? a = some { cls := .type "tuple", data := .seq vs.toArray })
theorem ArgOb.mono {h : Heap} {A B : List Addr} {a : Addr} (k : ∀ a ∈ A, a ∈ B) (x : ArgOb h A a) : ArgOb h B a := by
  obtain ⟨vs, h1, h2, h3⟩ := x
  exact ⟨vs, h1, fun u hu => (h2 u hu).mono k, h3⟩
theorem wellAll_len {P : Params} {h : Heap} : ∀ {vs : List Value} {ds : List WData}, WellAll P h vs ds → vs.length = ds.length
  | _, _, .nil => rfl
  | _, _, .cons _ b => by
    show _ + 1 = _ + 1
    rw [wellAll_len b]
theorem well_list {P : Params} {h : Heap} {v : Value} {ds : List WData} (x : Well P h v (.list ds)) : ∃ (a : Addr) (vs : List Value), v = .ref a ∧ h.get? a = some { cls := .type "list", data := .seq vs.toArray } ∧ WellAll P h vs ds := by
  cases x with
  | list ho hall => exact ⟨_, _, rfl, ho, hall⟩
theorem well_tuple {P : Params} {h : Heap} {v : Value} {ds : List WData} (x : Well P h v (.tuple ds)) : ∃ (a : Addr) (vs : List Value), v = .ref a ∧ h.get? a = some { cls := .type "tuple", data := .seq vs.toArray } ∧ WellAll P h vs ds := by
  cases x with
  | tuple ho hall => exact ⟨_, _, rfl, ho, hall⟩
theorem well_cons {P : Params} {h : Heap} {us : List Value} {d : WData} {ds : List WData} (x : WellAll P h us (d :: ds)) : ∃ (v : Value) (vs : List Value), us = v :: vs ∧ Well P h v d ∧ WellAll P h vs ds := by
  cases x with
  | cons a b => exact ⟨_, _, rfl, a, b⟩
theorem line_of {n : Nat} (h : n ≤ 1048576) : n ≤ sizeLine := Nat.le_trans h (by decide)
section
variable {P : Params} {h : Heap}
mutual
theorem area_one : ∀ (d : WData) (v : Value), Well P h v d → plW d = true → d.weight ≤ 1048576 → ∃ A : List Addr, OkU A v ∧ ∀ a ∈ A, ArgOb h A a
  | .none, _, x, _, _ => by
    cases x
    exact ⟨[], trivial, fun a m => absurd m (by simp)⟩
  | .bool b, _, x, _, _ => by
    cases x
    exact ⟨[], trivial, fun a m => absurd m (by simp)⟩
  | .int i, _, x, _, _ => by
    cases x
    exact ⟨[], trivial, fun a m => absurd m (by simp)⟩
  | .str s, _, x, _, _ => by
    cases x
    exact ⟨[], trivial, fun a m => absurd m (by simp)⟩
  | .bytes b, _, x, _, _ => by
    cases x
    exact ⟨[], trivial, fun a m => absurd m (by simp)⟩
  | .list ds, _, x, p, z => by
    obtain ⟨a, vs, rfl, ho, hall⟩ := well_list x
    have z2 : WData.weightAll ds ≤ 1048576 := z
    obtain ⟨A, h1, h2⟩ := area_all ds _ hall p fun d hd => Nat.le_trans (weight_mem hd) z2
    have k : ∀ b ∈ A, b ∈ a :: A := fun b hb => List.mem_cons_of_mem _ hb
    refine ⟨a :: A, List.mem_cons_self .., fun b hb => ?_⟩
    rcases List.mem_cons.mp hb with e | m
    · rw [e]
      exact ⟨vs, line_of (by rw [wellAll_len hall]; exact Nat.le_trans (PySem.W.length_le_weightAllW ds) z2), fun u hu => (h1 u hu).mono k, .inl ho⟩
    · exact (h2 b m).mono k
  | .tuple ds, _, x, p, z => by
    obtain ⟨a, vs, rfl, ho, hall⟩ := well_tuple x
    have z2 : WData.weightAll ds ≤ 1048576 := z
    obtain ⟨A, h1, h2⟩ := area_all ds _ hall p fun d hd => Nat.le_trans (weight_mem hd) z2
    have k : ∀ b ∈ A, b ∈ a :: A := fun b hb => List.mem_cons_of_mem _ hb
    refine ⟨a :: A, List.mem_cons_self .., fun b hb => ?_⟩
    rcases List.mem_cons.mp hb with e | m
    · rw [e]
      exact ⟨vs, line_of (by rw [wellAll_len hall]; exact Nat.le_trans (PySem.W.length_le_weightAllW ds) z2), fun u hu => (h1 u hu).mono k, .inr ho⟩
    · exact (h2 b m).mono k
  | .float _, _, _, p, _ => Bool.noConfusion (show false = true from p)
  | .dict _, _, _, p, _ => Bool.noConfusion (show false = true from p)
  | .bytearray _, _, _, p, _ => Bool.noConfusion (show false = true from p)
  | .set _, _, _, p, _ => Bool.noConfusion (show false = true from p)
  | .frozenset _, _, _, p, _ => Bool.noConfusion (show false = true from p)
  | .obj _ _, _, _, p, _ => Bool.noConfusion (show false = true from p)
theorem area_all : ∀ (ds : List WData) (vs : List Value), WellAll P h vs ds → plWs ds = true → (∀ d ∈ ds, d.weight ≤ 1048576) → ∃ A : List Addr, (∀ u ∈ vs, OkU A u) ∧ ∀ a ∈ A, ArgOb h A a
  | [], _, x, _, _ => by
    cases x
    exact ⟨[], fun u m => absurd m (by simp), fun a m => absurd m (by simp)⟩
  | d :: ds, _, x, p, z => by
    obtain ⟨v, vs, rfl, x1, x2⟩ := well_cons x
    have q : plW d = true ∧ plWs ds = true := Bool.and_eq_true_iff.mp p
    obtain ⟨A, a1, a2⟩ := area_one d v x1 q.1 (z d (List.mem_cons_self ..))
    obtain ⟨B, b1, b2⟩ := area_all ds vs x2 q.2 fun e he => z e (List.mem_cons_of_mem _ he)
    have kA : ∀ b ∈ A, b ∈ A ++ B := fun b hb => List.mem_append.mpr (.inl hb)
    have kB : ∀ b ∈ B, b ∈ A ++ B := fun b hb => List.mem_append.mpr (.inr hb)
    refine ⟨A ++ B, fun u hu => ?_, fun b hb => ?_⟩
    · rcases List.mem_cons.mp hu with e | m
      · rw [e]
        exact a1.mono kA
      · exact (b1 u m).mono kB
    · rcases List.mem_append.mp hb with m | m
      · exact (a2 b m).mono kA
      · exact (b2 b m).mono kB
end
end
/-- what is tracked of an argument's object -/
def hoOf (o : Obj) : Option HO := match o.data with
  | .seq vs _ => if (o.cls == Value.type "list") = true then some (.frz o (.lst (vs.toList.map toV))) else some (.frz o (.tup (vs.toList.map toV)))
  | _ => none
def argH (K : PySem.W.Frag) (h : Heap) (A : List Addr) : Hp := fun b => if b ∈ A then (if (K.lookup b).isNone = true then (h.get? b).bind hoOf else none) else none
/-- nothing is tracked but what is known to the object -/
def OnlyF (H : Hp) : Prop := ∀ b, H b = none ∨ ∃ o u, H b = some (.frz o u)
theorem hoOf_lst (vs : List Value) : hoOf { cls := .type "list", data := .seq vs.toArray } = some (.frz { cls := .type "list", data := .seq vs.toArray } (.lst (vs.map toV))) := by
  show (if (Value.type "list" == Value.type "list") = true then some (HO.frz { cls := .type "list", data := .seq vs.toArray } (.lst (vs.toArray.toList.map toV))) else some (HO.frz { cls := .type "list", data := .seq vs.toArray } (.tup (vs.toArray.toList.map toV)))) = _
  rw [if_pos (beq_self_eq_true _)]
theorem hoOf_tup (vs : List Value) : hoOf { cls := .type "tuple", data := .seq vs.toArray } = some (.frz { cls := .type "tuple", data := .seq vs.toArray } (.tup (vs.map toV))) := by
  show (if (Value.type "tuple" == Value.type "list") = true then some (HO.frz { cls := .type "tuple", data := .seq vs.toArray } (.lst (vs.toArray.toList.map toV))) else some (HO.frz { cls := .type "tuple", data := .seq vs.toArray } (.tup (vs.toArray.toList.map toV)))) = _
  rw [if_neg (by decide)]
section
variable {P : Program} {w : World} {K : PySem.W.Frag} {h : Heap} {A : List Addr}
theorem argH_at {b : Addr} {o : Obj} (hb : b ∈ A) (hk : K.lookup b = none) (e : h.get? b = some o) : argH K h A b = hoOf o := by
  unfold argH
  rw [if_pos hb, hk, if_pos (show (none : Option Obj).isNone = true from rfl), e] <;> rfl
theorem of_argH {b : Addr} {u : HO} (q : argH K h A b = some u) : b ∈ A ∧ K.lookup b = none := by
  unfold argH at q
  by_cases hb : b ∈ A
  · rw [if_pos hb] at q
    cases hk : K.lookup b with
    | none => exact ⟨hb, rfl⟩
    | some o =>
      rw [hk, if_neg (by simp)] at q
      cases q
  · rw [if_neg hb] at q
    cases q
/-- what stands tracked -/
theorem argH_is (ar : ∀ a ∈ A, ArgOb h A a) {b : Addr} {u : HO} (q : argH K h A b = some u) : K.lookup b = none ∧ ∃ vs : List Value, vs.length ≤ sizeLine ∧ (∀ u ∈ vs, OkU A u) ∧
    ((h.get? b = some { cls := .type "list", data := .seq vs.toArray } ∧ u = .frz { cls := .type "list", data := .seq vs.toArray } (.lst (vs.map toV))) ∨
     (h.get? b = some { cls := .type "tuple", data := .seq vs.toArray } ∧ u = .frz { cls := .type "tuple", data := .seq vs.toArray } (.tup (vs.map toV)))) := by
  obtain ⟨hb, hk⟩ := of_argH q
  obtain ⟨vs, h1, h2, h3⟩ := ar b hb
  refine ⟨hk, vs, h1, h2, ?_⟩
  rcases h3 with e | e
  · rw [argH_at hb hk e, hoOf_lst] at q
    exact .inl ⟨e, (Option.some.inj q).symm⟩
  · rw [argH_at hb hk e, hoOf_tup] at q
    exact .inr ⟨e, (Option.some.inj q).symm⟩
theorem argH_only (ar : ∀ a ∈ A, ArgOb h A a) : OnlyF (argH K h A) := fun b => by
  cases q : argH K h A b with
  | none => exact .inl rfl
  | some u =>
    obtain ⟨_, vs, _, _, ⟨_, e⟩ | ⟨_, e⟩⟩ := argH_is ar q
    · exact .inr ⟨_, _, by rw [e]⟩
    · exact .inr ⟨_, _, by rw [e]⟩
theorem argH_ok (ar : ∀ a ∈ A, ArgOb h A a) : HOk P w (argH K h A) h := fun b u q => by
  obtain ⟨_, vs, h1, h2, ⟨e, rfl⟩ | ⟨e, rfl⟩⟩ := argH_is ar q
  · exact ⟨e, by rw [List.length_map]; exact h1, vs, _, vals_toV h2, e⟩
  · exact ⟨e, by rw [List.length_map]; exact h1, vs, vals_toV h2, _, e, rfl, _, rfl⟩
theorem seq_inj {c c' : Value} {vs us : List Value} (e : (some { cls := c, data := .seq vs.toArray } : Option Obj) = some { cls := c', data := .seq us.toArray }) : c = c' ∧ vs = us := by
  have e1 := Option.some.inj e
  have e2 : c = c' := congrArg Obj.cls e1
  have e3 : Data.seq vs.toArray = Data.seq us.toArray := congrArg Obj.data e1
  injection e3 with e4
  refine ⟨e2, ?_⟩
  have e5 := congrArg Array.toList e4
  simpa using e5
/-- a list argument -/
theorem argL (KX : K.In h) (ar : ∀ a ∈ A, ArgOb h A a) {a : Addr} {vs : List Value} (ha : a ∈ A) (e : h.get? a = some { cls := .type "list", data := .seq vs.toArray }) : (∀ u ∈ vs, OkU A u) ∧ SqL K (argH K h A) a (vs.map toV) := by
  obtain ⟨us, h1, h2, h3⟩ := ar a ha
  have hu : us = vs := by
    rcases h3 with q | q
    · rw [e] at q
      exact (seq_inj q).2.symm
    · rw [e] at q
      exact absurd (Value.type.inj (seq_inj q).1) (by decide)
  subst hu
  refine ⟨h2, ?_⟩
  cases hk : K.lookup a with
  | none => exact .inl (.inr ⟨_, by rw [argH_at ha hk e, hoOf_lst]⟩)
  | some o =>
    have e2 := KX a o hk
    rw [e] at e2
    obtain rfl := Option.some.inj e2
    exact .inr ⟨_, us.toArray, _, hk, rfl, rfl, rfl, by rw [List.size_toArray]; exact h1, by simpa using vals_toV h2⟩
theorem argT (KX : K.In h) (ar : ∀ a ∈ A, ArgOb h A a) {a : Addr} {vs : List Value} (ha : a ∈ A) (e : h.get? a = some { cls := .type "tuple", data := .seq vs.toArray }) : (∀ u ∈ vs, OkU A u) ∧ SqT K (argH K h A) a (vs.map toV) := by
  obtain ⟨us, h1, h2, h3⟩ := ar a ha
  have hu : us = vs := by
    rcases h3 with q | q
    · rw [e] at q
      exact absurd (Value.type.inj (seq_inj q).1) (by decide)
    · rw [e] at q
      exact (seq_inj q).2.symm
  subst hu
  refine ⟨h2, ?_⟩
  cases hk : K.lookup a with
  | none => exact .inl (.inr ⟨_, by rw [argH_at ha hk e, hoOf_tup]⟩)
  | some o =>
    have e2 := KX a o hk
    rw [e] at e2
    obtain rfl := Option.some.inj e2
    exact .inr ⟨_, us.toArray, _, hk, rfl, rfl, by rw [List.size_toArray]; exact h1, by simpa using vals_toV h2⟩
mutual
theorem dw_one {Pm : Params} (KX : K.In h) (ar : ∀ a ∈ A, ArgOb h A a) : ∀ (d : WData) (v : Value), Well Pm h v d → plW d = true → OkU A v → Dw K (argH K h A) (toV v) d
  | .none, _, x, _, _ => by
    cases x
    exact .non
  | .bool b, _, x, _, _ => by
    cases x
    exact .bl b
  | .int i, _, x, _, _ => by
    cases x
    exact .int i
  | .str s, _, x, _, _ => by
    cases x
    exact .str s
  | .bytes b, _, x, _, _ => by
    cases x
    have z := Dw.byt (K := K) (H := argH K h A) b.toArray
    exact z
  | .list ds, _, x, p, hu => by
    obtain ⟨a, vs, rfl, ho, hall⟩ := well_list x
    obtain ⟨h2, hs⟩ := argL KX ar hu ho
    exact .lst hs (dw_all KX ar ds _ hall p h2)
  | .tuple ds, _, x, p, hu => by
    obtain ⟨a, vs, rfl, ho, hall⟩ := well_tuple x
    obtain ⟨h2, hs⟩ := argT KX ar hu ho
    exact .tup hs (dw_all KX ar ds _ hall p h2)
  | .float _, _, _, p, _ => Bool.noConfusion (show false = true from p)
  | .dict _, _, _, p, _ => Bool.noConfusion (show false = true from p)
  | .bytearray _, _, _, p, _ => Bool.noConfusion (show false = true from p)
  | .set _, _, _, p, _ => Bool.noConfusion (show false = true from p)
  | .frozenset _, _, _, p, _ => Bool.noConfusion (show false = true from p)
  | .obj _ _, _, _, p, _ => Bool.noConfusion (show false = true from p)
theorem dw_all {Pm : Params} (KX : K.In h) (ar : ∀ a ∈ A, ArgOb h A a) : ∀ (ds : List WData) (vs : List Value), WellAll Pm h vs ds → plWs ds = true → (∀ u ∈ vs, OkU A u) → DwAll K (argH K h A) (vs.map toV) ds
  | [], _, x, _, _ => by
    cases x
    exact .nil
  | d :: ds, _, x, p, hu => by
    obtain ⟨v, vs, rfl, x1, x2⟩ := well_cons x
    have q : plW d = true ∧ plWs ds = true := Bool.and_eq_true_iff.mp p
    exact .cons (dw_one KX ar d v x1 q.1 (hu _ (List.mem_cons_self ..))) (dw_all KX ar ds vs x2 q.2 fun u m => hu u (List.mem_cons_of_mem _ m))
end
end
/-! ### the call -/
theorem spec_call {P : Program} {w : World} {K : PySem.W.Frag} {mg mb : Str → Option Value} {CX : CXT} {k : Nat} {fa : Addr} {fd : FuncData} {ps : List Str} {sp : Sp} {s₁ : Shared} {vals : List Value} {ds : List WData} {R : PySem.W.WRecords} {cl : Str → Option Addr} {d0 : WData}
    (KX : K.In s₁.heap) (hst : ∀ b k, St0 b k → ∃ (o : Obj) (its : Array Value) (n : Nat), K.lookup b = some o ∧ o.cls = .type "tuple" ∧ o.data = .seq its n ∧ its.size ≤ sizeLine ∧ Vals (k.map kV) its.toList) (hns : s₁.heap.Ns mainGlobals mg) (hb : s₁.heap.Ns builtinsNs mb) (hbb : ∀ x : Str, x ≠ "__name__" → mb x = bootBuiltins x) (hlim : s₁.heap.NoLimit) (hg : s₁.gens = #[])
    (hwl : WellAll w.params s₁.heap vals ds) (hpl : plWs ds = true) (hwt : ∀ d ∈ ds, d.weight ≤ 1048576) (hr : Room k callerA)
    (F : ∀ base : Heap, K.In base → base.Ns mainGlobals mg → FnOk P w K mg base CX k fa fd ps sp) (hbind : ∀ (s : Shared) (us : List Value), us.length = ps.length → BindsTo s fd ⟨us, []⟩ (ps.zip us)) (hlen : ds.length = ps.length)
    (hsp : ∀ (H : Hp) (xs : List V), OnlyF H → DwAll K H xs ds → sp xs H (fun v H' => Dw K H' v d0) fun _ _ _ => False)
    (hCX : ∀ H e s', CX [] H s₁ (fun _ _ _ => False) e s' → False) :
    codeAny (model P w) callerA (.call (.ref fa) ⟨vals, []⟩) (fun r s' => ∃ u as, r = .ok (.ret u) ∧ ReadsW R cl s'.heap u d0 as ∧ OldK s₁.heap s'.heap ∧ s'.os = s₁.os ∧ AllBare s'.gens) s₁ := by
  obtain ⟨A, ho, ar⟩ := area_all ds vals hwl hpl hwt
  have hO : OnlyF (argH K s₁.heap A) := argH_only ar
  have hok : HOk P w (argH K s₁.heap A) s₁.heap := argH_ok ar
  have hS := dw_all KX ar ds vals hwl hpl ho
  have hV := vals_toV ho
  have hK : ∀ b u, argH K s₁.heap A b = some u → K.lookup b = none := fun b u q => (argH_is ar q).1
  have noA : ∀ {b : Addr} {o : Obj} {es : Array DictEntry} {ep : Nat}, s₁.heap.get? b = some o → o.data = .dict es ep → argH K s₁.heap A b = none := fun {b o es ep} e d => by
    cases q : argH K s₁.heap A b with
    | none => rfl
    | some u =>
      obtain ⟨_, vs, _, _, ⟨e2, _⟩ | ⟨e2, _⟩⟩ := argH_is ar q
      · rw [e2] at e
        cases e
        have d' : Data.seq vs.toArray _ = Data.dict es ep := d
        cases d'
      · rw [e2] at e
        cases e
        have d' : Data.seq vs.toArray _ = Data.dict es ep := d
        cases d'
  generalize argH K s₁.heap A = H at hO hok hS hK noA
  have base_of : ∀ {b : Addr} {o : Obj}, s₁.heap.get? b = some o → H b = none → (hidT s₁.heap H).get? b = some o := fun e n => hidT_get e n
  have nsK : ∀ {b : Addr} {m : Str → Option Value}, s₁.heap.Ns b m → (hidT s₁.heap H).Ns b m := fun {b m} ⟨o, es, ep, e, d, r⟩ => ⟨o, es, ep, base_of e (noA e d), d, r⟩
  have nK : ∀ b o, K.lookup b = some o → H b = none := fun b o e => by
    cases q : H b with
    | none => rfl
    | some u =>
      rw [hK b u q] at e
      cases e
  have hKb : K.In (hidT s₁.heap H) := fun b o e => base_of (KX b o e) (nK b o e)
  have hM : Mod K mg (hidT s₁.heap H) := ⟨hKb, nsK hns, ⟨mb, nsK hb, hbb⟩, (let ⟨mc, h1, h2⟩ := hlim; ⟨mc, nsK h1, h2⟩), hst⟩
  have e0 : Env0 P w K mg (hidT s₁.heap H) callerA [] s₁ H := ⟨rfl, hM, fun b o e => of_hidT e, Nat.le_of_eq (hidT_size _ _), trivial, fun b hb => absurd (show b ∈ ([] : List Addr) from hb) (by simp), hok, .of_eq hg⟩
  have hl : vals.length = ps.length := by rw [wellAll_len hwl]; exact hlen
  refine codeAny_mono ((F _ hKb (nsK hns)).run callerA [] s₁ H ⟨vals, []⟩ vals (vals.map toV) _ _ hr e0 (hbind s₁ vals hl) hV (hsp H _ hO hS)) fun r s' x => ?_
  cases r with
  | error e => exact (hCX H e s' x).elim
  | ok fl =>
    cases fl with
    | next => exact False.elim x
    | brk => exact False.elim x
    | cont => exact False.elim x
    | ret u =>
      obtain ⟨v, H', os, bare, un, hok', r', q⟩ := x
      have kept : ∀ b o, s₁.heap.get? b = some o → s'.heap.get? b = some o := fun b o e => by
        cases q2 : H b with
        | none => exact un.keep b o e q2 (by intro z; exact absurd (show b ∈ ([] : List Addr) from z) (by simp)) (by simp)
        | some u2 =>
          rcases hO b with z | ⟨ob, u3, z⟩
          · rw [q2] at z
            cases z
          · have z2 := un.frzs b ob _ z
            obtain ⟨e1, _⟩ := hok b _ z
            obtain ⟨e2, _⟩ := hok' b _ z2
            rw [e] at e1
            cases e1
            exact e2
      have KX' : K.In s'.heap := fun b o e => kept b o (KX b o e)
      obtain ⟨as, hrd⟩ := Dw.reads (R := R) (cl := cl) hok' KX' d0 v u q r'
      exact ⟨u, as, rfl, hrd, OldK.of_keep kept, os, bare⟩
/-! ### the row -/
theorem layable_weight {ds : List WData} (h : WData.layableAll ds = true) : ∀ d ∈ ds, d.weight ≤ 1048576 := fun d hd =>
  (PySem.W.layableW_iff.mp (List.all_eq_true.mp h d hd)).2.2
theorem encAll_len : ∀ (cs : List Codec) (a : Codec.denoteAll cs), (Codec.encAll cs a).length = cs.length
  | [], _ => rfl
  | c :: cs, a => by
    show (Codec.encAll cs a.2).length + 1 = cs.length + 1
    rw [encAll_len cs a.2]
/-- the goal that k_headS leaves (case hc), from the promise of the row's def: whatever the arguments that the codecs let and the row asks for, the def gives what stands for enc (f ..) -/
theorem walk_spec {r : OpenSpec} {k : Nat} {q : Program} {loose : List Str} {XP : (Str → Option Value) → Heap → Prop} {YP : World → Heap → Prop} {d : DefRec} {K : Params → PySem.W.Frag} {CX : World → CXT} {ps : List Str} {sp : World → Sp}
    (hwell : r.wellSaid = true) (hdf : d.params.defaults = []) (hlen : r.args.length = ps.length) (hr : Room k callerA)
    (hY : ∀ (w : World) (h : Heap), YP w h → (K w.params).In h)
    (hst : ∀ w : World, ∀ b k, St0 b k → ∃ (o : Obj) (its : Array Value) (n : Nat), (K w.params).lookup b = some o ∧ o.cls = .type "tuple" ∧ o.data = .seq its n ∧ its.size ≤ sizeLine ∧ Vals (k.map kV) its.toList)
    (F : ∀ (w : World) (mg : Str → Option Value) (fa : Addr) (h : Heap), YP w h → (K w.params).In h → h.Ns mainGlobals mg → mg d.name = some (.ref fa) →
      ∃ fd : FuncData, (∀ (s : Shared) (us : List Value), us.length = ps.length → BindsTo s fd ⟨us, []⟩ (ps.zip us)) ∧
        ∀ base : Heap, (K w.params).In base → base.Ns mainGlobals mg → FnOk r.prog w (K w.params) mg base (CX w) k fa fd ps (sp w))
    (hsp : ∀ (w : World) (H : Hp) (xs : List V) (a : Codec.denoteAll r.args), OnlyF H → Codec.withinAll r.args a = true → Codec.app r.args r.asked a = true → DwAll (K w.params) H xs (Codec.encAll r.args a) →
      sp w xs H (fun v H' => Dw (K w.params) H' v (r.ret.enc (Codec.app r.args r.f a))) fun _ _ _ => False)
    (hCX : ∀ (w : World) (H : Hp) (s : Shared) (e : Value) (s' : Shared), CX w [] H s (fun _ _ _ => False) e s' → False) :
    PySem.W.WalkOS q loose XP YP r d [] (fun f vs => PySem.call f vs) := by
  intro w s_0 s₁ mg mb G Y fa o pm cd doc dV kV ho hd hcd hD hmg hg args vals as hpre hlay hrd hwl hlo
  obtain ⟨a, e1, e2⟩ := PySem.W.os_pre_some hpre
  obtain ⟨e3, hwi⟩ := Codec.encAll_of_decAll r.args args a e1
  subst e3
  have KX := hY w _ Y
  obtain ⟨fd, hb, hF⟩ := F w mg fa _ Y KX G.T.g hmg
  refine PySem.W.enter_call (codeAny_mono (spec_call (R := []) (cl := classAt s_0.heap) (d0 := r.ret.enc (Codec.app r.args r.f a)) KX (hst w) G.T.g G.T.b G.T.builtins G.T.nolimit hg hwl (pl_encAll _ _) (layable_weight hlay) hr hF hb (by rw [encAll_len]; exact hlen)
    (fun H xs hO hS => hsp w H xs a hO hwi e2 hS) fun H e s' => hCX w H s₁ e s') fun r' s' hq => ?_)
  obtain ⟨u, as', rfl, h1, h2, h3, h4⟩ := hq
  exact ⟨.inl ⟨u, _, as', rfl, fun _ => rfl, h1, (OpenSpec.post_iff hwell hwi _ _).mpr rfl, fun z => Bool.noConfusion (show false = true from z)⟩, h2, h3, h4⟩
/-- the same where the promise hangs on the written part alone -/
theorem walk_specK {r : OpenSpec} {k : Nat} {q : Program} {loose : List Str} {XP : (Str → Option Value) → Heap → Prop} {YP : World → Heap → Prop} {d : DefRec} {K : Params → PySem.W.Frag} {CX : CXT} {ps : List Str} {sp : PySem.W.Frag → Sp}
    (hwell : r.wellSaid = true) (hdf : d.params.defaults = []) (hlen : r.args.length = ps.length) (hr : Room k callerA)
    (hY : ∀ (w : World) (h : Heap), YP w h → (K w.params).In h)
    (hst : ∀ w : World, ∀ b k, St0 b k → ∃ (o : Obj) (its : Array Value) (n : Nat), (K w.params).lookup b = some o ∧ o.cls = .type "tuple" ∧ o.data = .seq its n ∧ its.size ≤ sizeLine ∧ Vals (k.map kV) its.toList)
    (F : ∀ (w : World) (mg : Str → Option Value) (fa : Addr) (h : Heap), YP w h → (K w.params).In h → h.Ns mainGlobals mg → mg d.name = some (.ref fa) →
      ∃ fd : FuncData, (∀ (s : Shared) (us : List Value), us.length = ps.length → BindsTo s fd ⟨us, []⟩ (ps.zip us)) ∧
        ∀ base : Heap, (K w.params).In base → base.Ns mainGlobals mg → FnOk r.prog w (K w.params) mg base CX k fa fd ps (sp (K w.params)))
    (hsp : ∀ (K : PySem.W.Frag) (H : Hp) (xs : List V) (a : Codec.denoteAll r.args), OnlyF H → Codec.withinAll r.args a = true → Codec.app r.args r.asked a = true → DwAll K H xs (Codec.encAll r.args a) →
      sp K xs H (fun v H' => Dw K H' v (r.ret.enc (Codec.app r.args r.f a))) fun _ _ _ => False)
    (hCX : ∀ (H : Hp) (s : Shared) (e : Value) (s' : Shared), CX [] H s (fun _ _ _ => False) e s' → False) :
    PySem.W.WalkOS q loose XP YP r d [] (fun f vs => PySem.call f vs) :=
  walk_spec (K := K) (CX := fun _ => CX) (sp := fun w => sp (K w.params)) hwell hdf hlen hr hY hst F (fun w H xs a h1 h2 h3 h4 => hsp (K w.params) H xs a h1 h2 h3 h4) fun _ H s e s' => hCX H s e s'
end L2

end
section
set_option linter.all false
namespace TF
open Uw88

/-! ### The rank of a row: every move adds one -/
def frogs : List Nat → Int
  | [] => 0
  | x :: l => (if x = 2 then 1 else 0) + frogs l
def toads : List Nat → Int
  | [] => 0
  | x :: l => (if x = 1 then 1 else 0) + toads l
def rk : Int → List Nat → Int
  | _, [] => 0
  | k, x :: l => (if x = 1 then k + frogs l else if x = 2 then -k else 0) + rk (k + 1) l
theorem frogs_append : ∀ A B : List Nat, frogs (A ++ B) = frogs A + frogs B
  | [], B => by simp [frogs]
  | x :: A, B => by simp only [List.cons_append, frogs, frogs_append A B]; omega
theorem toads_append : ∀ A B : List Nat, toads (A ++ B) = toads A + toads B
  | [], B => by simp [toads]
  | x :: A, B => by simp only [List.cons_append, toads, toads_append A B]; omega
theorem rk_append : ∀ (k : Int) (A Y : List Nat), rk k (A ++ Y) = rk k A + toads A * frogs Y + rk (k + A.length) Y
  | k, [], Y => by simp [rk, toads]
  | k, x :: A, Y => by
    have ih := rk_append (k + 1) A Y
    have e : k + 1 + (A.length : Int) = k + ((x :: A).length : Int) := by simp only [List.length_cons]; omega
    rw [e] at ih
    simp only [List.cons_append, rk, toads, ih, frogs_append]
    by_cases h1 : x = 1
    · simp only [h1, if_true]; rw [Int.add_mul]; omega
    · by_cases h2 : x = 2
      · simp [h2]; try omega
      · simp [h1, h2]; try omega
def rank (r : Row) : Int := rk 0 r
/-- what a move does, place by place -/
inductive Turn : Row → Nat → Row → Bool → Prop
  | stepT (A B : List Nat) : Turn (A ++ 1 :: 0 :: B) A.length (A ++ 0 :: 1 :: B) false
  | leapT (A B : List Nat) : Turn (A ++ 1 :: 2 :: 0 :: B) A.length (A ++ 0 :: 2 :: 1 :: B) true
  | stepF (A B : List Nat) : Turn (A ++ 0 :: 2 :: B) (A.length + 1) (A ++ 2 :: 0 :: B) false
  | leapF (A B : List Nat) : Turn (A ++ 0 :: 1 :: 2 :: B) (A.length + 2) (A ++ 2 :: 1 :: 0 :: B) true
theorem Turn.rank {r t : Row} {i : Nat} {b : Bool} (h : Turn r i t b) : rank t = rank r + 1 := by
  cases h <;> simp [TF.rank, rk_append, rk, frogs] <;> try omega
theorem Turn.length {r t : Row} {i : Nat} {b : Bool} (h : Turn r i t b) : t.length = r.length := by
  cases h <;> simp
theorem Turn.small {r t : Row} {i : Nat} {b : Bool} (h : Turn r i t b) (s : ∀ x ∈ r, x ≤ 2) : ∀ x ∈ t, x ≤ 2 := by
  cases h <;> simp only [List.mem_append, List.mem_cons] at s ⊢ <;> intro x hx <;> rcases hx with hx | hx | hx | hx <;> first | exact s x (.inl hx) | (subst hx; decide) | skip
  all_goals first | exact s x (.inr (.inr (.inr hx))) | (rcases hx with hx | hx <;> first | (subst hx; decide) | exact s x (.inr (.inr (.inr (.inr hx)))))
theorem cut_at {r : Row} {i x : Nat} (h : at_ r i = x) (hx : x ≠ 9) : i < r.length ∧ r = r.take i ++ x :: r.drop (i + 1) := by
  unfold at_ at h
  by_cases hi : i < r.length
  · refine ⟨hi, ?_⟩
    rw [List.getD_eq_getElem?_getD, List.getElem?_eq_getElem hi] at h
    have h' : r[i] = x := h
    rw [← h', ← List.drop_eq_getElem_cons hi, List.take_append_drop]
  · rw [List.getD_eq_getElem?_getD, List.getElem?_eq_none (by omega)] at h
    exact absurd h.symm hx
theorem at_append (A B : List Nat) (k : Nat) : at_ (A ++ B) (A.length + k) = at_ B k := by
  unfold at_
  simp [List.getD_eq_getElem?_getD, List.getElem?_append_right]
theorem at_cons (x : Nat) (B : List Nat) (k : Nat) : at_ (x :: B) (k + 1) = at_ B k := by
  simp [at_]
/-- where the one at A's end stands: r = A ++ x :: B -/
theorem split_at {r : Row} {i x : Nat} (h : at_ r i = x) (hx : x ≠ 9) : ∃ A B, r = A ++ x :: B ∧ A.length = i := by
  obtain ⟨hi, e⟩ := cut_at h hx
  exact ⟨r.take i, r.drop (i + 1), e, by rw [List.length_take]; omega⟩
theorem split_head {B : List Nat} {x : Nat} (h : at_ B 0 = x) (hx : x ≠ 9) : ∃ B', B = x :: B' := by
  cases B with
  | nil => simp [at_] at h; exact absurd h.symm hx
  | cons y B => simp [at_] at h; exact ⟨B, by rw [h]⟩
theorem turn_of {r : Row} {i j : Nat} (h : goal r i = some j) : Turn r i (moved r i) (isLeap r i) := by
  unfold isLeap moved
  rw [h]
  unfold goal at h
  split at h
  · rename_i h1
    obtain ⟨A, B, rfl, rfl⟩ := split_at h1 (by decide)
    rw [at_append A (1 :: B) 1, at_append A (1 :: B) 2, at_cons, at_cons] at h
    split at h
    · rename_i h2
      cases h
      obtain ⟨B, rfl⟩ := split_head h2 (by decide)
      have e := Turn.stepT A B
      have q : (A.length + 2 == A.length + 1 || A.length + 1 + 2 == A.length) = false := by
        rw [Bool.or_eq_false_iff]; exact ⟨by rw [beq_eq_false_iff_ne]; omega, by rw [beq_eq_false_iff_ne]; omega⟩
      simp only [h1, q]
      simpa [List.set_append] using e
    · split at h
      · rename_i h2 h3
        cases h
        obtain ⟨B, rfl⟩ := split_head h3.1 (by decide)
        have h4 := h3.2
        rw [at_cons] at h4
        obtain ⟨B, rfl⟩ := split_head h4 (by decide)
        have e := Turn.leapT A B
        simp only [h1]
        simpa [List.set_append] using e
      · cases h
  · split at h
    · rename_i h0 h1
      split at h
      · rename_i h2
        cases h
        obtain ⟨k, rfl⟩ : ∃ k, i = k + 1 := ⟨i - 1, by omega⟩
        have h3 : at_ r k = 0 := h2.2
        obtain ⟨A, B, rfl, rfl⟩ := split_at h3 (by decide)
        have h4 : at_ (A ++ 0 :: B) (A.length + 1) = 2 := h1
        rw [at_append A (0 :: B) 1, at_cons] at h4
        obtain ⟨B, rfl⟩ := split_head h4 (by decide)
        have e := Turn.stepF A B
        have q : (A.length + 1 + 2 == A.length + 1 - 1 || A.length + 1 - 1 + 2 == A.length + 1) = false := by
          rw [Bool.or_eq_false_iff]; exact ⟨by rw [beq_eq_false_iff_ne]; omega, by rw [beq_eq_false_iff_ne]; omega⟩
        simp only [h1, q]
        simpa [List.set_append] using e
      · split at h
        · rename_i h2 h3
          cases h
          obtain ⟨k, rfl⟩ : ∃ k, i = k + 2 := ⟨i - 2, by omega⟩
          have h4 : at_ r k = 0 := h3.2.2
          have h5 : at_ r (k + 1) = 1 := h3.2.1
          obtain ⟨A, B, rfl, rfl⟩ := split_at h4 (by decide)
          rw [at_append A (0 :: B) 1, at_cons] at h5
          obtain ⟨B, rfl⟩ := split_head h5 (by decide)
          have h6 : at_ (A ++ 0 :: 1 :: B) (A.length + 2) = 2 := h1
          rw [at_append A (0 :: 1 :: B) 2, at_cons, at_cons] at h6
          obtain ⟨B, rfl⟩ := split_head h6 (by decide)
          have e := Turn.leapF A B
          simp only [h1]
          simpa [List.set_append] using e
        · cases h
    · cases h
theorem moves_iff {r : Row} {i : Nat} : i ∈ moves r ↔ i < r.length ∧ ∃ j, goal r i = some j := by
  unfold moves
  rw [List.mem_filter, List.mem_range, Option.isSome_iff_exists]
theorem turn_mem {r : Row} {i : Nat} (h : i ∈ moves r) : Turn r i (moved r i) (isLeap r i) := by
  obtain ⟨_, j, e⟩ := moves_iff.mp h
  exact turn_of e
theorem moved_rank {r : Row} {i : Nat} (h : i ∈ moves r) : rank (moved r i) = rank r + 1 := (turn_mem h).rank
theorem moved_length {r : Row} {i : Nat} (h : i ∈ moves r) : (moved r i).length = r.length := (turn_mem h).length
theorem moved_small {r : Row} {i : Nat} (h : i ∈ moves r) (s : ∀ x ∈ r, x ≤ 2) : ∀ x ∈ moved r i, x ≤ 2 := (turn_mem h).small s
theorem moves_sorted (r : Row) : (moves r).Pairwise (· < ·) := List.Pairwise.filter _ List.pairwise_lt_range
theorem moves_length (r : Row) : (moves r).length ≤ r.length := by
  have h := List.length_filter_le (fun i => (goal r i).isSome) (List.range r.length)
  rw [List.length_range] at h
  exact h

/-! ### The rank's bounds -/
theorem frogs_bound : ∀ l : List Nat, 0 ≤ frogs l ∧ frogs l ≤ l.length
  | [] => by simp [frogs]
  | x :: l => by
    have := frogs_bound l
    simp only [frogs, List.length_cons]
    split <;> omega
def tri : Int → Nat → Int
  | _, 0 => 0
  | k, m + 1 => k + tri (k + 1) m
theorem rk_low : ∀ (l : List Nat) (k : Int), 0 ≤ k → -(tri k l.length) ≤ rk k l
  | [], k, h => by simp [rk, tri]
  | x :: l, k, h => by
    have ih := rk_low l (k + 1) (by omega)
    have b := frogs_bound l
    simp only [rk, List.length_cons, tri]
    split
    · omega
    · split <;> omega
theorem rk_high : ∀ (l : List Nat) (k n : Int), 0 ≤ k → k + l.length ≤ n + 1 → rk k l ≤ n * l.length
  | [], k, n, h, h' => by simp [rk]
  | x :: l, k, n, h, h' => by
    simp only [List.length_cons] at h'
    have ih := rk_high l (k + 1) n (by omega) (by omega)
    have b := frogs_bound l
    have e : n * (((x :: l).length : Nat) : Int) = n * (l.length : Int) + n := by
      simp only [List.length_cons]; rw [Int.natCast_add, Int.mul_add]; simp
    rw [e]
    simp only [rk]
    split
    · omega
    · split <;> omega
theorem rank_bound {r : Row} (h : r.length ≤ 9) : -36 ≤ rank r ∧ rank r ≤ 72 := by
  have b := rk_low r 0 (by omega)
  have c := rk_high r 0 8 (by omega) (by omega)
  unfold rank
  refine ⟨?_, by omega⟩
  have q : ∀ m : Fin 10, tri 0 m.val ≤ 36 := by decide
  have := q ⟨r.length, by omega⟩
  simp only at this
  omega
end TF
end
section
set_option linter.all false
namespace TF
open Uw88

/-! ### Dropping what was met before -/
theorem ed_snoc (l : List Row) (a : Row) : (l ++ [a]).eraseDups = if a ∈ l then l.eraseDups else l.eraseDups ++ [a] := by
  rw [List.eraseDups_append]
  by_cases h : a ∈ l
  · rw [if_pos h]
    have : [a].removeAll l = [] := by simp [List.removeAll, h]
    rw [this]; simp
  · rw [if_neg h]
    have : [a].removeAll l = [a] := by simp [List.removeAll, h]
    rw [this]; simp [List.eraseDups_cons]
def push (acc : List Row) (x : Row) : List Row := if x ∈ acc then acc else acc ++ [x]
theorem snoc_ind {α : Type} {P : List α → Prop} (h0 : P []) (h1 : ∀ l a, P l → P (l ++ [a])) : ∀ l, P l := by
  intro l
  have : ∀ m : List α, P m.reverse := by
    intro m
    induction m with
    | nil => exact h0
    | cons a m ih => rw [List.reverse_cons]; exact h1 _ _ ih
  have := this l.reverse
  rwa [List.reverse_reverse] at this
theorem mem_ed {l : List Row} {a : Row} : a ∈ l.eraseDups ↔ a ∈ l := by
  induction l using snoc_ind with
  | h0 => simp
  | h1 l b ih =>
    rw [ed_snoc]
    split
    · rename_i h
      rw [ih]
      simp only [List.mem_append, List.mem_singleton]
      constructor
      · exact .inl
      · rintro (q | q)
        · exact q
        · rw [q]; exact h
    · simp [ih]
theorem ed_fold (l : List Row) : l.eraseDups = l.foldl push [] := by
  induction l using snoc_ind with
  | h0 => simp
  | h1 l b ih =>
    rw [ed_snoc, List.foldl_append, ← ih]
    simp only [List.foldl_cons, List.foldl_nil, push, mem_ed]
theorem ed_nodup (l : List Row) : l.eraseDups.Nodup := by
  induction l using snoc_ind with
  | h0 => simp
  | h1 l b ih =>
    rw [ed_snoc]
    split
    · exact ih
    · rename_i h
      rw [List.nodup_append]
      refine ⟨ih, by simp, ?_⟩
      intro a ha c hc
      rw [mem_ed] at ha
      simp at hc
      subst hc
      intro q; subst q; exact h ha
theorem push_in : ∀ (xs acc : List Row), (∀ x ∈ xs, x ∈ acc) → xs.foldl push acc = acc
  | [], acc, _ => rfl
  | x :: xs, acc, h => by
    rw [List.foldl_cons]
    have e : push acc x = acc := by unfold push; rw [if_pos (h x (by simp))]
    rw [e]
    exact push_in xs acc fun y hy => h y (by simp [hy])
theorem ed_flat (g : Row → List Row) (l : List Row) : (l.eraseDups.flatMap g).eraseDups = (l.flatMap g).eraseDups := by
  induction l using snoc_ind with
  | h0 => simp
  | h1 l b ih =>
    rw [ed_snoc]
    split
    · rename_i h
      rw [ih, ed_fold, ed_fold, List.flatMap_append, List.foldl_append]
      refine (push_in _ _ ?_).symm
      intro x hx
      simp at hx
      rw [← ed_fold, mem_ed, List.mem_flatMap]
      exact ⟨b, h, hx⟩
    · rw [List.flatMap_append, List.flatMap_append, ed_fold (l.eraseDups.flatMap g ++ _), ed_fold (l.flatMap g ++ _), List.foldl_append, List.foldl_append, ← ed_fold, ← ed_fold, ih]

/-! ### All ways of k moves, in order -/
def nexts (r : Row) : List Row := (moves r).map (moved r)
def W : Nat → Row → List (List Nat × Row)
  | 0, r => [([], r)]
  | k + 1, r => (moves r).flatMap fun i => (W k (moved r i)).map fun x => (i :: x.1, x.2)
/-- where they end -/
def E (k : Nat) (r : Row) : List Row := (W k r).map (·.2)
theorem W_back : ∀ (k : Nat) (r : Row), W (k + 1) r = (W k r).flatMap fun x => (moves x.2).map fun i => (x.1 ++ [i], moved x.2 i)
  | 0, r => by
    simp only [W, List.map_cons, List.map_nil, List.flatMap_cons, List.flatMap_nil, List.append_nil, List.nil_append]
    rw [← List.map_eq_flatMap]
  | k + 1, r => by
    show (moves r).flatMap (fun i => (W (k + 1) (moved r i)).map fun x => (i :: x.1, x.2)) = ((moves r).flatMap fun i => (W k (moved r i)).map fun x => (i :: x.1, x.2)).flatMap _
    rw [List.flatMap_assoc]
    congr 1
    funext i
    rw [W_back k (moved r i), List.map_flatMap, List.flatMap_map]
    congr 1
    funext x
    rw [List.map_map]
    rfl
theorem E_zero (r : Row) : E 0 r = [r] := rfl
theorem E_front (k : Nat) (r : Row) : E (k + 1) r = (moves r).flatMap fun i => E k (moved r i) := by
  unfold E
  simp only [W, List.map_flatMap, List.map_map]
  rfl
theorem E_back (k : Nat) (r : Row) : E (k + 1) r = (E k r).flatMap nexts := by
  unfold E
  rw [W_back, List.map_flatMap, List.flatMap_map]
  congr 1
  funext x
  simp [nexts]
structure Fine (r : Row) : Prop where
  len : r.length ≤ 9
  small : ∀ x ∈ r, x ≤ 2
theorem Fine.moved {r : Row} (h : Fine r) {i : Nat} (hi : i ∈ moves r) : Fine (moved r i) := ⟨by rw [moved_length hi]; exact h.len, moved_small hi h.small⟩
theorem E_rank : ∀ (k : Nat) {r e : Row}, e ∈ E k r → rank e = rank r + k
  | 0, r, e, h => by simp [E_zero] at h; subst h; simp
  | k + 1, r, e, h => by
    rw [E_front, List.mem_flatMap] at h
    obtain ⟨i, hi, he⟩ := h
    rw [E_rank k he, moved_rank hi]
    omega
theorem E_length : ∀ (k : Nat) {r e : Row}, e ∈ E k r → e.length = r.length
  | 0, r, e, h => by simp [E_zero] at h; subst h; simp
  | k + 1, r, e, h => by
    rw [E_front, List.mem_flatMap] at h
    obtain ⟨i, hi, he⟩ := h
    rw [E_length k he, moved_length hi]
theorem E_fine : ∀ (k : Nat) {r e : Row}, Fine r → e ∈ E k r → Fine e
  | 0, r, e, f, h => by simp [E_zero] at h; subst h; exact f
  | k + 1, r, e, f, h => by
    rw [E_front, List.mem_flatMap] at h
    obtain ⟨i, hi, he⟩ := h
    exact E_fine k (f.moved hi) he
theorem E_end {k : Nat} {r : Row} (f : r.length ≤ 9) (h : 108 < k) : E k r = [] := by
  cases e : E k r with
  | nil => rfl
  | cons a l =>
    have m : a ∈ E k r := by rw [e]; simp
    have h1 := E_rank k m
    have h2 := rank_bound f
    have h3 := rank_bound (r := a) (by rw [E_length k m]; exact f)
    omega

/-! ### The waves -/
def it : Nat → List Row → List Row
  | 0, l => l
  | k + 1, l => it k (further l)
theorem further_eq (l : List Row) : further l = (l.flatMap nexts).eraseDups := rfl
theorem further_nil : further [] = [] := rfl
theorem it_nil : ∀ k, it k [] = []
  | 0 => rfl
  | k + 1 => it_nil k
theorem it_succ : ∀ (k : Nat) (l : List Row), it (k + 1) l = further (it k l)
  | 0, l => rfl
  | k + 1, l => it_succ k (further l)
/-- the rows that come by k moves, each once -/
def L (k : Nat) (r : Row) : List Row := it k [r]
theorem L_E : ∀ (k : Nat) (r : Row), L k r = (E k r).eraseDups
  | 0, r => by simp [L, it, E_zero, List.eraseDups_cons]
  | k + 1, r => by
    show it (k + 1) [r] = _
    rw [it_succ, further_eq, E_back, ← ed_flat nexts (E k r), ← L_E k r]
    rfl
theorem L_succ (k : Nat) (r : Row) : L (k + 1) r = further (L k r) := it_succ k [r]
theorem mem_L {k : Nat} {r e : Row} : e ∈ L k r ↔ e ∈ E k r := by rw [L_E, mem_ed]
theorem L_nodup (k : Nat) (r : Row) : (L k r).Nodup := by rw [L_E]; exact ed_nodup _
theorem L_end {k : Nat} {r : Row} (f : r.length ≤ 9) (h : 108 < k) : L k r = [] := by rw [L_E, E_end f h]; rfl
theorem waves_at : ∀ (f k : Nat) (l : List Row), (waves f l)[k]? = if k < f ∧ it k l ≠ [] then some (it k l) else none
  | 0, k, l => by simp [waves]
  | f + 1, k, l => by
    unfold waves
    cases l with
    | nil => simp [it_nil]
    | cons a l =>
      simp only [List.isEmpty_cons]
      cases k with
      | zero => simp [it]
      | succ k =>
        simp only [Bool.false_eq_true, if_false, List.getElem?_cons_succ]
        rw [waves_at f k]
        simp only [Nat.add_lt_add_iff_right]
        rfl
theorem waves_get {r : Row} (f : r.length ≤ 9) (k : Nat) : (waves FUEL [r])[k]? = if L k r ≠ [] then some (L k r) else none := by
  rw [waves_at]
  by_cases h : k < FUEL
  · simp [h]; rfl
  · have : L k r = [] := L_end f (by unfold FUEL at h; omega)
    rw [if_neg (fun q => h q.1), if_neg (fun q => q this)]
theorem E_unique {j k : Nat} {r t : Row} (h : t ∈ E j r) (h' : t ∈ E k r) : j = k := by
  have := E_rank j h
  have := E_rank k h'
  omega
theorem far_some {r t : Row} (f : r.length ≤ 9) {k : Nat} (h : t ∈ E k r) : far r t = some k := by
  unfold far
  have m : t ∈ L k r := mem_L.mpr h
  have g := waves_get f k
  rw [if_pos (List.ne_nil_of_mem m)] at g
  obtain ⟨lt, eq⟩ := List.getElem?_eq_some_iff.mp g
  rw [List.findIdx?_eq_some_iff_getElem]
  refine ⟨lt, by rw [eq]; simpa using m, ?_⟩
  intro j hj q
  have g' := waves_get f j
  rw [List.getElem?_eq_getElem (by omega)] at g'
  split at g'
  · have e := Option.some.inj g'
    rw [e] at q
    have m' : t ∈ L j r := by simpa using q
    have := E_unique h (mem_L.mp m')
    omega
  · cases g'
theorem far_none {r t : Row} (f : r.length ≤ 9) (h : ∀ k, t ∉ E k r) : far r t = none := by
  unfold far
  rw [List.findIdx?_eq_none_iff]
  intro l hl
  obtain ⟨k, hk⟩ := List.mem_iff_getElem?.mp hl
  rw [waves_get f] at hk
  split at hk
  · cases hk
    have := h k
    rw [← mem_L] at this
    simpa using this
  · cases hk
theorem comes_mem {r t : Row} (f : r.length ≤ 9) : t ∈ comes r ↔ ∃ k, t ∈ E k r := by
  unfold comes
  rw [List.mem_flatten]
  constructor
  · rintro ⟨l, hl, ht⟩
    obtain ⟨k, hk⟩ := List.mem_iff_getElem?.mp hl
    rw [waves_get f] at hk
    split at hk
    · cases hk; exact ⟨k, mem_L.mp ht⟩
    · cases hk
  · rintro ⟨k, hk⟩
    have m := mem_L.mpr hk
    refine ⟨L k r, ?_, m⟩
    have g := waves_get f k
    rw [if_pos (List.ne_nil_of_mem m)] at g
    exact List.mem_of_getElem? g
end TF
end
section
set_option linter.all false
namespace TF
open Uw88

/-! ### How many ways lead to t, and the first of them -/
def dist (s t : Row) : Nat := (rank t - rank s).toNat
def cnt (t s : Row) : Nat := if rank s ≤ rank t then (E (dist s t) s).count t else 0
theorem cnt_self (t : Row) : cnt t t = 1 := by
  unfold cnt dist
  rw [if_pos (Int.le_refl _), Int.sub_self]
  simp [E_zero]
theorem cnt_above {t s : Row} (h : rank t < rank s) : cnt t s = 0 := by
  unfold cnt
  rw [if_neg (by omega)]
theorem cnt_E {t s : Row} {k : Nat} (h : rank t = rank s + k) : cnt t s = (E k s).count t := by
  unfold cnt dist
  rw [if_pos (by omega)]
  congr 2
  omega
theorem cnt_pos {t s : Row} : cnt t s ≠ 0 ↔ ∃ k, t ∈ E k s := by
  constructor
  · intro h
    unfold cnt at h
    split at h
    · exact ⟨dist s t, List.count_pos_iff.mp (by omega)⟩
    · exact absurd rfl h
  · rintro ⟨k, hk⟩
    rw [cnt_E (E_rank k hk)]
    have := List.count_pos_iff.mpr hk
    omega
theorem cnt_next {t s : Row} (h : s ≠ t) : cnt t s = ((moves s).map fun i => cnt t (moved s i)).sum := by
  by_cases h1 : rank s < rank t
  · obtain ⟨k, hk⟩ : ∃ k : Nat, rank t = rank s + (k + 1 : Nat) := ⟨(rank t - rank s - 1).toNat, by omega⟩
    rw [cnt_E hk, E_front, List.count_flatMap]
    congr 1
    refine List.map_congr_left fun i hi => ?_
    show (E k (moved s i)).count t = cnt t (moved s i)
    rw [cnt_E]
    rw [moved_rank hi, hk]
    omega
  · have e1 : cnt t s = 0 := by
      by_cases h2 : rank s = rank t
      · rw [cnt_E (k := 0) (by simp [h2]), E_zero]
        simp [h]
      · exact cnt_above (by omega)
    rw [e1]
    have e2 : ((moves s).map fun i => cnt t (moved s i)) = (moves s).map fun _ => 0 := by
      refine List.map_congr_left fun i hi => cnt_above ?_
      rw [moved_rank hi]
      omega
    rw [e2]
    induction moves s with
    | nil => rfl
    | cons a l ih => simpa using ih
def tab (t : Row) (l : List Row) : List (Row × Nat) := l.filterMap fun s => if cnt t s = 0 then none else some (s, cnt t s)
theorem tab_find (t s : Row) : ∀ l : List Row, s ∈ l → ((tab t l).find? fun x => x.1 == s) = if cnt t s = 0 then none else some (s, cnt t s)
  | [], h => by cases h
  | a :: l, h => by
    unfold tab
    rw [List.filterMap_cons]
    by_cases e : a = s
    · subst e
      by_cases c : cnt t a = 0
      · simp only [c, if_true]
        rw [List.find?_eq_none]
        intro x hx
        rw [List.mem_filterMap] at hx
        obtain ⟨b, hb, q⟩ := hx
        split at q
        · cases q
        · rename_i c'
          cases q
          intro z
          have z' : b = a := by simpa using z
          subst z'
          exact c' c
      · simp [c]
    · have m : s ∈ l := by
        rcases List.mem_cons.mp h with q | q
        · exact absurd q.symm e
        · exact q
      have ih := tab_find t s l m
      by_cases c : cnt t a = 0
      · simp only [c, if_true]
        exact ih
      · simp only [c, if_false, List.find?_cons]
        have : (a == s) = false := by simpa using e
        rw [this]
        exact ih
theorem tab_val {t s : Row} {l : List Row} (h : s ∈ l) : (((tab t l).find? fun x => x.1 == s).map fun x => x.2).getD 0 = cnt t s := by
  rw [tab_find t s l h]
  split
  · rename_i c; simp [c]
  · simp
theorem tab_any {t s : Row} {l : List Row} (h : s ∈ l) : ((tab t l).any fun x => x.1 == s) = decide (cnt t s ≠ 0) := by
  rw [← List.isSome_find?, tab_find t s l h]
  split
  · rename_i c; simp [c]
  · rename_i c; simp [c]
theorem foldl_sum : ∀ (l : List Nat) (a : Nat), l.foldl (fun a b => a + b) a = a + l.sum
  | [], a => by simp
  | x :: l, a => by rw [List.foldl_cons, foldl_sum l, List.sum_cons]; omega
def hereOf (t : Row) (l : List Row) (behind : List (Row × Nat)) : List (Row × Nat) :=
  l.filterMap fun r => let n := if r = t then 1 else ((moves r).map fun i => ((behind.find? fun x => x.1 == moved r i).map fun x => x.2).getD 0).foldl (fun a b => a + b) 0
    if n = 0 then none else some (r, n)
theorem back_snoc (t : Row) : ∀ (xs : List (List Row)) (l : List Row) (b : List (Row × Nat)), back t (xs ++ [l]) b = back t xs b ++ [hereOf t l ((back t xs b).getLastD b)]
  | [], l, b => rfl
  | x :: xs, l, b => by
    show hereOf t x b :: back t (xs ++ [l]) (hereOf t x b) = hereOf t x b :: back t xs (hereOf t x b) ++ _
    rw [back_snoc t xs l]
    rw [List.cons_append]
    congr 2
    show _ = [hereOf t l ((hereOf t x b :: back t xs (hereOf t x b)).getLastD b)]
    rw [List.getLastD_cons]
theorem mem_further {l : List Row} {s : Row} {i : Nat} (hs : s ∈ l) (hi : i ∈ moves s) : moved s i ∈ further l := by
  rw [further_eq, mem_ed, List.mem_flatMap]
  exact ⟨s, hs, List.mem_map.mpr ⟨i, hi, rfl⟩⟩
theorem further_none {l : List Row} (h : further l = []) {s : Row} (hs : s ∈ l) : moves s = [] := by
  cases e : moves s with
  | nil => rfl
  | cons i m =>
    have q := mem_further (i := i) hs (by rw [e]; simp)
    rw [h] at q
    cases q
theorem filterMap_congr' {α β : Type} {f g : α → Option β} : ∀ (l : List α), (∀ a ∈ l, f a = g a) → l.filterMap f = l.filterMap g
  | [], _ => rfl
  | a :: l, h => by
    rw [List.filterMap_cons, List.filterMap_cons, h a (by simp), filterMap_congr' l fun b hb => h b (by simp [hb])]
theorem here_tab (t : Row) (l : List Row) : hereOf t l (tab t (further l)) = tab t l := by
  unfold hereOf tab
  refine filterMap_congr' l fun s hs => ?_
  have e : (if s = t then 1 else ((moves s).map fun i => (((tab t (further l)).find? fun x => x.1 == moved s i).map fun x => x.2).getD 0).foldl (fun a b => a + b) 0) = cnt t s := by
    split
    · rename_i q; rw [q, cnt_self]
    · rename_i q
      rw [foldl_sum, Nat.zero_add, cnt_next q]
      congr 1
      exact List.map_congr_left fun i hi => tab_val (mem_further hs hi)
  simp only [tab] at e
  simp only [e]
theorem waves_nil : ∀ f, waves f [] = []
  | 0 => rfl
  | f + 1 => rfl
theorem waves_step {f : Nat} {l : List Row} (h : l ≠ []) : waves (f + 1) l = l :: waves f (further l) := by
  cases l with
  | nil => exact absurd rfl h
  | cons a l => rfl
theorem headD_waves (t : Row) (f : Nat) (l : List Row) (h : it f l = []) : ((waves f l).map (tab t)).headD [] = tab t l := by
  cases f with
  | zero => have e : l = [] := h; subst e; rfl
  | succ f =>
    by_cases e : l = []
    · subst e; rfl
    · rw [waves_step e]; rfl
theorem back_waves (t : Row) : ∀ (f : Nat) (l : List Row), it f l = [] → back t (waves f l).reverse [] = ((waves f l).map (tab t)).reverse
  | 0, l, _ => rfl
  | f + 1, l, h => by
    by_cases e : l = []
    · subst e; rfl
    · rw [waves_step e, List.reverse_cons, back_snoc, back_waves t f (further l) h, List.map_cons, List.reverse_cons]
      congr 2
      have q : (((waves f (further l)).map (tab t)).reverse).getLastD [] = tab t (further l) := by
        rw [List.getLastD_eq_getLast?, List.getLast?_reverse, ← headD_waves t f (further l) h, List.headD_eq_head?_getD]
      rw [q, here_tab]
theorem leading_eq {r : Row} (f : r.length ≤ 9) (t : Row) : leading r t = (waves FUEL [r]).map (tab t) := by
  unfold leading
  rw [back_waves t FUEL [r] (L_end f (by decide)), List.reverse_reverse]
theorem ways_eq {r : Row} (f : r.length ≤ 9) (t : Row) : ways r t = cnt t r := by
  unfold ways
  rw [leading_eq f, headD_waves t FUEL [r] (L_end f (by decide)), tab_find t r [r] (by simp)]
  split
  · rename_i c; rw [c]; rfl
  · rfl

/-! ### The first way -/
def fw (t s : Row) : List Nat := ((W (dist s t) s).find? fun x => x.2 == t).elim [] fun x => x.1
theorem fw_self (t : Row) : fw t t = [] := by
  unfold fw dist
  rw [Int.sub_self]
  simp [W]
theorem findSome_find {α β : Type} (f : α → Option β) : ∀ l : List α, l.findSome? f = match l.find? fun a => (f a).isSome with
    | none => none
    | some a => f a
  | [] => rfl
  | a :: l => by
    rw [List.findSome?_cons, List.find?_cons]
    cases e : f a with
    | none => simp only [Option.isSome_none]; exact findSome_find f l
    | some b => simp [e]
theorem W_E {k : Nat} {s t : Row} : ((W k s).find? fun x => x.2 == t).isSome = decide (t ∈ E k s) := by
  rw [List.isSome_find?, Bool.eq_iff_iff, List.any_eq_true]
  simp only [decide_eq_true_eq, E, List.mem_map]
  constructor
  · rintro ⟨x, hx, e⟩; exact ⟨x, hx, by simpa using e⟩
  · rintro ⟨x, hx, e⟩; exact ⟨x, hx, by simpa using e⟩
theorem fw_none {t s : Row} (h : cnt t s = 0) : fw t s = [] := by
  unfold fw
  have : ((W (dist s t) s).find? fun x => x.2 == t).isSome = false := by
    rw [W_E, decide_eq_false_iff_not]
    intro q
    exact absurd h (cnt_pos.mpr ⟨_, q⟩)
  cases e : (W (dist s t) s).find? fun x => x.2 == t with
  | none => rfl
  | some x => rw [e] at this; cases this
theorem find_congr {α : Type} {p q : α → Bool} : ∀ (l : List α), (∀ a ∈ l, p a = q a) → l.find? p = l.find? q
  | [], _ => rfl
  | a :: l, h => by
    rw [List.find?_cons, List.find?_cons, h a (by simp), find_congr l fun b hb => h b (by simp [hb])]
theorem fw_next {t s : Row} (h : s ≠ t) : fw t s = match (moves s).find? fun i => decide (cnt t (moved s i) ≠ 0) with
    | none => []
    | some i => i :: fw t (moved s i) := by
  by_cases h1 : rank s < rank t
  · obtain ⟨k, hk⟩ : ∃ k : Nat, rank t = rank s + (k + 1 : Nat) := ⟨(rank t - rank s - 1).toNat, by omega⟩
    have d : dist s t = k + 1 := by unfold dist; omega
    have dm : ∀ i ∈ moves s, dist (moved s i) t = k := fun i hi => by unfold dist; rw [moved_rank hi]; omega
    have pm : ∀ i ∈ moves s, (((W k (moved s i)).map fun x => (i :: x.1, x.2)).find? fun x => x.2 == t).isSome = decide (cnt t (moved s i) ≠ 0) := by
      intro i hi
      rw [List.find?_map, Option.isSome_map]
      show ((W k (moved s i)).find? fun x => x.2 == t).isSome = _
      rw [W_E, decide_eq_decide, cnt_pos]
      constructor
      · intro q; exact ⟨k, q⟩
      · rintro ⟨j, hj⟩
        have := E_rank j hj
        rw [moved_rank hi] at this
        have e : j = k := by omega
        rw [← e]; exact hj
    unfold fw
    rw [d]
    simp only [W]
    rw [List.find?_flatMap, findSome_find, find_congr _ pm]
    cases e : (moves s).find? fun i => decide (cnt t (moved s i) ≠ 0) with
    | none => rfl
    | some i =>
      have hi := List.mem_of_find?_eq_some e
      simp only []
      rw [dm i hi, List.find?_map]
      have q := pm i hi
      rw [List.find?_map, Option.isSome_map] at q
      have c := List.find?_some e
      rw [c] at q
      have q' : ((W k (moved s i)).find? fun x => x.2 == t).isSome = true := q
      show Option.elim (Option.map _ ((W k (moved s i)).find? fun x => x.2 == t)) [] _ = _
      cases z : (W k (moved s i)).find? fun x => x.2 == t with
      | none => rw [z] at q'; cases q'
      | some x => rfl
  · have c0 : cnt t s = 0 := by
      by_cases h2 : rank s = rank t
      · rw [cnt_E (k := 0) (by simp [h2]), E_zero]; simp [h]
      · exact cnt_above (by omega)
    rw [fw_none c0]
    have : ((moves s).find? fun i => decide (cnt t (moved s i) ≠ 0)) = none := by
      rw [List.find?_eq_none]
      intro i hi q
      have c1 := cnt_above (t := t) (s := moved s i) (by rw [moved_rank hi]; omega)
      simp [c1] at q
    rw [this]
theorem firstBy_waves (t : Row) : ∀ (f : Nat) (l : List Row) (s : Row), it f l = [] → s ∈ l → firstBy (((waves f l).map (tab t)).drop 1) t s = fw t s
  | 0, l, s, h, hs => by
    have e : l = [] := h
    subst e; cases hs
  | f + 1, l, s, h, hs => by
    rw [waves_step (List.ne_nil_of_mem hs), List.map_cons, List.drop_one, List.tail_cons]
    by_cases e : further l = []
    · rw [e, waves_nil]
      show [] = _
      have m := further_none e hs
      by_cases q : s = t
      · rw [q, fw_self]
      · rw [fw_next q, m]; rfl
    · cases f with
      | zero => exact absurd h e
      | succ f =>
        have ih := fun s' => firstBy_waves t (f + 1) (further l) s' h
        rw [waves_step e, List.map_cons, List.drop_one, List.tail_cons] at ih
        rw [waves_step e, List.map_cons]
        show (if s = t then [] else match (moves s).find? fun i => (tab t (further l)).any fun x => x.1 == moved s i with
          | none => []
          | some i => i :: firstBy ((waves f (further (further l))).map (tab t)) t (moved s i)) = _
        by_cases q : s = t
        · rw [if_pos q, q, fw_self]
        · rw [if_neg q, fw_next q, find_congr (moves s) (fun i hi => tab_any (t := t) (mem_further hs hi))]
          cases z : (moves s).find? fun i => decide (cnt t (moved s i) ≠ 0) with
          | none => rfl
          | some i =>
            have hi := List.mem_of_find?_eq_some z
            simp only []
            rw [ih _ (mem_further hs hi)]
theorem firstWay_eq {r : Row} (f : r.length ≤ 9) (t : Row) : firstWay r t = fw t r := by
  unfold firstWay
  rw [leading_eq f]
  exact firstBy_waves t FUEL [r] r (L_end f (by decide)) (by simp)
end TF
end
section
set_option linter.all false
namespace TF
open Uw88

/-! ### Counting forward: layer by layer -/
theorem sum_map_add {α : Type} (f g : α → Nat) : ∀ l : List α, (l.map fun a => f a + g a).sum = (l.map f).sum + (l.map g).sum
  | [] => rfl
  | a :: l => by simp only [List.map_cons, List.sum_cons, sum_map_add f g l]; omega
theorem sum_map_zero {α : Type} (f : α → Nat) : ∀ l : List α, (∀ a ∈ l, f a = 0) → (l.map f).sum = 0
  | [], _ => rfl
  | a :: l, h => by simp only [List.map_cons, List.sum_cons, h a (by simp), sum_map_zero f l fun b hb => h b (by simp [hb])]
theorem sum_one (x : Nat) (a : Row) : ∀ l : List Row, l.Nodup → a ∈ l → (l.map fun e => if e = a then x else 0).sum = x
  | [], _, h => by cases h
  | b :: l, hn, h => by
    obtain ⟨h1, h2⟩ := List.nodup_cons.mp hn
    simp only [List.map_cons, List.sum_cons]
    by_cases e : b = a
    · subst e
      rw [if_pos rfl, sum_map_zero]
      · rfl
      · intro c hc
        rw [if_neg (show ¬ c = b from fun q => h1 (q ▸ hc))]
    · rw [if_neg e, sum_one x a l h2]
      · omega
      · rcases List.mem_cons.mp h with q | q
        · exact absurd q.symm e
        · exact q
theorem count_flat (g : Row → List Row) (u : Row) (l : List Row) : (l.flatMap g).count u = (l.eraseDups.map fun e => l.count e * (g e).count u).sum := by
  induction l using snoc_ind with
  | h0 => rfl
  | h1 l b ih =>
    rw [List.flatMap_append, List.count_append, ih, ed_snoc]
    have e1 : ([b].flatMap g).count u = (g b).count u := by simp
    rw [e1]
    have e2 : ∀ e, (l ++ [b]).count e * (g e).count u = l.count e * (g e).count u + if e = b then (g b).count u else 0 := by
      intro e
      rw [List.count_append, Nat.add_mul]
      congr 1
      by_cases q : e = b
      · subst q; simp
      · rw [if_neg q]
        have : [b].count e = 0 := by
          rw [List.count_eq_zero]; simpa using q
        rw [this]; simp
    split
    · rename_i h
      simp only [e2]
      rw [sum_map_add, sum_one _ b _ (ed_nodup l) (mem_ed.mpr h)]
    · rename_i h
      simp only [e2]
      rw [List.map_append, List.sum_append, sum_map_add, sum_map_zero (fun e => if e = b then (g b).count u else 0)]
      · simp [List.count_eq_zero_of_not_mem h]
      · intro e he
        rw [if_neg]
        intro q
        subst q
        exact h (mem_ed.mp he)
theorem E_count (k : Nat) (r u : Row) : (E (k + 1) r).count u = ((L k r).map fun e => (E k r).count e * (nexts e).count u).sum := by
  rw [E_back, count_flat, L_E]

/-! ### The first way, forward: the first row of a layer from which it comes, by its first move there -/
def fk (k : Nat) (r u : Row) : Option (List Nat) := ((W k r).find? fun x => x.2 == u).map (·.1)
theorem fw_fk {k : Nat} {r u : Row} (h : u ∈ E k r) : fk k r u = some (fw u r) := by
  have d : dist r u = k := by unfold dist; have := E_rank k h; omega
  unfold fk fw
  rw [d]
  have := W_E (k := k) (s := r) (t := u)
  rw [decide_eq_true h] at this
  cases e : (W k r).find? fun x => x.2 == u with
  | none => rw [e] at this; cases this
  | some x => rfl
theorem find_first {α : Type} (p : α → Bool) : ∀ (l : List α) (a : α), l.find? p = some a → ∃ l1 l2, l = l1 ++ a :: l2 ∧ (∀ b ∈ l1, p b = false) ∧ p a = true
  | [], a, h => by cases h
  | b :: l, a, h => by
    rw [List.find?_cons] at h
    cases e : p b with
    | true => rw [e] at h; cases h; exact ⟨[], l, rfl, (fun _ q => nomatch q), e⟩
    | false =>
      rw [e] at h
      obtain ⟨l1, l2, rfl, h1, h2⟩ := find_first p l a h
      refine ⟨b :: l1, l2, rfl, ?_, h2⟩
      intro c hc
      rcases List.mem_cons.mp hc with q | q
      · rw [q]; exact e
      · exact h1 c q
/-- a search over where ways end is a search over the rows, each once -/
theorem find_ends (p : Row → Bool) (l : List (List Nat × Row)) : ((l.map (·.2)).eraseDups.find? p) = (l.find? fun x => p x.2).map (·.2) := by
  induction l using snoc_ind with
  | h0 => rfl
  | h1 l b ih =>
    rw [List.map_append, List.map_cons, List.map_nil, ed_snoc, List.find?_append, Option.map_or]
    split
    · rename_i h
      rw [ih]
      cases e : l.find? fun x => p x.2 with
      | some x => rfl
      | none =>
        rw [List.find?_eq_none] at e
        obtain ⟨x, hx, q⟩ := List.mem_map.mp h
        have := e x hx
        rw [q] at this
        simp only [Option.map_none, Option.none_or, List.find?_cons, List.find?_nil]
        cases z : p b.2 with
        | true => exact absurd z this
        | false => rfl
    · rw [List.find?_append, ih]
      congr 1
      simp only [List.find?_cons, List.find?_nil]
      cases p b.2 <;> rfl
theorem find_same (l : List (List Nat × Row)) (p : Row → Bool) (x : List Nat × Row) (h : (l.find? fun x => p x.2) = some x) : (l.find? fun y => y.2 == x.2) = some x := by
  obtain ⟨l1, l2, rfl, h1, h2⟩ := find_first _ l x h
  rw [List.find?_append, List.find?_cons]
  have : (l1.find? fun y => y.2 == x.2) = none := by
    rw [List.find?_eq_none]
    intro y hy q
    have e : y.2 = x.2 := by simpa using q
    have := h1 y hy
    simp only [e] at this
    rw [this] at h2
    cases h2
  rw [this]
  simp
/-- the first way's last move -/
theorem fw_last {k : Nat} {r u e : Row} {i : Nat} (he : ((L k r).find? fun e => (nexts e).contains u) = some e) (hi : ((moves e).find? fun i => moved e i == u) = some i) :
    u ∈ E (k + 1) r ∧ e ∈ E k r ∧ fw u r = fw e r ++ [i] := by
  have hme := List.mem_of_find?_eq_some he
  have hE : e ∈ E k r := mem_L.mp hme
  have hmi := List.mem_of_find?_eq_some hi
  have hu : moved e i = u := by simpa using List.find?_some hi
  have huE : u ∈ E (k + 1) r := by
    rw [E_back, List.mem_flatMap]
    exact ⟨e, hE, List.mem_map.mpr ⟨i, hmi, hu⟩⟩
  refine ⟨huE, hE, ?_⟩
  rw [L_E] at he
  unfold E at he
  rw [find_ends (fun e => (nexts e).contains u)] at he
  cases z : (W k r).find? fun x => (nexts x.2).contains u with
  | none => rw [z] at he; cases he
  | some x =>
    rw [z] at he
    have ex : x.2 = e := Option.some.inj he
    have s := find_same (W k r) (fun e => (nexts e).contains u) x z
    have f1 : fk k r e = some x.1 := by
      unfold fk
      rw [← ex, s]; rfl
    have f2 := fw_fk hE
    rw [f1] at f2
    have f3 : fk (k + 1) r u = some (x.1 ++ [i]) := by
      unfold fk
      rw [W_back, List.find?_flatMap, findSome_find]
      have q : ∀ y ∈ W k r, (((moves y.2).map fun i => (y.1 ++ [i], moved y.2 i)).find? fun x => x.2 == u).isSome = (nexts y.2).contains u := by
        intro y _
        rw [List.isSome_find?, List.any_map, List.contains_eq_any_beq]
        unfold nexts
        rw [List.any_map]
        congr 1
        funext j
        simp only [Function.comp]
        rw [Bool.eq_iff_iff]
        simp only [beq_iff_eq]
        exact ⟨fun h => h.symm, fun h => h.symm⟩
      rw [find_congr _ q, z]
      simp only []
      rw [List.find?_map]
      have : ((fun (x : List Nat × Row) => x.2 == u) ∘ fun i => (x.1 ++ [i], moved x.2 i)) = fun i => moved e i == u := by
        funext j
        simp only [Function.comp, ex]
      rw [this, ex, hi]
      rfl
    rw [fw_fk huE] at f3
    have g1 := Option.some.inj f2
    have g3 := Option.some.inj f3
    rw [g3, g1]

/-! ### The rest of the specification in these words -/
theorem far_isSome {r t : Row} (f : r.length ≤ 9) : (far r t).isSome = decide (cnt t r ≠ 0) := by
  by_cases h : cnt t r ≠ 0
  · obtain ⟨k, hk⟩ := cnt_pos.mp h
    rw [far_some f hk, decide_eq_true h]; rfl
  · rw [far_none f (fun k hk => h (cnt_pos.mpr ⟨k, hk⟩)), decide_eq_false h]; rfl
theorem safe_eq {r t : Row} (f : r.length ≤ 9) : safe r t = (moves r).filter fun i => decide (cnt t (moved r i) ≠ 0) := by
  unfold safe
  refine List.filter_congr fun i hi => far_isSome ?_
  rw [moved_length hi]; exact f
theorem W_length : ∀ (k : Nat) {r : Row} {x : List Nat × Row}, x ∈ W k r → x.1.length = k
  | 0, r, x, h => by simp [W] at h; rw [h]; rfl
  | k + 1, r, x, h => by
    simp only [W, List.mem_flatMap, List.mem_map] at h
    obtain ⟨i, _, y, hy, rfl⟩ := h
    simp [W_length k hy]
theorem fw_length {k : Nat} {r t : Row} (h : t ∈ E k r) : (fw t r).length = k := by
  have f := fw_fk h
  unfold fk at f
  cases e : (W k r).find? fun x => x.2 == t with
  | none => rw [e] at f; cases f
  | some x =>
    rw [e] at f
    rw [← Option.some.inj f]
    exact W_length k (List.mem_of_find?_eq_some e)
theorem W_sorted : ∀ (k : Nat) (r : Row), (W k r).Pairwise fun x y => x.1 < y.1
  | 0, r => by simp [W]
  | k + 1, r => by
    simp only [W]
    rw [List.pairwise_flatMap]
    constructor
    · intro i _
      rw [List.pairwise_map]
      refine List.Pairwise.imp ?_ (W_sorted k (moved r i))
      intro a b h
      exact List.Lex.cons h
    · refine List.Pairwise.imp ?_ (moves_sorted r)
      intro a b h x hx y hy
      obtain ⟨x', _, rfl⟩ := List.mem_map.mp hx
      obtain ⟨y', _, rfl⟩ := List.mem_map.mp hy
      exact List.Lex.rel h
theorem W_first {k : Nat} {r t0 : Row} {p0 : List Nat} {rest : List (List Nat × Row)} (h : W k r = (p0, t0) :: rest) : fw t0 r = p0 ∧ ∀ t ∈ E k r, fw t r = p0 ∨ p0 < fw t r := by
  constructor
  · have m : t0 ∈ E k r := by unfold E; rw [h]; simp
    have f := fw_fk m
    unfold fk at f
    rw [h] at f
    simp at f
    exact f.symm
  · intro t ht
    have f := fw_fk ht
    unfold fk at f
    cases e : (W k r).find? fun x => x.2 == t with
    | none => rw [e] at f; cases f
    | some x =>
      rw [e] at f
      rw [← Option.some.inj f]
      have m := List.mem_of_find?_eq_some e
      rw [h] at m
      have s := W_sorted k r
      rw [h] at s
      rcases List.mem_cons.mp m with q | q
      · rw [q]; exact .inl rfl
      · exact .inr ((List.pairwise_cons.mp s).1 x q)
def better (m : Option (List Nat)) (p : List Nat) : Option (List Nat) := match m with
  | none => some p
  | some q => if p < q then some p else some q
theorem better_stays (p0 : List Nat) : ∀ l : List (List Nat), (∀ p ∈ l, p = p0 ∨ p0 < p) → l.foldl better (some p0) = some p0
  | [], _ => rfl
  | p :: l, h => by
    rw [List.foldl_cons]
    have e : better (some p0) p = some p0 := by
      unfold better
      simp only []
      split
      · rename_i q
        rcases h p (by simp) with z | z
        · rw [z]
        · exact absurd q (List.lt_asymm z)
      · rfl
    rw [e]
    exact better_stays p0 l fun q hq => h q (by simp [hq])
theorem waves_last {r : Row} (f : r.length ≤ 9) {k : Nat} (h1 : L k r ≠ []) (h2 : L (k + 1) r = []) : (waves FUEL [r]).getLast? = some (L k r) ∧ (waves FUEL [r]).length = k + 1 := by
  have g1 := waves_get f k
  rw [if_pos h1] at g1
  have g2 := waves_get f (k + 1)
  rw [if_neg (fun q => q h2)] at g2
  have a := (List.getElem?_eq_some_iff.mp g1).1
  have b := List.getElem?_eq_none_iff.mp g2
  have e : (waves FUEL [r]).length = k + 1 := by omega
  refine ⟨?_, e⟩
  rw [List.getLast?_eq_getElem?, e]
  exact g1
theorem longest_eq {r : Row} (f : r.length ≤ 9) {k : Nat} {t0 : Row} {rest : List Row} (h1 : L k r = t0 :: rest) (h2 : L (k + 1) r = []) : longest r = fw t0 r := by
  unfold longest
  simp only []
  rw [(waves_last f (by rw [h1]; simp) h2).1]
  simp only []
  have ew : ∃ p0 re, W k r = (p0, t0) :: re := by
    cases e : W k r with
    | nil =>
      have : L k r = [] := by rw [L_E]; unfold E; rw [e]; rfl
      rw [this] at h1; cases h1
    | cons x re =>
      have : L k r = x.2 :: ((re.map (·.2)).filter fun b => !b == x.2).eraseDups := by
        rw [L_E]; unfold E; rw [e, List.map_cons, List.eraseDups_cons]
      rw [h1] at this
      injection this with q _
      exact ⟨x.1, re, by rw [q]⟩
  obtain ⟨p0, re, ew⟩ := ew
  obtain ⟨w1, w2⟩ := W_first ew
  have e1 : ((L k r).map fun t => firstWay r t) = (L k r).map fun t => fw t r := List.map_congr_left fun t _ => firstWay_eq f t
  have e2 : ((L k r).map fun t => fw t r) = p0 :: (rest.map fun t => fw t r) := by rw [h1, List.map_cons, w1]
  show (((L k r).map fun t => firstWay r t).foldl better none).getD [] = _
  rw [e1, e2, List.foldl_cons]
  show ((rest.map fun t => fw t r).foldl better (some p0)).getD [] = _
  rw [better_stays p0]
  · rw [w1]; rfl
  · intro p hp
    obtain ⟨t, ht, rfl⟩ := List.mem_map.mp hp
    have m : t ∈ E k r := mem_L.mp (by rw [h1]; simp [ht])
    exact w2 t m
end TF
end
section
set_option linter.all false
namespace TF
open Uw88

/-! ### A table of rows: what is there, what is put -/
section
variable {α : Type}
def gv (c : List (Row × α)) (u : Row) : Option α := (c.find? fun p => decide (p.1 = u)).map (·.2)
def put (c : List (Row × α)) (u : Row) (v : α) : List (Row × α) :=
  if (c.any fun p => decide (p.1 = u)) = true then c.map (fun p => if p.1 = u then (p.1, v) else p) else c ++ [(u, v)]
theorem gv_none {c : List (Row × α)} {u : Row} : gv c u = none ↔ ∀ p ∈ c, p.1 ≠ u := by
  unfold gv
  rw [Option.map_eq_none_iff, List.find?_eq_none]
  simp
theorem gv_append {c d : List (Row × α)} {u : Row} : gv (c ++ d) u = (gv c u).or (gv d u) := by
  unfold gv
  rw [List.find?_append, Option.map_or]
theorem gv_map (f : Row → α) (u : Row) : ∀ l : List Row, gv (l.map fun u => (u, f u)) u = if u ∈ l then some (f u) else none
  | [] => rfl
  | a :: l => by
    have ih := gv_map f u l
    unfold gv at ih ⊢
    rw [List.map_cons, List.find?_cons]
    by_cases e : a = u
    · subst e; simp
    · rw [decide_eq_false e]
      simp only [ih, List.mem_cons]
      by_cases m : u ∈ l
      · rw [if_pos m, if_pos (.inr m)]
      · rw [if_neg m, if_neg (by rintro (q | q); exact e q.symm; exact m q)]
theorem put_new {c : List (Row × α)} {u : Row} {v : α} (h : ∀ p ∈ c, p.1 ≠ u) : put c u v = c ++ [(u, v)] := by
  unfold put
  rw [if_neg]
  rw [Bool.not_eq_true, List.any_eq_false]
  intro p hp
  simpa using h p hp
theorem put_old {c : List (Row × α)} {u : Row} {v : α} (h : ∃ p ∈ c, p.1 = u) : put c u v = c.map fun p => if p.1 = u then (p.1, v) else p := by
  unfold put
  rw [if_pos]
  rw [List.any_eq_true]
  obtain ⟨p, hp, e⟩ := h
  exact ⟨p, hp, by simpa using e⟩
end

/-! ### One layer on: pairs of a row and a stone, one after another -/
def mvp (p : Row × Nat) : Row := moved p.1 p.2
def on (ps : List (Row × Nat)) : List Row := (ps.map mvp).eraseDups
/-- of all ways to the pairs' rows those that go on to u -/
def num (c : Row → Nat) (ps : List (Row × Nat)) (u : Row) : Nat := (ps.map fun p => if mvp p = u then c p.1 else 0).sum
def lastOf (ps : List (Row × Nat)) (u : Row) : Option (Row × Nat) := ps.find? fun p => decide (mvp p = u)
def stC (C0 : List (Row × Nat)) (c : Row → Nat) (ps : List (Row × Nat)) : List (Row × Nat) := C0 ++ (on ps).map fun u => (u, num c ps u)
theorem mem_on {ps : List (Row × Nat)} {u : Row} : u ∈ on ps ↔ ∃ p ∈ ps, mvp p = u := by
  unfold on
  rw [mem_ed, List.mem_map]
theorem on_snoc (ps : List (Row × Nat)) (p : Row × Nat) : on (ps ++ [p]) = if mvp p ∈ on ps then on ps else on ps ++ [mvp p] := by
  unfold on
  rw [List.map_append, List.map_cons, List.map_nil, ed_snoc]
  simp only [mem_ed]
theorem num_snoc (c : Row → Nat) (ps : List (Row × Nat)) (p : Row × Nat) (u : Row) : num c (ps ++ [p]) u = num c ps u + if mvp p = u then c p.1 else 0 := by
  unfold num
  rw [List.map_append, List.sum_append]
  simp
theorem num_none {c : Row → Nat} {ps : List (Row × Nat)} {u : Row} (h : u ∉ on ps) : num c ps u = 0 := by
  unfold num
  refine sum_map_zero _ ps fun p hp => ?_
  rw [if_neg]
  intro q
  exact h (mem_on.mpr ⟨p, hp, q⟩)
theorem last_snoc (ps : List (Row × Nat)) (p : Row × Nat) (u : Row) : lastOf (ps ++ [p]) u = (lastOf ps u).or (if mvp p = u then some p else none) := by
  unfold lastOf
  rw [List.find?_append]
  congr 1
  rw [List.find?_cons]
  by_cases e : mvp p = u
  · rw [decide_eq_true e, if_pos e]
  · rw [decide_eq_false e, if_neg e]; rfl
theorem last_none {ps : List (Row × Nat)} {u : Row} : lastOf ps u = none ↔ u ∉ on ps := by
  unfold lastOf
  rw [List.find?_eq_none, mem_on]
  simp
/-- what is there of u -/
theorem stC_get {C0 : List (Row × Nat)} {c : Row → Nat} {ps : List (Row × Nat)} {u : Row} (h : ∀ p ∈ C0, p.1 ≠ u) : gv (stC C0 c ps) u = if u ∈ on ps then some (num c ps u) else none := by
  unfold stC
  rw [gv_append, gv_none.mpr h, Option.none_or, gv_map]
/-- an elder row's count stands -/
theorem stC_old {C0 : List (Row × Nat)} {c : Row → Nat} {ps : List (Row × Nat)} {u : Row} {n : Nat} (h : gv C0 u = some n) : gv (stC C0 c ps) u = some n := by
  unfold stC
  rw [gv_append, h]; rfl
/-- met for the first time: 0 is put -/
theorem stC_first {C0 : List (Row × Nat)} {c : Row → Nat} {ps : List (Row × Nat)} {p : Row × Nat} (h : ∀ q ∈ C0, q.1 ≠ mvp p) (hn : mvp p ∉ on ps) :
    put (put (stC C0 c ps) (mvp p) 0) (mvp p) (c p.1) = stC C0 c (ps ++ [p]) := by
  have h1 : ∀ q ∈ stC C0 c ps, q.1 ≠ mvp p := by
    unfold stC
    intro q hq
    rcases List.mem_append.mp hq with m | m
    · exact h q m
    · obtain ⟨w, hw, rfl⟩ := List.mem_map.mp m
      intro e
      have e' : w = mvp p := e
      exact hn (e' ▸ hw)
  rw [put_new h1, put_old ⟨(mvp p, 0), by simp, rfl⟩, List.map_append]
  have e1 : (stC C0 c ps).map (fun q => if q.1 = mvp p then (q.1, c p.1) else q) = stC C0 c ps := by
    conv => rhs; rw [← List.map_id (stC C0 c ps)]
    refine List.map_congr_left fun q hq => ?_
    rw [if_neg (h1 q hq)]; rfl
  rw [e1]
  unfold stC
  rw [on_snoc, if_neg hn, List.map_append, List.append_assoc]
  congr 1
  congr 1
  · refine List.map_congr_left fun w hw => ?_
    rw [num_snoc, if_neg, Nat.add_zero]
    intro e
    exact hn (e ▸ hw)
  · simp [num_snoc, num_none hn]
/-- met again: more is put -/
theorem stC_again {C0 : List (Row × Nat)} {c : Row → Nat} {ps : List (Row × Nat)} {p : Row × Nat} (h : ∀ q ∈ C0, q.1 ≠ mvp p) (hn : mvp p ∈ on ps) :
    put (stC C0 c ps) (mvp p) (num c ps (mvp p) + c p.1) = stC C0 c (ps ++ [p]) := by
  rw [put_old]
  · unfold stC
    rw [on_snoc, if_pos hn, List.map_append]
    congr 1
    · conv => rhs; rw [← List.map_id C0]
      refine List.map_congr_left fun q hq => ?_
      rw [if_neg (h q hq)]; rfl
    · rw [List.map_map]
      refine List.map_congr_left fun w hw => ?_
      simp only [Function.comp]
      rw [num_snoc]
      by_cases e : w = mvp p
      · subst e; simp
      · rw [if_neg e, if_neg (fun q => e q.symm), Nat.add_zero]
  · refine ⟨(mvp p, num c ps (mvp p)), ?_, rfl⟩
    unfold stC
    exact List.mem_append.mpr (.inr (List.mem_map.mpr ⟨_, hn, rfl⟩))

/-! ### The whole search, layer by layer -/
def pairsOf (l : List Row) : List (Row × Nat) := l.flatMap fun e => (moves e).map fun i => (e, i)
theorem on_pairs (l : List Row) : on (pairsOf l) = further l := by
  unfold on pairsOf
  rw [further_eq, List.map_flatMap]
  congr 2
  funext e
  rw [List.map_map]
  rfl
theorem num_flat (c : Row → Nat) (u : Row) : ∀ l : List Row, num c (pairsOf l) u = (l.map fun e => c e * (nexts e).count u).sum
  | [] => rfl
  | a :: l => by
    have ih := num_flat c u l
    unfold num pairsOf at ih ⊢
    rw [List.flatMap_cons, List.map_append, List.sum_append, ih, List.map_cons, List.sum_cons]
    congr 1
    unfold nexts
    induction moves a with
    | nil => rfl
    | cons i m ihm =>
      simp only [List.map_cons, List.sum_cons, List.count_cons]
      rw [ihm, Nat.mul_add]
      have : c a * (if (moved a i == u) = true then 1 else 0) = if mvp (a, i) = u then c a else 0 := by
        by_cases e : moved a i = u
        · have e2 : mvp (a, i) = u := e
          simp [e, e2]
        · have e2 : ¬ mvp (a, i) = u := e
          simp [e, e2]
      rw [this]
      omega
theorem last_flat (u : Row) : ∀ l : List Row, lastOf (pairsOf l) u = (l.find? fun e => (nexts e).contains u).bind fun e => ((moves e).find? fun i => moved e i == u).map fun i => (e, i)
  | [] => rfl
  | a :: l => by
    have ih := last_flat u l
    unfold lastOf pairsOf at ih ⊢
    rw [List.flatMap_cons, List.find?_append, ih, List.find?_map, List.find?_cons]
    have e1 : ((fun (p : Row × Nat) => decide (mvp p = u)) ∘ fun i => (a, i)) = fun i => moved a i == u := by
      funext i
      show decide (moved a i = u) = (moved a i == u)
      by_cases q : moved a i = u
      · simp [q]
      · simp [q]
    rw [e1]
    have e2 : (nexts a).contains u = ((moves a).find? fun i => moved a i == u).isSome := by
      rw [List.isSome_find?, List.contains_eq_any_beq]
      unfold nexts
      rw [List.any_map]
      congr 1
      funext i
      simp only [Function.comp]
      rw [Bool.eq_iff_iff]
      simp only [beq_iff_eq]
      exact ⟨fun h => h.symm, fun h => h.symm⟩
    rw [e2]
    cases q : (moves a).find? fun i => moved a i == u with
    | none => rfl
    | some i => simp [q]
/-- the counts behind k layers -/
def cts (r : Row) : Nat → List (Row × Nat)
  | 0 => [(r, 1)]
  | k + 1 => cts r k ++ (L (k + 1) r).map fun u => (u, (E (k + 1) r).count u)
theorem cts_step (r : Row) (k : Nat) : stC (cts r k) (fun e => (E k r).count e) (pairsOf (L k r)) = cts r (k + 1) := by
  unfold stC
  rw [on_pairs, ← L_succ]
  show _ = cts r k ++ _
  congr 1
  refine List.map_congr_left fun u _ => ?_
  rw [num_flat, E_count]
theorem cts_mem (r : Row) : ∀ (k : Nat) {p : Row × Nat}, p ∈ cts r k → ∃ j, j ≤ k ∧ p.1 ∈ E j r
  | 0, p, h => by
    simp [cts] at h
    exact ⟨0, Nat.le_refl _, by rw [h, E_zero]; simp⟩
  | k + 1, p, h => by
    rcases List.mem_append.mp (show p ∈ cts r k ++ _ from h) with m | m
    · obtain ⟨j, hj, e⟩ := cts_mem r k m
      exact ⟨j, by omega, e⟩
    · obtain ⟨u, hu, rfl⟩ := List.mem_map.mp m
      exact ⟨k + 1, Nat.le_refl _, mem_L.mp hu⟩
/-- a row of the next layer is not there yet -/
theorem cts_fresh {r e : Row} {k i : Nat} (he : e ∈ E k r) (hi : i ∈ moves e) : ∀ p ∈ cts r k, p.1 ≠ moved e i := by
  intro p hp q
  obtain ⟨j, hj, m⟩ := cts_mem r k hp
  have h1 := E_rank j m
  have h2 := E_rank k he
  rw [q, moved_rank hi] at h1
  omega
theorem cts_get (r : Row) : ∀ (k : Nat) {j : Nat} {u : Row}, j ≤ k → u ∈ E j r → gv (cts r k) u = some ((E j r).count u)
  | 0, j, u, h, m => by
    have : j = 0 := by omega
    subst this
    rw [E_zero] at m ⊢
    simp at m
    subst m
    simp [cts, gv]
  | k + 1, j, u, h, m => by
    show gv (cts r k ++ _) u = _
    rw [gv_append, gv_map]
    by_cases q : j ≤ k
    · rw [cts_get r k q m]; rfl
    · have e : j = k + 1 := by omega
      subst e
      have n : gv (cts r k) u = none := by
        rw [gv_none]
        intro p hp z
        obtain ⟨j', hj', m'⟩ := cts_mem r k hp
        rw [z] at m'
        have := E_unique m m'
        omega
      rw [n, if_pos (mem_L.mpr m)]; rfl
theorem cts_keys (r : Row) : ∀ k : Nat, (cts r k).map (·.1) = ((List.range (k + 1)).map fun j => L j r).flatten
  | 0 => rfl
  | k + 1 => by
    show (cts r k ++ _).map _ = _
    rw [List.map_append, cts_keys r k, List.range_succ (n := k + 1), List.map_append, List.flatten_append]
    congr 1
    rw [List.map_map]
    simp [Function.comp_def]
theorem comes_eq {r : Row} (f : r.length ≤ 9) {k : Nat} (h1 : L k r ≠ []) (h2 : L (k + 1) r = []) : comes r = (cts r k).map (·.1) := by
  rw [cts_keys]
  unfold comes
  congr 1
  have wl := (waves_last f h1 h2).2
  refine List.ext_getElem? fun j => ?_
  rw [List.getElem?_map]
  by_cases hj : j < k + 1
  · rw [List.getElem?_range hj]
    have lt : j < (waves FUEL [r]).length := by omega
    have g := waves_get f j
    rw [List.getElem?_eq_getElem lt] at g ⊢
    split at g
    · rw [g]; rfl
    · cases g
  · rw [List.getElem?_eq_none (by omega), List.getElem?_eq_none (by simp; omega)]
    rfl
theorem gv_all {r : Row} {k : Nat} (h2 : L (k + 1) r = []) (u : Row) : gv (cts r k) u = if cnt u r = 0 then none else some (cnt u r) := by
  by_cases c : cnt u r = 0
  · rw [if_pos c, gv_none]
    intro p hp q
    obtain ⟨j, _, m⟩ := cts_mem r k hp
    rw [q] at m
    exact cnt_pos.mpr ⟨j, m⟩ c
  · rw [if_neg c]
    obtain ⟨j, m⟩ := cnt_pos.mp c
    have hj : j ≤ k := by
      rcases Nat.lt_or_ge k j with q | q
      · have : L j r = [] := by
          obtain ⟨d, rfl⟩ : ∃ d, j = k + 1 + d := ⟨j - (k + 1), by omega⟩
          clear m q
          induction d with
          | zero => exact h2
          | succ d ih => rw [show k + 1 + (d + 1) = (k + 1 + d) + 1 from rfl, L_succ, ih]; rfl
        have m' := mem_L.mpr m
        rw [this] at m'
        cases m'
      · exact q
    rw [cts_get r k hj m, cnt_E (E_rank j m)]
end TF
end
section
set_option linter.all false
namespace TF
open Uw88

/-! ### The row ahead of a row, over all layers -/
def lasts (r : Row) : Nat → Row → Option (Row × Nat)
  | 0, _ => none
  | k + 1, u => (lasts r k u).or (lastOf (pairsOf (L k r)) u)
theorem lasts_none (r : Row) : ∀ (k : Nat) (u : Row), (∀ j, 1 ≤ j → j ≤ k → u ∉ E j r) → lasts r k u = none
  | 0, _, _ => rfl
  | k + 1, u, h => by
    unfold lasts
    rw [lasts_none r k u fun j h1 h2 => h j h1 (by omega), Option.none_or, last_none, on_pairs, ← L_succ, mem_L]
    exact h (k + 1) (by omega) (Nat.le_refl _)
theorem lasts_some (r : Row) : ∀ (k : Nat) {j : Nat} {u : Row}, j < k → u ∈ E (j + 1) r → ∃ e i, lasts r k u = some (e, i) ∧ e ∈ E j r ∧ fw u r = fw e r ++ [i]
  | 0, j, u, h, _ => by omega
  | k + 1, j, u, h, m => by
    unfold lasts
    by_cases q : j < k
    · obtain ⟨e, i, h1, h2, h3⟩ := lasts_some r k q m
      exact ⟨e, i, by rw [h1]; rfl, h2, h3⟩
    · have ej : j = k := by omega
      subst ej
      rw [lasts_none r j u, Option.none_or]
      · have mu : u ∈ on (pairsOf (L j r)) := by rw [on_pairs, ← L_succ]; exact mem_L.mpr m
        rw [last_flat]
        cases q1 : (L j r).find? fun e => (nexts e).contains u with
        | none =>
          have : lastOf (pairsOf (L j r)) u = none := by rw [last_flat, q1]; rfl
          exact absurd mu (last_none.mp this)
        | some e =>
          cases q2 : (moves e).find? fun i => moved e i == u with
          | none =>
            have : lastOf (pairsOf (L j r)) u = none := by rw [last_flat, q1]; simp [q2]
            exact absurd mu (last_none.mp this)
          | some i =>
            obtain ⟨_, h2, h3⟩ := fw_last q1 q2
            exact ⟨e, i, by simp [q2], h2, h3⟩
      · intro j' _ h2 m'
        have := E_unique m m'
        omega
/-- all of it, behind the last layer -/
theorem lasts_all {r u : Row} {k : Nat} (h2 : L (k + 1) r = []) : (lasts r k u = none ∧ (u = r ∨ cnt u r = 0)) ∨ ∃ e i, lasts r k u = some (e, i) ∧ cnt e r ≠ 0 ∧ fw u r = fw e r ++ [i] := by
  by_cases c : cnt u r = 0
  · refine .inl ⟨lasts_none r k u ?_, .inr c⟩
    intro j _ _ m
    exact cnt_pos.mpr ⟨j, m⟩ c
  · obtain ⟨j, m⟩ := cnt_pos.mp c
    cases j with
    | zero =>
      rw [E_zero] at m
      simp at m
      subst m
      refine .inl ⟨lasts_none u k u ?_, .inl rfl⟩
      intro j h1 _ m
      have := E_rank j m
      omega
    | succ j =>
      have hj : j < k := by
        rcases Nat.lt_or_ge j k with q | q
        · exact q
        · exfalso
          have : L (j + 1) r = [] := by
            obtain ⟨d, rfl⟩ : ∃ d, j = k + d := ⟨j - k, by omega⟩
            clear m q c
            induction d with
            | zero => exact h2
            | succ d ih => rw [show k + (d + 1) + 1 = (k + d + 1) + 1 from rfl, L_succ, ih]; rfl
          have m' := mem_L.mpr m
          rw [this] at m'
          cases m'
      obtain ⟨e, i, h1, h3, h4⟩ := lasts_some r k hj m
      exact .inr ⟨e, i, h1, cnt_pos.mpr ⟨j, h3⟩, h4⟩

/-! ### How many rows there can be -/
theorem below : ∀ (n : Nat) (l : List Nat), l.Nodup → (∀ x ∈ l, x < n) → l.length ≤ n
  | 0, l, _, h => by
    cases l with
    | nil => exact Nat.le_refl _
    | cons a l => exact absurd (h a (by simp)) (by omega)
  | n + 1, l, hn, h => by
    have h1 := below n (l.filter fun x => decide (x ≠ n)) (hn.filter _) (by
      intro x hx
      obtain ⟨m, q⟩ := List.mem_filter.mp hx
      have := h x m
      have q' : x ≠ n := of_decide_eq_true q
      omega)
    have h2 : l.length ≤ (l.filter fun x => decide (x ≠ n)).length + 1 := by
      clear h h1
      induction l with
      | nil => simp
      | cons a l ih =>
        obtain ⟨na, nl⟩ := List.nodup_cons.mp hn
        by_cases e : a = n
        · subst e
          have : (l.filter fun x => decide (x ≠ a)) = l := by
            rw [List.filter_eq_self]
            intro x hx
            exact decide_eq_true (fun q => na (q ▸ hx))
          simp only [List.filter_cons, ne_eq, not_true_eq_false, decide_false, Bool.false_eq_true, if_false]
          have this' : (l.filter fun x => decide (¬ x = a)) = l := this
          rw [this', List.length_cons]
          omega
        · have := ih nl
          simp only [List.filter_cons, ne_eq, e, not_false_eq_true, decide_true, if_true, List.length_cons]
          have this' : l.length ≤ (l.filter fun x => decide (¬ x = n)).length + 1 := this
          omega
    omega
def code : Row → Nat
  | [] => 0
  | x :: l => x + 3 * code l
theorem code_lt : ∀ (r : Row), (∀ x ∈ r, x ≤ 2) → code r < 3 ^ r.length
  | [], _ => by simp [code]
  | x :: l, h => by
    have ih := code_lt l fun y hy => h y (by simp [hy])
    have hx := h x (by simp)
    simp only [code, List.length_cons, Nat.pow_succ]
    omega
theorem code_inj : ∀ (r s : Row), (∀ x ∈ r, x ≤ 2) → (∀ x ∈ s, x ≤ 2) → r.length = s.length → code r = code s → r = s
  | [], [], _, _, _, _ => rfl
  | [], y :: s, _, _, h, _ => by simp at h
  | x :: r, [], _, _, h, _ => by simp at h
  | x :: r, y :: s, h1, h2, h, e => by
    have hx := h1 x (by simp)
    have hy := h2 y (by simp)
    simp only [code] at e
    have : x = y := by omega
    subst this
    rw [code_inj r s (fun z hz => h1 z (by simp [hz])) (fun z hz => h2 z (by simp [hz])) (by simpa using h) (by omega)]
theorem rows_few {n : Nat} (hn : n ≤ 9) (l : List Row) (nd : l.Nodup) (h : ∀ r ∈ l, r.length = n ∧ ∀ x ∈ r, x ≤ 2) : l.length ≤ 19683 := by
  have h1 := below (3 ^ n) (l.map code) (by
    rw [List.nodup_iff_pairwise_ne, List.pairwise_map]
    have nd' := List.nodup_iff_pairwise_ne.mp nd
    refine List.Pairwise.imp_of_mem ?_ nd'
    intro a b ha hb hab e
    exact hab (code_inj a b (h a ha).2 (h b hb).2 (by rw [(h a ha).1, (h b hb).1]) e)) (by
    intro x hx
    obtain ⟨r, hr, rfl⟩ := List.mem_map.mp hx
    have := code_lt r (h r hr).2
    rw [(h r hr).1] at this
    exact this)
  rw [List.length_map] at h1
  have h2 : 3 ^ n ≤ 3 ^ 9 := Nat.pow_le_pow_right (by decide) hn
  have h3 : (3 : Nat) ^ 9 = 19683 := by decide
  omega
theorem cts_nodup (r : Row) : ∀ k : Nat, ((cts r k).map (·.1)).Nodup
  | 0 => by simp [cts]
  | k + 1 => by
    show ((cts r k ++ _).map _).Nodup
    rw [List.map_append, List.nodup_append]
    refine ⟨cts_nodup r k, ?_, ?_⟩
    · rw [List.map_map]
      have : ((fun (p : Row × Nat) => p.1) ∘ fun u => (u, (E (k + 1) r).count u)) = id := rfl
      rw [this, List.map_id]
      exact L_nodup _ _
    · intro a ha b hb e
      obtain ⟨p, hp, rfl⟩ := List.mem_map.mp ha
      rw [List.map_map] at hb
      obtain ⟨u, hu, rfl⟩ := List.mem_map.mp hb
      obtain ⟨j, hj, m⟩ := cts_mem r k hp
      have e' : p.1 = u := e
      rw [e'] at m
      have := E_unique m (mem_L.mp hu)
      omega
theorem cts_few {r : Row} (f : Fine r) (k : Nat) : (cts r k).length ≤ 19683 := by
  have h := rows_few f.len ((cts r k).map (·.1)) (cts_nodup r k) (by
    intro u hu
    obtain ⟨p, hp, rfl⟩ := List.mem_map.mp hu
    obtain ⟨j, _, m⟩ := cts_mem r k hp
    exact ⟨E_length j m, (E_fine j f m).small⟩)
  rw [List.length_map] at h
  exact h
theorem L_few {r : Row} (f : Fine r) (k : Nat) : (L k r).length ≤ 19683 :=
  rows_few f.len (L k r) (L_nodup k r) fun u hu => ⟨E_length k (mem_L.mp hu), (E_fine k f (mem_L.mp hu)).small⟩
/-- a part of the pairs has no more rows ahead -/
theorem on_few {r : Row} (f : Fine r) (k : Nat) {ps : List (Row × Nat)} (h : ∀ p ∈ ps, p.1 ∈ L k r ∧ p.2 ∈ moves p.1) : (cts r k).length + (on ps).length ≤ 19683 := by
  have h1 := rows_few f.len ((cts r k).map (·.1) ++ on ps) (by
    rw [List.nodup_append]
    refine ⟨cts_nodup r k, ed_nodup _, ?_⟩
    intro a ha b hb e
    subst e
    obtain ⟨p, hp, hpa⟩ := List.mem_map.mp ha
    obtain ⟨q, hq, hqa⟩ := mem_on.mp hb
    have := cts_fresh (r := r) (e := q.1) (k := k) (i := q.2) (mem_L.mp (h q hq).1) (h q hq).2 p hp
    exact this (hpa.trans hqa.symm)) (by
    intro u hu
    rcases List.mem_append.mp hu with m | m
    · obtain ⟨p, hp, rfl⟩ := List.mem_map.mp m
      obtain ⟨j, _, m'⟩ := cts_mem r k hp
      exact ⟨E_length j m', (E_fine j f m').small⟩
    · obtain ⟨p, hp, rfl⟩ := mem_on.mp m
      have m1 := mem_L.mp (h p hp).1
      unfold mvp
      exact ⟨by rw [moved_length (h p hp).2]; exact E_length k m1, ((E_fine k f m1).moved (h p hp).2).small⟩)
  rw [List.length_append, List.length_map] at h1
  exact h1
/-- there is a last layer -/
theorem last_layer {r : Row} (f : r.length ≤ 9) : ∃ k, L k r ≠ [] ∧ L (k + 1) r = [] := by
  have h : ∀ n, (∃ k, k < n ∧ L k r ≠ [] ∧ L (k + 1) r = []) ∨ L n r ≠ [] := by
    intro n
    induction n with
    | zero => right; simp [L, it]
    | succ n ih =>
      rcases ih with ⟨k, h1, h2⟩ | ih
      · exact .inl ⟨k, by omega, h2⟩
      · by_cases q : L (n + 1) r = []
        · exact .inl ⟨n, by omega, ih, q⟩
        · exact .inr q
  rcases h 109 with ⟨k, _, h2⟩ | h2
  · exact ⟨k, h2⟩
  · exact absurd (L_end f (by decide)) h2
end TF
end
section
set_option linter.all false
namespace TF
open Uw88

/-! ### What the program reckons of one stone -/
def fa (r : Row) (z : Int) : Int := if z < 0 ∨ (r.length : Int) ≤ z then 3 else (r.getD z.toNat 0 : Nat)
def dirOf (k : Int) : Int := if k = 1 then 1 else -1
def othOf (k : Int) : Int := if k = 1 then 2 else 1
def pyLen (r : Row) (i : Nat) : Int :=
  let k : Int := (r.getD i 0 : Nat)
  if k = 0 then 0 else
    let nb := fa r (i + dirOf k)
    if nb = 0 then 1 else if nb = othOf k ∧ fa r (i + 2 * dirOf k) = 0 then 2 else 0
/-- 0: no move; 1: a step; 2: a leap -/
def mlen (r : Row) (i : Nat) : Nat := match goal r i with
  | none => 0
  | some _ => if isLeap r i = true then 2 else 1
theorem fa_nat (r : Row) (i : Nat) : fa r (i : Int) = if i < r.length then (at_ r i : Int) else 3 := by
  unfold fa at_
  by_cases h : i < r.length
  · rw [if_neg (by omega), if_pos h]
    simp [List.getD_eq_getElem?_getD, List.getElem?_eq_getElem h]
  · rw [if_pos (by omega), if_neg h]
theorem at_in {r : Row} {i : Nat} (h : i < r.length) : at_ r i = r.getD i 0 := by
  unfold at_
  simp [List.getD_eq_getElem?_getD, List.getElem?_eq_getElem h]
theorem at_out {r : Row} {i : Nat} (h : ¬ i < r.length) : at_ r i = 9 := by
  unfold at_
  simp [List.getD_eq_getElem?_getD, List.getElem?_eq_none (by omega : r.length ≤ i)]
theorem fa_zero (r : Row) (i : Nat) : fa r (i : Int) = 0 ↔ at_ r i = 0 := by
  rw [fa_nat]
  by_cases h : i < r.length
  · rw [if_pos h]; omega
  · rw [if_neg h, at_out h]; omega
theorem fa_one (r : Row) (i : Nat) : fa r (i : Int) = 1 ↔ at_ r i = 1 := by
  rw [fa_nat]
  by_cases h : i < r.length
  · rw [if_pos h]; omega
  · rw [if_neg h, at_out h]; omega
theorem fa_two (r : Row) (i : Nat) : fa r (i : Int) = 2 ↔ at_ r i = 2 := by
  rw [fa_nat]
  by_cases h : i < r.length
  · rw [if_pos h]; omega
  · rw [if_neg h, at_out h]; omega
theorem fa_neg (r : Row) {z : Int} (h : z < 0) : fa r z = 3 := by
  unfold fa; rw [if_pos (.inl h)]
theorem pyLen_eq {r : Row} {i : Nat} (hi : i < r.length) (s : ∀ x ∈ r, x ≤ 2) : pyLen r i = (mlen r i : Int) := by
  have a : at_ r i = r.getD i 0 := at_in hi
  have hx : r.getD i 0 ≤ 2 := by
    rw [List.getD_eq_getElem?_getD, List.getElem?_eq_getElem hi]
    exact s _ (List.getElem_mem hi)
  unfold pyLen mlen
  simp only []
  rw [← a] at hx ⊢
  rcases (by omega : at_ r i = 0 ∨ at_ r i = 1 ∨ at_ r i = 2) with h | h | h
  · have g : goal r i = none := by unfold goal; rw [if_neg (by omega), if_neg (by omega)]
    rw [g, h]; rfl
  · rw [h]
    have d : dirOf ((1 : Nat) : Int) = 1 := rfl
    have o : othOf ((1 : Nat) : Int) = 2 := rfl
    rw [d, o, if_neg (by omega)]
    have e1 : ((i : Int) + 1) = ((i + 1 : Nat) : Int) := by omega
    have e2 : ((i : Int) + 2 * 1) = ((i + 2 : Nat) : Int) := by omega
    rw [e1, e2]
    simp only [fa_zero, fa_two]
    by_cases q1 : at_ r (i + 1) = 0
    · have g : goal r i = some (i + 1) := by unfold goal; rw [if_pos h, if_pos q1]
      have l : isLeap r i = false := by
        unfold isLeap; rw [g]
        simp only []
        rw [Bool.or_eq_false_iff]; exact ⟨by rw [beq_eq_false_iff_ne]; omega, by rw [beq_eq_false_iff_ne]; omega⟩
      rw [if_pos q1, g, l]; rfl
    · rw [if_neg q1]
      by_cases q2 : at_ r (i + 1) = 2 ∧ at_ r (i + 2) = 0
      · have g : goal r i = some (i + 2) := by unfold goal; rw [if_pos h, if_neg q1, if_pos q2]
        have l : isLeap r i = true := by
          unfold isLeap; rw [g]; simp
        rw [if_pos q2, g, l]; rfl
      · have g : goal r i = none := by unfold goal; rw [if_pos h, if_neg q1, if_neg q2]
        rw [if_neg q2, g]; rfl
  · rw [h]
    have d : dirOf ((2 : Nat) : Int) = -1 := rfl
    have o : othOf ((2 : Nat) : Int) = 1 := rfl
    rw [d, o, if_neg (by omega)]
    have w1 : fa r ((i : Int) + -1) = 0 ↔ 1 ≤ i ∧ at_ r (i - 1) = 0 := by
      by_cases h1 : 1 ≤ i
      · have e : ((i : Int) + -1) = ((i - 1 : Nat) : Int) := by omega
        rw [e, fa_zero]; simp [h1]
      · rw [fa_neg r (by omega)]
        constructor
        · intro q; omega
        · intro q; exact absurd q.1 h1
    have w2 : (fa r ((i : Int) + -1) = 1 ∧ fa r ((i : Int) + 2 * -1) = 0) ↔ (2 ≤ i ∧ at_ r (i - 1) = 1 ∧ at_ r (i - 2) = 0) := by
      by_cases h1 : 2 ≤ i
      · have e : ((i : Int) + -1) = ((i - 1 : Nat) : Int) := by omega
        have e' : ((i : Int) + 2 * -1) = ((i - 2 : Nat) : Int) := by omega
        rw [e, e', fa_one, fa_zero]; simp [h1]
      · constructor
        · intro q
          have := q.2
          rw [fa_neg r (by omega)] at this
          omega
        · intro q; exact absurd q.1 h1
    simp only [w1, w2]
    by_cases q1 : 1 ≤ i ∧ at_ r (i - 1) = 0
    · have g : goal r i = some (i - 1) := by unfold goal; rw [if_neg (by omega), if_pos h, if_pos q1]
      have l : isLeap r i = false := by
        unfold isLeap; rw [g]
        simp only []
        rw [Bool.or_eq_false_iff]; exact ⟨by rw [beq_eq_false_iff_ne]; omega, by rw [beq_eq_false_iff_ne]; omega⟩
      rw [if_pos q1, g, l]; rfl
    · rw [if_neg q1]
      by_cases q2 : 2 ≤ i ∧ at_ r (i - 1) = 1 ∧ at_ r (i - 2) = 0
      · have g : goal r i = some (i - 2) := by unfold goal; rw [if_neg (by omega), if_pos h, if_neg q1, if_pos q2]
        have l : isLeap r i = true := by
          unfold isLeap; rw [g]
          simp only []
          rw [Bool.or_eq_true]; exact .inr (by rw [beq_iff_eq]; omega)
        rw [if_pos q2, g, l]; rfl
      · have g : goal r i = none := by unfold goal; rw [if_neg (by omega), if_pos h, if_neg q1, if_neg q2]
        rw [if_neg q2, g]; rfl
theorem mlen_zero {r : Row} {i : Nat} : mlen r i = 0 ↔ goal r i = none := by
  unfold mlen
  cases goal r i with
  | none => simp
  | some j => simp only []; split <;> simp
theorem mlen_two {r : Row} {i : Nat} (h : i ∈ moves r) : mlen r i = if isLeap r i = true then 2 else 1 := by
  obtain ⟨_, j, e⟩ := moves_iff.mp h
  unfold mlen; rw [e]
theorem mlen_moves (r : Row) : moves r = (List.range r.length).filter fun i => decide (mlen r i ≠ 0) := by
  unfold moves
  refine List.filter_congr fun i _ => ?_
  unfold mlen
  cases goal r i with
  | none => rfl
  | some j => simp only [Option.isSome_some]; split <;> rfl
/-- the program's own store: free the stone, then lay the kind where it goes -/
theorem moved_py {r : Row} {i : Nat} (h : i ∈ moves r) (s : ∀ x ∈ r, x ≤ 2) : ∃ j : Nat, j < r.length ∧ (i : Int) + dirOf ((r.getD i 0 : Nat) : Int) * (mlen r i : Int) = (j : Int) ∧ (r.set i 0).set j (r.getD i 0) = moved r i := by
  obtain ⟨hi, j, e⟩ := moves_iff.mp h
  have a : at_ r i = r.getD i 0 := at_in hi
  have t := turn_of e
  have m := mlen_two h
  have key : j < r.length ∧ j ≠ i ∧ (i : Int) + dirOf ((at_ r i : Nat) : Int) * (mlen r i : Int) = (j : Int) := by
    have e' := e
    unfold goal at e
    rw [m]
    have lp : isLeap r i = (i + 2 == j || j + 2 == i) := by unfold isLeap; rw [e']
    rw [lp]
    split at e
    · rename_i h1
      rw [h1]
      have d : dirOf ((1 : Nat) : Int) = 1 := rfl
      rw [d]
      split at e
      · rename_i h2
        cases e
        have hl : i + 1 < r.length := by
          rcases Nat.lt_or_ge (i + 1) r.length with q | q
          · exact q
          · rw [at_out (by omega)] at h2; cases h2
        have q : (i + 2 == i + 1 || i + 1 + 2 == i) = false := by
          rw [Bool.or_eq_false_iff]; exact ⟨by rw [beq_eq_false_iff_ne]; omega, by rw [beq_eq_false_iff_ne]; omega⟩
        rw [q]
        simp only [Bool.false_eq_true, if_false]
        omega
      · split at e
        · rename_i h2 h3
          cases e
          have hl : i + 2 < r.length := by
            rcases Nat.lt_or_ge (i + 2) r.length with q | q
            · exact q
            · have := h3.2; rw [at_out (by omega)] at this; cases this
          simp
          omega
        · cases e
    · split at e
      · rename_i h0 h1
        rw [h1]
        have d : dirOf ((2 : Nat) : Int) = -1 := rfl
        rw [d]
        split at e
        · rename_i h2
          cases e
          have q : (i + 2 == i - 1 || i - 1 + 2 == i) = false := by
            rw [Bool.or_eq_false_iff]; exact ⟨by rw [beq_eq_false_iff_ne]; omega, by rw [beq_eq_false_iff_ne]; omega⟩
          rw [q]
          simp only [Bool.false_eq_true, if_false]
          omega
        · split at e
          · rename_i h2 h3
            cases e
            have q : (i + 2 == i - 2 || i - 2 + 2 == i) = true := by
              rw [Bool.or_eq_true]; exact .inr (by rw [beq_iff_eq]; omega)
            rw [q]
            simp only [if_true]
            omega
          · cases e
      · cases e
  refine ⟨j, key.1, by rw [← a]; exact key.2.2, ?_⟩
  unfold moved
  rw [e]
  simp only []
  rw [← a, List.set_comm _ _ key.2.1]
end TF
end
section
set_option linter.all false
namespace TF
open Uw88

/-! ### A list of numbers as calls -/
def enc : Call → List Int
  | .row l => 0 :: (l.length : Int) :: Uw88.ints l
  | .move i => [1, (i : Int)]
  | .moves => [2]
  | .shows => [3]
  | .to l => 4 :: (l.length : Int) :: Uw88.ints l
  | .ways l => 5 :: (l.length : Int) :: Uw88.ints l
  | .comes => [6]
  | .stucks => [7]
  | .longest => [8]
  | .safe l => 9 :: (l.length : Int) :: Uw88.ints l
  | .sides a b g => [10, (a : Int), (b : Int), (g : Int)]
def wenc : Call → List Int
  | .row l => 0 :: Uw88.ints l
  | .move i => [1, (i : Int)]
  | .moves => [2]
  | .shows => [3]
  | .to l => 4 :: Uw88.ints l
  | .ways l => 5 :: Uw88.ints l
  | .comes => [6]
  | .stucks => [7]
  | .longest => [8]
  | .safe l => 9 :: Uw88.ints l
  | .sides a b g => [10, (a : Int), (b : Int), (g : Int)]
def Low (l : List Nat) : Prop := l.length ≤ 20 ∧ ∀ x ∈ l, x ≤ 4294967295
def Small : Call → Prop
  | .row l => Low l
  | .move i => i ≤ 4294967295
  | .to l => Low l
  | .ways l => Low l
  | .safe l => Low l
  | .sides a b g => a ≤ 4294967295 ∧ b ≤ 4294967295 ∧ g ≤ 4294967295
  | _ => True
theorem ints_back {r : List Int} (h : ∀ z ∈ r, 0 ≤ z ∧ z ≤ 4294967295) : ∃ l : List Nat, r = Uw88.ints l ∧ ∀ x ∈ l, x ≤ 4294967295 := by
  refine ⟨r.map Int.toNat, ?_, ?_⟩
  · unfold Uw88.ints
    rw [List.map_map]
    conv => lhs; rw [← List.map_id r]
    refine List.map_congr_left fun z hz => ?_
    have := h z hz
    simp only [Function.comp, id]
    omega
  · intro x hx
    obtain ⟨z, hz, rfl⟩ := List.mem_map.mp hx
    have := h z hz
    omega
theorem ints_nat {l : List Nat} (h : ∀ x ∈ l, x ≤ 4294967295) : (Uw88.ints l).all Uw88Neutral.nat = true := by
  rw [List.all_eq_true]
  intro z hz
  obtain ⟨x, hx, rfl⟩ := List.mem_map.mp hz
  have := h x hx
  unfold Uw88Neutral.nat
  rw [Bool.and_eq_true, decide_eq_true_iff, decide_eq_true_iff]
  omega
theorem ints_toNat (l : List Nat) : (Uw88.ints l).map Int.toNat = l := by
  unfold Uw88.ints
  rw [List.map_map]
  conv => rhs; rw [← List.map_id l]
  refine List.map_congr_left fun x _ => ?_
  simp
theorem nat_of {n : Nat} (h : n ≤ 4294967295) : Uw88Neutral.nat (n : Int) = true := by
  unfold Uw88Neutral.nat
  rw [Bool.and_eq_true, decide_eq_true_iff, decide_eq_true_iff]
  omega
theorem callOf_wenc : ∀ (c : Call), Small c → Uw88Neutral.callOf (wenc c) = some c := by
  intro c s
  have z : ∀ k : Nat, k ≤ 10 → Uw88Neutral.nat (k : Int) = true := fun k hk => nat_of (by omega)
  unfold Uw88Neutral.callOf
  cases c with
  | row l =>
    have e : (wenc (.row l)).all Uw88Neutral.nat = true := by
      show ((0 : Int) :: Uw88.ints l).all Uw88Neutral.nat = true
      rw [List.all_cons, ints_nat s.2]; rfl
    rw [e, if_neg (by decide)]
    show Uw88Neutral.callIn (0 :: (Uw88.ints l).map Int.toNat) = _
    rw [ints_toNat]; rfl
  | to l =>
    have e : (wenc (.to l)).all Uw88Neutral.nat = true := by
      show ((4 : Int) :: Uw88.ints l).all Uw88Neutral.nat = true
      rw [List.all_cons, ints_nat s.2]; rfl
    rw [e, if_neg (by decide)]
    show Uw88Neutral.callIn (4 :: (Uw88.ints l).map Int.toNat) = _
    rw [ints_toNat]; rfl
  | ways l =>
    have e : (wenc (.ways l)).all Uw88Neutral.nat = true := by
      show ((5 : Int) :: Uw88.ints l).all Uw88Neutral.nat = true
      rw [List.all_cons, ints_nat s.2]; rfl
    rw [e, if_neg (by decide)]
    show Uw88Neutral.callIn (5 :: (Uw88.ints l).map Int.toNat) = _
    rw [ints_toNat]; rfl
  | safe l =>
    have e : (wenc (.safe l)).all Uw88Neutral.nat = true := by
      show ((9 : Int) :: Uw88.ints l).all Uw88Neutral.nat = true
      rw [List.all_cons, ints_nat s.2]; rfl
    rw [e, if_neg (by decide)]
    show Uw88Neutral.callIn (9 :: (Uw88.ints l).map Int.toNat) = _
    rw [ints_toNat]; rfl
  | move i =>
    have s' : i ≤ 4294967295 := s
    have e : (wenc (.move i)).all Uw88Neutral.nat = true := by
      show ([1, (i : Int)]).all Uw88Neutral.nat = true
      rw [List.all_cons, List.all_cons, nat_of s']; rfl
    rw [e, if_neg (by decide)]
    rfl
  | sides a b g =>
    obtain ⟨s1, s2, s3⟩ := s
    have e : (wenc (.sides a b g)).all Uw88Neutral.nat = true := by
      show ([10, (a : Int), (b : Int), (g : Int)]).all Uw88Neutral.nat = true
      rw [List.all_cons, List.all_cons, List.all_cons, List.all_cons, nat_of s1, nat_of s2, nat_of s3]; rfl
    rw [e, if_neg (by decide)]
    rfl
  | moves => rfl
  | shows => rfl
  | comes => rfl
  | stucks => rfl
  | longest => rfl
theorem within_iff {z : Int} : PyInside.within 0 4294967295 z = true ↔ 0 ≤ z ∧ z ≤ 4294967295 := by
  unfold PyInside.within
  rw [Bool.and_eq_true, decide_eq_true_iff, decide_eq_true_iff]
theorem one_row {r t x : List Int} {k : Int} (h : PyFlat.rows 1 r = some ([x], t)) : r = (x.length : Int) :: x ++ t := by
  unfold PyFlat.rows at h
  cases r with
  | nil => simp [PyFlat.row] at h
  | cons n r =>
    unfold PyFlat.row at h
    dsimp only at h
    by_cases c : 0 ≤ n ∧ n.toNat ≤ r.length
    · rw [if_pos c] at h
      simp only [PyFlat.rows] at h
      injection h with h
      injection h with h1 h2
      injection h1 with h1 _
      subst h1 h2
      have e : ((r.take n.toNat).length : Int) = n := by rw [List.length_take]; omega
      rw [e, List.cons_append, List.take_append_drop]
    · rw [if_neg c] at h
      cases h
theorem rows_one {r : List Int} {xs : List (List Int)} {t : List Int} (h : PyFlat.rows 1 r = some (xs, t)) : ∃ x, xs = [x] ∧ r = (x.length : Int) :: x ++ t := by
  have h0 := h
  unfold PyFlat.rows at h
  cases q : PyFlat.row r with
  | none => rw [q] at h; cases h
  | some p =>
    obtain ⟨x, s⟩ := p
    rw [q] at h
    simp only [PyFlat.rows] at h
    injection h with h
    injection h with h1 h2
    subst h1 h2
    exact ⟨x, rfl, one_row (k := 0) h0⟩
theorem low_of {r : List Int} (h : PyInside.lists [(0, 4294967295, 0, 20)] [r] = true) : ∃ l : List Nat, r = Uw88.ints l ∧ Low l := by
  simp only [PyInside.lists, Bool.and_eq_true, decide_eq_true_iff] at h
  obtain ⟨⟨⟨_, h2⟩, h3⟩, _⟩ := h
  rw [List.all_eq_true] at h3
  obtain ⟨l, rfl, hl⟩ := ints_back fun z hz => within_iff.mp (h3 z hz)
  refine ⟨l, rfl, ?_, hl⟩
  unfold Uw88.ints at h2
  rw [List.length_map] at h2
  exact h2
theorem ints_len (l : List Nat) : (Uw88.ints l).length = l.length := by unfold Uw88.ints; rw [List.length_map]
theorem whole_row {p : Int} {r : List Int} (h : p = 0 ∨ p = 4 ∨ p = 5 ∨ p = 9) : (PyUw88.whole [[p], r]).headD [] = p :: r := by
  rcases h with h | h | h | h <;> subst h <;> rfl
theorem call_is {l : List Int} {c : List (List Int)} {t : List Int} (h : PyFlat.call PyUw88.shape l = some (c, t)) (hb : PyInside.call PyUw88.bound c = true) :
    ∃ C : Call, l = enc C ++ t ∧ (PyUw88.whole c).headD [] = wenc C ∧ Small C := by
  cases l with
  | nil => cases h
  | cons p r =>
    unfold PyFlat.call at h
    dsimp only at h
    have row : ∀ (mk : List Nat → Call), (p = 0 ∨ p = 4 ∨ p = 5 ∨ p = 9) → (∀ l, enc (mk l) = p :: (l.length : Int) :: Uw88.ints l) → (∀ l, wenc (mk l) = p :: Uw88.ints l) → (∀ l, Low l → Small (mk l)) →
        PyUw88.bound p = ([], [(0, 4294967295, 0, 20)]) → PyUw88.shape p = some (0, 1) → ∃ C : Call, p :: r = enc C ++ t ∧ (PyUw88.whole c).headD [] = wenc C ∧ Small C := by
      intro mk hp e1 e2 e3 hbd hs
      rw [hs] at h
      simp only [Nat.not_lt_zero, if_false, List.drop_zero, List.take_zero] at h
      cases q : PyFlat.rows 1 r with
      | none => rw [q] at h; cases h
      | some x =>
        obtain ⟨xs, t'⟩ := x
        rw [q] at h
        simp only [] at h
        injection h with h
        injection h with h1 h2
        subst h1 h2
        obtain ⟨x, rfl, er⟩ := rows_one q
        unfold PyInside.call at hb
        simp only [hbd] at hb
        rw [Bool.and_eq_true] at hb
        obtain ⟨l, rfl, hl⟩ := low_of hb.2
        refine ⟨mk l, ?_, ?_, e3 l hl⟩
        · rw [er, e1, ints_len]; rfl
        · rw [whole_row hp, e2]
    have num : ∀ (n : Nat) (C : Call), n = 0 → PyUw88.shape p = some (0, 0) → enc C = [p] → wenc C = [p] → PyUw88.whole [[p]] = [[p]] → Small C → ∃ C : Call, p :: r = enc C ++ t ∧ (PyUw88.whole c).headD [] = wenc C ∧ Small C := by
      intro n C _ hs e1 e2 e3 e4
      rw [hs] at h
      simp only [Nat.not_lt_zero, if_false, List.drop_zero, List.take_zero, PyFlat.rows] at h
      injection h with h
      injection h with h1 h2
      subst h1 h2
      exact ⟨C, by rw [e1]; rfl, by rw [e3, e2]; rfl, e4⟩
    by_cases p0 : p = 0
    · subst p0; exact row .row (.inl rfl) (fun _ => rfl) (fun _ => rfl) (fun _ h => h) rfl rfl
    by_cases p1 : p = 1
    · subst p1
      have hs : PyUw88.shape 1 = some (1, 0) := rfl
      rw [hs] at h
      simp only [PyFlat.rows] at h
      cases r with
      | nil => simp at h
      | cons x r =>
        simp at h
        obtain ⟨h1, h2⟩ := h
        subst h1 h2
        have hb' : ((PyInside.within 0 4294967295 x && true) && true) = true := hb
        simp only [Bool.and_true] at hb'
        have hx := within_iff.mp hb'
        refine ⟨.move x.toNat, ?_, ?_, ?_⟩
        · show 1 :: x :: r = 1 :: (x.toNat : Int) :: r
          rw [Int.toNat_of_nonneg hx.1]
        · show [1, x] = [1, (x.toNat : Int)]
          rw [Int.toNat_of_nonneg hx.1]
        · show x.toNat ≤ 4294967295
          omega
    by_cases p2 : p = 2
    · subst p2; exact num 0 .moves rfl rfl rfl rfl rfl trivial
    by_cases p3 : p = 3
    · subst p3; exact num 0 .shows rfl rfl rfl rfl rfl trivial
    by_cases p4 : p = 4
    · subst p4; exact row .to (.inr (.inl rfl)) (fun _ => rfl) (fun _ => rfl) (fun _ h => h) rfl rfl
    by_cases p5 : p = 5
    · subst p5; exact row .ways (.inr (.inr (.inl rfl))) (fun _ => rfl) (fun _ => rfl) (fun _ h => h) rfl rfl
    by_cases p6 : p = 6
    · subst p6; exact num 0 .comes rfl rfl rfl rfl rfl trivial
    by_cases p7 : p = 7
    · subst p7; exact num 0 .stucks rfl rfl rfl rfl rfl trivial
    by_cases p8 : p = 8
    · subst p8; exact num 0 .longest rfl rfl rfl rfl rfl trivial
    by_cases p9 : p = 9
    · subst p9; exact row .safe (.inr (.inr (.inr rfl))) (fun _ => rfl) (fun _ => rfl) (fun _ h => h) rfl rfl
    by_cases p10 : p = 10
    · subst p10
      have hs : PyUw88.shape 10 = some (3, 0) := rfl
      rw [hs] at h
      simp only [PyFlat.rows] at h
      match r, h with
      | [], h => simp at h
      | [a], h => simp at h
      | [a, b], h => simp at h
      | a :: b :: g :: r, h =>
        simp at h
        obtain ⟨h1, h2⟩ := h
        subst h1 h2
        have hb' : ((PyInside.within 0 4294967295 a && (PyInside.within 0 4294967295 b && (PyInside.within 0 4294967295 g && true))) && true) = true := hb
        simp only [Bool.and_true, Bool.and_eq_true, within_iff] at hb'
        obtain ⟨ha, hb2, hg⟩ := hb'
        refine ⟨.sides a.toNat b.toNat g.toNat, ?_, ?_, ?_⟩
        · show 10 :: a :: b :: g :: r = 10 :: (a.toNat : Int) :: (b.toNat : Int) :: (g.toNat : Int) :: r
          rw [Int.toNat_of_nonneg ha.1, Int.toNat_of_nonneg hb2.1, Int.toNat_of_nonneg hg.1]
        · show [10, a, b, g] = [10, (a.toNat : Int), (b.toNat : Int), (g.toNat : Int)]
          rw [Int.toNat_of_nonneg ha.1, Int.toNat_of_nonneg hb2.1, Int.toNat_of_nonneg hg.1]
        · show a.toNat ≤ 4294967295 ∧ b.toNat ≤ 4294967295 ∧ g.toNat ≤ 4294967295
          omega
    have hs : PyUw88.shape p = none := by
      unfold PyUw88.shape
      rw [if_neg p0, if_neg p1, if_neg p2, if_neg p3, if_neg p4, if_neg p5, if_neg p6, if_neg p7, if_neg p8, if_neg p9, if_neg p10]
    rw [hs] at h
    cases h
theorem calls_are : ∀ (f : Nat) (l : List Int) (raw : List (List (List Int))), PyFlat.calls PyUw88.shape f l = some raw → PyInside.calls PyUw88.bound raw = true →
    ∃ cs : List Call, l = (cs.map enc).flatten ∧ (raw.map PyUw88.whole).map (fun c => c.headD []) = cs.map wenc ∧ ∀ c ∈ cs, Small c
  | f, [], raw, h, _ => by
    have : PyFlat.calls PyUw88.shape f [] = some [] := by cases f <;> rfl
    rw [this] at h
    cases h
    exact ⟨[], rfl, rfl, fun _ q => nomatch q⟩
  | 0, _ :: _, raw, h, _ => by cases h
  | f + 1, p :: r, raw, h, hb => by
    unfold PyFlat.calls at h
    cases q : PyFlat.call PyUw88.shape (p :: r) with
    | none => rw [q] at h; cases h
    | some x =>
      obtain ⟨c, t⟩ := x
      rw [q] at h
      simp only [] at h
      cases q2 : PyFlat.calls PyUw88.shape f t with
      | none => rw [q2] at h; cases h
      | some cs' =>
        rw [q2] at h
        injection h with h
        subst h
        unfold PyInside.calls at hb
        rw [List.all_cons, Bool.and_eq_true] at hb
        obtain ⟨C, h1, h2, h3⟩ := call_is q hb.1
        obtain ⟨cs, g1, g2, g3⟩ := calls_are f t cs' q2 hb.2
        refine ⟨C :: cs, ?_, ?_, ?_⟩
        · rw [h1, g1, List.map_cons, List.flatten_cons]
        · rw [List.map_cons, List.map_cons, g2, h2, List.map_cons]
        · intro d hd
          rcases List.mem_cons.mp hd with e | e
          · rw [e]; exact h3
          · exact g3 d e
def play : Row → List Call → List (List Int)
  | _, [] => []
  | r, c :: cs => (Uw88.step r c).2 :: play (Uw88.step r c).1 cs
def toldOf (l : List (List Int)) : List Int := l.flatMap fun a => (a.length : Int) :: a
theorem played_eq : ∀ (raw : List (List (List Int))) (cs : List Call) (r : Row), (raw.map PyUw88.whole).map (fun c => c.headD []) = cs.map wenc → (∀ c ∈ cs, Small c) →
    PyFlat.played (fun s c => Uw88Neutral.step s (c.headD [])) r (raw.map PyUw88.whole) = play r cs
  | [], [], r, _, _ => rfl
  | [], _ :: _, r, h, _ => by cases h
  | _ :: _, [], r, h, _ => by cases h
  | x :: raw, c :: cs, r, h, hs => by
    simp only [List.map_cons] at h
    injection h with h1 h2
    have e : Uw88Neutral.step r ((PyUw88.whole x).headD []) = Uw88.step r c := by
      rw [h1]
      unfold Uw88Neutral.step
      rw [callOf_wenc c (hs c (by simp))]
      rfl
    rw [List.map_cons]
    show (Uw88Neutral.step r ((PyUw88.whole x).headD [])).2 :: PyFlat.played _ (Uw88Neutral.step r ((PyUw88.whole x).headD [])).1 _ = _
    rw [e, played_eq raw cs _ h2 fun d hd => hs d (by simp [hd])]
    rfl
structure Line (l : List Int) (cs : List Call) : Prop where
  flat : l = (cs.map enc).flatten
  few : cs.length ≤ 40
  some_ : cs ≠ []
  small : ∀ c ∈ cs, Small c
  ans : PyUw88.answers l = toldOf (play Uw88.init cs)
  short : (PyUw88.answers l).length ≤ 10000000
theorem line_of_asked {l : List Int} (h : PyUw88.answers_asked l = true) : ∃ cs, Line l cs := by
  unfold PyUw88.answers_asked at h
  cases q : PyFlat.calls PyUw88.shape l.length l with
  | none => rw [q] at h; cases h
  | some raw =>
    rw [q] at h
    simp only [Bool.and_eq_true, Bool.not_eq_true'] at h
    obtain ⟨⟨⟨⟨h1, h2⟩, h3⟩, _⟩, h5⟩ := h
    obtain ⟨cs, e1, e2, e3⟩ := calls_are l.length l raw q h3
    have len : raw.length = cs.length := by
      have := congrArg List.length e2
      simpa using this
    refine ⟨cs, e1, ?_, ?_, e3, ?_, ?_⟩
    · unfold PyFlat.atMost at h2
      have := of_decide_eq_true h2
      omega
    · intro e
      subst e
      have : raw = [] := List.length_eq_zero_iff.mp len
      subst this
      cases h1
    · unfold PyUw88.answers PyUw88.calls
      rw [q]
      simp only []
      rw [played_eq raw cs _ e2 e3]
      rfl
    · exact of_decide_eq_true h5
end TF
end
section
set_option linter.all false
namespace TF
open Uw88
/-! ### Ways -/
def IsWay : Row → List Nat → Prop
  | _, [] => True
  | r, i :: p => i ∈ moves r ∧ IsWay (moved r i) p
theorem W_way : ∀ (k : Nat) {r : Row} {x : List Nat × Row}, x ∈ W k r → IsWay r x.1
  | 0, r, x, h => by simp [W] at h; rw [h]; trivial
  | k + 1, r, x, h => by
    simp only [W, List.mem_flatMap, List.mem_map] at h
    obtain ⟨i, hi, y, hy, rfl⟩ := h
    exact ⟨hi, W_way k hy⟩
theorem fw_way {t r : Row} (h : cnt t r ≠ 0) : IsWay r (fw t r) := by
  obtain ⟨k, m⟩ := cnt_pos.mp h
  have f := fw_fk m
  unfold fk at f
  cases e : (W k r).find? fun x => x.2 == t with
  | none => rw [e] at f; cases f
  | some x =>
    rw [e] at f
    rw [← Option.some.inj f]
    exact W_way k (List.mem_of_find?_eq_some e)
def goAlong : Row → List Nat → Row
  | r, [] => r
  | r, i :: p => goAlong (moved r i) p
theorem goAlong_snoc : ∀ (p : List Nat) (r : Row) (i : Nat), goAlong r (p ++ [i]) = moved (goAlong r p) i
  | [], _, _ => rfl
  | j :: p, r, i => goAlong_snoc p (moved r j) i
theorem leaps_snoc : ∀ (p : List Nat) (r : Row) (i : Nat), leaps r (p ++ [i]) = leaps r p + if isLeap (goAlong r p) i = true then 1 else 0
  | [], r, i => by
    show (if isLeap r i = true then 1 else 0) + 0 = 0 + _
    rw [Nat.add_zero, Nat.zero_add]
    rfl
  | j :: p, r, i => by
    rw [List.cons_append]
    show (if isLeap r j = true then 1 else 0) + leaps (moved r j) (p ++ [i]) = (if isLeap r j = true then 1 else 0) + leaps (moved r j) p + _
    rw [leaps_snoc p (moved r j) i, Nat.add_assoc]
    rfl
theorem way_at : ∀ (p : List Nat) (r : Row) (i : Nat) (q : List Nat), IsWay r (p ++ i :: q) → i ∈ moves (goAlong r p)
  | [], r, i, q, h => h.1
  | j :: p, r, i, q, h => way_at p (moved r j) i q h.2
theorem goAlong_fine : ∀ (p : List Nat) (r : Row), Fine r → IsWay r p → Fine (goAlong r p)
  | [], r, f, _ => f
  | i :: p, r, f, h => goAlong_fine p (moved r i) (f.moved h.1) h.2
theorem way_take : ∀ (p q : List Nat) (r : Row), IsWay r (p ++ q) → IsWay r p
  | [], _, _, _ => trivial
  | i :: p, q, r, h => ⟨h.1, way_take p q (moved r i) h.2⟩
theorem take_snoc {α : Type} : ∀ {l : List α} {i : Nat} {x : α}, l[i]? = some x → l.take (i + 1) = l.take i ++ [x]
  | [], i, x, h => by simp at h
  | a :: l, 0, x, h => by simp at h; simp [h]
  | a :: l, i + 1, x, h => by
    have := take_snoc (l := l) (i := i) (x := x) (by simpa using h)
    simp [this]
theorem way_len {r t : Row} (f : r.length ≤ 9) (h : cnt t r ≠ 0) : (fw t r).length ≤ 108 := by
  obtain ⟨k, m⟩ := cnt_pos.mp h
  rw [fw_length m]
  rcases Nat.lt_or_ge 108 k with q | q
  · rw [E_end f q] at m; cases m
  · exact q
theorem far_cnt {r t : Row} (f : r.length ≤ 9) (h : cnt t r ≠ 0) : far r t = some (fw t r).length := by
  obtain ⟨k, m⟩ := cnt_pos.mp h
  rw [far_some f m, fw_length m]
theorem far_zero {r t : Row} (f : r.length ≤ 9) (h : cnt t r = 0) : far r t = none := far_none f fun k m => cnt_pos.mpr ⟨k, m⟩ h
theorem isRow_iff {l : List Nat} : isRow l = true ↔ 1 ≤ l.length ∧ l.length ≤ 9 ∧ ∀ x ∈ l, x ≤ 2 := by
  unfold isRow
  simp [Bool.and_eq_true]
theorem isRow_fine {l : List Nat} (h : isRow l = true) : Fine l := ⟨(isRow_iff.mp h).2.1, (isRow_iff.mp h).2.2⟩
end TF
end
section
set_option linter.all false
namespace TF
open Uw88
/-! ### The calls one by one -/
theorem step_row_no {r l : List Nat} (h : isRow l = false) : step r (.row l) = (r, [-1]) := by
  show (if isRow l = false then (r, [-1]) else (l, [((moves l).length : Int)])) = _
  rw [if_pos h]
theorem step_row_yes {r l : List Nat} (h : isRow l = true) : step r (.row l) = (l, [((moves l).length : Int)]) := by
  show (if isRow l = false then (r, [-1]) else (l, [((moves l).length : Int)])) = _
  rw [if_neg (by rw [h]; decide)]
theorem step_move_no {r : List Nat} {i : Nat} (h : r.length ≤ i) : step r (.move i) = (r, [-1]) := by
  show (if r.length ≤ i then (r, [-1]) else _) = _
  rw [if_pos h]
theorem step_move_free {r : List Nat} {i : Nat} (h : i < r.length) (h2 : r.getD i 0 = 0) : step r (.move i) = (r, [-4]) := by
  show (if r.length ≤ i then (r, [-1]) else if at_ r i = 0 then (r, [-4]) else _) = _
  rw [if_neg (by omega), if_pos (by rw [at_in h]; exact h2)]
theorem step_move_stuck {r : List Nat} {i : Nat} (h : i < r.length) (h2 : r.getD i 0 ≠ 0) (h3 : mlen r i = 0) : step r (.move i) = (r, [-2]) := by
  show (if r.length ≤ i then (r, [-1]) else if at_ r i = 0 then (r, [-4]) else if (goal r i).isNone = true then (r, [-2]) else _) = _
  rw [if_neg (by omega), if_neg (by rw [at_in h]; exact h2), if_pos (by rw [mlen_zero.mp h3]; rfl)]
theorem step_move_yes {r : List Nat} {i : Nat} (h : i < r.length) (h2 : r.getD i 0 ≠ 0) (h3 : mlen r i ≠ 0) : i ∈ moves r ∧ step r (.move i) = (moved r i, (mlen r i : Int) :: Uw88.ints (moved r i)) := by
  have g : goal r i ≠ none := fun z => h3 (mlen_zero.mpr z)
  obtain ⟨j, hj⟩ := Option.ne_none_iff_exists'.mp g
  have m : i ∈ moves r := moves_iff.mpr ⟨h, j, hj⟩
  refine ⟨m, ?_⟩
  show (if r.length ≤ i then (r, [-1]) else if at_ r i = 0 then (r, [-4]) else if (goal r i).isNone = true then (r, [-2]) else (moved r i, (if isLeap r i = true then 2 else 1) :: Uw88.ints (moved r i))) = _
  rw [if_neg (by omega), if_neg (by rw [at_in h]; exact h2), if_neg (by rw [hj]; exact Bool.false_ne_true), mlen_two m]
  split <;> rfl
theorem isRow_moved {r : List Nat} {i : Nat} (h : isRow r = true) (hi : i ∈ moves r) : isRow (moved r i) = true := by
  rw [isRow_iff] at h ⊢
  rw [moved_length hi]
  exact ⟨h.1, h.2.1, moved_small hi h.2.2⟩
def fits (r t : List Nat) : Bool := decide (t.length = r.length) && isRow t
theorem fits_not {r t : List Nat} (h : fits r t = false) : isRow t = false ∨ t.length ≠ r.length := by
  unfold fits at h
  rw [Bool.and_eq_false_iff, decide_eq_false_iff_not] at h
  rcases h with h | h
  · exact .inr h
  · exact .inl h
theorem fits_yes {r t : List Nat} (h : fits r t = true) : ¬ (isRow t = false ∨ t.length ≠ r.length) := by
  unfold fits at h
  rw [Bool.and_eq_true, decide_eq_true_iff] at h
  rintro (z | z)
  · rw [h.2] at z; cases z
  · exact z h.1
theorem fits_row {r t : List Nat} (h : fits r t = true) : isRow t = true := by
  unfold fits at h
  rw [Bool.and_eq_true] at h
  exact h.2
theorem step_to_no {r t : List Nat} (h : fits r t = false) : step r (.to t) = (r, [-1]) := by
  show (r, if isRow t = false ∨ t.length ≠ r.length then [-1] else _) = _
  rw [if_pos (fits_not h)]
theorem step_to_none {r t : List Nat} (f : r.length ≤ 9) (h : fits r t = true) (c : cnt t r = 0) : step r (.to t) = (r, [-6]) := by
  show (r, if isRow t = false ∨ t.length ≠ r.length then [-1] else match far r t with
    | none => [-6]
    | some n => Uw88.ints ([n, leaps r (firstWay r t)] ++ firstWay r t)) = _
  rw [if_neg (fits_yes h), far_zero f c]
theorem step_to_yes {r t : List Nat} (f : r.length ≤ 9) (h : fits r t = true) (c : cnt t r ≠ 0) : step r (.to t) = (r, Uw88.ints ([(fw t r).length, leaps r (fw t r)] ++ fw t r)) := by
  show (r, if isRow t = false ∨ t.length ≠ r.length then [-1] else match far r t with
    | none => [-6]
    | some n => Uw88.ints ([n, leaps r (firstWay r t)] ++ firstWay r t)) = _
  rw [if_neg (fits_yes h), far_cnt f c, firstWay_eq f]
theorem step_ways_no {r t : List Nat} (h : fits r t = false) : step r (.ways t) = (r, [-1]) := by
  show (r, if isRow t = false ∨ t.length ≠ r.length then [-1] else _) = _
  rw [if_pos (fits_not h)]
theorem step_ways_yes {r t : List Nat} (f : r.length ≤ 9) (h : fits r t = true) : step r (.ways t) = (r, [(cnt t r : Int)]) := by
  show (r, if isRow t = false ∨ t.length ≠ r.length then [-1] else [(ways r t : Int)]) = _
  rw [if_neg (fits_yes h), ways_eq f]
theorem isRow_step {r : List Nat} (h : isRow r = true) (c : Call) : isRow (step r c).1 = true := by
  cases c with
  | row l =>
    cases e : isRow l with
    | false => rw [step_row_no e]; exact h
    | true => rw [step_row_yes e]; exact e
  | move i =>
    rcases Nat.lt_or_ge i r.length with h1 | h1
    · by_cases h2 : r.getD i 0 = 0
      · rw [step_move_free h1 h2]; exact h
      · by_cases h3 : mlen r i = 0
        · rw [step_move_stuck h1 h2 h3]; exact h
        · obtain ⟨m, e⟩ := step_move_yes h1 h2 h3
          rw [e]; exact isRow_moved h m
    · rw [step_move_no h1]; exact h
  | moves => exact h
  | shows => exact h
  | to l => exact h
  | ways l => exact h
  | comes => exact h
  | stucks => exact h
  | longest => exact h
  | safe l => exact h
  | sides a b g => exact h
end TF
end
section
set_option linter.all false
namespace TF
open Uw88
def stA : Row → List Call → Row
  | r, [] => r
  | r, c :: cs => stA (step r c).1 cs
theorem stA_snoc : ∀ (cs : List Call) (r : Row) (c : Call), stA r (cs ++ [c]) = (step (stA r cs) c).1
  | [], _, _ => rfl
  | d :: cs, r, c => stA_snoc cs (step r d).1 c
theorem play_snoc : ∀ (cs : List Call) (r : Row) (c : Call), play r (cs ++ [c]) = play r cs ++ [(step (stA r cs) c).2]
  | [], _, _ => rfl
  | d :: cs, r, c => by
    show (step r d).2 :: play (step r d).1 (cs ++ [c]) = (step r d).2 :: play (step r d).1 cs ++ _
    rw [play_snoc cs (step r d).1 c]
    rfl
theorem play_append : ∀ (cs ds : List Call) (r : Row), play r (cs ++ ds) = play r cs ++ play (stA r cs) ds
  | [], _, _ => rfl
  | d :: cs, ds, r => by
    show (step r d).2 :: play (step r d).1 (cs ++ ds) = (step r d).2 :: play (step r d).1 cs ++ _
    rw [play_append cs ds (step r d).1]
    rfl
theorem told_append (a b : List (List Int)) : toldOf (a ++ b) = toldOf a ++ toldOf b := by
  unfold toldOf
  rw [List.flatMap_append]
theorem told_snoc (a : List (List Int)) (b : List Int) : toldOf (a ++ [b]) = toldOf a ++ (b.length : Int) :: b := by
  rw [told_append]
  simp [toldOf]
theorem stA_row : ∀ (cs : List Call) (r : Row), isRow r = true → isRow (stA r cs) = true
  | [], _, h => h
  | c :: cs, r, h => stA_row cs _ (isRow_step h c)
theorem init_row : isRow init = true := by decide
/-- what is told so far is no more than the whole -/
theorem told_part {cs : List Call} {i : Nat} {c : Call} (h : cs[i]? = some c) (r : Row) : (toldOf (play r (cs.take i))).length + 1 + (step (stA r (cs.take i)) c).2.length ≤ (toldOf (play r cs)).length := by
  have e : cs = (cs.take i ++ [c]) ++ cs.drop (i + 1) := by
    rw [← take_snoc h, List.take_append_drop]
  conv => rhs; rw [e]
  rw [play_append, play_snoc, told_append, told_append, List.length_append, List.length_append]
  have : (toldOf [(step (stA r (cs.take i)) c).2]).length = 1 + (step (stA r (cs.take i)) c).2.length := by
    simp [toldOf]
    omega
  omega
/-! ### how a call stands -/
def cod : Call → Int
  | .row _ => 0 | .move _ => 1 | .moves => 2 | .shows => 3 | .to _ => 4 | .ways _ => 5 | .comes => 6 | .stucks => 7 | .longest => 8 | .safe _ => 9 | .sides _ _ _ => 10
theorem enc_head (c : Call) : ∃ t, enc c = cod c :: t := by cases c <;> exact ⟨_, rfl⟩
def rows? : Call → Option (List Nat)
  | .row l => some l | .to l => some l | .ways l => some l | .safe l => some l | _ => none
theorem enc_rows {c : Call} {l : List Nat} (h : rows? c = some l) : enc c = cod c :: (l.length : Int) :: Uw88.ints l := by
  cases c <;> cases h <;> rfl
theorem enc_two {c : Call} (h : cod c = 1) : (enc c).length = 2 := by cases c <;> first | rfl | (exfalso; revert h; simp [cod])
theorem enc_four {c : Call} (h : cod c = 10) : (enc c).length = 4 := by cases c <;> first | rfl | (exfalso; revert h; simp [cod])
theorem enc_one {c : Call} (h : rows? c = none) (h1 : cod c ≠ 1) (h2 : cod c ≠ 10) : (enc c).length = 1 := by
  cases c <;> first | rfl | (exfalso; cases h; done) | exact absurd rfl h1 | exact absurd rfl h2
end TF
end
section
set_option linter.all false
namespace TF
open Uw88
/-! ### Behind the last layer: L k r = [] -/
theorem L_down {r : Row} {j k : Nat} (h : L j r = []) (hjk : j ≤ k) : L k r = [] := by
  obtain ⟨d, rfl⟩ : ∃ d, k = j + d := ⟨k - j, by omega⟩
  clear hjk
  induction d with
  | zero => exact h
  | succ d ih => rw [show j + (d + 1) = (j + d) + 1 from rfl, L_succ, ih]; rfl
theorem cts_over {r : Row} {j : Nat} (h : L (j + 1) r = []) : ∀ d, cts r (j + d) = cts r j
  | 0 => rfl
  | d + 1 => by
    show cts r (j + d) ++ (L (j + d + 1) r).map _ = _
    rw [cts_over h d, L_down h (by omega : j + 1 ≤ j + d + 1)]
    simp
theorem comes_end {r : Row} (f : r.length ≤ 9) {k : Nat} (h : L k r = []) : comes r = (cts r k).map (·.1) := by
  obtain ⟨j, h1, h2⟩ := last_layer f
  have hj : j ≤ k := by
    rcases Nat.lt_or_ge k j with q | q
    · exact absurd (L_down h (by omega)) h1
    · exact q
  obtain ⟨d, rfl⟩ : ∃ d, k = j + d := ⟨k - j, by omega⟩
  rw [comes_eq f h1 h2, cts_over h2 d]
theorem comes_len {r : Row} (f : r.length ≤ 9) {k : Nat} (h : L k r = []) : (comes r).length = (cts r k).length := by
  rw [comes_end f h, List.length_map]
theorem comes_nodup {r : Row} (f : r.length ≤ 9) : (comes r).Nodup := by
  obtain ⟨j, h1, h2⟩ := last_layer f
  rw [comes_eq f h1 h2]
  exact cts_nodup r j
theorem longest_end {r : Row} (f : r.length ≤ 9) {k : Nat} {t0 : Row} {rest : List Row} (h1 : L k r = t0 :: rest) (h2 : L (k + 1) r = []) : longest r = fw t0 r ∧ (longest r).length = k := by
  have e := longest_eq f h1 h2
  refine ⟨e, ?_⟩
  rw [e]
  exact fw_length (mem_L.mp (by rw [h1]; simp))
/-! ### the first of some rows -/
theorem lower_irrefl : ∀ r : Row, lower r r = false
  | [] => rfl
  | x :: l => by simp [lower, lower_irrefl l]
theorem lower_trans : ∀ {a b c : Row}, a.length = b.length → b.length = c.length → lower a b = true → lower b c = true → lower a c = true
  | [], _, _, _, _, h, _ => by simp [lower] at h
  | x :: a, [], _, h, _, _, _ => by simp at h
  | x :: a, y :: b, [], _, h, _, _ => by simp at h
  | x :: a, y :: b, z :: c, h1, h2, g1, g2 => by
    simp only [lower, Bool.or_eq_true, Bool.and_eq_true, decide_eq_true_eq, beq_iff_eq] at g1 g2 ⊢
    simp only [List.length_cons, Nat.add_right_cancel_iff] at h1 h2
    rcases g1 with g1 | ⟨e1, g1⟩ <;> rcases g2 with g2 | ⟨e2, g2⟩
    · exact .inl (by omega)
    · exact .inl (by omega)
    · exact .inl (by omega)
    · exact .inr ⟨by omega, lower_trans h1 h2 g1 g2⟩
theorem lower_total : ∀ {a b : Row}, a.length = b.length → lower a b = false → lower b a = false → a = b
  | [], [], _, _, _ => rfl
  | [], _ :: _, h, _, _ => by simp at h
  | _ :: _, [], h, _, _ => by simp at h
  | x :: a, y :: b, h, g1, g2 => by
    simp only [lower, Bool.or_eq_false_iff, decide_eq_false_iff_not, Bool.and_eq_false_iff, beq_eq_false_iff_ne] at g1 g2
    have e : x = y := by omega
    subst e
    rw [lower_total (by simpa using h) (g1.2.resolve_left (by simp)) (g2.2.resolve_left (by simp))]
def firstStep (m x : Row) : Row := if lower x m = true then x else m
theorem first_fold {n : Nat} : ∀ (l : List Row) (m : Row), m.length = n → (∀ x ∈ l, x.length = n) → (l.foldl firstStep m = m ∨ l.foldl firstStep m ∈ l) ∧ lower m (l.foldl firstStep m) = false ∧ (∀ x ∈ l, lower x (l.foldl firstStep m) = false)
  | [], m, _, _ => ⟨.inl rfl, lower_irrefl m, fun _ h => nomatch h⟩
  | x :: l, m, hm, hl => by
    have hx := hl x (by simp)
    rw [List.foldl_cons]
    have hs : (firstStep m x).length = n := by unfold firstStep; split <;> assumption
    obtain ⟨h1, h2, h3⟩ := first_fold l (firstStep m x) hs fun y hy => hl y (by simp [hy])
    have hr : (l.foldl firstStep (firstStep m x)).length = n := by
      rcases h1 with e | e
      · rw [e]; exact hs
      · exact hl _ (by simp [e])
    -- nothing is lower than the first; so what is not lower than it stands
    have up : ∀ y : Row, y.length = n → lower y (firstStep m x) = false → lower y (l.foldl firstStep (firstStep m x)) = false := by
      intro y hy g
      cases q : lower y (l.foldl firstStep (firstStep m x)) with
      | false => rfl
      | true =>
        exfalso
        cases q2 : lower (l.foldl firstStep (firstStep m x)) (firstStep m x) with
        | true =>
          have := lower_trans (hy.trans hr.symm) (hr.trans hs.symm) q q2
          rw [g] at this
          cases this
        | false =>
          have e := lower_total (hs.trans hr.symm) h2 q2
          rw [← e, g] at q
          cases q
    refine ⟨?_, ?_, ?_⟩
    · rcases h1 with e | e
      · rw [e]
        unfold firstStep
        split
        · exact .inr (by simp)
        · exact .inl rfl
      · exact .inr (by simp [e])
    · apply up m hm
      unfold firstStep
      split
      · rename_i g
        cases q : lower m x with
        | false => rfl
        | true =>
          have := lower_trans (hm.trans hx.symm) (hx.trans hm.symm) q g
          rw [lower_irrefl] at this
          cases this
      · exact lower_irrefl m
    · intro y hy
      rcases List.mem_cons.mp hy with e | e
      · rw [e]
        apply up x hx
        unfold firstStep
        split
        · exact lower_irrefl x
        · rename_i g
          simpa using g
      · exact h3 y e
theorem firstOf_is {n : Nat} {l : List Row} (hl : ∀ x ∈ l, x.length = n) {m : Row} (hm : m ∈ l) (hmin : ∀ x ∈ l, lower x m = false) : firstOf l = m := by
  cases l with
  | nil => cases hm
  | cons a l =>
    show (a :: l).foldl firstStep a = m
    have ha := hl a (by simp)
    obtain ⟨h1, h2, h3⟩ := first_fold (a :: l) a ha hl
    have hin : (a :: l).foldl firstStep a ∈ a :: l := by
      rcases h1 with e | e
      · rw [e]; simp
      · exact e
    exact lower_total ((hl _ hin).trans (hl _ hm).symm) (hmin _ hin) (h3 m hm)
theorem stuck_some {r : Row} (f : r.length ≤ 9) : stucks r ≠ [] := by
  obtain ⟨j, h1, h2⟩ := last_layer f
  obtain ⟨t, rest, e⟩ := List.exists_cons_of_ne_nil h1
  have ht : t ∈ L j r := by rw [e]; simp
  have hm := further_none (l := L j r) (by rw [← L_succ]; exact h2) ht
  intro z
  have : t ∈ stucks r := by
    unfold stucks
    rw [List.mem_filter]
    exact ⟨(comes_mem f).mpr ⟨j, mem_L.mp ht⟩, by rw [hm]; rfl⟩
  rw [z] at this
  cases this
/-! ### the calls of the second stage -/
theorem step_comes {r : Row} (f : r.length ≤ 9) {k : Nat} (h : L k r = []) : step r .comes = (r, [((cts r k).length : Int)]) := by
  show (r, [((comes r).length : Int)]) = _
  rw [comes_len f h]
theorem step_safe_no {r t : List Nat} (h : fits r t = false) : step r (.safe t) = (r, [-1]) := by
  show (r, if isRow t = false ∨ t.length ≠ r.length then [-1] else _) = _
  rw [if_pos (fits_not h)]
theorem step_safe_yes {r t : List Nat} (f : r.length ≤ 9) (h : fits r t = true) : step r (.safe t) = (r, counted ((moves r).filter fun i => decide (cnt t (moved r i) ≠ 0))) := by
  show (r, if isRow t = false ∨ t.length ≠ r.length then [-1] else counted (safe r t)) = _
  rw [if_neg (fits_yes h), safe_eq f]
def badSides (a b g : Nat) : Prop := 9 < a ∨ 9 < b ∨ 9 < g ∨ a + b + g < 1 ∨ 9 < a + b + g
theorem step_sides_no {r : Row} {a b g : Nat} (h : badSides a b g) : step r (.sides a b g) = (r, [-1]) := by
  show (r, if 9 < a ∨ 9 < b ∨ 9 < g ∨ a + b + g < 1 ∨ 9 < a + b + g then [-1] else _) = _
  unfold badSides at h
  rw [if_pos h]
theorem apart_len (a b g : Nat) : (apartRow a b g).length = a + b + g := by
  unfold apartRow
  simp
  omega
theorem apart_fine {a b g : Nat} (h : ¬ badSides a b g) : isRow (apartRow a b g) = true := by
  unfold badSides at h
  rw [isRow_iff, apart_len]
  refine ⟨by omega, by omega, fun x hx => ?_⟩
  unfold apartRow at hx
  simp only [List.mem_append, List.mem_replicate] at hx
  omega
theorem step_sides_none {r : Row} {a b g : Nat} (h : ¬ badSides a b g) (c : cnt (crossRow a b g) (apartRow a b g) = 0) : step r (.sides a b g) = (r, [-6]) := by
  show (r, if 9 < a ∨ 9 < b ∨ 9 < g ∨ a + b + g < 1 ∨ 9 < a + b + g then [-1] else match far (apartRow a b g) (crossRow a b g) with
    | none => [-6]
    | some n => [(n : Int)]) = _
  have fl := (isRow_fine (apart_fine h)).len
  unfold badSides at h
  rw [if_neg h, far_zero fl c]
theorem step_sides_yes {r : Row} {a b g : Nat} (h : ¬ badSides a b g) (c : cnt (crossRow a b g) (apartRow a b g) ≠ 0) : step r (.sides a b g) = (r, [((fw (crossRow a b g) (apartRow a b g)).length : Int)]) := by
  show (r, if 9 < a ∨ 9 < b ∨ 9 < g ∨ a + b + g < 1 ∨ 9 < a + b + g then [-1] else match far (apartRow a b g) (crossRow a b g) with
    | none => [-6]
    | some n => [(n : Int)]) = _
  have fl := (isRow_fine (apart_fine h)).len
  unfold badSides at h
  rw [if_neg h, far_cnt fl c]
end TF
end
section
set_option linter.all false
namespace TF
open Uw88
/-- the place of the best so far -/
def best (bt : Nat → Nat → Bool) : Nat → Nat
  | 0 => 0
  | k + 1 => if bt (k + 1) (best bt k) then k + 1 else best bt k
theorem best_le (bt : Nat → Nat → Bool) : ∀ k, best bt k ≤ k
  | 0 => Nat.le_refl 0
  | k + 1 => by
    have := best_le bt k
    unfold best
    split <;> omega
theorem fold_best (l : List Row) (hl : l ≠ []) (k : Nat) (hk : k < l.length) : (l.take (k + 1)).foldl firstStep (l.headD []) = l.getD (best (fun i j => lower (l.getD i []) (l.getD j [])) k) [] := by
  induction k with
  | zero =>
    cases l with
    | nil => cases hk
    | cons a l =>
      show firstStep a a = a
      unfold firstStep
      split <;> rfl
  | succ k ih =>
    have ih' := ih (by omega)
    have et : l.take (k + 1 + 1) = l.take (k + 1) ++ [l.getD (k + 1) []] := by
      rw [take_snoc (List.getElem?_eq_getElem hk), List.getD_eq_getElem?_getD, List.getElem?_eq_getElem hk]
      rfl
    rw [et, List.foldl_append, ih']
    show firstStep _ (l.getD (k + 1) []) = _
    unfold firstStep
    rw [best]
    split <;> rfl
theorem firstOf_best {l : List Row} (hl : l ≠ []) : firstOf l = l.getD (best (fun i j => lower (l.getD i []) (l.getD j [])) (l.length - 1)) [] := by
  have hp := List.length_pos_iff.mpr hl
  have := fold_best l hl (l.length - 1) (by omega)
  rw [show l.length - 1 + 1 = l.length from by omega, List.take_length] at this
  exact this
theorem step_stucks (r : Row) : step r .stucks = (r, ((stucks r).length : Int) :: Uw88.ints (firstOf (stucks r))) := rfl
theorem stucks_end {r : Row} (f : r.length ≤ 9) {k : Nat} (h : L k r = []) : stucks r = ((cts r k).map (·.1)).filter fun t => (moves t).isEmpty := by
  unfold stucks
  rw [comes_end f h]
theorem step_longest {r : Row} (f : r.length ≤ 9) {k : Nat} {t0 : Row} {rest : List Row} (h1 : L k r = t0 :: rest) (h2 : L (k + 1) r = []) : step r .longest = (r, counted (fw t0 r)) := by
  show (r, counted (longest r)) = _
  rw [(longest_end f h1 h2).1]
end TF
end
section
set_option maxRecDepth 100000
set_option linter.all false
namespace PySem
namespace F
theorem lri_no_len : typeLookup (.type "list_reverseiterator") "__len__" = pure none := am_miss_of_fast (by first | decide +kernel | rfl)
theorem lri_hint : typeLookup (.type "list_reverseiterator") "__length_hint__" = pure (some (.builtin "list_reverseiterator.__length_hint__")) := by rw [typeLookup_type, builtinLookup_eq_fast]; kernel_rfl
end F
section
variable {prog : Program} {w : World} {A : Around} {E : Value → Shared → Prop} {s : Shared}
theorem wpAny_extend_rev {R : Result → Shared → Prop} (hh : A.handled = none) {I l : Addr} {items : Array Value} (hne : l ≠ I) (hit : s.heap.IsRevIter I l ((items.size : Int) - 1)) (hl : s.heap.IsList l items) (S : Addr) (res : Value) (c₀ : Nat)
    (hSI : S ≠ I) (hSl : S ≠ l) (hS : s.heap.get? S = some { cls := .type "list", data := .seq #[] c₀ })
    (hR : ∀ h' tk acc' c', (∀ b o, b ≠ S → b ≠ I → s.heap.get? b = some o → h'.get? b = some o) → h'.get? S = some { cls := .type "list", dict := none, data := .seq acc' c', slots := #[] } →
      ItemsOf (fun i v => items[items.size - 1 - i]? = some v) acc' items.size → R (.ok (.ret res)) { s with heap := h', toks := tk }) (hn : items.size ≤ sizeLine) :
    wpAny (model prog w) A.in1 (Builtin.List.listExtendWith (.ref S) (.ref I) res)
      (fun fin s' => match fin with | .done f => R (.ok f) s' | .again c' => c'.quiet = true ∧ codeAny (model prog w) A c' R s') (fun e s' => R (.error e) s') s := by
  have hSf : S ∉ [I, l] := fun hm => by
    rcases List.mem_cons.mp hm with e | hm
    · exact hSI e
    · exact hSl (List.mem_singleton.mp hm)
  unfold Builtin.List.listExtendWith
  refine wpAny_bind (wpAny_typeOf hit.typeIs ?_)
  have h1 : Builtin.List.listSameRef (.ref S) (.ref I) = false := by simp [Builtin.List.listSameRef, hSI]
  have h2 : (Value.type "list_reverseiterator" == Value.type "list") = false := by decide
  have h3 : (Value.type "list_reverseiterator" == Value.type "tuple") = false := by decide
  simp only [h1, h2, h3, Bool.or_false, Bool.false_eq_true, if_false]
  refine wpAny_bind (wpAny_pyIter_revIter hit ?_)
  refine wpAny_bind (wpAny_holding ?_)
  unfold Builtin.List.listLengthHint
  refine wpAny_bind (wpAny_specialOf hit.typeIs F.lri_no_len ?_)
  wp_delta
  refine wpAny_bind (wpAny_specialOf hit.typeIs F.lri_hint ?_)
  wp_delta
  refine wpAny_bind (wpAny_isInstance (T := "list_reverseiterator") (b := true) hit.typeIs (by rw [isSubtype_type]; kernel_rfl) ?_)
  refine wpAny_pure ?_
  rw [if_neg (by decide)]
  have hst : (0 : Nat) ≤ items.size ∧ s.heap.IsRevIter I l ((items.size : Int) - 1 - ((0 : Nat) : Int)) ∧ s.heap.IsList l items := ⟨Nat.zero_le _, by simpa using hit, hl⟩
  refine wpAny_pure ⟨plainId_quiet F.plain_extend_loop _, codeAny_extend_loopS (Walks.listRev (A := A.in1) hh I l hne items).toS hn _ hSf _ items.size 0 _ _ _ rfl (Nat.zero_le _) hst hS (ItemsOf.nil _) fun s' acc' c' hm hS' hacc => ?_⟩
  rw [Moved.eq_with hm]
  refine hR s'.heap s'.toks acc' c' (fun b ob hb hbI e => hm.heap b ob (fun hmem => ?_) e) hS' hacc
  rcases List.mem_cons.mp hmem with e' | hmem
  · exact hb e'
  · exact hbI (List.mem_singleton.mp hmem)
theorem wpAny_list_init_rev {R : Result → Shared → Prop} (hh : A.handled = none) {I l : Addr} {items : Array Value} (hne : l ≠ I) (hit : s.heap.IsRevIter I l ((items.size : Int) - 1)) (hl : s.heap.IsList l items) (S : Addr)
    (hSI : S ≠ I) (hSl : S ≠ l) (hS : s.heap.get? S = some { cls := .type "list", data := .seq #[] })
    (hR : ∀ h' tk acc' c', (∀ b o, b ≠ S → b ≠ I → s.heap.get? b = some o → h'.get? b = some o) → h'.get? S = some { cls := .type "list", dict := none, data := .seq acc' c', slots := #[] } →
      ItemsOf (fun i v => items[items.size - 1 - i]? = some v) acc' items.size → R (.ok (.ret .none)) { s with heap := h', toks := tk }) (hn : items.size ≤ sizeLine) :
    wpAny (model prog w) A.in1 (Builtin.«list.__init__» ⟨[.ref S, .ref I], []⟩)
      (fun fin s' => match fin with | .done f => R (.ok f) s' | .again c' => c'.quiet = true ∧ codeAny (model prog w) A c' R s') (fun e s' => R (.error e) s') s := by
  show wpAny _ _ (do let old ← Builtin.List.listItems (.ref S); Builtin.List.listUpdate (.ref S) (fun _ => #[]); letGo old.toList.reverse; Builtin.List.listExtendWith (.ref S) (.ref I) .none) _ _ s
  refine wpAny_bind ?_
  unfold Builtin.List.listItems
  refine wpAny_bind (wpAny_seqItems hS rfl (wpAny_pure ?_))
  show wpAny _ _ (updateSeq S (fun _ => #[]) >>= fun _ => letGo (#[] : Array Value).toList.reverse >>= fun _ => Builtin.List.listExtendWith (.ref S) (.ref I) .none) _ _ s
  refine wpAny_bind (wpAny_updateSeq hS rfl ?_)
  have hS₂ := Heap.get?_update_self (Obj.mapSeq (fun _ => (#[] : Array Value))) hS rfl
  have oth : ∀ b o, b ≠ S → s.heap.get? b = some o → (s.heap.update S (Obj.mapSeq (fun _ => (#[] : Array Value)))).get? b = some o :=
    fun b o hb e => (Heap.get?_update_other _ _ (Ne.symm hb)).trans e
  refine wpAny_bind (wpAny_letGo ?_)
  refine wpAny_extend_rev hh hne (hit.at fun o e => oth I o hSI.symm e) (hl.at fun o e => oth l o hSl.symm e) S .none _ hSI hSl hS₂ (fun h' tk acc' c' hk hS' hacc => ?_) hn
  exact hR h' tk acc' c' (fun b o hb hbI e => hk b o hb hbI (oth b o hb e)) hS' hacc
theorem call_list_rev {Q : Value → Shared → Prop} (hh : A.handled = none) {I l : Addr} {items : Array Value} (hne : l ≠ I) (hit : s.heap.IsRevIter I l ((items.size : Int) - 1)) (hl : s.heap.IsList l items)
    (hQ : ∀ h' tk acc' c', (∀ b o, b ≠ I → s.heap.get? b = some o → h'.get? b = some o) →
      h'.get? s.heap.objs.size = some { cls := .type "list", dict := none, data := .seq acc' c', slots := #[] } → ItemsOf (fun i v => items[items.size - 1 - i]? = some v) acc' items.size → Q (.ref s.heap.objs.size) { s with heap := h', toks := tk }) (hn : items.size ≤ sizeLine) :
    wpAny (model prog w) A (call (.type "list") [.ref I]) Q E s := by
  refine callType_codes (Q₁ := fun obj s₁ => obj = .ref s.heap.objs.size ∧ s₁ = { s with heap := s.heap.push { cls := .type "list", data := .seq #[] } }) F.called_list (F.typeCall_list_1 _) F.entry_list_init
    (code_list_new _ ⟨rfl, rfl⟩) fun obj s₁ h₁ => ?_
  obtain ⟨rfl, rfl⟩ := h₁
  have hS : (s.heap.push { cls := .type "list", data := .seq #[] }).get? s.heap.objs.size = some { cls := .type "list", data := .seq #[] } := Heap.get?_push_size _ rfl
  have ltI : I < s.heap.objs.size := let ⟨_, e, _⟩ := hit; Heap.lt_size e
  have ltl : l < s.heap.objs.size := let ⟨_, e, _⟩ := hl; Heap.lt_size e
  refine ⟨⟨_, hS, rfl⟩, F.args_list_init_2 _ _, wpAny_list_init_rev (A := A.in1) hh hne (hit.at fun o e => Heap.get?_push_of_some _ e) (hl.at fun o e => Heap.get?_push_of_some _ e) _ (Ne.symm (Nat.ne_of_lt ltI)) (Ne.symm (Nat.ne_of_lt ltl)) hS (fun h' tk acc' c' hk hS' hacc => ?_) hn⟩
  exact ⟨rfl, hQ h' tk acc' c' (fun b o hb e => hk b o (Nat.ne_of_lt (Heap.lt_size e)) hb (Heap.get?_push_of_some _ e)) hS' hacc⟩
end
end PySem
end
section
set_option maxRecDepth 100000
set_option linter.all false
namespace PySem
/-- what the walk has kept before turn j: nothing, or the least so far, twice -/
def LeastKept (bt : Nat → Nat → Bool) (P : Nat → Value → Prop) (S : Addr) (j : Nat) (h : Heap) : Prop :=
  ∃ (c : Nat) (xs : Array Value), h.get? S = some { cls := .type "list", dict := none, data := .seq xs c, slots := #[] } ∧ ((j = 0 ∧ xs = #[]) ∨ ∃ (i : Nat) (v : Value), j = i + 1 ∧ P (argBest bt i) v ∧ xs = #[v, v])
section
variable {prog : Program} {w : World} {A : Around} {R : Result → Shared → Prop} {I : Addr} {fp wr : List Addr} {n : Nat} {P : Nat → Value → Prop} {St : Nat → Heap → Prop}
/-- min over a walk whose items are compared by what the walk's own state tells of the heap -/
theorem least_go (W : Walks prog w A.in1 I fp wr n P St) (bt : Nat → Nat → Bool)
    (cmp : ∀ (k i j : Nat) (a b : Value) (s : Shared) (Q : Value → Shared → Prop) (E : Value → Shared → Prop), St k s.heap → P i a → P j b → Q (.bool (bt i j)) s → wpAny (model prog w) A.in1 (richCompare .Lt a b) Q E s)
    (S : Addr) (hS : S ∉ fp) (hn : 0 < n) : ∀ (d j : Nat) (s : Shared), j + d = n → St j s.heap → LeastKept bt P S j s.heap →
    (∀ v h' tk, P (argBest bt (n - 1)) v → (∀ b o, b ∉ wr → b ≠ S → s.heap.get? b = some o → h'.get? b = some o) → R (.ok (.ret v)) { s with heap := h', toks := tk }) →
    codeAny (model prog w) A (.builtin "min.loop" ⟨[.ref I, .none, .ref S], []⟩) R s := by
  have nw : S ∉ wr := fun z => hS (W.sub _ z)
  have nm : (toString "min" ++ toString ".loop" : String) = "min.loop" := by decide
  have oth : ∀ (h : Heap) (f : Array Value → Array Value) (b : Addr) (o : Obj), b ≠ S → h.get? b = some o → (h.update S (Obj.mapSeq f)).get? b = some o := fun h f b o z e => (Heap.get?_update_other _ _ z.symm).trans e
  intro d
  induction d with
  | zero =>
    intro j s ej st kept fin
    obtain ⟨c, xs, hs, ⟨z, _⟩ | ⟨i, v, ei, pv, rfl⟩⟩ := kept
    · omega
    apply codeAny_builtin F.entry_min_loop; rw [Around.under_plainId F.plain_min_loop _]
    show wpAny _ A.in1 (seqItems? (.ref S) >>= _) _ _ _
    apply wpAny_bind; apply wpAny_seqItems hs rfl
    show wpAny _ A.in1 (tryCatch (pyNext (.ref I)) _ >>= _) _ _ _
    apply wpAny_bind; apply wpAny_tryCatch
    refine W.done s _ _ (by rw [← ej]; exact st) fun h1 tk hk => ?_
    have hs1 := hk S _ nw hs
    show wpAny _ A.in1 (updateSeq S (fun _ => #[]) >>= _) _ _ _
    apply wpAny_bind; apply wpAny_updateSeq hs1 rfl; apply wpAny_bind; apply wpAny_letGo; apply wpAny_pure
    have en : n - 1 = i := by omega
    exact fin v _ tk (by rw [en]; exact pv) fun b o nb ns e => oth _ _ b o ns (hk b o nb e)
  | succ d ih =>
    intro j s ej st kept fin
    obtain ⟨c, xs, hs, kx⟩ := kept
    apply codeAny_builtin F.entry_min_loop; rw [Around.under_plainId F.plain_min_loop _]
    show wpAny _ A.in1 (seqItems? (.ref S) >>= _) _ _ _
    apply wpAny_bind; apply wpAny_seqItems hs rfl
    rcases kx with ⟨rfl, rfl⟩ | ⟨i, v, ei, pv, rfl⟩
    · show wpAny _ A.in1 (tryCatch (pyNext (.ref I)) _ >>= _) _ _ _
      apply wpAny_bind; apply wpAny_tryCatch
      refine W.item 0 s _ _ (by omega) st fun x h1 tk px st1 hk => ?_
      have hs1 := hk S _ nw hs
      show wpAny _ A.in1 (updateSeq S (fun _ => #[x, x]) >>= _) _ _ _
      apply wpAny_bind; apply wpAny_updateSeq hs1 rfl; rw [nm]
      refine wpAny_pure ⟨plainId_quiet F.plain_min_loop _, ih 1 _ (by omega) (W.frame _ _ _ st1 fun b hb o e => oth _ _ b o (fun z => hS (z ▸ hb)) e) ⟨_, _, Heap.get?_update_self _ hs1 rfl, .inr ⟨0, x, rfl, px, rfl⟩⟩ fun y h2 tk2 py hk2 => ?_⟩
      exact fin y h2 tk2 py fun b o nb ns e => hk2 b o nb ns (oth _ _ b o ns (hk b o nb e))
    · show wpAny _ A.in1 (tryCatch (pyNext (.ref I)) _ >>= _) _ _ _
      apply wpAny_bind; apply wpAny_tryCatch
      refine W.item j s _ _ (by omega) st fun x h1 tk px st1 hk => ?_
      have hs1 := hk S _ nw hs
      show wpAny _ A.in1 (tryCatch (holding [x, x] (richCompare .Lt x v >>= _)) _ >>= _) _ _ _
      apply wpAny_bind; apply wpAny_tryCatch; apply wpAny_holding; apply wpAny_bind
      refine cmp (j + 1) j (argBest bt i) x v _ _ _ st1 px pv ?_
      apply wpAny_bind; apply wpAny_holding; apply wpAny_truthy_bool; apply wpAny_bind; apply wpAny_letGo; apply wpAny_pure
      have ea : argBest bt j = if bt j (argBest bt i) then j else argBest bt i := by rw [ei]; rfl
      cases eb : bt j (argBest bt i) with
      | true =>
        rw [eb, if_pos rfl] at ea
        simp only [if_true]
        apply wpAny_bind; apply wpAny_updateSeq hs1 rfl; apply wpAny_bind; apply wpAny_letGo; rw [nm]
        refine wpAny_pure ⟨plainId_quiet F.plain_min_loop _, ih (j + 1) _ (by omega) (W.frame _ _ _ st1 fun b hb o e => oth _ _ b o (fun z => hS (z ▸ hb)) e) ⟨_, _, Heap.get?_update_self _ hs1 rfl, .inr ⟨j, x, rfl, by rw [ea]; exact px, rfl⟩⟩ fun y h2 tk2 py hk2 => ?_⟩
        exact fin y h2 tk2 py fun b o nb ns e => hk2 b o nb ns (oth _ _ b o ns (hk b o nb e))
      | false =>
        rw [eb, if_neg (by decide)] at ea
        simp only [Bool.false_eq_true, if_false]
        apply wpAny_bind; apply wpAny_letGo; rw [nm]
        refine wpAny_pure ⟨plainId_quiet F.plain_min_loop _, ih (j + 1) _ (by omega) st1 ⟨c, _, hs1, .inr ⟨j, v, rfl, by rw [ea]; exact pv, rfl⟩⟩ fun y h2 tk2 py hk2 => ?_⟩
        exact fin y h2 tk2 py fun b o nb ns e => hk2 b o nb ns (hk b o nb e)
end
section
variable {prog : Program} {w : World} {A : Around} {E : Value → Shared → Prop} {s : Shared}
theorem min_told {x : Value} {Q : Value → Shared → Prop}
    (h : wpAny (model prog w) A.in1 (pyIter x) (fun it s1 => ∃ I fp wr n P St bt, it = .ref I ∧ Walks prog w A.in1 I fp wr n P St ∧ St 0 s1.heap ∧ (∀ b ∈ fp, b < s1.heap.objs.size) ∧ 0 < n ∧
      (∀ (k i j : Nat) (a b : Value) (s : Shared) (Q : Value → Shared → Prop) (E : Value → Shared → Prop), St k s.heap → P i a → P j b → Q (.bool (bt i j)) s → wpAny (model prog w) A.in1 (richCompare .Lt a b) Q E s) ∧
      ∀ v h' tk, P (argBest bt (n - 1)) v → (∀ b o, b ∉ wr → s1.heap.get? b = some o → h'.get? b = some o) → Q v { s1 with heap := h', toks := tk }) E s) : wpAny (model prog w) A (call (.builtin "min") [x]) Q E s := by
  have nm : (toString "min" ++ toString ".loop" : String) = "min.loop" := by decide
  apply call_function_tree F.kind_min F.plain_min F.entry_min (F.args_min1 _)
  show wpAny _ A.in1 (Builtin.Builtins.bindParams "min" ["key", "default"] 0 ⟨[], []⟩ >>= _) _ _ _
  apply wpAny_bind; apply wpAny_of_eq (show Builtin.Builtins.bindParams "min" ["key", "default"] 0 ⟨[], []⟩ = pure [none, none] from rfl)
  apply wpAny_bind; apply wpAny_pure; apply wpAny_bind
  refine wpAny_mono h (fun it s1 h1 => ?_) fun _ _ e => e
  obtain ⟨I, fp, wr, n, P, St, bt, rfl, W, st, low, hn, cmp, fin⟩ := h1
  refine wpAny_bind (wpAny_newObj_type ?_); rw [nm]
  refine wpAny_pure ⟨plainId_quiet F.plain_min_loop _, least_go W bt cmp s1.heap.objs.size (fun z => Nat.lt_irrefl _ (low _ z)) hn n 0 _ (by omega) (W.frame _ _ _ st fun b _ o e => Heap.get?_push_of_some _ e) ⟨_, _, Heap.get?_push_size _ rfl, .inl ⟨rfl, rfl⟩⟩ fun v h2 tk pv hk => ?_⟩
  exact fin v h2 tk pv fun b o nb e => hk b o nb (Nat.ne_of_lt (Heap.lt_size e)) (Heap.get?_push_of_some _ e)
end
end PySem
end
section
set_option maxRecDepth 100000
set_option linter.all false
namespace PySem
open Sem (wp)
open Builtin
theorem tupMul_same (l : Addr) (items : Array Value) (n : Nat) (dd : Option Addr) (sl : Array (Option Value)) (u : Tok) :
    Meets (Builtin.«tuple.__mul__» ⟨[.ref l, .int 1 u], []⟩) (fun _ R s => s.heap.get? l = some ⟨.type "tuple", dd, .seq items n, sl⟩ ∧ R (.ok (.ret (Value.ref l))) s) :=
  .of_wp fun prog w A R s h => by
    obtain ⟨hp, g, d, tk, os⟩ := s; obtain ⟨hl, h⟩ := h
    have f1 := AutoSeq1.idx_int
    wp_walk using AutoSeq1.wpAny_loadPart' hl
    exact ⟨_, rfl, h⟩
theorem tupMul_none (l : Addr) (items : Array Value) (n : Nat) (dd : Option Addr) (sl : Array (Option Value)) (u : Tok) (h0 : items.isEmpty = false) :
    Meets (Builtin.«tuple.__mul__» ⟨[.ref l, .int 0 u], []⟩) (fun _ R s => s.heap.get? l = some ⟨.type "tuple", dd, .seq items n, sl⟩ ∧ R (.ok (.ret (Value.ref s.heap.objs.size))) { s with heap := s.heap.push { cls := .type "tuple", data := .seq #[] } }) :=
  .of_wp fun prog w A R s h => by
    obtain ⟨hp, g, d, tk, os⟩ := s; obtain ⟨hl, h⟩ := h
    have f1 := AutoSeq1.idx_int
    have f2 : ¬ (items.isEmpty || (0 : Int) == 1) = true := by rw [h0]; decide
    wp_walk using AutoSeq1.wpAny_loadPart' hl
    exact ⟨_, rfl, h⟩
theorem tupMul_more (l : Addr) (items : Array Value) (n : Nat) (dd : Option Addr) (sl : Array (Option Value)) (x : Int) (u : Tok) (h0 : items.isEmpty = false) (h2 : 2 ≤ x) (h9 : x < 2 ^ 63)
    (hz : items.size * x.toNat ≤ sizeLine) (hz2 : ((List.replicate x.toNat items).foldl (· ++ ·) #[]).size ≤ sizeLine) :
    Meets (Builtin.«tuple.__mul__» ⟨[.ref l, .int x u], []⟩) (fun _ R s => s.heap.get? l = some ⟨.type "tuple", dd, .seq items n, sl⟩ ∧ R (.ok (.ret (Value.ref s.heap.objs.size))) { s with heap := s.heap.push { cls := .type "tuple", data := .seq ((List.replicate x.toNat items).foldl (· ++ ·) #[]) } }) :=
  .of_wp fun prog w A R s h => by
    obtain ⟨hp, g, d, tk, os⟩ := s; obtain ⟨hl, h⟩ := h
    have f1 := AutoSeq1.idx_int
    have f2 : ¬ (items.isEmpty || x == 1) = true := by rw [h0]; simp; omega
    have f3 : ¬ (decide (x < -(2 ^ 63)) || decide (x ≥ 2 ^ 63)) = true := by simp; omega
    have f4 : ¬ (decide (x ≤ 0) || items.isEmpty) = true := by rw [h0]; simp; omega
    have ez : ((items.size : Nat) : Int) * x = ((items.size * x.toNat : Nat) : Int) := by rw [Int.natCast_mul]; congr 1; omega
    have f5 : ¬ ((items.size : Nat) : Int) * x > (2 ^ 63 - 1) / 8 := by
      rw [ez]
      have : (sizeLine : Nat) ≤ (2 ^ 63 - 1) / 8 := by decide
      omega
    have f6 : ¬ Tuple.tupleTooMany (((items.size : Nat) : Int) * x) = true := by
      unfold Tuple.tupleTooMany
      rw [ez, decide_eq_true_iff]
      omega
    wp_walk using AutoSeq1.wpAny_loadPart' hl
    rw [if_neg f3]
    wp_walk using AutoSeq1.wpAny_loadPart' hl
    rw [if_neg f2]
    simp only [if_neg f4, if_neg f5, if_neg f6]
    wp_walk
    exact ⟨_, rfl, h⟩
theorem rmul_tup (a : Int) (t : Tok) (l : Addr) (items : Array Value) (n : Nat) (dd : Option Addr) (sl : Array (Option Value)) :
    Meets (Builtin.«int.__rmul__» ⟨[.int a t, .ref l], []⟩) (fun _ R s => s.heap.get? l = some ⟨.type "tuple", dd, .seq items n, sl⟩ ∧ R (.ok (.ret Value.notImplemented)) s) :=
  .of_wp fun prog w A R s h => by
    obtain ⟨hp, g, d, tk, os⟩ := s; obtain ⟨hl, h⟩ := h
    wp_walk using AutoSeq1.wpAny_loadPart' hl
    exact ⟨_, rfl, h⟩
theorem noFill_tupMul : fillsNumberSlot (.type "tuple") "mul" = pure false :=
  fillsNumberSlot_seq (id := "tuple.__mul__") (r := some (.builtin "tuple.__rmul__")) F.slot_tuple_mul.lookup (by decide +kernel) F.slot_tuple_rmul.lookup (by decide +kernel)
theorem repeat_tup : seqRepeat? (.type "tuple") = pure (some (.builtin "tuple.__mul__")) := by
  unfold seqRepeat?
  rw [seqSlot_of (T := "tuple") (name := "__mul__") (id := "tuple.__mul__") F.slot_tuple_mul.lookup (by decide +kernel), seqSlot_of (T := "tuple") (name := "__rmul__") (id := "tuple.__rmul__") F.slot_tuple_rmul.lookup (by decide +kernel)]
  rfl
section
variable {prog : Program} {w : World} {A : Around} {E : Value → Shared → Prop} {s : Shared}
/-- a tuple times an int -/
theorem rep_tup {l : Addr} {items : Array Value} {n : Nat} {dd : Option Addr} {sl : Array (Option Value)} {x : Int} {u : Tok} {Q : Value → Shared → Prop} (ho : s.heap.get? l = some ⟨.type "tuple", dd, .seq items n, sl⟩)
    (hc : wpAny (model prog w) A (call (.builtin "tuple.__mul__") [.ref l, .int x u]) Q E s) : wpAny (model prog w) A (binaryOp .Mult (.ref l) (.int x u)) Q E s :=
  wpAny_binaryOp_repeat_ref (T := "tuple") (U := "int") (by decide) ⟨_, ho, rfl⟩ (fun s' => typeIs_int s' x u) noFill_tupMul F.fills_int_mul F.slot_int_rmul repeat_tup F.slot_int_index.lookup
    (call_meets F.slot_int_rmul (typeIs_int s x u) F.entry_int_rmul (F.args_int_rmul_2 _ _) (rmul_tup x u l items n dd sl) ⟨ho, rfl, ⟨_, ho, rfl⟩, hc⟩)
theorem mul_tup_same {l : Addr} {items : Array Value} {n : Nat} {dd : Option Addr} {sl : Array (Option Value)} {u : Tok} {Q : Value → Shared → Prop} (ho : s.heap.get? l = some ⟨.type "tuple", dd, .seq items n, sl⟩) (q : Q (.ref l) s) :
    wpAny (model prog w) A (binaryOp .Mult (.ref l) (.int 1 u)) Q E s :=
  rep_tup ho (call_meets F.slot_tuple_mul ⟨_, ho, rfl⟩ F.entry_tuple_mul (F.args_tuple_mul_2 _ _) (tupMul_same l items n dd sl u) ⟨ho, q⟩)
theorem mul_tup_none {l : Addr} {items : Array Value} {n : Nat} {dd : Option Addr} {sl : Array (Option Value)} {u : Tok} {Q : Value → Shared → Prop} (ho : s.heap.get? l = some ⟨.type "tuple", dd, .seq items n, sl⟩) (h0 : items.isEmpty = false)
    (q : Q (.ref s.heap.objs.size) { s with heap := s.heap.push { cls := .type "tuple", data := .seq #[] } }) : wpAny (model prog w) A (binaryOp .Mult (.ref l) (.int 0 u)) Q E s :=
  rep_tup ho (call_meets F.slot_tuple_mul ⟨_, ho, rfl⟩ F.entry_tuple_mul (F.args_tuple_mul_2 _ _) (tupMul_none l items n dd sl u h0) ⟨ho, q⟩)
theorem mul_tup_more {l : Addr} {items : Array Value} {n : Nat} {dd : Option Addr} {sl : Array (Option Value)} {x : Int} {u : Tok} {Q : Value → Shared → Prop} (ho : s.heap.get? l = some ⟨.type "tuple", dd, .seq items n, sl⟩) (h0 : items.isEmpty = false)
    (h2 : 2 ≤ x) (h9 : x < 2 ^ 63) (hz : items.size * x.toNat ≤ sizeLine) (hz2 : ((List.replicate x.toNat items).foldl (· ++ ·) #[]).size ≤ sizeLine)
    (q : Q (.ref s.heap.objs.size) { s with heap := s.heap.push { cls := .type "tuple", data := .seq ((List.replicate x.toNat items).foldl (· ++ ·) #[]) } }) : wpAny (model prog w) A (binaryOp .Mult (.ref l) (.int x u)) Q E s :=
  rep_tup ho (call_meets F.slot_tuple_mul ⟨_, ho, rfl⟩ F.entry_tuple_mul (F.args_tuple_mul_2 _ _) (tupMul_more l items n dd sl x u h0 h2 h9 hz hz2) ⟨ho, q⟩)
end
end PySem
end
section
set_option maxRecDepth 100000
set_option linter.all false
namespace PySem
open Sem (wp)
section
variable {prog : Program} {w : World} {A : Around} {E : Value → Shared → Prop} {s : Shared}
/-- how many entries a dict has, whatever its keys are -/
theorem size_of_dict (d : Addr) (hd : (d == sysModules) = false) :
    MeetsIn prog w (Builtin.«dict.__len__» ⟨[.ref d], []⟩) (fun _ R s => ∃ (o : Obj) (es : Array DictEntry) (ep : Nat), s.heap.get? d = some o ∧ o.data = .dict es ep ∧ R (.ok (.ret (.int (es.size : Nat) s.toks))) { s with toks := s.toks + 1 }) :=
  .of_wp fun A R s ⟨o, es, ep, ho, hdat, h⟩ => by
    show wpAny _ _ (dictSize d >>= _) _ _ s
    unfold dictSize
    apply wpAny_bind; apply wpAny_bind; apply wpAny_dictEntries ho hdat; apply wpAny_pure
    show wpAny _ _ (Builtin.Dict.pendingCount d >>= _) _ _ s
    apply wpAny_bind; apply wpAny_pendingCount_other hd
    apply wpAny_ret_mkInt; rw [Nat.add_zero]; exact h
theorem len_any_dict {d : Addr} {o : Obj} {es : Array DictEntry} {ep : Nat} {Q : Value → Shared → Prop} (hd : (d == sysModules) = false) (ho : s.heap.get? d = some o) (hc : o.cls = .type "dict") (hdat : o.data = .dict es ep) (hfit : es.size ≤ sizeLine)
    (h : Q (.int (es.size : Nat) (s.toks + 1)) { s with toks := s.toks + 1 + 1 }) : wpAny (model prog w) A (call (.builtin "len") [.ref d]) Q E s := by
  have hz : ((es.size : Nat) : Int) < 2 ^ 63 := by
    have : (sizeLine : Nat) < 2 ^ 63 := by decide
    omega
  refine Calls.call_function_entry kind_len plain_len entry_len (args_len1 _) ?_
  unfold Builtin.«len»
  apply wpAny_bind (m := oneArg "len" _); apply wpAny_pure
  refine wpAny_bind (m := callSpecial? (.ref d) (Str.ofString "__len__")) (wpAny_callSpecial?_slot (name := Str.ofString "__len__") ⟨o, ho, hc⟩ F.slot_dict_len (call_meetsIn F.slot_dict_len ⟨o, ho, hc⟩ F.entry_dict_len (F.args_dict_len_1 _) (size_of_dict d hd) ⟨o, es, ep, ho, hdat, ?_⟩))
  show wpAny _ _ _ _ _ { s with toks := s.toks + 1 }
  apply wpAny_bind; apply wpAny_holding; apply wpAny_pure; apply wpAny_bind; apply wpAny_letGo
  show wpAny _ _ (if ((es.size : Nat) : Int) < 0 then _ else _) _ _ _
  rw [if_neg (by omega)]
  show wpAny _ _ (if ((es.size : Nat) : Int) ≥ 2 ^ 63 then _ else _) _ _ _
  rw [if_neg (by omega)]
  apply wpAny_bind; apply wpAny_mkInt; exact wpAny_pure ⟨_, rfl, h⟩
end
end PySem
end
section
set_option Elab.async false
set_option linter.all false
set_option maxRecDepth 100000
set_option maxHeartbeats 2000000
namespace Tp
open PySem PySem.Spec PyProof.Rows L2
open PySem.W (Codec)
def top (i : Nat) : Stmt := PySem.Challenge.pw_toadsfrogs_s01_answers.main.body.getD i (.Pass ⟨0, 0, 0, 0⟩)
abbrev sIsRow : Stmt := top 9
abbrev sFound : Stmt := top 10
abbrev sDir : Stmt := top 11
abbrev sOth : Stmt := top 12
abbrev sLen : Stmt := top 13
abbrev sMoves : Stmt := top 14
abbrev sAfter : Stmt := top 15
abbrev sLeaps : Stmt := top 16
/-! ### rows as values -/
def rv (r : List Nat) : List V := r.map fun (n : Nat) => V.int (n : Int)
def rowKey (r : List Nat) : List Key := r.map fun (n : Nat) => (Sum.inl (n : Int) : Key)
theorem rowKey_kV (r : List Nat) : (rowKey r).map kV = rv r := by
  unfold rowKey rv
  rw [List.map_map]
  rfl
theorem rowKey_inj : ∀ {r s : List Nat}, rowKey r = rowKey s → r = s
  | [], [], _ => rfl
  | [], _ :: _, h => by cases h
  | _ :: _, [], h => by cases h
  | x :: r, y :: s, h => by
    unfold rowKey at h
    simp only [List.map_cons, List.cons.injEq, Sum.inl.injEq] at h
    have : x = y := by omega
    rw [this, rowKey_inj h.2]
theorem rv_len (r : List Nat) : (rv r).length = r.length := by unfold rv; rw [List.length_map]
theorem rv_at {r : List Nat} {i : Nat} (h : i < r.length) : (rv r)[i]? = some (V.int (r.getD i 0 : Nat)) := by
  unfold rv
  rw [List.getElem?_map, List.getD_eq_getElem?_getD, List.getElem?_eq_getElem h]
  rfl
theorem vint {i j : Int} : decide (V.int i = V.int j) = true ↔ i = j := by
  rw [decide_eq_true_iff]
  constructor
  · intro h; injection h
  · intro h; rw [h]
def RowAt (H : Hp) (a : Addr) (r : List Nat) : Prop := KeyAt H a (rowKey r)
/-! ### the module's names -/
def GI (mg : Str → Option Value) (x : Str) (i : Int) : Prop := ∃ u, mg x = some u ∧ RelV (.int i) u
theorem pe_gi {X : Cx} {x : Str} {i : Int} {pos : Pos} (h : GI X.mg x i) (hg : Gl X x) (hd : (x == ("__debug__" : Str)) = false := by decide) : PE X (.Name x pos) (tC (.int i)) := by
  obtain ⟨u, h1, h2⟩ := h
  exact pe_glob hg h1 h2 hd
structure Txt (K : PySem.W.Frag) (mg : Str → Option Value) : Prop where
  stat : ∀ b k, St0 b k → ∃ (o : Obj) (its : Array Value) (n : Nat), K.lookup b = some o ∧ o.cls = .type "tuple" ∧ o.data = .seq its n ∧ its.size ≤ sizeLine ∧ Vals (k.map kV) its.toList
  FREE : GI mg "FREE" 0
  TOAD : GI mg "TOAD" 1
  FROG : GI mg "FROG" 2
  MOST : GI mg "MOST_STONES" 9
  WATER : GI mg "WATER" 3
  STEP : GI mg "STEP" 1
  LEAP : GI mg "LEAP" 2
  NOMOVE : GI mg "NO_MOVE" 0
  ROW : GI mg "ROW" 0
  MOVE : GI mg "MOVE" 1
  MOVES : GI mg "MOVES" 2
  SHOWS : GI mg "SHOWS" 3
  TO : GI mg "TO" 4
  WAYS : GI mg "WAYS" 5
  COMES : GI mg "COMES" 6
  STUCKS : GI mg "STUCKS" 7
  LONGEST : GI mg "LONGEST" 8
  SAFE : GI mg "SAFE" 9
  SIDES : GI mg "SIDES" 10
  NOTTHERE : GI mg "NOT_THERE" (-1)
  CANTMOVE : GI mg "CANT_MOVE" (-2)
  ISFREE : GI mg "IS_FREE" (-4)
  CANTCOME : GI mg "CANT_COME" (-6)
  BEG : mg "BEGINNING" = some (.ref begAddr)
  len : mg "len" = none
  max : mg "max" = none
  min : mg "min" = none
  range : mg "range" = none
  list : mg "list" = none
  tuple : mg "tuple" = none
  reversed : mg "reversed" = none
theorem RowAt.sqT {K : PySem.W.Frag} {mg : Str → Option Value} {H : Hp} {a : Addr} {r : List Nat} (T : Txt K mg) (h : RowAt H a r) : SqT K H a (rv r) := by
  rcases h with h | h
  · rw [rowKey_kV] at h
    exact SqT.of h
  · have := T.stat a _ h
    rw [rowKey_kV] at this
    exact .inr this
theorem RowAt.same {H H' : Hp} {a : Addr} {r : List Nat} (h : RowAt H a r) (s : Same H H') : RowAt H' a r := h.keep fun b ys e => s b _ e
/-- a def of the top -/
structure Def (K : PySem.W.Frag) (mg : Str → Option Value) (x : Str) (st : Stmt) (ps : List Str) (f : Addr) (fd : FuncData) : Prop where
  F : Fun K x x st f fd
  g : mg x = some (.ref f)
  b : Binds K fd ps []
/-! ### promises -/
def spFound (K : PySem.W.Frag) : Sp := fun vs H Q _ => ∃ (a : Addr) (r : List Nat) (z : Int), vs = [.ref a, .int z] ∧ SqT K H a (rv r) ∧ Q (.int (TF.fa r z)) H
def spDir : Sp := fun vs H Q _ => ∃ k : Int, vs = [.int k] ∧ Q (.int (TF.dirOf k)) H
def spOth : Sp := fun vs H Q _ => ∃ k : Int, vs = [.int k] ∧ Q (.int (TF.othOf k)) H
def spLen (K : PySem.W.Frag) : Sp := fun vs H Q _ => ∃ (a : Addr) (r : List Nat) (i : Nat), vs = [.ref a, .int i] ∧ SqT K H a (rv r) ∧ i < r.length ∧ (∀ x ∈ r, x ≤ 2) ∧ Q (.int (TF.mlen r i : Nat)) H
def spMoves (K : PySem.W.Frag) : Sp := fun vs H Q _ => ∃ (a : Addr) (r : List Nat), vs = [.ref a] ∧ SqT K H a (rv r) ∧ TF.Fine r ∧ ∀ p, H p = none → Q (.ref p) (upd H p (.lst (rv (Uw88.moves r))))
def spAfter (K : PySem.W.Frag) : Sp := fun vs H Q _ => ∃ (a : Addr) (r : List Nat) (i : Nat), vs = [.ref a, .int i] ∧ SqT K H a (rv r) ∧ i ∈ Uw88.moves r ∧ TF.Fine r ∧
  ∀ H' p, Same H H' → H p = none → H' p = some (.tup (rv (Uw88.moved r i))) → Q (.ref p) H'
def spIsRow (K : PySem.W.Frag) : Sp := fun vs H Q _ => ∃ (a : Addr) (l : List Nat), vs = [.ref a] ∧ SqL K H a (rv l) ∧ Q (.bl (Uw88.isRow l)) H
def spLeaps (K : PySem.W.Frag) : Sp := fun vs H Q _ => ∃ (a y : Addr) (r : List Nat) (w : List Nat), vs = [.ref a, .ref y] ∧ SqT K H a (rv r) ∧ TF.Fine r ∧ H y = some (.lst (rv w)) ∧ TF.IsWay r w ∧
  ∀ H', Same H H' → Q (.int (Uw88.leaps r w : Nat)) H'
section
variable {P : Program} {w : World} {K : PySem.W.Frag} {mg : Str → Option Value} {base : Heap}
theorem scDir : FnScope ["kind"] ["kind"] (defScope sDir) := ⟨rfl, rfl, rfl, by decide +kernel, rfl, by decide +kernel, by decide +kernel⟩
theorem ok_dir {f : Addr} {fd : FuncData} (F : Fun K "direction" "direction" sDir f fd) (T : Txt K mg) : FnOk P w K mg base CX0 1 f fd ["kind"] spDir := by
  refine F.ok scDir (fun vs H Q E h => ?_) (fun cdv A outer s H vs Q E hr h => ?_)
  · obtain ⟨k, rfl, _⟩ := h
    rfl
  · obtain ⟨k, rfl, q⟩ := h
    refine ⟨_, pss_one (ps_ret (pe_ifExp (pt_cmpR op_eq (pv 0) (pe_gi T.TOAD (by rfl)) (nomark _)) pe_int (pe_un un_neg pe_int))), ?_⟩
    refine ⟨_, rfl, rfl, _, rfl, ite2 (fun c => ?_) (fun c => ?_)⟩
    · rw [vint] at c
      subst c
      exact q
    · rw [vint] at c
      unfold TF.dirOf at q
      rw [if_neg c] at q
      exact ⟨1, rfl, q⟩
theorem scOth : FnScope ["kind"] ["kind"] (defScope sOth) := ⟨rfl, rfl, rfl, by decide +kernel, rfl, by decide +kernel, by decide +kernel⟩
theorem ok_oth {f : Addr} {fd : FuncData} (F : Fun K "other_kind" "other_kind" sOth f fd) (T : Txt K mg) : FnOk P w K mg base CX0 1 f fd ["kind"] spOth := by
  refine F.ok scOth (fun vs H Q E h => ?_) (fun cdv A outer s H vs Q E hr h => ?_)
  · obtain ⟨k, rfl, _⟩ := h
    rfl
  · obtain ⟨k, rfl, q⟩ := h
    refine ⟨_, pss_one (ps_ret (pe_ifExp (pt_cmpR op_eq (pv 0) (pe_gi T.TOAD (by rfl)) (nomark _)) (pe_gi T.FROG (by rfl)) (pe_gi T.TOAD (by rfl)))), ?_⟩
    refine ⟨_, rfl, rfl, _, rfl, ite2 (fun c => ?_) (fun c => ?_)⟩
    · rw [vint] at c
      subst c
      exact q
    · rw [vint] at c
      unfold TF.othOf at q
      rw [if_neg c] at q
      exact q
theorem scFound : FnScope ["row", "place"] ["row", "place"] (defScope sFound) := ⟨rfl, rfl, rfl, by decide +kernel, rfl, by decide +kernel, by decide +kernel⟩
theorem ok_found {f : Addr} {fd : FuncData} (F : Fun K "found_at" "found_at" sFound f fd) (T : Txt K mg) : FnOk P w K mg base CX0 1 f fd ["row", "place"] (spFound K) := by
  refine F.ok scFound (fun vs H Q E h => ?_) (fun cdv A outer s H vs Q E hr h => ?_)
  · obtain ⟨a, r, z, rfl, _⟩ := h
    rfl
  · obtain ⟨a, r, z, rfl, hs, q⟩ := h
    refine ⟨_, pss_cons (ps_if (pw_or (pt_cmpR op_lt (pv 1) pe_int (nomark _)) (pw_or1 (pt_cmpR op_ge (pv 1) (pe_callB call_len_seq (by rfl) T.len PySem.boot_len (pa_cons (pv 0) pa_nil)) (nomark _)))).pt
      (pss_one (ps_ret (pe_gi T.WATER (by rfl)))) pss_nil) (pss_one (ps_ret (pe_ix ix_tup (pv 0) (pv 1) (fun _ _ => rfl)))), ?_⟩
    refine ⟨_, rfl, _, _, rfl, rfl, _, rfl, ite2 (fun c => ?_) (fun c => ?_)⟩
    · have c' : z < 0 := of_decide_eq_true c
      rw [TF.fa_neg r c'] at q
      exact iteT q
    · have c' : ¬ z < 0 := fun h => c (decide_eq_true h)
      refine ⟨_, rfl, _, rfl, a, _, rfl, .inr hs, _, _, rfl, rfl, _, rfl, ite2 (fun d => ?_) (fun d => ?_)⟩
      · have d' : ((rv r).length : Int) ≤ z := of_decide_eq_true d
        rw [rv_len] at d'
        unfold TF.fa at q
        rw [if_pos (.inr d')] at q
        exact q
      · have d' : ¬ ((rv r).length : Int) ≤ z := fun h => d (decide_eq_true h)
        rw [rv_len] at d'
        unfold TF.fa at q
        rw [if_neg (by omega)] at q
        refine ⟨_, rfl, _, rfl, a, _, _, _, rfl, rfl, hs, at_of (j := z.toNat) (by omega) (rv_at (by omega)), q⟩
theorem scLen : FnScope ["row", "stone", "kind", "ahead", "neighbour"] ["row", "stone"] (defScope sLen) := ⟨rfl, rfl, rfl, by decide +kernel, rfl, by decide +kernel, by decide +kernel⟩
theorem ok_len {f fD fO fF : Addr} {fd dD dO dF : FuncData} (F : Fun K "move_length" "move_length" sLen f fd) (T : Txt K mg) (DD : Def K mg "direction" sDir ["kind"] fD dD) (DO : Def K mg "other_kind" sOth ["kind"] fO dO)
    (DF : Def K mg "found_at" sFound ["row", "place"] fF dF) : FnOk P w K mg base CX0 2 f fd ["row", "stone"] (spLen K) := by
  have GD : FnOk P w K mg base CX0 1 fD dD ["kind"] spDir := ok_dir DD.F T
  have GO : FnOk P w K mg base CX0 1 fO dO ["kind"] spOth := ok_oth DO.F T
  have GF : FnOk P w K mg base CX0 1 fF dF ["row", "place"] (spFound K) := ok_found DF.F T
  refine F.ok scLen (fun vs H Q E h => ?_) (fun cdv A outer s H vs Q E hr h => ?_)
  · obtain ⟨a, r, i, rfl, _⟩ := h
    rfl
  · obtain ⟨a, r, i, rfl, hs, hi, sm, q⟩ := h
    rw [← TF.pyLen_eq hi sm] at q
    refine ⟨_, pss_cons (ps_set (i := 2) scLen.nd rfl (Or.inl rfl) (pe_ix ix_tup (pv 0) (pv 1) (fun _ _ => rfl)))
      (pss_cons (ps_if (pt_cmpR op_eq (pv 2) (pe_gi T.FREE (by rfl)) (nomark _)) (pss_one (ps_ret (pe_gi T.NOMOVE (by rfl)))) pss_nil)
      (pss_cons (ps_set (i := 3) scLen.nd rfl (Or.inl rfl) (pe_call GD hr (by rfl) DD.g DD.F.kp DD.b .nil pass0 (pa_cons (pv 2) pa_nil)))
      (pss_cons (ps_set (i := 4) scLen.nd rfl (Or.inl rfl) (pe_call GF hr (by rfl) DF.g DF.F.kp DF.b .nil pass0 (pa_cons (pv 0) (pa_cons (pe_op op_add (pv 1) (pv 3)) pa_nil))))
      (pss_cons (ps_if (pt_cmpR op_eq (pv 4) (pe_gi T.FREE (by rfl)) (nomark _)) (pss_one (ps_ret (pe_gi T.STEP (by rfl)))) pss_nil)
      (pss_cons (ps_if (pw_and (pt_cmpR op_eq (pv 4) (pe_call GO hr (by rfl) DO.g DO.F.kp DO.b .nil pass0 (pa_cons (pv 2) pa_nil)) (nomark _))
          (pw_and1 (pt_cmpR op_eq (pe_call GF hr (by rfl) DF.g DF.F.kp DF.b .nil pass0 (pa_cons (pv 0) (pa_cons (pe_op op_add (pv 1) (pe_op op_mul pe_int (pv 3))) pa_nil))) (pe_gi T.FREE (by rfl)) (nomark _)))).pt
          (pss_one (ps_ret (pe_gi T.LEAP (by rfl)))) pss_nil)
      (pss_one (ps_ret (pe_gi T.NOMOVE (by rfl))))))))), ?_⟩
    unfold TF.pyLen at q
    simp only [] at q
    refine ⟨_, rfl, _, rfl, a, _, _, _, rfl, rfl, hs, at_of (j := i) rfl (rv_at hi), ?_⟩
    generalize ((r.getD i 0 : Nat) : Int) = kz at q ⊢
    refine ⟨_, rfl, rfl, _, rfl, ite2 (fun c => ?_) (fun c => ?_)⟩
    · rw [vint] at c
      rw [if_pos c] at q
      exact q
    rw [vint] at c
    rw [if_neg c] at q
    refine ⟨_, rfl, kz, rfl, ?_⟩
    refine ⟨_, rfl, _, rfl, _, rfl, _, _, rfl, rfl, a, r, _, rfl, hs, ?_⟩
    refine ⟨_, rfl, rfl, _, rfl, ite2 (fun d => ?_) (fun d => ?_)⟩
    · rw [vint] at d
      rw [if_pos d] at q
      exact q
    rw [vint] at d
    rw [if_neg d] at q
    refine ⟨_, rfl, _, rfl, kz, rfl, rfl, _, rfl, ite2 (fun e => ?_) (fun e => ?_)⟩
    · rw [vint] at e
      refine ⟨_, rfl, _, rfl, _, rfl, _, _, rfl, rfl, .inl ⟨by decide, by decide⟩, _, _, rfl, rfl, a, r, _, rfl, hs, rfl, _, rfl, ite2 (fun g => ?_) (fun g => ?_)⟩
      · rw [vint] at g
        rw [if_pos ⟨e, g⟩] at q
        exact q
      · rw [vint] at g
        rw [if_neg (fun z => g z.2)] at q
        exact q
    · rw [vint] at e
      rw [if_neg (fun z => e z.1)] at q
      exact iteF q
theorem scMoves : FnScope ["row", "stone"] ["row"] (defScope sMoves) := ⟨rfl, rfl, rfl, by decide +kernel, rfl, by decide +kernel, by decide +kernel⟩
theorem line_of9 {n : Nat} (h : n ≤ 20000) : n < sizeLine := Nat.lt_of_le_of_lt h (by decide)
theorem ok_moves {f fL : Addr} {fd dL : FuncData} (F : Fun K "stones_to_move" "stones_to_move" sMoves f fd) (T : Txt K mg) (DL : Def K mg "move_length" sLen ["row", "stone"] fL dL)
    (GL : FnOk P w K mg base CX0 2 fL dL ["row", "stone"] (spLen K)) : FnOk P w K mg base CX0 3 f fd ["row"] (spMoves K) := by
  refine F.ok scMoves (fun vs H Q E h => ?_) (fun cdv A outer s H vs Q E hr h => ?_)
  · obtain ⟨a, r, rfl, _⟩ := h
    rfl
  · obtain ⟨a, r, rfl, hs, fi, q⟩ := h
    refine ⟨_, pss_one (ps_ret (pe_lc (own := [("stone", 1)]) rfl scMoves.nd (pi_range1 (by rfl) T.range (pa_cons (pe_callB call_len_seq (by rfl) T.len PySem.boot_len (pa_cons (pv 0) pa_nil)) pa_nil)) (blkOk_by (by show blkC ["row", "stone"] (defScope sMoves) _ [("stone", 1)] = true; decide +kernel))
      (fun s H C cl fp => pg_name (i := 1) scMoves.nd rfl (Or.inl rfl))
      (fun s H C cl fp => pts_one (pt_cmpR op_ne (pe_call GL hr (by rfl) DL.g DL.F.kp DL.b .nil pass0 (pa_cons (pv 0) (pa_cons (pv 1) pa_nil))) (pe_gi T.NOMOVE (by rfl)) (nomark _)))
      (fun s H C cl fp => pv 1))), ?_⟩
    have hl : (rv r).length ≤ 9 := by rw [rv_len]; exact fi.len
    refine ⟨_, rfl, a, _, rfl, .inr hs, _, rfl, by omega, by omega, fun D hD => ?_⟩
    refine lc_range (lo := 0) (n := ((rv r).length : Int).toNat) (Qd := fun H => Q (.ref D) H) (fun i H' => H' = upd H D (.lst (rv ((List.range i).filter fun i => decide (TF.mlen r i ≠ 0))))) rfl ?_ ?_
    · rintro i H' hi rfl
      have hi' : i < r.length := by rw [Int.toNat_natCast, rv_len] at hi; exact hi
      have sq : SqT K (upd H D (.lst (rv ((List.range i).filter fun i => decide (TF.mlen r i ≠ 0))))) a (rv r) := by
        rcases hs with (hs | ⟨o, hs⟩) | hs
        · exact .inl (.inl (by rw [upd_ne (ne_of_none hs hD)]; exact hs))
        · exact .inl (.inr ⟨o, by rw [upd_ne (ne_of_none hs hD)]; exact hs⟩)
        · exact .inr hs
      refine ⟨rfl, ?_⟩
      rw [Int.zero_add]
      refine ⟨_, rfl, _, rfl, a, r, i, rfl, sq, hi', fi.small, rfl, _, rfl, ite2 (fun c => ?_) (fun c => ?_)⟩
      · refine ⟨_, rfl, _, upd_same, ?_, ?_⟩
        · rw [rv_len]
          refine line_of9 (Nat.le_trans (List.length_filter_le _ _) ?_)
          rw [List.length_range]
          have := fi.len
          omega
        · rw [upd_upd]
          have m : TF.mlen r i ≠ 0 := by
            intro z
            rw [z] at c
            cases c
          rw [List.range_succ, List.filter_append]
          have e : ([i].filter fun i => decide (TF.mlen r i ≠ 0)) = [i] := by simp [m]
          rw [e]
          unfold rv
          rw [List.map_append]
          rfl
      · have m : TF.mlen r i = 0 := by
          rcases Nat.eq_zero_or_pos (TF.mlen r i) with z | z
          · exact z
          · exfalso
            apply c
            rw [Bool.not_eq_true', decide_eq_false_iff_not]
            intro y
            injection y with y
            omega
        rw [List.range_succ, List.filter_append]
        have e : ([i].filter fun i => decide (TF.mlen r i ≠ 0)) = [] := by simp [m]
        rw [e, List.append_nil]
    · rintro H' rfl
      rw [Int.toNat_natCast, rv_len, ← TF.mlen_moves]
      exact q D hD
theorem scAfter : FnScope ["row", "stone", "kind", "stones"] ["row", "stone"] (defScope sAfter) := ⟨rfl, rfl, rfl, by decide +kernel, rfl, by decide +kernel, by decide +kernel⟩
theorem rv_set (r : List Nat) (i x : Nat) : (rv r).set i (V.int (x : Int)) = rv (r.set i x) := by
  unfold rv
  rw [List.map_set]
theorem ixN_nat {n j : Nat} (h : j < n) : ixN n (j : Int) = some j := by
  unfold ixN
  rw [if_pos (by omega), if_pos (by omega)]
  simp
theorem Same.upd_new {H : Hp} {a : Addr} {o : HO} (h : H a = none) : Same H (upd H a o) := fun b u e => by
  rw [upd_ne (ne_of_none e h)]
  exact e
theorem Same.upd_keep {H H' : Hp} {a : Addr} {o : HO} (s : Same H H') (h : H a = none) : Same H (upd H' a o) := fun b u e => by
  rw [upd_ne (ne_of_none e h)]
  exact s b u e
theorem Same.sqT {K : PySem.W.Frag} {H H' : Hp} {a : Addr} {xs : List V} (s : Same H H') (h : SqT K H a xs) : SqT K H' a xs := by
  rcases h with (h | ⟨o, h⟩) | h
  · exact .inl (.inl (s _ _ h))
  · exact .inl (.inr ⟨o, s _ _ h⟩)
  · exact .inr h
theorem ok_after {f fD fL : Addr} {fd dD dL : FuncData} (F : Fun K "row_after" "row_after" sAfter f fd) (T : Txt K mg) (DD : Def K mg "direction" sDir ["kind"] fD dD) (DL : Def K mg "move_length" sLen ["row", "stone"] fL dL)
    (GL : FnOk P w K mg base CX0 2 fL dL ["row", "stone"] (spLen K)) : FnOk P w K mg base CX0 3 f fd ["row", "stone"] (spAfter K) := by
  have GD : FnOk P w K mg base CX0 1 fD dD ["kind"] spDir := ok_dir DD.F T
  refine F.ok scAfter (fun vs H Q E h => ?_) (fun cdv A outer s H vs Q E hr h => ?_)
  · obtain ⟨a, r, i, rfl, _⟩ := h
    rfl
  · obtain ⟨a, r, i, rfl, hs, hm, fi, q⟩ := h
    have hi : i < r.length := (TF.moves_iff.mp hm).1
    have hr1 : Room 1 _ := hr.mono (by decide)
    refine ⟨_, pss_cons (ps_set (i := 2) scAfter.nd rfl (Or.inl rfl) (pe_ix ix_tup (pv 0) (pv 1) (fun _ _ => rfl)))
      (pss_cons (ps_set (i := 3) scAfter.nd rfl (Or.inl rfl) (pe_callTy call_list_of (by rfl) T.list PyProof.Rows.boot_list (pa_cons (pv 0) pa_nil)))
      (pss_cons (ps_asg (pe_gi T.FREE (by rfl)) (pg_sub (pv 3) (pv 1) set_list))
      (pss_cons (ps_asg (pv 2) (pg_sub (pv 3) (pe_op op_add (pv 1) (pe_op op_mul (pe_call GD hr1 (by rfl) DD.g DD.F.kp DD.b .nil pass0 (pa_cons (pv 2) pa_nil)) (pe_call GL hr (by rfl) DL.g DL.F.kp DL.b .nil pass0 (pa_cons (pv 0) (pa_cons (pv 1) pa_nil))))) set_list))
      (pss_one (ps_ret (pe_callTy call_tuple_of (by rfl) T.tuple PyProof.Rows.boot_tuple (pa_cons (pv 3) pa_nil))))))), ?_⟩
    obtain ⟨j, hj, ej, em⟩ := TF.moved_py hm fi.small
    have hd : -(2 ^ 64) < TF.dirOf ((r.getD i 0 : Nat) : Int) ∧ TF.dirOf ((r.getD i 0 : Nat) : Int) < 2 ^ 64 := by
      unfold TF.dirOf
      split <;> exact ⟨by decide, by decide⟩
    refine ⟨_, rfl, _, rfl, a, _, _, _, rfl, rfl, hs, at_of (j := i) rfl (rv_at hi), ?_⟩
    refine ⟨_, rfl, a, _, rfl, .inr hs, fun l hl => ?_⟩
    refine ⟨_, rfl, _, rfl, l, _, _, i, rfl, rfl, upd_same, ixN_nat (by rw [rv_len]; exact hi), ?_⟩
    have hs2 : ∀ o, SqT K (upd (upd H l (.lst (rv r))) l o) a (rv r) := fun o => Same.sqT (by rw [upd_upd]; exact Same.upd_new hl) hs
    refine ⟨_, rfl, _, rfl, _, rfl, _, rfl, _, rfl, _, rfl, _, rfl, a, r, i, rfl, hs2 _, hi, fi.small, _, _, rfl, rfl, .inl hd, _, _, rfl, rfl, l, _, _, j, rfl, rfl, upd_same, ?_, ?_⟩
    · rw [ej]
      exact ixN_nat (by rw [List.length_set, rv_len]; exact hj)
    have e3 : ((rv r).set i (V.int 0)).set j (V.int ((r.getD i 0 : Nat) : Int)) = rv (Uw88.moved r i) := by
      rw [← em, ← rv_set, ← rv_set]
      rfl
    refine ⟨_, rfl, l, _, rfl, .inl ⟨SqL.of upd_same, fun p hp => ?_⟩⟩
    rw [upd_upd, upd_upd] at hp ⊢
    rw [e3] at hp ⊢
    have hp2 : p ≠ l := fun z => by
      rw [z, upd_same] at hp
      cases hp
    refine q _ p (Same.upd_keep (Same.upd_new hl) ?_) ?_ upd_same
    · rw [upd_ne hp2] at hp
      exact hp
    · rw [upd_ne hp2] at hp
      exact hp
theorem scIsRow : FnScope ["stones"] ["stones"] (defScope sIsRow) := ⟨rfl, rfl, rfl, by decide +kernel, rfl, by decide +kernel, by decide +kernel⟩
theorem ok_isrow {f : Addr} {fd : FuncData} (F : Fun K "is_row" "is_row" sIsRow f fd) (T : Txt K mg) : FnOk P w K mg base CX0 1 f fd ["stones"] (spIsRow K) := by
  refine F.ok scIsRow (fun vs H Q E h => ?_) (fun cdv A outer s H vs Q E hr h => ?_)
  · obtain ⟨a, l, rfl, _⟩ := h
    rfl
  · obtain ⟨a, l, rfl, hs, q⟩ := h
    refine ⟨_, pss_cons (ps_if (pw_or (pt_cmpR op_lt (pe_callB call_len_seq (by rfl) T.len PySem.boot_len (pa_cons (pv 0) pa_nil)) pe_int (nomark _)) (pw_or1 (pt_cmpR op_gt (pe_callB call_len_seq (by rfl) T.len PySem.boot_len (pa_cons (pv 0) pa_nil)) (pe_gi T.MOST (by rfl)) (nomark _)))).pt
      (pss_one (ps_ret pe_bl)) pss_nil) (pss_one (ps_ret (pe_cmpR op_le (pe_callB (cr_max rfl) (by rfl) T.max PyProof.Rows.boot_max (pa_cons (pv 0) pa_nil)) (pe_gi T.FROG (by rfl)) (nomark _)))), ?_⟩
    have no : ¬ (1 ≤ l.length ∧ l.length ≤ 9) → Q (.bl false) H := fun z => by
      have e : Uw88.isRow l = false := by
        cases c : Uw88.isRow l with
        | false => rfl
        | true => exact absurd ⟨(TF.isRow_iff.mp c).1, (TF.isRow_iff.mp c).2.1⟩ z
      rw [e] at q
      exact q
    refine ⟨_, rfl, a, _, rfl, .inl hs, _, _, rfl, rfl, _, rfl, ite2 (fun c => ?_) (fun c => ?_)⟩
    · have c' : ((rv l).length : Int) < 1 := of_decide_eq_true c
      rw [rv_len] at c'
      exact iteT (no (by omega))
    have c' : ¬ ((rv l).length : Int) < 1 := fun h => c (decide_eq_true h)
    rw [rv_len] at c'
    refine ⟨_, rfl, a, _, rfl, .inl hs, _, _, rfl, rfl, _, rfl, ite2 (fun d => ?_) (fun d => ?_)⟩
    · have d' : (9 : Int) < ((rv l).length : Int) := of_decide_eq_true d
      rw [rv_len] at d'
      exact no (by omega)
    have d' : ¬ (9 : Int) < ((rv l).length : Int) := fun h => d (decide_eq_true h)
    rw [rv_len] at d'
    have er : rv l = (l.map fun (n : Nat) => (n : Int)).map V.int := by
      unfold rv
      rw [List.map_map]
      rfl
    refine ⟨_, rfl, a, l.map fun (n : Nat) => (n : Int), rfl, by rw [← er]; exact hs, by rw [List.length_map]; omega, fun m hm hall => ⟨_, _, rfl, rfl, ?_⟩⟩
    obtain ⟨x, hx, rfl⟩ := List.mem_map.mp hm
    have e : decide ((x : Int) ≤ 2) = Uw88.isRow l := by
      rw [Bool.eq_iff_iff, decide_eq_true_iff, TF.isRow_iff]
      constructor
      · intro h2
        refine ⟨by omega, by omega, fun y hy => ?_⟩
        have := hall (y : Int) (List.mem_map.mpr ⟨y, hy, rfl⟩)
        omega
      · intro h2
        have := h2.2.2 x hx
        omega
    show Q (.bl (decide ((x : Int) ≤ 2))) H
    rw [e]
    exact q
theorem scLeaps : FnScope ["row", "way", "leaps", "stone"] ["row", "way"] (defScope sLeaps) := ⟨rfl, rfl, rfl, by decide +kernel, rfl, by decide +kernel, by decide +kernel⟩
theorem ok_leaps {f fL fA : Addr} {fd dL dA : FuncData} (F : Fun K "count_leaps" "count_leaps" sLeaps f fd) (T : Txt K mg) (DL : Def K mg "move_length" sLen ["row", "stone"] fL dL) (DA : Def K mg "row_after" sAfter ["row", "stone"] fA dA)
    (GL : FnOk P w K mg base CX0 2 fL dL ["row", "stone"] (spLen K)) (GA : FnOk P w K mg base CX0 3 fA dA ["row", "stone"] (spAfter K)) : FnOk P w K mg base CX0 4 f fd ["row", "way"] (spLeaps K) := by
  refine F.ok scLeaps (fun vs H Q E h => ?_) (fun cdv A outer s H vs Q E hr h => ?_)
  · obtain ⟨a, y, r, w, rfl, _⟩ := h
    rfl
  · obtain ⟨a, y, r, wy, rfl, hs, fi, hy, hw, q⟩ := h
    have hr2 : Room 2 _ := hr.mono (by decide)
    refine ⟨_, pss_cons (ps_set (i := 2) scLeaps.nd rfl (Or.inl rfl) pe_int)
      (pss_cons (ps_for PassesOwn.never rfl (pi_list (pv 1)) (pg_name (i := 3) scLeaps.nd rfl (Or.inl rfl))
        (pss_cons (ps_if (pt_cmpR op_eq (pe_call GL hr2 (by rfl) DL.g DL.F.kp DL.b .nil pass0 (pa_cons (pv 0) (pa_cons (pv 3) pa_nil))) (pe_gi T.LEAP (by rfl)) (nomark _)) (pss_one (ps_aug (i := 2) scLeaps.nd rfl (Or.inl rfl) pe_int ip_add)) pss_nil)
        (pss_one (ps_set (i := 0) scLeaps.nd rfl (Or.inl rfl) (pe_call GA hr (by rfl) DA.g DA.F.kp DA.b .nil pass0 (pa_cons (pv 0) (pa_cons (pv 3) pa_nil)))))))
      (pss_one (ps_ret (pv 2)))), ?_⟩
    refine ⟨_, rfl, y, rfl, ⟨_, SqL.of hy⟩, for_list (K := K) (a := y) (xs := rv wy) (fun i σ H' => ∃ (a' : Addr) (v : Option V), σ = [some (.ref a'), some (.ref y), some (.int (Uw88.leaps r (wy.take i) : Nat)), v] ∧ SqT K H' a' (rv (TF.goAlong r (wy.take i))) ∧ Same H H')
      ⟨a, none, rfl, hs, Same.refl H⟩ (fun i σ H' _ ⟨_, _, _, _, s5⟩ => SqL.of (s5 _ _ hy)) ?_ ?_⟩
    · rintro i x σ H' hi ⟨a', v, rfl, ha', s5⟩
      obtain ⟨z, hz, rfl⟩ : ∃ z : Nat, wy[i]? = some z ∧ x = V.int (z : Int) := by
        unfold rv at hi
        rw [List.getElem?_map] at hi
        cases e : wy[i]? with
        | none => rw [e] at hi; cases hi
        | some z => rw [e] at hi; exact ⟨z, rfl, (Option.some.inj hi).symm⟩
      have et := TF.take_snoc hz
      have esp : wy = wy.take i ++ z :: wy.drop (i + 1) := by
        have h1 := List.take_append_drop (i + 1) wy
        rw [et, List.append_assoc] at h1
        exact h1.symm
      have hmv : z ∈ Uw88.moves (TF.goAlong r (wy.take i)) := TF.way_at _ _ _ (wy.drop (i + 1)) (by rw [← esp]; exact hw)
      have fi2 : TF.Fine (TF.goAlong r (wy.take i)) := TF.goAlong_fine _ _ fi (TF.way_take _ (z :: wy.drop (i + 1)) r (by rw [← esp]; exact hw))
      have hlt := (TF.moves_iff.mp hmv).1
      refine ⟨_, rfl, _, rfl, a', _, z, rfl, ha', hlt, fi2.small, rfl, _, rfl, ite2 (fun c => ?_) (fun c => ?_)⟩
      · rw [vint] at c
        refine ⟨_, rfl, _, _, rfl, rfl, ?_⟩
        refine ⟨_, rfl, _, rfl, a', _, z, rfl, ha', hmv, fi2, fun H2 p s6 _ hp => ?_⟩
        refine ⟨p, some (.int (z : Int)), ?_, ?_, Same.trans s5 s6⟩
        · have e1 : Uw88.leaps r (wy.take (i + 1)) = Uw88.leaps r (wy.take i) + 1 := by
            rw [et, TF.leaps_snoc]
            have m2 := TF.mlen_two hmv
            have c2 : TF.mlen (TF.goAlong r (wy.take i)) z = 2 := by omega
            rw [c2] at m2
            split at m2
            · rename_i q2; rw [if_pos q2]
            · omega
          rw [e1]
          rfl
        · rw [et, TF.goAlong_snoc]
          exact SqT.of hp
      · rw [vint] at c
        refine ⟨_, rfl, _, rfl, a', _, z, rfl, ha', hmv, fi2, fun H2 p s6 _ hp => ?_⟩
        refine ⟨p, some (.int (z : Int)), ?_, ?_, Same.trans s5 s6⟩
        · have e1 : Uw88.leaps r (wy.take (i + 1)) = Uw88.leaps r (wy.take i) := by
            rw [et, TF.leaps_snoc]
            have m2 := TF.mlen_two hmv
            split at m2
            · omega
            · rename_i q2; rw [if_neg q2]; rfl
          rw [e1]
          rfl
        · rw [et, TF.goAlong_snoc]
          exact SqT.of hp
    · rintro σ H' ⟨a', v, rfl, ha', s5⟩
      rw [rv_len, List.take_length]
      exact ⟨_, rfl, q H' s5⟩
end
end Tp
end
section
set_option Elab.async false
set_option linter.all false
set_option maxRecDepth 100000
set_option maxHeartbeats 2000000
namespace Tp
open PySem PySem.Spec PyProof.Rows L2
abbrev sReach : Stmt := top 17
abbrev sRInit : Stmt := inClass sReach 0
abbrev sOmo : Stmt := inClass sReach 1
abbrev sRAll : Stmt := inClass sReach 2
abbrev sRStuck : Stmt := inClass sReach 3
abbrev sRLong : Stmt := inClass sReach 4
abbrev sCan : Stmt := inClass sReach 5
abbrev sWaysTo : Stmt := inClass sReach 6
abbrev sFirst : Stmt := inClass sReach 7
/-! ### tables of rows as dicts -/
def ckv (p : List Nat × Nat) : List Key × V := (rowKey p.1, .int (p.2 : Int))
theorem key_dec (a u : List Nat) : decide (rowKey a = rowKey u) = decide (a = u) := by
  rw [decide_eq_decide]
  exact ⟨rowKey_inj, fun h => by rw [h]⟩
theorem valV_ckv (cs : List (List Nat × Nat)) (u : List Nat) : valV (cs.map ckv) (rowKey u) = (TF.gv cs u).map fun (n : Nat) => V.int (n : Int) := by
  unfold valV TF.gv
  rw [List.find?_map]
  have : ((fun (kv : List Key × V) => decide (kv.1 = rowKey u)) ∘ ckv) = fun p => decide (p.1 = u) := by
    funext p
    exact key_dec p.1 u
  rw [this]
  cases cs.find? fun p => decide (p.1 = u) with
  | none => rfl
  | some p => rfl
theorem putK_ckv (cs : List (List Nat × Nat)) (u : List Nat) (n : Nat) : putK (cs.map ckv) (rowKey u) (.int (n : Int)) = (TF.put cs u n).map ckv := by
  unfold putK TF.put
  have e : ((cs.map ckv).any fun kv => decide (kv.1 = rowKey u)) = cs.any fun p => decide (p.1 = u) := by
    rw [List.any_map]
    congr 1
    funext p
    exact key_dec p.1 u
  rw [e]
  split
  · rw [List.map_map, List.map_map]
    refine List.map_congr_left fun p _ => ?_
    show (if (ckv p).1 = rowKey u then ((ckv p).1, V.int (n : Int)) else ckv p) = ckv (if p.1 = u then (p.1, n) else p)
    by_cases q : p.1 = u
    · rw [if_pos (show (ckv p).1 = rowKey u from congrArg rowKey q), if_pos q]
      rfl
    · rw [if_neg (show ¬ (ckv p).1 = rowKey u from fun z => q (rowKey_inj z)), if_neg q]
  · rw [List.map_append]
    rfl
/-- tuples stand -/
def Tups (H H' : Hp) : Prop := ∀ b xs, H b = some (.tup xs) → H' b = some (.tup xs)
theorem Same.tups {H H' : Hp} (s : Same H H') : Tups H H' := fun b xs e => s b _ e
theorem RowAt.tups {H H' : Hp} {a : Addr} {r : List Nat} (h : RowAt H a r) (s : Tups H H') : RowAt H' a r := h.keep s
structure LastsOk (H : Hp) (kvl : List (List Key × V)) (la : List Nat → Option (List Nat × Nat)) : Prop where
  no : ∀ u, la u = none → valV kvl (rowKey u) = none
  yes : ∀ u e i, la u = some (e, i) → ∃ p q, valV kvl (rowKey u) = some (.ref p) ∧ H p = some (.tup [.ref q, .int (i : Int)]) ∧ RowAt H q e
theorem LastsOk.tups {H H' : Hp} {kvl : List (List Key × V)} {la : List Nat → Option (List Nat × Nat)} (h : LastsOk H kvl la) (s : Tups H H') : LastsOk H' kvl la :=
  ⟨h.no, fun u e i q => by
    obtain ⟨p, b, h1, h2, h3⟩ := h.yes u e i q
    exact ⟨p, b, h1, s _ _ h2, h3.tups s⟩⟩
abbrev RowsAt (H : Hp) : List Addr → List (List Nat) → Prop := Paired (RowAt H)
theorem RowsAt.tups {H H' : Hp} {as : List Addr} {rs : List (List Nat)} (h : RowsAt H as rs) (s : Tups H H') : RowsAt H' as rs := Paired.mapP h fun a r q => RowAt.tups q s
def rf (c l : Addr) : Option Addr → List (Str × V)
  | none => putF "lasts" (.ref l) (putF "counts" (.ref c) [])
  | some a => putF "farthest" (.ref a) (putF "lasts" (.ref l) (putF "counts" (.ref c) []))
theorem rf_c (c l : Addr) (fq : Option Addr) : (rf c l fq).lookup ("counts" : Str) = some (.ref c) := by
  cases fq with
  | none =>
    unfold rf
    rw [lookup_putF, if_neg (by decide), lookup_putF, if_pos rfl]
  | some a =>
    unfold rf
    rw [lookup_putF, if_neg (by decide), lookup_putF, if_neg (by decide), lookup_putF, if_pos rfl]
theorem rf_l (c l : Addr) (fq : Option Addr) : (rf c l fq).lookup ("lasts" : Str) = some (.ref l) := by
  cases fq with
  | none =>
    unfold rf
    rw [lookup_putF, if_pos rfl]
  | some a =>
    unfold rf
    rw [lookup_putF, if_neg (by decide), lookup_putF, if_pos rfl]
theorem rf_f (c l a : Addr) : (rf c l (some a)).lookup ("farthest" : Str) = some (.ref a) := by
  unfold rf
  rw [lookup_putF, if_pos rfl]
theorem rf_no (c l : Addr) (fq : Option Addr) {m : Str} (h1 : ¬ m = "counts") (h2 : ¬ m = "lasts") (h3 : ¬ m = "farthest") : (rf c l fq).lookup m = none := by
  cases fq with
  | none =>
    unfold rf
    rw [lookup_putF, if_neg h2, lookup_putF, if_neg h1]
    rfl
  | some a =>
    unfold rf
    rw [lookup_putF, if_neg h3, lookup_putF, if_neg h2, lookup_putF, if_neg h1]
    rfl
theorem rf_put (c l a : Addr) (fq : Option Addr) : putF "farthest" (.ref a) (rf c l fq) = rf c l (some a) := by
  cases fq <;> rfl
theorem rf_few (c l : Addr) (fq : Option Addr) : (rf c l fq).length < 1000 := by
  cases fq with
  | none => show 2 < 1000; decide
  | some a => show 3 < 1000; decide
structure ReachAt (C : Addr) (H : Hp) (x dx c l : Addr) (fq : Option Addr) (cs : List (List Nat × Nat)) (la : List Nat → Option (List Nat × Nat)) : Prop where
  self : H x = some (.ins C dx (rf c l fq))
  cnt : H c = some (.dT (cs.map ckv))
  las : ∃ kvl, H l = some (.dT kvl) ∧ LastsOk H kvl la ∧ kvl.length + 1 = cs.length
  ne : c ≠ l
theorem ReachAt.same {C : Addr} {H H' : Hp} {x dx c l : Addr} {fq : Option Addr} {cs : List (List Nat × Nat)} {la : List Nat → Option (List Nat × Nat)} (h : ReachAt C H x dx c l fq cs la) (s : Same H H') : ReachAt C H' x dx c l fq cs la := by
  obtain ⟨kvl, h1, h2, h3⟩ := h.las
  exact ⟨s _ _ h.self, s _ _ h.cnt, ⟨kvl, s _ _ h1, h2.tups (Same.tups s), h3⟩, h.ne⟩
/-- the class Reach as the text has it -/
structure ClsR (K : PySem.W.Frag) (mg : Str → Option Value) (C : Addr) : Prop where
  cl : Cls K C
  nC : NoAttr K C "counts"
  nL : NoAttr K C "lasts"
  nF : NoAttr K C "farthest"
  mgC : mg "Reach" = some (.ref C)
def spOmo (C : Addr) : Sp := fun vs H Q _ => ∃ (x dx c l y : Addr) (fq : Option Addr) (as : List Addr) (r : List Nat) (k : Nat), vs = [.ref x, .ref y] ∧ TF.Fine r ∧ ReachAt C H x dx c l fq (TF.cts r k) (TF.lasts r k) ∧
  H y = some (.lst (as.map V.ref)) ∧ RowsAt H as (TF.L k r) ∧
  ∀ (H' : Hp) (y' : Addr) (as' : List Addr), ReachAt C H' x dx c l fq (TF.cts r (k + 1)) (TF.lasts r (k + 1)) → H' y' = some (.lst (as'.map V.ref)) → RowsAt H' as' (TF.L (k + 1) r) → (∀ b o, H b = some o → b ≠ c → b ≠ l → H' b = some o) → Q (.ref y') H'
/-- between two turns -/
structure OM (C : Addr) (H : Hp) (x dx c l o : Addr) (fq : Option Addr) (r : List Nat) (k : Nat) (H' : Hp) (ps : List (List Nat × Nat)) : Prop where
  self : H' x = some (.ins C dx (rf c l fq))
  cnt : H' c = some (.dT ((TF.stC (TF.cts r k) (fun e => (TF.E k r).count e) ps).map ckv))
  las : ∃ kvl, H' l = some (.dT kvl) ∧ LastsOk H' kvl (fun u => (TF.lasts r k u).or (TF.lastOf ps u)) ∧ kvl.length + 1 = (TF.stC (TF.cts r k) (fun e => (TF.E k r).count e) ps).length
  onw : ∃ os, H' o = some (.lst (os.map V.ref)) ∧ RowsAt H' os (TF.on ps)
  keep : ∀ b u, H b = some u → b ≠ c → b ≠ l → H' b = some u
theorem OM.same {C : Addr} {H H' H2 : Hp} {x dx c l o : Addr} {fq : Option Addr} {r : List Nat} {k : Nat} {ps : List (List Nat × Nat)} (h : OM C H x dx c l o fq r k H' ps) (s : Same H' H2) : OM C H x dx c l o fq r k H2 ps := by
  obtain ⟨kvl, h1, h2, h3⟩ := h.las
  obtain ⟨os, g1, g2⟩ := h.onw
  exact ⟨s _ _ h.self, s _ _ h.cnt, ⟨kvl, s _ _ h1, h2.tups (Same.tups s), h3⟩, ⟨os, s _ _ g1, RowsAt.tups g2 (Same.tups s)⟩, fun b u e n1 n2 => s _ _ (h.keep b u e n1 n2)⟩
theorem stC_len {C0 : List (List Nat × Nat)} {cf : List Nat → Nat} {ps : List (List Nat × Nat)} : (TF.stC C0 cf ps).length = C0.length + (TF.on ps).length := by
  unfold TF.stC
  rw [List.length_append, List.length_map]
/-- met for the first time -/
theorem OM.first {C : Addr} {H H2 H9 : Hp} {x dx c l o : Addr} {fq : Option Addr} {r : List Nat} {k : Nat} {ps : List (List Nat × Nat)} (h : OM C H x dx c l o fq r k H2 ps) {e : List Nat} {i : Nat} {ae p q : Addr} {kvl : List (List Key × V)} {os : List Addr}
    (he : e ∈ TF.E k r) (hi : i ∈ Uw88.moves e) (hn : Uw88.moved e i ∉ TF.on ps) (hae : RowAt H2 ae e) (hp : RowAt H2 p (Uw88.moved e i)) (ho : H o = none)
    (hl : H2 l = some (.dT kvl)) (hlo : LastsOk H2 kvl (fun u => (TF.lasts r k u).or (TF.lastOf ps u))) (hlen : kvl.length + 1 = (TF.stC (TF.cts r k) (fun e => (TF.E k r).count e) ps).length)
    (hos : H2 o = some (.lst (os.map V.ref))) (hor : RowsAt H2 os (TF.on ps)) (hq : H2 q = none)
    (e1 : H9 c = some (.dT ((TF.stC (TF.cts r k) (fun e => (TF.E k r).count e) (ps ++ [(e, i)])).map ckv)))
    (e2 : H9 l = some (.dT (putK kvl (rowKey (Uw88.moved e i)) (.ref q)))) (e3 : H9 o = some (.lst ((os ++ [p]).map V.ref))) (e4 : H9 q = some (.tup [.ref ae, .int (i : Int)]))
    (e5 : ∀ b, b ≠ c → b ≠ l → b ≠ o → b ≠ q → H9 b = H2 b) : OM C H x dx c l o fq r k H9 (ps ++ [(e, i)]) := by
  have nxc : x ≠ c := ne_of h.self h.cnt (by intro z; cases z)
  have nxl : x ≠ l := ne_of h.self hl (by intro z; cases z)
  have nxo : x ≠ o := ne_of h.self hos (by intro z; cases z)
  have nxq : x ≠ q := ne_of_none h.self hq
  have tu : Tups H2 H9 := fun b xs eb => by
    rw [e5 b (ne_of eb h.cnt (by intro z; cases z)) (ne_of eb hl (by intro z; cases z)) (ne_of eb hos (by intro z; cases z)) (ne_of_none eb hq)]
    exact eb
  have on9 : TF.on (ps ++ [(e, i)]) = TF.on ps ++ [Uw88.moved e i] := by
    rw [TF.on_snoc]
    exact if_neg hn
  have no1 : ∀ u, u = Uw88.moved e i → TF.lasts r k u = none := fun u eu => by
    subst eu
    refine TF.lasts_none r k _ fun j _ h2 m => ?_
    have r1 := TF.E_rank j m
    have r2 := TF.E_rank k he
    rw [TF.moved_rank hi] at r1
    omega
  have lu : ∀ u, ((TF.lasts r k u).or (TF.lastOf (ps ++ [(e, i)]) u)) = if u = Uw88.moved e i then some (e, i) else (TF.lasts r k u).or (TF.lastOf ps u) := fun u => by
    rw [TF.last_snoc]
    by_cases z : u = Uw88.moved e i
    · subst z
      rw [if_pos rfl, no1 _ rfl, TF.last_none.mpr hn, Option.none_or, Option.none_or]
      exact if_pos rfl
    · rw [if_neg z, if_neg (fun y : TF.mvp (e, i) = u => z y.symm), Option.or_none]
  have vnone : valV kvl (rowKey (Uw88.moved e i)) = none := hlo.no _ (by rw [no1 _ rfl, TF.last_none.mpr hn]; rfl)
  refine ⟨?_, e1, ⟨_, e2, ⟨fun u hu => ?_, fun u e' i' hu => ?_⟩, ?_⟩, ⟨os ++ [p], e3, ?_⟩, fun b u eb n1 n2 => ?_⟩
  · rw [e5 x nxc nxl nxo nxq]
    exact h.self
  · have hu' : ((TF.lasts r k u).or (TF.lastOf (ps ++ [(e, i)]) u)) = none := hu
    rw [lu] at hu'
    rw [valV_put]
    split at hu'
    · cases hu'
    · rename_i z
      rw [if_neg (fun y => z (rowKey_inj y))]
      exact hlo.no u hu'
  · have hu' : ((TF.lasts r k u).or (TF.lastOf (ps ++ [(e, i)]) u)) = some (e', i') := hu
    rw [lu] at hu'
    rw [valV_put]
    split at hu'
    · rename_i z
      cases hu'
      rw [if_pos (by rw [z])]
      exact ⟨q, ae, rfl, e4, RowAt.tups hae tu⟩
    · rename_i z
      rw [if_neg (fun y => z (rowKey_inj y))]
      obtain ⟨p', q', h1, h2, h3⟩ := hlo.yes u e' i' hu'
      exact ⟨p', q', h1, tu _ _ h2, RowAt.tups h3 tu⟩
  · rw [putK_new _ vnone, stC_len, on9, List.length_append, List.length_append] at *
    simp only [List.length_cons, List.length_nil] at *
    omega
  · rw [on9]
    exact Paired.snoc (RowsAt.tups hor tu) (RowAt.tups hp tu)
  · have nbo : b ≠ o := fun z => by rw [z, ho] at eb; cases eb
    have hb := h.keep b u eb n1 n2
    rw [e5 b n1 n2 nbo (ne_of_none hb hq)]
    exact hb
/-- met again -/
theorem OM.again {C : Addr} {H H2 H9 : Hp} {x dx c l o : Addr} {fq : Option Addr} {r : List Nat} {k : Nat} {ps : List (List Nat × Nat)} (h : OM C H x dx c l o fq r k H2 ps) {e : List Nat} {i : Nat}
    (he : e ∈ TF.E k r) (hi : i ∈ Uw88.moves e) (hn : Uw88.moved e i ∈ TF.on ps) (ncl : c ≠ l)
    (e1 : H9 c = some (.dT ((TF.stC (TF.cts r k) (fun e => (TF.E k r).count e) (ps ++ [(e, i)])).map ckv)))
    (e5 : ∀ b, b ≠ c → H9 b = H2 b) : OM C H x dx c l o fq r k H9 (ps ++ [(e, i)]) := by
  obtain ⟨kvl, hl, hlo, hlen⟩ := h.las
  obtain ⟨os, hos, hor⟩ := h.onw
  have tu : Tups H2 H9 := fun b xs eb => by
    rw [e5 b (ne_of eb h.cnt (by intro z; cases z))]
    exact eb
  have on9 : TF.on (ps ++ [(e, i)]) = TF.on ps := by
    rw [TF.on_snoc]
    exact if_pos hn
  have lu : (fun u => (TF.lasts r k u).or (TF.lastOf (ps ++ [(e, i)]) u)) = fun u => (TF.lasts r k u).or (TF.lastOf ps u) := by
    funext u
    rw [TF.last_snoc]
    by_cases z : TF.mvp (e, i) = u
    · rw [if_pos z]
      have m : TF.lastOf ps u ≠ none := fun y => TF.last_none.mp y (by rw [← z]; exact hn)
      cases y : TF.lastOf ps u with
      | none => exact absurd y m
      | some w => rfl
    · rw [if_neg z, Option.or_none]
  refine ⟨?_, e1, ⟨kvl, ?_, ?_, ?_⟩, ⟨os, ?_, ?_⟩, fun b u eb n1 n2 => ?_⟩
  · rw [e5 x (ne_of h.self h.cnt (by intro z; cases z))]
    exact h.self
  · rw [e5 l ncl.symm]
    exact hl
  · rw [lu]
    exact hlo.tups tu
  · rw [stC_len, on9, ← stC_len (cf := fun e => (TF.E k r).count e)]
    exact hlen
  · rw [e5 o (ne_of hos h.cnt (by intro z; cases z))]
    exact hos
  · rw [on9]
    exact RowsAt.tups hor tu
  · rw [e5 b n1]
    exact h.keep b u eb n1 n2
/-! ### {start: 1}, the key a tuple -/
def tDispT (tk tv : TE) : TE := fun σ H Q => ∀ p, H p = none → tk σ (upd H p (.dT [])) fun x H1 => tv σ H1 fun y H2 => ∃ b ks, x = .ref b ∧ KeyAt H2 b ks ∧ H2 p = some (.dT []) ∧ Q (.ref p) (upd H2 p (.dT [(ks, y)]))
theorem pe_disp1T {X : Cx} {pos : Pos} {k v : Expr} {tk tv : TE} (hu : X.A.units < cLine) (hk : PE X k tk) (hv : PE X v tv) : PE X (.Dict [some k] [v] pos) (tDispT tk tv) := by
  intro pins s σ H Q I q
  have hn := I.hok.fresh (Nat.le_refl s.heap.objs.size)
  have I1 := I.laid (a := s.heap.objs.size) (o := .dT []) (h' := s.heap.push { cls := .type "dict", data := .dict #[] }) (t' := s.toks) (fun _ _ q => Heap.get?_push_of_some _ q) (Nat.le_refl _) (dt_empty s.heap I.big)
  refine wpAny_Dict_any rfl rfl (by simp) (by simp) (pairTrees_cons_walk (thn (hk pins _ σ _ _ I1 (q _ hn)) fun u s1 ⟨x, H1, I2, rx, q1⟩ => thn (hv pins s1 σ H1 _ I2 q1) fun w2 s2 ⟨y, H2, I3, ry, b, ks, ex, hb, hp, q2⟩ => ?_))
  subst ex
  obtain rfl : u = Value.ref b := rx
  refine pairTrees_nil_walk ?_
  obtain ⟨z, hd, xs, rel, dd⟩ := dt_of I3.hok I3.stat hp
  cases rel
  unfold storeAll
  rw [List.forIn_cons]
  refine wpAny_bind (wpAny_bind (wpAny_dictSet_heap (hsz := Nat.zero_le _) (knd := tupleKind (mixKind X.prog X.w)) hu (key_of I3.hok I3.stat hb) dd fun h' dd' hs => wpAny_pure ?_))
  show wpAny _ _ (forIn [] PUnit.unit _) _ _ _
  rw [List.forIn_nil]
  refine wpAny_pure ?_
  obtain ⟨qo, es, ep, hq, h2, h3, h4, _, h5⟩ := dd'
  refine ⟨.ref s.heap.objs.size, _, ?_, rfl, q2⟩
  have rel2 : KT H2 (putK [] ks y) (storedH [] ks b w2) := KT.put (H := H2) .nil ks hb ry
  refine d_write I3 (by rw [hp]; exact True.intro) hs ⟨qo, hq⟩ ⟨?_, hd, _, rel2.keeps fun c ys ec => ?_, qo, es, ep, hq, h2, h3, h4, h5⟩
  · show 1 ≤ sizeLine
    decide
  · rw [upd_ne (ne_of ec hp (fun z => nomatch z))]
    exact ec
/-! ### list(reversed(xs)) -/
def tRevL (K : PySem.W.Frag) (ta : TA) : TE := fun σ H Q => ta σ H fun vs H1 => ∃ (a : Addr) (xs : List V), vs = [.ref a] ∧ SqL K H1 a xs ∧ ∀ p, H1 p = none → Q (.ref p) (upd H1 p (.lst xs.reverse))
theorem pe_revlist {X : Cx} {e : Expr} {ta : TA} {p1 p2 pos pos2 : Pos} (hc : X.calm = true) (hg1 : Gl X "list") (hm1 : X.mg "list" = none) (hg2 : Gl X "reversed") (hm2 : X.mg "reversed" = none) (ha : PA X [e] ta)
    (hs : starEach [e] X.env = [(false, eval e X.env)] := by rfl) (hs2 : starEach [.Call (.Name "reversed" p2) [e] [] pos2] X.env = [(false, eval (.Call (.Name "reversed" p2) [e] [] pos2) X.env)] := by rfl) :
    PE X (.Call (.Name "list" p1) [.Call (.Name "reversed" p2) [e] [] pos2] [] pos) (tRevL X.K ta) := by
  intro pins s σ H Q I h
  refine wpAny_Call_Name_kw (ld_blt I hg1 hm1 PyProof.Rows.boot_list ?_)
  refine PyProof.Rows.callWith_type1 ?_ hs2 rfl
  rw [hs2]
  show wpAny _ _ (spliced ((false, eval _ X.env) :: backTo pos [])) _ _ s
  refine Calls.spliced_cons ?_
  refine Call_ (ld_blt I hg2 hm2 boot_reversed5 (PyProof.Rows.callWith_type1 (thn (ha pos2 pins s σ H _ I h) fun us s1 ⟨vs, H1, I1, r1, q1⟩ => ?_) hs rfl))
  obtain ⟨a, xs, e, hq, q⟩ := q1
  subst e
  cases r1 with
  | cons r rr =>
    cases rr
    cases r
    obtain ⟨its, rv, p', hz⟩ := I1.list hq
    have hl := rv.length
    refine call_reversed_list p'.isList ?_
    refine Calls.spliced_nil ?_
    have hne : a ≠ s1.heap.objs.size := Nat.ne_of_lt (let ⟨_, e, _⟩ := p'.isList; Heap.lt_size e)
    refine call_list_rev (I := s1.heap.objs.size) (l := a) (items := its.toArray) (s := { s1 with heap := s1.heap.push (revObj a ((its.toArray.size : Int) - 1)) }) (I1.ok.hd hc) hne ⟨_, Heap.get?_push_size _ rfl, rfl, rfl⟩ (p'.isList.at fun o e => Heap.get?_push_of_some _ e) (fun h' tk acc' c' hk hD hacc => ?_) (by simpa [← hl] using hz)
    have k : ∀ b u, s1.heap.get? b = some u → h'.get? b = some u := fun b u e => hk b u (Nat.ne_of_lt (Heap.lt_size e)) (Heap.get?_push_of_some _ e)
    have hsz : (s1.heap.push (revObj a ((its.toArray.size : Int) - 1))).objs.size = s1.heap.objs.size + 1 := by simp [Heap.push]
    have hD2 : s1.heap.objs.size ≤ (s1.heap.push (revObj a ((its.toArray.size : Int) - 1))).objs.size := by rw [hsz]; exact Nat.le_succ _
    have vr : acc'.toList = its.reverse := by
      refine List.ext_getElem? fun j => ?_
      by_cases hj : j < its.length
      · have e1 : acc'.toList[j]? = some (acc'.toList[j]'(by rw [Array.length_toList, hacc.1]; simpa using hj)) := List.getElem?_eq_getElem _
        have e2 := hacc.2 j _ (by rw [← Array.getElem?_toList]; exact e1)
        rw [e1, List.getElem?_reverse hj]
        rw [← e2]
        simp
      · rw [List.getElem?_eq_none (by rw [Array.length_toList, hacc.1]; simpa using hj), List.getElem?_eq_none (by rw [List.length_reverse]; omega)]
    refine ⟨.ref _, upd H1 _ (.lst xs.reverse), I1.laid (t' := tk) k hD2 ?_, rfl, q _ (I1.hok.fresh hD2)⟩
    refine ⟨by rw [List.length_reverse]; exact hz, its.reverse, c', rv.reverse, ?_⟩
    rw [hD, ← vr]
section
variable {P : Program} {w : World} {K : PySem.W.Frag} {mg : Str → Option Value} {base : Heap}
theorem scOmo : FnScope ["self", "layer", "onward", "row", "stone", "after"] ["self", "layer"] (defScope sOmo) := ⟨rfl, rfl, rfl, by decide +kernel, rfl, by decide +kernel, by decide +kernel⟩
theorem pairs_snoc (l : List (List Nat)) (e : List Nat) : TF.pairsOf (l ++ [e]) = TF.pairsOf l ++ (Uw88.moves e).map (fun s => (e, s)) := by
  unfold TF.pairsOf
  rw [List.flatMap_append]
  simp
theorem stC_nil (C0 : List (List Nat × Nat)) (cf : List Nat → Nat) : TF.stC C0 cf [] = C0 := by
  unfold TF.stC TF.on
  simp
theorem OM.start {C : Addr} {H : Hp} {x dx c l o : Addr} {fq : Option Addr} {r : List Nat} {k : Nat} (RA : ReachAt C H x dx c l fq (TF.cts r k) (TF.lasts r k)) (ho : H o = none) : OM C H x dx c l o fq r k (upd H o (.lst [])) [] := by
  have sm : Same H (upd H o (.lst [])) := Same.upd_new ho
  obtain ⟨kvl, h1, h2, h3⟩ := RA.las
  refine ⟨sm _ _ RA.self, ?_, ⟨kvl, sm _ _ h1, ?_, ?_⟩, ⟨[], upd_same, .nil⟩, fun b u e _ _ => sm b u e⟩
  · rw [stC_nil]
    exact sm _ _ RA.cnt
  · have e : (fun u => (TF.lasts r k u).or (TF.lastOf [] u)) = TF.lasts r k := by
      funext u
      show (TF.lasts r k u).or none = _
      rw [Option.or_none]
    rw [e]
    exact h2.tups (Same.tups sm)
  · rw [stC_nil]
    exact h3
theorem OM.few {C : Addr} {H H' : Hp} {x dx c l o : Addr} {fq : Option Addr} {r : List Nat} {k : Nat} {ps : List (List Nat × Nat)} (h : OM C H x dx c l o fq r k H' ps) (fi : TF.Fine r) (hps : ∀ p ∈ ps, p.1 ∈ TF.L k r ∧ p.2 ∈ Uw88.moves p.1) :
    (TF.stC (TF.cts r k) (fun e => (TF.E k r).count e) ps).length ≤ 19683 := by
  rw [stC_len]
  exact TF.on_few fi k hps
theorem ok_omo {f fM fA C : Addr} {fd dM dA : FuncData} (F : Fun K "one_move_on" "Reach.one_move_on" sOmo f fd) (T : Txt K mg) (R : ClsR K mg C) (DM : Def K mg "stones_to_move" sMoves ["row"] fM dM) (DA : Def K mg "row_after" sAfter ["row", "stone"] fA dA)
    (GM : FnOk P w K mg base CX0 3 fM dM ["row"] (spMoves K)) (GA : FnOk P w K mg base CX0 3 fA dA ["row", "stone"] (spAfter K)) : FnOk P w K mg base CX0 4 f fd ["self", "layer"] (spOmo C) := by
  refine F.ok scOmo (fun vs H Q E h => ?_) (fun cdv A outer s H vs Q E hr h => ?_)
  · obtain ⟨x, dx, c, l, y, fq, as, r, k, rfl, _⟩ := h
    rfl
  · obtain ⟨x, dx, c, l, y, fq, as, r, k, rfl, fi, RA, hy, hrows, q⟩ := h
    have hu := hu_of hr
    refine ⟨_, pss_cons (ps_set (i := 2) scOmo.nd rfl (Or.inl rfl) (pe_lst pa_nil))
      (pss_cons (ps_for PassesOwn.never rfl (pi_list (pv 1)) (pg_name (i := 3) scOmo.nd rfl (Or.inl rfl))
        (pss_one (ps_for PassesOwn.never rfl (pi_list (pe_call GM hr (by rfl) DM.g DM.F.kp DM.b .nil pass0 (pa_cons (pv 3) pa_nil))) (pg_name (i := 4) scOmo.nd rfl (Or.inl rfl))
          (pss_cons (ps_set (i := 5) scOmo.nd rfl (Or.inl rfl) (pe_call GA hr (by rfl) DA.g DA.F.kp DA.b .nil pass0 (pa_cons (pv 3) (pa_cons (pv 4) pa_nil))))
          (pss_cons (ps_if (pt_cmp (pc_dnotin hu (pv 5) (pe_fld (pv 0) rfl)))
            (pss_cons (ps_dput hu (pe_fld (pv 0) rfl) (pv 5) pe_int rfl)
            (pss_cons (ps_dput hu (pe_fld (pv 0) rfl) (pv 5) (pe_tup (pa_cons (pv 3) (pa_cons (pv 4) pa_nil))) rfl)
            (pss_one (ps_expr (pe_bm PySem.F.plainAttrs_list PySem.F.slot_list_append PySem.F.type_list_append mt_append (pv 2) (pa_cons (pv 5) pa_nil)))))) pss_nil)
          (pss_one (ps_daug hu (pe_fld (pv 0) rfl) (pv 5) (pe_dget hu (pe_fld (pv 0) rfl) (pv 3) (fun _ _ => rfl)) in_add (fun _ _ _ => rfl))))))))
      (pss_one (ps_ret (pv 2)))), ?_⟩
    refine ⟨Nat.zero_le _, fun o ho => ?_⟩
    have nyc : y ≠ c := ne_of hy RA.cnt (by intro z; cases z)
    have nyl : y ≠ l := by
      obtain ⟨kvl, h1, _⟩ := RA.las
      exact ne_of hy h1 (by intro z; cases z)
    refine ⟨_, rfl, y, rfl, ⟨_, SqL.of (Same.upd_new ho _ _ hy)⟩, for_list (K := K) (a := y) (xs := as.map V.ref) (fun i σ H' => ∃ v3 v4 v5 : Option V, σ = [some (.ref x), some (.ref y), some (.ref o), v3, v4, v5] ∧ OM C H x dx c l o fq r k H' (TF.pairsOf ((TF.L k r).take i)))
      ⟨none, none, none, rfl, OM.start RA ho⟩ (fun i σ H' _ ⟨_, _, _, _, om⟩ => SqL.of (om.keep _ _ hy nyc nyl)) ?_ ?_⟩
    · rintro i v σ H' hi ⟨v3, v4, v5, rfl, om⟩
      obtain ⟨ae, hae, rfl⟩ : ∃ ae, as[i]? = some ae ∧ v = V.ref ae := by
        rw [List.getElem?_map] at hi
        cases e : as[i]? with
        | none => rw [e] at hi; cases hi
        | some ae => rw [e] at hi; exact ⟨ae, rfl, (Option.some.inj hi).symm⟩
      obtain ⟨e, he, hrow⟩ := paired_get hrows hae
      have hmL : e ∈ TF.L k r := List.mem_of_getElem? he
      have hmE : e ∈ TF.E k r := TF.mem_L.mp hmL
      have fe : TF.Fine e := TF.E_fine k fi hmE
      have keepT : ∀ H3, (∀ b u, H b = some u → b ≠ c → b ≠ l → H3 b = some u) → Tups H H3 := fun H3 kp b xs eb => by
        obtain ⟨kvl, h1, _⟩ := RA.las
        exact kp b _ eb (ne_of eb RA.cnt (by intro z; cases z)) (ne_of eb h1 (by intro z; cases z))
      have hps0 : ∀ p ∈ TF.pairsOf ((TF.L k r).take i), p.1 ∈ TF.L k r ∧ p.2 ∈ Uw88.moves p.1 := fun p hp => by
        unfold TF.pairsOf at hp
        obtain ⟨e', he', hp'⟩ := List.mem_flatMap.mp hp
        obtain ⟨s', hs', rfl⟩ := List.mem_map.mp hp'
        exact ⟨List.mem_of_mem_take he', hs'⟩
      refine ⟨_, rfl, ae, e, rfl, RowAt.sqT T (RowAt.tups hrow (keepT _ om.keep)), fe, fun p hp => ?_⟩
      refine ⟨p, rfl, ⟨_, SqL.of upd_same⟩, for_list (K := K) (a := p) (xs := rv (Uw88.moves e)) (fun j σ H3 => ∃ v4 v5 : Option V, σ = [some (.ref x), some (.ref y), some (.ref o), some (.ref ae), v4, v5] ∧
        OM C H x dx c l o fq r k H3 (TF.pairsOf ((TF.L k r).take i) ++ ((Uw88.moves e).take j).map (fun s => (e, s))) ∧ H3 p = some (.lst (rv (Uw88.moves e))))
        ⟨v4, v5, rfl, by rw [List.take_zero, List.map_nil, List.append_nil]; exact om.same (Same.upd_new hp), upd_same⟩ (fun j σ H3 _ ⟨_, _, _, _, h3⟩ => SqL.of h3) ?_ ?_⟩
      · rintro j v σ H3 hj ⟨v4', v5', rfl, om3, hp3⟩
        obtain ⟨st, hst, rfl⟩ : ∃ st : Nat, (Uw88.moves e)[j]? = some st ∧ v = V.int (st : Int) := by
          unfold rv at hj
          rw [List.getElem?_map] at hj
          cases e2 : (Uw88.moves e)[j]? with
          | none => rw [e2] at hj; cases hj
          | some z => rw [e2] at hj; exact ⟨z, rfl, (Option.some.inj hj).symm⟩
        have hsm : st ∈ Uw88.moves e := List.mem_of_getElem? hst
        have hps : ∀ q ∈ TF.pairsOf ((TF.L k r).take i) ++ ((Uw88.moves e).take j).map (fun s => (e, s)), q.1 ∈ TF.L k r ∧ q.2 ∈ Uw88.moves q.1 := fun q hq => by
          rcases List.mem_append.mp hq with m | m
          · exact hps0 q m
          · obtain ⟨s', hs', rfl⟩ := List.mem_map.mp m
            exact ⟨hmL, List.mem_of_mem_take hs'⟩
        have epairs : TF.pairsOf ((TF.L k r).take i) ++ ((Uw88.moves e).take (j + 1)).map (fun s => (e, s)) = (TF.pairsOf ((TF.L k r).take i) ++ ((Uw88.moves e).take j).map (fun s => (e, s))) ++ [(e, st)] := by
          rw [TF.take_snoc hst, List.map_append, List.append_assoc]
          rfl
        rw [epairs]
        generalize TF.pairsOf ((TF.L k r).take i) ++ ((Uw88.moves e).take j).map (fun s => (e, s)) = ps at om3 hps ⊢
        have hrow3 : RowAt H3 ae e := RowAt.tups hrow (keepT _ om3.keep)
        refine ⟨_, rfl, _, rfl, ae, e, st, rfl, RowAt.sqT T hrow3, hsm, fe, fun H2 pa s2 hpa0 hpa => ?_⟩
        have om2 := om3.same s2
        have hp2 := s2 _ _ hp3
        have hrow2 : RowAt H2 ae e := RowAt.same hrow3 s2
        have key : RowAt H2 pa (Uw88.moved e st) := .inl (by rw [rowKey_kV]; exact hpa)
        have few := om2.few fi hps
        have fresh : ∀ q ∈ TF.cts r k, q.1 ≠ TF.mvp (e, st) := TF.cts_fresh hmE hsm
        have fresh' : ∀ q ∈ TF.cts r k, q.1 ≠ Uw88.moved e st := fresh
        obtain ⟨kvl, hl, hlo, hlen⟩ := om2.las
        obtain ⟨os, hos, hor⟩ := om2.onw
        have nxc : x ≠ c := ne_of om2.self om2.cnt (by intro z; cases z)
        have nxl : x ≠ l := ne_of om2.self hl (by intro z; cases z)
        have nxo : x ≠ o := ne_of om2.self hos (by intro z; cases z)
        have nco : c ≠ o := ne_of om2.cnt hos (by intro z; cases z)
        have nlo : l ≠ o := ne_of hl hos (by intro z; cases z)
        have ncl : c ≠ l := RA.ne
        have npc : p ≠ c := ne_of hp2 om2.cnt (by intro z; cases z)
        have npl : p ≠ l := ne_of hp2 hl (by intro z; cases z)
        have npo : p ≠ o := fun z => by
          rw [z] at hp
          obtain ⟨os', hos', _⟩ := om.onw
          rw [hos'] at hp
          cases hp
        have eold : valV ((TF.stC (TF.cts r k) (fun e => (TF.E k r).count e) ps).map ckv) (rowKey e) = some (.int ((TF.E k r).count e : Nat)) := by
          rw [valV_ckv, TF.stC_old (TF.cts_get r k (Nat.le_refl k) hmE)]
          rfl
        have szc : ((TF.stC (TF.cts r k) (fun e => (TF.E k r).count e) ps).map ckv).length < sizeLine := by rw [List.length_map]; exact line_of9 (by omega)
        have ev : valV ((TF.stC (TF.cts r k) (fun e => (TF.E k r).count e) ps).map ckv) (rowKey (Uw88.moved e st)) = if Uw88.moved e st ∈ TF.on ps then some (.int (TF.num (fun e => (TF.E k r).count e) ps (Uw88.moved e st) : Nat)) else none := by
          rw [valV_ckv, TF.stC_get fresh']
          split <;> rfl
        refine ⟨_, rfl, _, rfl, x, C, dx, _, _, rfl, om2.self, R.cl, R.nC, rf_c c l fq, c, _, rfl, DGet.t om2.cnt key, ?_⟩
        by_cases hn : Uw88.moved e st ∈ TF.on ps
        · rw [ev, if_pos hn]
          refine ⟨_, rfl, iteF ?_⟩
          refine ⟨_, rfl, x, C, dx, _, _, rfl, om2.self, R.cl, R.nC, rf_c c l fq, _, rfl, c, .int (TF.num (fun e => (TF.E k r).count e) ps (Uw88.moved e st) : Nat), rfl, ?_, ?_⟩
          · exact (by rw [if_pos hn] at ev; rw [← ev]; exact DGet.t om2.cnt key)
          refine ⟨_, rfl, x, C, dx, _, _, rfl, om2.self, R.cl, R.nC, rf_c c l fq, _, rfl, c, .int ((TF.E k r).count e : Nat), rfl, (by rw [← eold]; exact DGet.t om2.cnt hrow2), _, _, rfl, rfl, _, DPut.t om2.cnt key szc, ?_⟩
          refine ⟨_, _, rfl, om2.again hmE hsm hn ncl ?_ (fun b hb => upd_ne hb), ?_⟩
          · rw [upd_same, ← TF.stC_again fresh hn, ← putK_ckv]
            rfl
          · rw [upd_ne npc]
            exact hp2
        · rw [ev, if_neg hn]
          refine ⟨_, rfl, iteT ?_⟩
          refine ⟨_, rfl, x, C, dx, _, _, rfl, om2.self, R.cl, R.nC, rf_c c l fq, _, rfl, c, _, rfl, DPut.t om2.cnt key szc, ?_⟩
          refine ⟨_, rfl, _, rfl, (by show 2 ≤ sizeLine; decide), fun q hq => ?_⟩
          have nqc : q ≠ c := fun z => by rw [z, upd_same] at hq; cases hq
          have hq2 : H2 q = none := by rw [upd_ne nqc] at hq; exact hq
          have nxq : x ≠ q := ne_of_none om2.self hq2
          have nlq : l ≠ q := ne_of_none hl hq2
          have noq : o ≠ q := ne_of_none hos hq2
          have npq : p ≠ q := ne_of_none hp2 hq2
          refine ⟨_, rfl, x, C, dx, _, _, rfl, by rw [upd_ne nxq, upd_ne nxc]; exact om2.self, R.cl, R.nL, rf_l c l fq, _, rfl, l, _, rfl, DPut.t (kvs := kvl) (k := rowKey (Uw88.moved e st)) (by rw [upd_ne nlq, upd_ne ncl.symm]; exact hl) ?_ ?_, ?_⟩
          · refine RowAt.tups key fun b xs eb => ?_
            rw [upd_ne (ne_of_none eb hq2), upd_ne (ne_of eb om2.cnt (by intro z; cases z))]
            exact eb
          · exact line_of9 (by omega)
          refine ⟨_, rfl, .inl ⟨rfl, _, SqL.of (by rw [upd_ne nlo.symm, upd_ne noq, upd_ne nco.symm]; exact hos)⟩, _, rfl, o, _, _, rfl, rfl, by rw [upd_ne nlo.symm, upd_ne noq, upd_ne nco.symm]; exact hos, ?_, ?_⟩
          · rw [List.length_map, Paired.length hor]
            have few2 := few
            rw [stC_len] at few2
            exact line_of9 (by omega)
          have key9 : ∀ X Y, KeyAt (upd (upd (upd (upd H2 c X) q (.tup [.ref ae, .int (st : Int)])) l Y) o (.lst (os.map V.ref ++ [.ref pa]))) pa (rowKey (Uw88.moved e st)) ∧ KeyAt (upd (upd (upd (upd H2 c X) q (.tup [.ref ae, .int (st : Int)])) l Y) o (.lst (os.map V.ref ++ [.ref pa]))) ae (rowKey e) := fun X Y => by
            have tu : Tups H2 (upd (upd (upd (upd H2 c X) q (.tup [.ref ae, .int (st : Int)])) l Y) o (.lst (os.map V.ref ++ [.ref pa]))) := fun b xs eb => by
              rw [upd_ne (ne_of eb hos (by intro z; cases z)), upd_ne (ne_of eb hl (by intro z; cases z)), upd_ne (ne_of_none eb hq2), upd_ne (ne_of eb om2.cnt (by intro z; cases z))]
              exact eb
            exact ⟨RowAt.tups key tu, RowAt.tups hrow2 tu⟩
          have cat : ∀ X Y Z W, upd (upd (upd (upd H2 c (.dT X)) q Y) l Z) o W c = some (.dT X) := fun X Y Z W => by
            rw [upd_ne nco, upd_ne ncl, upd_ne nqc.symm, upd_same]
          have xat : ∀ X Y Z W, upd (upd (upd (upd H2 c X) q Y) l Z) o W x = some (.ins C dx (rf c l fq)) := fun X Y Z W => by
            rw [upd_ne nxo, upd_ne nxl, upd_ne nxq, upd_ne nxc]
            exact om2.self
          have h0 : putK ((TF.stC (TF.cts r k) (fun e => (TF.E k r).count e) ps).map ckv) (rowKey (Uw88.moved e st)) (.int 0) = (TF.put (TF.stC (TF.cts r k) (fun e => (TF.E k r).count e) ps) (Uw88.moved e st) 0).map ckv := putK_ckv _ _ 0
          have nee : e ≠ Uw88.moved e st := fun z => by
            have := TF.moved_rank hsm
            rw [← z] at this
            omega
          refine ⟨_, rfl, x, C, dx, _, _, rfl, xat _ _ _ _, R.cl, R.nC, rf_c c l fq, _, rfl, c, V.int 0, rfl, ?_, ?_⟩
          · have g := DGet.t (k := rowKey (Uw88.moved e st)) (cat (putK ((TF.stC (TF.cts r k) (fun e => (TF.E k r).count e) ps).map ckv) (rowKey (Uw88.moved e st)) (.int 0)) (.tup [.ref ae, .int (st : Int)]) (.dT (putK kvl (rowKey (Uw88.moved e st)) (.ref q))) (.lst (os.map V.ref ++ [.ref pa]))) (key9 _ _).1
            rw [valV_put, if_pos rfl] at g
            exact g
          refine ⟨_, rfl, x, C, dx, _, _, rfl, xat _ _ _ _, R.cl, R.nC, rf_c c l fq, _, rfl, c, .int ((TF.E k r).count e : Nat), rfl, ?_, _, _, rfl, rfl, _, DPut.t (cat _ _ _ _) (key9 _ _).1 ?_, ?_⟩
          · have g := DGet.t (k := rowKey e) (cat (putK ((TF.stC (TF.cts r k) (fun e => (TF.E k r).count e) ps).map ckv) (rowKey (Uw88.moved e st)) (.int 0)) (.tup [.ref ae, .int (st : Int)]) (.dT (putK kvl (rowKey (Uw88.moved e st)) (.ref q))) (.lst (os.map V.ref ++ [.ref pa]))) (key9 _ _).2
            rw [valV_put, if_neg (fun z => nee (rowKey_inj z)), eold] at g
            exact g
          · have := length_putK ((TF.stC (TF.cts r k) (fun e => (TF.E k r).count e) ps).map ckv) (rowKey (Uw88.moved e st)) (.int 0)
            rw [List.length_map] at this
            exact line_of9 (by omega)
          refine ⟨_, _, rfl, om2.first hmE hsm hn hrow2 key ho hl hlo hlen hos hor hq2 ?_ ?_ ?_ ?_ ?_, ?_⟩
          · rw [upd_same, ← TF.stC_first fresh hn, ← putK_ckv]
            rw [h0]
            show some (HO.dT (putK _ (rowKey (Uw88.moved e st)) (.int (0 + ((TF.E k r).count e : Nat))))) = _
            rw [Int.zero_add]
            rfl
          · rw [upd_ne ncl.symm, upd_ne nlo, upd_same]
          · rw [upd_ne nco.symm, upd_same, List.map_append]
            rfl
          · rw [upd_ne nqc, upd_ne noq.symm, upd_ne nlq.symm, upd_same]
          · intro b n1 n2 n3 n4
            rw [upd_ne n1, upd_ne n3, upd_ne n2, upd_ne n4, upd_ne n1]
          · rw [upd_ne npc, upd_ne npo, upd_ne npl, upd_ne npq, upd_ne npc]
            exact hp2
      · rintro σ H3 ⟨v4', v5', rfl, om3, _⟩
        refine ⟨_, _, _, rfl, ?_⟩
        rw [rv_len, List.take_length, ← pairs_snoc, ← TF.take_snoc he] at om3
        exact om3
    · rintro σ H' ⟨v3, v4, v5, rfl, om⟩
      rw [List.length_map, Paired.length hrows, List.take_length] at om
      obtain ⟨kvl, hl, hlo, hlen⟩ := om.las
      obtain ⟨os, hos, hor⟩ := om.onw
      have cn := om.cnt
      rw [TF.cts_step] at cn hlen
      rw [TF.on_pairs, ← TF.L_succ] at hor
      exact ⟨_, rfl, q H' o os ⟨om.self, cn, ⟨kvl, hl, hlo, hlen⟩, RA.ne⟩ hos hor om.keep⟩
end
end Tp
end
section
set_option Elab.async false
set_option linter.all false
set_option maxRecDepth 100000
set_option maxHeartbeats 2000000
namespace Tp
open PySem PySem.Spec PyProof.Rows L2
/-- behind the search: nothing is left to go on from; a is where the last layer's first row lies -/
def ReachFin (C : Addr) (H : Hp) (x : Addr) (r : List Nat) : Prop := ∃ dx c l a k t0 rest, TF.L k r = t0 :: rest ∧ TF.L (k + 1) r = [] ∧ ReachAt C H x dx c l (some a) (TF.cts r (k + 1)) (TF.lasts r (k + 1)) ∧ RowAt H a t0
theorem ReachFin.same {C : Addr} {H H' : Hp} {x : Addr} {r : List Nat} (h : ReachFin C H x r) (s : Same H H') : ReachFin C H' x r := by
  obtain ⟨dx, c, l, a, k, t0, rest, h1, h2, h3, h4⟩ := h
  exact ⟨dx, c, l, a, k, t0, rest, h1, h2, h3.same s, RowAt.same h4 s⟩
theorem L_next {k : Nat} {r : List Nat} (h : TF.L k r = []) : TF.L (k + 1) r = [] := by rw [TF.L_succ, h]; rfl
def spRInit (C : Addr) : Sp := fun vs H Q _ => ∃ (x dx a : Addr) (r : List Nat), vs = [.ref x, .ref a] ∧ H x = some (.ins C dx []) ∧ RowAt H a r ∧ TF.Fine r ∧
  ∀ H' : Hp, ReachFin C H' x r → (∀ b o, H b = some o → b ≠ x → H' b = some o) → Q .non H'
def spCan (C : Addr) : Sp := fun vs H Q _ => ∃ (x a : Addr) (r t : List Nat), vs = [.ref x, .ref a] ∧ ReachFin C H x r ∧ RowAt H a t ∧ Q (.bl (decide (TF.cnt t r ≠ 0))) H
def spWaysTo (C : Addr) : Sp := fun vs H Q _ => ∃ (x a : Addr) (r t : List Nat), vs = [.ref x, .ref a] ∧ ReachFin C H x r ∧ RowAt H a t ∧ Q (.int (TF.cnt t r : Nat)) H
def spFirst (C : Addr) : Sp := fun vs H Q _ => ∃ (x a : Addr) (r t : List Nat), vs = [.ref x, .ref a] ∧ ReachFin C H x r ∧ TF.Fine r ∧ RowAt H a t ∧ TF.cnt t r ≠ 0 ∧
  ∀ (H' : Hp) (p : Addr), Same H H' → H p = none → H' p = some (.lst (rv (TF.fw t r))) → Q (.ref p) H'
section
variable {P : Program} {w : World} {K : PySem.W.Frag} {mg : Str → Option Value} {base : Heap}
theorem scRInit : FnScope ["self", "start", "layer"] ["self", "start"] (defScope sRInit) := ⟨rfl, rfl, rfl, by decide +kernel, rfl, by decide +kernel, by decide +kernel⟩
theorem ok_rinit {f fO C : Addr} {fd dO : FuncData} (F : Fun K "__init__" "Reach.__init__" sRInit f fd) (T : Txt K mg) (R : ClsR K mg C) (mO : Meth K C "one_move_on" fO) (bO : Binds K dO ["self", "layer"] [])
    (GO : FnOk P w K mg base CX0 4 fO dO ["self", "layer"] (spOmo C)) : FnOk P w K mg base CX0 5 f fd ["self", "start"] (spRInit C) := by
  refine F.ok scRInit (fun vs H Q E h => ?_) (fun cdv A outer s H vs Q E hr h => ?_)
  · obtain ⟨x, dx, a, r, rfl, _⟩ := h
    rfl
  · obtain ⟨x, dx, a, r, rfl, hx, ha, fi, q⟩ := h
    have hu := hu_of hr
    refine ⟨_, pss_cons (ps_fld (pv 0) (pe_disp1T (Nat.lt_of_succ_lt hu) (pv 1) pe_int) rfl)
      (pss_cons (ps_fld (pv 0) pe_dnewT rfl)
      (pss_cons (ps_set (i := 2) scRInit.nd rfl (Or.inl rfl) (pe_lst (pa_cons (pv 1) pa_nil)))
      (pss_one (ps_while PassesOwn.never (pt_truth (pv 2) (fun _ => rfl)) (pss_cons (ps_fld (pv 0) (pe_ix ix_list (pv 2) pe_int (fun _ _ => rfl)) rfl) (pss_one (ps_set (i := 2) scRInit.nd rfl (Or.inl rfl) (pe_meth (pv 0) R.cl mO GO hr bO .nil pass0 (pa_cons (pv 2) pa_nil))))))))), ?_⟩
    intro c hc
    have nxc : x ≠ c := ne_of_none hx hc
    have t1 : Tups H (upd H c (.dT [])) := fun b xs e => by
      rw [upd_ne (ne_of_none e hc)]
      exact e
    refine ⟨_, rfl, a, rowKey r, rfl, RowAt.tups ha t1, upd_same, ?_⟩
    rw [upd_upd]
    refine ⟨_, rfl, x, C, dx, [], rfl, by rw [upd_ne nxc]; exact hx, R.cl, R.nC, (by show 0 < 1000; decide), ?_⟩
    intro l hl
    have nlx : l ≠ x := fun z => by rw [z, upd_same] at hl; cases hl
    have nlc : l ≠ c := fun z => by rw [upd_ne nlx, z, upd_same] at hl; cases hl
    have hl0 : H l = none := by rw [upd_ne nlx, upd_ne nlc] at hl; exact hl
    refine ⟨_, rfl, x, C, dx, _, rfl, by rw [upd_ne nlx.symm, upd_same], R.cl, R.nL, (by show 1 < 1000; decide), ?_⟩
    refine ⟨_, rfl, (by show 1 ≤ sizeLine; decide), fun y hy => ?_⟩
    have nyx : y ≠ x := fun z => by rw [z, upd_same] at hy; cases hy
    have nyl : y ≠ l := fun z => by rw [upd_ne nyx, z, upd_same] at hy; cases hy
    have nyc : y ≠ c := fun z => by rw [upd_ne nyx, upd_ne nyl, upd_ne nyx, z, upd_same] at hy; cases hy
    have hy0 : H y = none := by rw [upd_ne nyx, upd_ne nyl, upd_ne nyx, upd_ne nyc] at hy; exact hy
    have keep0 : ∀ X Y Z W V', ∀ b o, H b = some o → b ≠ x → upd (upd (upd (upd (upd H c X) x Y) l Z) x W) y V' b = some o := fun X Y Z W V' b o e n => by
      rw [upd_ne (ne_of_none e hy0), upd_ne n, upd_ne (ne_of_none e hl0), upd_ne n, upd_ne (ne_of_none e hc)]
      exact e
    refine ⟨fun m σ H' => ∃ (k : Nat) (as : List Addr) (y : Addr) (fq : Option Addr), m + k = 110 ∧ σ = [some (.ref x), some (.ref a), some (.ref y)] ∧ ReachAt C H' x dx c l fq (TF.cts r k) (TF.lasts r k) ∧ H' y = some (.lst (as.map V.ref)) ∧ RowsAt H' as (TF.L k r) ∧
      (∀ b o, H b = some o → b ≠ x → H' b = some o) ∧ (k = 0 ∨ ∃ (a9 : Addr) (j : Nat) (t0 : List Nat) (rest : List (List Nat)), k = j + 1 ∧ fq = some a9 ∧ RowAt H' a9 t0 ∧ TF.L j r = t0 :: rest), ⟨110, 0, [a], y, none, rfl, rfl, ⟨?_, ?_, ⟨[], ?_, ⟨fun u _ => rfl, fun u e i z => ?_⟩, rfl⟩, nlc.symm⟩, upd_same, .cons ?_ .nil, keep0 _ _ _ _ _, .inl rfl⟩, ?_⟩
    · rw [upd_ne nyx.symm, upd_same]
      rfl
    · rw [upd_ne nyc.symm, upd_ne nxc.symm, upd_ne nlc.symm, upd_ne nxc.symm, upd_same]
      rfl
    · rw [upd_ne nyl.symm, upd_ne nlx, upd_same]
    · cases z
    · refine RowAt.tups ha fun b xs e => keep0 _ _ _ _ _ b _ e (ne_of e hx (by intro z; cases z))
    · rintro m σ H' ⟨k, as, y, fq, em, rfl, RA, hy', hrows, kp, far⟩
      refine ⟨_, rfl, !(as.map V.ref).isEmpty, .inl ⟨_, SqL.of hy', rfl⟩, ?_⟩
      cases as with
      | nil =>
        have hl2 := Paired.length hrows
        have hL : TF.L k r = [] := List.length_eq_zero_iff.mp hl2.symm
        rcases far with z | ⟨a9, j, t0, rest, z1, z2, z3, z4⟩
        · rw [z] at hL
          exact absurd hL (by show [r] ≠ []; simp)
        · rw [z1] at hL RA
          rw [z2] at RA
          exact iteF (q H' ⟨dx, c, l, a9, j, t0, rest, z4, hL, RA, z3⟩ kp)
      | cons a0 as =>
        obtain ⟨t0, rest, hL, ha0, hrest⟩ : ∃ t0 rest, TF.L k r = t0 :: rest ∧ RowAt H' a0 t0 ∧ RowsAt H' as rest := by
          generalize TF.L k r = ls at hrows
          cases hrows with
          | cons h1 h2 => exact ⟨_, _, rfl, h1, h2⟩
        have hk : k ≤ 108 := by
          rcases Nat.lt_or_ge 108 k with z | z
          · have := TF.L_end fi.len z
            rw [hL] at this
            cases this
          · exact z
        refine iteT ⟨fun σ H2 => ∃ (as : List Addr) (y : Addr), σ = [some (.ref x), some (.ref a), some (.ref y)] ∧ ReachAt C H2 x dx c l (some a0) (TF.cts r (k + 1)) (TF.lasts r (k + 1)) ∧ H2 y = some (.lst (as.map V.ref)) ∧ RowsAt H2 as (TF.L (k + 1) r) ∧
          (∀ b o, H b = some o → b ≠ x → H2 b = some o) ∧ RowAt H2 a0 t0, ?_, ?_⟩
        · rintro σ H2 ⟨as2, y2, h1, h2, h3, h4, h5, h6⟩
          exact ⟨m - 1, by omega, k + 1, as2, y2, some a0, by omega, h1, h2, h3, h4, h5, .inr ⟨a0, k, t0, rest, rfl, rfl, h6, hL⟩⟩
        · refine ⟨_, rfl, y, _, _, _, rfl, rfl, SqL.of hy', at_of (j := 0) rfl rfl, ?_⟩
          refine ⟨_, rfl, x, C, dx, _, rfl, RA.self, R.cl, R.nF, rf_few c l fq, ?_⟩
          rw [rf_put]
          obtain ⟨kvl, hl1, hl2, hl3⟩ := RA.las
          have nxy : y ≠ x := ne_of hy' RA.self (by intro z; cases z)
          have ncx : c ≠ x := ne_of RA.cnt RA.self (by intro z; cases z)
          have nlx2 : l ≠ x := ne_of hl1 RA.self (by intro z; cases z)
          have tu : Tups H' (upd H' x (.ins C dx (rf c l (some a0)))) := fun b xs e => by
            rw [upd_ne (ne_of e RA.self (by intro z; cases z))]
            exact e
          have RA2 : ReachAt C (upd H' x (.ins C dx (rf c l (some a0)))) x dx c l (some a0) (TF.cts r k) (TF.lasts r k) :=
            ⟨upd_same, by rw [upd_ne ncx]; exact RA.cnt, ⟨kvl, by rw [upd_ne nlx2]; exact hl1, hl2.tups tu, hl3⟩, RA.ne⟩
          refine ⟨_, rfl, x, dx, _, rfl, upd_same, rf_no c l (some a0) (by decide) (by decide) (by decide), _, rfl, x, dx, c, l, y, some a0, a0 :: as, r, k, rfl, fi, RA2, by rw [upd_ne nxy]; exact hy', by rw [hL]; exact RowsAt.tups (.cons ha0 hrest) tu, fun H2 y2 as2 g1 g2 g3 g4 => ?_⟩
          refine ⟨as2, y2, rfl, g1, g2, g3, fun b o e n => g4 b o (by rw [upd_ne n]; exact kp b o e n) (fun z => ?_) (fun z => ?_), ?_⟩
          · rw [z, hc] at e; cases e
          · rw [z, hl0] at e; cases e
          · refine RowAt.tups (RowAt.tups ha0 tu) fun b xs e => g4 b _ e (ne_of e RA2.cnt (by intro z; cases z)) ?_
            obtain ⟨kvl2, g, _⟩ := RA2.las
            exact ne_of e g (by intro z; cases z)
theorem scCan : FnScope ["self", "row"] ["self", "row"] (defScope sCan) := ⟨rfl, rfl, rfl, by decide +kernel, rfl, by decide +kernel, by decide +kernel⟩
theorem ok_can {f C : Addr} {fd : FuncData} (F : Fun K "can_come" "Reach.can_come" sCan f fd) (R : ClsR K mg C) : FnOk P w K mg base CX0 1 f fd ["self", "row"] (spCan C) := by
  refine F.ok scCan (fun vs H Q E h => ?_) (fun cdv A outer s H vs Q E hr h => ?_)
  · obtain ⟨x, a, r, t, rfl, _⟩ := h
    rfl
  · obtain ⟨x, a, r, t, rfl, ⟨dx, c, l, a9, k, t9, rest9, hL9, hk, RA, ha9⟩, ha, q⟩ := h
    have hu := hu_of hr
    refine ⟨_, pss_one (ps_ret (pe_cmp (pc_din hu (pv 1) (pe_fld (pv 0) rfl)))), ?_⟩
    refine ⟨_, rfl, _, rfl, x, C, dx, _, _, rfl, RA.self, R.cl, R.nC, rf_c c l (some a9), c, _, rfl, DGet.t RA.cnt ha, ?_⟩
    rw [valV_ckv, TF.gv_all (L_next hk)]
    by_cases z : TF.cnt t r = 0
    · rw [if_pos z]
      have e : decide (TF.cnt t r ≠ 0) = false := by simp [z]
      rw [e] at q
      exact q
    · rw [if_neg z]
      have e : decide (TF.cnt t r ≠ 0) = true := by simp [z]
      rw [e] at q
      exact q
theorem scWaysTo : FnScope ["self", "row"] ["self", "row"] (defScope sWaysTo) := ⟨rfl, rfl, rfl, by decide +kernel, rfl, by decide +kernel, by decide +kernel⟩
theorem ok_waysto {f C : Addr} {fd : FuncData} (F : Fun K "ways_to" "Reach.ways_to" sWaysTo f fd) (R : ClsR K mg C) : FnOk P w K mg base CX0 1 f fd ["self", "row"] (spWaysTo C) := by
  refine F.ok scWaysTo (fun vs H Q E h => ?_) (fun cdv A outer s H vs Q E hr h => ?_)
  · obtain ⟨x, a, r, t, rfl, _⟩ := h
    rfl
  · obtain ⟨x, a, r, t, rfl, ⟨dx, c, l, a9, k, t9, rest9, hL9, hk, RA, ha9⟩, ha, q⟩ := h
    have hu := hu_of hr
    refine ⟨_, pss_one (ps_ret (pe_dget2 hu (pe_fld (pv 0) rfl) (pv 1) pe_int ⟨rfl, rfl, rfl, rfl⟩)), ?_⟩
    refine ⟨_, rfl, x, C, dx, _, _, rfl, RA.self, R.cl, R.nC, rf_c c l (some a9), c, rfl, .inr ⟨_, .inl RA.cnt⟩, _, rfl, _, DGet.t RA.cnt ha, ?_⟩
    rw [valV_ckv, TF.gv_all (L_next hk)]
    by_cases z : TF.cnt t r = 0
    · rw [if_pos z]
      rw [z] at q
      exact q
    · rw [if_neg z]
      exact q
theorem scFirst : FnScope ["self", "row", "backward", "last"] ["self", "row"] (defScope sFirst) := ⟨rfl, rfl, rfl, by decide +kernel, rfl, by decide +kernel, by decide +kernel⟩
theorem ok_first {f C : Addr} {fd : FuncData} (F : Fun K "first_way" "Reach.first_way" sFirst f fd) (T : Txt K mg) (R : ClsR K mg C) : FnOk P w K mg base CX0 1 f fd ["self", "row"] (spFirst C) := by
  refine F.ok scFirst (fun vs H Q E h => ?_) (fun cdv A outer s H vs Q E hr h => ?_)
  · obtain ⟨x, a, r, t, rfl, _⟩ := h
    rfl
  · obtain ⟨x, a, r, t, rfl, ⟨dx, c, l, a9, k, t9, rest9, hL9, hk, RA, ha9⟩, fi, ha, hct, q⟩ := h
    have hu := hu_of hr
    refine ⟨_, pss_cons (ps_set (i := 2) scFirst.nd rfl (Or.inl rfl) (pe_lst pa_nil))
      (pss_cons (ps_while PassesOwn.never (pt_cmp (pc_din hu (pv 1) (pe_fld (pv 0) rfl)))
        (pss_cons (ps_set (i := 3) scFirst.nd rfl (Or.inl rfl) (pe_dget hu (pe_fld (pv 0) rfl) (pv 1) (fun _ _ => rfl)))
        (pss_cons (ps_expr (pe_bm PySem.F.plainAttrs_list PySem.F.slot_list_append PySem.F.type_list_append mt_append (pv 2) (pa_cons (pe_ix ix_tup (pv 3) pe_int (fun _ _ => rfl)) pa_nil)))
        (pss_one (ps_set (i := 1) scFirst.nd rfl (Or.inl rfl) (pe_ix ix_tup (pv 3) pe_int (fun _ _ => rfl)))))))
      (pss_one (ps_ret (pe_revlist rfl (by rfl) T.list (by rfl) T.reversed (pa_cons (pv 2) pa_nil))))), ?_⟩
    refine ⟨Nat.zero_le _, fun b hb => ?_⟩
    obtain ⟨kvl, hl, hlo, hlen⟩ := RA.las
    refine ⟨fun m σ H' => ∃ (a' : Addr) (t' bw : List Nat) (v3 : Option V), m = (TF.fw t' r).length ∧ σ = [some (.ref x), some (.ref a'), some (.ref b), v3] ∧ RowAt H' a' t' ∧ TF.cnt t' r ≠ 0 ∧ H' b = some (.lst (rv bw)) ∧ TF.fw t r = TF.fw t' r ++ bw.reverse ∧ Same H H',
      ⟨_, a, t, [], none, rfl, rfl, RowAt.same ha (Same.upd_new hb), hct, upd_same, by simp, Same.upd_new hb⟩, ?_⟩
    rintro m σ H' ⟨a', t', bw, v3, em, rfl, ha', hc', hb', ew, sm⟩
    have hl' := sm _ _ hl
    have hlo' := hlo.tups (Same.tups sm)
    refine ⟨_, rfl, _, rfl, x, C, dx, _, _, rfl, sm _ _ RA.self, R.cl, R.nL, rf_l c l (some a9), l, _, rfl, DGet.t hl' ha', ?_⟩
    rcases TF.lasts_all (u := t') (L_next hk) with ⟨h1, h2⟩ | ⟨e, i, h1, h2, h3⟩
    · rw [hlo'.no t' h1]
      refine ⟨_, rfl, iteF ?_⟩
      have et : t' = r := by
        rcases h2 with z | z
        · exact z
        · exact absurd z hc'
      rw [et, TF.fw_self, List.nil_append] at ew
      refine ⟨_, rfl, b, _, rfl, SqL.of hb', fun p hp => ?_⟩
      refine q _ p (Same.upd_keep sm (sm.free hp)) (sm.free hp) ?_
      rw [upd_same, ew]
      unfold rv
      rw [List.map_reverse]
    · obtain ⟨p0, q0, g1, g2, g3⟩ := hlo'.yes t' e i h1
      rw [g1]
      have lw : (TF.fw t' r).length = (TF.fw e r).length + 1 := by rw [h3]; simp
      have wl := TF.way_len fi.len hct
      have bl : bw.length ≤ 108 := by
        rw [ew, List.length_append, List.length_reverse] at wl
        omega
      refine ⟨_, rfl, iteT ⟨fun σ H2 => ∃ (a' : Addr) (t' bw : List Nat) (v3 : Option V), (TF.fw t' r).length < m ∧ σ = [some (.ref x), some (.ref a'), some (.ref b), v3] ∧ RowAt H2 a' t' ∧ TF.cnt t' r ≠ 0 ∧ H2 b = some (.lst (rv bw)) ∧ TF.fw t r = TF.fw t' r ++ bw.reverse ∧ Same H H2, ?_, ?_⟩⟩
      · rintro σ H2 ⟨a2, t2, bw2, v2, n1, n2, n3, n4, n5, n6, n7⟩
        exact ⟨_, n1, a2, t2, bw2, v2, rfl, n2, n3, n4, n5, n6, n7⟩
      · refine ⟨_, rfl, x, C, dx, _, _, rfl, sm _ _ RA.self, R.cl, R.nL, rf_l c l (some a9), _, rfl, l, .ref p0, rfl, (by rw [← g1]; exact DGet.t hl' ha'), ?_⟩
        refine ⟨_, rfl, .inl ⟨rfl, _, SqL.of hb'⟩, _, rfl, p0, _, 1, _, rfl, rfl, SqT.of g2, at_of (j := 1) rfl rfl, b, _, _, rfl, rfl, hb', (by rw [rv_len]; exact line_of9 (by omega)), ?_⟩
        have nb : ∀ o, (∀ X, o ≠ HO.lst X) → ∀ z, H' z = some o → z ≠ b := fun o ho z hz => ne_of hz hb' (ho _)
        refine ⟨_, rfl, p0, _, 0, .ref q0, rfl, rfl, SqT.of (by rw [upd_ne (nb _ (by intro X z; cases z) _ g2)]; exact g2), at_of (j := 0) rfl rfl, ?_⟩
        refine ⟨q0, e, bw ++ [i], some (.ref p0), by omega, rfl, ?_, h2, ?_, ?_, Same.upd_keep sm hb⟩
        · exact RowAt.tups g3 fun z xs ez => by
            rw [upd_ne (nb _ (by intro X z; cases z) _ ez)]
            exact ez
        · rw [upd_same]
          unfold rv
          rw [List.map_append]
          rfl
        · rw [ew, h3]
          simp
end
end Tp
end
section
set_option Elab.async false
set_option linter.all false
set_option maxRecDepth 100000
set_option maxHeartbeats 2000000
namespace L2
open PySem PySem.Spec PyProof.Rows
theorem same_new {H : Hp} {p : Addr} {o : HO} (h : H p = none) : Same H (upd H p o) := fun b u e => by
  rw [upd_ne (ne_of_none e h)]
  exact e
section
variable {X : Cx}
/-- len of a dict whose keys are tuples -/
theorem call_lenT : CallR X (.builtin "len") (fun xs H Q => ∃ (a : Addr) (kvs : List (List Key × V)), xs = [V.ref a] ∧ H a = some (.dT kvs) ∧ Q (.int (kvs.length : Nat)) H) := by
  intro pins s σ H xs us Q I r h
  obtain ⟨a, kvs, rfl, ha, q⟩ := h
  obtain ⟨u, rfl, ru⟩ := vals1 r
  cases ru
  obtain ⟨z, hs, ys, pr, o, es, ep, ho, hx, hdt, he, _⟩ := dt_of I.hok I.stat ha
  have l1 : es.size = ys.length := size_of_entries he
  have l2 : kvs.length = ys.length := Paired.length pr
  have e : es.size = kvs.length := by omega
  refine len_any_dict hs ho hx.1 hdt (by omega) ?_
  rw [e]
  exact ⟨.int kvs.length, H, I.tok _, ⟨_, rfl⟩, q⟩
/-- t + u of two tuples that are tracked -/
def rCatS : R2 := fun x y H Q => ∃ (a b : Addr) (xs ys : List V), x = .ref a ∧ y = .ref b ∧ H a = some (.tup xs) ∧ H b = some (.tup ys) ∧ xs.length + ys.length ≤ sizeLine ∧
  ∀ (H' : Hp) (p : Addr), Same H H' → H' p = some (.tup (xs ++ ys)) → Q (.ref p) H'
theorem op_catS : OpR X (binaryOp .Add) rCatS := by
  intro pins s σ H x y v u Q I rx ry h
  obtain ⟨a, b, xs, ys, rfl, rfl, ha, hb, hz, q⟩ := h
  cases rx
  cases ry
  obtain ⟨its, r1, p1, _⟩ := I.tuple (SqT.of (K := X.K) ha)
  obtain ⟨its2, r2, p2, _⟩ := I.tuple (SqT.of (K := X.K) hb)
  by_cases hx : xs = []
  · have h0 : its = [] := r1.nil_iff.mpr hx
    obtain ⟨⟨cls, dd, data, sl⟩, ho, hc, n, hd⟩ := id p1
    obtain ⟨⟨cls2, dd2, data2, sl2⟩, ho2, hc2, n2, hd2⟩ := id p2
    simp only at hc hd hc2 hd2
    subst hc hd hc2 hd2
    refine concat_meets ⟨_, ho, rfl⟩ ⟨_, ho2, rfl⟩ noFill_tuple_add seq_tuple_add PySem.F.slot_tuple_add PySem.F.entry_tuple_add (PySem.F.args_tuple_add_2 _ _) (tuple_addW0 a b its.toArray its2.toArray n n2 dd dd2 sl sl2 (by rw [h0]; rfl)) ⟨ho, ho2, ?_⟩
    exact ⟨.ref b, H, I, rfl, q H b (fun _ _ e => e) (by rw [hx, List.nil_append]; exact hb)⟩
  · refine HT.cat_tup p1 p2 (fun z => hx (r1.nil_iff.mp z)) (fun z => ?_) (fun z => ?_) (by rw [← r1.length, ← r2.length]; exact hz)
    · have hy : ys = [] := r2.nil_iff.mp z
      exact ⟨.ref a, H, I, rfl, q H a (fun _ _ e => e) (by rw [hy, List.append_nil]; exact ha)⟩
    · have new := I.hok.fresh (Nat.le_refl s.heap.objs.size)
      refine ⟨.ref s.heap.objs.size, _, I.laid (t' := s.toks) (o := .tup (xs ++ ys)) (fun b ob q => Heap.get?_push_of_some _ q) (Nat.le_refl _) ?_, rfl, q _ _ (same_new new) upd_same⟩
      exact ⟨by rw [List.length_append]; exact hz, _, r1.append r2, IsTup.new _ _⟩
/-- (z,) * k -/
def rRepT : R2 := fun x y H Q => ∃ (a : Addr) (z : V) (k : Nat), x = .ref a ∧ y = .int (k : Int) ∧ H a = some (.tup [z]) ∧ k ≤ 1000 ∧ ∀ (H' : Hp) (p : Addr), Same H H' → H' p = some (.tup (List.replicate k z)) → Q (.ref p) H'
theorem flat_one {α : Type} (z : α) : ∀ k : Nat, (List.replicate k [z]).flatten = List.replicate k z
  | 0 => rfl
  | k + 1 => by rw [List.replicate_succ, List.flatten_cons, flat_one z k]; rfl
theorem vals_rep {z : V} {u : Value} (h : RelV z u) : ∀ k : Nat, Vals (List.replicate k z) (List.replicate k u)
  | 0 => .nil
  | k + 1 => by rw [List.replicate_succ, List.replicate_succ]; exact .cons h (vals_rep h k)
theorem op_repT : OpR X (binaryOp .Mult) rRepT := by
  intro pins s σ H x y v u Q I rx ry h
  obtain ⟨a, z, k, rfl, rfl, ha, hk, q⟩ := h
  cases rx
  obtain ⟨t, rfl⟩ := ry
  obtain ⟨its, r1, p1, _⟩ := I.tuple (SqT.of (K := X.K) ha)
  obtain ⟨⟨cls, dd, data, sl⟩, ho, hc, n, hd⟩ := id p1
  simp only at hc hd
  subst hc hd
  obtain ⟨u0, rfl, ru⟩ : ∃ u0, its = [u0] ∧ RelV z u0 := by
    cases r1 with
    | cons h1 h2 => cases h2; exact ⟨_, rfl, h1⟩
  have new := I.hok.fresh (Nat.le_refl s.heap.objs.size)
  have big : 1000 ≤ sizeLine := by decide
  match k, hk, q with
  | 0, _, q =>
    refine mul_tup_none ho rfl ⟨.ref s.heap.objs.size, _, I.laid (t' := s.toks) (o := .tup []) (fun b ob q => Heap.get?_push_of_some _ q) (Nat.le_refl _) ?_, rfl, q _ _ (same_new new) upd_same⟩
    exact ⟨Nat.zero_le _, [], .nil, IsTup.new _ _⟩
  | 1, _, q => exact mul_tup_same ho ⟨.ref a, H, I, rfl, q H a (fun _ _ e => e) ha⟩
  | k + 2, hk, q =>
    have et : ((k + 2 : Nat) : Int).toNat = k + 2 := rfl
    have ef : (List.replicate ((k + 2 : Nat) : Int).toNat [u0].toArray).foldl (fun x1 x2 => x1 ++ x2) #[] = (List.replicate (k + 2) u0).toArray := by
      have := foldl_rep [u0] (k + 2) []
      rw [List.nil_append, flat_one] at this
      exact this
    refine mul_tup_more ho rfl (by omega) (by omega) ?_ (by rw [ef, List.size_toArray, List.length_replicate]; omega) ?_
    · rw [et]
      show 1 * (k + 2) ≤ sizeLine
      omega
    · rw [ef]
      refine ⟨.ref s.heap.objs.size, _, I.laid (t' := s.toks) (o := .tup (List.replicate (k + 2) z)) (fun b ob q => Heap.get?_push_of_some _ q) (Nat.le_refl _) ?_, rfl, q _ _ (same_new new) upd_same⟩
      exact ⟨by rw [List.length_replicate]; omega, _, vals_rep ru (k + 2), IsTup.new _ _⟩
/-- min of a list of tuples of ints -/
def rMinT (K : PySem.W.Frag) : List V → Hp → VK → Prop := fun vs H Q => ∃ (a : Addr) (bs : List Addr) (rs : List (List Int)), vs = [V.ref a] ∧ SqL K H a (bs.map V.ref) ∧ Paired (fun b ns => SqT K H b (ns.map V.int)) bs rs ∧ 0 < bs.length ∧
  ∀ b, bs[argBest (fun i j => HT.lexLt (rs.getD i []) (rs.getD j [])) (bs.length - 1)]? = some b → Q (.ref b) H
theorem vals_refs : ∀ {bs : List Addr} {us : List Value}, Vals (bs.map V.ref) us → us = bs.map Value.ref
  | [], us, h => by
    rw [List.map_nil] at h
    cases h
    rfl
  | b :: bs, us, h => by
    rw [List.map_cons] at h
    cases h with
    | cons r t =>
      cases r
      rw [vals_refs t, List.map_cons]
theorem cr_minT (hc : X.calm = true) (hu : X.A.units + 1 < cLine) : CallR X (.builtin "min") (rMinT X.K) := by
  intro pins s σ H vs us Q I r h
  obtain ⟨a, bs, rs, rfl, hs, hp, hne, q⟩ := h
  obtain ⟨its, rvs, hl, _⟩ := I.list hs
  rw [Vals.ref1 r]
  have ei := vals_refs rvs
  subst ei
  have ha : a < s.heap.objs.size := by
    obtain ⟨_, e, _⟩ := hl.isList
    exact Heap.lt_size e
  have tup : ∀ (i : Nat) (b : Addr) (ns : List Int), bs[i]? = some b → rs[i]? = some ns → ∃ us : List Value, IsTup s.heap b us.toArray ∧ IntsAre us ns := fun i b ns e1 e2 => by
    obtain ⟨ns', e3, e4⟩ := paired_get hp e1
    rw [e2] at e3
    cases e3
    obtain ⟨us, r2, p2, _⟩ := I.tuple e4
    exact ⟨us, p2, r2.ints⟩
  have hb : ∀ b ∈ bs, b < s.heap.objs.size := fun b m => by
    obtain ⟨i, hi, e⟩ := List.getElem_of_mem m
    have e1 : bs[i]? = some b := by rw [List.getElem?_eq_getElem hi, e]
    obtain ⟨ns, e2, _⟩ := paired_get hp e1
    obtain ⟨us, ⟨o, ho, _⟩, _⟩ := tup i b ns e1 e2
    exact Heap.lt_size ho
  refine min_told (wpAny_pyIter_list hl.isList ?_)
  have W := Walks.list (prog := X.prog) (w := X.w) (A := X.A.in1) (I.ok.hd hc) s.heap.objs.size a (Nat.ne_of_lt ha) (bs.map Value.ref).toArray
  let Ok : Heap → Prop := fun h => ∀ (i : Nat) (b : Addr) (ns : List Int), bs[i]? = some b → rs[i]? = some ns → ∃ us : List Value, IsTup h b us.toArray ∧ IntsAre us ns
  have okk : ∀ h h' : Heap, Ok h → (∀ b ∈ bs, ∀ o, h.get? b = some o → h'.get? b = some o) → Ok h' := fun h h' k1 k2 i b ns e1 e2 => by
    obtain ⟨us, ⟨o, ho, r⟩, z⟩ := k1 i b ns e1 e2
    exact ⟨us, ⟨o, k2 b (List.mem_of_getElem? e1) o ho, r⟩, z⟩
  have W2 : Walks X.prog X.w X.A.in1 s.heap.objs.size ([s.heap.objs.size, a] ++ bs) [s.heap.objs.size] (bs.map Value.ref).toArray.size (fun i v => (bs.map Value.ref).toArray[i]? = some v) (fun i h => (h.IsListIter s.heap.objs.size a i ∧ h.IsList a (bs.map Value.ref).toArray) ∧ Ok h) :=
    { sub := fun b m => List.mem_append_left _ (W.sub b m)
      frame := fun i h h' st k => ⟨W.frame i h h' st.1 fun b m => k b (List.mem_append_left _ m), okk h h' st.2 fun b m => k b (List.mem_append_right _ m)⟩
      item := fun i s' Q E hi st hQ => W.item i s' Q E hi st.1 fun v h' tk pv st' hk => hQ v h' tk pv ⟨st', okk _ _ st.2 fun b m o e => hk b o (fun z => Nat.ne_of_lt (hb b m) (List.mem_singleton.mp z)) e⟩ hk
      done := fun s' Q E st hQ => W.done s' Q E st.1 hQ
      self := fun i s' Q E st hQ => W.self i s' Q E st.1 hQ }
  refine ⟨s.heap.objs.size, _, _, _, _, _, fun i j => HT.lexLt (rs.getD i []) (rs.getD j []), rfl, W2, ⟨⟨⟨_, Heap.get?_push_size _ rfl, rfl, rfl⟩, hl.isList.push _⟩, okk _ _ tup fun b _ o e => Heap.get?_push_of_some _ e⟩, fun b m => ?_, by simpa using hne, ?_, ?_⟩
  · show b < (s.heap.push _).objs.size
    rw [Heap.size_push]
    rcases List.mem_append.mp m with m | m
    · rcases List.mem_cons.mp m with e | m
      · rw [e]
        exact Nat.lt_succ_self _
      · rw [List.mem_singleton.mp m]
        exact Nat.lt_succ_of_lt ha
    · exact Nat.lt_succ_of_lt (hb b m)
  · intro k i j va vb s' Q E st pa pb hq
    obtain ⟨b1, e1, rfl⟩ : ∃ b, bs[i]? = some b ∧ va = Value.ref b := by
      have : (bs.map Value.ref)[i]? = some va := by simpa using pa
      rw [List.getElem?_map] at this
      cases e : bs[i]? with
      | none => rw [e] at this; cases this
      | some b => rw [e] at this; exact ⟨b, rfl, (Option.some.inj this).symm⟩
    obtain ⟨b2, e2, rfl⟩ : ∃ b, bs[j]? = some b ∧ vb = Value.ref b := by
      have : (bs.map Value.ref)[j]? = some vb := by simpa using pb
      rw [List.getElem?_map] at this
      cases e : bs[j]? with
      | none => rw [e] at this; cases this
      | some b => rw [e] at this; exact ⟨b, rfl, (Option.some.inj this).symm⟩
    obtain ⟨n1, f1, _⟩ := paired_get hp e1
    obtain ⟨n2, f2, _⟩ := paired_get hp e2
    obtain ⟨u1, t1, i1⟩ := st.2 i b1 n1 e1 f1
    obtain ⟨u2, t2, i2⟩ := st.2 j b2 n2 e2 f2
    have g1 : rs.getD i [] = n1 := by rw [List.getD_eq_getElem?_getD, f1]; rfl
    have g2 : rs.getD j [] = n2 := by rw [List.getD_eq_getElem?_getD, f2]; rfl
    have hq' : Q (.bool (HT.lexLt (rs.getD i []) (rs.getD j []))) s' := hq
    rw [g1, g2] at hq'
    exact HT.lt_tupInts t1 t2 i1 i2 (by show X.A.units + 1 < cLine; exact hu) hq'
  · intro v h' tk pv hk
    have ev : (bs.map Value.ref)[argBest (fun i j => HT.lexLt (rs.getD i []) (rs.getD j [])) (bs.length - 1)]? = some v := by simpa using pv
    rw [List.getElem?_map] at ev
    cases e : bs[argBest (fun i j => HT.lexLt (rs.getD i []) (rs.getD j [])) (bs.length - 1)]? with
    | none => rw [e] at ev; cases ev
    | some b =>
      rw [e] at ev
      obtain rfl : Value.ref b = v := Option.some.inj ev
      refine ⟨.ref b, H, I.kept (fun c o ec => hk c o (fun z => ?_) (Heap.get?_push_of_some _ ec)), rfl, q b e⟩
      have := Heap.lt_size ec
      rw [List.mem_singleton.mp z] at this
      exact Nat.lt_irrefl _ this
/-- a value's truth, the fragment named (inside a block) -/
theorem pt_truthK {a : Expr} {ta : TE} (K : PySem.W.Frag) (hK : X.K = K) (ha : PE X a ta) (he : ∀ whole, isTrue a X.env whole = (do let v ← whole; standAt a.pos; holding [v] (truthy v))) :
    PT X a (fun σ H Q => ta σ H fun x H' => ∃ k, TruV K x H' k ∧ Q k H') := by
  subst hK
  exact pt_truth ha he
/-- over the keys of a dict that is locked -/
theorem lc_keysT {d : Addr} {o : Obj} {kvs : List (List Key × V)} {g : TG} {tt : TT} {te : TE} {vs : List Nat} {σ : St} {H1 : Hp} {D : Addr} {Qd : Hp → Prop} (Pv : Nat → Hp → Prop) (h0 : Pv 0 (upd H1 D (.lst [])))
    (hl : ∀ i H, i ≤ kvs.length → Pv i H → H d = some (.frz o (.dT kvs)))
    (hs : ∀ i k v q H, kvs[i]? = some (k, v) → KeyAt H q k → Pv i H → g (.ref q) (wipe σ vs) H fun σ2 H2 => wipe σ2 vs = wipe σ vs ∧ tt σ2 H2 fun b H3 =>
      if b = true then te σ2 H3 fun y H4 => ∃ acc, H4 D = some (.lst acc) ∧ acc.length < sizeLine ∧ Pv (i + 1) (upd H4 D (.lst (acc ++ [y]))) else Pv (i + 1) H3) (hd : ∀ H, Pv kvs.length H → Qd H) :
    ∃ W : Nat → Nat → Hp → Prop, (∃ m, W 0 m (upd H1 D (.lst []))) ∧ ∀ i m H, W i m H →
      ((Itkt d o kvs).stop i H ∧ Qd H) ∨ ((Itkt d o kvs).go i H ∧ ∃ Nx : Hp → Prop, (∀ H', Nx H' → ∃ m', m' < m ∧ W (i + 1) m' H') ∧ ∀ x H', (Itkt d o kvs).yld i H x H' → g x (wipe σ vs) H' fun σ2 H2 => wipe σ2 vs = wipe σ vs ∧ tt σ2 H2 fun b H3 =>
        if b = true then te σ2 H3 fun y H4 => ∃ acc, H4 D = some (.lst acc) ∧ acc.length < sizeLine ∧ Nx (upd H4 D (.lst (acc ++ [y]))) else Nx H3) := by
  refine ⟨fun i m H => m + i = kvs.length ∧ Pv i H, ⟨kvs.length, by omega, h0⟩, ?_⟩
  rintro i m H ⟨em, p⟩
  have fr := hl i H (by omega) p
  by_cases z : i < kvs.length
  · refine .inr ⟨⟨fr, z⟩, Pv (i + 1), fun H' p' => ⟨m - 1, by omega, by omega, p'⟩, fun x H' y => ?_⟩
    obtain ⟨e, k, v, b, hk, ex, hb⟩ := y
    subst e ex
    exact hs i k v b _ hk hb p
  · have e : i = kvs.length := by omega
    rw [e] at p
    exact .inl ⟨⟨fr, by omega⟩, hd H p⟩
end
end L2
end
section
set_option Elab.async false
set_option linter.all false
set_option maxRecDepth 100000
set_option maxHeartbeats 2000000
namespace Tp
open PySem PySem.Spec PyProof.Rows L2
def spRAll (C : Addr) : Sp := fun vs H Q _ => ∃ (x : Addr) (r : List Nat), vs = [.ref x] ∧ ReachFin C H x r ∧ TF.Fine r ∧ Q (.int ((Uw88.comes r).length : Nat)) H
def spRStuck (C : Addr) : Sp := fun vs H Q _ => ∃ (x : Addr) (r : List Nat), vs = [.ref x] ∧ ReachFin C H x r ∧ TF.Fine r ∧
  ∀ (H' : Hp) (p : Addr) (as : List Addr), Same H H' → H' p = some (.lst (as.map V.ref)) → RowsAt H' as (Uw88.stucks r) → Q (.ref p) H'
def spRLong (C : Addr) : Sp := fun vs H Q _ => ∃ (x : Addr) (r : List Nat), vs = [.ref x] ∧ ReachFin C H x r ∧ TF.Fine r ∧
  ∀ (H' : Hp) (p : Addr), Same H H' → H' p = some (.lst (rv (Uw88.longest r))) → (Uw88.longest r).length ≤ 108 → Q (.ref p) H'
section
variable {P : Program} {w : World} {K : PySem.W.Frag} {mg : Str → Option Value} {base : Heap}
theorem scRAll : FnScope ["self"] ["self"] (defScope sRAll) := ⟨rfl, rfl, rfl, by decide +kernel, rfl, by decide +kernel, by decide +kernel⟩
theorem ok_rall {f C : Addr} {fd : FuncData} (F : Fun K "rows_in_all" "Reach.rows_in_all" sRAll f fd) (T : Txt K mg) (R : ClsR K mg C) : FnOk P w K mg base CX0 1 f fd ["self"] (spRAll C) := by
  refine F.ok scRAll (fun vs H Q E h => ?_) (fun cdv A outer s H vs Q E hr h => ?_)
  · obtain ⟨x, r, rfl, _⟩ := h
    rfl
  · obtain ⟨x, r, rfl, ⟨dx, c, l, a9, k, t9, rest9, hL9, hk, RA, ha9⟩, fi, q⟩ := h
    refine ⟨_, pss_one (ps_ret (pe_callB call_lenT (by rfl) T.len PySem.boot_len (pa_cons (pe_fld (pv 0) rfl) pa_nil))), ?_⟩
    refine ⟨_, rfl, x, C, dx, _, _, rfl, RA.self, R.cl, R.nC, rf_c c l (some a9), c, _, rfl, RA.cnt, ?_⟩
    rw [List.length_map, ← TF.comes_len fi.len hk]
    exact q
theorem scRLong : FnScope ["self"] ["self"] (defScope sRLong) := ⟨rfl, rfl, rfl, by decide +kernel, rfl, by decide +kernel, by decide +kernel⟩
theorem ok_rlong {f fW C : Addr} {fd dW : FuncData} (F : Fun K "longest_way" "Reach.longest_way" sRLong f fd) (R : ClsR K mg C)
    (mW : Meth K C "first_way" fW) (bW : Binds K dW ["self", "row"] []) (GW : FnOk P w K mg base CX0 1 fW dW ["self", "row"] (spFirst C)) : FnOk P w K mg base CX0 2 f fd ["self"] (spRLong C) := by
  refine F.ok scRLong (fun vs H Q E h => ?_) (fun cdv A outer s H vs Q E hr h => ?_)
  · obtain ⟨x, r, rfl, _⟩ := h
    rfl
  · obtain ⟨x, r, rfl, RF, fi, q⟩ := h
    obtain ⟨dx, c, l, a9, k, t9, rest9, hL9, hk, RA, ha9⟩ := id RF
    refine ⟨_, pss_one (ps_ret (pe_meth (pv 0) R.cl mW GW hr bW .nil pass0 (pa_cons (pe_fld (pv 0) rfl) pa_nil))), ?_⟩
    have hc : TF.cnt t9 r ≠ 0 := TF.cnt_pos.mpr ⟨k, TF.mem_L.mp (by rw [hL9]; exact List.mem_cons_self ..)⟩
    refine ⟨_, rfl, x, dx, _, rfl, RA.self, rf_no c l (some a9) (by decide) (by decide) (by decide), _, rfl, x, C, dx, _, _, rfl, RA.self, R.cl, R.nF, rf_f c l a9, x, a9, r, t9, rfl, RF, fi, ha9, hc, fun H' p s hp0 hp => ?_⟩
    have el := (TF.longest_end fi.len hL9 hk).1
    rw [← el] at hp
    have wl := TF.way_len fi.len hc
    rw [← el] at wl
    exact q H' p s hp wl
theorem scRStuck : FnScope ["self", "row"] ["self"] (defScope sRStuck) := ⟨rfl, rfl, rfl, by decide +kernel, rfl, by decide +kernel, by decide +kernel⟩
theorem ok_rstuck {f fM C : Addr} {fd dM : FuncData} (F : Fun K "stuck_rows" "Reach.stuck_rows" sRStuck f fd) (T : Txt K mg) (R : ClsR K mg C) (DM : Def K mg "stones_to_move" sMoves ["row"] fM dM)
    (GM : FnOk P w K mg base CX0 3 fM dM ["row"] (spMoves K)) : FnOk P w K mg base CX0 4 f fd ["self"] (spRStuck C) := by
  refine F.ok scRStuck (fun vs H Q E h => ?_) (fun cdv A outer s H vs Q E hr h => ?_)
  · obtain ⟨x, r, rfl, _⟩ := h
    rfl
  · obtain ⟨x, r, rfl, ⟨dx, c, l, a9, k, t9, rest9, hL9, hk, RA, ha9⟩, fi, q⟩ := h
    refine ⟨_, pss_one (ps_ret (pe_lock (pe_lc (own := [("row", 1)]) rfl scRStuck.nd (pi_keys (pe_fld (pv 0) rfl)) (blkOk_by (by show blkC ["self", "row"] (defScope sRStuck) _ [("row", 1)] = true; decide +kernel))
      (fun s H C cl fp => pg_name (i := 1) scRStuck.nd rfl (Or.inl rfl))
      (fun s H C cl fp => pts_one (pt_not (pt_truthK K rfl (pe_call GM hr (by rfl) DM.g DM.F.kp DM.b .nil pass0 (pa_cons (pv 1) pa_nil)) (fun _ => rfl))))
      (fun s H C cl fp => pv 1)))), ?_⟩
    have nxc : x ≠ c := ne_of RA.self RA.cnt (by intro z; cases z)
    refine ⟨c, _, RA.cnt, trivial, fun od => ?_⟩
    refine ⟨_, rfl, x, C, dx, _, _, rfl, by rw [upd_ne nxc]; exact RA.self, R.cl, R.nC, rf_c c l (some a9), c, od, rfl, .inr ⟨_, upd_same, fun D hD => ?_⟩⟩
    have hkeys := TF.stucks_end fi.len hk
    have few := TF.cts_few fi (k + 1)
    have ncD : c ≠ D := fun z => by rw [← z, upd_same] at hD; cases hD
    have hD0 : H D = none := by rw [upd_ne ncD.symm] at hD; exact hD
    refine lc_keysT (fun i H' => ∃ as : List Addr, H' D = some (.lst (as.map V.ref)) ∧ RowsAt H' as ((((TF.cts r (k + 1)).map (·.1)).take i).filter fun t => (Uw88.moves t).isEmpty) ∧
      H' c = some (.frz od (.dT ((TF.cts r (k + 1)).map ckv))) ∧ ∀ b o, H b = some o → b ≠ c → H' b = some o) ?_ ?_ ?_ ?_
    · refine ⟨[], upd_same, by rw [List.take_zero]; exact .nil, by rw [upd_ne ncD, upd_same], fun b o e n => ?_⟩
      rw [upd_ne (ne_of_none e hD0), upd_ne n]
      exact e
    · rintro i H' _ ⟨_, _, _, h3, _⟩
      exact h3
    · rintro i ky v qa H' hi hq ⟨as, h1, h2, h3, h4⟩
      obtain ⟨⟨t, n⟩, ht, e0⟩ : ∃ p, (TF.cts r (k + 1))[i]? = some p ∧ ckv p = (ky, v) := by
        rw [List.getElem?_map] at hi
        cases e : (TF.cts r (k + 1))[i]? with
        | none => rw [e] at hi; cases hi
        | some p => rw [e] at hi; exact ⟨p, rfl, Option.some.inj hi⟩
      obtain ⟨ek, ev⟩ : rowKey t = ky ∧ V.int (n : Int) = v := by
        cases e0
        exact ⟨rfl, rfl⟩
      subst ek ev
      have hrow : RowAt H' qa t := hq
      obtain ⟨j, _, hj⟩ := TF.cts_mem r (k + 1) (List.mem_of_getElem? ht)
      have ft : TF.Fine t := TF.E_fine j fi hj
      have hkt : ((TF.cts r (k + 1)).map (·.1))[i]? = some t := by rw [List.getElem?_map, ht]; rfl
      have et := TF.take_snoc hkt
      have ef : (((TF.cts r (k + 1)).map (·.1)).take (i + 1)).filter (fun t => (Uw88.moves t).isEmpty) = ((((TF.cts r (k + 1)).map (·.1)).take i).filter fun t => (Uw88.moves t).isEmpty) ++ (if (Uw88.moves t).isEmpty = true then [t] else []) := by
        rw [et, List.filter_append, List.filter_cons, List.filter_nil]
      refine ⟨rfl, _, rfl, qa, t, rfl, RowAt.sqT T hrow, ft, fun p hp => ?_⟩
      have npD : p ≠ D := fun z => by rw [z, h1] at hp; cases hp
      have npc : p ≠ c := fun z => by rw [z, h3] at hp; cases hp
      have tu : Tups H' (upd H' p (.lst (rv (Uw88.moves t)))) := fun b xs e => by
        rw [upd_ne (ne_of_none e hp)]
        exact e
      refine ⟨!(rv (Uw88.moves t)).isEmpty, .inl ⟨_, SqL.of upd_same, rfl⟩, ?_⟩
      have eb : (rv (Uw88.moves t)).isEmpty = (Uw88.moves t).isEmpty := by
        unfold rv
        cases Uw88.moves t <;> rfl
      rw [eb]
      have keep9 : ∀ X b o, H b = some o → b ≠ c → upd (upd H' p (.lst (rv (Uw88.moves t)))) D X b = some o := fun X b o e n => by
        rw [upd_ne (ne_of_none e hD0), upd_ne (ne_of_none (h4 b o e n) hp)]
        exact h4 b o e n
      cases em : (Uw88.moves t).isEmpty with
      | true =>
        rw [em, if_pos rfl] at ef
        refine iteT ⟨_, rfl, as.map V.ref, by rw [upd_ne npD.symm]; exact h1, ?_, as ++ [qa], ?_, ?_, ?_, ?_⟩
        · rw [List.length_map, Paired.length h2]
          refine line_of9 (Nat.le_trans (List.length_filter_le _ _) ?_)
          rw [List.length_take, List.length_map]
          omega
        · rw [upd_same, List.map_append]
          rfl
        · rw [ef]
          have tu2 : ∀ X, Tups H' (upd (upd H' p (.lst (rv (Uw88.moves t)))) D (.lst X)) := fun X b xs e => by
            rw [upd_ne (ne_of e h1 (by intro z; cases z))]
            exact tu b xs e
          exact Paired.snoc (RowsAt.tups h2 (tu2 _)) (RowAt.tups hrow (tu2 _))
        · rw [upd_ne ncD, upd_ne npc.symm]
          exact h3
        · exact keep9 _
      | false =>
        rw [em, if_neg (by decide), List.append_nil] at ef
        refine iteF ⟨as, by rw [upd_ne npD.symm]; exact h1, ?_, by rw [upd_ne npc.symm]; exact h3, fun b o e n => ?_⟩
        · rw [ef]
          exact RowsAt.tups h2 tu
        · rw [upd_ne (ne_of_none (h4 b o e n) hp)]
          exact h4 b o e n
    · rintro H' ⟨as, h1, h2, h3, h4⟩
      refine ⟨h3, q _ D as (fun b o e => ?_) ?_ ?_⟩
      · by_cases z : b = c
        · rw [z, upd_same, ← RA.cnt, ← z]
          exact e
        · rw [upd_ne z]
          exact h4 b o e z
      · rw [upd_ne ncD.symm]
        exact h1
      · rw [hkeys]
        rw [List.length_map, ← List.length_map (f := (·.1)), List.take_length] at h2
        refine RowsAt.tups h2 fun b xs e => ?_
        rw [upd_ne (ne_of e h3 (by intro z; cases z))]
        exact e
end
end Tp
end
section
set_option Elab.async false
set_option linter.all false
set_option maxRecDepth 100000
set_option maxHeartbeats 2000000
namespace Tp
open PySem PySem.Spec PyProof.Rows L2
abbrev sPond : Stmt := top 35
abbrev sPInit : Stmt := inClass sPond 0
abbrev sPRow : Stmt := inClass sPond 1
abbrev sPMove : Stmt := inClass sPond 2
abbrev sPMoves : Stmt := inClass sPond 3
abbrev sPShows : Stmt := inClass sPond 4
abbrev sPFits : Stmt := inClass sPond 5
abbrev sPTo : Stmt := inClass sPond 6
abbrev sPWays : Stmt := inClass sPond 7
abbrev sPComes : Stmt := inClass sPond 8
abbrev sPStucks : Stmt := inClass sPond 9
abbrev sPLongest : Stmt := inClass sPond 10
abbrev sPStill : Stmt := inClass sPond 11
abbrev sPSafe : Stmt := inClass sPond 12
def pf (a : Addr) : List (Str × V) := putF "held" (.ref a) []
theorem pf_h (a : Addr) : (pf a).lookup ("held" : Str) = some (.ref a) := by
  unfold pf
  rw [lookup_putF, if_pos rfl]
theorem pf_no (a : Addr) {m : Str} (h : ¬ m = "held") : (pf a).lookup m = none := by
  unfold pf
  rw [lookup_putF, if_neg h]
  rfl
theorem pf_put (a b : Addr) : putF "held" (.ref b) (pf a) = pf b := by
  unfold pf
  rfl
def PondAt (C : Addr) (H : Hp) (x dx : Addr) (r : List Nat) : Prop := ∃ a, H x = some (.ins C dx (pf a)) ∧ RowAt H a r
def Keep (H H' : Hp) (x : Addr) : Prop := ∀ b o, H b = some o → b ≠ x → H' b = some o
theorem Same.keep {H H' : Hp} {x : Addr} (s : Same H H') : Keep H H' x := fun b o e _ => s b o e
theorem PondAt.same {C : Addr} {H H' : Hp} {x dx : Addr} {r : List Nat} (h : PondAt C H x dx r) (s : Same H H') : PondAt C H' x dx r := by
  obtain ⟨a, h1, h2⟩ := h
  exact ⟨a, s _ _ h1, RowAt.same h2 s⟩
/-- the class Pond as the text has it -/
structure ClsP (K : PySem.W.Frag) (mg : Str → Option Value) (C : Addr) : Prop where
  cl : Cls K C
  nH : NoAttr K C "held"
  mgC : mg "Pond" = some (.ref C)
def iv (l : List Int) : List V := l.map V.int
theorem iv_ints (l : List Nat) : iv (Uw88.ints l) = rv l := by
  unfold iv Uw88.ints rv
  rw [List.map_map]
  rfl
/-- what a call gives back -/
def Ret (C x dx : Addr) (H : Hp) (r : List Nat) (c : Uw88.Call) (Q : VK) : Prop := ∀ (H' : Hp) (p : Addr), PondAt C H' x dx (Uw88.step r c).1 → H p = none → H' p = some (.lst (iv (Uw88.step r c).2)) → Keep H H' x → Q (.ref p) H'
def spPInit (C : Addr) : Sp := fun vs H Q _ => ∃ (x dx : Addr), vs = [.ref x] ∧ H x = some (.ins C dx []) ∧ ∀ H' : Hp, PondAt C H' x dx Uw88.init → Keep H H' x → Q .non H'
def spP0 (C : Addr) (c : Uw88.Call) : Sp := fun vs H Q _ => ∃ (x dx : Addr) (r : List Nat), vs = [.ref x] ∧ PondAt C H x dx r ∧ Uw88.isRow r = true ∧ Ret C x dx H r c Q
def spPMove (C : Addr) : Sp := fun vs H Q _ => ∃ (x dx : Addr) (r : List Nat) (i : Nat), vs = [.ref x, .int (i : Int)] ∧ PondAt C H x dx r ∧ Uw88.isRow r = true ∧ Ret C x dx H r (.move i) Q
def spPL (K : PySem.W.Frag) (C : Addr) (mk : List Nat → Uw88.Call) : Sp := fun vs H Q _ => ∃ (x dx : Addr) (r : List Nat) (y : Addr) (l : List Nat), vs = [.ref x, .ref y] ∧ PondAt C H x dx r ∧ Uw88.isRow r = true ∧ H y = some (.lst (rv l)) ∧ Ret C x dx H r (mk l) Q
def spFits (C : Addr) : Sp := fun vs H Q _ => ∃ (x dx : Addr) (r : List Nat) (y : Addr) (l : List Nat), vs = [.ref x, .ref y] ∧ PondAt C H x dx r ∧ H y = some (.lst (rv l)) ∧ Q (.bl (TF.fits r l)) H
section
variable {P : Program} {w : World} {K : PySem.W.Frag} {mg : Str → Option Value} {base : Heap}
theorem scPInit : FnScope ["self"] ["self"] (defScope sPInit) := ⟨rfl, rfl, rfl, by decide +kernel, rfl, by decide +kernel, by decide +kernel⟩
theorem ok_pinit {f C : Addr} {fd : FuncData} (F : Fun K "__init__" "Pond.__init__" sPInit f fd) (T : Txt K mg) (R : ClsP K mg C) : FnOk P w K mg base CX0 1 f fd ["self"] (spPInit C) := by
  refine F.ok scPInit (fun vs H Q E h => ?_) (fun cdv A outer s H vs Q E hr h => ?_)
  · obtain ⟨x, dx, rfl, _⟩ := h
    rfl
  · obtain ⟨x, dx, rfl, hx, q⟩ := h
    refine ⟨_, pss_one (ps_fld (pv 0) (pe_glob (v := .ref begAddr) (by rfl) T.BEG rfl) rfl), ?_⟩
    refine ⟨_, rfl, x, C, dx, [], rfl, hx, R.cl, R.nH, (by show 0 < 1000; decide), ?_⟩
    exact q _ ⟨begAddr, upd_same, .inr ⟨rfl, rfl⟩⟩ fun b o e n => by rw [upd_ne n]; exact e
theorem one_int {C : Addr} {H : Hp} {x dx : Addr} {r : List Nat} {c : Uw88.Call} {Q : VK} {z : Int} (hp : PondAt C H x dx r) (q : Ret C x dx H r c Q) (e : Uw88.step r c = (r, [z])) : ∀ p, H p = none → Q (.ref p) (upd H p (.lst [V.int z])) := fun p hn => by
  refine q _ p ?_ hn ?_ (Same.keep (Same.upd_new hn))
  · rw [e]
    exact hp.same (Same.upd_new hn)
  · rw [e]
    exact upd_same
theorem scPRow : FnScope ["self", "stones"] ["self", "stones"] (defScope sPRow) := ⟨rfl, rfl, rfl, by decide +kernel, rfl, by decide +kernel, by decide +kernel⟩
theorem ok_prow {f fI fM C : Addr} {fd dI dM : FuncData} (F : Fun K "row" "Pond.row" sPRow f fd) (T : Txt K mg) (R : ClsP K mg C) (DI : Def K mg "is_row" sIsRow ["stones"] fI dI) (DM : Def K mg "stones_to_move" sMoves ["row"] fM dM)
    (GM : FnOk P w K mg base CX0 3 fM dM ["row"] (spMoves K)) : FnOk P w K mg base CX0 4 f fd ["self", "stones"] (spPL K C .row) := by
  have GI : FnOk P w K mg base CX0 1 fI dI ["stones"] (spIsRow K) := ok_isrow DI.F T
  refine F.ok scPRow (fun vs H Q E h => ?_) (fun cdv A outer s H vs Q E hr h => ?_)
  · obtain ⟨x, dx, r, y, l, rfl, _⟩ := h
    rfl
  · obtain ⟨x, dx, r, y, l, rfl, hp, gr, hy, q⟩ := h
    have hr1 : Room 1 _ := hr.mono (by decide)
    refine ⟨_, pss_cons (ps_if (pt_not (pt_val (pe_call GI hr1 (by rfl) DI.g DI.F.kp DI.b .nil pass0 (pa_cons (pv 1) pa_nil)))) (pss_one (ps_ret (pe_lst (pa_cons (pe_gi T.NOTTHERE (by rfl)) pa_nil)))) pss_nil)
      (pss_cons (ps_fld (pv 0) (pe_callTy call_tuple_of (by rfl) T.tuple PyProof.Rows.boot_tuple (pa_cons (pv 1) pa_nil)) rfl)
      (pss_one (ps_ret (pe_lst (pa_cons (pe_callB call_len_seq (by rfl) T.len PySem.boot_len (pa_cons (pe_call GM hr (by rfl) DM.g DM.F.kp DM.b .nil pass0 (pa_cons (pe_fld (pv 0) rfl) pa_nil)) pa_nil)) pa_nil))))), ?_⟩
    obtain ⟨a, hx, ha⟩ := id hp
    refine ⟨_, rfl, y, l, rfl, SqL.of hy, _, rfl, ?_⟩
    cases e : Uw88.isRow l with
    | false => exact iteT ⟨(by show 1 ≤ sizeLine; decide), one_int hp q (TF.step_row_no e)⟩
    | true =>
      refine iteF ?_
      have st := TF.step_row_yes (r := r) e
      have nxy : x ≠ y := ne_of hx hy (by intro z; cases z)
      refine ⟨_, rfl, y, _, rfl, .inl ⟨SqL.of hy, fun t ht => ?_⟩⟩
      have nxt : x ≠ t := ne_of_none hx ht
      refine ⟨_, rfl, x, C, dx, _, rfl, by rw [upd_ne nxt]; exact hx, R.cl, R.nH, (by show 1 < 1000; decide), ?_⟩
      rw [pf_put]
      refine ⟨_, rfl, x, C, dx, _, _, rfl, upd_same, R.cl, R.nH, pf_h t, t, l, rfl, SqT.of (by rw [upd_ne nxt.symm, upd_same]), TF.isRow_fine e, fun p hp2 => ?_⟩
      have npx : p ≠ x := fun z => by rw [z, upd_same] at hp2; cases hp2
      have npt : p ≠ t := fun z => by rw [upd_ne npx, z, upd_same] at hp2; cases hp2
      have hp0 : H p = none := by rw [upd_ne npx, upd_ne npt] at hp2; exact hp2
      refine ⟨p, _, rfl, .inl (SqL.of upd_same), (by show 1 ≤ sizeLine; decide), fun z hz => ?_⟩
      have nzp : z ≠ p := fun e => by rw [e, upd_same] at hz; cases hz
      have nzx : z ≠ x := fun e => by rw [upd_ne nzp, e, upd_same] at hz; cases hz
      have nzt : z ≠ t := fun e => by rw [upd_ne nzp, upd_ne nzx, e, upd_same] at hz; cases hz
      have hz0 : H z = none := by rw [upd_ne nzp, upd_ne nzx, upd_ne nzt] at hz; exact hz
      refine q _ z ?_ hz0 ?_ fun b o eb nb => ?_
      · rw [st]
        refine ⟨t, ?_, .inl ?_⟩
        · rw [upd_ne nzx.symm, upd_ne npx.symm, upd_same]
        · rw [upd_ne nzt.symm, upd_ne npt.symm, upd_ne nxt.symm, upd_same, rowKey_kV]
      · rw [st, upd_same, rv_len]
        rfl
      · rw [upd_ne (ne_of_none eb hz0), upd_ne (ne_of_none eb hp0), upd_ne nb, upd_ne (ne_of_none eb ht)]
        exact eb
theorem scPMove : FnScope ["self", "stone", "length"] ["self", "stone"] (defScope sPMove) := ⟨rfl, rfl, rfl, by decide +kernel, rfl, by decide +kernel, by decide +kernel⟩
theorem ok_pmove {f fL fA C : Addr} {fd dL dA : FuncData} (F : Fun K "move" "Pond.move" sPMove f fd) (T : Txt K mg) (R : ClsP K mg C) (DL : Def K mg "move_length" sLen ["row", "stone"] fL dL) (DA : Def K mg "row_after" sAfter ["row", "stone"] fA dA)
    (GL : FnOk P w K mg base CX0 2 fL dL ["row", "stone"] (spLen K)) (GA : FnOk P w K mg base CX0 3 fA dA ["row", "stone"] (spAfter K)) : FnOk P w K mg base CX0 4 f fd ["self", "stone"] (spPMove C) := by
  refine F.ok scPMove (fun vs H Q E h => ?_) (fun cdv A outer s H vs Q E hr h => ?_)
  · obtain ⟨x, dx, r, i, rfl, _⟩ := h
    rfl
  · obtain ⟨x, dx, r, i, rfl, hp, gr, q⟩ := h
    have hr2 : Room 2 _ := hr.mono (by decide)
    refine ⟨_, pss_cons (ps_if (pt_cmpR op_ge (pv 1) (pe_callB call_len_seq (by rfl) T.len PySem.boot_len (pa_cons (pe_fld (pv 0) rfl) pa_nil)) (nomark _)) (pss_one (ps_ret (pe_lst (pa_cons (pe_gi T.NOTTHERE (by rfl)) pa_nil)))) pss_nil)
      (pss_cons (ps_if (pt_cmpR op_eq (pe_ix ix_tup (pe_fld (pv 0) rfl) (pv 1) (fun _ _ => rfl)) (pe_gi T.FREE (by rfl)) (nomark _)) (pss_one (ps_ret (pe_lst (pa_cons (pe_gi T.ISFREE (by rfl)) pa_nil)))) pss_nil)
      (pss_cons (ps_set (i := 2) scPMove.nd rfl (Or.inl rfl) (pe_call GL hr2 (by rfl) DL.g DL.F.kp DL.b .nil pass0 (pa_cons (pe_fld (pv 0) rfl) (pa_cons (pv 1) pa_nil))))
      (pss_cons (ps_if (pt_cmpR op_eq (pv 2) (pe_gi T.NOMOVE (by rfl)) (nomark _)) (pss_one (ps_ret (pe_lst (pa_cons (pe_gi T.CANTMOVE (by rfl)) pa_nil)))) pss_nil)
      (pss_cons (ps_fld (pv 0) (pe_call GA hr (by rfl) DA.g DA.F.kp DA.b .nil pass0 (pa_cons (pe_fld (pv 0) rfl) (pa_cons (pv 1) pa_nil))) rfl)
      (pss_one (ps_ret (pe_op op_cat (pe_lst (pa_cons (pv 2) pa_nil)) (pe_callTy call_list_of (by rfl) T.list PyProof.Rows.boot_list (pa_cons (pe_fld (pv 0) rfl) pa_nil))))))))), ?_⟩
    obtain ⟨a, hx, ha⟩ := id hp
    have hs := RowAt.sqT T ha
    have fi := TF.isRow_fine gr
    refine ⟨_, rfl, _, rfl, x, C, dx, _, _, rfl, hx, R.cl, R.nH, pf_h a, a, _, rfl, .inr hs, _, _, rfl, rfl, _, rfl, ite2 (fun c => ?_) (fun c => ?_)⟩
    · have c' : ((rv r).length : Int) ≤ (i : Int) := of_decide_eq_true c
      rw [rv_len] at c'
      exact ⟨(by show 1 ≤ sizeLine; decide), one_int hp q (TF.step_move_no (by omega))⟩
    have c' : ¬ ((rv r).length : Int) ≤ (i : Int) := fun h => c (decide_eq_true h)
    rw [rv_len] at c'
    have hi : i < r.length := by omega
    refine ⟨_, rfl, x, C, dx, _, _, rfl, hx, R.cl, R.nH, pf_h a, _, rfl, a, _, _, _, rfl, rfl, hs, at_of (j := i) rfl (rv_at hi), rfl, _, rfl, ite2 (fun d => ?_) (fun d => ?_)⟩
    · rw [vint] at d
      exact ⟨(by show 1 ≤ sizeLine; decide), one_int hp q (TF.step_move_free hi (by omega))⟩
    rw [vint] at d
    refine ⟨_, rfl, x, C, dx, _, _, rfl, hx, R.cl, R.nH, pf_h a, _, rfl, a, r, i, rfl, hs, hi, fi.small, ?_⟩
    refine ⟨_, rfl, rfl, _, rfl, ite2 (fun e => ?_) (fun e => ?_)⟩
    · rw [vint] at e
      exact ⟨(by show 1 ≤ sizeLine; decide), one_int hp q (TF.step_move_stuck hi (by omega) (by omega))⟩
    rw [vint] at e
    obtain ⟨hm, st⟩ := TF.step_move_yes hi (by omega) (by omega)
    refine ⟨_, rfl, x, C, dx, _, _, rfl, hx, R.cl, R.nH, pf_h a, _, rfl, a, r, i, rfl, hs, hm, fi, fun H2 t s2 ht0 ht => ?_⟩
    have nxt : x ≠ t := ne_of_none hx ht0
    refine ⟨_, rfl, x, C, dx, _, rfl, s2 _ _ hx, R.cl, R.nH, (by show 1 < 1000; decide), ?_⟩
    rw [pf_put]
    refine ⟨_, rfl, (by show 1 ≤ sizeLine; decide), fun l1 hl1 => ?_⟩
    have n1x : l1 ≠ x := fun z => by rw [z, upd_same] at hl1; cases hl1
    have hl1' : H2 l1 = none := by rw [upd_ne n1x] at hl1; exact hl1
    refine ⟨_, rfl, x, C, dx, _, _, rfl, by rw [upd_ne n1x.symm, upd_same], R.cl, R.nH, pf_h t, t, _, rfl, .inr (SqT.of (by rw [upd_ne (ne_of_none ht hl1'), upd_ne nxt.symm]; exact ht)), fun l2 hl2 => ?_⟩
    have n21 : l2 ≠ l1 := fun z => by rw [z, upd_same] at hl2; cases hl2
    have n2x : l2 ≠ x := fun z => by rw [upd_ne n21, z, upd_same] at hl2; cases hl2
    have hl2' : H2 l2 = none := by rw [upd_ne n21, upd_ne n2x] at hl2; exact hl2
    refine ⟨l1, l2, _, _, rfl, rfl, by rw [upd_ne n21.symm, upd_same], upd_same, ?_, fun p hp3 => ?_⟩
    · rw [rv_len, TF.moved_length hm]
      have := fi.len
      show 1 + r.length ≤ sizeLine
      exact Nat.le_of_lt (line_of9 (by omega))
    have np2 : p ≠ l2 := fun z => by rw [z, upd_same] at hp3; cases hp3
    have np1 : p ≠ l1 := fun z => by rw [upd_ne np2, z, upd_same] at hp3; cases hp3
    have npx : p ≠ x := fun z => by rw [upd_ne np2, upd_ne np1, z, upd_same] at hp3; cases hp3
    have hp' : H2 p = none := by rw [upd_ne np2, upd_ne np1, upd_ne npx] at hp3; exact hp3
    refine q _ p ?_ (s2.free hp') ?_ fun b o eb nb => ?_
    · rw [st]
      refine ⟨t, ?_, .inl ?_⟩
      · rw [upd_ne npx.symm, upd_ne n2x.symm, upd_ne n1x.symm, upd_same]
      · rw [upd_ne (ne_of_none ht hp'), upd_ne (ne_of_none ht hl2'), upd_ne (ne_of_none ht hl1'), upd_ne nxt.symm, rowKey_kV]
        exact ht
    · rw [st, upd_same]
      show some (HO.lst (V.int _ :: rv (Uw88.moved r i))) = some (.lst (iv ((TF.mlen r i : Int) :: Uw88.ints (Uw88.moved r i))))
      rw [← iv_ints]
      rfl
    · have hb2 := s2 b o eb
      rw [upd_ne (ne_of_none hb2 hp'), upd_ne (ne_of_none hb2 hl2'), upd_ne (ne_of_none hb2 hl1'), upd_ne nb]
      exact hb2
end
end Tp
end
section
set_option Elab.async false
set_option linter.all false
set_option maxRecDepth 100000
set_option maxHeartbeats 2000000
namespace Tp
open PySem PySem.Spec PyProof.Rows L2
section
variable {P : Program} {w : World} {K : PySem.W.Frag} {mg : Str → Option Value} {base : Heap}
theorem scPMoves : FnScope ["self", "movable"] ["self"] (defScope sPMoves) := ⟨rfl, rfl, rfl, by decide +kernel, rfl, by decide +kernel, by decide +kernel⟩
/-- the end of an answer that is laid as a new list, the row as it was -/
theorem ret_same {C : Addr} {H H' : Hp} {x dx p : Addr} {r : List Nat} {c : Uw88.Call} {Q : VK} {xs : List V} (hp : PondAt C H x dx r) (q : Ret C x dx H r c Q) {ans : List Int} (e : Uw88.step r c = (r, ans)) (ex : xs = iv ans) (s : Same H H') (hn : H' p = none) :
    Q (.ref p) (upd H' p (.lst xs)) := by
  have s2 : Same H (upd H' p (.lst xs)) := s.trans (Same.upd_new hn)
  refine q _ p ?_ (s.free hn) ?_ (Same.keep s2)
  · rw [e]
    exact hp.same s2
  · rw [e, ← ex]
    exact upd_same
theorem ok_pmoves {f fM C : Addr} {fd dM : FuncData} (F : Fun K "moves" "Pond.moves" sPMoves f fd) (T : Txt K mg) (R : ClsP K mg C) (DM : Def K mg "stones_to_move" sMoves ["row"] fM dM)
    (GM : FnOk P w K mg base CX0 3 fM dM ["row"] (spMoves K)) : FnOk P w K mg base CX0 4 f fd ["self"] (spP0 C .moves) := by
  refine F.ok scPMoves (fun vs H Q E h => ?_) (fun cdv A outer s H vs Q E hr h => ?_)
  · obtain ⟨x, dx, r, rfl, _⟩ := h
    rfl
  · obtain ⟨x, dx, r, rfl, hp, gr, q⟩ := h
    refine ⟨_, pss_cons (ps_set (i := 1) scPMoves.nd rfl (Or.inl rfl) (pe_call GM hr (by rfl) DM.g DM.F.kp DM.b .nil pass0 (pa_cons (pe_fld (pv 0) rfl) pa_nil)))
      (pss_one (ps_ret (pe_op op_cat (pe_lst (pa_cons (pe_callB call_len_seq (by rfl) T.len PySem.boot_len (pa_cons (pv 1) pa_nil)) pa_nil)) (pv 1)))), ?_⟩
    obtain ⟨a, hx, ha⟩ := id hp
    have fi := TF.isRow_fine gr
    refine ⟨_, rfl, x, C, dx, _, _, rfl, hx, R.cl, R.nH, pf_h a, a, r, rfl, RowAt.sqT T ha, fi, fun m hm => ?_⟩
    refine ⟨_, rfl, m, _, rfl, .inl (SqL.of upd_same), (by show 1 ≤ sizeLine; decide), fun l hl => ?_⟩
    have nlm : l ≠ m := fun z => by rw [z, upd_same] at hl; cases hl
    refine ⟨_, rfl, l, m, _, _, rfl, rfl, upd_same, by rw [upd_ne nlm.symm, upd_same], ?_, fun p hp3 => ?_⟩
    · rw [rv_len]
      have := TF.moves_length r
      have := fi.len
      show 1 + (Uw88.moves r).length ≤ sizeLine
      exact Nat.le_of_lt (line_of9 (by omega))
    refine ret_same hp q (ans := Uw88.counted (Uw88.moves r)) rfl ?_ ((Same.upd_new hm).trans (Same.upd_new hl)) hp3
    unfold Uw88.counted
    show V.int _ :: rv (Uw88.moves r) = V.int _ :: iv (Uw88.ints (Uw88.moves r))
    rw [iv_ints, rv_len]
theorem scPShows : FnScope ["self"] ["self"] (defScope sPShows) := ⟨rfl, rfl, rfl, by decide +kernel, rfl, by decide +kernel, by decide +kernel⟩
theorem ok_pshows {f C : Addr} {fd : FuncData} (F : Fun K "shows" "Pond.shows" sPShows f fd) (T : Txt K mg) (R : ClsP K mg C) : FnOk P w K mg base CX0 1 f fd ["self"] (spP0 C .shows) := by
  refine F.ok scPShows (fun vs H Q E h => ?_) (fun cdv A outer s H vs Q E hr h => ?_)
  · obtain ⟨x, dx, r, rfl, _⟩ := h
    rfl
  · obtain ⟨x, dx, r, rfl, hp, gr, q⟩ := h
    refine ⟨_, pss_one (ps_ret (pe_op op_cat (pe_lst (pa_cons (pe_callB call_len_seq (by rfl) T.len PySem.boot_len (pa_cons (pe_fld (pv 0) rfl) pa_nil)) pa_nil)) (pe_callTy call_list_of (by rfl) T.list PyProof.Rows.boot_list (pa_cons (pe_fld (pv 0) rfl) pa_nil)))), ?_⟩
    obtain ⟨a, hx, ha⟩ := id hp
    have fi := TF.isRow_fine gr
    have hs := RowAt.sqT T ha
    refine ⟨_, rfl, x, C, dx, _, _, rfl, hx, R.cl, R.nH, pf_h a, a, _, rfl, .inr hs, (by show 1 ≤ sizeLine; decide), fun l hl => ?_⟩
    have s1 : Same H (upd H l (.lst [V.int ((rv r).length : Nat)])) := Same.upd_new hl
    refine ⟨_, rfl, x, C, dx, _, _, rfl, s1 _ _ hx, R.cl, R.nH, pf_h a, a, _, rfl, .inr (Same.sqT s1 hs), fun m hm => ?_⟩
    have nml : m ≠ l := fun z => by rw [z, upd_same] at hm; cases hm
    refine ⟨l, m, _, _, rfl, rfl, by rw [upd_ne nml.symm, upd_same], upd_same, ?_, fun p hp3 => ?_⟩
    · rw [rv_len]
      have := fi.len
      show 1 + r.length ≤ sizeLine
      exact Nat.le_of_lt (line_of9 (by omega))
    refine ret_same hp q (ans := Uw88.counted r) rfl ?_ (s1.trans (Same.upd_new hm)) hp3
    unfold Uw88.counted
    show V.int _ :: rv r = V.int _ :: iv (Uw88.ints r)
    rw [iv_ints, rv_len]
theorem scPFits : FnScope ["self", "stones"] ["self", "stones"] (defScope sPFits) := ⟨rfl, rfl, rfl, by decide +kernel, rfl, by decide +kernel, by decide +kernel⟩
theorem ok_pfits {f fI C : Addr} {fd dI : FuncData} (F : Fun K "fits" "Pond.fits" sPFits f fd) (T : Txt K mg) (R : ClsP K mg C) (DI : Def K mg "is_row" sIsRow ["stones"] fI dI) : FnOk P w K mg base CX0 2 f fd ["self", "stones"] (spFits C) := by
  have GI : FnOk P w K mg base CX0 1 fI dI ["stones"] (spIsRow K) := ok_isrow DI.F T
  refine F.ok scPFits (fun vs H Q E h => ?_) (fun cdv A outer s H vs Q E hr h => ?_)
  · obtain ⟨x, dx, r, y, l, rfl, _⟩ := h
    rfl
  · obtain ⟨x, dx, r, y, l, rfl, hp, hy, q⟩ := h
    refine ⟨_, pss_one (ps_ret (pe_and (pe_cmpR op_eq (pe_callB call_len_seq (by rfl) T.len PySem.boot_len (pa_cons (pv 1) pa_nil)) (pe_callB call_len_seq (by rfl) T.len PySem.boot_len (pa_cons (pe_fld (pv 0) rfl) pa_nil)) (nomark _))
      (pe_one (pe_call GI hr (by rfl) DI.g DI.F.kp DI.b .nil pass0 (pa_cons (pv 1) pa_nil))))), ?_⟩
    obtain ⟨a, hx, ha⟩ := id hp
    refine ⟨_, rfl, y, _, rfl, .inl (SqL.of hy), _, rfl, x, C, dx, _, _, rfl, hx, R.cl, R.nH, pf_h a, a, _, rfl, .inr (RowAt.sqT T ha), rfl, _, rfl, ite2 (fun c => ?_) (fun c => ?_)⟩
    · rw [vint, rv_len, rv_len] at c
      unfold TF.fits at q
      rw [decide_eq_true (by omega : l.length = r.length), Bool.true_and] at q
      exact ⟨_, rfl, y, l, rfl, SqL.of hy, q⟩
    · rw [vint, rv_len, rv_len] at c
      unfold TF.fits at q
      rw [decide_eq_false (by omega : ¬ l.length = r.length), Bool.false_and] at q
      exact q
theorem scPTo : FnScope ["self", "stones", "reach", "target", "way"] ["self", "stones"] (defScope sPTo) := ⟨rfl, rfl, rfl, by decide +kernel, rfl, by decide +kernel, by decide +kernel⟩
theorem Keep.made {H H1 : Hp} {x dx C : Addr} (nx : H x = none) (nd : H dx = none) (k : ∀ b o, (upd (upd H dx (.own x)) x (.ins C dx [])) b = some o → b ≠ x → H1 b = some o) : Same H H1 := L2.Same.made nx nd k
theorem ok_pto {f fF fR fC fW fL C CR : Addr} {fd dF dR dC dW dL : FuncData} (F : Fun K "to" "Pond.to" sPTo f fd) (T : Txt K mg) (R : ClsP K mg C) (RR : ClsR K mg CR)
    (mF : Meth K C "fits" fF) (bF : Binds K dF ["self", "stones"] []) (GF : FnOk P w K mg base CX0 2 fF dF ["self", "stones"] (spFits C))
    (MR : Mk K CR fR) (bR : Binds K dR ["self", "start"] []) (GR : FnOk P w K mg base CX0 5 fR dR ["self", "start"] (spRInit CR))
    (mC : Meth K CR "can_come" fC) (bC : Binds K dC ["self", "row"] []) (GC : FnOk P w K mg base CX0 1 fC dC ["self", "row"] (spCan CR))
    (mW : Meth K CR "first_way" fW) (bW : Binds K dW ["self", "row"] []) (GW : FnOk P w K mg base CX0 1 fW dW ["self", "row"] (spFirst CR))
    (DL : Def K mg "count_leaps" sLeaps ["row", "way"] fL dL) (GL : FnOk P w K mg base CX0 4 fL dL ["row", "way"] (spLeaps K)) : FnOk P w K mg base CX0 7 f fd ["self", "stones"] (spPL K C .to) := by
  refine F.ok scPTo (fun vs H Q E h => ?_) (fun cdv A outer s H vs Q E hr h => ?_)
  · obtain ⟨x, dx, r, y, l, rfl, _⟩ := h
    rfl
  · obtain ⟨x, dx, r, y, l, rfl, hp, gr, hy, q⟩ := h
    have hr1 : Room 1 _ := hr.mono (by decide)
    have hr2 : Room 2 _ := hr.mono (by decide)
    have hr4 : Room 4 _ := hr.mono (by decide)
    refine ⟨_, pss_cons (ps_if (pt_not (pt_val (pe_meth (pv 0) R.cl mF GF hr2 bF .nil pass0 (pa_cons (pv 1) pa_nil)))) (pss_one (ps_ret (pe_lst (pa_cons (pe_gi T.NOTTHERE (by rfl)) pa_nil)))) pss_nil)
      (pss_cons (ps_set (i := 2) scPTo.nd rfl (Or.inl rfl) (pe_make MR GR hr (by rfl) RR.mgC bR .nil pass0 (pa_cons (pe_fld (pv 0) rfl) pa_nil)))
      (pss_cons (ps_set (i := 3) scPTo.nd rfl (Or.inl rfl) (pe_callTy call_tuple_of (by rfl) T.tuple PyProof.Rows.boot_tuple (pa_cons (pv 1) pa_nil)))
      (pss_cons (ps_if (pt_not (pt_val (pe_meth (pv 2) RR.cl mC GC hr1 bC .nil pass0 (pa_cons (pv 3) pa_nil)))) (pss_one (ps_ret (pe_lst (pa_cons (pe_gi T.CANTCOME (by rfl)) pa_nil)))) pss_nil)
      (pss_cons (ps_set (i := 4) scPTo.nd rfl (Or.inl rfl) (pe_meth (pv 2) RR.cl mW GW hr1 bW .nil pass0 (pa_cons (pv 3) pa_nil)))
      (pss_one (ps_ret (pe_op op_cat (pe_lst (pa_cons (pe_callB call_len_seq (by rfl) T.len PySem.boot_len (pa_cons (pv 4) pa_nil)) (pa_cons (pe_call GL hr4 (by rfl) DL.g DL.F.kp DL.b .nil pass0 (pa_cons (pe_fld (pv 0) rfl) (pa_cons (pv 4) pa_nil))) pa_nil))) (pv 4)))))))), ?_⟩
    obtain ⟨a, hx, ha⟩ := id hp
    have fi := TF.isRow_fine gr
    refine ⟨_, rfl, x, dx, _, rfl, hx, pf_no a (by decide), _, rfl, x, dx, r, y, l, rfl, hp, hy, _, rfl, ?_⟩
    cases e : TF.fits r l with
    | false => exact iteT ⟨(by show 1 ≤ sizeLine; decide), one_int hp q (TF.step_to_no e)⟩
    | true =>
      refine iteF ?_
      refine ⟨_, rfl, x, C, dx, _, _, rfl, hx, R.cl, R.nH, pf_h a, ?_⟩
      intro z dz hz hdz ndz
      have s0 : Same H (upd (upd H dz (.own z)) z (.ins CR dz [])) := fun b o eb => by
        rw [upd_ne (ne_of_none eb hz), upd_ne (ne_of_none eb hdz)]
        exact eb
      refine ⟨z, dz, a, r, rfl, upd_same, RowAt.same ha s0, fi, fun H1 RF k1 => ⟨rfl, ?_⟩⟩
      have s1 : Same H H1 := L2.Same.made hz hdz k1
      refine ⟨_, rfl, y, _, rfl, .inl ⟨SqL.of (s1 _ _ hy), fun t ht => ?_⟩⟩
      have s2 : Same H1 (upd H1 t (.tup (rv l))) := Same.upd_new ht
      have RF2 := RF.same s2
      have ht2 : RowAt (upd H1 t (.tup (rv l))) t l := .inl (by rw [upd_same, rowKey_kV])
      obtain ⟨dz', c, lz, a9, k, t9, rest9, hL9, hk, RA, ha9⟩ := id RF2
      refine ⟨_, rfl, z, dz', _, rfl, RA.self, rf_no c lz (some a9) (by decide) (by decide) (by decide), _, rfl, z, t, r, l, rfl, RF2, ht2, _, rfl, ?_⟩
      by_cases ct : TF.cnt l r = 0
      · have ed : decide (TF.cnt l r ≠ 0) = false := by simp [ct]
        rw [ed]
        refine iteT ⟨(by show 1 ≤ sizeLine; decide), fun p hp3 => ?_⟩
        exact ret_same hp q (TF.step_to_none fi.len e ct) rfl (s1.trans s2) hp3
      · have ed : decide (TF.cnt l r ≠ 0) = true := by simp [ct]
        rw [ed]
        refine iteF ?_
        refine ⟨_, rfl, z, dz', _, rfl, RA.self, rf_no c lz (some a9) (by decide) (by decide) (by decide), _, rfl, z, t, r, l, rfl, RF2, fi, ht2, ct, fun H3 wy s3 hw0 hw => ?_⟩
        have s13 : Same H H3 := (s1.trans s2).trans s3
        refine ⟨_, rfl, wy, _, rfl, .inl (SqL.of hw), ?_⟩
        refine ⟨_, rfl, x, C, dx, _, _, rfl, s13 _ _ hx, R.cl, R.nH, pf_h a, _, rfl, a, wy, r, TF.fw l r, rfl, RowAt.sqT T (RowAt.same ha s13), fi, hw, TF.fw_way ct, fun H4 s4 => ?_⟩
        refine ⟨(by show 2 ≤ sizeLine; decide), fun n hn => ?_⟩
        have nwn : wy ≠ n := ne_of_none (s4 _ _ hw) hn
        have wl := TF.way_len fi.len ct
        refine ⟨_, rfl, n, wy, _, _, rfl, rfl, upd_same, by rw [upd_ne nwn]; exact s4 _ _ hw, ?_, fun p hp3 => ?_⟩
        · rw [rv_len]
          show 2 + (TF.fw l r).length ≤ sizeLine
          exact Nat.le_of_lt (line_of9 (by omega))
        refine ret_same hp q (TF.step_to_yes fi.len e ct) ?_ ((s13.trans s4).trans (Same.upd_new hn)) hp3
        rw [iv_ints, rv_len]
        rfl
theorem scPWays : FnScope ["self", "stones"] ["self", "stones"] (defScope sPWays) := ⟨rfl, rfl, rfl, by decide +kernel, rfl, by decide +kernel, by decide +kernel⟩
theorem ok_pways {f fF fR fW C CR : Addr} {fd dF dR dW : FuncData} (F : Fun K "ways" "Pond.ways" sPWays f fd) (T : Txt K mg) (R : ClsP K mg C) (RR : ClsR K mg CR)
    (mF : Meth K C "fits" fF) (bF : Binds K dF ["self", "stones"] []) (GF : FnOk P w K mg base CX0 2 fF dF ["self", "stones"] (spFits C))
    (MR : Mk K CR fR) (bR : Binds K dR ["self", "start"] []) (GR : FnOk P w K mg base CX0 5 fR dR ["self", "start"] (spRInit CR))
    (mW : Meth K CR "ways_to" fW) (bW : Binds K dW ["self", "row"] []) (GW : FnOk P w K mg base CX0 1 fW dW ["self", "row"] (spWaysTo CR)) : FnOk P w K mg base CX0 7 f fd ["self", "stones"] (spPL K C .ways) := by
  refine F.ok scPWays (fun vs H Q E h => ?_) (fun cdv A outer s H vs Q E hr h => ?_)
  · obtain ⟨x, dx, r, y, l, rfl, _⟩ := h
    rfl
  · obtain ⟨x, dx, r, y, l, rfl, hp, gr, hy, q⟩ := h
    have hr1 : Room 1 _ := hr.mono (by decide)
    have hr2 : Room 2 _ := hr.mono (by decide)
    refine ⟨_, pss_cons (ps_if (pt_not (pt_val (pe_meth (pv 0) R.cl mF GF hr2 bF .nil pass0 (pa_cons (pv 1) pa_nil)))) (pss_one (ps_ret (pe_lst (pa_cons (pe_gi T.NOTTHERE (by rfl)) pa_nil)))) pss_nil)
      (pss_one (ps_ret (pe_lst (pa_cons (pe_meth (pe_make MR GR hr (by rfl) RR.mgC bR .nil pass0 (pa_cons (pe_fld (pv 0) rfl) pa_nil)) RR.cl mW GW hr1 bW .nil pass0 (pa_cons (pe_callTy call_tuple_of (by rfl) T.tuple PyProof.Rows.boot_tuple (pa_cons (pv 1) pa_nil)) pa_nil)) pa_nil)))), ?_⟩
    obtain ⟨a, hx, ha⟩ := id hp
    have fi := TF.isRow_fine gr
    refine ⟨_, rfl, x, dx, _, rfl, hx, pf_no a (by decide), _, rfl, x, dx, r, y, l, rfl, hp, hy, _, rfl, ?_⟩
    cases e : TF.fits r l with
    | false => exact iteT ⟨(by show 1 ≤ sizeLine; decide), one_int hp q (TF.step_ways_no e)⟩
    | true =>
      refine iteF ?_
      refine ⟨_, rfl, x, C, dx, _, _, rfl, hx, R.cl, R.nH, pf_h a, ?_⟩
      intro z dz hz hdz ndz
      have s0 : Same H (upd (upd H dz (.own z)) z (.ins CR dz [])) := fun b o eb => by
        rw [upd_ne (ne_of_none eb hz), upd_ne (ne_of_none eb hdz)]
        exact eb
      refine ⟨z, dz, a, r, rfl, upd_same, RowAt.same ha s0, fi, fun H1 RF k1 => ⟨rfl, ?_⟩⟩
      have s1 : Same H H1 := L2.Same.made hz hdz k1
      obtain ⟨dz', c, lz, a9, k, t9, rest9, hL9, hk, RA, ha9⟩ := id RF
      refine ⟨z, dz', _, rfl, RA.self, rf_no c lz (some a9) (by decide) (by decide) (by decide), _, rfl, y, _, rfl, .inl ⟨SqL.of (s1 _ _ hy), fun t ht => ?_⟩⟩
      have s2 : Same H1 (upd H1 t (.tup (rv l))) := Same.upd_new ht
      have ht2 : RowAt (upd H1 t (.tup (rv l))) t l := .inl (by rw [upd_same, rowKey_kV])
      refine ⟨z, t, r, l, rfl, RF.same s2, ht2, (by show 1 ≤ sizeLine; decide), fun p hp3 => ?_⟩
      exact ret_same hp q (TF.step_ways_yes fi.len e) rfl (s1.trans s2) hp3
end
end Tp
end
section
set_option Elab.async false
set_option linter.all false
set_option maxRecDepth 100000
set_option maxHeartbeats 2000000
namespace Tp
open PySem PySem.Spec PyProof.Rows L2
def spStill (C : Addr) : Sp := fun vs H Q _ => ∃ (x dx : Addr) (r : List Nat) (i : Nat) (y : Addr) (t : List Nat), vs = [.ref x, .int (i : Int), .ref y] ∧ PondAt C H x dx r ∧ Uw88.isRow r = true ∧ i ∈ Uw88.moves r ∧ RowAt H y t ∧
  ∀ H' : Hp, Same H H' → Q (.bl (decide (TF.cnt t (Uw88.moved r i) ≠ 0))) H'
section
variable {P : Program} {w : World} {K : PySem.W.Frag} {mg : Str → Option Value} {base : Heap}
theorem scPComes : FnScope ["self"] ["self"] (defScope sPComes) := ⟨rfl, rfl, rfl, by decide +kernel, rfl, by decide +kernel, by decide +kernel⟩
theorem ok_pcomes {f fR fA C CR : Addr} {fd dR dA : FuncData} (F : Fun K "comes" "Pond.comes" sPComes f fd) (T : Txt K mg) (R : ClsP K mg C) (RR : ClsR K mg CR)
    (MR : Mk K CR fR) (bR : Binds K dR ["self", "start"] []) (GR : FnOk P w K mg base CX0 5 fR dR ["self", "start"] (spRInit CR))
    (mA : Meth K CR "rows_in_all" fA) (bA : Binds K dA ["self"] []) (GA : FnOk P w K mg base CX0 1 fA dA ["self"] (spRAll CR)) : FnOk P w K mg base CX0 7 f fd ["self"] (spP0 C .comes) := by
  refine F.ok scPComes (fun vs H Q E h => ?_) (fun cdv A outer s H vs Q E hr h => ?_)
  · obtain ⟨x, dx, r, rfl, _⟩ := h
    rfl
  · obtain ⟨x, dx, r, rfl, hp, gr, q⟩ := h
    have hr1 : Room 1 _ := hr.mono (by decide)
    refine ⟨_, pss_one (ps_ret (pe_lst (pa_cons (pe_meth0 (pe_make MR GR hr (by rfl) RR.mgC bR .nil pass0 (pa_cons (pe_fld (pv 0) rfl) pa_nil)) RR.cl mA GA hr1 bA .nil pass0) pa_nil))), ?_⟩
    obtain ⟨a, hx, ha⟩ := id hp
    have fi := TF.isRow_fine gr
    refine ⟨_, rfl, x, C, dx, _, _, rfl, hx, R.cl, R.nH, pf_h a, ?_⟩
    intro z dz hz hdz ndz
    have s0 : Same H (upd (upd H dz (.own z)) z (.ins CR dz [])) := fun b o eb => by
      rw [upd_ne (ne_of_none eb hz), upd_ne (ne_of_none eb hdz)]
      exact eb
    refine ⟨z, dz, a, r, rfl, upd_same, RowAt.same ha s0, fi, fun H1 RF k1 => ⟨rfl, ?_⟩⟩
    have s1 : Same H H1 := L2.Same.made hz hdz k1
    obtain ⟨dz', c, lz, a9, k, t9, rest9, hL9, hk, RA, ha9⟩ := id RF
    refine ⟨z, dz', _, rfl, RA.self, rf_no c lz (some a9) (by decide) (by decide) (by decide), z, r, rfl, RF, fi, (by show 1 ≤ sizeLine; decide), fun p hp3 => ?_⟩
    exact ret_same hp q (ans := [((Uw88.comes r).length : Int)]) rfl rfl s1 hp3
theorem scPLongest : FnScope ["self", "way"] ["self"] (defScope sPLongest) := ⟨rfl, rfl, rfl, by decide +kernel, rfl, by decide +kernel, by decide +kernel⟩
theorem ok_plongest {f fR fA C CR : Addr} {fd dR dA : FuncData} (F : Fun K "longest" "Pond.longest" sPLongest f fd) (T : Txt K mg) (R : ClsP K mg C) (RR : ClsR K mg CR)
    (MR : Mk K CR fR) (bR : Binds K dR ["self", "start"] []) (GR : FnOk P w K mg base CX0 5 fR dR ["self", "start"] (spRInit CR))
    (mA : Meth K CR "longest_way" fA) (bA : Binds K dA ["self"] []) (GA : FnOk P w K mg base CX0 2 fA dA ["self"] (spRLong CR)) : FnOk P w K mg base CX0 7 f fd ["self"] (spP0 C .longest) := by
  refine F.ok scPLongest (fun vs H Q E h => ?_) (fun cdv A outer s H vs Q E hr h => ?_)
  · obtain ⟨x, dx, r, rfl, _⟩ := h
    rfl
  · obtain ⟨x, dx, r, rfl, hp, gr, q⟩ := h
    have hr2 : Room 2 _ := hr.mono (by decide)
    refine ⟨_, pss_cons (ps_set (i := 1) scPLongest.nd rfl (Or.inl rfl) (pe_meth0 (pe_make MR GR hr (by rfl) RR.mgC bR .nil pass0 (pa_cons (pe_fld (pv 0) rfl) pa_nil)) RR.cl mA GA hr2 bA .nil pass0))
      (pss_one (ps_ret (pe_op op_cat (pe_lst (pa_cons (pe_callB call_len_seq (by rfl) T.len PySem.boot_len (pa_cons (pv 1) pa_nil)) pa_nil)) (pv 1)))), ?_⟩
    obtain ⟨a, hx, ha⟩ := id hp
    have fi := TF.isRow_fine gr
    refine ⟨_, rfl, x, C, dx, _, _, rfl, hx, R.cl, R.nH, pf_h a, ?_⟩
    intro z dz hz hdz ndz
    have s0 : Same H (upd (upd H dz (.own z)) z (.ins CR dz [])) := fun b o eb => by
      rw [upd_ne (ne_of_none eb hz), upd_ne (ne_of_none eb hdz)]
      exact eb
    refine ⟨z, dz, a, r, rfl, upd_same, RowAt.same ha s0, fi, fun H1 RF k1 => ⟨rfl, ?_⟩⟩
    have s1 : Same H H1 := L2.Same.made hz hdz k1
    obtain ⟨dz', c, lz, a9, k, t9, rest9, hL9, hk, RA, ha9⟩ := id RF
    refine ⟨z, dz', _, rfl, RA.self, rf_no c lz (some a9) (by decide) (by decide) (by decide), z, r, rfl, RF, fi, fun H2 m s2 hm wl => ?_⟩
    refine ⟨_, rfl, m, _, rfl, .inl (SqL.of hm), (by show 1 ≤ sizeLine; decide), fun l hl => ?_⟩
    have nml : m ≠ l := ne_of_none hm hl
    refine ⟨_, rfl, l, m, _, _, rfl, rfl, upd_same, by rw [upd_ne nml]; exact hm, ?_, fun p hp3 => ?_⟩
    · rw [rv_len]
      show 1 + (Uw88.longest r).length ≤ sizeLine
      exact Nat.le_of_lt (line_of9 (by omega))
    refine ret_same hp q (ans := Uw88.counted (Uw88.longest r)) rfl ?_ ((s1.trans s2).trans (Same.upd_new hl)) hp3
    unfold Uw88.counted
    show V.int _ :: rv (Uw88.longest r) = V.int _ :: iv (Uw88.ints (Uw88.longest r))
    rw [iv_ints, rv_len]
/-! ### the first of the stuck rows -/
def nz (r : List Nat) : List Int := r.map fun (n : Nat) => (n : Int)
theorem nz_rv (r : List Nat) : (nz r).map V.int = rv r := by
  unfold nz rv
  rw [List.map_map]
  rfl
theorem lex_lower : ∀ {x y : List Nat}, x.length = y.length → HT.lexLt (nz x) (nz y) = Uw88.lower x y
  | [], [], _ => rfl
  | [], _ :: _, h => by simp at h
  | _ :: _, [], h => by simp at h
  | a :: x, b :: y, h => by
    have ih := lex_lower (x := x) (y := y) (by simpa using h)
    show (if (a : Int) = (b : Int) then HT.lexLt (nz x) (nz y) else decide ((a : Int) < (b : Int))) = (decide (a < b) || (a == b && Uw88.lower x y))
    by_cases e : a = b
    · subst e
      simp [ih]
    · rw [if_neg (by omega)]
      have e2 : (a == b) = false := by simpa using e
      rw [e2, Bool.false_and, Bool.or_false]
      simp
theorem argBest_best {f g : Nat → Nat → Bool} : ∀ (k : Nat), (∀ i j, i ≤ k → j ≤ k → f i j = g i j) → argBest f k = TF.best g k
  | 0, _ => rfl
  | k + 1, h => by
    have ih := argBest_best k fun i j hi hj => h i j (by omega) (by omega)
    have l := TF.best_le g k
    show (if f (k + 1) (argBest f k) then k + 1 else argBest f k) = if g (k + 1) (TF.best g k) then k + 1 else TF.best g k
    rw [ih, h (k + 1) (TF.best g k) (Nat.le_refl _) (by omega)]
theorem getD_map_nz (l : List (List Nat)) (i : Nat) : (l.map nz).getD i [] = nz (l.getD i []) := by
  rw [List.getD_eq_getElem?_getD, List.getD_eq_getElem?_getD, List.getElem?_map]
  cases l[i]? <;> rfl
theorem first_argBest {l : List (List Nat)} {n : Nat} (hn : l ≠ []) (hl : ∀ x ∈ l, x.length = n) : l.getD (argBest (fun i j => HT.lexLt ((l.map nz).getD i []) ((l.map nz).getD j [])) (l.length - 1)) [] = Uw88.firstOf l := by
  have pos := List.length_pos_iff.mpr hn
  have hin : ∀ i, i ≤ l.length - 1 → (l.getD i []).length = n := fun i hi => by
    rw [List.getD_eq_getElem?_getD, List.getElem?_eq_getElem (by omega : i < l.length)]
    exact hl _ (List.getElem_mem _)
  rw [argBest_best (g := fun i j => Uw88.lower (l.getD i []) (l.getD j [])) (l.length - 1) fun i j hi hj => ?_]
  · exact (TF.firstOf_best hn).symm
  · rw [getD_map_nz, getD_map_nz]
    exact lex_lower ((hin i hi).trans (hin j hj).symm)
theorem paired_map {α β γ : Type} {F : α → β → Prop} {G : α → γ → Prop} (f : β → γ) (hf : ∀ a b, F a b → G a (f b)) : ∀ {l : List α} {m : List β}, Paired F l m → Paired G l (m.map f)
  | _, _, .nil => .nil
  | _, _, .cons h t => .cons (hf _ _ h) (paired_map f hf t)
theorem scPStucks : FnScope ["self", "stuck"] ["self"] (defScope sPStucks) := ⟨rfl, rfl, rfl, by decide +kernel, rfl, by decide +kernel, by decide +kernel⟩
theorem ok_pstucks {f fR fA C CR : Addr} {fd dR dA : FuncData} (F : Fun K "stucks" "Pond.stucks" sPStucks f fd) (T : Txt K mg) (R : ClsP K mg C) (RR : ClsR K mg CR)
    (MR : Mk K CR fR) (bR : Binds K dR ["self", "start"] []) (GR : FnOk P w K mg base CX0 5 fR dR ["self", "start"] (spRInit CR))
    (mA : Meth K CR "stuck_rows" fA) (bA : Binds K dA ["self"] []) (GA : FnOk P w K mg base CX0 4 fA dA ["self"] (spRStuck CR)) : FnOk P w K mg base CX0 7 f fd ["self"] (spP0 C .stucks) := by
  refine F.ok scPStucks (fun vs H Q E h => ?_) (fun cdv A outer s H vs Q E hr h => ?_)
  · obtain ⟨x, dx, r, rfl, _⟩ := h
    rfl
  · obtain ⟨x, dx, r, rfl, hp, gr, q⟩ := h
    have hr4 : Room 4 _ := hr.mono (by decide)
    have hu := hu_of hr
    refine ⟨_, pss_cons (ps_set (i := 1) scPStucks.nd rfl (Or.inl rfl) (pe_meth0 (pe_make MR GR hr (by rfl) RR.mgC bR .nil pass0 (pa_cons (pe_fld (pv 0) rfl) pa_nil)) RR.cl mA GA hr4 bA .nil pass0))
      (pss_one (ps_ret (pe_op op_cat (pe_lst (pa_cons (pe_callB call_len_seq (by rfl) T.len PySem.boot_len (pa_cons (pv 1) pa_nil)) pa_nil))
        (pe_callTy call_list_of (by rfl) T.list PyProof.Rows.boot_list (pa_cons (pe_callB (cr_minT rfl hu) (by rfl) T.min PyProof.Rows.boot_min (pa_cons (pv 1) pa_nil)) pa_nil))))), ?_⟩
    obtain ⟨a, hx, ha⟩ := id hp
    have fi := TF.isRow_fine gr
    refine ⟨_, rfl, x, C, dx, _, _, rfl, hx, R.cl, R.nH, pf_h a, ?_⟩
    intro z dz hz hdz ndz
    have s0 : Same H (upd (upd H dz (.own z)) z (.ins CR dz [])) := fun b o eb => by
      rw [upd_ne (ne_of_none eb hz), upd_ne (ne_of_none eb hdz)]
      exact eb
    refine ⟨z, dz, a, r, rfl, upd_same, RowAt.same ha s0, fi, fun H1 RF k1 => ⟨rfl, ?_⟩⟩
    have s1 : Same H H1 := L2.Same.made hz hdz k1
    obtain ⟨dz', c, lz, a9, k, t9, rest9, hL9, hk, RA, ha9⟩ := id RF
    refine ⟨z, dz', _, rfl, RA.self, rf_no c lz (some a9) (by decide) (by decide) (by decide), z, r, rfl, RF, fi, fun H2 m as s2 hm hrows => ?_⟩
    have la := Paired.length hrows
    have hne := TF.stuck_some fi.len
    have pos := List.length_pos_iff.mpr hne
    have hlen : ∀ t ∈ Uw88.stucks r, t.length = r.length := fun t ht => by
      unfold Uw88.stucks at ht
      obtain ⟨j, hj⟩ := (TF.comes_mem fi.len).mp (List.mem_filter.mp ht).1
      exact TF.E_length j hj
    refine ⟨_, rfl, m, _, rfl, .inl (SqL.of hm), (by show 1 ≤ sizeLine; decide), fun l hl => ?_⟩
    have s3 : Same H2 (upd H2 l (.lst [V.int ((as.map V.ref).length : Nat)])) := Same.upd_new hl
    have rows3 := RowsAt.tups hrows (Same.tups s3)
    refine ⟨_, rfl, m, as, (Uw88.stucks r).map nz, rfl, SqL.of (s3 _ _ hm), paired_map nz (fun b t hb => by rw [nz_rv]; exact RowAt.sqT T hb) rows3, by omega, fun b hb => ?_⟩
    have first := first_argBest hne hlen
    rw [la] at hb
    obtain ⟨t, ht, hbt⟩ := paired_get rows3 hb
    have et : t = Uw88.firstOf (Uw88.stucks r) := by
      rw [← first, List.getD_eq_getElem?_getD, ht]
      rfl
    subst et
    have fl : (Uw88.firstOf (Uw88.stucks r)).length = r.length := hlen _ (List.mem_of_getElem? ht)
    refine ⟨b, _, rfl, .inr (RowAt.sqT T hbt), fun n hn => ?_⟩
    have nln : l ≠ n := fun y => by rw [← y, upd_same] at hn; cases hn
    refine ⟨l, n, _, _, rfl, rfl, by rw [upd_ne nln, upd_same], upd_same, ?_, fun p hp3 => ?_⟩
    · rw [rv_len, fl]
      have := fi.len
      show 1 + r.length ≤ sizeLine
      exact Nat.le_of_lt (line_of9 (by omega))
    refine ret_same hp q (TF.step_stucks r) ?_ (((s1.trans s2).trans s3).trans (Same.upd_new hn)) hp3
    show V.int ((as.map V.ref).length : Nat) :: rv (Uw88.firstOf (Uw88.stucks r)) = V.int _ :: iv (Uw88.ints (Uw88.firstOf (Uw88.stucks r)))
    rw [iv_ints, List.length_map, la]
theorem scPStill : FnScope ["self", "stone", "target"] ["self", "stone", "target"] (defScope sPStill) := ⟨rfl, rfl, rfl, by decide +kernel, rfl, by decide +kernel, by decide +kernel⟩
theorem ok_pstill {f fA fR fC C CR : Addr} {fd dA dR dC : FuncData} (F : Fun K "still_leads" "Pond.still_leads" sPStill f fd) (T : Txt K mg) (R : ClsP K mg C) (RR : ClsR K mg CR)
    (DA : Def K mg "row_after" sAfter ["row", "stone"] fA dA) (GA : FnOk P w K mg base CX0 3 fA dA ["row", "stone"] (spAfter K))
    (MR : Mk K CR fR) (bR : Binds K dR ["self", "start"] []) (GR : FnOk P w K mg base CX0 5 fR dR ["self", "start"] (spRInit CR))
    (mC : Meth K CR "can_come" fC) (bC : Binds K dC ["self", "row"] []) (GC : FnOk P w K mg base CX0 1 fC dC ["self", "row"] (spCan CR)) : FnOk P w K mg base CX0 7 f fd ["self", "stone", "target"] (spStill C) := by
  refine F.ok scPStill (fun vs H Q E h => ?_) (fun cdv A outer s H vs Q E hr h => ?_)
  · obtain ⟨x, dx, r, i, y, t, rfl, _⟩ := h
    rfl
  · obtain ⟨x, dx, r, i, y, t, rfl, hp, gr, hi, hy, q⟩ := h
    have hr1 : Room 1 _ := hr.mono (by decide)
    have hr3 : Room 3 _ := hr.mono (by decide)
    refine ⟨_, pss_one (ps_ret (pe_meth (pe_make MR GR hr (by rfl) RR.mgC bR .nil pass0 (pa_cons (pe_call GA hr3 (by rfl) DA.g DA.F.kp DA.b .nil pass0 (pa_cons (pe_fld (pv 0) rfl) (pa_cons (pv 1) pa_nil))) pa_nil)) RR.cl mC GC hr1 bC .nil pass0 (pa_cons (pv 2) pa_nil))), ?_⟩
    obtain ⟨a, hx, ha⟩ := id hp
    have fi := TF.isRow_fine gr
    refine ⟨_, rfl, x, C, dx, _, _, rfl, hx, R.cl, R.nH, pf_h a, _, rfl, a, r, i, rfl, RowAt.sqT T ha, hi, fi, fun H0 pa s00 hpa0 hpa => ?_⟩
    intro z dz hz hdz ndz
    have s0 : Same H0 (upd (upd H0 dz (.own z)) z (.ins CR dz [])) := fun b o eb => by
      rw [upd_ne (ne_of_none eb hz), upd_ne (ne_of_none eb hdz)]
      exact eb
    have rowp : RowAt H0 pa (Uw88.moved r i) := .inl (by rw [rowKey_kV]; exact hpa)
    refine ⟨z, dz, pa, Uw88.moved r i, rfl, upd_same, RowAt.same rowp s0, fi.moved hi, fun H1 RF k1 => ⟨rfl, ?_⟩⟩
    have s1 : Same H0 H1 := L2.Same.made hz hdz k1
    obtain ⟨dz', c, lz, a9, k, t9, rest9, hL9, hk, RA, ha9⟩ := id RF
    exact ⟨z, dz', _, rfl, RA.self, rf_no c lz (some a9) (by decide) (by decide) (by decide), _, rfl, z, y, Uw88.moved r i, t, rfl, RF, RowAt.same hy (s00.trans s1), q H1 (s00.trans s1)⟩
theorem scPSafe : FnScope ["self", "stones", "target", "leading", "stone"] ["self", "stones"] (defScope sPSafe) := ⟨rfl, rfl, rfl, by decide +kernel, rfl, by decide +kernel, by decide +kernel⟩
theorem ok_psafe {f fF fM fS C : Addr} {fd dF dM dS : FuncData} (F : Fun K "safe" "Pond.safe" sPSafe f fd) (T : Txt K mg) (R : ClsP K mg C)
    (mF : Meth K C "fits" fF) (bF : Binds K dF ["self", "stones"] []) (GF : FnOk P w K mg base CX0 2 fF dF ["self", "stones"] (spFits C))
    (DM : Def K mg "stones_to_move" sMoves ["row"] fM dM) (GM : FnOk P w K mg base CX0 3 fM dM ["row"] (spMoves K))
    (mS : Meth K C "still_leads" fS) (bS : Binds K dS ["self", "stone", "target"] []) (GS : FnOk P w K mg base CX0 7 fS dS ["self", "stone", "target"] (spStill C)) : FnOk P w K mg base CX0 8 f fd ["self", "stones"] (spPL K C .safe) := by
  refine F.ok scPSafe (fun vs H Q E h => ?_) (fun cdv A outer s H vs Q E hr h => ?_)
  · obtain ⟨x, dx, r, y, l, rfl, _⟩ := h
    rfl
  · obtain ⟨x, dx, r, y, l, rfl, hp, gr, hy, q⟩ := h
    have hr2 : Room 2 _ := hr.mono (by decide)
    have hr3 : Room 3 _ := hr.mono (by decide)
    refine ⟨_, pss_cons (ps_if (pt_not (pt_val (pe_meth (pv 0) R.cl mF GF hr2 bF .nil pass0 (pa_cons (pv 1) pa_nil)))) (pss_one (ps_ret (pe_lst (pa_cons (pe_gi T.NOTTHERE (by rfl)) pa_nil)))) pss_nil)
      (pss_cons (ps_set (i := 2) scPSafe.nd rfl (Or.inr rfl) (pe_callTy call_tuple_of (by rfl) T.tuple PyProof.Rows.boot_tuple (pa_cons (pv 1) pa_nil)))
      (pss_cons (ps_setLc (i := 3) (own := [("stone", 4)]) rfl scPSafe.nd rfl rfl (sw_true rfl rfl rfl rfl) (pi_list (pe_call GM hr3 (by rfl) DM.g DM.F.kp DM.b .nil pass0 (pa_cons (pe_fld (pv 0) rfl) pa_nil)))
        (blkOk_by (by show blkC ["self", "stones", "target", "leading", "stone"] (defScope sPSafe) _ [("stone", 4)] = true; decide +kernel))
        (fun s H C cl fp => pg_name (i := 4) scPSafe.nd rfl (Or.inl rfl))
        (fun s H C cl fp => pts_one (pt_val (pe_meth (pv 0) R.cl mS GS hr bS .nil pass0 (pa_cons (pv 4) (pa_cons (pv 2) pa_nil)))))
        (fun s H C cl fp => pv 4))
      (pss_one (ps_ret (pe_op op_cat (pe_lst (pa_cons (pe_callB call_len_seq (by rfl) T.len PySem.boot_len (pa_cons (pv 3) pa_nil)) pa_nil)) (pv 3)))))), ?_⟩
    obtain ⟨a, hx, ha⟩ := id hp
    have fi := TF.isRow_fine gr
    refine ⟨_, rfl, x, dx, _, rfl, hx, pf_no a (by decide), _, rfl, x, dx, r, y, l, rfl, hp, hy, _, rfl, ?_⟩
    cases e : TF.fits r l with
    | false => exact iteT ⟨(by show 1 ≤ sizeLine; decide), one_int hp q (TF.step_safe_no e)⟩
    | true =>
      refine iteF ?_
      refine ⟨_, rfl, y, _, rfl, .inl ⟨SqL.of hy, fun t ht => ?_⟩⟩
      have s1 : Same H (upd H t (.tup (rv l))) := Same.upd_new ht
      have ht1 : RowAt (upd H t (.tup (rv l))) t l := .inl (by rw [upd_same, rowKey_kV])
      refine ⟨_, rfl, x, C, dx, _, _, rfl, s1 _ _ hx, R.cl, R.nH, pf_h a, a, r, rfl, RowAt.sqT T (RowAt.same ha s1), fi, fun m hm => ?_⟩
      have s2 : Same (upd H t (.tup (rv l))) (upd (upd H t (.tup (rv l))) m (.lst (rv (Uw88.moves r)))) := Same.upd_new hm
      refine ⟨m, rfl, ⟨_, SqL.of upd_same⟩, fun D hD => ?_⟩
      generalize eH : upd (upd H t (.tup (rv l))) m (.lst (rv (Uw88.moves r))) = H2 at s2 hD ⊢
      have hm2 : H2 m = some (.lst (rv (Uw88.moves r))) := by rw [← eH]; exact upd_same
      have s12 : Same H H2 := s1.trans s2
      have mlen := TF.moves_length r
      have rlen := fi.len
      refine lc_list (K := K) (a := m) (xs := rv (Uw88.moves r)) (fun i H' => H' D = some (.lst (rv (((Uw88.moves r).take i).filter fun i => decide (TF.cnt l (Uw88.moved r i) ≠ 0)))) ∧ Same H2 H') ⟨by rw [List.take_zero]; exact upd_same, Same.upd_new hD⟩ (fun i H' _ hP => SqL.of (hP.2 _ _ hm2)) ?_ ?_
      · rintro i v H' hi ⟨h1, h2⟩
        obtain ⟨st, hst, rfl⟩ : ∃ st : Nat, (Uw88.moves r)[i]? = some st ∧ v = V.int (st : Int) := by
          unfold rv at hi
          rw [List.getElem?_map] at hi
          cases e2 : (Uw88.moves r)[i]? with
          | none => rw [e2] at hi; cases hi
          | some z => rw [e2] at hi; exact ⟨z, rfl, (Option.some.inj hi).symm⟩
        have hsm : st ∈ Uw88.moves r := List.mem_of_getElem? hst
        have et := TF.take_snoc hst
        have ef : ((Uw88.moves r).take (i + 1)).filter (fun i => decide (TF.cnt l (Uw88.moved r i) ≠ 0)) = (((Uw88.moves r).take i).filter fun i => decide (TF.cnt l (Uw88.moved r i) ≠ 0)) ++ (if decide (TF.cnt l (Uw88.moved r st) ≠ 0) = true then [st] else []) := by
          rw [et, List.filter_append, List.filter_cons, List.filter_nil]
        have s9 := s12.trans h2
        refine ⟨rfl, _, rfl, x, dx, _, rfl, s9 _ _ hx, pf_no a (by decide), _, rfl, _, rfl, x, dx, r, st, t, l, rfl, hp.same s9, gr, hsm, RowAt.same ht1 (s2.trans h2), fun H3 s3 => ⟨_, rfl, ?_⟩⟩
        cases eb : decide (TF.cnt l (Uw88.moved r st) ≠ 0) with
        | true =>
          rw [eb, if_pos rfl] at ef
          refine iteT ⟨_, rfl, _, s3 _ _ h1, ?_, ?_, ?_⟩
          · rw [rv_len]
            refine line_of9 (Nat.le_trans (List.length_filter_le _ _) ?_)
            rw [List.length_take]
            omega
          · rw [upd_same, ef]
            unfold rv
            rw [List.map_append]
            rfl
          · exact Same.upd_keep (h2.trans s3) hD
        | false =>
          rw [eb, if_neg (by decide), List.append_nil] at ef
          refine iteF ⟨?_, h2.trans s3⟩
          rw [ef]
          exact s3 _ _ h1
      · rintro H' ⟨h1, h2⟩
        rw [rv_len, List.take_length] at h1
        refine ⟨_, rfl, D, _, rfl, .inl (SqL.of h1), (by show 1 ≤ sizeLine; decide), fun n hn => ?_⟩
        have nDn : D ≠ n := ne_of_none h1 hn
        refine ⟨_, rfl, n, D, _, _, rfl, rfl, upd_same, by rw [upd_ne nDn]; exact h1, ?_, fun p hp3 => ?_⟩
        · rw [rv_len]
          have := List.length_filter_le (fun i => decide (TF.cnt l (Uw88.moved r i) ≠ 0)) (Uw88.moves r)
          show 1 + _ ≤ sizeLine
          exact Nat.le_of_lt (line_of9 (by omega))
        refine ret_same hp q (TF.step_safe_yes fi.len e) ?_ ((s12.trans h2).trans (Same.upd_new hn)) hp3
        unfold Uw88.counted
        show V.int _ :: rv _ = V.int _ :: iv (Uw88.ints _)
        rw [iv_ints, rv_len]
end
end Tp
end
section
set_option Elab.async false
set_option linter.all false
set_option maxRecDepth 100000
set_option maxHeartbeats 2000000
namespace Tp
open PySem PySem.Spec PyProof.Rows L2
abbrev sSides : Stmt := top 36
abbrev sEnd : Stmt := top 37
abbrev sSplit : Stmt := top 38
abbrev sCallAns : Stmt := top 39
abbrev sAnswers : Stmt := top 40
theorem iv_len (l : List Int) : (iv l).length = l.length := by unfold iv; rw [List.length_map]
theorem iv_append (a b : List Int) : iv (a ++ b) = iv a ++ iv b := by unfold iv; rw [List.map_append]
theorem iv_at {l : List Int} {i : Nat} {z : Int} (h : l[i]? = some z) : (iv l)[i]? = some (.int z) := by unfold iv; rw [List.getElem?_map, h]; rfl
def spEnd (K : PySem.W.Frag) : Sp := fun vs H Q _ => ∃ (a : Addr) (pre post : List Int) (c : Uw88.Call), vs = [.ref a, .int (pre.length : Int)] ∧ SqL K H a (iv (pre ++ (TF.enc c ++ post))) ∧
  ∀ H', Same H H' → Q (.int ((pre.length + (TF.enc c).length : Nat) : Int)) H'
abbrev PartsAt (H : Hp) : List Addr → List Uw88.Call → Prop := Paired fun b c => H b = some (.lst (iv (TF.enc c)))
def spSplit (K : PySem.W.Frag) : Sp := fun vs H Q _ => ∃ (a : Addr) (cs : List Uw88.Call), vs = [.ref a] ∧ SqL K H a (iv (cs.map TF.enc).flatten) ∧ cs.length ≤ 40 ∧
  ∀ (H' : Hp) (p : Addr) (bs : List Addr), Same H H' → H p = none → H' p = some (.lst (bs.map V.ref)) → PartsAt H' bs cs → (∀ b ∈ bs, H b = none) → Q (.ref p) H'
section
variable {P : Program} {w : World} {K : PySem.W.Frag} {mg : Str → Option Value} {base : Heap}
theorem scEnd : FnScope ["calls", "start", "call"] ["calls", "start"] (defScope sEnd) := ⟨rfl, rfl, rfl, by decide +kernel, rfl, by decide +kernel, by decide +kernel⟩
theorem Same.seqL {K : PySem.W.Frag} {H H' : Hp} {a : Addr} {xs : List V} (s : Same H H') (h : SqL K H a xs) : SqL K H' a xs := L2.Same.seq s h
theorem ok_end {f : Addr} {fd : FuncData} (F : Fun K "call_end" "call_end" sEnd f fd) (T : Txt K mg) : FnOk P w K mg base CX0 1 f fd ["calls", "start"] (spEnd K) := by
  refine F.ok scEnd (fun vs H Q E h => ?_) (fun cdv A outer s H vs Q E hr h => ?_)
  · obtain ⟨a, pre, post, c, rfl, _⟩ := h
    rfl
  · obtain ⟨a, pre, post, c, rfl, hs, q⟩ := h
    refine ⟨_, pss_cons (ps_set (i := 2) scEnd.nd rfl (Or.inl rfl) (pe_ix ix_list (pv 0) (pv 1) (fun _ _ => rfl)))
      (pss_cons (ps_if (pt_cmpR op_in_seq (pv 2) (pe_tup (pa_cons (pe_gi T.ROW (by rfl)) (pa_cons (pe_gi T.TO (by rfl)) (pa_cons (pe_gi T.WAYS (by rfl)) (pa_cons (pe_gi T.SAFE (by rfl)) pa_nil))))) (by rfl))
        (pss_one (ps_ret (pe_op op_add (pe_op op_add (pv 1) pe_int) (pe_ix ix_list (pv 0) (pe_op op_add (pv 1) pe_int) (fun _ _ => rfl))))) pss_nil)
      (pss_cons (ps_if (pt_cmpR op_eq (pv 2) (pe_gi T.MOVE (by rfl)) (nomark _)) (pss_one (ps_ret (pe_op op_add (pv 1) pe_int))) pss_nil)
      (pss_cons (ps_if (pt_cmpR op_eq (pv 2) (pe_gi T.SIDES (by rfl)) (nomark _)) (pss_one (ps_ret (pe_op op_add (pv 1) pe_int))) pss_nil)
      (pss_one (ps_ret (pe_op op_add (pv 1) pe_int)))))), ?_⟩
    obtain ⟨tl, et⟩ := TF.enc_head c
    have h0 : (iv (pre ++ (TF.enc c ++ post)))[pre.length]? = some (.int (TF.cod c)) := iv_at (by rw [List.getElem?_append_right (Nat.le_refl _), Nat.sub_self, et]; rfl)
    refine ⟨_, rfl, _, rfl, a, _, _, _, rfl, rfl, hs, at_of rfl h0, ?_⟩
    refine ⟨_, rfl, (by show 4 ≤ sizeLine; decide), fun t ht => ?_⟩
    have s1 : Same H (upd H t (.tup [V.int 0, V.int 4, V.int 5, V.int 9])) := Same.upd_new ht
    refine ⟨t, _, rfl, .inr (SqT.of upd_same), rfl, rfl, _, rfl, ?_⟩
    have q' := q _ s1
    cases hrow : TF.rows? c with
    | some l =>
      have ec := TF.enc_rows hrow
      have hin : (if (false : Bool) = true then !inV (.int (TF.cod c)) [V.int 0, V.int 4, V.int 5, V.int 9] else inV (.int (TF.cod c)) [V.int 0, V.int 4, V.int 5, V.int 9]) = true := by cases c <;> cases hrow <;> rfl
      rw [hin]
      refine iteT ?_
      have h1 : (iv (pre ++ (TF.enc c ++ post)))[pre.length + 1]? = some (.int (l.length : Int)) := iv_at (by rw [List.getElem?_append_right (by omega), show pre.length + 1 - pre.length = 1 from by omega, ec]; rfl)
      refine ⟨_, rfl, _, _, rfl, rfl, _, rfl, _, rfl, _, _, rfl, rfl, a, _, _, _, rfl, rfl, Same.seqL s1 hs, at_of (j := pre.length + 1) (by simp) h1, _, _, rfl, rfl, ?_⟩
      have e : (pre.length : Int) + 2 + (l.length : Int) = ((pre.length + (TF.enc c).length : Nat) : Int) := by
        rw [ec, List.length_cons, List.length_cons, TF.ints_len]
        omega
      rw [← e] at q'
      exact q'
    | none =>
      have hin : (if (false : Bool) = true then !inV (.int (TF.cod c)) [V.int 0, V.int 4, V.int 5, V.int 9] else inV (.int (TF.cod c)) [V.int 0, V.int 4, V.int 5, V.int 9]) = false := by cases c <;> cases hrow <;> rfl
      rw [hin]
      refine iteF ?_
      refine ⟨_, rfl, rfl, _, rfl, ite2 (fun d => ?_) (fun d => ?_)⟩
      · rw [vint] at d
        refine ⟨_, rfl, _, _, rfl, rfl, ?_⟩
        have e : (pre.length : Int) + 2 = ((pre.length + (TF.enc c).length : Nat) : Int) := by
          rw [TF.enc_two d]
          omega
        rw [← e] at q'
        exact q'
      rw [vint] at d
      refine ⟨_, rfl, rfl, _, rfl, ite2 (fun d2 => ?_) (fun d2 => ?_)⟩
      · rw [vint] at d2
        refine ⟨_, rfl, _, _, rfl, rfl, ?_⟩
        have e : (pre.length : Int) + 4 = ((pre.length + (TF.enc c).length : Nat) : Int) := by
          rw [TF.enc_four d2]
          omega
        rw [← e] at q'
        exact q'
      rw [vint] at d2
      refine ⟨_, rfl, _, _, rfl, rfl, ?_⟩
      have e : (pre.length : Int) + 1 = ((pre.length + (TF.enc c).length : Nat) : Int) := by
        rw [TF.enc_one hrow d d2]
        omega
      rw [← e] at q'
      exact q'
theorem scSplit : FnScope ["calls", "parts", "start", "end"] ["calls"] (defScope sSplit) := ⟨rfl, rfl, rfl, by decide +kernel, rfl, by decide +kernel, by decide +kernel⟩
theorem cut_mid (a b c : List V) : cutV (a ++ (b ++ c)) (some (a.length : Int)) (some ((a.length + b.length : Nat) : Int)) = b := by
  unfold cutV
  rw [HT.sIx_nat, HT.sIx_nat]
  have e1 : min a.length (a ++ (b ++ c)).length = a.length := by rw [List.length_append]; omega
  have e2 : min (a.length + b.length) (a ++ (b ++ c)).length = a.length + b.length := by rw [List.length_append, List.length_append]; omega
  rw [e1, e2, List.drop_left, Nat.add_sub_cancel_left, List.take_left]
theorem ok_split {f fE : Addr} {fd dE : FuncData} (F : Fun K "split_calls" "split_calls" sSplit f fd) (T : Txt K mg) (DE : Def K mg "call_end" sEnd ["calls", "start"] fE dE) : FnOk P w K mg base CX0 2 f fd ["calls"] (spSplit K) := by
  have GE : FnOk P w K mg base CX0 1 fE dE ["calls", "start"] (spEnd K) := ok_end DE.F T
  refine F.ok scSplit (fun vs H Q E h => ?_) (fun cdv A outer s H vs Q E hr h => ?_)
  · obtain ⟨a, cs, rfl, _⟩ := h
    rfl
  · obtain ⟨a, cs, rfl, hs, h40, q⟩ := h
    refine ⟨_, pss_cons (ps_set (i := 1) scSplit.nd rfl (Or.inl rfl) (pe_lst pa_nil))
      (pss_cons (ps_set (i := 2) scSplit.nd rfl (Or.inl rfl) pe_int)
      (pss_cons (ps_while PassesOwn.never (pt_cmpR op_lt (pv 2) (pe_callB call_len_seq (by rfl) T.len PySem.boot_len (pa_cons (pv 0) pa_nil)) (nomark _))
        (pss_cons (ps_set (i := 3) scSplit.nd rfl (Or.inl rfl) (pe_call GE hr (by rfl) DE.g DE.F.kp DE.b .nil pass0 (pa_cons (pv 0) (pa_cons (pv 2) pa_nil))))
        (pss_cons (ps_expr (pe_bm PySem.F.plainAttrs_list PySem.F.slot_list_append PySem.F.type_list_append mt_append (pv 1) (pa_cons (pe_slice sl_list (pv 0) (po_some (pv 2)) (po_some (pv 3))) pa_nil)))
        (pss_one (ps_set (i := 2) scSplit.nd rfl (Or.inl rfl) (pv 3))))))
      (pss_one (ps_ret (pv 1))))), ?_⟩
    refine ⟨Nat.zero_le _, fun p hp => ?_⟩
    let WI : Nat → L2.St → Hp → Prop := fun m σ H' => ∃ (i : Nat) (bs : List Addr) (v3 : Option V), m + i = cs.length ∧ σ = [some (.ref a), some (.ref p), some (.int (((cs.take i).map TF.enc).flatten.length : Int)), v3] ∧ Same H H' ∧ H' p = some (.lst (bs.map V.ref)) ∧ PartsAt H' bs (cs.take i) ∧ ∀ b ∈ bs, H b = none
    refine ⟨WI, ⟨cs.length, 0, [], none, by omega, rfl, Same.upd_new hp, upd_same, by rw [List.take_zero]; exact .nil, fun _ z => nomatch z⟩, ?_⟩
    rintro m σ H' ⟨i, bs, v3, em, rfl, sm, hp', hparts, hnew⟩
    refine ⟨_, rfl, _, rfl, a, _, rfl, .inl (Same.seqL sm hs), _, _, rfl, rfl, _, rfl, ?_⟩
    have ecs : cs.take i ++ cs.drop i = cs := List.take_append_drop i cs
    have efl : (cs.map TF.enc).flatten = ((cs.take i).map TF.enc).flatten ++ ((cs.drop i).map TF.enc).flatten := by
      rw [← List.flatten_append, ← List.map_append, ecs]
    by_cases hi : i < cs.length
    · obtain ⟨c, hc⟩ : ∃ c, cs[i]? = some c := ⟨cs[i], List.getElem?_eq_getElem hi⟩
      have ed : cs.drop i = c :: cs.drop (i + 1) := by
        rw [List.drop_eq_getElem_cons hi]
        congr 1
        rw [List.getElem?_eq_getElem hi] at hc
        exact Option.some.inj hc
      have efl2 : (cs.map TF.enc).flatten = ((cs.take i).map TF.enc).flatten ++ (TF.enc c ++ ((cs.drop (i + 1)).map TF.enc).flatten) := by
        rw [efl, ed, List.map_cons, List.flatten_cons]
      obtain ⟨tl, et⟩ := TF.enc_head c
      have hlt : decide (((((cs.take i).map TF.enc).flatten.length : Nat) : Int) < ((iv (cs.map TF.enc).flatten).length : Nat)) = true := by
        rw [decide_eq_true_iff, iv_len, efl2, List.length_append, List.length_append, et, List.length_cons]
        omega
      rw [hlt]
      refine iteT ⟨fun σ H2 => ∃ (bs : List Addr) (v3 : Option V), σ = [some (.ref a), some (.ref p), some (.int (((cs.take (i + 1)).map TF.enc).flatten.length : Int)), v3] ∧ Same H H2 ∧ H2 p = some (.lst (bs.map V.ref)) ∧ PartsAt H2 bs (cs.take (i + 1)) ∧ ∀ b ∈ bs, H b = none, ?_, ?_⟩
      · rintro σ H2 ⟨bs2, v2, n1, n2, n3, n4, n5⟩
        exact ⟨m - 1, by omega, i + 1, bs2, v2, by omega, n1, n2, n3, n4, n5⟩
      have hs2 : SqL K H' a (iv (((cs.take i).map TF.enc).flatten ++ (TF.enc c ++ ((cs.drop (i + 1)).map TF.enc).flatten))) := by rw [← efl2]; exact Same.seqL sm hs
      refine ⟨_, rfl, _, rfl, a, _, _, c, rfl, hs2, fun H2 s2 => ?_⟩
      have hp2 := s2 _ _ hp'
      refine ⟨_, rfl, .inl ⟨rfl, _, SqL.of hp2⟩, _, rfl, _, rfl, _, rfl, _, rfl, _, rfl, a, _, rfl, Same.seqL s2 hs2, fun b hb => ?_⟩
      have npb : p ≠ b := ne_of_none hp2 hb
      have lb := Paired.length hparts
      rw [List.length_take] at lb
      refine ⟨p, _, _, rfl, rfl, by rw [upd_ne npb]; exact hp2, by rw [List.length_map]; exact line_of9 (by omega), ?_⟩
      refine ⟨_, rfl, ?_⟩
      have ecut : cutV (iv (((cs.take i).map TF.enc).flatten ++ (TF.enc c ++ ((cs.drop (i + 1)).map TF.enc).flatten))) (some ((((cs.take i).map TF.enc).flatten.length : Nat) : Int)) (some (((((cs.take i).map TF.enc).flatten.length + (TF.enc c).length : Nat)) : Int)) = iv (TF.enc c) := by
        have e := cut_mid (iv ((cs.take i).map TF.enc).flatten) (iv (TF.enc c)) (iv ((cs.drop (i + 1)).map TF.enc).flatten)
        rw [iv_len, iv_len] at e
        rw [iv_append, iv_append]
        exact e
      have hbH : H b = none := (sm.trans s2).free hb
      refine ⟨bs ++ [b], some (.int ((((cs.take i).map TF.enc).flatten.length + (TF.enc c).length : Nat) : Int)), ?_, ?_, ?_, ?_, ?_⟩
      · have el : ((cs.take (i + 1)).map TF.enc).flatten.length = ((cs.take i).map TF.enc).flatten.length + (TF.enc c).length := by
          rw [TF.take_snoc hc, List.map_append, List.flatten_append, List.length_append]
          simp
        rw [el]
        rfl
      · rw [ecut]
        intro z o ez
        have nzp : z ≠ p := ne_of_none ez hp
        rw [upd_ne nzp, upd_ne (ne_of_none ez hbH)]
        exact s2 _ _ (sm _ _ ez)
      · rw [upd_same, List.map_append]
        rfl
      · rw [TF.take_snoc hc, ecut]
        refine Paired.snoc (Paired.mapP hparts fun z d hz => ?_) ?_
        · have nzp : z ≠ p := fun y => by
            rw [y, hp'] at hz
            obtain ⟨tl, et⟩ := TF.enc_head d
            rw [et] at hz
            injection hz with hz
            injection hz with hz
            cases bs with
            | nil => cases hz
            | cons b0 bs =>
              injection hz with h1 _
              cases h1
          have h2 := s2 _ _ hz
          rw [upd_ne nzp, upd_ne (ne_of_none h2 hb)]
          exact h2
        · rw [upd_ne npb.symm, upd_same]
      · intro z hz
        rcases List.mem_append.mp hz with hz | hz
        · exact hnew z hz
        · rw [List.mem_singleton.mp hz]
          exact hbH
    · have ei : i = cs.length := by omega
      have hge : decide (((((cs.take i).map TF.enc).flatten.length : Nat) : Int) < ((iv (cs.map TF.enc).flatten).length : Nat)) = false := by
        rw [decide_eq_false_iff_not, iv_len, ei, List.take_length]
        omega
      rw [hge]
      refine iteF ?_
      rw [ei, List.take_length] at hparts
      exact ⟨_, rfl, q H' p bs sm hp hp' hparts hnew⟩
end
end Tp
end
section
set_option Elab.async false
set_option linter.all false
set_option maxRecDepth 100000
set_option maxHeartbeats 2000000
namespace Tp
open PySem PySem.Spec PyProof.Rows L2
def sidesAns (a b g : Nat) : List Int := (Uw88.step [] (.sides a b g)).2
theorem sides_step (r : List Nat) (a b g : Nat) : Uw88.step r (.sides a b g) = (r, sidesAns a b g) := rfl
def spSides : Sp := fun vs H Q _ => ∃ (a b g : Nat), vs = [.int (a : Int), .int (b : Int), .int (g : Int)] ∧ ∀ (H' : Hp) (p : Addr), Same H H' → H p = none → H' p = some (.lst (iv (sidesAns a b g))) → Q (.ref p) H'
theorem rv_append (a b : List Nat) : rv (a ++ b) = rv a ++ rv b := by unfold rv; rw [List.map_append]
theorem rv_rep (k n : Nat) : rv (List.replicate k n) = List.replicate k (V.int (n : Int)) := by unfold rv; rw [List.map_replicate]
theorem rv_apart (a b g : Nat) : (List.replicate a (V.int 1) ++ List.replicate g (V.int 0)) ++ List.replicate b (V.int 2) = rv (Uw88.apartRow a b g) := by
  unfold Uw88.apartRow
  rw [rv_append, rv_append, rv_rep, rv_rep, rv_rep, List.append_assoc]
  rfl
theorem rv_cross (a b g : Nat) : (List.replicate b (V.int 2) ++ List.replicate g (V.int 0)) ++ List.replicate a (V.int 1) = rv (Uw88.crossRow a b g) := by
  unfold Uw88.crossRow
  rw [rv_append, rv_append, rv_rep, rv_rep, rv_rep, List.append_assoc]
  rfl
section
variable {P : Program} {w : World} {K : PySem.W.Frag} {mg : Str → Option Value} {base : Heap}
theorem scSides : FnScope ["toads", "frogs", "gap", "together", "on_left", "on_right", "between", "reach", "target"] ["toads", "frogs", "gap"] (defScope sSides) := ⟨rfl, rfl, rfl, by decide +kernel, rfl, by decide +kernel, by decide +kernel⟩
theorem ok_sides {f fR fC fW CR : Addr} {fd dR dC dW : FuncData} (F : Fun K "sides" "sides" sSides f fd) (T : Txt K mg) (RR : ClsR K mg CR)
    (MR : Mk K CR fR) (bR : Binds K dR ["self", "start"] []) (GR : FnOk P w K mg base CX0 5 fR dR ["self", "start"] (spRInit CR))
    (mC : Meth K CR "can_come" fC) (bC : Binds K dC ["self", "row"] []) (GC : FnOk P w K mg base CX0 1 fC dC ["self", "row"] (spCan CR))
    (mW : Meth K CR "first_way" fW) (bW : Binds K dW ["self", "row"] []) (GW : FnOk P w K mg base CX0 1 fW dW ["self", "row"] (spFirst CR)) : FnOk P w K mg base CX0 7 f fd ["toads", "frogs", "gap"] spSides := by
  refine F.ok scSides (fun vs H Q E h => ?_) (fun cdv A outer s H vs Q E hr h => ?_)
  · obtain ⟨a, b, g, rfl, _⟩ := h
    rfl
  · obtain ⟨a, b, g, rfl, q⟩ := h
    have hr1 : Room 1 _ := hr.mono (by decide)
    refine ⟨_, pss_cons (ps_set (i := 3) scSides.nd rfl (Or.inl rfl) (pe_op op_add (pe_op op_add (pv 0) (pv 1)) (pv 2)))
      (pss_cons (ps_if (pw_or (pt_cmpR op_lt (pv 3) pe_int (nomark _)) (pw_or1 (pt_cmpR op_gt (pv 3) (pe_gi T.MOST (by rfl)) (nomark _)))).pt (pss_one (ps_ret (pe_lst (pa_cons (pe_gi T.NOTTHERE (by rfl)) pa_nil)))) pss_nil)
      (pss_cons (ps_set (i := 4) scSides.nd rfl (Or.inl rfl) (pe_op op_repT (pe_tup (pa_cons (pe_gi T.TOAD (by rfl)) pa_nil)) (pv 0)))
      (pss_cons (ps_set (i := 5) scSides.nd rfl (Or.inl rfl) (pe_op op_repT (pe_tup (pa_cons (pe_gi T.FROG (by rfl)) pa_nil)) (pv 1)))
      (pss_cons (ps_set (i := 6) scSides.nd rfl (Or.inl rfl) (pe_op op_repT (pe_tup (pa_cons (pe_gi T.FREE (by rfl)) pa_nil)) (pv 2)))
      (pss_cons (ps_set (i := 7) scSides.nd rfl (Or.inl rfl) (pe_make MR GR hr (by rfl) RR.mgC bR .nil pass0 (pa_cons (pe_op op_catS (pe_op op_catS (pv 4) (pv 6)) (pv 5)) pa_nil)))
      (pss_cons (ps_set (i := 8) scSides.nd rfl (Or.inl rfl) (pe_op op_catS (pe_op op_catS (pv 5) (pv 6)) (pv 4)))
      (pss_cons (ps_if (pt_not (pt_val (pe_meth (pv 7) RR.cl mC GC hr1 bC .nil pass0 (pa_cons (pv 8) pa_nil)))) (pss_one (ps_ret (pe_lst (pa_cons (pe_gi T.CANTCOME (by rfl)) pa_nil)))) pss_nil)
      (pss_one (ps_ret (pe_lst (pa_cons (pe_callB call_len_seq (by rfl) T.len PySem.boot_len (pa_cons (pe_meth (pv 7) RR.cl mW GW hr1 bW .nil pass0 (pa_cons (pv 8) pa_nil)) pa_nil)) pa_nil)))))))))))
      , ?_⟩
    have fin : ∀ (H1 : Hp) (p : Addr) (z : Int), Same H H1 → H1 p = none → sidesAns a b g = [z] → Q (.ref p) (upd H1 p (.lst [V.int z])) := fun H1 p z s1 hn e => by
      refine q _ p (s1.trans (Same.upd_new hn)) (s1.free hn) ?_
      rw [upd_same, e]
      rfl
    refine ⟨_, rfl, _, rfl, _, _, rfl, rfl, _, rfl, _, _, rfl, rfl, ?_⟩
    refine ⟨_, rfl, _, _, rfl, rfl, _, rfl, ite2 (fun c => ?_) (fun c => ?_)⟩
    · have c' : (a : Int) + (b : Int) + (g : Int) < 1 := of_decide_eq_true c
      have bad : TF.badSides a b g := by unfold TF.badSides; omega
      exact iteT ⟨(by show 1 ≤ sizeLine; decide), fun p hp => fin H p _ (fun _ _ e => e) hp (congrArg Prod.snd (TF.step_sides_no (r := []) bad))⟩
    have c' : ¬ (a : Int) + (b : Int) + (g : Int) < 1 := fun h => c (decide_eq_true h)
    refine ⟨_, rfl, _, _, rfl, rfl, _, rfl, ite2 (fun d => ?_) (fun d => ?_)⟩
    · have d' : (9 : Int) < (a : Int) + (b : Int) + (g : Int) := of_decide_eq_true d
      have bad : TF.badSides a b g := by unfold TF.badSides; omega
      exact ⟨(by show 1 ≤ sizeLine; decide), fun p hp => fin H p _ (fun _ _ e => e) hp (congrArg Prod.snd (TF.step_sides_no (r := []) bad))⟩
    have d' : ¬ (9 : Int) < (a : Int) + (b : Int) + (g : Int) := fun h => d (decide_eq_true h)
    have nb : ¬ TF.badSides a b g := by unfold TF.badSides; omega
    have gr := TF.apart_fine nb
    have fi := TF.isRow_fine gr
    have big : 1000 ≤ sizeLine := by decide
    refine ⟨(by show 1 ≤ sizeLine; decide), fun t1 ht1 => ?_⟩
    refine ⟨_, rfl, t1, _, a, rfl, rfl, upd_same, by omega, fun H1 p1 s1 h1 => ?_⟩
    refine ⟨(by show 1 ≤ sizeLine; decide), fun t2 ht2 => ?_⟩
    refine ⟨_, rfl, t2, _, b, rfl, rfl, upd_same, by omega, fun H2 p2 s2 h2 => ?_⟩
    refine ⟨(by show 1 ≤ sizeLine; decide), fun t3 ht3 => ?_⟩
    refine ⟨_, rfl, t3, _, g, rfl, rfl, upd_same, by omega, fun H3 p3 s3 h3 => ?_⟩
    have q1 : Same H H1 := (Same.upd_new ht1).trans s1
    have q2 : Same H1 H2 := (Same.upd_new ht2).trans s2
    have q3 : Same H2 H3 := (Same.upd_new ht3).trans s3
    have h1' := q3 _ _ (q2 _ _ h1)
    have h2' := q3 _ _ h2
    have l3 : ∀ (x y z : Nat) (u v w : V), x + y + z ≤ 9 → (List.replicate x u ++ List.replicate y v).length + (List.replicate z w).length ≤ sizeLine := fun x y z u v w e => by
      rw [List.length_append, List.length_replicate, List.length_replicate, List.length_replicate]
      omega
    have l2 : ∀ (x y : Nat) (u v : V), x + y ≤ 9 → (List.replicate x u).length + (List.replicate y v).length ≤ sizeLine := fun x y u v e => by
      rw [List.length_replicate, List.length_replicate]
      omega
    refine ⟨_, rfl, _, rfl, p1, p3, _, _, rfl, rfl, h1', h3, l2 _ _ _ _ (by omega), fun H4 p4 s4 h4 => ?_⟩
    refine ⟨_, rfl, p4, p2, _, _, rfl, rfl, h4, s4 _ _ h2', l3 _ _ _ _ _ _ (by omega), fun H5 p5 s5 h5 => ?_⟩
    rw [rv_apart] at h5
    intro z dz hz hdz ndz
    have s0 : Same H5 (upd (upd H5 dz (.own z)) z (.ins CR dz [])) := fun b o eb => by
      rw [upd_ne (ne_of_none eb hz), upd_ne (ne_of_none eb hdz)]
      exact eb
    have rowp : RowAt H5 p5 (Uw88.apartRow a b g) := .inl (by rw [rowKey_kV]; exact h5)
    refine ⟨z, dz, p5, Uw88.apartRow a b g, rfl, upd_same, RowAt.same rowp s0, fi, fun H6 RF k1 => ⟨rfl, ?_⟩⟩
    have s6 : Same H5 H6 := L2.Same.made hz hdz k1
    have q6 : Same H3 H6 := (s4.trans s5).trans s6
    refine ⟨_, rfl, _, rfl, p2, p3, _, _, rfl, rfl, q6 _ _ h2', q6 _ _ h3, l2 _ _ _ _ (by omega), fun H7 p7 s7 h7 => ?_⟩
    refine ⟨_, rfl, p7, p1, _, _, rfl, rfl, h7, s7 _ _ (q6 _ _ h1'), l3 _ _ _ _ _ _ (by omega), fun H8 p8 s8 h8 => ?_⟩
    rw [rv_cross] at h8
    have q8 : Same H H8 := (((q1.trans q2).trans q3).trans q6).trans (s7.trans s8)
    have RF8 := RF.same (s7.trans s8)
    have row8 : RowAt H8 p8 (Uw88.crossRow a b g) := .inl (by rw [rowKey_kV]; exact h8)
    obtain ⟨dz', c9, lz, a9, k, t9, rest9, hL9, hk, RA, ha9⟩ := id RF8
    refine ⟨_, rfl, z, dz', _, rfl, RA.self, rf_no c9 lz (some a9) (by decide) (by decide) (by decide), _, rfl, z, p8, Uw88.apartRow a b g, Uw88.crossRow a b g, rfl, RF8, row8, _, rfl, ?_⟩
    by_cases ct : TF.cnt (Uw88.crossRow a b g) (Uw88.apartRow a b g) = 0
    · have ed : decide (TF.cnt (Uw88.crossRow a b g) (Uw88.apartRow a b g) ≠ 0) = false := by simp [ct]
      rw [ed]
      exact iteT ⟨(by show 1 ≤ sizeLine; decide), fun p hp => fin H8 p _ q8 hp (congrArg Prod.snd (TF.step_sides_none (r := []) nb ct))⟩
    · have ed : decide (TF.cnt (Uw88.crossRow a b g) (Uw88.apartRow a b g) ≠ 0) = true := by simp [ct]
      rw [ed]
      refine iteF ?_
      refine ⟨_, rfl, z, dz', _, rfl, RA.self, rf_no c9 lz (some a9) (by decide) (by decide) (by decide), _, rfl, z, p8, Uw88.apartRow a b g, Uw88.crossRow a b g, rfl, RF8, fi, row8, ct, fun H9 wy s9 hw0 hw => ?_⟩
      refine ⟨wy, _, rfl, .inl (SqL.of hw), (by show 1 ≤ sizeLine; decide), fun p hp => ?_⟩
      refine fin H9 p _ (q8.trans s9) hp ?_
      rw [rv_len]
      exact congrArg Prod.snd (TF.step_sides_yes (r := []) nb ct)
end
end Tp
end
section
set_option Elab.async false
set_option linter.all false
set_option maxRecDepth 100000
set_option maxHeartbeats 2000000
namespace Tp
open PySem PySem.Spec PyProof.Rows L2
theorem paired_mem {α β : Type} {F G : α → β → Prop} : ∀ {l₁ : List α} {l₂ : List β}, Paired F l₁ l₂ → (∀ a ∈ l₁, ∀ b, F a b → G a b) → Paired G l₁ l₂
  | _, _, .nil, _ => .nil
  | _, _, .cons r t, f => .cons (f _ (List.mem_cons_self ..) _ r) (paired_mem t fun a ha b => f a (List.mem_cons_of_mem _ ha) b)
theorem Ret.weaken {C x dx : Addr} {H H1 : Hp} {r : List Nat} {c : Uw88.Call} {Q : VK} (s : Same H H1) (q : Ret C x dx H r c Q) : Ret C x dx H1 r c Q :=
  fun H' p h1 h2 h3 h4 => q H' p h1 (s.free h2) h3 fun b o e n => h4 b o (s b o e) n
def spCallAns (C : Addr) : Sp := fun vs H Q _ => ∃ (x dx y : Addr) (r : List Nat) (c : Uw88.Call), vs = [.ref x, .ref y] ∧ PondAt C H x dx r ∧ Uw88.isRow r = true ∧ H y = some (.lst (iv (TF.enc c))) ∧ Ret C x dx H r c Q
theorem cut_two (a b : V) (l : List V) : cutV (a :: b :: l) (some 2) none = l := by
  unfold cutV
  have e : HT.sIx (a :: b :: l).length 0 (some 2) = 2 := by
    have := HT.sIx_nat (a :: b :: l).length 0 2
    rw [show (some ((2 : Nat) : Int)) = some (2 : Int) from rfl] at this
    rw [this, List.length_cons, List.length_cons]
    omega
  rw [e, HT.sIx_none]
  show l.take (l.length + 1 + 1 - 2) = l
  exact List.take_of_length_le (by omega)
/-- the methods of Pond as answer_call reaches them -/
structure PondOk (P : Program) (w : World) (K : PySem.W.Frag) (mg : Str → Option Value) (base : Heap) (C : Addr) (fRo fMo fMs fSh fTo fWa fCo fSt fLo fSa fSi : Addr) (dRo dMo dMs dSh dTo dWa dCo dSt dLo dSa dSi : FuncData) : Prop where
  mRo : Meth K C "row" fRo
  mMo : Meth K C "move" fMo
  mMs : Meth K C "moves" fMs
  mSh : Meth K C "shows" fSh
  mTo : Meth K C "to" fTo
  mWa : Meth K C "ways" fWa
  mCo : Meth K C "comes" fCo
  mSt : Meth K C "stucks" fSt
  mLo : Meth K C "longest" fLo
  mSa : Meth K C "safe" fSa
  bRo : Binds K dRo ["self", "stones"] []
  bMo : Binds K dMo ["self", "stone"] []
  bMs : Binds K dMs ["self"] []
  bSh : Binds K dSh ["self"] []
  bTo : Binds K dTo ["self", "stones"] []
  bWa : Binds K dWa ["self", "stones"] []
  bCo : Binds K dCo ["self"] []
  bSt : Binds K dSt ["self"] []
  bLo : Binds K dLo ["self"] []
  bSa : Binds K dSa ["self", "stones"] []
  gRo : FnOk P w K mg base CX0 4 fRo dRo ["self", "stones"] (spPL K C .row)
  gMo : FnOk P w K mg base CX0 4 fMo dMo ["self", "stone"] (spPMove C)
  gMs : FnOk P w K mg base CX0 4 fMs dMs ["self"] (spP0 C .moves)
  gSh : FnOk P w K mg base CX0 1 fSh dSh ["self"] (spP0 C .shows)
  gTo : FnOk P w K mg base CX0 7 fTo dTo ["self", "stones"] (spPL K C .to)
  gWa : FnOk P w K mg base CX0 7 fWa dWa ["self", "stones"] (spPL K C .ways)
  gCo : FnOk P w K mg base CX0 7 fCo dCo ["self"] (spP0 C .comes)
  gSt : FnOk P w K mg base CX0 7 fSt dSt ["self"] (spP0 C .stucks)
  gLo : FnOk P w K mg base CX0 7 fLo dLo ["self"] (spP0 C .longest)
  gSa : FnOk P w K mg base CX0 8 fSa dSa ["self", "stones"] (spPL K C .safe)
  DSi : Def K mg "sides" sSides ["toads", "frogs", "gap"] fSi dSi
  gSi : FnOk P w K mg base CX0 7 fSi dSi ["toads", "frogs", "gap"] spSides
section
variable {P : Program} {w : World} {K : PySem.W.Frag} {mg : Str → Option Value} {base : Heap}
theorem scCallAns : FnScope ["pond", "part", "call"] ["pond", "part"] (defScope sCallAns) := ⟨rfl, rfl, rfl, by decide +kernel, rfl, by decide +kernel, by decide +kernel⟩
theorem ok_callans {f C : Addr} {fd : FuncData} {fRo fMo fMs fSh fTo fWa fCo fSt fLo fSa fSi : Addr} {dRo dMo dMs dSh dTo dWa dCo dSt dLo dSa dSi : FuncData} (F : Fun K "answer_call" "answer_call" sCallAns f fd) (T : Txt K mg) (R : ClsP K mg C)
    (M : PondOk P w K mg base C fRo fMo fMs fSh fTo fWa fCo fSt fLo fSa fSi dRo dMo dMs dSh dTo dWa dCo dSt dLo dSa dSi) : FnOk P w K mg base CX0 9 f fd ["pond", "part"] (spCallAns C) := by
  refine F.ok scCallAns (fun vs H Q E h => ?_) (fun cdv A outer s H vs Q E hr h => ?_)
  · obtain ⟨x, dx, y, r, c, rfl, _⟩ := h
    rfl
  · obtain ⟨x, dx, y, r, c, rfl, hp, gr, hy, q⟩ := h
    have hr1 : Room 1 _ := hr.mono (by decide)
    have hr4 : Room 4 _ := hr.mono (by decide)
    have hr7 : Room 7 _ := hr.mono (by decide)
    refine ⟨_, pss_cons (ps_set (i := 2) scCallAns.nd rfl (Or.inl rfl) (pe_ix ix_list (pv 1) pe_int (fun _ _ => rfl)))
      (pss_cons (ps_if (pt_cmpR op_eq (pv 2) (pe_gi T.ROW (by rfl)) (nomark _)) (pss_one (ps_ret (pe_meth (pv 0) R.cl M.mRo M.gRo hr4 M.bRo .nil pass0 (pa_cons (pe_slice sl_list (pv 1) (po_some pe_int) po_none) pa_nil)))) pss_nil)
      (pss_cons (ps_if (pt_cmpR op_eq (pv 2) (pe_gi T.MOVE (by rfl)) (nomark _)) (pss_one (ps_ret (pe_meth (pv 0) R.cl M.mMo M.gMo hr4 M.bMo .nil pass0 (pa_cons (pe_ix ix_list (pv 1) pe_int (fun _ _ => rfl)) pa_nil)))) pss_nil)
      (pss_cons (ps_if (pt_cmpR op_eq (pv 2) (pe_gi T.MOVES (by rfl)) (nomark _)) (pss_one (ps_ret (pe_meth0 (pv 0) R.cl M.mMs M.gMs hr4 M.bMs .nil pass0))) pss_nil)
      (pss_cons (ps_if (pt_cmpR op_eq (pv 2) (pe_gi T.SHOWS (by rfl)) (nomark _)) (pss_one (ps_ret (pe_meth0 (pv 0) R.cl M.mSh M.gSh hr1 M.bSh .nil pass0))) pss_nil)
      (pss_cons (ps_if (pt_cmpR op_eq (pv 2) (pe_gi T.TO (by rfl)) (nomark _)) (pss_one (ps_ret (pe_meth (pv 0) R.cl M.mTo M.gTo hr7 M.bTo .nil pass0 (pa_cons (pe_slice sl_list (pv 1) (po_some pe_int) po_none) pa_nil)))) pss_nil)
      (pss_cons (ps_if (pt_cmpR op_eq (pv 2) (pe_gi T.WAYS (by rfl)) (nomark _)) (pss_one (ps_ret (pe_meth (pv 0) R.cl M.mWa M.gWa hr7 M.bWa .nil pass0 (pa_cons (pe_slice sl_list (pv 1) (po_some pe_int) po_none) pa_nil)))) pss_nil)
      (pss_cons (ps_if (pt_cmpR op_eq (pv 2) (pe_gi T.COMES (by rfl)) (nomark _)) (pss_one (ps_ret (pe_meth0 (pv 0) R.cl M.mCo M.gCo hr7 M.bCo .nil pass0))) pss_nil)
      (pss_cons (ps_if (pt_cmpR op_eq (pv 2) (pe_gi T.STUCKS (by rfl)) (nomark _)) (pss_one (ps_ret (pe_meth0 (pv 0) R.cl M.mSt M.gSt hr7 M.bSt .nil pass0))) pss_nil)
      (pss_cons (ps_if (pt_cmpR op_eq (pv 2) (pe_gi T.LONGEST (by rfl)) (nomark _)) (pss_one (ps_ret (pe_meth0 (pv 0) R.cl M.mLo M.gLo hr7 M.bLo .nil pass0))) pss_nil)
      (pss_cons (ps_if (pt_cmpR op_eq (pv 2) (pe_gi T.SAFE (by rfl)) (nomark _)) (pss_one (ps_ret (pe_meth (pv 0) R.cl M.mSa M.gSa hr M.bSa .nil pass0 (pa_cons (pe_slice sl_list (pv 1) (po_some pe_int) po_none) pa_nil)))) pss_nil)
      (pss_one (ps_ret (pe_call M.gSi hr7 (by rfl) M.DSi.g M.DSi.F.kp M.DSi.b .nil pass0 (pa_cons (pe_ix ix_list (pv 1) pe_int (fun _ _ => rfl)) (pa_cons (pe_ix ix_list (pv 1) pe_int (fun _ _ => rfl)) (pa_cons (pe_ix ix_list (pv 1) pe_int (fun _ _ => rfl)) pa_nil)))))))))))))))), ?_⟩
    obtain ⟨a, hx, ha⟩ := id hp
    obtain ⟨tl, et⟩ := TF.enc_head c
    have h0 : (iv (TF.enc c))[0]? = some (.int (TF.cod c)) := iv_at (by rw [et]; rfl)
    refine ⟨_, rfl, y, _, 0, _, rfl, rfl, SqL.of hy, at_of (j := 0) rfl h0, ?_⟩
    have row : ∀ (l : List Nat), TF.rows? c = some l → ∀ (mk : List Nat → Uw88.Call), mk l = c → ∀ s, H s = none → spPL K C mk [.ref x, .ref s] (upd H s (.lst (cutV (iv (TF.enc c)) (some 2) none))) Q E := fun l hl mk em s hs => by
      have ec := TF.enc_rows hl
      have e1 : cutV (iv (TF.enc c)) (some 2) none = rv l := by
        rw [ec]
        show cutV (V.int _ :: V.int _ :: iv (Uw88.ints l)) (some 2) none = rv l
        rw [cut_two, iv_ints]
      rw [e1]
      exact ⟨x, dx, r, s, l, rfl, hp.same (Same.upd_new hs), gr, upd_same, by rw [em]; exact Ret.weaken (Same.upd_new hs) q⟩
    cases c with
    | row l => exact ⟨_, rfl, rfl, _, rfl, iteT ⟨_, rfl, x, dx, _, rfl, hx, pf_no a (by decide), _, rfl, 2, rfl, y, _, rfl, SqL.of hy, fun s hs => row l rfl .row rfl s hs⟩⟩
    | move i =>
      refine ⟨_, rfl, rfl, _, rfl, iteF ?_⟩
      exact ⟨_, rfl, rfl, _, rfl, iteT ⟨_, rfl, x, dx, _, rfl, hx, pf_no a (by decide), _, rfl, y, _, 1, _, rfl, rfl, SqL.of hy, at_of (j := 1) rfl rfl, x, dx, r, i, rfl, hp, gr, q⟩⟩
    | moves =>
      refine ⟨_, rfl, rfl, _, rfl, iteF ?_⟩
      refine ⟨_, rfl, rfl, _, rfl, iteF ?_⟩
      exact ⟨_, rfl, rfl, _, rfl, iteT ⟨_, rfl, x, dx, _, rfl, hx, pf_no a (by decide), x, dx, r, rfl, hp, gr, q⟩⟩
    | shows =>
      refine ⟨_, rfl, rfl, _, rfl, iteF ?_⟩
      refine ⟨_, rfl, rfl, _, rfl, iteF ?_⟩
      refine ⟨_, rfl, rfl, _, rfl, iteF ?_⟩
      exact ⟨_, rfl, rfl, _, rfl, iteT ⟨_, rfl, x, dx, _, rfl, hx, pf_no a (by decide), x, dx, r, rfl, hp, gr, q⟩⟩
    | to l =>
      refine ⟨_, rfl, rfl, _, rfl, iteF ?_⟩
      refine ⟨_, rfl, rfl, _, rfl, iteF ?_⟩
      refine ⟨_, rfl, rfl, _, rfl, iteF ?_⟩
      refine ⟨_, rfl, rfl, _, rfl, iteF ?_⟩
      exact ⟨_, rfl, rfl, _, rfl, iteT ⟨_, rfl, x, dx, _, rfl, hx, pf_no a (by decide), _, rfl, 2, rfl, y, _, rfl, SqL.of hy, fun s hs => row l rfl .to rfl s hs⟩⟩
    | ways l =>
      refine ⟨_, rfl, rfl, _, rfl, iteF ?_⟩
      refine ⟨_, rfl, rfl, _, rfl, iteF ?_⟩
      refine ⟨_, rfl, rfl, _, rfl, iteF ?_⟩
      refine ⟨_, rfl, rfl, _, rfl, iteF ?_⟩
      refine ⟨_, rfl, rfl, _, rfl, iteF ?_⟩
      exact ⟨_, rfl, rfl, _, rfl, iteT ⟨_, rfl, x, dx, _, rfl, hx, pf_no a (by decide), _, rfl, 2, rfl, y, _, rfl, SqL.of hy, fun s hs => row l rfl .ways rfl s hs⟩⟩
    | comes =>
      refine ⟨_, rfl, rfl, _, rfl, iteF ?_⟩
      refine ⟨_, rfl, rfl, _, rfl, iteF ?_⟩
      refine ⟨_, rfl, rfl, _, rfl, iteF ?_⟩
      refine ⟨_, rfl, rfl, _, rfl, iteF ?_⟩
      refine ⟨_, rfl, rfl, _, rfl, iteF ?_⟩
      refine ⟨_, rfl, rfl, _, rfl, iteF ?_⟩
      exact ⟨_, rfl, rfl, _, rfl, iteT ⟨_, rfl, x, dx, _, rfl, hx, pf_no a (by decide), x, dx, r, rfl, hp, gr, q⟩⟩
    | stucks =>
      refine ⟨_, rfl, rfl, _, rfl, iteF ?_⟩
      refine ⟨_, rfl, rfl, _, rfl, iteF ?_⟩
      refine ⟨_, rfl, rfl, _, rfl, iteF ?_⟩
      refine ⟨_, rfl, rfl, _, rfl, iteF ?_⟩
      refine ⟨_, rfl, rfl, _, rfl, iteF ?_⟩
      refine ⟨_, rfl, rfl, _, rfl, iteF ?_⟩
      refine ⟨_, rfl, rfl, _, rfl, iteF ?_⟩
      exact ⟨_, rfl, rfl, _, rfl, iteT ⟨_, rfl, x, dx, _, rfl, hx, pf_no a (by decide), x, dx, r, rfl, hp, gr, q⟩⟩
    | longest =>
      refine ⟨_, rfl, rfl, _, rfl, iteF ?_⟩
      refine ⟨_, rfl, rfl, _, rfl, iteF ?_⟩
      refine ⟨_, rfl, rfl, _, rfl, iteF ?_⟩
      refine ⟨_, rfl, rfl, _, rfl, iteF ?_⟩
      refine ⟨_, rfl, rfl, _, rfl, iteF ?_⟩
      refine ⟨_, rfl, rfl, _, rfl, iteF ?_⟩
      refine ⟨_, rfl, rfl, _, rfl, iteF ?_⟩
      refine ⟨_, rfl, rfl, _, rfl, iteF ?_⟩
      exact ⟨_, rfl, rfl, _, rfl, iteT ⟨_, rfl, x, dx, _, rfl, hx, pf_no a (by decide), x, dx, r, rfl, hp, gr, q⟩⟩
    | safe l =>
      refine ⟨_, rfl, rfl, _, rfl, iteF ?_⟩
      refine ⟨_, rfl, rfl, _, rfl, iteF ?_⟩
      refine ⟨_, rfl, rfl, _, rfl, iteF ?_⟩
      refine ⟨_, rfl, rfl, _, rfl, iteF ?_⟩
      refine ⟨_, rfl, rfl, _, rfl, iteF ?_⟩
      refine ⟨_, rfl, rfl, _, rfl, iteF ?_⟩
      refine ⟨_, rfl, rfl, _, rfl, iteF ?_⟩
      refine ⟨_, rfl, rfl, _, rfl, iteF ?_⟩
      refine ⟨_, rfl, rfl, _, rfl, iteF ?_⟩
      exact ⟨_, rfl, rfl, _, rfl, iteT ⟨_, rfl, x, dx, _, rfl, hx, pf_no a (by decide), _, rfl, 2, rfl, y, _, rfl, SqL.of hy, fun s hs => row l rfl .safe rfl s hs⟩⟩
    | sides a1 b1 g1 =>
      refine ⟨_, rfl, rfl, _, rfl, iteF ?_⟩
      refine ⟨_, rfl, rfl, _, rfl, iteF ?_⟩
      refine ⟨_, rfl, rfl, _, rfl, iteF ?_⟩
      refine ⟨_, rfl, rfl, _, rfl, iteF ?_⟩
      refine ⟨_, rfl, rfl, _, rfl, iteF ?_⟩
      refine ⟨_, rfl, rfl, _, rfl, iteF ?_⟩
      refine ⟨_, rfl, rfl, _, rfl, iteF ?_⟩
      refine ⟨_, rfl, rfl, _, rfl, iteF ?_⟩
      refine ⟨_, rfl, rfl, _, rfl, iteF ?_⟩
      refine ⟨_, rfl, rfl, _, rfl, iteF ?_⟩
      refine ⟨_, rfl, y, _, 1, _, rfl, rfl, SqL.of hy, at_of (j := 1) rfl rfl, _, rfl, y, _, 2, _, rfl, rfl, SqL.of hy, at_of (j := 2) rfl rfl, _, rfl, y, _, 3, _, rfl, rfl, SqL.of hy, at_of (j := 3) rfl rfl, a1, b1, g1, rfl, fun H1 p s1 hp0 hp1 => ?_⟩
      refine q H1 p ?_ hp0 hp1 (Same.keep s1)
      rw [sides_step]
      exact hp.same s1
def spAnswers (K : PySem.W.Frag) : Sp := fun vs H Q _ => ∃ (a : Addr) (l : List Int) (cs : List Uw88.Call), vs = [.ref a] ∧ SqL K H a (iv l) ∧ TF.Line l cs ∧
  ∀ (H' : Hp) (p : Addr), H' p = some (.lst (iv (PyUw88.answers l))) → Q (.ref p) H'
theorem scAnswers : FnScope ["calls", "pond", "told", "part", "answer"] ["calls"] (defScope sAnswers) := ⟨rfl, rfl, rfl, by decide +kernel, rfl, by decide +kernel, by decide +kernel⟩
theorem ok_answers {f fP fS fA C : Addr} {fd dP dS dA : FuncData} (F : Fun K "answers" "answers" sAnswers f fd) (T : Txt K mg) (R : ClsP K mg C)
    (MP : Mk K C fP) (bP : Binds K dP ["self"] []) (GP : FnOk P w K mg base CX0 1 fP dP ["self"] (spPInit C))
    (DS : Def K mg "split_calls" sSplit ["calls"] fS dS) (GS : FnOk P w K mg base CX0 2 fS dS ["calls"] (spSplit K))
    (DA : Def K mg "answer_call" sCallAns ["pond", "part"] fA dA) (GA : FnOk P w K mg base CX0 9 fA dA ["pond", "part"] (spCallAns C)) : FnOk P w K mg base CX0 10 f fd ["calls"] (spAnswers K) := by
  refine F.ok scAnswers (fun vs H Q E h => ?_) (fun cdv A outer s H vs Q E hr h => ?_)
  · obtain ⟨a, l, cs, rfl, _⟩ := h
    rfl
  · obtain ⟨a, l, cs, rfl, hs, ln, q⟩ := h
    have hr2 : Room 2 _ := hr.mono (by decide)
    refine ⟨_, pss_cons (ps_set (i := 1) scAnswers.nd rfl (Or.inl rfl) (pe_make0 MP GP hr2 (by rfl) R.mgC bP .nil pass0))
      (pss_cons (ps_set (i := 2) scAnswers.nd rfl (Or.inl rfl) (pe_lst pa_nil))
      (pss_cons (ps_for PassesOwn.never rfl (pi_list (pe_call GS hr2 (by rfl) DS.g DS.F.kp DS.b .nil pass0 (pa_cons (pv 0) pa_nil))) (pg_name (i := 3) scAnswers.nd rfl (Or.inl rfl))
        (pss_cons (ps_set (i := 4) scAnswers.nd rfl (Or.inl rfl) (pe_call GA hr (by rfl) DA.g DA.F.kp DA.b .nil pass0 (pa_cons (pv 1) (pa_cons (pv 3) pa_nil))))
        (pss_cons (ps_expr (pe_bm PySem.F.plainAttrs_list PySem.F.slot_list_append PySem.F.type_list_append mt_append (pv 2) (pa_cons (pe_callB call_len_seq (by rfl) T.len PySem.boot_len (pa_cons (pv 4) pa_nil)) pa_nil)))
        (pss_one (ps_expr (pe_bm PySem.F.plainAttrs_list PySem.F.slot_list_extend PySem.F.type_list_extend mt_extend (pv 2) (pa_cons (pv 4) pa_nil)))))))
      (pss_one (ps_ret (pv 2))))), ?_⟩
    intro x dx nx nd nex
    refine ⟨x, dx, rfl, upd_same, fun H1 hp1 k1 => ⟨rfl, ?_⟩⟩
    have s1 : Same H H1 := L2.Same.made nx nd k1
    refine ⟨Nat.zero_le _, fun t ht => ?_⟩
    have s2 : Same H1 (upd H1 t (.lst [])) := Same.upd_new ht
    have hs2 : SqL K (upd H1 t (.lst [])) a (iv (cs.map TF.enc).flatten) := by rw [← ln.flat]; exact Same.seqL (s1.trans s2) hs
    refine ⟨_, rfl, a, cs, rfl, hs2, ln.few, fun H3 ps bs s3 hps0 hps hparts hbs => ?_⟩
    have lb := Paired.length hparts
    have ht3 : H3 t = some (.lst []) := s3 _ _ upd_same
    have hx3 : PondAt C H3 x dx Uw88.init := (hp1.same s2).same s3
    refine ⟨ps, rfl, ⟨_, SqL.of hps⟩, for_list (K := K) (a := ps) (xs := bs.map V.ref) (fun i σ H' => ∃ v3 v4 : Option V, σ = [some (.ref a), some (.ref x), some (.ref t), v3, v4] ∧ PondAt C H' x dx (TF.stA Uw88.init (cs.take i)) ∧
      H' t = some (.lst (iv (TF.toldOf (TF.play Uw88.init (cs.take i))))) ∧ H' ps = some (.lst (bs.map V.ref)) ∧ PartsAt H' bs cs)
      ⟨none, none, rfl, by rw [List.take_zero]; exact hx3, by rw [List.take_zero]; exact ht3, hps, hparts⟩ (fun i σ H' _ ⟨_, _, _, _, _, h4, _⟩ => SqL.of h4) ?_ ?_⟩
    · rintro i v σ H' hi ⟨v3, v4, rfl, hpo, hto, hps', hparts'⟩
      obtain ⟨b, hb, rfl⟩ : ∃ b, bs[i]? = some b ∧ v = V.ref b := by
        rw [List.getElem?_map] at hi
        cases e : bs[i]? with
        | none => rw [e] at hi; cases hi
        | some b => rw [e] at hi; exact ⟨b, rfl, (Option.some.inj hi).symm⟩
      obtain ⟨c, hc, hbc⟩ := paired_get hparts' hb
      have hcm : c ∈ cs := List.mem_of_getElem? hc
      have gr := TF.stA_row (cs.take i) Uw88.init TF.init_row
      obtain ⟨ha', hxx, _⟩ := id hpo
      have ntx : t ≠ x := ne_of hto hxx (by intro z; cases z)
      have npx : ps ≠ x := ne_of hps' hxx (by intro z; cases z)
      have prt := TF.told_part hc Uw88.init
      have tot := ln.short
      rw [ln.ans] at tot
      refine ⟨_, rfl, _, rfl, x, dx, b, _, c, rfl, hpo, gr, hbc, fun H4 p hpo4 hp0 hp4 kp => ?_⟩
      have hto4 := kp _ _ hto ntx
      have npt : p ≠ t := fun z => by rw [z, hto] at hp0; cases hp0
      have nppx : p ≠ x := fun z => by rw [z, hxx] at hp0; cases hp0
      refine ⟨_, rfl, .inl ⟨rfl, _, SqL.of hto4⟩, _, rfl, p, _, rfl, .inl (SqL.of hp4), t, _, _, rfl, rfl, hto4, ?_, ?_⟩
      · rw [iv_len]
        exact Nat.lt_of_le_of_lt (show _ ≤ 10000000 by omega) (by decide)
      refine ⟨_, rfl, .inl ⟨rfl, _, SqL.of upd_same⟩, _, rfl, t, p, _, _, rfl, rfl, upd_same, by rw [upd_ne npt]; exact hp4, ?_, ?_⟩
      · rw [List.length_append, iv_len, iv_len]
        exact Nat.le_trans (show _ ≤ 10000000 by simp; omega) (by decide)
      rw [upd_upd]
      have et := TF.take_snoc hc
      refine ⟨_, _, rfl, ?_, ?_, ?_, ?_⟩
      · rw [et, TF.stA_snoc]
        obtain ⟨a4, h1, h2⟩ := hpo4
        refine ⟨a4, by rw [upd_ne ntx.symm]; exact h1, RowAt.tups h2 fun z xs ez => ?_⟩
        rw [upd_ne (ne_of ez hto4 (by intro y; cases y))]
        exact ez
      · rw [upd_same, et, TF.play_snoc, TF.told_snoc, iv_append]
        rw [List.append_assoc]
        congr 3
        rw [iv_len]
        rfl
      · have nps : ps ≠ t := fun z => by
          rw [z] at hps0
          rw [upd_same] at hps0
          cases hps0
        rw [upd_ne nps]
        exact kp _ _ hps' npx
      · refine paired_mem hparts' fun b' hb' c' h' => ?_
        have n0 := hbs b' hb'
        have nbt : b' ≠ t := fun z => by rw [z, upd_same] at n0; cases n0
        have nbx : b' ≠ x := fun z => by
          obtain ⟨a1, h1, _⟩ := hp1
          rw [upd_ne nbt, z, h1] at n0
          cases n0
        rw [upd_ne nbt]
        exact kp _ _ h' nbx
    · rintro σ H' ⟨v3, v4, rfl, _, hto, _, _⟩
      rw [List.length_map, lb, List.take_length, ← ln.ans] at hto
      exact ⟨_, rfl, q H' t hto⟩
end
end Tp
end
set_option Elab.async false
set_option linter.all false
set_option maxRecDepth 100000
set_option maxHeartbeats 2000000
namespace Tp
open PySem PySem.Spec PyProof.Rows L2
open PySem.W (Codec)
theorem stat_mk {K : PySem.W.Frag} {odB : Option Addr} {slB : Array (Option Value)} {nB : Nat} {tB1 tB2 tB3 : Tok} (lB : K.lookup begAddr = some ⟨.type "tuple", odB, .seq #[.int 1 tB1, .int 0 tB2, .int 2 tB3] nB, slB⟩) :
    ∀ b k, St0 b k → ∃ (o : Obj) (its : Array Value) (n : Nat), K.lookup b = some o ∧ o.cls = .type "tuple" ∧ o.data = .seq its n ∧ its.size ≤ sizeLine ∧ Vals (k.map kV) its.toList := by
  rintro b k ⟨rfl, rfl⟩
  exact ⟨_, _, _, lB, rfl, rfl, (by show 3 ≤ sizeLine; decide), .cons ⟨tB1, rfl⟩ (.cons ⟨tB2, rfl⟩ (.cons ⟨tB3, rfl⟩ .nil))⟩
theorem all_mk {P : Program} {w : World} {K : PySem.W.Frag} {h : Heap} {mg : Str → Option Value} {fa : Addr} (X : K.In h) (G : h.Ns mainGlobals mg) (hfa : mg "answers" = some (.ref fa))
    {tFREE : Tok}
    {tTOAD : Tok}
    {tFROG : Tok}
    {tMOST : Tok}
    {tWATER : Tok}
    {tSTEP : Tok}
    {tLEAP : Tok}
    {tNOMOVE : Tok}
    {tROW : Tok}
    {tMOVE : Tok}
    {tMOVES : Tok}
    {tSHOWS : Tok}
    {tTO : Tok}
    {tWAYS : Tok}
    {tCOMES : Tok}
    {tSTUCKS : Tok}
    {tLONGEST : Tok}
    {tSAFE : Tok}
    {tSIDES : Tok}
    {tNOTTHERE : Tok}
    {tCANTMOVE : Tok}
    {tISFREE : Tok}
    {tCANTCOME : Tok}
    {odB : Option Addr} {slB : Array (Option Value)} {nB : Nat} {tB1 tB2 tB3 : Tok}
    {fIsRow : Addr}
    {odIsRow anIsRow : Option Addr} {slIsRow : Array (Option Value)} {ocIsRow kVIsRow dcIsRow pmIsRow cdIsRow ctIsRow : Value}
    {fFound : Addr}
    {odFound anFound : Option Addr} {slFound : Array (Option Value)} {ocFound kVFound dcFound pmFound cdFound ctFound : Value}
    {fDir : Addr}
    {odDir anDir : Option Addr} {slDir : Array (Option Value)} {ocDir kVDir dcDir pmDir cdDir ctDir : Value}
    {fOth : Addr}
    {odOth anOth : Option Addr} {slOth : Array (Option Value)} {ocOth kVOth dcOth pmOth cdOth ctOth : Value}
    {fLen : Addr}
    {odLen anLen : Option Addr} {slLen : Array (Option Value)} {ocLen kVLen dcLen pmLen cdLen ctLen : Value}
    {fMoves : Addr}
    {odMoves anMoves : Option Addr} {slMoves : Array (Option Value)} {ocMoves kVMoves dcMoves pmMoves cdMoves ctMoves : Value}
    {fAfter : Addr}
    {odAfter anAfter : Option Addr} {slAfter : Array (Option Value)} {ocAfter kVAfter dcAfter pmAfter cdAfter ctAfter : Value}
    {fLeaps : Addr}
    {odLeaps anLeaps : Option Addr} {slLeaps : Array (Option Value)} {ocLeaps kVLeaps dcLeaps pmLeaps cdLeaps ctLeaps : Value}
    {fSides : Addr}
    {odSides anSides : Option Addr} {slSides : Array (Option Value)} {ocSides kVSides dcSides pmSides cdSides ctSides : Value}
    {fEnd : Addr}
    {odEnd anEnd : Option Addr} {slEnd : Array (Option Value)} {ocEnd kVEnd dcEnd pmEnd cdEnd ctEnd : Value}
    {fSplit : Addr}
    {odSplit anSplit : Option Addr} {slSplit : Array (Option Value)} {ocSplit kVSplit dcSplit pmSplit cdSplit ctSplit : Value}
    {fCallAns : Addr}
    {odCallAns anCallAns : Option Addr} {slCallAns : Array (Option Value)} {ocCallAns kVCallAns dcCallAns pmCallAns cdCallAns ctCallAns : Value}
    {fAnswers : Addr}
    {odAnswers anAnswers : Option Addr} {slAnswers : Array (Option Value)} {ocAnswers kVAnswers dcAnswers pmAnswers cdAnswers ctAnswers : Value}
    {CR : Addr}
    {fRInit : Addr}
    {odRInit anRInit : Option Addr} {slRInit : Array (Option Value)} {ocRInit kVRInit dcRInit pmRInit cdRInit ctRInit : Value}
    {fOmo : Addr}
    {odOmo anOmo : Option Addr} {slOmo : Array (Option Value)} {ocOmo kVOmo dcOmo pmOmo cdOmo ctOmo : Value}
    {fRAll : Addr}
    {odRAll anRAll : Option Addr} {slRAll : Array (Option Value)} {ocRAll kVRAll dcRAll pmRAll cdRAll ctRAll : Value}
    {fRStuck : Addr}
    {odRStuck anRStuck : Option Addr} {slRStuck : Array (Option Value)} {ocRStuck kVRStuck dcRStuck pmRStuck cdRStuck ctRStuck : Value}
    {fRLong : Addr}
    {odRLong anRLong : Option Addr} {slRLong : Array (Option Value)} {ocRLong kVRLong dcRLong pmRLong cdRLong ctRLong : Value}
    {fCan : Addr}
    {odCan anCan : Option Addr} {slCan : Array (Option Value)} {ocCan kVCan dcCan pmCan cdCan ctCan : Value}
    {fWaysTo : Addr}
    {odWaysTo anWaysTo : Option Addr} {slWaysTo : Array (Option Value)} {ocWaysTo kVWaysTo dcWaysTo pmWaysTo cdWaysTo ctWaysTo : Value}
    {fFirst : Addr}
    {odFirst anFirst : Option Addr} {slFirst : Array (Option Value)} {ocFirst kVFirst dcFirst pmFirst cdFirst ctFirst : Value}
    {CP : Addr}
    {fPInit : Addr}
    {odPInit anPInit : Option Addr} {slPInit : Array (Option Value)} {ocPInit kVPInit dcPInit pmPInit cdPInit ctPInit : Value}
    {fPRow : Addr}
    {odPRow anPRow : Option Addr} {slPRow : Array (Option Value)} {ocPRow kVPRow dcPRow pmPRow cdPRow ctPRow : Value}
    {fPMove : Addr}
    {odPMove anPMove : Option Addr} {slPMove : Array (Option Value)} {ocPMove kVPMove dcPMove pmPMove cdPMove ctPMove : Value}
    {fPMoves : Addr}
    {odPMoves anPMoves : Option Addr} {slPMoves : Array (Option Value)} {ocPMoves kVPMoves dcPMoves pmPMoves cdPMoves ctPMoves : Value}
    {fPShows : Addr}
    {odPShows anPShows : Option Addr} {slPShows : Array (Option Value)} {ocPShows kVPShows dcPShows pmPShows cdPShows ctPShows : Value}
    {fPFits : Addr}
    {odPFits anPFits : Option Addr} {slPFits : Array (Option Value)} {ocPFits kVPFits dcPFits pmPFits cdPFits ctPFits : Value}
    {fPTo : Addr}
    {odPTo anPTo : Option Addr} {slPTo : Array (Option Value)} {ocPTo kVPTo dcPTo pmPTo cdPTo ctPTo : Value}
    {fPWays : Addr}
    {odPWays anPWays : Option Addr} {slPWays : Array (Option Value)} {ocPWays kVPWays dcPWays pmPWays cdPWays ctPWays : Value}
    {fPComes : Addr}
    {odPComes anPComes : Option Addr} {slPComes : Array (Option Value)} {ocPComes kVPComes dcPComes pmPComes cdPComes ctPComes : Value}
    {fPStucks : Addr}
    {odPStucks anPStucks : Option Addr} {slPStucks : Array (Option Value)} {ocPStucks kVPStucks dcPStucks pmPStucks cdPStucks ctPStucks : Value}
    {fPLongest : Addr}
    {odPLongest anPLongest : Option Addr} {slPLongest : Array (Option Value)} {ocPLongest kVPLongest dcPLongest pmPLongest cdPLongest ctPLongest : Value}
    {fPStill : Addr}
    {odPStill anPStill : Option Addr} {slPStill : Array (Option Value)} {ocPStill kVPStill dcPStill pmPStill cdPStill ctPStill : Value}
    {fPSafe : Addr}
    {odPSafe anPSafe : Option Addr} {slPSafe : Array (Option Value)} {ocPSafe kVPSafe dcPSafe pmPSafe cdPSafe ctPSafe : Value}
    (gFREE : PySem.W.nsIn K mainGlobals "FREE" = some (some (.int (0) tFREE)))
    (gTOAD : PySem.W.nsIn K mainGlobals "TOAD" = some (some (.int (1) tTOAD)))
    (gFROG : PySem.W.nsIn K mainGlobals "FROG" = some (some (.int (2) tFROG)))
    (gMOST : PySem.W.nsIn K mainGlobals "MOST_STONES" = some (some (.int (9) tMOST)))
    (gWATER : PySem.W.nsIn K mainGlobals "WATER" = some (some (.int (3) tWATER)))
    (gSTEP : PySem.W.nsIn K mainGlobals "STEP" = some (some (.int (1) tSTEP)))
    (gLEAP : PySem.W.nsIn K mainGlobals "LEAP" = some (some (.int (2) tLEAP)))
    (gNOMOVE : PySem.W.nsIn K mainGlobals "NO_MOVE" = some (some (.int (0) tNOMOVE)))
    (gROW : PySem.W.nsIn K mainGlobals "ROW" = some (some (.int (0) tROW)))
    (gMOVE : PySem.W.nsIn K mainGlobals "MOVE" = some (some (.int (1) tMOVE)))
    (gMOVES : PySem.W.nsIn K mainGlobals "MOVES" = some (some (.int (2) tMOVES)))
    (gSHOWS : PySem.W.nsIn K mainGlobals "SHOWS" = some (some (.int (3) tSHOWS)))
    (gTO : PySem.W.nsIn K mainGlobals "TO" = some (some (.int (4) tTO)))
    (gWAYS : PySem.W.nsIn K mainGlobals "WAYS" = some (some (.int (5) tWAYS)))
    (gCOMES : PySem.W.nsIn K mainGlobals "COMES" = some (some (.int (6) tCOMES)))
    (gSTUCKS : PySem.W.nsIn K mainGlobals "STUCKS" = some (some (.int (7) tSTUCKS)))
    (gLONGEST : PySem.W.nsIn K mainGlobals "LONGEST" = some (some (.int (8) tLONGEST)))
    (gSAFE : PySem.W.nsIn K mainGlobals "SAFE" = some (some (.int (9) tSAFE)))
    (gSIDES : PySem.W.nsIn K mainGlobals "SIDES" = some (some (.int (10) tSIDES)))
    (gNOTTHERE : PySem.W.nsIn K mainGlobals "NOT_THERE" = some (some (.int (-1) tNOTTHERE)))
    (gCANTMOVE : PySem.W.nsIn K mainGlobals "CANT_MOVE" = some (some (.int (-2) tCANTMOVE)))
    (gISFREE : PySem.W.nsIn K mainGlobals "IS_FREE" = some (some (.int (-4) tISFREE)))
    (gCANTCOME : PySem.W.nsIn K mainGlobals "CANT_COME" = some (some (.int (-6) tCANTCOME)))
    (nlen : PySem.W.nsIn K mainGlobals "len" = some none)
    (nmax : PySem.W.nsIn K mainGlobals "max" = some none)
    (nmin : PySem.W.nsIn K mainGlobals "min" = some none)
    (nrange : PySem.W.nsIn K mainGlobals "range" = some none)
    (nlist : PySem.W.nsIn K mainGlobals "list" = some none)
    (ntuple : PySem.W.nsIn K mainGlobals "tuple" = some none)
    (nreversed : PySem.W.nsIn K mainGlobals "reversed" = some none)
    (gB : PySem.W.nsIn K mainGlobals "BEGINNING" = some (some (.ref begAddr)))
    (lB : K.lookup begAddr = some ⟨.type "tuple", odB, .seq #[.int 1 tB1, .int 0 tB2, .int 2 tB3] nB, slB⟩)
    (aIsRow : PySem.W.nsIn K mainGlobals "is_row" = some (some (.ref fIsRow)))
    (lIsRow : K.lookup fIsRow = some ⟨ocIsRow, odIsRow, .func (PySem.W.fnOf "is_row" "is_row" (defArgs sIsRow) (defBody sIsRow) (defScope sIsRow) .none kVIsRow dcIsRow pmIsRow anIsRow cdIsRow ctIsRow), slIsRow⟩)
    (cIsRow : PySem.W.codeIn K cdIsRow "is_row" = true)
    (kIsRow : PySem.W.keepIn K (.ref fIsRow) = true)
    (aFound : PySem.W.nsIn K mainGlobals "found_at" = some (some (.ref fFound)))
    (lFound : K.lookup fFound = some ⟨ocFound, odFound, .func (PySem.W.fnOf "found_at" "found_at" (defArgs sFound) (defBody sFound) (defScope sFound) .none kVFound dcFound pmFound anFound cdFound ctFound), slFound⟩)
    (cFound : PySem.W.codeIn K cdFound "found_at" = true)
    (kFound : PySem.W.keepIn K (.ref fFound) = true)
    (aDir : PySem.W.nsIn K mainGlobals "direction" = some (some (.ref fDir)))
    (lDir : K.lookup fDir = some ⟨ocDir, odDir, .func (PySem.W.fnOf "direction" "direction" (defArgs sDir) (defBody sDir) (defScope sDir) .none kVDir dcDir pmDir anDir cdDir ctDir), slDir⟩)
    (cDir : PySem.W.codeIn K cdDir "direction" = true)
    (kDir : PySem.W.keepIn K (.ref fDir) = true)
    (aOth : PySem.W.nsIn K mainGlobals "other_kind" = some (some (.ref fOth)))
    (lOth : K.lookup fOth = some ⟨ocOth, odOth, .func (PySem.W.fnOf "other_kind" "other_kind" (defArgs sOth) (defBody sOth) (defScope sOth) .none kVOth dcOth pmOth anOth cdOth ctOth), slOth⟩)
    (cOth : PySem.W.codeIn K cdOth "other_kind" = true)
    (kOth : PySem.W.keepIn K (.ref fOth) = true)
    (aLen : PySem.W.nsIn K mainGlobals "move_length" = some (some (.ref fLen)))
    (lLen : K.lookup fLen = some ⟨ocLen, odLen, .func (PySem.W.fnOf "move_length" "move_length" (defArgs sLen) (defBody sLen) (defScope sLen) .none kVLen dcLen pmLen anLen cdLen ctLen), slLen⟩)
    (cLen : PySem.W.codeIn K cdLen "move_length" = true)
    (kLen : PySem.W.keepIn K (.ref fLen) = true)
    (aMoves : PySem.W.nsIn K mainGlobals "stones_to_move" = some (some (.ref fMoves)))
    (lMoves : K.lookup fMoves = some ⟨ocMoves, odMoves, .func (PySem.W.fnOf "stones_to_move" "stones_to_move" (defArgs sMoves) (defBody sMoves) (defScope sMoves) .none kVMoves dcMoves pmMoves anMoves cdMoves ctMoves), slMoves⟩)
    (cMoves : PySem.W.codeIn K cdMoves "stones_to_move" = true)
    (kMoves : PySem.W.keepIn K (.ref fMoves) = true)
    (aAfter : PySem.W.nsIn K mainGlobals "row_after" = some (some (.ref fAfter)))
    (lAfter : K.lookup fAfter = some ⟨ocAfter, odAfter, .func (PySem.W.fnOf "row_after" "row_after" (defArgs sAfter) (defBody sAfter) (defScope sAfter) .none kVAfter dcAfter pmAfter anAfter cdAfter ctAfter), slAfter⟩)
    (cAfter : PySem.W.codeIn K cdAfter "row_after" = true)
    (kAfter : PySem.W.keepIn K (.ref fAfter) = true)
    (aLeaps : PySem.W.nsIn K mainGlobals "count_leaps" = some (some (.ref fLeaps)))
    (lLeaps : K.lookup fLeaps = some ⟨ocLeaps, odLeaps, .func (PySem.W.fnOf "count_leaps" "count_leaps" (defArgs sLeaps) (defBody sLeaps) (defScope sLeaps) .none kVLeaps dcLeaps pmLeaps anLeaps cdLeaps ctLeaps), slLeaps⟩)
    (cLeaps : PySem.W.codeIn K cdLeaps "count_leaps" = true)
    (kLeaps : PySem.W.keepIn K (.ref fLeaps) = true)
    (aSides : PySem.W.nsIn K mainGlobals "sides" = some (some (.ref fSides)))
    (lSides : K.lookup fSides = some ⟨ocSides, odSides, .func (PySem.W.fnOf "sides" "sides" (defArgs sSides) (defBody sSides) (defScope sSides) .none kVSides dcSides pmSides anSides cdSides ctSides), slSides⟩)
    (cSides : PySem.W.codeIn K cdSides "sides" = true)
    (kSides : PySem.W.keepIn K (.ref fSides) = true)
    (aEnd : PySem.W.nsIn K mainGlobals "call_end" = some (some (.ref fEnd)))
    (lEnd : K.lookup fEnd = some ⟨ocEnd, odEnd, .func (PySem.W.fnOf "call_end" "call_end" (defArgs sEnd) (defBody sEnd) (defScope sEnd) .none kVEnd dcEnd pmEnd anEnd cdEnd ctEnd), slEnd⟩)
    (cEnd : PySem.W.codeIn K cdEnd "call_end" = true)
    (kEnd : PySem.W.keepIn K (.ref fEnd) = true)
    (aSplit : PySem.W.nsIn K mainGlobals "split_calls" = some (some (.ref fSplit)))
    (lSplit : K.lookup fSplit = some ⟨ocSplit, odSplit, .func (PySem.W.fnOf "split_calls" "split_calls" (defArgs sSplit) (defBody sSplit) (defScope sSplit) .none kVSplit dcSplit pmSplit anSplit cdSplit ctSplit), slSplit⟩)
    (cSplit : PySem.W.codeIn K cdSplit "split_calls" = true)
    (kSplit : PySem.W.keepIn K (.ref fSplit) = true)
    (aCallAns : PySem.W.nsIn K mainGlobals "answer_call" = some (some (.ref fCallAns)))
    (lCallAns : K.lookup fCallAns = some ⟨ocCallAns, odCallAns, .func (PySem.W.fnOf "answer_call" "answer_call" (defArgs sCallAns) (defBody sCallAns) (defScope sCallAns) .none kVCallAns dcCallAns pmCallAns anCallAns cdCallAns ctCallAns), slCallAns⟩)
    (cCallAns : PySem.W.codeIn K cdCallAns "answer_call" = true)
    (kCallAns : PySem.W.keepIn K (.ref fCallAns) = true)
    (aAnswers : PySem.W.nsIn K mainGlobals "answers" = some (some (.ref fAnswers)))
    (lAnswers : K.lookup fAnswers = some ⟨ocAnswers, odAnswers, .func (PySem.W.fnOf "answers" "answers" (defArgs sAnswers) (defBody sAnswers) (defScope sAnswers) .none kVAnswers dcAnswers pmAnswers anAnswers cdAnswers ctAnswers), slAnswers⟩)
    (cAnswers : PySem.W.codeIn K cdAnswers "answers" = true)
    (kAnswers : PySem.W.keepIn K (.ref fAnswers) = true)
    (aR : PySem.W.nsIn K mainGlobals "Reach" = some (some (.ref CR)))
    (pgR : PySem.W.plainGet K CR Str.empty = true)
    (hdR : PySem.W.hasDictIn K CR = true)
    (poR : PySem.W.plainOver K CR = true)
    (saR : PySem.W.findIn K (.ref CR) "__setattr__" = some (some (.builtin "object.__setattr__")))
    (mkR : PySem.W.makesIn K CR = true)
    (kcR : PySem.W.keepIn K (.ref CR) = true)
    (nR_counts : PySem.W.findIn K (.ref CR) "counts" = some none)
    (nR_lasts : PySem.W.findIn K (.ref CR) "lasts" = some none)
    (nR_farthest : PySem.W.findIn K (.ref CR) "farthest" = some none)
    (aRInit : PySem.W.findIn K (.ref CR) "__init__" = some (some (.ref fRInit)))
    (iRInit : PySem.W.isFn K (.ref fRInit) = true)
    (lRInit : K.lookup fRInit = some ⟨ocRInit, odRInit, .func (PySem.W.fnOf "__init__" "Reach.__init__" (defArgs sRInit) (defBody sRInit) (defScope sRInit) .none kVRInit dcRInit pmRInit anRInit cdRInit ctRInit), slRInit⟩)
    (cRInit : PySem.W.codeIn K cdRInit "Reach.__init__" = true)
    (kRInit : PySem.W.keepIn K (.ref fRInit) = true)
    (aOmo : PySem.W.findIn K (.ref CR) "one_move_on" = some (some (.ref fOmo)))
    (iOmo : PySem.W.isFn K (.ref fOmo) = true)
    (lOmo : K.lookup fOmo = some ⟨ocOmo, odOmo, .func (PySem.W.fnOf "one_move_on" "Reach.one_move_on" (defArgs sOmo) (defBody sOmo) (defScope sOmo) .none kVOmo dcOmo pmOmo anOmo cdOmo ctOmo), slOmo⟩)
    (cOmo : PySem.W.codeIn K cdOmo "Reach.one_move_on" = true)
    (kOmo : PySem.W.keepIn K (.ref fOmo) = true)
    (aRAll : PySem.W.findIn K (.ref CR) "rows_in_all" = some (some (.ref fRAll)))
    (iRAll : PySem.W.isFn K (.ref fRAll) = true)
    (lRAll : K.lookup fRAll = some ⟨ocRAll, odRAll, .func (PySem.W.fnOf "rows_in_all" "Reach.rows_in_all" (defArgs sRAll) (defBody sRAll) (defScope sRAll) .none kVRAll dcRAll pmRAll anRAll cdRAll ctRAll), slRAll⟩)
    (cRAll : PySem.W.codeIn K cdRAll "Reach.rows_in_all" = true)
    (kRAll : PySem.W.keepIn K (.ref fRAll) = true)
    (aRStuck : PySem.W.findIn K (.ref CR) "stuck_rows" = some (some (.ref fRStuck)))
    (iRStuck : PySem.W.isFn K (.ref fRStuck) = true)
    (lRStuck : K.lookup fRStuck = some ⟨ocRStuck, odRStuck, .func (PySem.W.fnOf "stuck_rows" "Reach.stuck_rows" (defArgs sRStuck) (defBody sRStuck) (defScope sRStuck) .none kVRStuck dcRStuck pmRStuck anRStuck cdRStuck ctRStuck), slRStuck⟩)
    (cRStuck : PySem.W.codeIn K cdRStuck "Reach.stuck_rows" = true)
    (kRStuck : PySem.W.keepIn K (.ref fRStuck) = true)
    (aRLong : PySem.W.findIn K (.ref CR) "longest_way" = some (some (.ref fRLong)))
    (iRLong : PySem.W.isFn K (.ref fRLong) = true)
    (lRLong : K.lookup fRLong = some ⟨ocRLong, odRLong, .func (PySem.W.fnOf "longest_way" "Reach.longest_way" (defArgs sRLong) (defBody sRLong) (defScope sRLong) .none kVRLong dcRLong pmRLong anRLong cdRLong ctRLong), slRLong⟩)
    (cRLong : PySem.W.codeIn K cdRLong "Reach.longest_way" = true)
    (kRLong : PySem.W.keepIn K (.ref fRLong) = true)
    (aCan : PySem.W.findIn K (.ref CR) "can_come" = some (some (.ref fCan)))
    (iCan : PySem.W.isFn K (.ref fCan) = true)
    (lCan : K.lookup fCan = some ⟨ocCan, odCan, .func (PySem.W.fnOf "can_come" "Reach.can_come" (defArgs sCan) (defBody sCan) (defScope sCan) .none kVCan dcCan pmCan anCan cdCan ctCan), slCan⟩)
    (cCan : PySem.W.codeIn K cdCan "Reach.can_come" = true)
    (kCan : PySem.W.keepIn K (.ref fCan) = true)
    (aWaysTo : PySem.W.findIn K (.ref CR) "ways_to" = some (some (.ref fWaysTo)))
    (iWaysTo : PySem.W.isFn K (.ref fWaysTo) = true)
    (lWaysTo : K.lookup fWaysTo = some ⟨ocWaysTo, odWaysTo, .func (PySem.W.fnOf "ways_to" "Reach.ways_to" (defArgs sWaysTo) (defBody sWaysTo) (defScope sWaysTo) .none kVWaysTo dcWaysTo pmWaysTo anWaysTo cdWaysTo ctWaysTo), slWaysTo⟩)
    (cWaysTo : PySem.W.codeIn K cdWaysTo "Reach.ways_to" = true)
    (kWaysTo : PySem.W.keepIn K (.ref fWaysTo) = true)
    (aFirst : PySem.W.findIn K (.ref CR) "first_way" = some (some (.ref fFirst)))
    (iFirst : PySem.W.isFn K (.ref fFirst) = true)
    (lFirst : K.lookup fFirst = some ⟨ocFirst, odFirst, .func (PySem.W.fnOf "first_way" "Reach.first_way" (defArgs sFirst) (defBody sFirst) (defScope sFirst) .none kVFirst dcFirst pmFirst anFirst cdFirst ctFirst), slFirst⟩)
    (cFirst : PySem.W.codeIn K cdFirst "Reach.first_way" = true)
    (kFirst : PySem.W.keepIn K (.ref fFirst) = true)
    (aP : PySem.W.nsIn K mainGlobals "Pond" = some (some (.ref CP)))
    (pgP : PySem.W.plainGet K CP Str.empty = true)
    (hdP : PySem.W.hasDictIn K CP = true)
    (poP : PySem.W.plainOver K CP = true)
    (saP : PySem.W.findIn K (.ref CP) "__setattr__" = some (some (.builtin "object.__setattr__")))
    (mkP : PySem.W.makesIn K CP = true)
    (kcP : PySem.W.keepIn K (.ref CP) = true)
    (nP_held : PySem.W.findIn K (.ref CP) "held" = some none)
    (aPInit : PySem.W.findIn K (.ref CP) "__init__" = some (some (.ref fPInit)))
    (iPInit : PySem.W.isFn K (.ref fPInit) = true)
    (lPInit : K.lookup fPInit = some ⟨ocPInit, odPInit, .func (PySem.W.fnOf "__init__" "Pond.__init__" (defArgs sPInit) (defBody sPInit) (defScope sPInit) .none kVPInit dcPInit pmPInit anPInit cdPInit ctPInit), slPInit⟩)
    (cPInit : PySem.W.codeIn K cdPInit "Pond.__init__" = true)
    (kPInit : PySem.W.keepIn K (.ref fPInit) = true)
    (aPRow : PySem.W.findIn K (.ref CP) "row" = some (some (.ref fPRow)))
    (iPRow : PySem.W.isFn K (.ref fPRow) = true)
    (lPRow : K.lookup fPRow = some ⟨ocPRow, odPRow, .func (PySem.W.fnOf "row" "Pond.row" (defArgs sPRow) (defBody sPRow) (defScope sPRow) .none kVPRow dcPRow pmPRow anPRow cdPRow ctPRow), slPRow⟩)
    (cPRow : PySem.W.codeIn K cdPRow "Pond.row" = true)
    (kPRow : PySem.W.keepIn K (.ref fPRow) = true)
    (aPMove : PySem.W.findIn K (.ref CP) "move" = some (some (.ref fPMove)))
    (iPMove : PySem.W.isFn K (.ref fPMove) = true)
    (lPMove : K.lookup fPMove = some ⟨ocPMove, odPMove, .func (PySem.W.fnOf "move" "Pond.move" (defArgs sPMove) (defBody sPMove) (defScope sPMove) .none kVPMove dcPMove pmPMove anPMove cdPMove ctPMove), slPMove⟩)
    (cPMove : PySem.W.codeIn K cdPMove "Pond.move" = true)
    (kPMove : PySem.W.keepIn K (.ref fPMove) = true)
    (aPMoves : PySem.W.findIn K (.ref CP) "moves" = some (some (.ref fPMoves)))
    (iPMoves : PySem.W.isFn K (.ref fPMoves) = true)
    (lPMoves : K.lookup fPMoves = some ⟨ocPMoves, odPMoves, .func (PySem.W.fnOf "moves" "Pond.moves" (defArgs sPMoves) (defBody sPMoves) (defScope sPMoves) .none kVPMoves dcPMoves pmPMoves anPMoves cdPMoves ctPMoves), slPMoves⟩)
    (cPMoves : PySem.W.codeIn K cdPMoves "Pond.moves" = true)
    (kPMoves : PySem.W.keepIn K (.ref fPMoves) = true)
    (aPShows : PySem.W.findIn K (.ref CP) "shows" = some (some (.ref fPShows)))
    (iPShows : PySem.W.isFn K (.ref fPShows) = true)
    (lPShows : K.lookup fPShows = some ⟨ocPShows, odPShows, .func (PySem.W.fnOf "shows" "Pond.shows" (defArgs sPShows) (defBody sPShows) (defScope sPShows) .none kVPShows dcPShows pmPShows anPShows cdPShows ctPShows), slPShows⟩)
    (cPShows : PySem.W.codeIn K cdPShows "Pond.shows" = true)
    (kPShows : PySem.W.keepIn K (.ref fPShows) = true)
    (aPFits : PySem.W.findIn K (.ref CP) "fits" = some (some (.ref fPFits)))
    (iPFits : PySem.W.isFn K (.ref fPFits) = true)
    (lPFits : K.lookup fPFits = some ⟨ocPFits, odPFits, .func (PySem.W.fnOf "fits" "Pond.fits" (defArgs sPFits) (defBody sPFits) (defScope sPFits) .none kVPFits dcPFits pmPFits anPFits cdPFits ctPFits), slPFits⟩)
    (cPFits : PySem.W.codeIn K cdPFits "Pond.fits" = true)
    (kPFits : PySem.W.keepIn K (.ref fPFits) = true)
    (aPTo : PySem.W.findIn K (.ref CP) "to" = some (some (.ref fPTo)))
    (iPTo : PySem.W.isFn K (.ref fPTo) = true)
    (lPTo : K.lookup fPTo = some ⟨ocPTo, odPTo, .func (PySem.W.fnOf "to" "Pond.to" (defArgs sPTo) (defBody sPTo) (defScope sPTo) .none kVPTo dcPTo pmPTo anPTo cdPTo ctPTo), slPTo⟩)
    (cPTo : PySem.W.codeIn K cdPTo "Pond.to" = true)
    (kPTo : PySem.W.keepIn K (.ref fPTo) = true)
    (aPWays : PySem.W.findIn K (.ref CP) "ways" = some (some (.ref fPWays)))
    (iPWays : PySem.W.isFn K (.ref fPWays) = true)
    (lPWays : K.lookup fPWays = some ⟨ocPWays, odPWays, .func (PySem.W.fnOf "ways" "Pond.ways" (defArgs sPWays) (defBody sPWays) (defScope sPWays) .none kVPWays dcPWays pmPWays anPWays cdPWays ctPWays), slPWays⟩)
    (cPWays : PySem.W.codeIn K cdPWays "Pond.ways" = true)
    (kPWays : PySem.W.keepIn K (.ref fPWays) = true)
    (aPComes : PySem.W.findIn K (.ref CP) "comes" = some (some (.ref fPComes)))
    (iPComes : PySem.W.isFn K (.ref fPComes) = true)
    (lPComes : K.lookup fPComes = some ⟨ocPComes, odPComes, .func (PySem.W.fnOf "comes" "Pond.comes" (defArgs sPComes) (defBody sPComes) (defScope sPComes) .none kVPComes dcPComes pmPComes anPComes cdPComes ctPComes), slPComes⟩)
    (cPComes : PySem.W.codeIn K cdPComes "Pond.comes" = true)
    (kPComes : PySem.W.keepIn K (.ref fPComes) = true)
    (aPStucks : PySem.W.findIn K (.ref CP) "stucks" = some (some (.ref fPStucks)))
    (iPStucks : PySem.W.isFn K (.ref fPStucks) = true)
    (lPStucks : K.lookup fPStucks = some ⟨ocPStucks, odPStucks, .func (PySem.W.fnOf "stucks" "Pond.stucks" (defArgs sPStucks) (defBody sPStucks) (defScope sPStucks) .none kVPStucks dcPStucks pmPStucks anPStucks cdPStucks ctPStucks), slPStucks⟩)
    (cPStucks : PySem.W.codeIn K cdPStucks "Pond.stucks" = true)
    (kPStucks : PySem.W.keepIn K (.ref fPStucks) = true)
    (aPLongest : PySem.W.findIn K (.ref CP) "longest" = some (some (.ref fPLongest)))
    (iPLongest : PySem.W.isFn K (.ref fPLongest) = true)
    (lPLongest : K.lookup fPLongest = some ⟨ocPLongest, odPLongest, .func (PySem.W.fnOf "longest" "Pond.longest" (defArgs sPLongest) (defBody sPLongest) (defScope sPLongest) .none kVPLongest dcPLongest pmPLongest anPLongest cdPLongest ctPLongest), slPLongest⟩)
    (cPLongest : PySem.W.codeIn K cdPLongest "Pond.longest" = true)
    (kPLongest : PySem.W.keepIn K (.ref fPLongest) = true)
    (aPStill : PySem.W.findIn K (.ref CP) "still_leads" = some (some (.ref fPStill)))
    (iPStill : PySem.W.isFn K (.ref fPStill) = true)
    (lPStill : K.lookup fPStill = some ⟨ocPStill, odPStill, .func (PySem.W.fnOf "still_leads" "Pond.still_leads" (defArgs sPStill) (defBody sPStill) (defScope sPStill) .none kVPStill dcPStill pmPStill anPStill cdPStill ctPStill), slPStill⟩)
    (cPStill : PySem.W.codeIn K cdPStill "Pond.still_leads" = true)
    (kPStill : PySem.W.keepIn K (.ref fPStill) = true)
    (aPSafe : PySem.W.findIn K (.ref CP) "safe" = some (some (.ref fPSafe)))
    (iPSafe : PySem.W.isFn K (.ref fPSafe) = true)
    (lPSafe : K.lookup fPSafe = some ⟨ocPSafe, odPSafe, .func (PySem.W.fnOf "safe" "Pond.safe" (defArgs sPSafe) (defBody sPSafe) (defScope sPSafe) .none kVPSafe dcPSafe pmPSafe anPSafe cdPSafe ctPSafe), slPSafe⟩)
    (cPSafe : PySem.W.codeIn K cdPSafe "Pond.safe" = true)
    (kPSafe : PySem.W.keepIn K (.ref fPSafe) = true) :
    ∃ fd : FuncData, (∀ (s : Shared) (us : List Value), us.length = (["calls"] : List Str).length → BindsTo s fd ⟨us, []⟩ ((["calls"] : List Str).zip us)) ∧ ∀ base : Heap, K.In base → base.Ns mainGlobals mg → FnOk P w K mg base CX0 10 fa fd ["calls"] (spAnswers K) := by
  have T : Txt K mg := ⟨stat_mk lB, ⟨_, PySem.W.mg_of X G gFREE, ⟨_, rfl⟩⟩, ⟨_, PySem.W.mg_of X G gTOAD, ⟨_, rfl⟩⟩, ⟨_, PySem.W.mg_of X G gFROG, ⟨_, rfl⟩⟩, ⟨_, PySem.W.mg_of X G gMOST, ⟨_, rfl⟩⟩, ⟨_, PySem.W.mg_of X G gWATER, ⟨_, rfl⟩⟩, ⟨_, PySem.W.mg_of X G gSTEP, ⟨_, rfl⟩⟩, ⟨_, PySem.W.mg_of X G gLEAP, ⟨_, rfl⟩⟩, ⟨_, PySem.W.mg_of X G gNOMOVE, ⟨_, rfl⟩⟩, ⟨_, PySem.W.mg_of X G gROW, ⟨_, rfl⟩⟩, ⟨_, PySem.W.mg_of X G gMOVE, ⟨_, rfl⟩⟩, ⟨_, PySem.W.mg_of X G gMOVES, ⟨_, rfl⟩⟩, ⟨_, PySem.W.mg_of X G gSHOWS, ⟨_, rfl⟩⟩, ⟨_, PySem.W.mg_of X G gTO, ⟨_, rfl⟩⟩, ⟨_, PySem.W.mg_of X G gWAYS, ⟨_, rfl⟩⟩, ⟨_, PySem.W.mg_of X G gCOMES, ⟨_, rfl⟩⟩, ⟨_, PySem.W.mg_of X G gSTUCKS, ⟨_, rfl⟩⟩, ⟨_, PySem.W.mg_of X G gLONGEST, ⟨_, rfl⟩⟩, ⟨_, PySem.W.mg_of X G gSAFE, ⟨_, rfl⟩⟩, ⟨_, PySem.W.mg_of X G gSIDES, ⟨_, rfl⟩⟩, ⟨_, PySem.W.mg_of X G gNOTTHERE, ⟨_, rfl⟩⟩, ⟨_, PySem.W.mg_of X G gCANTMOVE, ⟨_, rfl⟩⟩, ⟨_, PySem.W.mg_of X G gISFREE, ⟨_, rfl⟩⟩, ⟨_, PySem.W.mg_of X G gCANTCOME, ⟨_, rfl⟩⟩, PySem.W.mg_of X G gB, PySem.W.mg_none_of X G nlen, PySem.W.mg_none_of X G nmax, PySem.W.mg_none_of X G nmin, PySem.W.mg_none_of X G nrange, PySem.W.mg_none_of X G nlist, PySem.W.mg_none_of X G ntuple, PySem.W.mg_none_of X G nreversed⟩
  have FIsRow := fun_mk (st := sIsRow) lIsRow cIsRow kIsRow
  have bIsRow := FIsRow.binds (ps := ["stones"]) fun _ _ _ _ _ _ us hl => match us, hl with | [_], _ => rfl
  have DIsRow : Def K mg "is_row" sIsRow ["stones"] fIsRow _ := ⟨FIsRow, PySem.W.mg_of X G aIsRow, bIsRow⟩
  have FFound := fun_mk (st := sFound) lFound cFound kFound
  have bFound := FFound.binds (ps := ["row", "place"]) fun _ _ _ _ _ _ us hl => match us, hl with | [_, _], _ => rfl
  have DFound : Def K mg "found_at" sFound ["row", "place"] fFound _ := ⟨FFound, PySem.W.mg_of X G aFound, bFound⟩
  have FDir := fun_mk (st := sDir) lDir cDir kDir
  have bDir := FDir.binds (ps := ["kind"]) fun _ _ _ _ _ _ us hl => match us, hl with | [_], _ => rfl
  have DDir : Def K mg "direction" sDir ["kind"] fDir _ := ⟨FDir, PySem.W.mg_of X G aDir, bDir⟩
  have FOth := fun_mk (st := sOth) lOth cOth kOth
  have bOth := FOth.binds (ps := ["kind"]) fun _ _ _ _ _ _ us hl => match us, hl with | [_], _ => rfl
  have DOth : Def K mg "other_kind" sOth ["kind"] fOth _ := ⟨FOth, PySem.W.mg_of X G aOth, bOth⟩
  have FLen := fun_mk (st := sLen) lLen cLen kLen
  have bLen := FLen.binds (ps := ["row", "stone"]) fun _ _ _ _ _ _ us hl => match us, hl with | [_, _], _ => rfl
  have DLen : Def K mg "move_length" sLen ["row", "stone"] fLen _ := ⟨FLen, PySem.W.mg_of X G aLen, bLen⟩
  have FMoves := fun_mk (st := sMoves) lMoves cMoves kMoves
  have bMoves := FMoves.binds (ps := ["row"]) fun _ _ _ _ _ _ us hl => match us, hl with | [_], _ => rfl
  have DMoves : Def K mg "stones_to_move" sMoves ["row"] fMoves _ := ⟨FMoves, PySem.W.mg_of X G aMoves, bMoves⟩
  have FAfter := fun_mk (st := sAfter) lAfter cAfter kAfter
  have bAfter := FAfter.binds (ps := ["row", "stone"]) fun _ _ _ _ _ _ us hl => match us, hl with | [_, _], _ => rfl
  have DAfter : Def K mg "row_after" sAfter ["row", "stone"] fAfter _ := ⟨FAfter, PySem.W.mg_of X G aAfter, bAfter⟩
  have FLeaps := fun_mk (st := sLeaps) lLeaps cLeaps kLeaps
  have bLeaps := FLeaps.binds (ps := ["row", "way"]) fun _ _ _ _ _ _ us hl => match us, hl with | [_, _], _ => rfl
  have DLeaps : Def K mg "count_leaps" sLeaps ["row", "way"] fLeaps _ := ⟨FLeaps, PySem.W.mg_of X G aLeaps, bLeaps⟩
  have FSides := fun_mk (st := sSides) lSides cSides kSides
  have bSides := FSides.binds (ps := ["toads", "frogs", "gap"]) fun _ _ _ _ _ _ us hl => match us, hl with | [_, _, _], _ => rfl
  have DSides : Def K mg "sides" sSides ["toads", "frogs", "gap"] fSides _ := ⟨FSides, PySem.W.mg_of X G aSides, bSides⟩
  have FEnd := fun_mk (st := sEnd) lEnd cEnd kEnd
  have bEnd := FEnd.binds (ps := ["calls", "start"]) fun _ _ _ _ _ _ us hl => match us, hl with | [_, _], _ => rfl
  have DEnd : Def K mg "call_end" sEnd ["calls", "start"] fEnd _ := ⟨FEnd, PySem.W.mg_of X G aEnd, bEnd⟩
  have FSplit := fun_mk (st := sSplit) lSplit cSplit kSplit
  have bSplit := FSplit.binds (ps := ["calls"]) fun _ _ _ _ _ _ us hl => match us, hl with | [_], _ => rfl
  have DSplit : Def K mg "split_calls" sSplit ["calls"] fSplit _ := ⟨FSplit, PySem.W.mg_of X G aSplit, bSplit⟩
  have FCallAns := fun_mk (st := sCallAns) lCallAns cCallAns kCallAns
  have bCallAns := FCallAns.binds (ps := ["pond", "part"]) fun _ _ _ _ _ _ us hl => match us, hl with | [_, _], _ => rfl
  have DCallAns : Def K mg "answer_call" sCallAns ["pond", "part"] fCallAns _ := ⟨FCallAns, PySem.W.mg_of X G aCallAns, bCallAns⟩
  have FAnswers := fun_mk (st := sAnswers) lAnswers cAnswers kAnswers
  have bAnswers := FAnswers.binds (ps := ["calls"]) fun _ _ _ _ _ _ us hl => match us, hl with | [_], _ => rfl
  have DAnswers : Def K mg "answers" sAnswers ["calls"] fAnswers _ := ⟨FAnswers, PySem.W.mg_of X G aAnswers, bAnswers⟩
  have RR : ClsR K mg CR := ⟨⟨pgR, hdR, poR, saR⟩, nR_counts, nR_lasts, nR_farthest, PySem.W.mg_of X G aR⟩
  have FRInit := fun_mk (st := sRInit) lRInit cRInit kRInit
  have bRInit := FRInit.binds (ps := ["self", "start"]) fun _ _ _ _ _ _ us hl => match us, hl with | [_, _], _ => rfl
  have mRInit : Meth K CR "__init__" fRInit := ⟨aRInit, iRInit, kRInit⟩
  have FOmo := fun_mk (st := sOmo) lOmo cOmo kOmo
  have bOmo := FOmo.binds (ps := ["self", "layer"]) fun _ _ _ _ _ _ us hl => match us, hl with | [_, _], _ => rfl
  have mOmo : Meth K CR "one_move_on" fOmo := ⟨aOmo, iOmo, kOmo⟩
  have FRAll := fun_mk (st := sRAll) lRAll cRAll kRAll
  have bRAll := FRAll.binds (ps := ["self"]) fun _ _ _ _ _ _ us hl => match us, hl with | [_], _ => rfl
  have mRAll : Meth K CR "rows_in_all" fRAll := ⟨aRAll, iRAll, kRAll⟩
  have FRStuck := fun_mk (st := sRStuck) lRStuck cRStuck kRStuck
  have bRStuck := FRStuck.binds (ps := ["self"]) fun _ _ _ _ _ _ us hl => match us, hl with | [_], _ => rfl
  have mRStuck : Meth K CR "stuck_rows" fRStuck := ⟨aRStuck, iRStuck, kRStuck⟩
  have FRLong := fun_mk (st := sRLong) lRLong cRLong kRLong
  have bRLong := FRLong.binds (ps := ["self"]) fun _ _ _ _ _ _ us hl => match us, hl with | [_], _ => rfl
  have mRLong : Meth K CR "longest_way" fRLong := ⟨aRLong, iRLong, kRLong⟩
  have FCan := fun_mk (st := sCan) lCan cCan kCan
  have bCan := FCan.binds (ps := ["self", "row"]) fun _ _ _ _ _ _ us hl => match us, hl with | [_, _], _ => rfl
  have mCan : Meth K CR "can_come" fCan := ⟨aCan, iCan, kCan⟩
  have FWaysTo := fun_mk (st := sWaysTo) lWaysTo cWaysTo kWaysTo
  have bWaysTo := FWaysTo.binds (ps := ["self", "row"]) fun _ _ _ _ _ _ us hl => match us, hl with | [_, _], _ => rfl
  have mWaysTo : Meth K CR "ways_to" fWaysTo := ⟨aWaysTo, iWaysTo, kWaysTo⟩
  have FFirst := fun_mk (st := sFirst) lFirst cFirst kFirst
  have bFirst := FFirst.binds (ps := ["self", "row"]) fun _ _ _ _ _ _ us hl => match us, hl with | [_, _], _ => rfl
  have mFirst : Meth K CR "first_way" fFirst := ⟨aFirst, iFirst, kFirst⟩
  have MKR : Mk K CR fRInit := ⟨mkR, aRInit, iRInit, kcR⟩
  have RP : ClsP K mg CP := ⟨⟨pgP, hdP, poP, saP⟩, nP_held, PySem.W.mg_of X G aP⟩
  have FPInit := fun_mk (st := sPInit) lPInit cPInit kPInit
  have bPInit := FPInit.binds (ps := ["self"]) fun _ _ _ _ _ _ us hl => match us, hl with | [_], _ => rfl
  have mPInit : Meth K CP "__init__" fPInit := ⟨aPInit, iPInit, kPInit⟩
  have FPRow := fun_mk (st := sPRow) lPRow cPRow kPRow
  have bPRow := FPRow.binds (ps := ["self", "stones"]) fun _ _ _ _ _ _ us hl => match us, hl with | [_, _], _ => rfl
  have mPRow : Meth K CP "row" fPRow := ⟨aPRow, iPRow, kPRow⟩
  have FPMove := fun_mk (st := sPMove) lPMove cPMove kPMove
  have bPMove := FPMove.binds (ps := ["self", "stone"]) fun _ _ _ _ _ _ us hl => match us, hl with | [_, _], _ => rfl
  have mPMove : Meth K CP "move" fPMove := ⟨aPMove, iPMove, kPMove⟩
  have FPMoves := fun_mk (st := sPMoves) lPMoves cPMoves kPMoves
  have bPMoves := FPMoves.binds (ps := ["self"]) fun _ _ _ _ _ _ us hl => match us, hl with | [_], _ => rfl
  have mPMoves : Meth K CP "moves" fPMoves := ⟨aPMoves, iPMoves, kPMoves⟩
  have FPShows := fun_mk (st := sPShows) lPShows cPShows kPShows
  have bPShows := FPShows.binds (ps := ["self"]) fun _ _ _ _ _ _ us hl => match us, hl with | [_], _ => rfl
  have mPShows : Meth K CP "shows" fPShows := ⟨aPShows, iPShows, kPShows⟩
  have FPFits := fun_mk (st := sPFits) lPFits cPFits kPFits
  have bPFits := FPFits.binds (ps := ["self", "stones"]) fun _ _ _ _ _ _ us hl => match us, hl with | [_, _], _ => rfl
  have mPFits : Meth K CP "fits" fPFits := ⟨aPFits, iPFits, kPFits⟩
  have FPTo := fun_mk (st := sPTo) lPTo cPTo kPTo
  have bPTo := FPTo.binds (ps := ["self", "stones"]) fun _ _ _ _ _ _ us hl => match us, hl with | [_, _], _ => rfl
  have mPTo : Meth K CP "to" fPTo := ⟨aPTo, iPTo, kPTo⟩
  have FPWays := fun_mk (st := sPWays) lPWays cPWays kPWays
  have bPWays := FPWays.binds (ps := ["self", "stones"]) fun _ _ _ _ _ _ us hl => match us, hl with | [_, _], _ => rfl
  have mPWays : Meth K CP "ways" fPWays := ⟨aPWays, iPWays, kPWays⟩
  have FPComes := fun_mk (st := sPComes) lPComes cPComes kPComes
  have bPComes := FPComes.binds (ps := ["self"]) fun _ _ _ _ _ _ us hl => match us, hl with | [_], _ => rfl
  have mPComes : Meth K CP "comes" fPComes := ⟨aPComes, iPComes, kPComes⟩
  have FPStucks := fun_mk (st := sPStucks) lPStucks cPStucks kPStucks
  have bPStucks := FPStucks.binds (ps := ["self"]) fun _ _ _ _ _ _ us hl => match us, hl with | [_], _ => rfl
  have mPStucks : Meth K CP "stucks" fPStucks := ⟨aPStucks, iPStucks, kPStucks⟩
  have FPLongest := fun_mk (st := sPLongest) lPLongest cPLongest kPLongest
  have bPLongest := FPLongest.binds (ps := ["self"]) fun _ _ _ _ _ _ us hl => match us, hl with | [_], _ => rfl
  have mPLongest : Meth K CP "longest" fPLongest := ⟨aPLongest, iPLongest, kPLongest⟩
  have FPStill := fun_mk (st := sPStill) lPStill cPStill kPStill
  have bPStill := FPStill.binds (ps := ["self", "stone", "target"]) fun _ _ _ _ _ _ us hl => match us, hl with | [_, _, _], _ => rfl
  have mPStill : Meth K CP "still_leads" fPStill := ⟨aPStill, iPStill, kPStill⟩
  have FPSafe := fun_mk (st := sPSafe) lPSafe cPSafe kPSafe
  have bPSafe := FPSafe.binds (ps := ["self", "stones"]) fun _ _ _ _ _ _ us hl => match us, hl with | [_, _], _ => rfl
  have mPSafe : Meth K CP "safe" fPSafe := ⟨aPSafe, iPSafe, kPSafe⟩
  have MKP : Mk K CP fPInit := ⟨mkP, aPInit, iPInit, kcP⟩
  have e0 := hfa.symm.trans DAnswers.g
  cases e0
  refine ⟨PySem.W.fnOf "answers" "answers" (defArgs sAnswers) (defBody sAnswers) (defScope sAnswers) .none kVAnswers dcAnswers pmAnswers anAnswers cdAnswers ctAnswers, fun s us hu => (match us, hu with | [_], _ => .of_eq rfl), fun base _ _ => ?_⟩
  have GLen := ok_len (P := P) (w := w) (base := base) FLen T DDir DOth DFound
  have GMoves := ok_moves FMoves T DLen GLen
  have GAfter := ok_after FAfter T DDir DLen GLen
  have GLeaps := ok_leaps FLeaps T DLen DAfter GLen GAfter
  have GOmo := ok_omo FOmo T RR DMoves DAfter GMoves GAfter
  have GRInit := ok_rinit FRInit T RR mOmo bOmo GOmo
  have GCan := ok_can (P := P) (w := w) (base := base) FCan RR
  have GWaysTo := ok_waysto (P := P) (w := w) (base := base) FWaysTo RR
  have GFirst := ok_first (P := P) (w := w) (base := base) FFirst T RR
  have GRAll := ok_rall (P := P) (w := w) (base := base) FRAll T RR
  have GRStuck := ok_rstuck FRStuck T RR DMoves GMoves
  have GRLong := ok_rlong FRLong RR mFirst bFirst GFirst
  have GPInit := ok_pinit (P := P) (w := w) (base := base) FPInit T RP
  have GPRow := ok_prow FPRow T RP DIsRow DMoves GMoves
  have GPMove := ok_pmove FPMove T RP DLen DAfter GLen GAfter
  have GPMoves := ok_pmoves FPMoves T RP DMoves GMoves
  have GPShows := ok_pshows (P := P) (w := w) (base := base) FPShows T RP
  have GPFits := ok_pfits (P := P) (w := w) (base := base) FPFits T RP DIsRow
  have GPTo := ok_pto FPTo T RP RR mPFits bPFits GPFits MKR bRInit GRInit mCan bCan GCan mFirst bFirst GFirst DLeaps GLeaps
  have GPWays := ok_pways FPWays T RP RR mPFits bPFits GPFits MKR bRInit GRInit mWaysTo bWaysTo GWaysTo
  have GPComes := ok_pcomes FPComes T RP RR MKR bRInit GRInit mRAll bRAll GRAll
  have GPStucks := ok_pstucks FPStucks T RP RR MKR bRInit GRInit mRStuck bRStuck GRStuck
  have GPLongest := ok_plongest FPLongest T RP RR MKR bRInit GRInit mRLong bRLong GRLong
  have GPStill := ok_pstill FPStill T RP RR DAfter GAfter MKR bRInit GRInit mCan bCan GCan
  have GPSafe := ok_psafe FPSafe T RP mPFits bPFits GPFits DMoves GMoves mPStill bPStill GPStill
  have GSides := ok_sides FSides T RR MKR bRInit GRInit mCan bCan GCan mFirst bFirst GFirst
  have GSplit := ok_split (P := P) (w := w) (base := base) FSplit T DEnd
  have GCallAns := ok_callans FCallAns T RP ⟨mPRow, mPMove, mPMoves, mPShows, mPTo, mPWays, mPComes, mPStucks, mPLongest, mPSafe, bPRow, bPMove, bPMoves, bPShows, bPTo, bPWays, bPComes, bPStucks, bPLongest, bPSafe, GPRow, GPMove, GPMoves, GPShows, GPTo, GPWays, GPComes, GPStucks, GPLongest, GPSafe, DSides, GSides⟩
  exact ok_answers FAnswers T RP MKP bPInit GPInit DSplit GSplit DCallAns GCallAns
end Tp
open PySem PySem.W PyProof.Rows
set_option maxRecDepth 100000 in
set_option maxHeartbeats 0 in
theorem PySem.Challenge.cw_toadsfrogs_s01_answers_holds : PySem.Challenge.rw_toadsfrogs_s01_answers.Holds := by
  w_on; k_headS; (case hw => exact ⟨[.list [.int 2]], by decide +kernel, by decide +kernel⟩)
  k_fillS
  refine L2.walk_specK (r := PySem.Challenge.rw_toadsfrogs_s01_answers) (k := 10) (CX := L2.CX0) (ps := ["calls"]) (sp := Tp.spAnswers) (by decide +kernel) rfl rfl ⟨rfl, by decide, by decide⟩ (fun w h Y => PySem.W.kIn_of Y) ?T ?F ?S (fun _ _ _ _ z => z)
  case T =>
    intro w
    refine' Tp.stat_mk ?lB
    (case lB => k_is)
  case F =>
    intro w mg fa h Y KX G hmg
    refine' Tp.all_mk KX G hmg ?gFREE ?gTOAD ?gFROG ?gMOST ?gWATER ?gSTEP ?gLEAP ?gNOMOVE ?gROW ?gMOVE ?gMOVES ?gSHOWS ?gTO ?gWAYS ?gCOMES ?gSTUCKS ?gLONGEST ?gSAFE ?gSIDES ?gNOTTHERE ?gCANTMOVE ?gISFREE ?gCANTCOME ?nlen ?nmax ?nmin ?nrange ?nlist ?ntuple ?nreversed ?gB ?lB ?aIsRow ?lIsRow ?cIsRow ?kIsRow ?aFound ?lFound ?cFound ?kFound ?aDir ?lDir ?cDir ?kDir ?aOth ?lOth ?cOth ?kOth ?aLen ?lLen ?cLen ?kLen ?aMoves ?lMoves ?cMoves ?kMoves ?aAfter ?lAfter ?cAfter ?kAfter ?aLeaps ?lLeaps ?cLeaps ?kLeaps ?aSides ?lSides ?cSides ?kSides ?aEnd ?lEnd ?cEnd ?kEnd ?aSplit ?lSplit ?cSplit ?kSplit ?aCallAns ?lCallAns ?cCallAns ?kCallAns ?aAnswers ?lAnswers ?cAnswers ?kAnswers ?aR ?pgR ?hdR ?poR ?saR ?mkR ?kcR ?nR_counts ?nR_lasts ?nR_farthest ?aRInit ?iRInit ?lRInit ?cRInit ?kRInit ?aOmo ?iOmo ?lOmo ?cOmo ?kOmo ?aRAll ?iRAll ?lRAll ?cRAll ?kRAll ?aRStuck ?iRStuck ?lRStuck ?cRStuck ?kRStuck ?aRLong ?iRLong ?lRLong ?cRLong ?kRLong ?aCan ?iCan ?lCan ?cCan ?kCan ?aWaysTo ?iWaysTo ?lWaysTo ?cWaysTo ?kWaysTo ?aFirst ?iFirst ?lFirst ?cFirst ?kFirst ?aP ?pgP ?hdP ?poP ?saP ?mkP ?kcP ?nP_held ?aPInit ?iPInit ?lPInit ?cPInit ?kPInit ?aPRow ?iPRow ?lPRow ?cPRow ?kPRow ?aPMove ?iPMove ?lPMove ?cPMove ?kPMove ?aPMoves ?iPMoves ?lPMoves ?cPMoves ?kPMoves ?aPShows ?iPShows ?lPShows ?cPShows ?kPShows ?aPFits ?iPFits ?lPFits ?cPFits ?kPFits ?aPTo ?iPTo ?lPTo ?cPTo ?kPTo ?aPWays ?iPWays ?lPWays ?cPWays ?kPWays ?aPComes ?iPComes ?lPComes ?cPComes ?kPComes ?aPStucks ?iPStucks ?lPStucks ?cPStucks ?kPStucks ?aPLongest ?iPLongest ?lPLongest ?cPLongest ?kPLongest ?aPStill ?iPStill ?lPStill ?cPStill ?kPStill ?aPSafe ?iPSafe ?lPSafe ?cPSafe ?kPSafe
    (case gFREE => k_is)
    (case gTOAD => k_is)
    (case gFROG => k_is)
    (case gMOST => k_is)
    (case gWATER => k_is)
    (case gSTEP => k_is)
    (case gLEAP => k_is)
    (case gNOMOVE => k_is)
    (case gROW => k_is)
    (case gMOVE => k_is)
    (case gMOVES => k_is)
    (case gSHOWS => k_is)
    (case gTO => k_is)
    (case gWAYS => k_is)
    (case gCOMES => k_is)
    (case gSTUCKS => k_is)
    (case gLONGEST => k_is)
    (case gSAFE => k_is)
    (case gSIDES => k_is)
    (case gNOTTHERE => k_is)
    (case gCANTMOVE => k_is)
    (case gISFREE => k_is)
    (case gCANTCOME => k_is)
    (case nlen => k_is)
    (case nmax => k_is)
    (case nmin => k_is)
    (case nrange => k_is)
    (case nlist => k_is)
    (case ntuple => k_is)
    (case nreversed => k_is)
    (case gB => k_is)
    (case lB => k_is)
    (case aIsRow => k_is)
    (case lIsRow => k_is)
    (case cIsRow => k_is)
    (case kIsRow => k_is)
    (case aFound => k_is)
    (case lFound => k_is)
    (case cFound => k_is)
    (case kFound => k_is)
    (case aDir => k_is)
    (case lDir => k_is)
    (case cDir => k_is)
    (case kDir => k_is)
    (case aOth => k_is)
    (case lOth => k_is)
    (case cOth => k_is)
    (case kOth => k_is)
    (case aLen => k_is)
    (case lLen => k_is)
    (case cLen => k_is)
    (case kLen => k_is)
    (case aMoves => k_is)
    (case lMoves => k_is)
    (case cMoves => k_is)
    (case kMoves => k_is)
    (case aAfter => k_is)
    (case lAfter => k_is)
    (case cAfter => k_is)
    (case kAfter => k_is)
    (case aLeaps => k_is)
    (case lLeaps => k_is)
    (case cLeaps => k_is)
    (case kLeaps => k_is)
    (case aSides => k_is)
    (case lSides => k_is)
    (case cSides => k_is)
    (case kSides => k_is)
    (case aEnd => k_is)
    (case lEnd => k_is)
    (case cEnd => k_is)
    (case kEnd => k_is)
    (case aSplit => k_is)
    (case lSplit => k_is)
    (case cSplit => k_is)
    (case kSplit => k_is)
    (case aCallAns => k_is)
    (case lCallAns => k_is)
    (case cCallAns => k_is)
    (case kCallAns => k_is)
    (case aAnswers => k_is)
    (case lAnswers => k_is)
    (case cAnswers => k_is)
    (case kAnswers => k_is)
    (case aR => k_is)
    (case pgR => k_is)
    (case hdR => k_is)
    (case poR => k_is)
    (case saR => k_is)
    (case mkR => k_is)
    (case kcR => k_is)
    (case nR_counts => k_is)
    (case nR_lasts => k_is)
    (case nR_farthest => k_is)
    (case aRInit => k_is)
    (case iRInit => k_is)
    (case lRInit => k_is)
    (case cRInit => k_is)
    (case kRInit => k_is)
    (case aOmo => k_is)
    (case iOmo => k_is)
    (case lOmo => k_is)
    (case cOmo => k_is)
    (case kOmo => k_is)
    (case aRAll => k_is)
    (case iRAll => k_is)
    (case lRAll => k_is)
    (case cRAll => k_is)
    (case kRAll => k_is)
    (case aRStuck => k_is)
    (case iRStuck => k_is)
    (case lRStuck => k_is)
    (case cRStuck => k_is)
    (case kRStuck => k_is)
    (case aRLong => k_is)
    (case iRLong => k_is)
    (case lRLong => k_is)
    (case cRLong => k_is)
    (case kRLong => k_is)
    (case aCan => k_is)
    (case iCan => k_is)
    (case lCan => k_is)
    (case cCan => k_is)
    (case kCan => k_is)
    (case aWaysTo => k_is)
    (case iWaysTo => k_is)
    (case lWaysTo => k_is)
    (case cWaysTo => k_is)
    (case kWaysTo => k_is)
    (case aFirst => k_is)
    (case iFirst => k_is)
    (case lFirst => k_is)
    (case cFirst => k_is)
    (case kFirst => k_is)
    (case aP => k_is)
    (case pgP => k_is)
    (case hdP => k_is)
    (case poP => k_is)
    (case saP => k_is)
    (case mkP => k_is)
    (case kcP => k_is)
    (case nP_held => k_is)
    (case aPInit => k_is)
    (case iPInit => k_is)
    (case lPInit => k_is)
    (case cPInit => k_is)
    (case kPInit => k_is)
    (case aPRow => k_is)
    (case iPRow => k_is)
    (case lPRow => k_is)
    (case cPRow => k_is)
    (case kPRow => k_is)
    (case aPMove => k_is)
    (case iPMove => k_is)
    (case lPMove => k_is)
    (case cPMove => k_is)
    (case kPMove => k_is)
    (case aPMoves => k_is)
    (case iPMoves => k_is)
    (case lPMoves => k_is)
    (case cPMoves => k_is)
    (case kPMoves => k_is)
    (case aPShows => k_is)
    (case iPShows => k_is)
    (case lPShows => k_is)
    (case cPShows => k_is)
    (case kPShows => k_is)
    (case aPFits => k_is)
    (case iPFits => k_is)
    (case lPFits => k_is)
    (case cPFits => k_is)
    (case kPFits => k_is)
    (case aPTo => k_is)
    (case iPTo => k_is)
    (case lPTo => k_is)
    (case cPTo => k_is)
    (case kPTo => k_is)
    (case aPWays => k_is)
    (case iPWays => k_is)
    (case lPWays => k_is)
    (case cPWays => k_is)
    (case kPWays => k_is)
    (case aPComes => k_is)
    (case iPComes => k_is)
    (case lPComes => k_is)
    (case cPComes => k_is)
    (case kPComes => k_is)
    (case aPStucks => k_is)
    (case iPStucks => k_is)
    (case lPStucks => k_is)
    (case cPStucks => k_is)
    (case kPStucks => k_is)
    (case aPLongest => k_is)
    (case iPLongest => k_is)
    (case lPLongest => k_is)
    (case cPLongest => k_is)
    (case kPLongest => k_is)
    (case aPStill => k_is)
    (case iPStill => k_is)
    (case lPStill => k_is)
    (case cPStill => k_is)
    (case kPStill => k_is)
    (case aPSafe => k_is)
    (case iPSafe => k_is)
    (case lPSafe => k_is)
    (case cPSafe => k_is)
    (case kPSafe => k_is)
  case S =>
    intro K H xs a hO hwi hask hx
    cases hx with
    | cons h1 h2 =>
      cases h2
      cases h1 with
      | lst hs ha =>
        have e := L2.ints_dw a.1 _ ha
        subst e
        have q : PyUw88.answers_asked a.1 = true := hask
        obtain ⟨cs, ln⟩ := TF.line_of_asked q
        exact ⟨_, a.1, cs, rfl, hs, ln, fun H' p hp => .lst (L2.SqL.of hp) (L2.dw_ints _)⟩
#print axioms PySem.Challenge.cw_toadsfrogs_s01_answers_holds
