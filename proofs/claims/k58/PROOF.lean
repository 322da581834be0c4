import PyProof.Rows.All
import Wide.All
import OpenK.AllK
import Wide.FinOn
import PyProof.EqAt
import PyProof.EqKinds
import PyProof.TupleCall
import KE.BitLaws
import PyProof.ExcInit
import PyProof.ExcClass3
import OpenK.KOwn
import PyProof.ExcArgs
import PyProof.ExcBaseAll.ValueError
import PyProof.ExcBaseAll.IndexError
import PyProof.ExcBaseAll.OverflowError
import PyProof.ExcBaseAll.RuntimeError
import PyProof.ExcBaseAll.ZeroDivisionError
import PyProof.ListRange
import KE.KCallOwn
import PyProof.ReprLen
import PyProof.Rows.RegStrFacts
import PyProof.P3Eq
import PyProof.InstNe
import KE.KStar
import PyProof.Conv_bool
import PyProof.MeetsIn
import PyProof.Rows.Range3
import PyProof.SeqInW
import PyProof.Rows.SeqMore
import PyProof.Rows.StrJoinMade
import PySem.Challenge.RW_nightpaper_k58_what_a_bundle_is
set_option Elab.async false
set_option linter.all false
set_option maxRecDepth 100000
/-! THE HAND LAYER, for ints, bools, texts, own classes, lists, tuples, dicts, comprehensions, walks over dicts, enumerate, zip, reversed, texts, calls, loops. Paste it whole ahead of your own text; what your proof does not reach may be deleted. -/
namespace L2
open PySem PySem.Spec PyProof.Rows

/-- a key: an int or a str -/
abbrev Key := Sum Int Str
def keyIs : Key → Value → Bool
  | .inl k, v => Value.isInt k v
  | .inr x, v => Value.isStrOf x v
def keyH (w : World) : Key → Int
  | .inl k => hashInt k
  | .inr x => hashStr w x
theorem keyIs_shape : ∀ {k : Key} {v : Value}, keyIs k v = true → (∃ i t, k = Sum.inl i ∧ v = Value.int i t) ∨ (∃ x t, k = Sum.inr x ∧ v = Value.str x t)
  | .inl i, v, h => by
    obtain ⟨t, e⟩ := Value.isInt_shape (k := i) (v := v) h
    exact .inl ⟨i, t, rfl, e⟩
  | .inr x, v, h => by
    obtain ⟨t, e⟩ := Value.isStrOf_shape (x := x) (v := v) h
    exact .inr ⟨x, t, rfl, e⟩
theorem keyIs_int (i : Int) (t : Tok) : keyIs (.inl i) (.int i t) = true := by simp [keyIs, Value.isInt]
theorem keyIs_str (x : Str) (t : Tok) : keyIs (.inr x) (.str x t) = true := by simp [keyIs, Value.isStrOf]
theorem key_ll (a b : Int) : decide ((Sum.inl a : Key) = Sum.inl b) = (a == b) := by
  by_cases e : a = b
  · subst e; simp
  · have h : ¬ (Sum.inl a : Key) = Sum.inl b := fun q => e (Sum.inl.inj q)
    rw [decide_eq_false h]
    exact (beq_eq_false_iff_ne.mpr e).symm
theorem key_rr (a b : Str) : decide ((Sum.inr a : Key) = Sum.inr b) = decide (a = b) := by
  by_cases e : a = b
  · subst e; simp
  · have h : ¬ (Sum.inr a : Key) = Sum.inr b := fun q => e (Sum.inr.inj q)
    rw [decide_eq_false h, decide_eq_false e]
theorem key_lr (a : Int) (b : Str) : decide ((Sum.inl a : Key) = Sum.inr b) = false := decide_eq_false (fun q => nomatch q)
theorem key_rl (a : Str) (b : Int) : decide ((Sum.inr a : Key) = Sum.inl b) = false := decide_eq_false (fun q => nomatch q)

def mixKind (prog : Program) (w : World) : PySem.KeyKind prog w Key where
  is := keyIs
  hash := keyH w
  inj := fun v a b ha hb => by
    rcases keyIs_shape ha with ⟨i, t, rfl, rfl⟩ | ⟨x, t, rfl, rfl⟩
    · rcases keyIs_shape hb with ⟨j, u, rfl, e⟩ | ⟨y, u, rfl, e⟩
      · injection e with e1 _; rw [e1]
      · exact nomatch e
    · rcases keyIs_shape hb with ⟨j, u, rfl, e⟩ | ⟨y, u, rfl, e⟩
      · exact nomatch e
      · injection e with e1 _; rw [e1]
  byValue := fun k v h => by
    rcases keyIs_shape h with ⟨i, t, rfl, rfl⟩ | ⟨x, t, rfl, rfl⟩ <;> rfl
  pyHash := fun hv h => by
    rcases keyIs_shape hv with ⟨i, t, rfl, rfl⟩ | ⟨x, t, rfl, rfl⟩
    · exact wpAny_pyHash_int h
    · exact wpAny_pyHash_str h
  eqBool := fun hu hv h => by
    rcases keyIs_shape hu with ⟨i, t, rfl, rfl⟩ | ⟨x, t, rfl, rfl⟩
    · rcases keyIs_shape hv with ⟨j, u, rfl, rfl⟩ | ⟨y, u, rfl, rfl⟩
      · rw [key_ll] at h; exact wpAny_eqBool_int h
      · rw [key_lr] at h; exact SeqAt.EqAt.int_str i t y u _ _ _ _ h
    · rcases keyIs_shape hv with ⟨j, u, rfl, rfl⟩ | ⟨y, u, rfl, rfl⟩
      · rw [key_rl] at h; exact SeqAt.EqAt.str_int x t j u _ _ _ _ h
      · rw [key_rr] at h; exact wpAny_eqBool_str h
  «strs» := fun k x t v h => by
    rcases keyIs_shape h with ⟨i, u, rfl, e⟩ | ⟨y, u, rfl, e⟩
    · exact nomatch e
    · injection e with e1 _
      subst e1
      cases v <;> rfl

theorem mixKind_int (prog : Program) (w : World) (i : Int) (t : Tok) : (mixKind prog w).is (.inl i) (.int i t) = true := keyIs_int i t
theorem mixKind_str (prog : Program) (w : World) (x : Str) (t : Tok) : (mixKind prog w).is (.inr x) (.str x t) = true := keyIs_str x t
end L2

namespace L2
open PySem PySem.Spec PyProof.Rows

/-- a value, without the heap -/
inductive V where
  | non | bl (b : Bool) | int (i : Int) | str (x : Str) | byt (b : Array UInt8) | flt (b : UInt64) | ref (a : Addr) | ty (n : String)
  deriving DecidableEq

def RelV : V → Value → Prop
  | .non, u => u = Value.none
  | .bl b, u => u = Value.bool b
  | .int i, u => ∃ t, u = Value.int i t
  | .str x, u => ∃ t, u = Value.str x t
  | .byt b, u => ∃ t, u = Value.bytes b t
  | .flt b, u => ∃ t, u = Value.float b t
  | .ref a, u => u = Value.ref a
  | .ty n, u => u = Value.type n

abbrev Vals : List V → List Value → Prop := Paired RelV
theorem Vals.length {xs : List V} {us : List Value} (r : Vals xs us) : xs.length = us.length := Paired.length r
theorem Vals.get : ∀ {xs : List V} {us : List Value} {i : Nat} {x : V}, Vals xs us → xs[i]? = some x → ∃ u, us[i]? = some u ∧ RelV x u
  | _, _, _, _, .nil, e => by simp at e
  | _, _, 0, _, .cons r _, e => by simp at e; subst e; exact ⟨_, rfl, r⟩
  | _, _, i + 1, x, .cons _ t, e => by
    obtain ⟨u, h1, h2⟩ := Vals.get (i := i) (x := x) t (by simpa using e)
    exact ⟨u, by simpa using h1, h2⟩
theorem Vals.set {x : V} {u : Value} (r : RelV x u) : ∀ {xs : List V} {us : List Value} (i : Nat), Vals xs us → Vals (xs.set i x) (us.set i u)
  | _, _, _, .nil => .nil
  | _, _, 0, .cons _ t => .cons r t
  | _, _, i + 1, .cons q t => .cons q (Vals.set r i t)
theorem Vals.append : ∀ {xs ys : List V} {us ws : List Value}, Vals xs us → Vals ys ws → Vals (xs ++ ys) (us ++ ws)
  | _, _, _, _, .nil, s => s
  | _, _, _, _, .cons r t, s => .cons r (Vals.append t s)
theorem Vals.take : ∀ {xs : List V} {us : List Value} (n : Nat), Vals xs us → Vals (xs.take n) (us.take n)
  | _, _, 0, _ => .nil
  | _, _, _ + 1, .nil => .nil
  | _, _, n + 1, .cons r t => .cons r (Vals.take n t)
theorem Vals.drop : ∀ {xs : List V} {us : List Value} (n : Nat), Vals xs us → Vals (xs.drop n) (us.drop n)
  | _, _, 0, r => r
  | _, _, _ + 1, .nil => .nil
  | _, _, n + 1, .cons _ t => Vals.drop n t
def RelO : Option V → Option Value → Prop
  | some v, some u => RelV v u
  | none, none => True
  | _, _ => False
def KV {κ : Type} : List (κ × V) → List (κ × Value) → Prop := Paired fun (p : κ × V) (q : κ × Value) => p.1 = q.1 ∧ RelV p.2 q.2

/-- a key of a dict (00_mix): an int or a text -/
def kV : Key → V
  | .inl i => .int i
  | .inr x => .str x

/-- what stands at a tracked address -/
inductive HO where
  /-- a list -/
  | lst (xs : List V)
  /-- a tuple (never changes) -/
  | tup (xs : List V)
  /-- a dict whose keys are ints and texts; one whose keys are tuples of ints and texts (the empty one is both) -/
  | dK (kvs : List (Key × V)) | dT (kvs : List (List Key × V))
  /-- a set of ints: its members, its size -/
  | set (S : Int → Bool) (n : Nat)
  /-- an instance of the class at C, its dict at dx, its attributes -/
  | ins (C dx : Addr) (fs : List (Str × V))
  /-- the dict of the instance at x -/
  | own (x : Addr)
  /-- the dict of an exception -/
  | xd (fs : List (Str × V))
  /-- a bound method, f of x -/
  | met (f x : Addr)
  /-- a range object lo, lo + 1, .. below hi -/
  | rng (lo hi : Int)
  /-- a thing that is known to the object (the script; a dict while a loop walks it): read, never written while it is so -/
  | frz (o : Obj) (u : HO)
  /-- a code object's table -/
  | tbl (ps : Array Value)
  /-- any other thing, by what is true of its one object (a def of one's own: SetO a S n := HO.ext fun h => ..) -/
  | ext (φ : Heap → Prop)

abbrev Hp := Addr → Option HO
def upd (H : Hp) (a : Addr) (o : HO) : Hp := fun b => if b = a then some o else H b
theorem upd_same {H : Hp} {a : Addr} {o : HO} : upd H a o a = some o := by unfold upd; rw [if_pos rfl]
theorem upd_ne {H : Hp} {a b : Addr} {o : HO} (h : b ≠ a) : upd H a o b = H b := by unfold upd; rw [if_neg h]
/-- two objects of different content stand apart -/
theorem ne_of {H : Hp} {a b : Addr} {o u : HO} (h : H a = some o) (h' : H b = some u) (d : o ≠ u) : a ≠ b := by
  intro e; subst e; rw [h] at h'; exact d (Option.some.inj h')
theorem ne_of_none {H : Hp} {a b : Addr} {o : HO} (h : H a = some o) (h' : H b = none) : a ≠ b := by
  intro e; subst e; rw [h] at h'; cases h'

section
variable (P : Program) (w : World)
def ObjOk (H : Hp) (h : Heap) (a : Addr) : HO → Prop
  | .lst xs => xs.length ≤ sizeLine ∧ ∃ (its : List Value) (n : Nat), Vals xs its ∧ h.get? a = some { cls := .type "list", data := .seq its.toArray n }
  | .tup xs => xs.length ≤ sizeLine ∧ ∃ its : List Value, Vals xs its ∧ IsTup h a its.toArray
  | .dK kvs => kvs.length ≤ sizeLine ∧ (a == sysModules) = false ∧ ∃ vs, KV kvs vs ∧ h.DictOf (mixKind P w) a vs
  | .dT kvs => kvs.length ≤ sizeLine ∧ (a == sysModules) = false ∧ ∃ xs : List (List Key × Addr × Value),
      Paired (fun (p : List Key × V) (q : List Key × Addr × Value) => p.1 = q.1 ∧ H q.2.1 = some (.tup (p.1.map kV)) ∧ RelV p.2 q.2.2) kvs xs ∧
      ∃ o es ep, h.get? a = some o ∧ o.ExactDict ∧ o.data = .dict es ep ∧ es.toList = xs.map (entryOfKey (tupleKind (mixKind P w))) ∧ (xs.map (·.1)).Nodup
  | .set S n => h.SetOf (intKind P w) a S n
  | .ins C dx fs => H dx = some (.own a) ∧ fs.length ≤ 1000 ∧ dx ≠ a ∧ h.get? a = some (PySem.W.instObj C dx) ∧
      ∃ mA, h.Ns1 dx mA ∧ (∀ f, RelO (fs.lookup f) (mA f)) ∧ PySem.Within mA (fs.map (·.1))
  | .own _ => ∃ o, h.get? a = some o
  | .xd fs => ∃ mA, h.Ns1 a mA ∧ ∀ f, RelO (fs.lookup f) (mA f)
  | .rng lo hi => ∃ t u v, h.get? a = some { cls := .type "range", data := .fields #[.int lo t, .int hi u, .int 1 v] }
  | .frz o u => h.get? a = some o ∧ ObjOk H h a u
  | .tbl ps => h.get? a = some { cls := .none, data := .fields ps }
  | .met f x => h.get? a = some (PySem.W.methodObj (.ref f) (.ref x))
  | .ext φ => φ h ∧ (∃ o, h.get? a = some o) ∧ ∀ h1 h2 : Heap, φ h1 → (∀ o, h1.get? a = some o → h2.get? a = some o) → φ h2
/-- the abstract heap is held -/
def HOk (H : Hp) (h : Heap) : Prop := ∀ a o, H a = some o → ObjOk P w H h a o
end

section
variable {P : Program} {w : World} {H H' : Hp} {h h' : Heap} {a : Addr} {o : HO}
theorem ObjOk.lt (x : ObjOk P w H h a o) : a < h.objs.size := by
  cases o with
  | lst xs => obtain ⟨_, _, _, _, e⟩ := x; exact Heap.lt_size e
  | tup xs => obtain ⟨_, _, _, p⟩ := x; exact p.lt
  | dK kvs => obtain ⟨_, _, _, _, o, _, _, e, _⟩ := x; exact Heap.lt_size e
  | dT kvs => obtain ⟨_, _, _, _, o, _, _, e, _⟩ := x; exact Heap.lt_size e
  | set S n => obtain ⟨o, _, _, _, e, _⟩ := x; exact Heap.lt_size e
  | ins C dx fs => obtain ⟨_, _, _, e, _⟩ := x; exact Heap.lt_size e
  | own y => obtain ⟨_, e⟩ := x; exact Heap.lt_size e
  | xd fs => obtain ⟨_, ⟨_, _, _, e, _⟩, _⟩ := x; exact Heap.lt_size e
  | rng lo hi => obtain ⟨_, _, _, e⟩ := x; exact Heap.lt_size e
  | frz ob u => obtain ⟨e, _⟩ := x; exact Heap.lt_size e
  | tbl ps => exact Heap.lt_size (show h.get? a = some _ from x)
  | met f y => exact Heap.lt_size (show h.get? a = some _ from x)
  | ext φ => obtain ⟨_, ⟨_, e⟩, _⟩ := x; exact Heap.lt_size e
theorem Paired.mapP {α β : Type} {F G : α → β → Prop} : ∀ {l₁ : List α} {l₂ : List β}, Paired F l₁ l₂ → (∀ a b, F a b → G a b) → Paired G l₁ l₂
  | _, _, .nil, _ => .nil
  | _, _, .cons r t, f => .cons (f _ _ r) (Paired.mapP t f)
/-- what an object's description leans on: its own object, its own dict, the tuples -/
theorem ObjOk.stay (x : ObjOk P w H h a o) (k : ∀ b u, (b = a ∨ H b = some (.own a)) → h.get? b = some u → h'.get? b = some u)
    (ho : ∀ b, H b = some (.own a) → H' b = some (.own a)) (ht : ∀ b xs, H b = some (.tup xs) → H' b = some (.tup xs)) : ObjOk P w H' h' a o := by
  induction o with
  | lst xs => obtain ⟨z, its, n, r, e⟩ := x; exact ⟨z, its, n, r, k _ _ (.inl rfl) e⟩
  | tup xs => obtain ⟨z, its, r, ob, e, c⟩ := x; exact ⟨z, its, r, ob, k _ _ (.inl rfl) e, c⟩
  | dK kvs => obtain ⟨z, y, vs, r, ob, es, ep, e, c⟩ := x; exact ⟨z, y, vs, r, ob, es, ep, k _ _ (.inl rfl) e, c⟩
  | dT kvs =>
    obtain ⟨z, y, xs, r, ob, es, ep, e, c⟩ := x
    exact ⟨z, y, xs, Paired.mapP r fun p q z => ⟨z.1, ht _ _ z.2.1, z.2.2⟩, ob, es, ep, k _ _ (.inl rfl) e, c⟩
  | set S n => obtain ⟨ob, es, ep, t, e, c⟩ := x; exact ⟨ob, es, ep, t, k _ _ (.inl rfl) e, c⟩
  | ins C dx fs =>
    obtain ⟨d, z, ne, e, mA, ⟨od, es, ep, e2, c⟩, r⟩ := x
    exact ⟨ho _ d, z, ne, k _ _ (.inl rfl) e, mA, ⟨od, es, ep, k _ _ (.inr d) e2, c⟩, r⟩
  | own y => obtain ⟨ob, e⟩ := x; exact ⟨ob, k _ _ (.inl rfl) e⟩
  | xd fs => obtain ⟨mA, ⟨od, es, ep, e, c⟩, r⟩ := x; exact ⟨mA, ⟨od, es, ep, k _ _ (.inl rfl) e, c⟩, r⟩
  | rng lo hi => obtain ⟨t, u, v, e⟩ := x; exact ⟨t, u, v, k _ _ (.inl rfl) e⟩
  | frz ob u ih => obtain ⟨e, q⟩ := x; exact ⟨k _ _ (.inl rfl) e, ih q⟩
  | tbl ps =>
    have e : h.get? a = some { cls := .none, data := .fields ps } := x
    show h'.get? a = some { cls := .none, data := .fields ps }
    exact k a _ (.inl rfl) e
  | met f y =>
    have e : h.get? a = some (PySem.W.methodObj (.ref f) (.ref y)) := x
    show h'.get? a = some (PySem.W.methodObj (.ref f) (.ref y))
    exact k a _ (.inl rfl) e
  | ext φ => obtain ⟨p, ⟨o, e⟩, st⟩ := x; exact ⟨st _ _ p fun o q => k _ _ (.inl rfl) q, ⟨o, k _ _ (.inl rfl) e⟩, st⟩
theorem HOk.lt (x : HOk P w H h) (e : H a = some o) : a < h.objs.size := (x a o e).lt
theorem HOk.fresh (x : HOk P w H h) (e : h.objs.size ≤ a) : H a = none := by
  cases q : H a with
  | none => rfl
  | some u => exact absurd (Nat.lt_of_lt_of_le (x.lt q) e) (Nat.lt_irrefl _)
/-- every object of the heap is kept -/
theorem HOk.kept (x : HOk P w H h) (k : ∀ b u, h.get? b = some u → h'.get? b = some u) : HOk P w H h' := fun a o e =>
  (x a o e).stay (fun b u _ q => k b u q) (fun _ q => q) fun _ _ q => q
/-- a new object is laid and tracked -/
theorem HOk.laid (x : HOk P w H h) (k : ∀ b u, h.get? b = some u → h'.get? b = some u) (hp : h.objs.size ≤ a) (new : ObjOk P w (upd H a o) h' a o) : HOk P w (upd H a o) h' := fun b u e => by
  have hn := x.fresh hp
  by_cases hb : b = a
  · subst hb; rw [upd_same] at e; cases e; exact new
  · rw [upd_ne hb] at e
    exact (x b u e).stay (fun c v _ q => k c v q) (fun c q => by rw [upd_ne (ne_of_none q hn)]; exact q) fun c xs q => by rw [upd_ne (ne_of_none q hn)]; exact q
end

/-- what may be read as u: it is u, or a known u -/
def Rd (H : Hp) (a : Addr) (u : HO) : Prop := H a = some u ∨ ∃ o, H a = some (.frz o u)
theorem Rd.of {H : Hp} {a : Addr} {u : HO} (h : H a = some u) : Rd H a u := .inl h
theorem Rd.ok {P : Program} {w : World} {H : Hp} {h : Heap} {a : Addr} {u : HO} (r : Rd H a u) (x : HOk P w H h) : ObjOk P w H h a u := by
  rcases r with r | ⟨o, r⟩
  · exact x a u r
  · obtain ⟨_, q⟩ := x a _ r
    exact q
/-- what may be written -/
def Mut : Option HO → Prop
  | some (.lst _) => True
  | some (.dK _) => True
  | some (.dT _) => True
  | some (.set _ _) => True
  | some (.ins _ _ _) => True
  | some (.ext _) => True
  | _ => False
section
variable {P : Program} {w : World} {H : Hp} {h h' : Heap} {x e : Addr} {o' : HO}
/-- the object at e is changed: x itself, or the dict of the instance x -/
theorem HOk.write (ok : HOk P w H h) (mu : Mut (H x)) (he : e = x ∨ H e = some (.own x)) (k : ∀ b u, b ≠ e → h.get? b = some u → h'.get? b = some u) (heo : ∃ u, h'.get? e = some u)
    (new : ObjOk P w (upd H x o') h' x o') : HOk P w (upd H x o') h' := fun b u q => by
  have nown : ∀ c y, H c = some (.own y) → c ≠ x := fun c y r z => by subst z; rw [r] at mu; exact mu
  have ntup : ∀ c xs, H c = some (.tup xs) → c ≠ x := fun c xs r z => by subst z; rw [r] at mu; exact mu
  by_cases hb : b = x
  · subst hb; rw [upd_same] at q; cases q; exact new
  · rw [upd_ne hb] at q
    by_cases hbe : b = e
    · have q' : H b = some (.own x) := by
        rcases he with z | z
        · exact absurd (hbe.trans z) hb
        · rw [hbe]; exact z
      rw [q] at q'; cases q'
      obtain ⟨v, hv⟩ := heo
      exact ⟨v, by rw [hbe]; exact hv⟩
    · refine (ok b u q).stay (fun c v hc r => k c v ?_ r) (fun c r => by rw [upd_ne (nown c b r)]; exact r) fun c xs r => by rw [upd_ne (ntup c xs r)]; exact r
      rcases hc with rfl | hc
      · exact hbe
      · rintro rfl
        rcases he with z | z
        · exact nown c b hc z
        · rw [hc] at z; cases z; exact hb rfl
end

/-! ### kept unless tracked; of the frames at fs (the callers') the slots may change (an exception that passes writes there); of the records at ex (iterators) nothing is said -/
structure Un (fs ex : List Addr) (H H' : Hp) (h h' : Heap) : Prop where
  keep : ∀ b o, h.get? b = some o → H b = none → b ∉ fs → b ∉ ex → h'.get? b = some o
  slot : ∀ b o, h.get? b = some o → H b = none → b ∈ fs → b ∉ ex → ∃ sl, h'.get? b = some { o with slots := sl }
  free : ∀ b o, h.get? b = some o → H b = none → b ∉ ex → H' b = none
  there : ∀ b o, h.get? b = some o → b ∉ ex → ∃ o', h'.get? b = some o'
  tups : ∀ b xs, H b = some (.tup xs) → H' b = some (.tup xs)
  frzs : ∀ b o u, H b = some (.frz o u) → H' b = some (.frz o u)
  tbls : ∀ b ps, H b = some (.tbl ps) → ∃ more, H' b = some (.tbl (ps ++ more))
section
variable {fs fs' ex ex' : List Addr} {H H1 H2 : Hp} {h h1 h2 h' : Heap} {a x e : Addr} {o : HO}
theorem Un.any (u : Un fs ex H H1 h h1) {b : Addr} {ob : Obj} (q : h.get? b = some ob) (n : H b = none) (hx : b ∉ ex) : ∃ sl, h1.get? b = some { ob with slots := sl } := by
  by_cases hb : b ∈ fs
  · exact u.slot b ob q n hb hx
  · exact ⟨ob.slots, u.keep b ob q n hb hx⟩
theorem Un.trans (a : Un fs ex H H1 h h1) (b : Un fs ex H1 H2 h1 h2) : Un fs ex H H2 h h2 where
  keep := fun c ob q n hc hx => b.keep c ob (a.keep c ob q n hc hx) (a.free c ob q n hx) hc hx
  slot := fun c ob q n hc hx => by
    obtain ⟨sl, e1⟩ := a.slot c ob q n hc hx
    obtain ⟨sl', e2⟩ := b.slot c _ e1 (a.free c ob q n hx) hc hx
    exact ⟨sl', e2⟩
  free := fun c ob q n hx => by
    obtain ⟨o', e1⟩ := a.there c ob q hx
    exact b.free c o' e1 (a.free c ob q n hx) hx
  there := fun c ob q hx => by
    obtain ⟨o', e1⟩ := a.there c ob q hx
    exact b.there c o' e1 hx
  tups := fun c xs q => b.tups c xs (a.tups c xs q)
  frzs := fun c ob xs q => b.frzs c ob xs (a.frzs c ob xs q)
  tbls := fun c ps q => by
    obtain ⟨m1, e1⟩ := a.tbls c ps q
    obtain ⟨m2, e2⟩ := b.tbls c _ e1
    exact ⟨m1 ++ m2, by rw [e2, Array.append_assoc]⟩
theorem Un.kept (k : ∀ b u, h.get? b = some u → h'.get? b = some u) : Un fs ex H H h h' :=
  ⟨fun b ob q _ _ _ => k b ob q, fun b ob q _ _ _ => ⟨ob.slots, k b ob q⟩, fun _ _ _ n _ => n, fun b ob q _ => ⟨ob, k b ob q⟩, fun _ _ q => q, fun _ _ _ q => q, fun _ ps q => ⟨#[], by rw [q]; simp⟩⟩
theorem Un.refl : Un fs ex H H h h := Un.kept fun _ _ q => q
theorem Un.laid (k : ∀ b u, h.get? b = some u → h'.get? b = some u) (hp : h.objs.size ≤ a) (hn : H a = none) : Un fs ex H (upd H a o) h h' where
  keep := fun b u q _ _ _ => k b u q
  slot := fun b u q _ _ _ => ⟨u.slots, k b u q⟩
  free := fun b u q n _ => by rw [upd_ne (Nat.ne_of_lt (Nat.lt_of_lt_of_le (Heap.lt_size q) hp))]; exact n
  there := fun b u q _ => ⟨u, k b u q⟩
  tups := fun b xs q => by rw [upd_ne (ne_of_none q hn)]; exact q
  frzs := fun b u xs q => by rw [upd_ne (ne_of_none q hn)]; exact q
  tbls := fun b ps q => ⟨#[], by rw [upd_ne (ne_of_none q hn), q]; simp⟩
theorem Un.write (mu : Mut (H x)) (he : e = x ∨ H e = some (.own x)) (k : ∀ b u, b ≠ e → h.get? b = some u → h'.get? b = some u) (heo : ∃ u, h'.get? e = some u) : Un fs ex H (upd H x o) h h' := by
  have hx : ∀ b, H b = none → b ≠ x := fun b n z => by subst z; rw [n] at mu; exact mu
  have hb : ∀ b, H b = none → b ≠ e := fun b n z => by
    subst z
    rcases he with r | r
    · exact hx b n r
    · rw [n] at r; cases r
  have hm : ∀ b u, H b = some u → ¬ Mut (some u) → b ≠ x := fun b u q nm z => by subst z; rw [q] at mu; exact nm mu
  refine ⟨fun b u q n _ _ => k b u (hb b n) q, fun b u q n _ _ => ⟨u.slots, k b u (hb b n) q⟩, fun b u q n _ => by rw [upd_ne (hx b n)]; exact n, fun b u q _ => ?_,
    fun b xs q => by rw [upd_ne (hm b _ q fun z => z)]; exact q, fun b u xs q => by rw [upd_ne (hm b _ q fun z => z)]; exact q, fun b ps q => ⟨#[], by rw [upd_ne (hm b _ q fun z => z), q]; simp⟩⟩
  by_cases hbe : b = e
  · subst hbe; exact heo
  · exact ⟨u, k b u hbe q⟩
theorem Un.mono (u : Un fs ex H H1 h h1) (hs : ∀ b ∈ fs, b ∈ fs') (hx : ∀ b ∈ ex, b ∈ ex') : Un fs' ex' H H1 h h1 :=
  ⟨fun b ob q n hb he => u.keep b ob q n (fun z => hb (hs b z)) fun z => he (hx b z), fun _ _ q n _ he => u.any q n fun z => he (hx _ z), fun b ob q n he => u.free b ob q n fun z => he (hx b z), fun b ob q he => u.there b ob q fun z => he (hx b z), u.tups, u.frzs, u.tbls⟩
end

/-! ### the heap without what is tracked -/
def trk (h : Heap) (H : Hp) : List Addr := (List.range h.objs.size).filter fun a => (H a).isSome
def hidT (h : Heap) (H : Hp) : Heap := PySem.W.hideAll h (trk h H)
theorem hidT_size (h : Heap) (H : Hp) : (hidT h H).objs.size = h.objs.size := PySem.W.hideAll_size _ _
theorem hidT_get {h : Heap} {H : Hp} {b : Addr} {o : Obj} (e : h.get? b = some o) (n : H b = none) : (hidT h H).get? b = some o :=
  PySem.W.hideAll_get _ e fun hm => by
    have q : (H b).isSome = true := (List.mem_filter.mp hm).2
    rw [n] at q; simp at q
theorem of_hidT {h : Heap} {H : Hp} {b : Addr} {o : Obj} (e : (hidT h H).get? b = some o) : h.get? b = some o ∧ H b = none := by
  have e' : h.get? b = some o := PySem.W.of_hideAll (trk h H) e
  refine ⟨e', ?_⟩
  cases q : H b with
  | none => rfl
  | some x =>
    have hm : b ∈ trk h H := List.mem_filter.mpr ⟨List.mem_range.mpr (Heap.lt_size e'), by simp [q]⟩
    have z : (hidT h H).get? b = none := PySem.W.hideAll_none (trk h H) hm
    rw [z] at e; cases e

/-! ### OpenK's ledger, filled with every new object but one -/
def allNews (g h : Heap) (L : Addr) : List (Addr × Obj) := (List.range h.objs.size).filterMap fun a => if a = L ∨ (g.get? a).isSome = true then none else (h.get? a).map fun o => (a, o)
def rest (g h : Heap) (L d : Addr) : List (Addr × Obj) := (allNews g h L).filter fun p => decide (p.1 ≠ d)
end L2

namespace L2
open PySem PySem.Spec PyProof.Rows

/-- the module's facts, over the base: the heap at the law's entry without what is tracked there -/
structure Mod (K : PySem.W.Frag) (mg : Str → Option Value) (base : Heap) : Prop where
  kin : K.In base
  glob : base.Ns mainGlobals mg
  blt : ∃ mb, base.Ns builtinsNs mb ∧ ∀ x : Str, x ≠ "__name__" → mb x = bootBuiltins x
  nolimit : base.NoLimit

/-- the context: a def's body (or a comprehension's block) running. base: fixed through the whole law; s₀, H₀: the entry; outer: the frames whose slots others may change (a def's callers); stack: all frames that run;
   ex: iterators that were made ahead of the entry and are walked here (a comprehension's); fn: the names whose cells were made at the entry (a def: all; a comprehension's block: its own); calm: not within an except suite; pn: pins that every state bears; xe: what is wanted of an exception that leaves the code -/
structure Cx where
  prog : Program
  w : World
  K : PySem.W.Frag
  mg : Str → Option Value
  base : Heap
  A : Around
  N : List Str
  s_0 : Shared
  H_0 : Hp
  env : Env
  outer : List Env
  stack : List Env
  ex : List Addr
  fn : Str → Bool
  calm : Bool
  pn : List (Addr × Obj)
  xe : Value → Shared → Prop
/-- the callers' frames -/
def frs (l : List Env) : List Addr := l.filterMap (·.frame)
abbrev Cx.fs (X : Cx) : List Addr := frs X.outer

def Vis (sc : Scope) (x : Str) : Prop := sc.names.lookup x = some .local ∨ sc.names.lookup x = some .cell ∨ sc.names.lookup x = some .free
def Loc (sc : Scope) (x : Str) : Prop := sc.names.lookup x = some .local ∨ sc.names.lookup x = some .cell
def Look (env : Env) (h : Heap) (m : Str → Option Value) (x : Str) (u : Value) : Prop :=
  (env.kindOf x = some .local ∧ m x = some u) ∨ ((env.kindOf x = some .cell ∨ env.kindOf x = some .free) ∧ ∃ c, env.cells.lookup x = some c ∧ h.IsCell c (some u))

structure Cx.Ok (X : Cx) : Prop where
  mod : Mod X.K X.mg X.base
  kind : X.env.scope.kind = .function
  glob : X.env.globals = mainGlobals
  blt : X.env.builtins = builtinsNs
  above : X.s_0.heap.objs.size ≤ X.env.locals
  inj : ∀ x y c, X.env.cells.lookup x = some c → X.env.cells.lookup y = some c → x = y
  has : ∀ x, (X.env.kindOf x = some .cell ∨ X.env.kindOf x = some .free) → ∃ c, X.env.cells.lookup x = some c
  cab : ∀ x c, X.fn x = true → X.env.cells.lookup x = some c → X.s_0.heap.objs.size ≤ c
  hd : X.calm = true → X.A.handled = none
  frames : X.A.frames = some X.stack
  stk : X.stack = X.outer ∨ (X.stack = X.env :: X.outer ∧ X.env.frame = some X.env.locals)
  exf : ∀ b ∈ X.ex, b ≠ X.env.locals ∧ ∀ x c, X.env.cells.lookup x = some c → c ≠ b
  bs : ∀ b o, X.base.get? b = some o → X.s_0.heap.get? b = some o ∧ X.H_0 b = none
  bsz : X.base.objs.size ≤ X.s_0.heap.objs.size
  noex : ∀ b o, X.base.get? b = some o → b ∉ X.ex
  exfs : ∀ b ∈ X.ex, b ∉ X.fs
  funs : X.s_0.heap.FunFrames X.base X.outer
  frf : ∀ b ∈ X.fs, X.H_0 b = none

structure Inv (X : Cx) (pins : List (Addr × Obj)) (σ : List (Option V)) (H : Hp) (s : Shared) : Prop where
  ok : X.Ok
  os : s.os = X.s_0.os
  bare : AllBare s.gens
  base : Un X.fs X.ex X.H_0 H X.s_0.heap s.heap
  loc : ∃ m, s.heap.Ns X.env.locals m ∧ ∀ (i : Nat) (x : Str) (v : V), X.N[i]? = some x → σ[i]? = some (some v) → Vis X.env.scope x → ∃ u, RelV v u ∧ Look X.env s.heap m x u
  cell : ∀ x c, X.env.cells.lookup x = some c → ∃ v, s.heap.IsCell c v
  free : H X.env.locals = none
  freeC : ∀ x c, X.env.cells.lookup x = some c → H c = none
  pin : ∀ p ∈ X.pn ++ pins, s.heap.get? p.1 = some p.2 ∧ H p.1 = none ∧ p.1 ≠ X.env.locals ∧ p.1 ∉ X.fs ∧ ∀ v, p.2.data ≠ .cell v
  hok : HOk X.prog X.w H s.heap
  len : σ.length = X.N.length

section
variable {X : Cx} {pins : List (Addr × Obj)} {σ : List (Option V)} {H H' : Hp} {s : Shared} {h' : Heap}

theorem Cx.Ok.nofr (ok : X.Ok) {b : Addr} {o : Obj} (e : X.base.get? b = some o) : b ∉ X.fs := fun hb => by
  have := (ok.funs.mem hb).1
  rw [e] at this; cases this
theorem Inv.bs (I : Inv X pins σ H s) : ∀ b o, X.base.get? b = some o → s.heap.get? b = some o ∧ H b = none := fun b o e =>
  ⟨I.base.keep b o (I.ok.bs b o e).1 (I.ok.bs b o e).2 (I.ok.nofr e) (I.ok.noex b o e), I.base.free b o (I.ok.bs b o e).1 (I.ok.bs b o e).2 (I.ok.noex b o e)⟩
theorem Inv.bk (I : Inv X pins σ H s) : ∀ b o, X.base.get? b = some o → s.heap.get? b = some o := fun b o e => (I.bs b o e).1
theorem Inv.mod (I : Inv X pins σ H s) : Mod X.K X.mg X.base := I.ok.mod
theorem Inv.kIn (I : Inv X pins σ H s) : X.K.In s.heap := I.ok.mod.kin.keeps I.bk
theorem Inv.nolimit (I : Inv X pins σ H s) : s.heap.NoLimit := I.ok.mod.nolimit.keeps I.bk
/-- the frame over the base: for OpenK's rules (K.In X.base is I.mod.kin) -/
theorem Inv.fr (I : Inv X pins σ H s) : ∃ m, Fr X.base X.env.locals s.heap m :=
  let ⟨m, hn, _⟩ := I.loc
  ⟨m, hn, I.bk, Nat.le_trans I.ok.bsz I.ok.above⟩
theorem Inv.lt (I : Inv X pins σ H s) : X.env.locals < s.heap.objs.size := let ⟨_, hn, _⟩ := I.loc; hn.lt
theorem Inv.sz (I : Inv X pins σ H s) : X.s_0.heap.objs.size ≤ s.heap.objs.size := Nat.le_trans I.ok.above (Nat.le_of_lt I.lt)
theorem Inv.nofs (I : Inv X pins σ H s) {a : Addr} (h : s.heap.objs.size ≤ a) : a ∉ X.fs := fun hb => by
  obtain ⟨_, o, ho, _⟩ := I.ok.funs.mem hb
  exact absurd (Nat.lt_of_lt_of_le (Heap.lt_size ho) (Nat.le_trans I.sz h)) (Nat.lt_irrefl _)
theorem Inv.cne (I : Inv X pins σ H s) : ∀ x c, X.env.cells.lookup x = some c → c ≠ X.env.locals := fun x c e z => by
  obtain ⟨v, o, ho, hd⟩ := I.cell x c e
  obtain ⟨m, ⟨o', es, ep, ho', hd', _⟩, _⟩ := I.loc
  rw [z, ho'] at ho; cases ho; rw [hd'] at hd; cases hd
theorem Inv.funs (I : Inv X pins σ H s) : s.heap.FunFrames X.base X.outer := by
  have all : ∀ (l : List Env), (∀ b ∈ frs l, b ∈ X.fs) → X.s_0.heap.FunFrames X.base l → s.heap.FunFrames X.base l := by
    intro l
    induction l with
    | nil => intro _ _; trivial
    | cons env r ih =>
      intro hs hl
      obtain ⟨hk, ⟨L, o, hf, hn, ho, hd⟩, hr⟩ := hl
      have hL : L ∈ X.fs := hs L (by unfold frs; rw [List.filterMap_cons, hf]; exact List.mem_cons_self)
      obtain ⟨sl, e⟩ := I.base.slot L o ho (I.ok.frf L hL) hL fun z => I.ok.exfs L z hL
      exact ⟨hk, ⟨L, _, hf, hn, e, hd⟩, ih (fun b hb => hs b (by unfold frs; rw [List.filterMap_cons, hf]; exact List.mem_cons_of_mem _ hb)) hr⟩
  exact all X.outer (fun _ hb => hb) I.ok.funs

/-- the frames that run, for a call -/
theorem Inv.stack (I : Inv X pins σ H s) : s.heap.FunFrames X.base X.stack := by
  rcases I.ok.stk with e | ⟨e, hf⟩
  · rw [e]; exact I.funs
  · rw [e]
    obtain ⟨m, hn, _⟩ := I.loc
    refine .cons (by rw [I.ok.kind]; decide) hf hn ?_ I.funs
    exact Heap.get?_none_of_le (Nat.le_trans I.ok.bsz I.ok.above)
theorem Inv.stkSub (I : Inv X pins σ H s) : ∀ b ∈ frs X.stack, b ∈ X.env.locals :: X.fs := fun b hb => by
  rcases I.ok.stk with e | ⟨e, hf⟩
  · rw [e] at hb; exact List.mem_cons_of_mem _ hb
  · rw [e] at hb
    unfold frs at hb
    rw [List.filterMap_cons, hf] at hb
    exact hb
theorem Inv.stkFree (I : Inv X pins σ H s) : ∀ b ∈ frs X.stack, H b = none := fun b hb => by
  rcases List.mem_cons.mp (I.stkSub b hb) with e | hb
  · rw [e]; exact I.free
  · obtain ⟨_, o, ho, _⟩ := I.ok.funs.mem hb
    exact I.base.free b o ho (I.ok.frf b hb) fun z => I.ok.exfs b z hb

/-- THE STEP: the untracked objects but the frame and the records at ch are kept (the callers' frames up to slots), the frame's map is kept, the new abstract heap is held -/
theorem Inv.step {g' : Array GenState} {t' : Nat} {d' : Drawn} {ch : List Addr} (I : Inv X pins σ H s)
    (hch : ∀ b ∈ ch, (b ∈ X.ex ∨ X.s_0.heap.objs.size ≤ b) ∧ b ≠ X.env.locals ∧ (∀ x c, X.env.cells.lookup x = some c → c ≠ b) ∧ ∀ p ∈ X.pn ++ pins, p.1 ≠ b)
    (keep : ∀ b o, b ≠ X.env.locals → b ∉ X.fs → b ∉ ch → s.heap.get? b = some o → H b = none → h'.get? b = some o)
    (slot : ∀ b o, b ≠ X.env.locals → b ∈ X.fs → b ∉ ch → s.heap.get? b = some o → H b = none → ∃ sl, h'.get? b = some { o with slots := sl }) (free : ∀ b o, b ∉ ch → s.heap.get? b = some o → H b = none → H' b = none)
    (there : ∀ b o, b ∉ ch → s.heap.get? b = some o → ∃ o', h'.get? b = some o')
    (tups : ∀ b xs, H b = some (.tup xs) → H' b = some (.tup xs)) (frzs : ∀ b o u, H b = some (.frz o u) → H' b = some (.frz o u)) (tbls : ∀ b ps, H b = some (.tbl ps) → ∃ more, H' b = some (.tbl (ps ++ more)))
    (ns : ∀ m, s.heap.Ns X.env.locals m → h'.Ns X.env.locals m) (hok : HOk X.prog X.w H' h') (hg : AllBare g') :
    Inv X pins σ H' { s with heap := h', gens := g', drawn := d', toks := t' } := by
  have neL : ∀ b o, X.s_0.heap.get? b = some o → b ≠ X.env.locals := fun b o e => Nat.ne_of_lt (Nat.lt_of_lt_of_le (Heap.lt_size e) I.ok.above)
  have neC : ∀ b o, X.s_0.heap.get? b = some o → b ∉ X.ex → b ∉ ch := fun b o e hx hb => by
    rcases (hch b hb).1 with z | z
    · exact hx z
    · exact absurd (Nat.lt_of_lt_of_le (Heap.lt_size e) z) (Nat.lt_irrefl _)
  have cellK : ∀ x c, X.env.cells.lookup x = some c → ∀ v, s.heap.IsCell c v → h'.IsCell c v := fun x c e v ⟨o, ho, hd⟩ => by
    have nch : c ∉ ch := fun z => (hch c z).2.2.1 x c e rfl
    by_cases hc : c ∈ X.fs
    · obtain ⟨sl, q⟩ := slot c o (I.cne x c e) hc nch ho (I.freeC x c e)
      exact ⟨_, q, hd⟩
    · exact ⟨o, keep c o (I.cne x c e) hc nch ho (I.freeC x c e), hd⟩
  refine ⟨I.ok, I.os, hg, ⟨fun b o e n hb hx => ?_, fun b o e n hb hx => ?_, fun b o e n hx => ?_, fun b o e hx => ?_, fun b xs e => tups b xs (I.base.tups b xs e), fun b o xs e => frzs b o xs (I.base.frzs b o xs e), fun b ps e => ?_⟩, ?_, fun x c e => ?_, ?_, fun x c e => ?_, fun p hp => ?_, hok, I.len⟩
  · exact keep b o (neL b o e) hb (neC b o e hx) (I.base.keep b o e n hb hx) (I.base.free b o e n hx)
  · obtain ⟨sl, e1⟩ := I.base.slot b o e n hb hx
    obtain ⟨sl', e2⟩ := slot b _ (neL b o e) hb (neC b o e hx) e1 (I.base.free b o e n hx)
    exact ⟨sl', e2⟩
  · obtain ⟨o', e1⟩ := I.base.there b o e hx
    exact free b o' (neC b o e hx) e1 (I.base.free b o e n hx)
  · obtain ⟨o', e1⟩ := I.base.there b o e hx
    exact there b o' (neC b o e hx) e1
  · obtain ⟨m1, e1⟩ := I.base.tbls b ps e
    obtain ⟨m2, e2⟩ := tbls b _ e1
    exact ⟨m1 ++ m2, by rw [e2, Array.append_assoc]⟩
  · obtain ⟨m, hn, hl⟩ := I.loc
    refine ⟨m, ns m hn, fun i x v e1 e2 e3 => ?_⟩
    obtain ⟨u, r, l⟩ := hl i x v e1 e2 e3
    refine ⟨u, r, ?_⟩
    rcases l with l | ⟨k, c, e, z⟩
    · exact .inl l
    · exact .inr ⟨k, c, e, cellK x c e _ z⟩
  · obtain ⟨v, z⟩ := I.cell x c e
    exact ⟨v, cellK x c e v z⟩
  · obtain ⟨m, ⟨o, _, _, ho, _⟩, _⟩ := I.loc
    exact free _ o (fun z => (hch _ z).2.1 rfl) ho I.free
  · obtain ⟨v, o, ho, hd⟩ := I.cell x c e
    exact free c o (fun z => (hch c z).2.2.1 x c e rfl) ho (I.freeC x c e)
  · obtain ⟨e, n, ne, nf, d⟩ := I.pin p hp
    have nch : p.1 ∉ ch := fun z => (hch p.1 z).2.2.2 p hp rfl
    exact ⟨keep p.1 p.2 ne nf nch e n, free p.1 p.2 nch e n, ne, nf, d⟩
/-- .. where the frame's own object is kept too -/
theorem Inv.un {t' : Nat} (I : Inv X pins σ H s) (u : Un X.fs [] H H' s.heap h') (hok : HOk X.prog X.w H' h') : Inv X pins σ H' { s with heap := h', toks := t' } := by
  obtain ⟨m, ⟨o, es, ep, ho, r⟩, _⟩ := id I.loc
  obtain ⟨sl, hL⟩ := u.any ho I.free (by simp)
  exact I.step (g' := s.gens) (d' := s.drawn) (ch := []) (fun _ z => nomatch z) (fun b o _ hb _ e n => u.keep b o e n hb (by simp)) (fun b o _ hb _ e n => u.slot b o e n hb (by simp)) (fun b o _ e n => u.free b o e n (by simp)) (fun b o _ e => u.there b o e (by simp)) u.tups u.frzs u.tbls (fun m' hm => by
    obtain ⟨o', es', ep', ho', r'⟩ := hm
    rw [ho] at ho'; cases ho'
    exact ⟨_, es', ep', hL, r'⟩) hok I.bare
/-- behind a call (or a comprehension's block): the slots of this frame may have changed too, the records at ch may have turned -/
theorem Inv.call {g' : Array GenState} {t' : Nat} {d' : Drawn} {ch : List Addr} (I : Inv X pins σ H s) (u : Un (frs X.stack) ch H H' s.heap h') (hok : HOk X.prog X.w H' h') (hg : AllBare g')
    (hch : ∀ b ∈ ch, (b ∈ X.ex ∨ X.s_0.heap.objs.size ≤ b) ∧ b ≠ X.env.locals ∧ (∀ x c, X.env.cells.lookup x = some c → c ≠ b) ∧ ∀ p ∈ X.pn ++ pins, p.1 ≠ b) :
    Inv X pins σ H' { s with heap := h', gens := g', drawn := d', toks := t' } := by
  obtain ⟨m, ⟨o, es, ep, ho, r⟩, _⟩ := id I.loc
  obtain ⟨sl, hL⟩ := u.any ho I.free fun z => (hch _ z).2.1 rfl
  exact I.step (ch := ch) hch (fun b o hL hb hc e n => u.keep b o e n (fun z => (List.mem_cons.mp (I.stkSub b z)).elim hL hb) hc) (fun b o _ _ hc e n => u.any e n hc) (fun b o hc e n => u.free b o e n hc) (fun b o hc e => u.there b o e hc) u.tups u.frzs u.tbls (fun m' hm => by
    obtain ⟨o', es', ep', ho', r'⟩ := hm
    rw [ho] at ho'; cases ho'
    exact ⟨_, es', ep', hL, r'⟩) hok hg
/-- an untracked record of ours (an iterator) has turned -/
theorem Inv.turned {t' : Nat} {it : Addr} (I : Inv X pins σ H s) (k : ∀ b o, b ≠ it → s.heap.get? b = some o → h'.get? b = some o) (hn : H it = none) (hL : it ≠ X.env.locals)
    (h1 : it ∈ X.ex ∨ X.s_0.heap.objs.size ≤ it) (h2 : ∀ x c, X.env.cells.lookup x = some c → c ≠ it) (h3 : ∀ p ∈ X.pn ++ pins, p.1 ≠ it) : Inv X pins σ H { s with heap := h', toks := t' } := by
  have nit : ∀ b u, H b = some u → b ≠ it := fun b u e z => by rw [z, hn] at e; cases e
  refine I.step (g' := s.gens) (d' := s.drawn) (ch := [it]) (fun b hb => ?_) (fun b o _ _ hc e _ => k b o (fun z => hc (by simp [z])) e) (fun b o _ _ hc e _ => ⟨o.slots, k b o (fun z => hc (by simp [z])) e⟩) (fun _ _ _ _ n => n)
    (fun b o hc e => ⟨o, k b o (fun z => hc (by simp [z])) e⟩) (fun _ _ e => e) (fun _ _ _ e => e) (fun b ps e => ⟨#[], by rw [e]; simp⟩) (fun m hm => ?_) (fun b u e => ?_) I.bare
  · have e : b = it := by simpa using hb
    subst e
    exact ⟨h1, hL, h2, h3⟩
  · obtain ⟨o, es, ep, ho, r⟩ := hm
    exact ⟨o, es, ep, k _ o (Ne.symm hL) ho, r⟩
  · refine (I.hok b u e).stay (fun c v hc q => k c v ?_ q) (fun _ q => q) fun _ _ q => q
    rcases hc with z | z
    · rw [z]; exact nit b u e
    · exact nit c _ z
theorem Inv.tok (I : Inv X pins σ H s) (t : Nat) : Inv X pins σ H { s with toks := t } := I.un (h' := s.heap) (t' := t) Un.refl I.hok
/-- all objects kept -/
theorem Inv.kept {t' : Nat} (I : Inv X pins σ H s) (k : ∀ b u, s.heap.get? b = some u → h'.get? b = some u) : Inv X pins σ H { s with heap := h', toks := t' } := I.un (Un.kept k) (I.hok.kept k)
/-- a new object laid and tracked -/
theorem Inv.laid {a : Addr} {o : HO} {t' : Nat} (I : Inv X pins σ H s) (k : ∀ b u, s.heap.get? b = some u → h'.get? b = some u) (hp : s.heap.objs.size ≤ a) (new : ObjOk X.prog X.w (upd H a o) h' a o) :
    Inv X pins σ (upd H a o) { s with heap := h', toks := t' } := I.un (Un.laid k hp (I.hok.fresh hp)) (I.hok.laid k hp new)
/-- an object written -/
theorem Inv.write {x e : Addr} {o : HO} {t' : Nat} (I : Inv X pins σ H s) (mu : Mut (H x)) (he : e = x ∨ H e = some (.own x)) (k : ∀ b u, b ≠ e → s.heap.get? b = some u → h'.get? b = some u) (heo : ∃ u, h'.get? e = some u)
    (new : ObjOk X.prog X.w (upd H x o) h' x o) : Inv X pins σ (upd H x o) { s with heap := h', toks := t' } := I.un (Un.write mu he k heo) (I.hok.write mu he k heo new)
/-- forgetting slots, pins -/
theorem Inv.weak {σ' : List (Option V)} (I : Inv X pins σ H s) (hl : σ'.length = σ.length) (w : ∀ (i : Nat) v, σ'[i]? = some (some v) → σ[i]? = some (some v)) : Inv X pins σ' H s :=
  ⟨I.ok, I.os, I.bare, I.base, let ⟨m, hn, hl'⟩ := I.loc; ⟨m, hn, fun i x v e1 e2 e3 => hl' i x v e1 (w i v e2) e3⟩, I.cell, I.free, I.freeC, I.pin, I.hok, hl.trans I.len⟩
theorem Inv.pins_of {pins' : List (Addr × Obj)} (I : Inv X pins σ H s) (h : ∀ p ∈ pins', s.heap.get? p.1 = some p.2 ∧ H p.1 = none ∧ p.1 ≠ X.env.locals ∧ p.1 ∉ X.fs ∧ ∀ v, p.2.data ≠ .cell v) : Inv X pins' σ H s :=
  ⟨I.ok, I.os, I.bare, I.base, I.loc, I.cell, I.free, I.freeC, fun p hp => (List.mem_append.mp hp).elim (fun z => I.pin p (List.mem_append_left _ z)) (h p), I.hok, I.len⟩

theorem nodup_ix {N : List Str} (hN : N.Nodup) {i j : Nat} {x : Str} (a : N[i]? = some x) (b : N[j]? = some x) : i = j := by
  obtain ⟨h1, e1⟩ := List.getElem?_eq_some_iff.mp a
  obtain ⟨h2, e2⟩ := List.getElem?_eq_some_iff.mp b
  exact (List.getElem_inj hN).mp (e1.trans e2.symm)

/-- a name is stored; what changed -/
theorem store_ok2 {M : Model} {A : Around} {E : Value → Shared → Prop} {i : Nat} {x : Str} {v : V} {u : Value} {Q : Unit → Shared → Prop} (I : Inv X pins σ H s) (hN : X.N.Nodup) (hi : X.N[i]? = some x) (hx : Loc X.env.scope x) (r : RelV v u)
    (h : ∀ s', Inv X pins (σ.set i (some v)) H s' → (∃ a, Heap.SameBut a s.heap s'.heap ∧ (a = X.env.locals ∨ X.env.cells.lookup x = some a)) → Q () s') (hf : X.fn x = true ∨ X.env.scope.names.lookup x = some .local := by first | exact .inl rfl | exact .inr rfl | assumption) : wpAny M A (storeName X.env x u) Q E s := by
  obtain ⟨m, hn, hl⟩ := id I.loc
  have hcls : (X.env.scope.kind == .class || (X.env.scope.kind == .module && X.env.locals != X.env.globals)) = false := by rw [I.ok.kind]; rfl
  have hiσ : i < σ.length := by rw [I.len]; exact (List.getElem?_eq_some_iff.mp hi).1
  have cne := I.cne
  have tracked : ∀ {a : Addr} {h' : Heap}, (∃ o, s.heap.get? a = some o ∧ H a = none) → Heap.SameBut a s.heap h' → HOk X.prog X.w H h' := fun {a h'} ha hs b ob e => by
    obtain ⟨_, _, hfree⟩ := ha
    refine (I.hok b ob e).stay (fun c w' hc q => (hs.2 c ?_).trans q) (fun _ q => q) fun _ _ q => q
    rintro rfl
    rcases hc with rfl | hc
    · rw [hfree] at e; cases e
    · rw [hfree] at hc; cases hc
  rcases hx with hk | hk
  · refine wpAny_storeName_local hk hn (fun h' hn' hs => ?_) hcls
    obtain ⟨oL, _, _, hoL, _⟩ := id hn
    refine h _ ⟨I.ok, I.os, I.bare, ⟨fun b o e n hb hx => ?_, fun b o e n hb hx => ?_, I.base.free, fun b o e hx => ?_, I.base.tups, I.base.frzs, I.base.tbls⟩, ⟨_, hn', fun j y v' e1 e2 e3 => ?_⟩, fun y c e => ?_, I.free, I.freeC, fun p hp => ?_, tracked ⟨oL, hoL, I.free⟩ hs, by simpa using I.len⟩ ⟨_, hs, .inl rfl⟩
    · exact (hs.2 b (Nat.ne_of_lt (Nat.lt_of_lt_of_le (Heap.lt_size e) I.ok.above))).trans (I.base.keep b o e n hb hx)
    · obtain ⟨sl, e1⟩ := I.base.slot b o e n hb hx
      exact ⟨sl, (hs.2 b (Nat.ne_of_lt (Nat.lt_of_lt_of_le (Heap.lt_size e) I.ok.above))).trans e1⟩
    · obtain ⟨o', e1⟩ := I.base.there b o e hx
      exact ⟨o', (hs.2 b (Nat.ne_of_lt (Nat.lt_of_lt_of_le (Heap.lt_size e) I.ok.above))).trans e1⟩
    · by_cases hj : j = i
      · subst hj
        rw [hi] at e1; cases e1
        rw [List.getElem?_set_self hiσ] at e2
        cases e2
        exact ⟨u, r, .inl ⟨hk, by simp⟩⟩
      · rw [List.getElem?_set_ne (Ne.symm hj)] at e2
        obtain ⟨u', r', q⟩ := hl j y v' e1 e2 e3
        refine ⟨u', r', ?_⟩
        rcases q with ⟨k, e⟩ | ⟨k, c, e, z⟩
        · refine .inl ⟨k, ?_⟩
          have : y ≠ x := fun e => hj (nodup_ix hN e1 (e ▸ hi))
          simp [this, e]
        · exact .inr ⟨k, c, e, z.sameBut hs (cne y c e)⟩
    · obtain ⟨w', z⟩ := I.cell y c e
      exact ⟨w', z.sameBut hs (cne y c e)⟩
    · obtain ⟨e, n, ne, nf, d⟩ := I.pin p hp
      exact ⟨(hs.2 p.1 ne).trans e, n, ne, nf, d⟩
  · have hfn : X.fn x = true := by
      rcases hf with z | z
      · exact z
      · rw [z] at hk; cases hk
    obtain ⟨c, hc⟩ := I.ok.has x (.inl hk)
    obtain ⟨w', z⟩ := I.cell x c hc
    refine wpAny_storeName_cell I.ok.kind hk hc z (fun h' hc' hs => ?_)
    obtain ⟨oc, hoc, hocd⟩ := id z
    refine h { s with heap := h' } ⟨I.ok, I.os, I.bare, ⟨fun b o e n hb hx => ?_, fun b o e n hb hx => ?_, I.base.free, fun b o e hx => ?_, I.base.tups, I.base.frzs, I.base.tbls⟩, ⟨m, hn.sameBut hs (Ne.symm (cne x c hc)), fun j y v' e1 e2 e3 => ?_⟩, fun y c' e => ?_, I.free, I.freeC, fun p hp => ?_, tracked ⟨oc, hoc, I.freeC x c hc⟩ hs, by simpa using I.len⟩ ⟨c, hs, .inr hc⟩
    · exact (hs.2 b (Nat.ne_of_lt (Nat.lt_of_lt_of_le (Heap.lt_size e) (I.ok.cab x c hfn hc)))).trans (I.base.keep b o e n hb hx)
    · obtain ⟨sl, e1⟩ := I.base.slot b o e n hb hx
      exact ⟨sl, (hs.2 b (Nat.ne_of_lt (Nat.lt_of_lt_of_le (Heap.lt_size e) (I.ok.cab x c hfn hc)))).trans e1⟩
    · obtain ⟨o', e1⟩ := I.base.there b o e hx
      exact ⟨o', (hs.2 b (Nat.ne_of_lt (Nat.lt_of_lt_of_le (Heap.lt_size e) (I.ok.cab x c hfn hc)))).trans e1⟩
    · by_cases hj : j = i
      · subst hj
        rw [hi] at e1; cases e1
        rw [List.getElem?_set_self hiσ] at e2
        cases e2
        exact ⟨u, r, .inr ⟨.inl hk, c, hc, hc'⟩⟩
      · rw [List.getElem?_set_ne (Ne.symm hj)] at e2
        obtain ⟨u', r', q⟩ := hl j y v' e1 e2 e3
        refine ⟨u', r', ?_⟩
        rcases q with q | ⟨k, c', e, z'⟩
        · exact .inl q
        · refine .inr ⟨k, c', e, z'.sameBut hs ?_⟩
          rintro rfl
          exact hj (nodup_ix hN e1 (I.ok.inj _ _ _ e hc ▸ hi))
    · by_cases hcc : c' = c
      · subst hcc; exact ⟨_, hc'⟩
      · obtain ⟨w2, z2⟩ := I.cell y c' e
        exact ⟨w2, z2.sameBut hs hcc⟩
    · obtain ⟨e, n, ne, nf, d⟩ := I.pin p hp
      refine ⟨(hs.2 p.1 ?_).trans e, n, ne, nf, d⟩
      intro q
      rw [q, hoc] at e
      have q' : oc = p.2 := Option.some.inj e
      exact d w' (by rw [← q']; exact hocd)
theorem store_ok {M : Model} {A : Around} {E : Value → Shared → Prop} {i : Nat} {x : Str} {v : V} {u : Value} {Q : Unit → Shared → Prop} (I : Inv X pins σ H s) (hN : X.N.Nodup) (hi : X.N[i]? = some x) (hx : Loc X.env.scope x) (r : RelV v u)
    (h : ∀ s', Inv X pins (σ.set i (some v)) H s' → Q () s') (hf : X.fn x = true ∨ X.env.scope.names.lookup x = some .local := by first | exact .inl rfl | exact .inr rfl | assumption) : wpAny M A (storeName X.env x u) Q E s :=
  store_ok2 I hN hi hx r (fun s' I' _ => h s' I') hf
/-- behind a call or a block, the state as it is -/
theorem Inv.call' {s' : Shared} {ch : List Addr} (I : Inv X pins σ H s) (ho : s'.os = s.os) (u : Un (frs X.stack) ch H H' s.heap s'.heap) (hok : HOk X.prog X.w H' s'.heap) (hg : AllBare s'.gens)
    (hch : ∀ b ∈ ch, (b ∈ X.ex ∨ X.s_0.heap.objs.size ≤ b) ∧ b ≠ X.env.locals ∧ (∀ x c, X.env.cells.lookup x = some c → c ≠ b) ∧ ∀ p ∈ X.pn ++ pins, p.1 ≠ b) : Inv X pins σ H' s' := by
  obtain ⟨h', g', d', t', o'⟩ := s'
  have e : o' = s.os := ho
  subst e
  exact I.call (g' := g') (t' := t') (d' := d') u hok hg hch
end

/-! ### the judgements -/
/-- an exception: its class, its own dict's address (where it has one), the abstract heap behind it -/
abbrev XK := Value → Option Addr → Hp → Prop
abbrev St := List (Option V)
abbrev VK := V → Hp → Prop
/-- an expression's reading; a test's; an argument list's -/
abbrev TE := St → Hp → VK → Prop
abbrev TT := St → Hp → (Bool → Hp → Prop) → Prop
abbrev TA := St → Hp → (List V → Hp → Prop) → Prop
/-- what is wanted behind a statement -/
structure Ends where
  nx : St → Hp → Prop
  rt : VK
  bk : St → Hp → Prop := fun _ _ => False
  ct : St → Hp → Prop := fun _ _ => False
abbrev TS := Ends → St → Hp → Prop

def EP (X : Cx) (pins : List (Addr × Obj)) (σ : St) (Q : VK) (u : Value) (s' : Shared) : Prop := ∃ v H', Inv X pins σ H' s' ∧ RelV v u ∧ Q v H'
def TP (X : Cx) (pins : List (Addr × Obj)) (σ : St) (Q : Bool → Hp → Prop) (b : Bool) (s' : Shared) : Prop := ∃ H', Inv X pins σ H' s' ∧ Q b H'
def AP (X : Cx) (pins : List (Addr × Obj)) (σ : St) (Q : List V → Hp → Prop) (us : List Value) (s' : Shared) : Prop := ∃ vs H', Inv X pins σ H' s' ∧ Vals vs us ∧ Q vs H'
def SP (X : Cx) (pins : List (Addr × Obj)) (D : Ends) (f : Flow) (s' : Shared) : Prop :=
  match f with
  | .next => ∃ σ' H', Inv X pins σ' H' s' ∧ D.nx σ' H'
  | .brk => ∃ σ' H', Inv X pins σ' H' s' ∧ D.bk σ' H'
  | .cont => ∃ σ' H', Inv X pins σ' H' s' ∧ D.ct σ' H'
  | .ret u => ∃ v σ' H', Inv X pins σ' H' s' ∧ RelV v u ∧ D.rt v H'

def PE (X : Cx) (e : Expr) (t : TE) : Prop :=
  ∀ (pins : List (Addr × Obj)) (s : Shared) (σ : St) (H : Hp) (Q : VK), Inv X pins σ H s → t σ H Q → wpAny (model X.prog X.w) X.A (eval e X.env) (EP X pins σ Q) X.xe s
def PT (X : Cx) (e : Expr) (t : TT) : Prop :=
  ∀ (pins : List (Addr × Obj)) (s : Shared) (σ : St) (H : Hp) (Q : Bool → Hp → Prop), Inv X pins σ H s → t σ H Q → wpAny (model X.prog X.w) X.A (isTrue e X.env (eval e X.env)) (TP X pins σ Q) X.xe s
/-- a test whatever its 'whole' is (and, or) -/
def PW (X : Cx) (e : Expr) (t : TT) : Prop :=
  ∀ (whole : Sem Value) (pins : List (Addr × Obj)) (s : Shared) (σ : St) (H : Hp) (Q : Bool → Hp → Prop), Inv X pins σ H s → t σ H Q → wpAny (model X.prog X.w) X.A (isTrue e X.env whole) (TP X pins σ Q) X.xe s
theorem PW.pt {X : Cx} {e : Expr} {t : TT} (h : PW X e t) : PT X e t := h _
/-- an argument list (no star), from the left -/
def PA (X : Cx) (es : List Expr) (t : TA) : Prop :=
  ∀ (pos : Pos) (pins : List (Addr × Obj)) (s : Shared) (σ : St) (H : Hp) (Q : List V → Hp → Prop), Inv X pins σ H s → t σ H Q → wpAny (model X.prog X.w) X.A (spliced (backTo pos (starEach es X.env))) (AP X pins σ Q) X.xe s
def PS (X : Cx) (st : Stmt) (t : TS) : Prop :=
  ∀ (pins : List (Addr × Obj)) (s : Shared) (σ : St) (H : Hp) (D : Ends), Inv X pins σ H s → t D σ H → wpAny (model X.prog X.w) X.A (exec st X.env) (SP X pins D) X.xe s
def PSs (X : Cx) (st : List Stmt) (t : TS) : Prop :=
  ∀ (pins : List (Addr × Obj)) (s : Shared) (σ : St) (H : Hp) (D : Ends), Inv X pins σ H s → t D σ H → wpAny (model X.prog X.w) X.A (execs st X.env) (SP X pins D) X.xe s
/-- weaken the end -/
theorem thn {α : Type} {t : Sem α} {Q Q' : α → Shared → Prop} {M : Model} {A : Around} {E : Value → Shared → Prop} {s : Shared} (h : wpAny M A t Q E s) (hQ : ∀ a s, Q a s → Q' a s) : wpAny M A t Q' E s := wpAny_mono h hQ fun _ _ x => x
end L2

namespace L2
open PySem PySem.Spec PyProof.Rows
section
variable {X : Cx}

/-! ### names and constants -/
def tVar (i : Nat) : TE := fun σ H Q => ∃ v, σ[i]? = some (some v) ∧ Q v H
def tC (v : V) : TE := fun _ H Q => Q v H
theorem pe_var {i : Nat} {x : Str} {pos : Pos} (hN : X.N[i]? = some x) (hv : Vis X.env.scope x) (hd : (x == ("__debug__" : Str)) = false := by decide) (hcd : (x == ("__classdict__" : Str)) = false := by decide) : PE X (.Name x pos) (tVar i) := by
  intro pins s σ H Q I h
  obtain ⟨v, e, h⟩ := h
  obtain ⟨m, hn, hl⟩ := I.loc
  obtain ⟨u, r, l⟩ := hl i x v hN e hv
  have fin : EP X pins σ Q u s := ⟨v, H, I, r, h⟩
  rcases l with ⟨hk, hm⟩ | ⟨hk, c, hc, hcell⟩
  · exact wpAny_Name (wpAny_loadName_local I.ok.kind hk hn hm fin) hd
  · rcases hk with hk | hk
    · exact wpAny_Name (wpAny_loadName_cell I.ok.kind hk hc hcell fin) hd
    · exact wpAny_Name (wpAny_loadName_free I.ok.kind hk hc hcell fin hcd) hd
theorem pe_int {i j pos} : PE X (.Constant (.int i) j pos) (tC (.int i)) := fun _ _ _ H _ I h => wpAny_Constant_int ⟨.int i, H, I.tok _, ⟨_, rfl⟩, h⟩
theorem pe_bl {b j pos} : PE X (.Constant (.bool b) j pos) (tC (.bl b)) := fun _ _ _ H _ I h => Constant_bool ⟨.bl b, H, I, rfl, h⟩
theorem pe_non {j pos} : PE X (.Constant .none j pos) (tC .non) := fun _ _ _ H _ I h => Constant_none ⟨.non, H, I, rfl, h⟩
theorem pe_str {x j pos} : PE X (.Constant (.str x) j pos) (tC (.str x)) := fun _ _ _ H _ I h => Calls.Constant_str ⟨.str x, H, I.tok _, ⟨_, rfl⟩, h⟩

/-- a global name of the def -/
def Gl (X : Cx) (x : Str) : Prop := X.env.kindOf x = some .globalImplicit
theorem ld_glob {E : Value → Shared → Prop} {pins : List (Addr × Obj)} {s : Shared} {σ : St} {H : Hp} {x : Str} {u : Value} {pos : Pos} {Q : Value → Shared → Prop} (I : Inv X pins σ H s) (hg : Gl X x) (hm : X.mg x = some u) (h : Q u s)
    (hd : (x == ("__debug__" : Str)) = false := by decide) : wpAny (model X.prog X.w) X.A (eval (.Name x pos) X.env) Q E s :=
  Calls.Name_function_global I.ok.kind hg (Calls.loadGlobal_global (by rw [I.ok.glob]; exact I.mod.glob.keeps I.bk) hm h) hd
theorem ld_blt {E : Value → Shared → Prop} {pins : List (Addr × Obj)} {s : Shared} {σ : St} {H : Hp} {x : Str} {u : Value} {pos : Pos} {Q : Value → Shared → Prop} (I : Inv X pins σ H s) (hg : Gl X x) (hm : X.mg x = none) (hv : bootBuiltins x = some u) (h : Q u s)
    (hn : x ≠ "__name__" := by decide) (hd : (x == ("__debug__" : Str)) = false := by decide) : wpAny (model X.prog X.w) X.A (eval (.Name x pos) X.env) Q E s := by
  obtain ⟨mb, h1, h2⟩ := I.mod.blt
  exact Calls.Name_function_global I.ok.kind hg (Calls.loadGlobal_builtin (by rw [I.ok.glob]; exact I.mod.glob.keeps I.bk) hm (by rw [I.ok.blt]; exact h1.keeps I.bk) ((h2 x hn).trans hv) h) hd
/-- a module's constant, a class, a function, as a value -/
theorem pe_glob {x : Str} {v : V} {u : Value} {pos : Pos} (hg : Gl X x) (hm : X.mg x = some u) (r : RelV v u) (hd : (x == ("__debug__" : Str)) = false := by decide) : PE X (.Name x pos) (tC v) :=
  fun _ _ _ H _ I h => ld_glob I hg hm ⟨v, H, I, r, h⟩ hd
/-! ### arithmetic -/
variable {a b : Expr} {ta tb : TE} {pos : Pos}
/-! ### comparisons -/
/-- a comparison as a value, as a test -/
def tB (t : TE) : TT := fun σ H Q => t σ H fun x H1 => ∃ c, x = .bl c ∧ Q c H1
/-- an expression whose value is a bool, as a test -/
theorem pt_val {e : Expr} {t : TE} (h : PE X e t) (he : ∀ whole, isTrue e X.env whole = (do let v ← whole; standAt e.pos; holding [v] (truthy v)) := by intro _; rfl) : PT X e (tB t) := by
  intro pins s σ H Q I hw
  refine isTrue_plain (thn (h pins s σ H _ I hw) fun v s1 ⟨x, H1, I1, r1, q1⟩ => ?_) (he _)
  obtain ⟨d, rfl, q⟩ := q1
  cases r1
  exact wpAny_truthy_bool ⟨H1, I1, q⟩

/-! ### and, or, not -/
variable {tA tB' : TT} {rest : List Expr}
def tAnd (t u : TT) : TT := fun σ H Q => t σ H fun c H1 => if c = true then u σ H1 Q else Q false H1
def tOr (t u : TT) : TT := fun σ H Q => t σ H fun c H1 => if c = true then Q true H1 else u σ H1 Q
def tNot (t : TT) : TT := fun σ H Q => t σ H fun c H1 => Q (!c) H1
theorem pw_and1 (ha : PT X a tA) : PW X (.BoolOp .And [a] pos) tA := by
  intro wh pins s σ H Q I h
  refine isTrue_and (thn (ha pins s σ H Q I h) fun c s1 e => ?_)
  cases c with
  | true => exact isTrue_and_nil e
  | false => exact e
theorem pw_or1 (ha : PT X a tA) : PW X (.BoolOp .Or [a] pos) tA := by
  intro wh pins s σ H Q I h
  refine isTrue_or (thn (ha pins s σ H Q I h) fun c s1 e => ?_)
  cases c with
  | false => exact isTrue_or_nil e
  | true => exact e
theorem pw_and (ha : PT X a tA) (hb : PW X (.BoolOp .And (b :: rest) pos) tB') : PW X (.BoolOp .And (a :: b :: rest) pos) (tAnd tA tB') := by
  intro wh pins s σ H Q I h
  refine isTrue_and (thn (ha pins s σ H _ I h) fun c s1 ⟨H1, I1, q1⟩ => ?_)
  cases c with
  | true => exact hb wh pins s1 σ H1 Q I1 q1
  | false => exact ⟨H1, I1, q1⟩
theorem pw_or (ha : PT X a tA) (hb : PW X (.BoolOp .Or (b :: rest) pos) tB') : PW X (.BoolOp .Or (a :: b :: rest) pos) (tOr tA tB') := by
  intro wh pins s σ H Q I h
  refine isTrue_or (thn (ha pins s σ H _ I h) fun c s1 ⟨H1, I1, q1⟩ => ?_)
  cases c with
  | true => exact ⟨H1, I1, q1⟩
  | false => exact hb wh pins s1 σ H1 Q I1 q1
theorem pt_not (ha : PT X a tA) : PT X (.UnaryOp .Not a pos) (tNot tA) := by
  intro pins s σ H Q I h
  exact isTrue_not (ha pins s σ H (fun c H1 => Q (!c) H1) I h)
/-- .. as values (bools) -/
def tAndV (ta tb : TE) : TE := fun σ H Q => ta σ H fun x H1 => ∃ c, x = .bl c ∧ if c = true then tb σ H1 Q else Q (.bl false) H1
def tOrV (ta tb : TE) : TE := fun σ H Q => ta σ H fun x H1 => ∃ c, x = .bl c ∧ if c = true then Q (.bl true) H1 else tb σ H1 Q
def tNotV (ta : TE) : TE := fun σ H Q => ta σ H fun x H1 => ∃ c, x = .bl c ∧ Q (.bl (!c)) H1
theorem pe_one {op} {t : TE} (h : PE X a t) : PE X (.BoolOp op [a] pos) t := fun pins s σ H Q I hw => BoolOp_one (h pins s σ H Q I hw)
theorem pe_and (ha : PE X a ta) (hb : PE X (.BoolOp .And (b :: rest) pos) tb) : PE X (.BoolOp .And (a :: b :: rest) pos) (tAndV ta tb) := by
  intro pins s σ H Q I h
  refine BoolOp_and (thn (ha pins s σ H _ I h) fun v s1 ⟨x, H1, I1, r1, q1⟩ => ?_)
  obtain ⟨c, rfl, q1⟩ := q1
  cases r1
  refine wpAny_truthy_bool ?_
  cases c with
  | true => exact hb pins s1 σ H1 Q I1 q1
  | false => exact ⟨.bl false, H1, I1, rfl, q1⟩
/-- a if t else b -/
def tIf (t : TT) (ta tb : TE) : TE := fun σ H Q => t σ H fun c H1 => if c = true then ta σ H1 Q else tb σ H1 Q
theorem pe_ifExp {c : Expr} (hc : PT X c tA) (ha : PE X a ta) (hb : PE X b tb) : PE X (.IfExp c a b pos) (tIf tA ta tb) := by
  intro pins s σ H Q I h
  refine wpAny_IfExp (thn (hc pins s σ H _ I h) fun d s1 ⟨H1, I1, q1⟩ => ?_)
  cases d with
  | true => exact ha pins s1 σ H1 Q I1 q1
  | false => exact hb pins s1 σ H1 Q I1 q1
end
end L2

namespace L2
open PySem PySem.Spec PyProof.Rows

/-! ### a list, a tuple that is read: tracked, frozen, or an object of the module -/
def SqL (K : PySem.W.Frag) (H : Hp) (a : Addr) (xs : List V) : Prop :=
  Rd H a (.lst xs) ∨
    ∃ (o : Obj) (its : Array Value) (n : Nat), K.lookup a = some o ∧ o.cls = .type "list" ∧ o.dict = none ∧ o.data = .seq its n ∧ its.size ≤ sizeLine ∧ Vals xs its.toList
def SqT (K : PySem.W.Frag) (H : Hp) (a : Addr) (xs : List V) : Prop :=
  Rd H a (.tup xs) ∨
    ∃ (o : Obj) (its : Array Value) (n : Nat), K.lookup a = some o ∧ o.cls = .type "tuple" ∧ o.data = .seq its n ∧ its.size ≤ sizeLine ∧ Vals xs its.toList
def absV : Value → Option V
  | .none => some .non
  | .bool b => some (.bl b)
  | .int i _ => some (.int i)
  | .str x _ => some (.str x)
  | .bytes b _ => some (.byt b)
  | .float b _ => some (.flt b)
  | .ref a => some (.ref a)
  | .type n => some (.ty n)
  | _ => none
theorem RelV.abs {x : V} {u : Value} (r : RelV x u) : absV u = some x := by
  cases x with
  | non => cases r; rfl
  | bl _ => cases r; rfl
  | int _ => obtain ⟨t, rfl⟩ := r; rfl
  | str _ => obtain ⟨t, rfl⟩ := r; rfl
  | byt _ => obtain ⟨t, rfl⟩ := r; rfl
  | flt _ => obtain ⟨t, rfl⟩ := r; rfl
  | ref _ => cases r; rfl
  | ty _ => cases r; rfl
theorem RelV.inj {x y : V} {u : Value} (r : RelV x u) (q : RelV y u) : x = y := Option.some.inj (r.abs.symm.trans q.abs)
theorem Vals.inj : ∀ {xs ys : List V} {us : List Value}, Vals xs us → Vals ys us → xs = ys
  | _, _, _, .nil, .nil => rfl
  | _, _, _, .cons r t, .cons r' t' => by rw [r.inj r', Vals.inj t t']
section
variable {X : Cx} {pins : List (Addr × Obj)} {σ : St} {H : Hp} {s : Shared} {a : Addr} {xs ys : List V}
theorem SqL.of {K : PySem.W.Frag} (h : H a = some (.lst xs)) : SqL K H a xs := .inl (.inl h)
theorem SqT.of {K : PySem.W.Frag} (h : H a = some (.tup xs)) : SqT K H a xs := .inl (.inl h)
theorem Inv.list (I : Inv X pins σ H s) (h : SqL X.K H a xs) : ∃ its : List Value, Vals xs its ∧ PlainL s.heap a its.toArray ∧ xs.length ≤ sizeLine := by
  rcases h with h | ⟨o, its, n, hk, hc, hd, hs, hz, r⟩
  · obtain ⟨z, its, n, r, e⟩ := h.ok I.hok
    exact ⟨its, r, ⟨_, n, e, rfl, rfl, rfl⟩, z⟩
  · refine ⟨its.toList, r, ⟨o, n, I.kIn a o hk, hc, hd, by simpa using hs⟩, ?_⟩
    have e := r.length
    simp only [Array.length_toList] at e
    omega
theorem Inv.tuple (I : Inv X pins σ H s) (h : SqT X.K H a xs) : ∃ its : List Value, Vals xs its ∧ IsTup s.heap a its.toArray ∧ xs.length ≤ sizeLine := by
  rcases h with h | ⟨o, its, n, hk, hc, hs, hz, r⟩
  · obtain ⟨z, its, r, p⟩ := h.ok I.hok
    exact ⟨its, r, p, z⟩
  · refine ⟨its.toList, r, ⟨o, I.kIn a o hk, hc, n, by simpa using hs⟩, ?_⟩
    have e := r.length
    simp only [Array.length_toList] at e
    omega
theorem Inv.list_inj (I : Inv X pins σ H s) (h : SqL X.K H a xs) (h' : SqL X.K H a ys) : xs = ys := by
  obtain ⟨its, r, ⟨o, n, e, _, _, d⟩, _⟩ := I.list h
  obtain ⟨its', r', ⟨o', n', e', _, _, d'⟩, _⟩ := I.list h'
  rw [e] at e'; cases e'
  rw [d] at d'
  injection d' with d1 _
  have : its = its' := by simpa using congrArg Array.toList d1
  subst this
  exact r.inj r'
theorem Inv.tuple_inj (I : Inv X pins σ H s) (h : SqT X.K H a xs) (h' : SqT X.K H a ys) : xs = ys := by
  obtain ⟨its, r, ⟨o, e, _, n, d⟩, _⟩ := I.tuple h
  obtain ⟨its', r', ⟨o', e', _, n', d'⟩, _⟩ := I.tuple h'
  rw [e] at e'; cases e'
  rw [d] at d'
  injection d' with d1 _
  have : its = its' := by simpa using congrArg Array.toList d1
  subst this
  exact r.inj r'
end

/-! ### another wish about exceptions -/
abbrev Cx.wish (X : Cx) (E : Value → Shared → Prop) : Cx := { X with xe := E }
/-- no exception leaves -/
abbrev Cx.nox (X : Cx) : Cx := X.wish fun _ _ => False
theorem Cx.Ok.wish {X : Cx} (ok : X.Ok) (E : Value → Shared → Prop) : (X.wish E).Ok :=
  ⟨ok.mod, ok.kind, ok.glob, ok.blt, ok.above, ok.inj, ok.has, ok.cab, ok.hd, ok.frames, ok.stk, ok.exf, ok.bs, ok.bsz, ok.noex, ok.exfs, ok.funs, ok.frf⟩
theorem Cx.Ok.unwish {X : Cx} {E : Value → Shared → Prop} (ok : (X.wish E).Ok) : X.Ok :=
  ⟨ok.mod, ok.kind, ok.glob, ok.blt, ok.above, ok.inj, ok.has, ok.cab, ok.hd, ok.frames, ok.stk, ok.exf, ok.bs, ok.bsz, ok.noex, ok.exfs, ok.funs, ok.frf⟩
section
variable {X : Cx} {pins : List (Addr × Obj)} {σ : St} {H : Hp} {s : Shared} {E : Value → Shared → Prop}
theorem Inv.wish (I : Inv X pins σ H s) (E : Value → Shared → Prop) : Inv (X.wish E) pins σ H s := ⟨I.ok.wish E, I.os, I.bare, I.base, I.loc, I.cell, I.free, I.freeC, I.pin, I.hok, I.len⟩
theorem Inv.unwish (I : Inv (X.wish E) pins σ H s) : Inv X pins σ H s := ⟨I.ok.unwish, I.os, I.bare, I.base, I.loc, I.cell, I.free, I.freeC, I.pin, I.hok, I.len⟩
theorem SP.unwish {D : Ends} {f : Flow} {s' : Shared} (h : SP (X.wish E) pins D f s') : SP X pins D f s' := by
  cases f with
  | next => obtain ⟨σ', H', I, q⟩ := h; exact ⟨σ', H', I.unwish, q⟩
  | brk => obtain ⟨σ', H', I, q⟩ := h; exact ⟨σ', H', I.unwish, q⟩
  | cont => obtain ⟨σ', H', I, q⟩ := h; exact ⟨σ', H', I.unwish, q⟩
  | ret u => obtain ⟨v, σ', H', I, r, q⟩ := h; exact ⟨v, σ', H', I.unwish, r, q⟩
theorem PE.nox {e : Expr} {t : TE} (h : PE X.nox e t) : PE X e t := fun pins s σ H Q I hw =>
  wpAny_mono (h pins s σ H Q (I.wish _) hw) (fun _ _ ⟨v, H', I', r, q⟩ => ⟨v, H', I'.unwish, r, q⟩) fun _ _ z => False.elim z
theorem PT.nox {e : Expr} {t : TT} (h : PT X.nox e t) : PT X e t := fun pins s σ H Q I hw =>
  wpAny_mono (h pins s σ H Q (I.wish _) hw) (fun _ _ ⟨H', I', q⟩ => ⟨H', I'.unwish, q⟩) fun _ _ z => False.elim z
theorem PSs.nox {st : List Stmt} {t : TS} (h : PSs X.nox st t) : PSs X st t := fun pins s σ H D I hw =>
  wpAny_mono (h pins s σ H D (I.wish _) hw) (fun _ _ q => q.unwish) fun _ _ z => False.elim z
end

/-! ### blocks and small statements -/
section
variable {X : Cx} {st : Stmt} {rest : List Stmt} {t u : TS} {e : Expr} {te : TE} {pos : Pos}
def tNext : TS := fun D σ H => D.nx σ H
def tSeq (t u : TS) : TS := fun D σ H => t { D with nx := u D } σ H
theorem pss_nil : PSs X [] tNext := fun _ _ σ H _ I h => wpAny_execs_nil ⟨σ, H, I, h⟩
theorem pss_cons (h1 : PS X st t) (h2 : PSs X rest u) : PSs X (st :: rest) (tSeq t u) := by
  intro pins s σ H D I h
  refine wpAny_execs_cons (thn (h1 pins s σ H { D with nx := u D } I h) fun f s1 q => ?_)
  cases f with
  | next =>
    obtain ⟨σ', H', I', q⟩ := q
    exact h2 pins s1 σ' H' D I' q
  | ret v => exact q
  | brk => exact q
  | cont => exact q
theorem pss_one (h1 : PS X st t) : PSs X [st] t := by
  intro pins s σ H D I h
  refine wpAny_execs_cons (thn (h1 pins s σ H D I h) fun f s1 q => ?_)
  cases f with
  | next => exact wpAny_execs_nil q
  | ret v => exact q
  | brk => exact q
  | cont => exact q
def tBreak : TS := fun D σ H => D.bk σ H
def tCont : TS := fun D σ H => D.ct σ H
/-- in a def's body nothing is shown -/
theorem Inv.quiet {pins : List (Addr × Obj)} {σ : St} {H : Hp} {s : Shared} (I : Inv X pins σ H s) : interactive X.env = false := by simp [interactive, I.ok.kind]
/-- an expression whose value is dropped -/
def tDrop (te : TE) : TS := fun D σ H => te σ H fun _ H1 => D.nx σ H1
theorem ps_expr (he : PE X e te) (hs : swapsWith e none pos.line X.env = pure false := by rfl) : PS X (.Expr e pos) (tDrop te) := by
  intro pins s σ H D I h
  exact wpAny_Expr_any (thn (he pins s σ H _ I h) fun v s1 ⟨x, H1, I1, r1, q1⟩ => ⟨σ, H1, I1, q1⟩) I.quiet hs
def tRet (te : TE) : TS := fun D σ H => te σ H D.rt
theorem ps_ret (he : PE X e te) : PS X (.Return (some e) pos) (tRet te) := by
  intro pins s σ H D I h
  exact wpAny_Return_some (thn (he pins s σ H _ I h) fun v s1 ⟨x, H1, I1, r1, q1⟩ => ⟨x, σ, H1, I1, r1, q1⟩)
def tRetN : TS := fun D _ H => D.rt .non H
def tIfS (c : TT) (t u : TS) : TS := fun D σ H => c σ H fun b H1 => if b = true then t D σ H1 else u D σ H1
theorem ps_if {c : Expr} {a b : List Stmt} {tc : TT} (hc : PT X c tc) (ha : PSs X a t) (hb : PSs X b u) : PS X (.If c a b pos) (tIfS tc t u) := by
  intro pins s σ H D I h
  refine wpAny_If (thn (hc pins s σ H _ I h) fun d s1 ⟨H1, I1, q1⟩ => ?_)
  cases d with
  | true => exact ha pins s1 σ H1 D I1 q1
  | false => exact hb pins s1 σ H1 D I1 q1
/-- code that the proof never comes to -/
def tNever : TS := fun _ _ _ => False
theorem pss_never {sts : List Stmt} : PSs X sts tNever := fun _ _ _ _ _ _ h => h.elim
end

/-! ### targets -/
abbrev TG := V → St → Hp → (St → Hp → Prop) → Prop
abbrev TGs := List V → St → Hp → (St → Hp → Prop) → Prop
def PG (X : Cx) (target : Expr) (t : TG) : Prop :=
  ∀ (pins : List (Addr × Obj)) (s : Shared) (σ : St) (H : Hp) (v : V) (u : Value) (Q : St → Hp → Prop), Inv X pins σ H s → RelV v u → t v σ H Q →
    wpAny (model X.prog X.w) X.A (assign target X.env u) (fun _ s' => ∃ σ' H', Inv X pins σ' H' s' ∧ Q σ' H') X.xe s
/-- several targets, one after another -/
def PGs (X : Cx) (ts : List Expr) (t : TGs) : Prop :=
  ∀ (pins : List (Addr × Obj)) (s : Shared) (σ : St) (H : Hp) (vs : List V) (us : List Value) (Q : St → Hp → Prop), Inv X pins σ H s → Vals vs us → t vs σ H Q →
    wpAny (model X.prog X.w) X.A (assignInOrder ((assignEach ts X.env).map (·.2)) us) (fun _ s' => ∃ σ' H', Inv X pins σ' H' s' ∧ Q σ' H') X.xe s
/-- o[i] = v, by values -/
abbrev TSet := V → V → V → Hp → (Hp → Prop) → Prop
/-- a op= b, by values -/
abbrev TIp := V → V → Hp → VK → Prop
section
variable {X : Cx} {pos : Pos}
def gName (i : Nat) : TG := fun v σ H Q => Q (σ.set i (some v)) H
theorem pg_name {i : Nat} {x : Str} (hN : X.N.Nodup) (hi : X.N[i]? = some x) (hx : Loc X.env.scope x) (hf : X.fn x = true ∨ X.env.scope.names.lookup x = some .local := by first | exact .inl rfl | exact .inr rfl | assumption) : PG X (.Name x pos) (gName i) := by
  intro pins s σ H v u Q I r h
  exact wpAny_assign_Name (store_ok I hN hi hx r (fun s' I' => ⟨_, H, I', h⟩) hf)
def gNil : TGs := fun vs σ H Q => vs = [] ∧ Q σ H
def gCons (t : TG) (u : TGs) : TGs := fun vs σ H Q => ∃ v r, vs = v :: r ∧ t v σ H fun σ' H' => u r σ' H' Q
theorem pgs_nil : PGs X [] gNil := by
  intro pins s σ H vs us Q I r h
  obtain ⟨e, h⟩ := h
  subst e
  cases r
  exact assignInOrder_nil ⟨σ, H, I, h⟩
theorem pgs_cons {e : Expr} {es : List Expr} {t : TG} {u : TGs} (h1 : PG X e t) (h2 : PGs X es u)
    (hs : (assignEach (e :: es) X.env).map (·.2) = assign e X.env :: (assignEach es X.env).map (·.2) := by rfl) : PGs X (e :: es) (gCons t u) := by
  intro pins s σ H vs us Q I r h
  obtain ⟨v, vr, e1, h⟩ := h
  subst e1
  cases r with
  | cons r rr =>
    rw [hs]
    refine assignInOrder_cons (thn (h1 pins s σ H _ _ _ I r h) fun _ s1 ⟨σ1, H1, I1, q1⟩ => ?_)
    exact h2 pins s1 σ1 H1 _ _ Q I1 rr q1
/-- (a, b, ..) = a tuple of that length -/
def gTup (K : PySem.W.Frag) (n : Nat) (t : TGs) : TG := fun v σ H Q => ∃ a xs, v = .ref a ∧ SqT K H a xs ∧ xs.length = n ∧ t xs σ H Q
theorem pg_tup {es : List Expr} {k : Nat} {t : TGs} {n : Nat} (hc : X.calm = true) (h : PGs X es t)
    (hn : (assignEach es X.env).length = n := by rfl) (hst : (assignEach es X.env).findIdx? (·.1) = none := by rfl) : PG X (.Tuple es k pos) (gTup X.K n t) := by
  intro pins s σ H v u Q I r hw
  obtain ⟨a, xs, e1, hq, hl, hw⟩ := hw
  subst e1
  cases r
  obtain ⟨its, rv, ht, hz⟩ := I.tuple hq
  refine assign_Tuple_tuple (I.ok.hd hc) ht (by simp [hn, ← hl, rv.length]) hst fun h' hx => ?_
  have I1 : Inv X pins σ H { s with heap := h' } := I.kept (t' := s.toks) fun b o e => hx b o (Nat.ne_of_lt (Heap.lt_size e)) e
  exact h pins _ σ H xs _ Q I1 (by simpa using rv) hw
/-- o[i] = .. -/
def gSub (to ti : TE) (t : TSet) : TG := fun v σ H Q => to σ H fun o H1 => ti σ H1 fun i H2 => t o i v H2 fun H3 => Q σ H3
/-- target = value -/
def tAsg (te : TE) (g : TG) : TS := fun D σ H => te σ H fun x H1 => g x σ H1 D.nx
theorem ps_asg {tg e : Expr} {te : TE} {g : TG} (he : PE X e te) (hg : PG X tg g) (hs : swapsWithSole [tg] e pos.line X.env = pure false := by rfl) (hw : swappedStores [tg] e X.env = pure none := by rfl)
    (h1 : (assignEach [tg] X.env).map (·.2) = [assign tg X.env] := by rfl) : PS X (.Assign [tg] e pos) (tAsg te g) := by
  intro pins s σ H D I h
  refine wpAny_Assign_stores (thn (he pins s σ H _ I h) fun v s1 ⟨x, H1, I1, r1, q1⟩ => ?_) hs hw
  rw [h1]
  exact thn (hg pins s1 σ H1 x v _ I1 r1 q1) fun _ s2 q => q
/-- name = value -/
theorem ps_set {i : Nat} {x : Str} {e : Expr} {te : TE} {pos' : Pos} (hN : X.N.Nodup) (hi : X.N[i]? = some x) (hx : Loc X.env.scope x) (he : PE X e te) (hs : swapsWith e (some (.Name x pos')) pos.line X.env = pure false := by rfl) (hf : X.fn x = true ∨ X.env.scope.names.lookup x = some .local := by first | exact .inl rfl | exact .inr rfl | assumption) :
    PS X (.Assign [.Name x pos'] e pos) (tAsg te (gName i)) := by
  intro pins s σ H D I h
  refine wpAny_Assign_Name (thn (he pins s σ H _ I h) fun v s1 ⟨y, H1, I1, r1, q1⟩ => ?_) hs
  exact store_ok I1 hN hi hx r1 (fun s2 I2 => ⟨_, H1, I2, q1⟩) hf
/-- a, b = x, y with plain local names: stored from the right; the pair itself is not tracked (the opening rows as in PyProof/Rows/TupAssign.lean:23) -/
def tPar (i j : Nat) (ta : TA) : TS := fun D σ H => ta σ H fun vs H1 => ∃ v w, vs = [v, w] ∧ D.nx ((σ.set i (some v)).set j (some w)) H1
/-- name op= e -/
def tAug (i : Nat) (te : TE) (ti : TIp) : TS := fun D σ H => ∃ x, σ[i]? = some (some x) ∧ te σ H fun y H1 => ti x y H1 fun z H2 => D.nx (σ.set i (some z)) H2
/-- ints -/
def ipI (f : Int → Int → Int) : TIp := fun x y H Q => ∃ i j, x = .int i ∧ y = .int j ∧ Q (.int (f i j)) H
end

/-! ### while -/
section
variable {X : Cx} {pos : Pos}
/-- the invariant W with its measure -/
def tWhile (c : TT) (tb : TS) : TS := fun D σ H => ∃ W : Nat → St → Hp → Prop, (∃ m, W m σ H) ∧ ∀ m σ H, W m σ H →
  c σ H fun b H1 => if b = true then ∃ N : St → Hp → Prop, (∀ σ' H', N σ' H' → ∃ m', m' < m ∧ W m' σ' H') ∧ tb { D with nx := N, ct := N, bk := D.nx } σ H1 else D.nx σ H1
end

/-! ### what a loop or a comprehension walks -/
/-- at turn i: it yields x (the heap may grow), or it stops -/
structure It where
  go : Nat → Hp → Prop
  yld : Nat → Hp → V → Hp → Prop
  stop : Nat → Hp → Prop
/-- the iterator's own objects may turn: they are not the frame's, not pinned, younger than the entry (or a comprehension's own) -/
def FpOk (X : Cx) (pins : List (Addr × Obj)) (H : Hp) (b : Addr) : Prop :=
  H b = none ∧ b ≠ X.env.locals ∧ b ∉ X.fs ∧ (b ∈ X.ex ∨ X.s_0.heap.objs.size ≤ b) ∧ (∀ x c, X.env.cells.lookup x = some c → c ≠ b) ∧ ∀ p ∈ X.pn ++ pins, p.1 ≠ b
theorem Inv.fpOk {X : Cx} {pins : List (Addr × Obj)} {σ : St} {H H' : Hp} {s : Shared} {b : Addr} (I : Inv X pins σ H s) (hb : s.heap.objs.size ≤ b) (hn : H' b = none) : FpOk X pins H' b := by
  refine ⟨hn, Nat.ne_of_gt (Nat.lt_of_lt_of_le I.lt hb), I.nofs hb, .inr (Nat.le_trans I.sz hb), fun x c e z => ?_, fun p hp z => ?_⟩
  · obtain ⟨v, q⟩ := I.cell x c e
    exact absurd (Nat.lt_of_lt_of_le q.lt (by rw [z]; exact hb)) (Nat.lt_irrefl _)
  · exact absurd (Nat.lt_of_lt_of_le (Heap.lt_size (I.pin p hp).1) (by rw [z]; exact hb)) (Nat.lt_irrefl _)
structure Turn (P : Program) (w : World) (K : PySem.W.Frag) (tg : Expr) (J : It) (fp : List Addr) (it : Addr) (tn : Nat → Heap → Prop) : Prop where
  mem : it ∈ fp
  obj : ∀ i h, tn i h → ∀ b ∈ fp, ∃ o, h.get? b = some o ∧ ∀ v, o.data ≠ .cell v
  keep : ∀ i h h', tn i h → (∀ b ∈ fp, ∀ o, h.get? b = some o → h'.get? b = some o) → tn i h'
  item : ∀ (X : Cx), X.prog = P → X.w = w → X.K = K → X.calm = true → ∀ (i : Nat) (pins : List (Addr × Obj)) (s : Shared) (σ : St) (H : Hp) (E : Value → Shared → Prop), Inv X pins σ H s → (∀ b ∈ fp, FpOk X pins H b) → tn i s.heap → J.go i H →
    wpAny (model P w) X.A (pyNext (.ref it)) (fun r s1 => ∃ u, r = some u ∧
      wpAny (model P w) X.A (letOwnedTupleGo tg (.ref it) u) (fun _ s2 => ∃ x H', Inv X pins σ H' s2 ∧ RelV x u ∧ J.yld i H x H' ∧ tn (i + 1) s2.heap ∧ ∀ b ∈ fp, H' b = none) E s1) E s
  done : ∀ (X : Cx), X.prog = P → X.w = w → X.K = K → X.calm = true → ∀ (i : Nat) (pins : List (Addr × Obj)) (s : Shared) (σ : St) (H : Hp) (E : Value → Shared → Prop), Inv X pins σ H s → (∀ b ∈ fp, FpOk X pins H b) → tn i s.heap → J.stop i H →
    wpAny (model P w) X.A (pyNext (.ref it)) (fun r s1 => r = none ∧ Inv X pins σ H s1) E s
  self : ∀ (A : Around) (i : Nat) (s : Shared) (Q : Value → Shared → Prop) (E : Value → Shared → Prop), tn i s.heap → Q (.ref it) s → wpAny (model P w) A (pyIter (.ref it)) Q E s
abbrev TI := St → Hp → (It → Hp → Prop) → Prop
/-- an iterator has come -/
def PIE (X : Cx) (pins : List (Addr × Obj)) (σ : St) (tg : Expr) (R : It → Hp → Prop) (itv : Value) (s2 : Shared) : Prop :=
  ∃ (it : Addr) (fp : List Addr) (tn : Nat → Heap → Prop) (J : It) (H' : Hp), itv = .ref it ∧ Inv X pins σ H' s2 ∧ Turn X.prog X.w X.K tg J fp it tn ∧ tn 0 s2.heap ∧ (∀ b ∈ fp, FpOk X pins H' b) ∧ R J H'
def PI (X : Cx) (tg iter : Expr) (wi : TI) : Prop :=
  ∀ (pins : List (Addr × Obj)) (s : Shared) (σ : St) (H : Hp) (R : It → Hp → Prop), Inv X pins σ H s → wi σ H R →
    wpAny (model X.prog X.w) X.A (eval iter X.env) (fun v s1 => wpAny (model X.prog X.w) X.A (pyIter v) (PIE X pins σ tg R) X.xe s1) X.xe s

/-- the step ahead of the store is nothing for an iterator that keeps no tuple -/
theorem go_of {M : Model} {A : Around} {E : Value → Shared → Prop} {s : Shared} {tg : Expr} {it : Addr} {u : Value} {o : Obj} {n : String} {vs : Array Value} {Q : Unit → Shared → Prop} (ho : s.heap.get? it = some o) (hc : o.cls = .type n) (hd : o.data = .fields vs)
    (hn : ["enumerate", "zip", "dict_itemiterator", "dict_reverseitemiterator", "odict_iterator", "itertools.zip_longest", "itertools.pairwise"].contains n = false) (hQ : Q () s) : wpAny M A (letOwnedTupleGo tg (.ref it) u) Q E s := by
  unfold letOwnedTupleGo
  cases tg <;> first
    | exact wpAny_pure hQ
    | (cases u <;> first
        | exact wpAny_pure hQ
        | (refine wpAny_bind (wpAny_load ho ?_)
           rw [hc, hd]
           show wpAny M A (if (["enumerate", "zip", "dict_itemiterator", "dict_reverseitemiterator", "odict_iterator", "itertools.zip_longest", "itertools.pairwise"].contains n && vs[0]? == some (rawInt _)) = true then _ else _) Q E s
           rw [if_neg (by intro h; rw [hn, Bool.false_and] at h; cases h)]
           exact wpAny_pure hQ))

/-- the list at a, as it stands at each turn (a loop may append to it) -/
def Itl (K : PySem.W.Frag) (a : Addr) : It :=
  ⟨fun i H => ∃ xs x, SqL K H a xs ∧ xs[i]? = some x, fun i H x H' => H' = H ∧ ∀ xs, SqL K H a xs → xs[i]? = some x, fun i H => ∃ xs, SqL K H a xs ∧ xs.length ≤ i⟩
def Itt (K : PySem.W.Frag) (a : Addr) : It :=
  ⟨fun i H => ∃ xs x, SqT K H a xs ∧ xs[i]? = some x, fun i H x H' => H' = H ∧ ∀ xs, SqT K H a xs → xs[i]? = some x, fun i H => ∃ xs, SqT K H a xs ∧ xs.length ≤ i⟩
/-- lo, lo + 1, .. (n of them) -/
def Itr (lo : Int) (n : Nat) : It := ⟨fun i _ => i < n, fun i H x H' => H' = H ∧ x = .int (lo + i), fun i _ => n ≤ i⟩
theorem turn_list {P : Program} {w : World} {K : PySem.W.Frag} {tg : Expr} (a it : Addr) : Turn P w K tg (Itl K a) [it] it (fun i h => h.IsListIter it a i) where
  mem := by simp
  obj := fun i h st b hb => by
    have e : b = it := by simpa using hb
    subst e
    obtain ⟨o, e, c, d⟩ := st
    exact ⟨o, e, fun v z => by rw [d] at z; cases z⟩
  keep := fun i h h' st k => st.at fun o e => k it (by simp) o e
  item := by
    intro X hP hw hK hc i pins s σ H E I hf st hg
    subst hP hw hK
    obtain ⟨xs, x, hq, hx⟩ := hg
    obtain ⟨its, rv, p, hz⟩ := I.list hq
    obtain ⟨u, hu, ru⟩ := rv.get hx
    obtain ⟨f0, f1, f2, f3, f4, f5⟩ := hf it (by simp)
    refine wpAny_pyNext_list_item st p.isList (x := u) (by simpa using hu) fun h' st' sb => ?_
    have I1 : Inv X pins σ H { s with heap := h' } := I.turned (t' := s.toks) (fun b o hb e => (sb.2 b hb).trans e) f0 f1 f3 f4 f5
    obtain ⟨o, e, c, d⟩ := id st'
    exact ⟨u, rfl, go_of (s := { s with heap := h' }) e c d (by decide) ⟨x, H, I1, ru, ⟨rfl, fun ys hy => by rw [I.list_inj hy hq]; exact hx⟩, st', fun b hb => (hf b hb).1⟩⟩
  done := by
    intro X hP hw hK hc i pins s σ H E I hf st hg
    subst hP hw hK
    obtain ⟨xs, hq, hx⟩ := hg
    obtain ⟨its, rv, p, hz⟩ := I.list hq
    obtain ⟨f0, f1, f2, f3, f4, f5⟩ := hf it (by simp)
    have hl := rv.length
    exact wpAny_pyNext_list_end (I.ok.hd hc) st p.isList (by simp; omega) fun h' eb => ⟨rfl, I.turned (t' := s.toks) (fun b o hb e => eb b o hb e) f0 f1 f3 f4 f5⟩
  self := fun _ _ _ _ _ st h => wpAny_pyIter_listiter st h
theorem turn_tuple {P : Program} {w : World} {K : PySem.W.Frag} {tg : Expr} (a it : Addr) : Turn P w K tg (Itt K a) [it] it (fun i h => h.IsTupleIter it a i) where
  mem := by simp
  obj := fun i h st b hb => by
    have e : b = it := by simpa using hb
    subst e
    obtain ⟨o, e, c, d⟩ := st
    exact ⟨o, e, fun v z => by rw [d] at z; cases z⟩
  keep := fun i h h' st k => st.at fun o e => k it (by simp) o e
  item := by
    intro X hP hw hK hc i pins s σ H E I hf st hg
    subst hP hw hK
    obtain ⟨xs, x, hq, hx⟩ := hg
    obtain ⟨its, rv, p, hz⟩ := I.tuple hq
    obtain ⟨u, hu, ru⟩ := rv.get hx
    obtain ⟨f0, f1, f2, f3, f4, f5⟩ := hf it (by simp)
    refine wpAny_pyNext_tuple_item st (show s.heap.IsTuple a its.toArray from p) (x := u) (by simpa using hu) fun h' st' sb => ?_
    have I1 : Inv X pins σ H { s with heap := h' } := I.turned (t' := s.toks) (fun b o hb e => (sb.2 b hb).trans e) f0 f1 f3 f4 f5
    obtain ⟨o, e, c, d⟩ := id st'
    exact ⟨u, rfl, go_of (s := { s with heap := h' }) e c d (by decide) ⟨x, H, I1, ru, ⟨rfl, fun ys hy => by rw [I.tuple_inj hy hq]; exact hx⟩, st', fun b hb => (hf b hb).1⟩⟩
  done := by
    intro X hP hw hK hc i pins s σ H E I hf st hg
    subst hP hw hK
    obtain ⟨xs, hq, hx⟩ := hg
    obtain ⟨its, rv, p, hz⟩ := I.tuple hq
    obtain ⟨f0, f1, f2, f3, f4, f5⟩ := hf it (by simp)
    have hl := rv.length
    exact wpAny_pyNext_tuple_end (I.ok.hd hc) st (show s.heap.IsTuple a its.toArray from p) (by simp; omega) fun h' eb => ⟨rfl, I.turned (t' := s.toks) (fun b o hb e => eb b o hb e) f0 f1 f3 f4 f5⟩
  self := fun _ _ _ _ _ st h => wpAny_pyIter_tupleiter st h
theorem turn_range {P : Program} {w : World} {K : PySem.W.Frag} {tg : Expr} (it : Addr) (lo : Int) (n : Nat) : Turn P w K tg (Itr lo n) [it] it (fun i h => IsRangeIter h it (lo + (i : Nat) * 1) ((n : Int) - (i : Nat)) 1) where
  mem := by simp
  obj := fun i h st b hb => by
    have e : b = it := by simpa using hb
    subst e
    exact ⟨_, st, fun v z => by
      have z' : Data.fields _ = Data.cell v := z
      cases z'⟩
  keep := fun i h h' st k => k it (by simp) _ st
  item := by
    intro X hP hw hK hc i pins s σ H E I hf st hg
    subst hP hw hK
    obtain ⟨f0, f1, f2, f3, f4, f5⟩ := hf it (by simp)
    have W := Walks.range (prog := X.prog) (w := X.w) (I.ok.hd hc) it lo 1 n
    refine W.item i s _ _ hg st fun v h' tk hv st' kk => ?_
    obtain ⟨t, rfl⟩ := hv
    have I1 : Inv X pins σ H { s with heap := h', toks := tk } := I.turned (fun b o hb e => kk b o (by simpa using hb) e) f0 f1 f3 f4 f5
    refine ⟨_, rfl, go_of (s := { s with heap := h', toks := tk }) (n := "range_iterator") st' rfl rfl (by decide) ⟨.int (lo + i), H, I1, ⟨t, ?_⟩, ⟨rfl, rfl⟩, st', fun b hb => (hf b hb).1⟩⟩
    rw [Int.mul_one]
  done := by
    intro X hP hw hK hc i pins s σ H E I hf st hg
    subst hP hw hK
    obtain ⟨f0, f1, f2, f3, f4, f5⟩ := hf it (by simp)
    exact wpAny_pyNext_range_end (I.ok.hd hc) st (by have : n ≤ i := hg; omega) fun h' eb => ⟨rfl, I.turned (t' := s.toks) (fun b o hb e => eb b o hb e) f0 f1 f3 f4 f5⟩
  self := fun _ _ _ _ _ st h => wpAny_pyIter_rangeiter st h
end L2

namespace L2
open PySem PySem.Spec PyProof.Rows
section
variable {X : Cx} {tg : Expr}
def iList (K : PySem.W.Frag) (tl : TE) : TI := fun σ H R => tl σ H fun x H1 => ∃ a, x = .ref a ∧ (∃ xs, SqL K H1 a xs) ∧ R (Itl K a) H1
def iTup (K : PySem.W.Frag) (tl : TE) : TI := fun σ H R => tl σ H fun x H1 => ∃ a, x = .ref a ∧ (∃ xs, SqT K H1 a xs) ∧ R (Itt K a) H1
theorem pi_list {l : Expr} {tl : TE} (hl : PE X l tl) : PI X tg l (iList X.K tl) := by
  intro pins s σ H R I h
  refine thn (hl pins s σ H _ I h) fun v s1 ⟨x, H1, I1, r1, q1⟩ => ?_
  obtain ⟨a, e, ⟨xs, hq⟩, q⟩ := q1
  subst e
  cases r1
  obtain ⟨its, rv, p, hz⟩ := I1.list hq
  refine wpAny_pyIter_list p.isList ?_
  refine ⟨s1.heap.objs.size, [s1.heap.objs.size], _, _, H1, rfl, I1.kept (t' := s1.toks) fun b o e => Heap.get?_push_of_some _ e, turn_list a _, ⟨_, Heap.get?_push_size _ rfl, rfl, rfl⟩, fun b hb => ?_, q⟩
  have e : b = s1.heap.objs.size := by simpa using hb
  subst e
  exact I1.fpOk (Nat.le_refl _) (I1.hok.fresh (Nat.le_refl _))
theorem pi_tup {l : Expr} {tl : TE} (hl : PE X l tl) : PI X tg l (iTup X.K tl) := by
  intro pins s σ H R I h
  refine thn (hl pins s σ H _ I h) fun v s1 ⟨x, H1, I1, r1, q1⟩ => ?_
  obtain ⟨a, e, ⟨xs, hq⟩, q⟩ := q1
  subst e
  cases r1
  obtain ⟨its, rv, p, hz⟩ := I1.tuple hq
  refine wpAny_pyIter_tuple (show s1.heap.IsTuple a its.toArray from p) ?_
  refine ⟨s1.heap.objs.size, [s1.heap.objs.size], _, _, H1, rfl, I1.kept (t' := s1.toks) fun b o e => Heap.get?_push_of_some _ e, turn_tuple a _, ⟨_, Heap.get?_push_size _ rfl, rfl, rfl⟩, fun b hb => ?_, q⟩
  have e : b = s1.heap.objs.size := by simpa using hb
  subst e
  exact I1.fpOk (Nat.le_refl _) (I1.hok.fresh (Nat.le_refl _))
/-- a range object just made, walked -/
theorem range_it {pins : List (Addr × Obj)} {σ : St} {H : Hp} {s : Shared} {R : It → Hp → Prop} {E : Value → Shared → Prop} {lo hi : Int} {t u v : Tok} {tk : Nat} (I : Inv X pins σ H s) (h1 : -(2 ^ 62) ≤ lo) (h2 : lo < 2 ^ 62) (h3 : -(2 ^ 62) ≤ hi) (h4 : hi < 2 ^ 62)
    (q : R (Itr lo (hi - lo).toNat) H) : wpAny (model X.prog X.w) X.A (pyIter (.ref s.heap.objs.size)) (PIE X pins σ tg R) E { s with heap := s.heap.push { cls := .type "range", data := .fields #[.int lo t, .int hi u, .int 1 v] }, toks := tk } := by
  refine wpAny_pyIter_range (IsRange.new ..) (small_one h1 h2 h3 h4) ?_
  have I1 : Inv X pins σ H { s with heap := s.heap.push { cls := .type "range", data := .fields #[.int lo t, .int hi u, .int 1 v] }, toks := tk } := I.kept fun b o e => Heap.get?_push_of_some _ e
  refine ⟨(s.heap.push { cls := .type "range", data := .fields #[.int lo t, .int hi u, .int 1 v] }).objs.size, [(s.heap.push { cls := .type "range", data := .fields #[.int lo t, .int hi u, .int 1 v] }).objs.size], _, _, H, rfl,
    I1.kept (t' := tk) fun b o e => Heap.get?_push_of_some _ e, turn_range _ lo (hi - lo).toNat, ?_, fun b hb => ?_, q⟩
  · have e1 : lo + ((0 : Nat) : Int) * 1 = lo := by simp
    have e2 : (((hi - lo).toNat : Nat) : Int) - ((0 : Nat) : Int) = Builtin.Range.rangeSize lo hi 1 := by rw [rangeSize_one]; split <;> omega
    show IsRangeIter _ _ (lo + ((0 : Nat) : Int) * 1) ((((hi - lo).toNat : Nat) : Int) - ((0 : Nat) : Int)) 1
    rw [e1, e2]
    exact Heap.get?_push_size _ rfl
  · have e : b = (s.heap.push { cls := .type "range", data := .fields #[.int lo t, .int hi u, .int 1 v] }).objs.size := by simpa using hb
    subst e
    exact I1.fpOk (Nat.le_refl _) (I1.hok.fresh (Nat.le_refl _))
def iRng1 (ta : TA) : TI := fun σ H R => ta σ H fun vs H1 => ∃ j : Int, vs = [.int j] ∧ -(2 ^ 62) ≤ j ∧ j < 2 ^ 62 ∧ R (Itr 0 j.toNat) H1
def iRng2 (ta : TA) : TI := fun σ H R => ta σ H fun vs H1 => ∃ i j : Int, vs = [.int i, .int j] ∧ (-(2 ^ 62) ≤ i ∧ i < 2 ^ 62 ∧ -(2 ^ 62) ≤ j ∧ j < 2 ^ 62) ∧ R (Itr i (j - i).toNat) H1
theorem pi_range1 {a : Expr} {ta : TA} {p pos : Pos} (hg : Gl X "range") (hm : X.mg "range" = none) (ha : PA X [a] ta) (hs : starEach [a] X.env = [(false, eval a X.env)] := by rfl) : PI X tg (.Call (.Name "range" p) [a] [] pos) (iRng1 ta) := by
  intro pins s σ H R I h
  refine Call_ (ld_blt I hg hm boot_range (PyProof.Rows.callWith_type1 (thn (ha pos pins s σ H _ I h) fun us s1 ⟨vs, H1, I1, r1, q1⟩ => ?_) hs rfl))
  obtain ⟨j, e, q1, q2, q⟩ := q1
  subst e
  cases r1 with
  | cons r rr =>
    cases rr
    obtain ⟨t, rfl⟩ := r
    exact call_range_1 (range_it I1 (by omega) (by omega) q1 q2 (by simpa using q))
/-! ### for -/
/-- W: the invariant by the turn and a measure; N: what the body is to reach -/
def tFor (wi : TI) (g : TG) (tb : TS) : TS := fun D σ H => wi σ H fun J H1 => ∃ W : Nat → Nat → St → Hp → Prop, (∃ m, W 0 m σ H1) ∧ ∀ i m σ H, W i m σ H →
  (J.stop i H ∧ D.nx σ H) ∨ (J.go i H ∧ ∃ N : St → Hp → Prop, (∀ σ' H', N σ' H' → ∃ m', m' < m ∧ W (i + 1) m' σ' H') ∧ ∀ x H', J.yld i H x H' → g x σ H' fun σ2 H2 => tb { D with nx := N, ct := N, bk := D.nx } σ2 H2)
/-- the records at fp as they stand -/
def pinsAt (fp : List Addr) (h : Heap) : List (Addr × Obj) := fp.filterMap fun b => (h.get? b).map fun o => (b, o)
theorem mem_pinsAt {fp : List Addr} {h : Heap} {b : Addr} {o : Obj} (hb : b ∈ fp) (e : h.get? b = some o) : (b, o) ∈ pinsAt fp h := List.mem_filterMap.mpr ⟨b, hb, by rw [e]; rfl⟩
theorem of_pinsAt {fp : List Addr} {h : Heap} {p : Addr × Obj} (hp : p ∈ pinsAt fp h) : p.1 ∈ fp ∧ h.get? p.1 = some p.2 := by
  obtain ⟨b, hb, e⟩ := List.mem_filterMap.mp hp
  cases q : h.get? b with
  | none => rw [q] at e; cases e
  | some o =>
    rw [q] at e
    have e' : (b, o) = p := Option.some.inj e
    subst e'
    exact ⟨hb, q⟩
theorem Inv.pinned {pins : List (Addr × Obj)} {σ : St} {H : Hp} {s : Shared} {fp : List Addr} (I : Inv X pins σ H s) (hf : ∀ b ∈ fp, FpOk X pins H b) (ho : ∀ b ∈ fp, ∃ o, s.heap.get? b = some o ∧ ∀ v, o.data ≠ .cell v) : Inv X (pins ++ pinsAt fp s.heap) σ H s :=
  I.pins_of fun p hp => (List.mem_append.mp hp).elim (fun z => I.pin p (List.mem_append_right _ z)) fun z => by
    obtain ⟨hb, e⟩ := of_pinsAt z
    obtain ⟨f0, f1, f2, _⟩ := hf p.1 hb
    obtain ⟨o, e', d⟩ := ho p.1 hb
    rw [e] at e'; cases e'
    exact ⟨e, f0, f1, f2, d⟩
theorem Inv.unpinned {pins pl : List (Addr × Obj)} {σ : St} {H : Hp} {s : Shared} (I : Inv X (pins ++ pl) σ H s) : Inv X pins σ H s := I.pins_of fun p hp => I.pin p (List.mem_append_right _ (List.mem_append_left _ hp))
theorem ps_for {iter : Expr} {body : List Stmt} {wi : TI} {g : TG} {tb : TS} {pos : Pos} (hp : PassesOwn (model X.prog X.w) X.A X.env X.xe) (hc : X.calm = true) (hi : PI X tg iter wi) (hg : PG X tg g) (hb : PSs X body tb)
    (hs : ∀ x, foldedSetIterable iter X.env x = pure x := by intro _; rfl) : PS X (.For tg iter body [] pos) (tFor wi g tb) := by
  intro pins s σ H D I h
  refine wpAny_For (thn (hi pins s σ H _ I h) fun v s1 h1 => thn h1 fun itv s2 h2 => ?_) hs
  obtain ⟨it, fp, tn, J, H2, e, I2, T, st2, f2, W, ⟨m0, w0⟩, turn⟩ := h2
  subst e
  -- what stays true of the iterator's objects through the loop
  have stat : ∀ {H' : Hp}, (∀ b ∈ fp, H' b = none) → ∀ b ∈ fp, FpOk X pins H' b := fun hn b hb => ⟨hn b hb, (f2 b hb).2⟩
  refine codeAny_forLoop_any (fun n s' => ∃ i σ' H', Inv X pins σ' H' s' ∧ tn i s'.heap ∧ (∀ b ∈ fp, H' b = none) ∧ W i n σ' H') ?_ m0 ⟨0, σ, H2, I2, st2, fun b hb => (f2 b hb).1, w0⟩
  rintro n s3 ⟨i, σ3, H3, I3, st3, fr3, w3⟩
  rcases turn i n σ3 H3 w3 with ⟨stop, qn⟩ | ⟨go, N, hN, step⟩
  · refine wpAny_passesOwn hp (thn (T.done X rfl rfl rfl hc i pins s3 σ3 H3 X.xe I3 (stat fr3) st3 stop) fun r s4 ⟨hr, I4⟩ => ?_)
    subst hr
    exact wpAny_execs_nil ⟨σ3, H3, I4, qn⟩
  · refine wpAny_passesOwn hp (thn (T.item X rfl rfl rfl hc i pins s3 σ3 H3 X.xe I3 (stat fr3) st3 go) fun r s4 ⟨u, hr, h4⟩ => ?_)
    subst hr
    refine wpAny_passesOwn hp (thn h4 fun _ s5 ⟨x, H5, I5, r5, y5, st5, fr5⟩ => ?_)
    have I5' := I5.pinned (stat fr5) (T.obj _ _ st5)
    refine wpAny_passesOwn hp (thn (hg _ s5 σ3 H5 x u _ I5' r5 (step x H5 y5)) fun _ s6 ⟨σ6, H6, I6, q6⟩ => ?_)
    refine wpAny_passesOwn hp (thn (hb _ s6 σ6 H6 _ I6 q6) fun f s7 q7 => ?_)
    have again : ∀ {σ7 : St} {H7 : Hp}, Inv X (pins ++ pinsAt fp s5.heap) σ7 H7 s7 → N σ7 H7 → ∃ m, m < n ∧ ∃ i σ' H', Inv X pins σ' H' s7 ∧ tn i s7.heap ∧ (∀ b ∈ fp, H' b = none) ∧ W i m σ' H' := fun {σ7 H7} I7 n7 => by
      obtain ⟨m', hm, w7⟩ := hN σ7 H7 n7
      refine ⟨m', hm, i + 1, σ7, H7, I7.unpinned, T.keep _ _ _ st5 fun b hb o e => (I7.pin (b, o) (List.mem_append_right _ (List.mem_append_right _ (mem_pinsAt hb e)))).1, fun b hb => ?_, w7⟩
      obtain ⟨o, e, d⟩ := T.obj _ _ st5 b hb
      exact (I7.pin (b, o) (List.mem_append_right _ (List.mem_append_right _ (mem_pinsAt hb e)))).2.1
    cases f with
    | next => obtain ⟨σ7, H7, I7, n7⟩ := q7; exact again I7 n7
    | cont => obtain ⟨σ7, H7, I7, n7⟩ := q7; exact again I7 n7
    | brk => obtain ⟨σ7, H7, I7, q7⟩ := q7; exact ⟨σ7, H7, I7.unpinned, q7⟩
    | ret v => obtain ⟨x7, σ7, H7, I7, r7, q7⟩ := q7; exact ⟨x7, σ7, H7, I7.unpinned, r7, q7⟩
end

/-! ### the forms one uses -/
end L2

namespace L2
open PySem PySem.Spec PyProof.Rows

abbrev R2 := V → V → Hp → VK → Prop
/-- a two-place operation on values: f is binaryOp op, inplaceOp op or compareOp op -/
def OpR (X : Cx) (f : Value → Value → Sem Value) (r : R2) : Prop :=
  ∀ (pins : List (Addr × Obj)) (s : Shared) (σ : St) (H : Hp) (x y : V) (v u : Value) (Q : VK), Inv X pins σ H s → RelV x v → RelV y u → r x y H Q →
    wpAny (model X.prog X.w) X.A (f v u) (EP X pins σ Q) X.xe s
/-- a call of a value that is known (a builtin, a type) with values -/
def CallR (X : Cx) (f : Value) (r : List V → Hp → VK → Prop) : Prop :=
  ∀ (pins : List (Addr × Obj)) (s : Shared) (σ : St) (H : Hp) (xs : List V) (us : List Value) (Q : VK), Inv X pins σ H s → Vals xs us → r xs H Q →
    wpAny (model X.prog X.w) X.A (call f us) (EP X pins σ Q) X.xe s
def tOp (r : R2) (ta tb : TE) : TE := fun σ H Q => ta σ H fun x H1 => tb σ H1 fun y H2 => r x y H2 Q
def tUn (r : V → Hp → VK → Prop) (ta : TE) : TE := fun σ H Q => ta σ H fun x H1 => r x H1 Q
/-- ints in, under C, and a value out -/
def rI (C : Int → Int → Prop) (g : Int → Int → V) : R2 := fun x y H Q => ∃ i j, x = .int i ∧ y = .int j ∧ C i j ∧ Q (g i j) H
def rI0 (g : Int → Int → V) : R2 := fun x y H Q => ∃ i j, x = .int i ∧ y = .int j ∧ Q (g i j) H
def rU (g : Int → V) : V → Hp → VK → Prop := fun x H Q => ∃ i, x = .int i ∧ Q (g i) H

section
variable {X : Cx} {a b c : Expr} {ta tb tc : TE} {pos : Pos}

theorem binT (ha : PE X a ta) (hb : PE X b tb) {pins : List (Addr × Obj)} {s : Shared} {σ : St} {H : Hp} {R : V → V → Hp → Prop} (I : Inv X pins σ H s)
    (h : ta σ H fun x H1 => tb σ H1 fun y H2 => R x y H2) {Q : Value → Shared → Prop} {f : Value → Value → Sem Value}
    (hf : ∀ v u s2 x y H2, Inv X pins σ H2 s2 → RelV x v → RelV y u → R x y H2 → wpAny (model X.prog X.w) X.A (f v u) Q X.xe s2) :
    wpAny (model X.prog X.w) X.A (eval a X.env) (fun v s₁ => wpAny (model X.prog X.w) X.A (eval b X.env) (fun u s₂ => wpAny (model X.prog X.w) X.A (f v u) Q X.xe s₂) X.xe s₁) X.xe s := by
  refine thn (ha pins s σ H _ I h) fun v s1 ⟨x, H1, I1, r1, q1⟩ => ?_
  refine thn (hb pins s1 σ H1 _ I1 q1) fun u s2 ⟨y, H2, I2, r2, q2⟩ => ?_
  exact hf v u s2 x y H2 I2 r1 r2 q2

theorem pe_op {op : Operator} {r : R2} (ho : OpR X (binaryOp op) r) (ha : PE X a ta) (hb : PE X b tb) : PE X (.BinOp a op b pos) (tOp r ta tb) := by
  intro pins s σ H Q I h
  exact wpAny_BinOp (binT ha hb I h fun v u s2 x y H2 I2 rx ry q => ho pins s2 σ H2 x y v u Q I2 rx ry q)
/-! ### ints -/
theorem opI {f : Value → Value → Sem Value} {C : Int → Int → Prop} {g : Int → Int → Int}
    (rule : ∀ (i j : Int) (t u : Tok) (s : Shared) (Q : Value → Shared → Prop) (E : Value → Shared → Prop), C i j → Q (.int (g i j) s.toks) { s with toks := s.toks + 1 } → wpAny (model X.prog X.w) X.A (f (.int i t) (.int j u)) Q E s) :
    OpR X f (rI C fun i j => .int (g i j)) := by
  intro pins s σ H x y v u Q I rx ry h
  obtain ⟨i, j, rfl, rfl, hc, q⟩ := h
  obtain ⟨t, rfl⟩ := rx
  obtain ⟨t', rfl⟩ := ry
  exact rule i j t t' s _ _ hc ⟨.int (g i j), H, I.tok _, ⟨_, rfl⟩, q⟩
theorem opI0 {f : Value → Value → Sem Value} {g : Int → Int → Int}
    (rule : ∀ (i j : Int) (t u : Tok) (s : Shared) (Q : Value → Shared → Prop) (E : Value → Shared → Prop), Q (.int (g i j) s.toks) { s with toks := s.toks + 1 } → wpAny (model X.prog X.w) X.A (f (.int i t) (.int j u)) Q E s) :
    OpR X f (rI0 fun i j => .int (g i j)) := by
  intro pins s σ H x y v u Q I rx ry h
  obtain ⟨i, j, rfl, rfl, q⟩ := h
  obtain ⟨t, rfl⟩ := rx
  obtain ⟨t', rfl⟩ := ry
  exact rule i j t t' s _ _ ⟨.int (g i j), H, I.tok _, ⟨_, rfl⟩, q⟩
theorem opB0 {f : Value → Value → Sem Value} {g : Int → Int → Bool}
    (rule : ∀ (i j : Int) (t u : Tok) (s : Shared) (Q : Value → Shared → Prop) (E : Value → Shared → Prop), Q (.bool (g i j)) s → wpAny (model X.prog X.w) X.A (f (.int i t) (.int j u)) Q E s) :
    OpR X f (rI0 fun i j => .bl (g i j)) := by
  intro pins s σ H x y v u Q I rx ry h
  obtain ⟨i, j, rfl, rfl, q⟩ := h
  obtain ⟨t, rfl⟩ := rx
  obtain ⟨t', rfl⟩ := ry
  exact rule i j t t' s _ _ ⟨.bl (g i j), H, I, rfl, q⟩

def CDiv (i j : Int) : Prop := 0 < j ∧ j < 1073741824
def CPow (i j : Int) : Prop := 0 ≤ j ∧ j ≤ 1000000 ∧ i.natAbs < 2 ^ 64
def CMul (i j : Int) : Prop := (-(2 ^ 64) < i ∧ i < 2 ^ 64) ∨ (-(2 ^ 64) < j ∧ j < 2 ^ 64)
theorem CMul.ok {i j : Int} (h : CMul i j) : IntMulOk i j := by
  rcases h with ⟨h1, h2⟩ | ⟨h1, h2⟩
  · exact .of_left (intBits_le_64 h1 h2)
  · exact .of_right (intBits_le_64 h1 h2)
theorem op_add : OpR X (binaryOp .Add) (rI0 fun i j => .int (i + j)) := opI0 fun _ _ _ _ _ _ _ q => add_int q
theorem op_sub : OpR X (binaryOp .Sub) (rI0 fun i j => .int (i - j)) := opI0 fun _ _ _ _ _ _ _ q => sub_int q
theorem op_mul : OpR X (binaryOp .Mult) (rI CMul fun i j => .int (i * j)) := opI fun _ _ _ _ _ _ _ hc q => mul_int q hc.ok
/-- // by a positive divisor -/
theorem op_fdiv : OpR X (binaryOp .FloorDiv) (rI CDiv fun i j => .int (i / j)) := opI fun i j _ _ _ _ _ hc q => by
  have h1 : (0 : Int) < j := hc.1
  have h2 : j < 1073741824 := hc.2
  exact floordiv_int (by omega) (by rw [Int.fdiv_eq_ediv_of_nonneg i (by omega)]; exact q) (.inl (PyProof.noPylong_small (by omega)))
/-- % by a positive divisor of any size -/
theorem op_mod : OpR X (binaryOp .Mod) (rI (fun _ j => 0 < j) fun i j => .int (i % j)) := opI fun i j _ _ _ _ _ hc q => by
  have h1 : (0 : Int) < j := hc
  exact mod_int' (by omega) (by rw [Int.fmod_eq_emod_of_nonneg i (by omega)]; exact q)
theorem op_pow : OpR X (binaryOp .Pow) (rI CPow fun i j => .int (i ^ j.toNat)) := opI fun _ _ _ _ _ _ _ hc q => pow_int_small hc.1 hc.2.1 hc.2.2 q
/-! ### bools among ints: n += (a < b) -/
end

/-! ### comparisons -/
/-- the scalars that == tells apart as data does -/
def scal : V → V → Bool
  | .non, .non => true | .non, .int _ => true | .int _, .non => true | .non, .bl _ => true | .bl _, .non => true | .non, .str _ => true | .str _, .non => true
  | .int _, .int _ => true | .bl _, .bl _ => true | .str _, .str _ => true | .byt _, .byt _ => true
  | .int _, .str _ => true | .str _, .int _ => true | .bl _, .str _ => true | .str _, .bl _ => true
  | _, _ => false
def rEq : R2 := fun x y H Q => scal x y = true ∧ Q (.bl (decide (x = y))) H
def rNe : R2 := fun x y H Q => scal x y = true ∧ Q (.bl (!decide (x = y))) H

theorem dec_int {i j : Int} : decide (V.int i = V.int j) = (i == j) := by
  rw [Bool.eq_iff_iff]
  simp
theorem dec_bl {i j : Bool} : decide (V.bl i = V.bl j) = (i == j) := by
  rw [Bool.eq_iff_iff]
  simp
theorem dec_str {i j : Str} : decide (V.str i = V.str j) = (i == j) := by
  rw [Bool.eq_iff_iff]
  simp
theorem dec_byt {i j : Array UInt8} : decide (V.byt i = V.byt j) = (i.toList == j.toList) := by
  rw [Bool.eq_iff_iff]
  cases i
  cases j
  simp

section
variable {X : Cx} {a b c : Expr} {ta tb tc : TE} {pos : Pos}
theorem fin_bl {pins : List (Addr × Obj)} {σ : St} {H : Hp} {s : Shared} {Q : VK} {k k' : Bool} (I : Inv X pins σ H s) (q : Q (.bl k) H) (e : k = k') : EP X pins σ Q (.bool k') s := by
  subst e
  exact ⟨.bl k, H, I, rfl, q⟩
theorem op_eq : OpR X (compareOp .Eq) rEq := by
  intro pins s σ H x y v u Q I rx ry h
  obtain ⟨hs, q⟩ := h
  cases x with
  | non =>
    cases rx
    cases y with
    | non => cases ry; exact PySem.EqNone.eq_none_none (fin_bl I q (by simp))
    | bl j => cases ry; exact PySem.EqNone.eq_none_bool (fin_bl I q (by simp))
    | int j => obtain ⟨t', rfl⟩ := ry; exact PySem.EqNone.eq_none_int (fin_bl I q (by simp))
    | str j => obtain ⟨t', rfl⟩ := ry; exact PySem.EqNone.eq_none_str (fin_bl I q (by simp))
    | _ => exact absurd (show false = true from hs) Bool.false_ne_true
  | bl i =>
    cases rx
    cases y with
    | non => cases ry; exact PySem.EqNone.eq_bool_none (fin_bl I q (by simp))
    | bl j => cases ry; exact eq_bool (fin_bl I q dec_bl)
    | str j => obtain ⟨t', rfl⟩ := ry; exact PySem.EqMixed.eq_bool_str (fin_bl I q (by simp))
    | _ => exact absurd (show false = true from hs) Bool.false_ne_true
  | int i =>
    obtain ⟨t, rfl⟩ := rx
    cases y with
    | non => cases ry; exact PySem.EqNone.eq_int_none (fin_bl I q (by simp))
    | int j => obtain ⟨t', rfl⟩ := ry; exact eq_int (fin_bl I q dec_int)
    | str j => obtain ⟨t', rfl⟩ := ry; exact PySem.EqMixed.eq_int_str (fin_bl I q (by simp))
    | _ => exact absurd (show false = true from hs) Bool.false_ne_true
  | str i =>
    obtain ⟨t, rfl⟩ := rx
    cases y with
    | non => cases ry; exact PySem.EqNone.eq_str_none (fin_bl I q (by simp))
    | bl j => cases ry; exact PySem.EqMixed.eq_str_bool (fin_bl I q (by simp))
    | int j => obtain ⟨t', rfl⟩ := ry; exact PySem.EqMixed.eq_str_int (fin_bl I q (by simp))
    | str j => obtain ⟨t', rfl⟩ := ry; exact eq_str (fin_bl I q dec_str)
    | _ => exact absurd (show false = true from hs) Bool.false_ne_true
  | byt i =>
    obtain ⟨t, rfl⟩ := rx
    cases y with
    | byt j => obtain ⟨t', rfl⟩ := ry; exact PySem.W.eq_bytes (fin_bl I q dec_byt)
    | _ => exact absurd (show false = true from hs) Bool.false_ne_true
  | _ => cases y <;> exact absurd (show false = true from hs) Bool.false_ne_true
theorem op_ne : OpR X (compareOp .NotEq) rNe := by
  intro pins s σ H x y v u Q I rx ry h
  obtain ⟨hs, q⟩ := h
  cases x with
  | non =>
    cases rx
    cases y with
    | non => cases ry; exact PySem.EqNone.ne_none_none (fin_bl I q (by simp))
    | bl j => cases ry; exact PySem.EqNone.ne_none_bool (fin_bl I q (by simp))
    | int j => obtain ⟨t', rfl⟩ := ry; exact PySem.EqNone.ne_none_int (fin_bl I q (by simp))
    | str j => obtain ⟨t', rfl⟩ := ry; exact PySem.EqNone.ne_none_str (fin_bl I q (by simp))
    | _ => exact absurd (show false = true from hs) Bool.false_ne_true
  | bl i =>
    cases rx
    cases y with
    | non => cases ry; exact PySem.EqNone.ne_bool_none (fin_bl I q (by simp))
    | bl j => cases ry; exact ne_bool (fin_bl I q (congrArg not dec_bl))
    | str j => obtain ⟨t', rfl⟩ := ry; exact PySem.EqMixed.ne_bool_str (fin_bl I q (by simp))
    | _ => exact absurd (show false = true from hs) Bool.false_ne_true
  | int i =>
    obtain ⟨t, rfl⟩ := rx
    cases y with
    | non => cases ry; exact PySem.EqNone.ne_int_none (fin_bl I q (by simp))
    | int j => obtain ⟨t', rfl⟩ := ry; exact ne_int (fin_bl I q (congrArg not dec_int))
    | str j => obtain ⟨t', rfl⟩ := ry; exact PySem.EqMixed.ne_int_str (fin_bl I q (by simp))
    | _ => exact absurd (show false = true from hs) Bool.false_ne_true
  | str i =>
    obtain ⟨t, rfl⟩ := rx
    cases y with
    | non => cases ry; exact PySem.EqNone.ne_str_none (fin_bl I q (by simp))
    | bl j => cases ry; exact PySem.EqMixed.ne_str_bool (fin_bl I q (by simp))
    | int j => obtain ⟨t', rfl⟩ := ry; exact PySem.EqMixed.ne_str_int (fin_bl I q (by simp))
    | str j => obtain ⟨t', rfl⟩ := ry; exact ne_str (fin_bl I q (congrArg not dec_str))
    | _ => exact absurd (show false = true from hs) Bool.false_ne_true
  | byt i =>
    obtain ⟨t, rfl⟩ := rx
    cases y with
    | byt j => obtain ⟨t', rfl⟩ := ry; exact PySem.W.ne_bytes (fin_bl I q (congrArg not dec_byt))
    | _ => exact absurd (show false = true from hs) Bool.false_ne_true
  | _ => cases y <;> exact absurd (show false = true from hs) Bool.false_ne_true

theorem op_lt : OpR X (compareOp .Lt) (rI0 fun i j => .bl (decide (i < j))) := opB0 fun _ _ _ _ _ _ _ q => lt_int q
theorem op_gt : OpR X (compareOp .Gt) (rI0 fun i j => .bl (decide (j < i))) := opB0 fun _ _ _ _ _ _ _ q => gt_int q
theorem op_ge : OpR X (compareOp .GtE) (rI0 fun i j => .bl (decide (j ≤ i))) := opB0 fun _ _ _ _ _ _ _ q => ge_int q
/-- two rules for one operation: by cases -/
theorem OpR.or {f : Value → Value → Sem Value} {r r' : R2} (h : OpR X f r) (h' : OpR X f r') : OpR X f (fun x y H Q => r x y H Q ∨ r' x y H Q) := by
  intro pins s σ H x y v u Q I rx ry q
  rcases q with q | q
  · exact h pins s σ H x y v u Q I rx ry q
  · exact h' pins s σ H x y v u Q I rx ry q

theorem nomark (b : Expr) {op : CmpOp} (h : op ≠ .In := by decide) (h2 : op ≠ .NotIn := by decide) : behindInMarks op b = false := by
  have e1 : (op == CmpOp.In) = false := by cases op <;> first | rfl | exact absurd rfl h
  have e2 : (op == CmpOp.NotIn) = false := by cases op <;> first | rfl | exact absurd rfl h2
  cases b <;> simp [behindInMarks, e1, e2]
/-- a comparison as a value; hm: nomark b, or (for in, not in) by with_unfolding_all rfl -/
theorem pe_cmpR {op : CmpOp} {r : R2} (ho : OpR X (compareOp op) r) (ha : PE X a ta) (hb : PE X b tb) (hm : behindInMarks op b = false) : PE X (.Compare a [op] [b] pos) (tOp r ta tb) := by
  intro pins s σ H Q I h
  exact wpAny_Compare1 (binT ha hb I h fun v u s2 x y H2 I2 rx ry q => ho pins s2 σ H2 x y v u Q I2 rx ry q) hm
/-- a reading of a value as a test -/
def tTest (t : TE) : TT := fun σ H Q => t σ H fun x H' => ∃ k, x = .bl k ∧ Q k H'
theorem pt_cmpR {op : CmpOp} {r : R2} (ho : OpR X (compareOp op) r) (ha : PE X a ta) (hb : PE X b tb) (hm : behindInMarks op b = false) : PT X (.Compare a [op] [b] pos) (tTest (tOp r ta tb)) := by
  intro pins s σ H Q I h
  refine wpAny_isTrue_Compare1 (thn (ha pins s σ H _ I h) fun v s1 ⟨x, H1, I1, r1, q1⟩ => thn (hb pins s1 σ H1 _ I1 q1) fun u s2 ⟨y, H2, I2, r2, q2⟩ =>
    thn (ho pins s2 σ H2 x y v u _ I2 r1 r2 q2) fun c s3 ⟨z, H3, I3, r3, k, e, q3⟩ => ?_) hm
  subst e
  cases r3
  exact wpAny_truthy_bool ⟨H3, I3, q3⟩
/-- a op1 b op2 c -/
def tChain (r r' : R2) (ta tb tc : TE) : TE := fun σ H Q => ta σ H fun x H1 => tb σ H1 fun y H2 => r x y H2 fun z H3 => ∃ k, z = .bl k ∧
  (if k = true then tc σ H3 fun w' H4 => r' y w' H4 Q else Q (.bl false) H3)
/-! ### truth -/
/-- a value's truth by the abstract heap -/
def TruV (K : PySem.W.Frag) (x : V) (H : Hp) (k : Bool) : Prop :=
  match x with
  | .non => k = false
  | .bl b => k = b
  | .int i => k = (i != 0)
  | .str y => y.length ≤ sizeLine ∧ k = ((y.length : Int) != 0)
  | .byt y => y.size ≤ sizeLine ∧ k = ((y.size : Int) != 0)
  | .ref p => (∃ xs, SqL K H p xs ∧ k = !xs.isEmpty) ∨ (∃ xs, SqT K H p xs ∧ k = !xs.isEmpty) ∨ ∃ kvs, H p = some (.dK kvs) ∧ k = !kvs.isEmpty
  | _ => False
theorem line63 : (sizeLine : Nat) < 2 ^ 63 := by rw [sizeLine_eq]; decide
/-! ### strs and bytes -/
theorem op_add_str : OpR X (binaryOp .Add) (fun x y H Q => ∃ i j, x = .str i ∧ y = .str j ∧ i.length + j.length ≤ sizeLine ∧ Q (.str (i ++ j)) H) := by
  intro pins s σ H x y v u Q I rx ry h
  obtain ⟨i, j, rfl, rfl, hz, q⟩ := h
  obtain ⟨t, rfl⟩ := rx
  obtain ⟨t', rfl⟩ := ry
  exact add_str (fun t' tk => ⟨.str (i ++ j), H, I.tok _, ⟨_, rfl⟩, q⟩) hz
/-! ### scalar builtins, by CallR -/
theorem vals1 {x : V} {us : List Value} (r : Vals [x] us) : ∃ u, us = [u] ∧ RelV x u := by
  cases r with
  | cons r1 r2 => cases r2; exact ⟨_, rfl, r1⟩
theorem vals2 {x y : V} {us : List Value} (r : Vals [x, y] us) : ∃ u w', us = [u, w'] ∧ RelV x u ∧ RelV y w' := by
  cases r with
  | cons r1 r2 =>
    cases r2 with
    | cons r3 r4 => cases r4; exact ⟨_, _, rfl, r1, r3⟩
theorem call_min2 (hc : X.calm = true) : CallR X (.builtin "min") (fun xs H Q => ∃ i j, xs = [.int i, .int j] ∧ Q (.int (if j < i then j else i)) H) := by
  intro pins s σ H xs us Q I r h
  obtain ⟨i, j, rfl, q⟩ := h
  obtain ⟨u, w', rfl, ⟨t, rfl⟩, ⟨t', rfl⟩⟩ := vals2 r
  refine min_two_ints (I.ok.hd hc) fun h' tk k => ⟨_, H, I.kept k, ?_, q⟩
  by_cases hj : j < i
  · rw [if_pos hj, if_pos hj]; exact ⟨_, rfl⟩
  · rw [if_neg hj, if_neg hj]; exact ⟨_, rfl⟩
theorem call_int1 : CallR X (.type "int") (fun xs H Q => (∃ i, xs = [.int i] ∧ Q (.int i) H) ∨ ∃ k, xs = [.bl k] ∧ Q (.int (if k then 1 else 0)) H) := by
  intro pins s σ H xs us Q I r h
  rcases h with ⟨i, rfl, q⟩ | ⟨k, rfl, q⟩
  · obtain ⟨u, rfl, t, rfl⟩ := vals1 r
    exact call_int_int ⟨.int i, H, I, ⟨_, rfl⟩, q⟩
  · obtain ⟨u, rfl, r1⟩ := vals1 r
    cases r1
    exact call_int_bool ⟨.int (if k then 1 else 0), H, I.tok _, ⟨_, rfl⟩, q⟩
theorem call_str_int : CallR X (.type "str") (fun xs H Q => ∃ i, xs = [.int i] ∧ i.natAbs.log2 < 1920 ∧ Q (.str (toString i)) H) := by
  intro pins s σ H xs us Q I r h
  obtain ⟨i, rfl, hz, q⟩ := h
  obtain ⟨u, rfl, t, rfl⟩ := vals1 r
  exact PySem.P.str_of_int hz ⟨.str _, H, I.tok _, ⟨_, rfl⟩, q⟩
end
end L2

namespace L2
open PySem PySem.Spec PyProof.Rows

/-! ### an instance, its attributes a map -/
structure ObjM (h : Heap) (x dx C : Addr) (mA : Str → Option Value) : Prop where
  obj : h.get? x = some (PySem.W.instObj C dx)
  ns : h.Ns1 dx mA
  ne : dx ≠ x

theorem lookIn_ns {h : Heap} {dx : Addr} {mA : Str → Option Value} (n : h.Ns1 dx mA) : ∃ od, h.get? dx = some od ∧ ∀ name, PySem.W.lookIn name od = some (mA name) := by
  obtain ⟨o, es, ep, ho, hd, hk, _, hm⟩ := n
  refine ⟨o, ho, fun name => ?_⟩
  have e := hm name
  unfold nsFind findBy at e
  rw [← Array.find?_toList] at e
  unfold PySem.W.lookIn
  rw [hd]
  dsimp only
  split
  · rename_i y q
    rw [q] at e
    exact congrArg some e
  · rename_i q
    rw [q] at e
    have a : es.toList.any (·.refKey) = false := by
      rw [List.any_eq_false]
      intro y hy
      obtain ⟨z, t, hkey⟩ := hk y (Array.mem_toList_iff.mp hy)
      simp [DictEntry.refKey, hkey]
    have a' : ¬ es.toList.any (·.refKey) = true := by rw [a]; exact Bool.false_ne_true
    rw [if_neg a']
    exact congrArg some e

theorem ObjM.look {h : Heap} {x dx C : Addr} {mA : Str → Option Value} (I : ObjM h x dx C mA) : ∃ od, PySem.W.InstAt h x (PySem.W.instObj C dx) C (some od) ∧ ∀ name, PySem.W.lookIn name od = some (mA name) :=
  let ⟨od, ho, hl⟩ := lookIn_ns I.ns
  ⟨od, ⟨I.obj, rfl, rfl, ho⟩, hl⟩

section
variable {prog : Program} {w : World} {A : Around} {E : Value → Shared → Prop} {s : Shared} {K : PySem.W.Frag} {x dx C f : Addr} {mA : Str → Option Value} {name : Str} {v : Value}

theorem get_map {expr : Bool} {Q : Value → Shared → Prop} (X : K.In s.heap) (I : ObjM s.heap x dx C mA) (hg : PySem.W.plainGet K C name = true) (hh : PySem.W.hasDictIn K C = true)
    (ha : PySem.W.findIn K (.ref C) name = some none) (hv : mA name = some v) (hv' : PySem.W.handedIn v = true) (h : Q v { s with toks := s.toks + 1 }) :
    wpAny (model prog w) A (getAttr (.ref x) name expr) Q E s := by
  obtain ⟨od, J, hl⟩ := I.look
  exact PySem.W.get_value X J (PySem.W.plainGet_of hg).1 (PySem.W.findObj_own hh ha rfl (by rw [hl, hv])) hv' h

theorem set_map {ns : List Str} {Q : Unit → Shared → Prop} (X : K.In s.heap) (I : ObjM s.heap x dx C mA)
    (hs : PySem.W.findIn K (.ref C) "__setattr__" = some (some (.builtin "object.__setattr__"))) (hp : PySem.W.plainOver K C = true) (ht : PySem.W.takerIn K C name = some none) (hh : PySem.W.hasDictIn K C = true)
    (hw : PySem.Within mA ns) (hsz : ns.length ≤ sizeLine)
    (h : ∀ h', ObjM h' x dx C (fun y => if y = name then some v else mA y) → Heap.SameBut dx s.heap h' → Q () { s with heap := h', toks := s.toks + 2 }) :
    wpAny (model prog w) A (setAttr (.ref x) name v) Q E s := by
  obtain ⟨od, J, hl⟩ := I.look
  refine PySem.W.set_plain X J hs (PySem.W.osa_open (s := { s with toks := s.toks + 1 }) (r := none) X J hp ht fun b => ?_)
  obtain ⟨cd, hc, hd'⟩ := PySem.W.any_some hh
  have hx : s.heap.get? x = some ⟨.ref C, some dx, .plain, #[]⟩ := I.obj
  refine wpAny_bind (wpAny_pure (wpAny_bind (wpAny_bind (wpAny_loadPart hx (wpAny_bind (PySem.W.Looks.here (s := { s with toks := s.toks + 1 }) (PySem.W.looks_clsIn X hc) ?_))))))
  rw [hd']
  refine wpAny_pure (a := some dx) (wpAny_bind (wpAny_pure (wpAny_bind ?_)))
  refine wpAny_nsSet1 (s := { s with toks := s.toks + 1 }) I.ns fun h' hn2 hs2 => ?_
  obtain ⟨oD, esD, epD, hoD, hdD, hcD⟩ := hn2.count (PySem.Within.cons name v hw)
  refine wpAny_bind (wpAny_lookBehind hoD (by rw [hdD]; exact pastItsLine_dict (Nat.le_trans hcD (by rw [List.length_cons]; omega))) ?_)
  exact wpAny_pure (h _ ⟨(hs2.2 _ (Ne.symm I.ne)).trans I.obj, hn2, I.ne⟩ hs2)

/-- C(..): the dict at the heap's end, the instance behind it; then its __init__ -/
theorem make_map {R : Result → Shared → Prop} {vs : List Value} {kw : List (Str × Value)} (X : K.In s.heap) (hm : PySem.W.makesIn K C = true)
    (hi : PySem.W.findIn K (.ref C) "__init__" = some (some (.ref f))) (hf : PySem.W.typeIn K (.ref f) = some (.type "function"))
    (h : codeAny (model prog w) (A.under (.builtin "type.__call__" ⟨.ref C :: vs, kw⟩)) (.call (.ref f) ⟨.ref (s.heap.objs.size + 1) :: vs, kw⟩) (PySem.W.InitBack (s.heap.objs.size + 1) R)
      { s with heap := (s.heap.push PySem.W.emptyDict).push (PySem.W.instObj C s.heap.objs.size) }) :
    codeAny (model prog w) A (.call (.ref C) ⟨vs, kw⟩) R s := by
  obtain ⟨hh, g, d, t, os⟩ := s
  exact PySem.W.make_core (PySem.W.makes_of X hm) (PySem.W.looks_findIn X hi) (fun self => PySem.W.bind_fn X self hf) (.inl rfl) h
end

/-! ### the attributes as a list of pairs -/
def putF (f : Str) (v : V) : List (Str × V) → List (Str × V)
  | [] => [(f, v)]
  | (g, x) :: r => if g = f then (g, v) :: r else (g, x) :: putF f v r
theorem lookup_putF (f g : Str) (v : V) : ∀ fs : List (Str × V), (putF f v fs).lookup g = if g = f then some v else fs.lookup g
  | [] => by
    show List.lookup g [(f, v)] = _
    by_cases h : g = f
    · have hb : (g == f) = true := beq_iff_eq.mpr h
      simp only [List.lookup, hb, if_pos h]
    · have hb : (g == f) = false := beq_eq_false_iff_ne.mpr h
      simp only [List.lookup, hb, if_neg h]
  | (k, x) :: r => by
    have ih := lookup_putF f g v r
    rw [show putF f v ((k, x) :: r) = (if k = f then (k, v) :: r else (k, x) :: putF f v r) from rfl]
    by_cases hk : k = f
    · rw [if_pos hk]
      by_cases h : g = k
      · have hb : (g == k) = true := beq_iff_eq.mpr h
        simp only [List.lookup, hb, if_pos (h.trans hk)]
      · have hb : (g == k) = false := beq_eq_false_iff_ne.mpr h
        simp only [List.lookup, hb, if_neg (fun e : g = f => h (e.trans hk.symm))]
    · rw [if_neg hk]
      by_cases h : g = k
      · have hb : (g == k) = true := beq_iff_eq.mpr h
        simp only [List.lookup, hb, if_neg (fun e : g = f => hk (h.symm.trans e))]
      · have hb : (g == k) = false := beq_eq_false_iff_ne.mpr h
        simp only [List.lookup, hb]
        exact ih
theorem keys_putF (f : Str) (v : V) : ∀ fs : List (Str × V), f ∈ (putF f v fs).map (·.1) ∧ ∀ g, g ∈ fs.map (·.1) → g ∈ (putF f v fs).map (·.1)
  | [] => ⟨by simp [putF], fun g h => by simp at h⟩
  | (k, x) :: r => by
    obtain ⟨i1, i2⟩ := keys_putF f v r
    rw [show putF f v ((k, x) :: r) = (if k = f then (k, v) :: r else (k, x) :: putF f v r) from rfl]
    by_cases hk : k = f
    · rw [if_pos hk]
      subst hk
      exact ⟨by simp, fun g h => by simpa using h⟩
    · rw [if_neg hk]
      refine ⟨?_, fun g h => ?_⟩
      · rw [List.map_cons]
        exact List.mem_cons_of_mem _ i1
      · rw [List.map_cons] at h ⊢
        rcases List.mem_cons.mp h with e | e
        · exact List.mem_cons.mpr (.inl e)
        · exact List.mem_cons_of_mem _ (i2 g e)
theorem length_putF (f : Str) (v : V) : ∀ fs : List (Str × V), (putF f v fs).length ≤ fs.length + 1
  | [] => by simp [putF]
  | (k, x) :: r => by
    have ih := length_putF f v r
    rw [show putF f v ((k, x) :: r) = (if k = f then (k, v) :: r else (k, x) :: putF f v r) from rfl]
    by_cases hk : k = f
    · rw [if_pos hk, List.length_cons, List.length_cons]; omega
    · rw [if_neg hk, List.length_cons, List.length_cons]; omega

theorem RelO.some_of {v : V} {o : Option Value} (r : RelO (some v) o) : ∃ u, o = some u ∧ RelV v u := by
  cases o with
  | none => exact (show False from r).elim
  | some u => exact ⟨u, rfl, r⟩
theorem handed_of {v : V} {u : Value} (r : RelV v u) : PySem.W.handedIn u = true := by
  cases v with
  | non => cases (show u = Value.none from r); rfl
  | bl b => cases (show u = Value.bool b from r); rfl
  | int i => obtain ⟨t, e⟩ := (show ∃ t, u = Value.int i t from r); cases e; rfl
  | str x => obtain ⟨t, e⟩ := (show ∃ t, u = Value.str x t from r); cases e; rfl
  | byt b => obtain ⟨t, e⟩ := (show ∃ t, u = Value.bytes b t from r); cases e; rfl
  | flt b => obtain ⟨t, e⟩ := (show ∃ t, u = Value.float b t from r); cases e; rfl
  | ref a => cases (show u = Value.ref a from r); rfl
  | ty n => cases (show u = Value.type n from r); rfl

section
variable {P : Program} {w : World} {H H' : Hp} {h h' : Heap} {a C dx : Addr} {fs fs' : List (Str × V)}
theorem ins_get (hok : HOk P w H h) (e : H a = some (.ins C dx fs)) : ∃ mA, ObjM h a dx C mA ∧ (∀ f, RelO (fs.lookup f) (mA f)) ∧ PySem.Within mA (fs.map (·.1)) ∧ fs.length ≤ 1000 ∧ H dx = some (.own a) := by
  obtain ⟨d, z, ne, ob, mA, n, r, q⟩ := (show ObjOk P w H h a (.ins C dx fs) from hok a _ e)
  exact ⟨mA, ⟨ob, n, ne⟩, r, q, z, d⟩
end

/-! ### what of the text a class must have -/
structure Cls (K : PySem.W.Frag) (C : Addr) : Prop where
  pg : PySem.W.plainGet K C Str.empty = true
  hd : PySem.W.hasDictIn K C = true
  po : PySem.W.plainOver K C = true
  sa : PySem.W.findIn K (.ref C) "__setattr__" = some (some (.builtin "object.__setattr__"))
theorem Cls.get {K : PySem.W.Frag} {C : Addr} (c : Cls K C) (f : Str) : PySem.W.plainGet K C f = true := c.pg
/-- no class of it has the name -/
def NoAttr (K : PySem.W.Frag) (C : Addr) (f : Str) : Prop := PySem.W.findIn K (.ref C) f = some none
theorem NoAttr.taker {K : PySem.W.Frag} {C : Addr} {f : Str} (n : NoAttr K C f) : PySem.W.takerIn K C f = some none := by
  unfold PySem.W.takerIn
  rw [show PySem.W.findIn K (.ref C) f = some none from n]
  rfl
section
variable {X : Cx} {pins : List (Addr × Obj)} {σ : St} {H : Hp} {s : Shared} {a C dx : Addr} {fs : List (Str × V)} {f : Str} {v : V} {A : Around} {E : Value → Shared → Prop}

theorem getattr_ok {b : Bool} {Q : Value → Shared → Prop} (I : Inv X pins σ H s) (e : H a = some (.ins C dx fs)) (c : Cls X.K C) (n : NoAttr X.K C f) (l : fs.lookup f = some v)
    (h : ∀ u s', Inv X pins σ H s' → RelV v u → Q u s') : wpAny (model X.prog X.w) A (getAttr (.ref a) f b) Q E s := by
  obtain ⟨mA, O, r, _, _, _⟩ := ins_get I.hok e
  obtain ⟨u, hu, ru⟩ := RelO.some_of (v := v) (o := mA f) (by rw [← l]; exact r f)
  exact get_map I.kIn O (c.get f) c.hd n hu (handed_of ru) (h u _ (I.tok _) ru)

theorem setattr_ok {y : V} {u : Value} {Q : Unit → Shared → Prop} (I : Inv X pins σ H s) (e : H a = some (.ins C dx fs)) (c : Cls X.K C) (n : NoAttr X.K C f) (hl : fs.length < 1000) (ry : RelV y u)
    (h : ∀ s', Inv X pins σ (upd H a (.ins C dx (putF f y fs))) s' → Q () s') : wpAny (model X.prog X.w) A (setAttr (.ref a) f u) Q E s := by
  obtain ⟨mA, O, r, wi, _, ho⟩ := ins_get I.hok e
  have hz : (fs.map (·.1)).length ≤ sizeLine := by rw [List.length_map, sizeLine_eq]; omega
  refine set_map I.kIn O c.sa c.po n.taker c.hd wi hz fun h' O' sb => h _ ?_
  have hd : ∃ o, h'.get? dx = some o := let ⟨o, _, _, e', _⟩ := O'.ns; ⟨o, e'⟩
  refine I.write (x := a) (e := dx) (by rw [e]; exact True.intro) (.inr ho) (fun b q hb z => (sb.2 b hb).trans z) hd ?_
  refine ⟨by rw [upd_ne O.ne]; exact ho, ?_, O.ne, O'.obj, _, O'.ns, fun g => ?_, fun g hg => ?_⟩
  · have := length_putF f y fs; omega
  · show RelO ((putF f y fs).lookup g) (if g = f then some u else mA g)
    rw [lookup_putF]
    by_cases q : g = f
    · rw [if_pos q, if_pos q]; exact ry
    · rw [if_neg q, if_neg q]; exact r g
  · by_cases q : g = f
    · rw [q]; exact (keys_putF f y fs).1
    · refine (keys_putF f y fs).2 g (wi g fun z => hg ?_)
      show (if g = f then some u else mA g) = none
      rw [if_neg q]; exact z

/-- a new instance, tracked, without attributes -/
theorem Inv.made (I : Inv X pins σ H s) : Inv X pins σ (upd (upd H s.heap.objs.size (.own (s.heap.objs.size + 1))) (s.heap.objs.size + 1) (.ins C s.heap.objs.size []))
    { s with heap := (s.heap.push PySem.W.emptyDict).push (PySem.W.instObj C s.heap.objs.size) } := by
  have e1 : (s.heap.push PySem.W.emptyDict).get? s.heap.objs.size = some PySem.W.emptyDict := Heap.get?_push_size s.heap rfl
  have e2 : ((s.heap.push PySem.W.emptyDict).push (PySem.W.instObj C s.heap.objs.size)).get? (s.heap.objs.size + 1) = some (PySem.W.instObj C s.heap.objs.size) := by
    have := Heap.get?_push_size (s.heap.push PySem.W.emptyDict) (o := PySem.W.instObj C s.heap.objs.size) rfl
    rwa [Heap.size_push] at this
  have e3 : (s.heap.push PySem.W.emptyDict).Ns s.heap.objs.size (fun _ => none) := ⟨PySem.W.emptyDict, #[], _, e1, rfl, (fun e he => absurd he (by simp)), fun _ => rfl⟩
  have I1 := I.laid (a := s.heap.objs.size) (o := .own (s.heap.objs.size + 1)) (h' := s.heap.push PySem.W.emptyDict) (t' := s.toks) (fun b u q => Heap.get?_push_of_some _ q) (Nat.le_refl _) ⟨_, e1⟩
  refine I1.laid (a := s.heap.objs.size + 1) (o := .ins C s.heap.objs.size []) (t' := s.toks) (fun b u q => Heap.get?_push_of_some _ q) (Nat.le_of_eq (Heap.size_push _ _)) ?_
  have ne : s.heap.objs.size ≠ s.heap.objs.size + 1 := Nat.ne_of_lt (Nat.lt_succ_self _)
  refine ⟨by rw [upd_ne ne, upd_same], Nat.zero_le _, ne, e2, fun _ => none, (Heap.Ns1.of_empty e3).at fun o q => Heap.get?_push_of_some _ q, fun _ => True.intro, fun y hy => absurd rfl hy⟩

/-- e.f where nothing but the object is asked: through attributeBase (super) and the last hold -/
theorem attr_of {prog : Program} {w : World} {env : Env} {e : Expr} {f : Str} {pos : Pos} {s : Shared} {Q : Value → Shared → Prop} (hb : attributeBase e f env (eval e env) = eval e env)
    (h : wpAny (model prog w) A (eval e env) (fun o s₁ => wpAny (model prog w) A (getAttr o f true) Q E s₁) E s) : wpAny (model prog w) A (eval (.Attribute e f pos) env) Q E s :=
  Attribute_any_ h (by rw [arm_eval_Attribute, hb])
end

/-! ### readings and rules -/
/-- e.f, an attribute of the instance -/
def tFld (K : PySem.W.Frag) (ta : TE) (f : Str) : TE := fun σ H Q => ta σ H fun x H1 => ∃ a C dx fs v, x = .ref a ∧ H1 a = some (.ins C dx fs) ∧ Cls K C ∧ NoAttr K C f ∧ fs.lookup f = some v ∧ Q v H1
/-- e.f = value -/
def sFld (K : PySem.W.Frag) (ta tv : TE) (f : Str) : TS := fun D σ H => tv σ H fun y H1 => ta σ H1 fun x H2 => ∃ a C dx fs, x = .ref a ∧ H2 a = some (.ins C dx fs) ∧ Cls K C ∧ NoAttr K C f ∧ fs.length < 1000 ∧
  D.nx σ (upd H2 a (.ins C dx (putF f y fs)))
section
variable {X : Cx} {o e value : Expr} {f : Str} {pos pos' tpos : Pos} {ta tv : TE}
theorem pe_fld (he : PE X e ta) (hb : attributeBase e f X.env (eval e X.env) = eval e X.env) : PE X (.Attribute e f pos) (tFld X.K ta f) := by
  intro pins s σ H Q I h
  refine attr_of hb (thn (he pins s σ H _ I h) fun u s1 ⟨x, H1, I1, rx, a, C, dx, fs, v, ex, ea, c, n, l, q⟩ => ?_)
  subst ex
  obtain rfl : u = Value.ref a := rx
  exact getattr_ok I1 ea c n l fun u' s2 I2 ru => ⟨v, H1, I2, ru, q⟩
theorem ps_fld (ha : PE X o ta) (hv : PE X value tv) (hs : swapsWith value (some (.Attribute o f pos')) pos.line X.env = pure false) : PS X (.Assign [.Attribute o f pos'] value pos) (sFld X.K ta tv f) := by
  intro pins s σ H D I h
  refine plainObj_wpAny_Assign_Attribute (thn (hv pins s σ H _ I h) fun u s1 ⟨y, H1, I1, ry, q⟩ => thn (ha pins s1 σ H1 _ I1 q) fun ov s2 ⟨x, H2, I2, rx, a, C, dx, fs, ex, ea, c, n, l, q2⟩ => ?_) hs
  subst ex
  obtain rfl : ov = Value.ref a := rx
  exact setattr_ok I2 ea c n l ry fun s3 I3 => ⟨σ, _, I3, q2⟩
end

/-! ### isinstance -/
section
variable {X : Cx} {pins : List (Addr × Obj)} {σ : St} {H : Hp} {s : Shared} {A : Around} {E : Value → Shared → Prop} {Q : Value → Shared → Prop} {c : Value} {b : Bool}
/-- the type of a value, as the fragment's deciders take it; for an instance its class -/
inductive TyOf (K : PySem.W.Frag) (H : Hp) : V → Value → Prop where
  | non : TyOf K H .non (.type "NoneType")
  | bl (x : Bool) : TyOf K H (.bl x) (.type "bool")
  | int (i : Int) : TyOf K H (.int i) (.type "int")
  | str (x : Str) : TyOf K H (.str x) (.type "str")
  | flt (x : UInt64) : TyOf K H (.flt x) (.type "float")
  | lst {a : Addr} {xs : List V} (e : H a = some (.lst xs)) : TyOf K H (.ref a) (.type "list")
  | frz {a : Addr} {o : Obj} {xs : List V} (e : H a = some (.frz o (.lst xs))) : TyOf K H (.ref a) (.type "list")
  | tup {a : Addr} {xs : List V} (e : H a = some (.tup xs)) : TyOf K H (.ref a) (.type "tuple")
  | dK {a : Addr} {kvs : List (Key × V)} (e : H a = some (.dK kvs)) : TyOf K H (.ref a) (.type "dict")
  | dT {a : Addr} {kvs : List (List Key × V)} (e : H a = some (.dT kvs)) : TyOf K H (.ref a) (.type "dict")
  | ins {a C dx : Addr} {fs : List (Str × V)} (e : H a = some (.ins C dx fs)) (cl : Cls K C) (ha : PySem.W.findIn K (.ref C) "__class__" = some (some (.builtin "object.__class__")))
      (hn : PySem.W.specialIn K (.builtin "object.__class__") "__get__" = some (some (.builtin "getset_descriptor.__get__"))) (htk : PySem.W.takesIn K (.builtin "object.__class__") = some true)
      (hm : PySem.W.mroIn K C (.type "object") = some true) : TyOf K H (.ref a) (.ref C)
/-- isinstance(x, c) for one class c, a built-in or an own one: kitOne's answer -/
theorem isinst_ok {x : V} {u t : Value} (I : Inv X pins σ H s) (rx : RelV x u) (ty : TyOf X.K H x t) (e : PySem.W.kitOne X.K t c = some b) (h : ∀ tk, Q (.bool b) { s with toks := tk }) :
    wpAny (model X.prog X.w) A (call (.builtin "isinstance") [u, c]) Q E s := by
  cases ty with
  | non => cases (show u = Value.none from rx); exact PySem.W.kia_one PySem.W.kitx_none I.kIn True.intro e (fun z => nomatch z) h
  | bl y => cases (show u = Value.bool y from rx); exact PySem.W.kia_one PySem.W.kitx_bool I.kIn True.intro e (fun z => nomatch z) h
  | int i => obtain ⟨t, q⟩ := (show ∃ t, u = Value.int i t from rx); cases q; exact PySem.W.kia_one PySem.W.kitx_int I.kIn True.intro e (fun z => nomatch z) h
  | str y => obtain ⟨t, q⟩ := (show ∃ t, u = Value.str y t from rx); cases q; exact PySem.W.kia_one PySem.W.kitx_str I.kIn True.intro e (fun z => nomatch z) h
  | flt y => obtain ⟨t, q⟩ := (show ∃ t, u = Value.float y t from rx); cases q; exact PySem.W.kia_one PySem.W.kitx_float I.kIn True.intro e (fun z => nomatch z) h
  | @lst a xs ea =>
    cases (show u = Value.ref a from rx)
    obtain ⟨_, _, n, _, h1⟩ := (show ObjOk X.prog X.w H s.heap a (.lst xs) from I.hok a _ ea)
    exact PySem.W.kia_one PySem.W.kitx_list I.kIn ⟨_, h1, rfl⟩ e (fun z => nomatch z) h
  | @frz a ob xs ea =>
    cases (show u = Value.ref a from rx)
    obtain ⟨_, _, _, n, _, h1⟩ := (show ObjOk X.prog X.w H s.heap a (.frz ob (.lst xs)) from I.hok a _ ea)
    exact PySem.W.kia_one PySem.W.kitx_list I.kIn ⟨_, h1, rfl⟩ e (fun z => nomatch z) h
  | @tup a xs ea =>
    cases (show u = Value.ref a from rx)
    obtain ⟨_, _, _, p⟩ := (show ObjOk X.prog X.w H s.heap a (.tup xs) from I.hok a _ ea)
    obtain ⟨o, h1, h2, _⟩ := p
    exact PySem.W.kia_one PySem.W.kitx_tuple I.kIn ⟨o, h1, h2⟩ e (fun z => nomatch z) h
  | @dK a kvs ea =>
    cases (show u = Value.ref a from rx)
    obtain ⟨_, _, vs, _, p⟩ := (show ObjOk X.prog X.w H s.heap a (.dK kvs) from I.hok a _ ea)
    obtain ⟨o, es, ep, h1, h2, _⟩ := p
    exact PySem.W.kia_one PySem.W.kitx_dict I.kIn ⟨o, h1, h2.1⟩ e (fun z => nomatch z) h
  | @dT a kvs ea =>
    cases (show u = Value.ref a from rx)
    obtain ⟨_, _, xs, _, o, es, ep, h1, h2, _⟩ := (show ObjOk X.prog X.w H s.heap a (.dT kvs) from I.hok a _ ea)
    exact PySem.W.kia_one PySem.W.kitx_dict I.kIn ⟨o, h1, h2.1⟩ e (fun z => nomatch z) h
  | @ins a C dx fs ea cl ha hn htk hm =>
    cases (show u = Value.ref a from rx)
    obtain ⟨mA, O, _⟩ := ins_get I.hok ea
    obtain ⟨od, J, _⟩ := O.look
    exact PySem.W.kia_one (PySem.W.kitx_own (cl.get _) cl.hd ha hn htk hm) I.kIn J e (fun z => nomatch z) h
end
end L2

namespace L2
open PySem PySem.Spec PyProof.Rows

/-! ### room -/
structure Room (k : Nat) (A : Around) : Prop where
  hd : A.handled = none
  dp : A.depth + 3 * k + 5 < recursionLimit
  un : A.units + 16 * k + 200 < cLine
  gd : A.guards = some []
theorem Room.mono {j k : Nat} {A : Around} (r : Room k A) (h : j ≤ k) : Room j A := ⟨r.hd, by have := r.dp; omega, by have := r.un; omega, r.gd⟩
theorem Room.deeper {k : Nat} {A : Around} (r : Room (k + 1) A) (env : Env) : Room k (A.deeper env) :=
  ⟨r.hd, by have := r.dp; show A.depth + 1 + 3 * k + 5 < _; omega, by have := r.un; show A.units + 3 + 16 * k + 200 < _; omega, r.gd⟩
theorem Room.in1 {k : Nat} {A : Around} (r : Room (k + 1) A) : Room k A.in1 :=
  ⟨r.hd, by have := r.dp; show A.depth + 3 * k + 5 < _; omega, by have := r.un; show A.units + 1 + 16 * k + 200 < _; omega, r.gd⟩
theorem make_depth {A : Around} {C : Addr} {us : List Value} {kw : List (Str × Value)} : (A.under (.builtin "type.__call__" ⟨.ref C :: us, kw⟩)).depth = A.depth + 1 := by
  first | rfl | simp [Around.under, Code.weight, Code.isCreation, Code.isGuard, Code.isCaller, Code.frames, Code.isFrame, guardIds]
theorem make_units {A : Around} {C : Addr} {us : List Value} {kw : List (Str × Value)} : (A.under (.builtin "type.__call__" ⟨.ref C :: us, kw⟩)).units = A.units + 1 := by
  first | rfl | simp [Around.under, Code.cUnits, Code.frames, Code.isFrame]
theorem Room.make {k : Nat} {A : Around} (r : Room (k + 1) A) (C : Addr) (us : List Value) (kw : List (Str × Value)) : Room k (A.under (.builtin "type.__call__" ⟨.ref C :: us, kw⟩)) :=
  ⟨r.hd, by have := r.dp; rw [make_depth]; omega, by have := r.un; rw [make_units]; omega, by first | exact r.gd | (simpa [Around.under, Code.isGuard, guardIds, pushGuard] using r.gd) | (have := r.gd; simp [Around.under, Code.isGuard, guardIds]; exact this)⟩
theorem Room.depth {k : Nat} {A : Around} (r : Room k A) : A.depth < recursionLimit := by have := r.dp; omega
theorem Room.units {k : Nat} {A : Around} (r : Room k A) : A.units + 64 < cLine := by have := r.un; omega
theorem Room.units0 {k : Nat} {A : Around} (r : Room k A) : A.units < cLine := by have := r.un; omega

/-! ### argument lists and displays -/
def tNil : TA := fun _ H Q => Q [] H
def tCons (ta : TE) (tr : TA) : TA := fun σ H Q => ta σ H fun x H1 => tr σ H1 fun xs H2 => Q (x :: xs) H2
section
variable {X : Cx} {e : Expr} {es : List Expr} {te : TE} {t : TA} {pos : Pos}
theorem pa_nil : PA X [] tNil := fun _ _ _ _ H Q I h => Calls.spliced_nil ⟨[], H, I, .nil, h⟩
theorem pa_cons (ha : PE X e te) (hr : PA X es t) (hs : starEach (e :: es) X.env = (false, eval e X.env) :: starEach es X.env := by rfl) : PA X (e :: es) (tCons te t) := by
  intro pos pins s σ H Q I h
  rw [hs]
  show wpAny _ _ (spliced ((false, eval e X.env) :: backTo pos (starEach es X.env))) _ _ s
  refine Calls.spliced_cons (thn (ha pins s σ H _ I h) fun u s1 ⟨x, H1, I1, r1, q1⟩ => ?_)
  exact thn (hr pos pins s1 σ H1 _ I1 q1) fun us s2 ⟨xs, H2, I2, r2, q2⟩ => ⟨x :: xs, H2, I2, .cons r1 r2, q2⟩

/-- a tuple, a list of written items -/
def tTup (t : TA) : TE := fun σ H Q => t σ H fun xs H1 => xs.length ≤ sizeLine ∧ ∀ p, H1 p = none → Q (.ref p) (upd H1 p (.tup xs))
def tLst (t : TA) : TE := fun σ H Q => t σ H fun xs H1 => xs.length ≤ sizeLine ∧ ∀ p, H1 p = none → Q (.ref p) (upd H1 p (.lst xs))
theorem pe_tup {x1} (h : PA X es t) : PE X (.Tuple es x1 pos) (tTup t) := by
  intro pins s σ H Q I hq
  refine wpAny_Tuple_spliced (thn (h pos pins s σ H _ I hq) fun us s1 ⟨xs, H1, I1, r, z, q⟩ => ⟨by rw [← r.length]; exact z, ?_⟩)
  have hf : H1 s1.heap.objs.size = none := I1.hok.fresh (Nat.le_refl _)
  refine ⟨.ref s1.heap.objs.size, upd H1 s1.heap.objs.size (.tup xs), I1.laid (t' := s1.toks) (fun b u e => Heap.get?_push_of_some _ e) (Nat.le_refl _) ?_, rfl, q _ hf⟩
  exact ⟨z, us, r, ⟨_, Heap.get?_push_size _ rfl, rfl, _, rfl⟩⟩
theorem pe_lst (h : PA X es t) : PE X (.List es pos) (tLst t) := by
  intro pins s σ H Q I hq
  refine wpAny_List_spliced (thn (h pos pins s σ H _ I hq) fun us s1 ⟨xs, H1, I1, r, z, q⟩ => ⟨by rw [← r.length]; exact z, ?_⟩)
  have hf : H1 s1.heap.objs.size = none := I1.hok.fresh (Nat.le_refl _)
  refine ⟨.ref s1.heap.objs.size, upd H1 s1.heap.objs.size (.lst xs), I1.laid (t' := s1.toks) (fun b u e => Heap.get?_push_of_some _ e) (Nat.le_refl _) ?_, rfl, q _ hf⟩
  exact ⟨z, us, 0, r, Heap.get?_push_size _ rfl⟩
end

/-! ### what a def promises -/
/-- a def's promise: the bound arguments in the parameters' order, the heap, the wanted end, the wanted exception -/
abbrev Sp := List V → Hp → VK → XK → Prop
/-- how an exception lies behind a call (file 08 gives it): the callers' frames, abstract heap and state ahead of the call, the wish, the exception, the state -/
abbrev CXT := List Env → Hp → Shared → XK → Value → Shared → Prop

/-- the state at a call -/
structure Env0 (P : Program) (w : World) (K : PySem.W.Frag) (mg : Str → Option Value) (base : Heap) (A : Around) (outer : List Env) (s : Shared) (H : Hp) : Prop where
  frames : A.frames = some outer
  mod : Mod K mg base
  bs : ∀ b o, base.get? b = some o → s.heap.get? b = some o ∧ H b = none
  bsz : base.objs.size ≤ s.heap.objs.size
  funs : s.heap.FunFrames base outer
  frf : ∀ b ∈ frs outer, H b = none
  hok : HOk P w H s.heap
  bare : AllBare s.gens
/-- a call's end -/
def CE (outer : List Env) (P : Program) (w : World) (H : Hp) (s : Shared) (Q : VK) (u : Value) (s' : Shared) : Prop :=
  ∃ v H', s'.os = s.os ∧ AllBare s'.gens ∧ Un (frs outer) [] H H' s.heap s'.heap ∧ HOk P w H' s'.heap ∧ RelV v u ∧ Q v H'
def CR (CX : CXT) (outer : List Env) (P : Program) (w : World) (H : Hp) (s : Shared) (Q : VK) (E : XK) (r : Result) (s' : Shared) : Prop :=
  match r with
  | .ok (.ret u) => CE outer P w H s Q u s'
  | .ok _ => False
  | .error e => CX outer H s E e s'
structure FnOk (P : Program) (w : World) (K : PySem.W.Frag) (mg : Str → Option Value) (base : Heap) (CX : CXT) (k : Nat) (f : Addr) (fd : FuncData) (ps : List Str) (sp : Sp) : Prop where
  len : ∀ vs H Q E, sp vs H Q E → vs.length = ps.length
  run : ∀ (A : Around) (outer : List Env) (s : Shared) (H : Hp) (args : Args) (us : List Value) (vs : List V) (Q : VK) (E : XK), Room k A → Env0 P w K mg base A outer s H → BindsTo s fd args (ps.zip us) → Vals vs us → sp vs H Q E →
    codeAny (model P w) A (.call (.ref f) args) (CR CX outer P w H s Q E) s
theorem FnOk.mono {P : Program} {w : World} {K : PySem.W.Frag} {mg : Str → Option Value} {base : Heap} {CX : CXT} {j k : Nat} {f : Addr} {fd : FuncData} {ps : List Str} {sp : Sp} (F : FnOk P w K mg base CX j f fd ps sp) (h : j ≤ k) :
    FnOk P w K mg base CX k f fd ps sp := ⟨F.len, fun A outer s H args us vs Q E hr => F.run A outer s H args us vs Q E (hr.mono h)⟩
/-- a weaker promise -/
theorem FnOk.imp {P : Program} {w : World} {K : PySem.W.Frag} {mg : Str → Option Value} {base : Heap} {CX : CXT} {k : Nat} {f : Addr} {fd : FuncData} {ps : List Str} {sp sp' : Sp} (F : FnOk P w K mg base CX k f fd ps sp)
    (h : ∀ vs H Q E, sp' vs H Q E → sp vs H Q E) : FnOk P w K mg base CX k f fd ps sp' :=
  ⟨fun vs H Q E q => F.len vs H Q E (h _ _ _ _ q), fun A outer s H args us vs Q E hr he hb hv hs => F.run A outer s H args us vs Q E hr he hb hv (h _ _ _ _ hs)⟩

theorem Env0.make {P : Program} {w : World} {K : PySem.W.Frag} {mg : Str → Option Value} {base : Heap} {A : Around} {outer : List Env} {s : Shared} {H : Hp} (e : Env0 P w K mg base A outer s H) (C : Addr) (us : List Value) (kw : List (Str × Value)) :
    Env0 P w K mg base (A.under (.builtin "type.__call__" ⟨.ref C :: us, kw⟩)) outer s H := ⟨by first | exact e.frames | (simpa [Around.under, Code.envs, Code.isFrame, pushEnvs] using e.frames), e.mod, e.bs, e.bsz, e.funs, e.frf, e.hok, e.bare⟩
theorem Env0.in1 {P : Program} {w : World} {K : PySem.W.Frag} {mg : Str → Option Value} {base : Heap} {A : Around} {outer : List Env} {s : Shared} {H : Hp} (e : Env0 P w K mg base A outer s H) :
    Env0 P w K mg base A.in1 outer s H := ⟨e.frames, e.mod, e.bs, e.bsz, e.funs, e.frf, e.hok, e.bare⟩

section
variable {X : Cx} {pins : List (Addr × Obj)} {σ : St} {H : Hp} {s s' : Shared}
/-- from a body: what a callee wants -/
theorem Inv.env0 (I : Inv X pins σ H s) : Env0 X.prog X.w X.K X.mg X.base X.A X.stack s H :=
  ⟨I.ok.frames, I.ok.mod, I.bs, Nat.le_trans I.ok.bsz I.sz, I.stack, I.stkFree, I.hok, I.bare⟩
/-- behind a call -/
theorem Inv.after {Q : VK} {u : Value} (I : Inv X pins σ H s) (h : CE X.stack X.prog X.w H s Q u s') : EP X pins σ Q u s' := by
  obtain ⟨v, H', os, bare, un, hok, r, q⟩ := h
  obtain ⟨hh, g, d, t, os'⟩ := s'
  obtain rfl : os' = s.os := os
  exact ⟨v, H', I.call (h' := hh) (g' := g) (d' := d) (t' := t) (ch := []) un hok bare (fun b z => absurd z (by simp)), r, q⟩
end

/-! ### calls -/
/-- f(..): the written arguments, then the defaults dvs; E: what is wanted of an exception -/
def tCall (sp : Sp) (dvs : List V) (E : XK) (t : TA) : TE := fun σ H Q => t σ H fun vs H1 => sp (vs ++ dvs) H1 Q E
/-- o.m(..) of an instance of the class at C -/
def tMeth (C : Addr) (m : Str) (sp : Sp) (dvs : List V) (E : XK) (ta : TE) (t : TA) : TE := fun σ H Q => ta σ H fun x H1 => ∃ a dx fs, x = .ref a ∧ H1 a = some (.ins C dx fs) ∧ fs.lookup m = none ∧
  t σ H1 fun vs H2 => sp (x :: (vs ++ dvs)) H2 Q E
/-- C(..): a new instance and its dict, then __init__ -/
def tMake (C : Addr) (sp : Sp) (dvs : List V) (E : XK) (t : TA) : TE := fun σ H Q => t σ H fun vs H1 => ∀ x dx, H1 x = none → H1 dx = none → dx ≠ x →
  sp (.ref x :: (vs ++ dvs)) (upd (upd H1 dx (.own x)) x (.ins C dx [])) (fun v H2 => v = .non ∧ Q (.ref x) H2) E

/-- how the parameters are bound: us the positional arguments, kw the keywords' values by name, ds the defaults that fill up -/
def Binds (K : PySem.W.Frag) (fd : FuncData) (ps : List Str) (ds : List Value) : Prop :=
  ∀ (s : Shared) (us : List Value), K.In s.heap → (us ++ ds).length = ps.length → BindsTo s fd ⟨us, []⟩ (ps.zip (us ++ ds))
/-- every parameter is given -/
theorem Binds.all {K : PySem.W.Frag} {fd : FuncData} {ps : List Str} (h : ∀ us : List Value, us.length = ps.length → bindArgs fd ⟨us, []⟩ = pure (ps.zip us)) : Binds K fd ps [] := fun s us _ hl => by
  rw [List.append_nil] at hl ⊢
  exact .of_eq (h us hl)

/-- an exception of a callee reaches what this body wants of exceptions -/
def Passes (CX : CXT) (X : Cx) (E : XK) : Prop := ∀ (pins : List (Addr × Obj)) (σ : St) (H : Hp) (s : Shared) (e : Value) (s' : Shared), Inv X pins σ H s → CX X.stack H s E e s' → X.xe e s'

section
variable {X : Cx} {CX : CXT} {k : Nat} {f C : Addr} {fd : FuncData} {ps : List Str} {sp : Sp} {dvs : List V} {ds : List Value} {E : XK} {x m : Str} {p pos apos : Pos} {e o : Expr} {es : List Expr} {ta : TE} {t : TA}

/-- the callee runs -/
theorem run_fn {pins : List (Addr × Obj)} {σ : St} {H : Hp} {s : Shared} {Q : VK} {us : List Value} {vs : List V} (F : FnOk X.prog X.w X.K X.mg X.base CX k f fd ps sp) (hr : Room k X.A) (hb : Binds X.K fd ps ds) (hd : Vals dvs ds) (hx : Passes CX X E)
    (I : Inv X pins σ H s) (r : Vals vs us) (h : sp (vs ++ dvs) H Q E) : wpAny (model X.prog X.w) X.A (call (.ref f) us) (EP X pins σ Q) X.xe s := by
  have r2 : Vals (vs ++ dvs) (us ++ ds) := r.append hd
  have hl : (us ++ ds).length = ps.length := by rw [← r2.length]; exact F.len _ _ _ _ h
  refine wpAny_call (codeAny_mono (F.run X.A X.stack s H ⟨us, []⟩ (us ++ ds) (vs ++ dvs) Q E hr I.env0 (hb s us I.kIn hl) r2 h) fun r s' hq => ?_)
  cases r with
  | error e => exact hx pins σ H s e s' I hq
  | ok fl =>
    cases fl with
    | ret u => exact I.after hq
    | next => exact False.elim hq
    | brk => exact False.elim hq
    | cont => exact False.elim hq

theorem pe_call (F : FnOk X.prog X.w X.K X.mg X.base CX k f fd ps sp) (hr : Room k X.A) (hg : Gl X x) (hm : X.mg x = some (.ref f)) (hk : PySem.W.keepIn X.K (.ref f) = true) (hb : Binds X.K fd ps ds) (hd : Vals dvs ds) (hx : Passes CX X E)
    (ha : PA X (e :: es) t) (hdb : (x == ("__debug__" : Str)) = false := by decide) (he : starEach (e :: es) X.env = (false, eval e X.env) :: starEach es X.env := by rfl) (hpl : (backTo pos (starEach es X.env)).any (·.1) = false := by rfl) :
    PE X (.Call (.Name x p) (e :: es) [] pos) (tCall sp dvs E t) := by
  intro pins s σ H Q I h
  refine wpAny_Call_Name_kw (ld_glob I hg hm ?_ hdb)
  refine PySem.W.callWith_K (h₀ := X.base) I.ok.mod.kin hk (thn (ha pos pins s σ H _ I h) fun us s1 ⟨vs, H1, I1, r, q⟩ => ⟨I1.kIn, ?_⟩) he hpl
  exact run_fn F hr hb hd hx I1 r q
/-- what a class must have to be made -/
structure Mk (K : PySem.W.Frag) (C f : Addr) : Prop where
  makes : PySem.W.makesIn K C = true
  init : PySem.W.findIn K (.ref C) "__init__" = some (some (.ref f))
  fn : PySem.W.isFn K (.ref f) = true
  kp : PySem.W.keepIn K (.ref C) = true

end

/-! ### keywords -/
/-- the values of the keywords, from the left -/
def PK (X : Cx) (kws : List Keyword) (t : TA) : Prop :=
  ∀ (pos : Pos) (pins : List (Addr × Obj)) (s : Shared) (σ : St) (H : Hp) (Q : List V → Hp → Prop), Inv X pins σ H s → t σ H Q → wpAny (model X.prog X.w) X.A (evalAll ((backToKw pos (keywordEach kws X.env)).map (·.2))) (AP X pins σ Q) X.xe s
section
variable {X : Cx} {CX : CXT} {k : Nat} {f C : Addr} {fd : FuncData} {ps ks : List Str} {sp : Sp} {E : XK} {x m : Str} {p pos apos kpos : Pos} {e o : Expr} {es : List Expr} {kws : List Keyword} {te ta : TE} {t tk : TA} {nm : Option Str}
theorem pk_nil : PK X [] tNil := fun _ _ _ _ H Q I h => wpAny_evalAll_nil ⟨[], H, I, .nil, h⟩
theorem pk_cons (ha : PE X e te) (hr : PK X kws t) : PK X (⟨nm, e, kpos⟩ :: kws) (tCons te t) := by
  intro pos pins s σ H Q I h
  show wpAny _ _ (evalAll ((do let v ← eval e X.env; standAt pos; pure v) :: (backToKw pos (keywordEach kws X.env)).map (·.2))) _ _ s
  refine wpAny_evalAll_cons (wpAny_bind (thn (ha pins s σ H _ I h) fun u s1 ⟨x, H1, I1, r1, q1⟩ => wpAny_bind (wpAny_standAt (wpAny_pure ?_))))
  exact thn (hr pos pins s1 σ H1 _ I1 q1) fun us s2 ⟨xs, H2, I2, r2, q2⟩ => ⟨x :: xs, H2, I2, .cons r1 r2, q2⟩

/-- how a call with keywords binds: g puts the positional values us and the keywords' values ws (names ks) in the parameters' order, defaults among them -/
structure KBinds (K : PySem.W.Frag) (fd : FuncData) (ps ks : List Str) (g : List Value → List Value → List Value) (gV : List V → List V → List V) : Prop where
  to : ∀ (s : Shared) (us ws : List Value), K.In s.heap → (g us ws).length = ps.length → BindsTo s fd ⟨us, ks.zip ws⟩ (ps.zip (g us ws))
  rel : ∀ {vs : List V} {us : List Value} {zs : List V} {ws : List Value}, Vals vs us → Vals zs ws → Vals (gV vs zs) (g us ws)
def tCallK (sp : Sp) (gV : List V → List V → List V) (E : XK) (t tk : TA) : TE := fun σ H Q => t σ H fun vs H1 => tk σ H1 fun zs H2 => sp (gV vs zs) H2 Q E
variable {g : List Value → List Value → List Value} {gV : List V → List V → List V}
theorem run_fnk {pins : List (Addr × Obj)} {σ : St} {H : Hp} {s : Shared} {Q : VK} {us ws : List Value} {vs zs : List V} (F : FnOk X.prog X.w X.K X.mg X.base CX k f fd ps sp) (hr : Room k X.A) (hb : KBinds X.K fd ps ks g gV) (hx : Passes CX X E)
    (I : Inv X pins σ H s) (r : Vals vs us) (rz : Vals zs ws) (h : sp (gV vs zs) H Q E) : wpAny (model X.prog X.w) X.A (call (.ref f) us (ks.zip ws)) (EP X pins σ Q) X.xe s := by
  have r2 := hb.rel r rz
  have hl : (g us ws).length = ps.length := by rw [← r2.length]; exact F.len _ _ _ _ h
  refine wpAny_call (codeAny_mono (F.run X.A X.stack s H ⟨us, ks.zip ws⟩ (g us ws) (gV vs zs) Q E hr I.env0 (hb.to s us ws I.kIn hl) r2 h) fun r s' hq => ?_)
  cases r with
  | error e => exact hx pins σ H s e s' I hq
  | ok fl =>
    cases fl with
    | ret u => exact I.after hq
    | next => exact False.elim hq
    | brk => exact False.elim hq
    | cont => exact False.elim hq
/-- f(e, .., k = v, ..) -/
theorem pe_callK (F : FnOk X.prog X.w X.K X.mg X.base CX k f fd ps sp) (hr : Room k X.A) (hg : Gl X x) (hm : X.mg x = some (.ref f)) (hk : PySem.W.keepIn X.K (.ref f) = true) (hb : KBinds X.K fd ps ks g gV) (hx : Passes CX X E)
    (ha : PA X (e :: es) t) (hkw : PK X kws tk) (hall : (backToKw pos (keywordEach kws X.env)).all (·.1.isSome) = true := by rfl) (hks : (backToKw pos (keywordEach kws X.env)).filterMap (·.1) = ks := by rfl)
    (hdb : (x == ("__debug__" : Str)) = false := by decide) (he : starEach (e :: es) X.env = (false, eval e X.env) :: starEach es X.env := by rfl)
    (hpl : ((backTo pos (starEach (e :: es) X.env)).any (·.1) || (backToKw pos (keywordEach kws X.env)).any (·.1.isNone)) = false := by rfl) :
    PE X (.Call (.Name x p) (e :: es) kws pos) (tCallK sp gV E t tk) := by
  intro pins s σ H Q I h
  refine wpAny_Call_Name_kw (ld_glob I hg hm ?_ hdb)
  refine PySem.W.callWith_KW (h₀ := X.base) I.ok.mod.kin hk hall (thn (ha pos pins s σ H _ I h) fun us s1 ⟨vs, H1, I1, r, q⟩ => ?_) hpl he
  refine thn (hkw pos pins s1 σ H1 _ I1 q) fun ws s2 ⟨zs, H2, I2, rz, q2⟩ => ⟨I2.kIn, ?_⟩
  rw [hks]
  exact run_fnk F hr hb hx I2 r rz q2
end

/-! ### a def's body keeps its promise -/
/-- names: the parameters first -/
structure FnScope (N P : List Str) (sc : Scope) : Prop where
  kind : sc.kind = .function
  co : sc.isCoroutine = false
  gen : sc.isGenerator = false
  nd : N.Nodup
  pre : N.take P.length = P
  par : ∀ x ∈ P, sc.names.lookup x = some .local ∨ sc.names.lookup x = some .cell
  nofree : ∀ y ∈ sc.names, y.2 ≠ .free

theorem bindL_out {kindOf : Str → Option NameKind} {x : Str} : ∀ {binds : List (Str × Value)} {m : Str → Option Value}, (∀ v, (x, v) ∉ binds) → bindL kindOf binds m x = m x
  | [], _, _ => rfl
  | (n, v) :: r, m, h => by
    unfold bindL
    rw [bindL_out fun w hw => h w (List.mem_cons_of_mem _ hw)]
    split
    · have : x ≠ n := by rintro rfl; exact h v List.mem_cons_self
      simp [this]
    · rfl
theorem bindC_out {kindOf : Str → Option NameKind} {x : Str} : ∀ {binds : List (Str × Value)} {m : Str → Option Value}, (∀ v, (x, v) ∉ binds) → bindC kindOf binds m x = m x
  | [], _, _ => rfl
  | (n, v) :: r, m, h => by
    unfold bindC
    rw [bindC_out fun w hw => h w (List.mem_cons_of_mem _ hw)]
    split
    · rfl
    · have : x ≠ n := by rintro rfl; exact h v List.mem_cons_self
      simp [this]
theorem bindL_get {kindOf : Str → Option NameKind} {x : Str} {v : Value} : ∀ {P : List Str} {vs : List Value} {i : Nat} {m : Str → Option Value}, P.Nodup → P[i]? = some x → vs[i]? = some v → kindOf x = some .local →
    bindL kindOf (P.zip vs) m x = some v
  | [], _, _, _, _, h, _, _ => by simp at h
  | _ :: _, [], _, _, _, _, h, _ => by simp at h
  | p :: P, w :: vs, 0, m, nd, h1, h2, hk => by
    simp at h1 h2; subst h1; subst h2
    show bindL kindOf ((p, w) :: P.zip vs) m p = _
    unfold bindL
    rw [bindL_out fun v hv => (List.nodup_cons.mp nd).1 (List.of_mem_zip hv).1, if_pos hk]
    simp
  | p :: P, w :: vs, i + 1, m, nd, h1, h2, hk => by
    show bindL kindOf ((p, w) :: P.zip vs) m x = _
    unfold bindL
    exact bindL_get (i := i) (List.nodup_cons.mp nd).2 (by simpa using h1) (by simpa using h2) hk
theorem bindC_get {kindOf : Str → Option NameKind} {x : Str} {v : Value} : ∀ {P : List Str} {vs : List Value} {i : Nat} {m : Str → Option Value}, P.Nodup → P[i]? = some x → vs[i]? = some v → kindOf x ≠ some .local →
    bindC kindOf (P.zip vs) m x = some v
  | [], _, _, _, _, h, _, _ => by simp at h
  | _ :: _, [], _, _, _, _, h, _ => by simp at h
  | p :: P, w :: vs, 0, m, nd, h1, h2, hk => by
    simp at h1 h2; subst h1; subst h2
    show bindC kindOf ((p, w) :: P.zip vs) m p = _
    unfold bindC
    rw [bindC_out fun v hv => (List.nodup_cons.mp nd).1 (List.of_mem_zip hv).1, if_neg hk]
    simp
  | p :: P, w :: vs, i + 1, m, nd, h1, h2, hk => by
    show bindC kindOf ((p, w) :: P.zip vs) m x = _
    unfold bindC
    exact bindC_get (i := i) (List.nodup_cons.mp nd).2 (by simpa using h1) (by simpa using h2) hk

/-- the names' values at the entry -/
def start (N : List Str) (vs : List V) : St := vs.map some ++ List.replicate (N.length - vs.length) none

/-- the context of a def's body, at its entry; an exception leaves the frame, then lies as CX says -/
def cxOf (CX : CXT) (P : Program) (w : World) (K : PySem.W.Frag) (mg : Str → Option Value) (base : Heap) (N : List Str) (qual : Str) (scope : Scope) (f : Addr) (cd : Value) (A : Around) (outer : List Env) (s : Shared) (H : Hp) (E : XK) : Cx where
  prog := P
  w := w
  K := K
  mg := mg
  base := base
  A := A.deeper (envOfC qual scope s.heap.objs.size f cd)
  N := N
  s_0 := s
  H_0 := H
  env := envOfC qual scope s.heap.objs.size f cd
  outer := outer
  stack := envOfC qual scope s.heap.objs.size f cd :: outer
  ex := []
  calm := true
  fn := fun _ => true
  pn := []
  xe := fun e s' => wpAny (model P w) (A.deeper (envOfC qual scope s.heap.objs.size f cd)) (leaving (envOfC qual scope s.heap.objs.size f cd) e) (fun _ s'' => CX outer H s E e s'') (fun e' s'' => CX outer H s E e' s'') s'

theorem cell_has {sc : Scope} {n : Nat} {x : Str} (h : sc.names.lookup x = some .cell) : ∃ c, (cellsFrom n sc.names []).lookup x = some c := by
  have q := PySem.W.cellsFrom_some sc.names n [] (.inl h)
  exact Option.isSome_iff_exists.mp q

theorem inv_start {CX : CXT} {P : Program} {w : World} {K : PySem.W.Frag} {mg : Str → Option Value} {base : Heap} {N ps : List Str} {qual : Str} {scope : Scope} {f : Addr} {cd : Value} {A : Around} {outer : List Env} {s s1 : Shared} {H : Hp} {E : XK} {us : List Value} {vs : List V}
    (S : FnScope N ps scope) (hd : A.handled = none) (e0 : Env0 P w K mg base A outer s H) (hl : vs.length = ps.length) (r : Vals vs us)
    (x : InCallC s s.heap.objs.size (bindL (envOfC qual scope s.heap.objs.size f cd).kindOf (ps.zip us) fun _ => none) (cellsFrom (s.heap.objs.size + 1) scope.names []) (bindC (envOfC qual scope s.heap.objs.size f cd).kindOf (ps.zip us) fun _ => none) s1) :
    Inv (cxOf CX P w K mg base N qual scope f cd A outer s H E) [] (start N vs) H s1 := by
  have hpl : ps.length ≤ N.length := by have := congrArg List.length S.pre; rw [List.length_take] at this; omega
  obtain ⟨h1, tk, rfl, hk⟩ := x.done
  have noA : ∀ b : Addr, b ∉ (cxOf CX P w K mg base N qual scope f cd A outer s H E).ex := fun b z => absurd (show b ∈ ([] : List Addr) from z) (by simp)
  refine ⟨⟨e0.mod, S.kind, rfl, rfl, Nat.le_refl _, fun y z c h1 h2 => ?_, fun y hy => ?_, fun y c _ h => ?_, fun _ => hd, Around.frames_deeper e0.frames, .inr ⟨rfl, rfl⟩, fun b z => absurd z (noA b), e0.bs, e0.bsz, fun b _ _ => noA b, fun b z => absurd z (noA b), e0.funs, e0.frf⟩,
    rfl, e0.bare, Un.kept hk, ⟨_, x.toInCall.ns, fun i y v h1 h2 h3 => ?_⟩, fun y c h => ⟨_, x.cell y c h⟩, e0.hok.fresh (Nat.le_refl _), fun y c h => ?_, fun p hp => absurd (show p ∈ ([] : List (Addr × Obj)) from hp) (by simp), e0.hok.kept hk, ?_⟩
  · exact name_of_addr x.apart (PySem.mem_of_lookup h1) (PySem.mem_of_lookup h2)
  · have hy : scope.names.lookup y = some .cell ∨ scope.names.lookup y = some .free := hy
    rcases hy with hy | hy
    · exact cell_has hy
    · exact absurd rfl (S.nofree _ (PySem.mem_of_lookup hy))
  · exact Nat.le_of_lt (x.above y c (PySem.mem_of_lookup h))
  · have hi : i < vs.length := by
      unfold start at h2
      by_cases hi : i < vs.length
      · exact hi
      · rw [List.getElem?_append_right (by simpa using hi)] at h2
        rw [List.getElem?_replicate] at h2
        split at h2 <;> cases h2
    have ha : vs[i]? = some v := by
      unfold start at h2
      rw [List.getElem?_append_left (by simpa using hi), List.getElem?_map] at h2
      cases e : vs[i]? with
      | none => rw [e] at h2; cases h2
      | some a => rw [e] at h2; cases h2; rfl
    obtain ⟨u, hu, rv⟩ := r.get ha
    have hp : ps[i]? = some y := by
      rw [← S.pre, List.getElem?_take_of_lt (by omega)]; exact h1
    have ndP : ps.Nodup := by rw [← S.pre]; exact S.nd.sublist (List.take_sublist _ _)
    refine ⟨u, rv, ?_⟩
    rcases S.par y (List.mem_of_getElem? hp) with k | k
    · exact .inl ⟨k, bindL_get ndP hp hu k⟩
    · obtain ⟨c, e⟩ := cell_has (n := s.heap.objs.size + 1) k
      refine .inr ⟨.inl k, c, e, ?_⟩
      have q := x.cell y c e
      rw [bindC_get ndP hp hu (by show scope.names.lookup y ≠ _; rw [k]; decide)] at q
      exact q
  · exact e0.hok.fresh (Nat.le_of_lt (x.above y c (PySem.mem_of_lookup h)))
  · unfold start
    show _ = N.length
    rw [List.length_append, List.length_map, List.length_replicate]
    omega

/-- THE RULE: a def (or a method) of the text, by its body. The body's reading t is chosen for each entry; it is run at the parameters' values -/
theorem fn_of {CX : CXT} {P : Program} {w : World} {K : PySem.W.Frag} {mg : Str → Option Value} {base : Heap} {k : Nat} {f : Addr} {name qual : Str} {params : Arguments} {body : List Stmt} {scope : Scope} {dV kV doc pm cdv ct oc : Value} {an od : Option Addr}
    {osl : Array (Option Value)} {N ps : List Str} {sp : Sp} (lk : K.lookup f = some ⟨oc, od, .func (PySem.W.fnOf name qual params body scope dV kV doc pm an cdv ct), osl⟩) (hcd : PySem.W.codeIn K cdv qual = true) (S : FnScope N ps scope)
    (len : ∀ vs H Q E, sp vs H Q E → vs.length = ps.length)
    (hbody : ∀ (A : Around) (outer : List Env) (s : Shared) (H : Hp) (vs : List V) (Q : VK) (E : XK), Room k (A.deeper (envOfC qual scope s.heap.objs.size f cdv)) → sp vs H Q E →
      ∃ t, PSs (cxOf CX P w K mg base N qual scope f cdv A outer s H E) body t ∧ t { nx := fun _ H' => Q .non H', rt := Q } (start N vs) H) :
    FnOk P w K mg base CX (k + 1) f (PySem.W.fnOf name qual params body scope dV kV doc pm an cdv ct) ps sp := by
  refine ⟨len, fun A outer s H args us vs Q E hr e0 hb r hsp => ?_⟩
  have hl := len _ _ _ _ hsp
  have KX : K.In s.heap := e0.mod.kin.keeps fun b o e => (e0.bs b o e).1
  have lim : s.heap.NoLimit := e0.mod.nolimit.keeps fun b o e => (e0.bs b o e).1
  have hkind : ∀ y ∈ ps.zip us, scope.names.lookup y.1 = some .local ∨ (scope.names.lookup y.1 = some .cell ∧ ((cellsFrom (s.heap.objs.size + 1) scope.names []).lookup y.1).isSome = true) := fun ⟨n, v⟩ hy => by
    rcases S.par n (List.of_mem_zip hy).1 with q | q
    · exact .inl q
    · exact .inr ⟨q, PySem.W.cellsFrom_some _ _ _ (.inl q)⟩
  refine codeAny_call_function hr.depth (KX _ _ lk) rfl S.co S.gen rfl (PySem.W.codeRec_of KX hcd) (hb _ _ _ _ ?_)
  refine wpAny_newFunctionEnv_cells S.kind hkind fun env he s1 x => ?_
  subst he
  refine ⟨lim.keeps x.toInCall.keep, codeAny_func ?_⟩
  obtain ⟨t, ht, hq⟩ := hbody A outer s H vs Q E (hr.deeper _) hsp
  have I : Inv (cxOf CX P w K mg base N qual scope f cdv A outer s H E) [] (start N vs) H s1 := inv_start S hr.hd e0 hl r x
  refine wpAny_mono (ht [] s1 (start N vs) H _ I hq) (fun fl s' hs => ?_) fun e s' hs => hs
  have fin : ∀ {σ' : St} {H' : Hp} {v : V} {u : Value}, Inv (cxOf CX P w K mg base N qual scope f cdv A outer s H E) [] σ' H' s' → RelV v u → Q v H' → CE outer P w H s Q u s' :=
    fun {σ' H' v u} J rv q => ⟨v, H', J.os, J.bare, J.base, J.hok, rv, q⟩
  cases fl with
  | ret u =>
    obtain ⟨v, σ', H', J, rv, q⟩ := hs
    exact fin J rv q
  | next =>
    obtain ⟨σ', H', J, q⟩ := hs
    exact fin (v := V.non) (u := Value.none) J rfl q
  | brk =>
    obtain ⟨_, _, _, q⟩ := hs
    exact False.elim q
  | cont =>
    obtain ⟨_, _, _, q⟩ := hs
    exact False.elim q
end L2

namespace L2
open PySem PySem.Spec PyProof.Rows
section
variable {X : Cx} {x : Str} {p pos : Pos} {e : Expr} {es : List Expr} {t : TA} {id T : String} {r : List V → Hp → VK → Prop}

def tCB (r : List V → Hp → VK → Prop) (t : TA) : TE := fun σ H Q => t σ H fun vs H1 => r vs H1 Q
/-- f(e, ..), f a built-in function -/
theorem pe_callB (hc : CallR X (.builtin id) r) (hg : Gl X x) (hm : X.mg x = none) (hv : bootBuiltins x = some (.builtin id)) (ha : PA X (e :: es) t) (hn : x ≠ "__name__" := by decide) (hdb : (x == ("__debug__" : Str)) = false := by decide)
    (he : starEach (e :: es) X.env = (false, eval e X.env) :: starEach es X.env := by rfl) (hpl : (backTo pos (starEach es X.env)).any (·.1) = false := by rfl) : PE X (.Call (.Name x p) (e :: es) [] pos) (tCB r t) := by
  intro pins s σ H Q I h
  refine wpAny_Call_Name_kw (ld_blt I hg hm hv ?_ hn hdb)
  exact PyProof.Rows.callWith_builtin1 (thn (ha pos pins s σ H _ I h) fun us s1 ⟨vs, H1, I1, r1, q1⟩ => hc pins s1 σ H1 vs us Q I1 r1 q1) he hpl
/-- T(e, ..), T a built-in type -/
theorem pe_callTy (hc : CallR X (.type T) r) (hg : Gl X x) (hm : X.mg x = none) (hv : bootBuiltins x = some (.type T)) (ha : PA X (e :: es) t) (hn : x ≠ "__name__" := by decide) (hdb : (x == ("__debug__" : Str)) = false := by decide)
    (he : starEach (e :: es) X.env = (false, eval e X.env) :: starEach es X.env := by rfl) (hpl : (backTo pos (starEach es X.env)).any (·.1) = false := by rfl) : PE X (.Call (.Name x p) (e :: es) [] pos) (tCB r t) := by
  intro pins s σ H Q I h
  refine wpAny_Call_Name_kw (ld_blt I hg hm hv ?_ hn hdb)
  exact PyProof.Rows.callWith_type1 (thn (ha pos pins s σ H _ I h) fun us s1 ⟨vs, H1, I1, r1, q1⟩ => hc pins s1 σ H1 vs us Q I1 r1 q1) he hpl
end
end L2

namespace HT
open PySem PyProof.Rows

/-- t < u of tuples of ints -/
def lexLt : List Int → List Int → Bool
  | [], [] => false
  | [], _ :: _ => true
  | _ :: _, [] => false
  | x :: xs, y :: ys => if x = y then lexLt xs ys else decide (x < y)
section
open PySem.SeqAt
open PySem.AutoSeq1 (wpAny_loadPart')
open PySem.MeetsSeq PySem.MeetsSeq2 PySem.MeetsSeq3

end

section
variable {prog : Program} {w : World} {A : Around} {E : Value → Shared → Prop} {s : Shared}

/-- t + u, t not empty -/
theorem cat_tup {t b : Addr} {vs ws : List Value} {Q : Value → Shared → Prop} (ht : IsTup s.heap t vs.toArray) (hb : IsTup s.heap b ws.toArray) (hv : vs ≠ [])
    (h1 : ws = [] → Q (.ref t) s) (h2 : ws ≠ [] → Q (.ref s.heap.objs.size) { s with heap := s.heap.push { cls := .type "tuple", data := .seq (vs ++ ws).toArray } })
    (hsz : vs.length + ws.length ≤ sizeLine) : wpAny (model prog w) A (binaryOp .Add (.ref t) (.ref b)) Q E s := by
  obtain ⟨⟨cls, dd, data, sl⟩, ho, hc, n, hd⟩ := id ht
  obtain ⟨⟨cls2, dd2, data2, sl2⟩, ho2, hc2, n2, hd2⟩ := id hb
  simp only at hc hd hc2 hd2
  subst hc hd hc2 hd2
  have e : vs.toArray ++ ws.toArray = (vs ++ ws).toArray := by simp
  by_cases hw : ws = []
  · exact concat_meets ⟨_, ho, rfl⟩ ⟨_, ho2, rfl⟩ noFill_tuple_add seq_tuple_add PySem.F.slot_tuple_add PySem.F.entry_tuple_add (PySem.F.args_tuple_add_2 _ _)
      (tuple_addW1 t b vs.toArray ws.toArray n n2 dd dd2 sl sl2 (by simpa using hv) (by simp [hw])) ⟨ho, ho2, h1 hw⟩
  · refine concat_meets ⟨_, ho, rfl⟩ ⟨_, ho2, rfl⟩ noFill_tuple_add seq_tuple_add PySem.F.slot_tuple_add PySem.F.entry_tuple_add (PySem.F.args_tuple_add_2 _ _)
      (tuple_addW2 t b vs.toArray ws.toArray n n2 dd dd2 sl sl2 (by simpa using hv) (by simpa using hw) (by rw [List.size_toArray, List.size_toArray]; exact hsz)) ⟨ho, ho2, ?_⟩
    rw [e]
    exact h2 hw

/-! ### t[a:b], not the whole -/
/-- a slice's bound as a place among n (d where it is left out) -/
def sIx (n d : Nat) : Option Int → Nat
  | none => d
  | some v => if v < 0 then (v + (n : Int)).toNat else min v.toNat n
theorem sIx_none (n d : Nat) : sIx n d none = d := rfl
theorem sIx_nat (n d k : Nat) : sIx n d (some (k : Int)) = min k n := by
  show (if (k : Int) < 0 then ((k : Int) + (n : Int)).toNat else min (k : Int).toNat n) = min k n
  rw [if_neg (by omega), Int.toNat_natCast]
theorem sIx_le (n d : Nat) (hd : d ≤ n) (o : Option Int) : sIx n d o ≤ n := by
  cases o with
  | none => exact hd
  | some v =>
    show (if v < 0 then (v + (n : Int)).toNat else min v.toNat n) ≤ n
    by_cases hv : v < 0
    · rw [if_pos hv]; omega
    · rw [if_neg hv]; exact Nat.min_le_right _ _
theorem clip_eq (v : Int) (n d : Nat) : (if v < 0 then max (v + (n : Int)) 0 else min v (n : Int)) = ((sIx n d (some v) : Nat) : Int) := by
  show (if v < 0 then max (v + (n : Int)) 0 else min v (n : Int)) = (((if v < 0 then (v + (n : Int)).toNat else min v.toNat n) : Nat) : Int)
  by_cases hv : v < 0
  · simp only [if_pos hv]; omega
  · simp only [if_neg hv]; omega
theorem adjust_gen (lo hi : Option Int) (n : Nat) : Builtin.Slice.sliceAdjust lo hi 1 (n : Int) = (((sIx n 0 lo : Nat) : Int), ((sIx n n hi : Nat) : Int)) := by
  have h1 : ¬ ((1 : Int) < 0) := by omega
  unfold Builtin.Slice.sliceAdjust
  simp only [h1, if_false]
  refine Prod.ext ?_ ?_
  · cases lo with
    | none => rfl
    | some v => exact clip_eq v n 0
  · cases hi with
    | none => rfl
    | some v => exact clip_eq v n n
theorem places_gen (i j : Nat) : Builtin.Slice.slicePlaces (i : Int) (j : Int) 1 = j - i := by
  unfold Builtin.Slice.slicePlaces
  have h1 : (1 : Int) > 0 := by omega
  simp only [h1, if_true, Int.ediv_one]
  split <;> omega
theorem slicePart_ {v : Value} {o : Option Int} {Q : Option Int → Shared → Prop} (p : IsPart v o) (h : Q o s) : wpAny (model prog w) A (Builtin.Slice.slicePartIndex v) Q E s := by
  cases p with
  | none => exact slicePart_none h
  | int i t => exact slicePart_int h
theorem sliceApplied_gen {sl : Addr} {vl vu : Value} {lo hi : Option Int} {n : Nat} {Q : Int × Int × Nat → Shared → Prop} (hs : s.heap.IsSliceOf sl vl vu .none) (pl : IsPart vl lo) (pu : IsPart vu hi)
    (h : Q (((sIx n 0 lo : Nat) : Int), 1, sIx n n hi - sIx n 0 lo) s) : wpAny (model prog w) A (Builtin.Slice.sliceApplied (.ref sl) (pure (n : Int))) Q E s := by
  obtain ⟨os, hos, hcs, hds⟩ := id hs
  unfold Builtin.Slice.sliceApplied Builtin.Slice.sliceFields
  refine wpAny_bind (wpAny_bind (wpAny_field hos hds (x := vl) rfl (wpAny_bind (wpAny_field hos hds (x := vu) rfl (wpAny_bind (wpAny_field hos hds (x := .none) rfl (wpAny_pure ?_)))))))
  refine wpAny_bind (slicePart_none ?_)
  show wpAny _ _ (if ((1 : Int) == 0) = true then _ else _) _ _ s
  rw [if_neg (by decide)]
  refine wpAny_bind (slicePart_ pl (wpAny_bind (slicePart_ pu (wpAny_bind (wpAny_pure ?_)))))
  show wpAny _ _ (match Builtin.Slice.sliceAdjust lo hi 1 (n : Int) with | (lo, hi) => pure (lo, (1 : Int), Builtin.Slice.slicePlaces lo hi 1)) _ _ s
  rw [adjust_gen lo hi n]
  show wpAny _ _ (pure (((sIx n 0 lo : Nat) : Int), (1 : Int), Builtin.Slice.slicePlaces ((sIx n 0 lo : Nat) : Int) ((sIx n n hi : Nat) : Int) 1)) _ _ s
  rw [places_gen]
  exact wpAny_pure h
theorem pick_gen (xs : Array Value) (i k : Nat) : ((List.range k).filterMap fun (m : Nat) => xs[((i : Int) + (m : Int) * 1).toNat]?).toArray = ((xs.toList.drop i).take k).toArray := by
  have e : (fun (m : Nat) => xs[((i : Int) + (m : Int) * 1).toNat]?) = fun m => xs[i + m]? := by
    funext m
    have : ((i : Int) + (m : Int) * 1).toNat = i + m := by omega
    rw [this]
  rw [e]
  have := pick_run xs i k
  rw [List.filterMap_map] at this
  have e2 : ((fun x => xs[x]?) ∘ fun x => i + x) = fun m => xs[i + m]? := rfl
  rw [e2] at this
  rw [this]

theorem getItem_tuple_cut {t sl : Addr} {items : Array Value} {vl vu : Value} {lo hi : Option Int} {Q : Value → Shared → Prop} (ht : IsTup s.heap t items) (hs : s.heap.IsSliceOf sl vl vu .none) (pl : IsPart vl lo) (pu : IsPart vu hi)
    (hw : ¬ (sIx items.size 0 lo = 0 ∧ sIx items.size items.size hi = items.size))
    (h : Q (.ref s.heap.objs.size) { s with heap := s.heap.push { cls := .type "tuple", data := .seq ((items.toList.drop (sIx items.size 0 lo)).take (sIx items.size items.size hi - sIx items.size 0 lo)).toArray } })
    (hsz : items.size ≤ sizeLine) : wpAny (model prog w) A (getItem (.ref t) (.ref sl)) Q E s := by
  have htake : sizeOk (.seq ((items.toList.drop (sIx items.size 0 lo)).take (sIx items.size items.size hi - sIx items.size 0 lo)).toArray) := by
    show ((items.toList.drop (sIx items.size 0 lo)).take (sIx items.size items.size hi - sIx items.size 0 lo)).toArray.size ≤ sizeLine
    rw [List.size_toArray, List.length_take, List.length_drop, Array.length_toList]
    omega
  have hj : sIx items.size items.size hi ≤ items.size := sIx_le _ _ (Nat.le_refl _) hi
  obtain ⟨os, hos, hcs, hds⟩ := id hs
  have hTs : s.TypeIs (.ref sl) "slice" := ⟨os, hos, hcs⟩
  unfold getItem
  try with_reducible refine wpAny_holding ?_
  first | refine wpAny_bind (wpAny_pure ?_) | skip
  refine wpAny_bind (wpAny_sequenceKey ht.typeIs (by decide) ?_)
  refine wpAny_bind (wpAny_callSpecial?_slot (name := Str.ofString "__getitem__") ht.typeIs PyProof.Rows.slot_tuple_getitem
    (wpAny_call_entry PyProof.Rows.slot_tuple_getitem ht.typeIs entry_tuple_getitem ?_ (args_tuple_getitem _ _)))
  show wpAny _ _ (Builtin.Tuple.tupleItemsOf (.ref t) >>= _) _ _ s
  refine wpAny_bind (tupleItemsOf_ ht ?_)
  refine wpAny_bind (wpAny_typeOf hTs ?_)
  rw [if_pos (by decide)]
  refine wpAny_bind (sliceApplied_gen hs pl pu ?_)
  have hno : ¬ ((((sIx items.size 0 lo : Nat) : Int) == 0 && (1 : Int) == 1 && (sIx items.size items.size hi - sIx items.size 0 lo) == items.size) = true) := by
    intro q
    rw [Bool.and_eq_true, Bool.and_eq_true] at q
    have q1 : ((sIx items.size 0 lo : Nat) : Int) = 0 := eq_of_beq q.1.1
    have q2 : sIx items.size items.size hi - sIx items.size 0 lo = items.size := eq_of_beq q.2
    exact hw ⟨by omega, by omega⟩
  show wpAny _ _ (if (((sIx items.size 0 lo : Nat) : Int) == 0 && (1 : Int) == 1 && (sIx items.size items.size hi - sIx items.size 0 lo) == items.size) = true then _ else _) _ _ s
  rw [if_neg hno, pick_gen]
  first
    | exact wpAny_bind (m := Builtin.Tuple.tupleExact _) (wpAny_newObj_type (wpAny_pure ⟨_, rfl, wpAny_pure h⟩) htake)
    | exact wpAny_bind (m := Builtin.Tuple.tupleExact _) (wpAny_newObj_type (wpAny_bind (wpAny_pure (wpAny_pure ⟨_, rfl, wpAny_pure h⟩))) htake)
    | exact wpAny_bind (wpAny_bind (m := Builtin.Tuple.tupleExact _) (wpAny_newObj_type (wpAny_pure (wpAny_pure ⟨_, rfl, wpAny_pure h⟩)) htake))
    | exact wpAny_bind (wpAny_bind (m := Builtin.Tuple.tupleExact _) (wpAny_newObj_type (wpAny_pure ⟨_, rfl, wpAny_pure h⟩) htake))
end
end HT

namespace L2
open PySem PySem.Spec PyProof.Rows

/-! ### the parts of a slice -/
abbrev TO := St → Hp → (Option Int → Hp → Prop) → Prop
/-- a slice's part (left out, or an int) -/
def PO (X : Cx) (e : Option Expr) (t : TO) : Prop :=
  ∀ (pins : List (Addr × Obj)) (s : Shared) (σ : St) (H : Hp) (Q : Option Int → Hp → Prop), Inv X pins σ H s → t σ H Q →
    wpAny (model X.prog X.w) X.A (evalPart e X.env) (fun u s' => ∃ o H', Inv X pins σ H' s' ∧ IsPart u o ∧ Q o H') X.xe s
def tNoPart : TO := fun _ H Q => Q none H
def tPart (t : TE) : TO := fun σ H Q => t σ H fun x H1 => ∃ i, x = .int i ∧ Q (some i) H1

section
variable {X : Cx} {e : Expr} {te : TE} {lo hi : Option Expr} {tl th : TO} {pos p2 : Pos}

theorem po_none : PO X none tNoPart := by
  intro pins s σ H Q I h
  rw [evalPart_none]
  exact wpAny_pure ⟨none, H, I, .none, h⟩
theorem po_some (h : PE X e te) : PO X (some e) (tPart te) := by
  intro pins s σ H Q I hw
  rw [evalPart_some]
  refine thn (h pins s σ H _ I hw) fun u s1 ⟨x, H1, I1, r1, q1⟩ => ?_
  obtain ⟨i, rfl, q⟩ := q1
  obtain ⟨t, rfl⟩ := r1
  exact ⟨some i, H1, I1, .int i t, q⟩

/-- what a slice of a value is, by values: the slice object stands at sl -/
def SlR (X : Cx) (r : V → Option Int → Option Int → Hp → VK → Prop) : Prop :=
  ∀ (pins : List (Addr × Obj)) (s : Shared) (σ : St) (H : Hp) (x : V) (v vl vu : Value) (lo hi : Option Int) (sl : Addr) (Q : VK), Inv X pins σ H s → RelV x v → s.heap.IsSliceOf sl vl vu .none → IsPart vl lo → IsPart vu hi → r x lo hi H Q →
    ∃ T id, typeLookup (.type T) "__getitem__" = pure (some (.builtin id)) ∧ s.TypeIs v T ∧ wpAny (model X.prog X.w) X.A (getItem v (.ref sl)) (EP X pins σ Q) X.xe s
theorem SlR.or {r r' : V → Option Int → Option Int → Hp → VK → Prop} (h : SlR X r) (h' : SlR X r') : SlR X (fun x lo hi H Q => r x lo hi H Q ∨ r' x lo hi H Q) := by
  intro pins s σ H x v vl vu lo hi sl Q I rx hs pl pu q
  rcases q with q | q
  · exact h pins s σ H x v vl vu lo hi sl Q I rx hs pl pu q
  · exact h' pins s σ H x v vl vu lo hi sl Q I rx hs pl pu q
def tSl (r : V → Option Int → Option Int → Hp → VK → Prop) (te : TE) (tl th : TO) : TE := fun σ H Q => te σ H fun x H1 => tl σ H1 fun l H2 => th σ H2 fun u H3 => r x l u H3 Q
/-- a[lo:hi], any a -/
theorem pe_slice {r : V → Option Int → Option Int → Hp → VK → Prop} (hr : SlR X r) (he : PE X e te) (hl : PO X lo tl) (hu : PO X hi th) : PE X (.Subscript e (.Slice lo hi none p2) pos) (tSl r te tl th) := by
  intro pins s σ H Q I h
  refine Subscript_ (thn (he pins s σ H _ I h) fun v s1 ⟨x, H1, I1, r1, q1⟩ => ?_)
  refine wpAny_Slice (thn (hl pins s1 σ H1 _ I1 q1) fun vl s2 ⟨l, H2, I2, pl, q2⟩ => thn (hu pins s2 σ H2 _ I2 q2) fun vu s3 ⟨u, H3, I3, pu, q3⟩ => ?_)
  rw [evalPart_none]
  refine wpAny_pure ?_
  have I4 : Inv X pins σ H3 { s3 with heap := s3.heap.push { cls := .type "slice", data := .fields #[vl, vu, .none] } } := I3.kept (t' := s3.toks) fun b ob q => Heap.get?_push_of_some _ q
  obtain ⟨T, id, hT, ht, hg⟩ := hr pins { s3 with heap := s3.heap.push { cls := .type "slice", data := .fields #[vl, vu, .none] } } σ H3 x v vl vu l u s3.heap.objs.size Q I4 r1 (Heap.IsSliceOf.new ..) pl pu q3
  show wpAny (model X.prog X.w) X.A (subscriptTail e (.Slice lo hi none p2) v (.ref s3.heap.objs.size)) (EP X pins σ Q) X.xe { s3 with heap := s3.heap.push { cls := .type "slice", data := .fields #[vl, vu, .none] } }
  exact tail_any (ops := [.ref s3.heap.objs.size, v]) ht hT hg (by with_unfolding_all rfl)

/-- the items of xs[lo:hi] -/
def cutV (xs : List V) (lo hi : Option Int) : List V := (xs.drop (HT.sIx xs.length 0 lo)).take (HT.sIx xs.length xs.length hi - HT.sIx xs.length 0 lo)
theorem cutV_length (xs : List V) (lo hi : Option Int) : (cutV xs lo hi).length ≤ xs.length := by
  unfold cutV
  rw [List.length_take, List.length_drop]
  omega
/-- t[lo:hi], not the whole of it (the whole would be t itself) -/
def rSlT (K : PySem.W.Frag) : V → Option Int → Option Int → Hp → VK → Prop := fun x lo hi H Q => ∃ a xs, x = .ref a ∧ SqT K H a xs ∧
  ¬ (HT.sIx xs.length 0 lo = 0 ∧ HT.sIx xs.length xs.length hi = xs.length) ∧ ∀ p, H p = none → Q (.ref p) (upd H p (.tup (cutV xs lo hi)))
theorem sl_tup : SlR X (rSlT X.K) := by
  intro pins s σ H x v vl vu lo hi sl Q I rx hs pl pu h
  obtain ⟨a, xs, rfl, hx, hw, q⟩ := h
  cases rx
  obtain ⟨its, r, ht, hz⟩ := I.tuple hx
  have hlen : its.toArray.size = xs.length := by rw [List.size_toArray]; exact r.length.symm
  refine ⟨"tuple", _, PyProof.Rows.slot_tuple_getitem.lookup, ht.typeIs, ?_⟩
  refine HT.getItem_tuple_cut ht hs pl pu (by rw [hlen]; exact hw) ?_ (by rw [hlen]; exact hz)
  rw [hlen]
  refine ⟨.ref s.heap.objs.size, _, I.laid (t' := s.toks) (o := .tup (cutV xs lo hi)) (fun b ob q => Heap.get?_push_of_some _ q) (Nat.le_refl _) ?_, rfl, q _ (I.hok.fresh (Nat.le_refl _))⟩
  exact ⟨Nat.le_trans (cutV_length xs lo hi) hz, _, (r.drop (HT.sIx xs.length 0 lo)).take (HT.sIx xs.length xs.length hi - HT.sIx xs.length 0 lo), IsTup.new _ _⟩

/-! ### t < u, t + u -/
/-- t + u, t not empty: u empty gives t itself -/
def rCatT (K : PySem.W.Frag) : R2 := fun x y H Q => ∃ a b xs ys, x = .ref a ∧ y = .ref b ∧ SqT K H a xs ∧ SqT K H b ys ∧ xs ≠ [] ∧ xs.length + ys.length ≤ sizeLine ∧
  (ys = [] → Q (.ref a) H) ∧ (ys ≠ [] → ∀ p, H p = none → Q (.ref p) (upd H p (.tup (xs ++ ys))))
theorem Vals.nil_iff {xs : List V} {us : List Value} (r : Vals xs us) : us = [] ↔ xs = [] := by
  cases r with
  | nil => simp
  | cons _ _ => simp
theorem op_catT : OpR X (binaryOp .Add) (rCatT X.K) := by
  intro pins s σ H x y v u Q I rx ry h
  obtain ⟨a, b, xs, ys, rfl, rfl, ha, hb, hx, hz, q1, q2⟩ := h
  cases rx
  cases ry
  obtain ⟨its, r1, p1, _⟩ := I.tuple ha
  obtain ⟨its2, r2, p2, _⟩ := I.tuple hb
  refine HT.cat_tup p1 p2 (fun z => hx (r1.nil_iff.mp z)) (fun z => ⟨.ref a, H, I, rfl, q1 (r2.nil_iff.mp z)⟩) (fun z => ?_) (by rw [← r1.length, ← r2.length]; exact hz)
  refine ⟨.ref s.heap.objs.size, _, I.laid (t' := s.toks) (o := .tup (xs ++ ys)) (fun b ob q => Heap.get?_push_of_some _ q) (Nat.le_refl _) ?_, rfl, q2 (fun w => z (r2.nil_iff.mpr w)) _ (I.hok.fresh (Nat.le_refl _))⟩
  exact ⟨by rw [List.length_append]; exact hz, _, r1.append r2, IsTup.new _ _⟩
end
end L2

namespace L2
open PySem PySem.Spec PyProof.Rows

/-! ### places -/
/-- the place that an index of any sign means -/
def ixN (n : Nat) (i : Int) : Option Nat := if 0 ≤ i then (if i < n then some i.toNat else none) else if -(n : Int) ≤ i then some (i + n).toNat else none
def atI {α : Type} (xs : List α) (i : Int) : Option α := (ixN xs.length i).bind fun j => xs[j]?
theorem ixN_seq {n : Nat} {i : Int} {j : Nat} (h : ixN n i = some j) : seqIndex? i n = some j ∧ j < n ∧ -(n : Int) ≤ i ∧ i < n := by
  unfold ixN at h
  by_cases h0 : 0 ≤ i
  · rw [if_pos h0] at h
    by_cases h1 : i < n
    · rw [if_pos h1] at h
      have e : i.toNat = j := Option.some.inj h
      exact ⟨by rw [seqIndex_of h0 h1, e], by omega, by omega, h1⟩
    · rw [if_neg h1] at h; cases h
  · rw [if_neg h0] at h
    by_cases h1 : -(n : Int) ≤ i
    · rw [if_pos h1] at h
      have e : (i + n).toNat = j := Option.some.inj h
      exact ⟨by rw [seqIndex_neg (by omega) h1, e], by omega, h1, by omega⟩
    · rw [if_neg h1] at h; cases h
theorem atI_get {α : Type} {xs : List α} {i : Int} {v : α} (h : atI xs i = some v) : ∃ j, seqIndex? i xs.length = some j ∧ xs[j]? = some v ∧ j < xs.length ∧ -(xs.length : Int) ≤ i ∧ i < xs.length := by
  unfold atI at h
  cases e : ixN xs.length i with
  | none => rw [e] at h; cases h
  | some j =>
    rw [e] at h
    obtain ⟨h1, h2, h3, h4⟩ := ixN_seq e
    exact ⟨j, h1, h, h2, h3, h4⟩
theorem atI_nat {α : Type} {xs : List α} {j : Nat} {v : α} (h : xs[j]? = some v) : atI xs (j : Int) = some v := by
  have hj : j < xs.length := (List.getElem?_eq_some_iff.mp h).1
  have e : ixN xs.length (j : Int) = some j := by
    unfold ixN
    rw [if_pos (by omega), if_pos (by omega)]; simp
  unfold atI; rw [e]; exact h
/-! ### what may be subscripted -/
/-- what stands as an index of a plain subscript -/
def PlainIx (b : Expr) : Prop := ∀ o i, subscripted b false o i = operate [o, i] (getItem o i)
/-- a subscript by values -/
def IxR (X : Cx) (r : R2) : Prop :=
  ∀ (value slice : Expr) (pins : List (Addr × Obj)) (s : Shared) (σ : St) (H : Hp) (x y : V) (v u : Value) (Q : VK), Inv X pins σ H s → RelV x v → RelV y u → r x y H Q →
    subscripted slice false v u = operate [v, u] (getItem v u) → wpAny (model X.prog X.w) X.A (subscriptTail value slice v u) (EP X pins σ Q) X.xe s
/-- a call of a builtin's method by values: the receiver, the arguments -/
def MtR (X : Cx) (id : String) (r : V → List V → Hp → VK → Prop) : Prop :=
  ∀ (pins : List (Addr × Obj)) (s : Shared) (σ : St) (H : Hp) (x : V) (xs : List V) (v : Value) (us : List Value) (Q : VK), Inv X pins σ H s → RelV x v → Vals xs us → r x xs H Q →
    wpAny (model X.prog X.w) X.A (call (.builtin id) (v :: us)) (EP X pins σ Q) X.xe s
section
variable {X : Cx} {a b : Expr} {ta tb : TE} {pos : Pos}
theorem IxR.or {r r' : R2} (h : IxR X r) (h' : IxR X r') : IxR X (fun x y H Q => r x y H Q ∨ r' x y H Q) := by
  intro value slice pins s σ H x y v u Q I rx ry q hs
  rcases q with q | q
  · exact h value slice pins s σ H x y v u Q I rx ry q hs
  · exact h' value slice pins s σ H x y v u Q I rx ry q hs
theorem MtR.or {id : String} {r r' : V → List V → Hp → VK → Prop} (h : MtR X id r) (h' : MtR X id r') : MtR X id (fun x xs H Q => r x xs H Q ∨ r' x xs H Q) := by
  intro pins s σ H x xs v us Q I rx rs q
  rcases q with q | q
  · exact h pins s σ H x xs v us Q I rx rs q
  · exact h' pins s σ H x xs v us Q I rx rs q
/-- a[b] -/
theorem pe_ix {r : R2} (hr : IxR X r) (ha : PE X a ta) (hb : PE X b tb) (hs : PlainIx b) : PE X (.Subscript a b pos) (tOp r ta tb) := by
  intro pins s σ H Q I h
  exact Subscript_ (binT ha hb I h fun v u s2 x y H2 I2 rx ry q => hr a b pins s2 σ H2 x y v u Q I2 rx ry q (hs _ _))

def rIxL (K : PySem.W.Frag) : R2 := fun x y H Q => ∃ p xs i v, x = .ref p ∧ y = .int i ∧ SqL K H p xs ∧ atI xs i = some v ∧ Q v H
def rIxT (K : PySem.W.Frag) : R2 := fun x y H Q => ∃ p xs i v, x = .ref p ∧ y = .int i ∧ SqT K H p xs ∧ atI xs i = some v ∧ Q v H
def rIxS : R2 := fun x y H Q => ∃ z i c, x = .str z ∧ y = .int i ∧ z.length ≤ sizeLine ∧ atI z.cps.toList i = some c ∧ Q (.str ⟨#[c]⟩) H
theorem ix_list : IxR X (rIxL X.K) := by
  intro value slice pins s σ H x y v u Q I rx ry h hs
  obtain ⟨p, xs, i, z, rfl, rfl, hq, he, q⟩ := h
  cases rx
  obtain ⟨t, rfl⟩ := ry
  obtain ⟨its, r, pl, hz⟩ := I.list hq
  obtain ⟨j, h1, h2, h3, h4, h5⟩ := atI_get he
  obtain ⟨w, ew, rw'⟩ := r.get h2
  have hl := r.length
  have hn := line63
  have fin : EP X pins σ Q w s := ⟨z, H, I, rw', q⟩
  by_cases h0 : 0 ≤ i
  · have hj : i.toNat = j := by
      rw [seqIndex_of h0 h5] at h1
      exact Option.some.inj h1
    exact item_listR pl.isList h0 (by omega) (by rw [hj]; simpa using ew) fin hs
  · have hj : (i + (its.toArray.size : Int)).toNat = j := by
      rw [seqIndex_neg (by omega) h4] at h1
      rw [List.size_toArray, ← hl]
      exact Option.some.inj h1
    exact subscriptTail_builtinR (x := w) pl.isList.typeIs slot_list_getitem.lookup
      (wpAny_getItem_list_neg (Q := fun r s' => r = w ∧ EP X pins σ Q r s') pl.isList (by omega) (by rw [List.size_toArray] <;> omega) (by omega) (by rw [hj]; simpa using ew) ⟨rfl, fin⟩) hs
theorem ix_tup : IxR X (rIxT X.K) := by
  intro value slice pins s σ H x y v u Q I rx ry h hs
  obtain ⟨p, xs, i, z, rfl, rfl, hq, he, q⟩ := h
  cases rx
  obtain ⟨t, rfl⟩ := ry
  obtain ⟨its, r, pl, hz⟩ := I.tuple hq
  obtain ⟨j, h1, h2, h3, h4, h5⟩ := atI_get he
  obtain ⟨w, ew, rw'⟩ := r.get h2
  have hl := r.length
  have hn := line63
  have fin : EP X pins σ Q w s := ⟨z, H, I, rw', q⟩
  exact subscriptTail_builtinR (x := w) pl.typeIs slot_tuple_getitem.lookup
    (getItem_tuple (j := j) (Q := fun r s' => r = w ∧ EP X pins σ Q r s') pl (by omega) (by omega) (by rw [List.size_toArray, ← hl]; exact h1) (by simpa using ew) ⟨rfl, fin⟩) hs
theorem ix_str : IxR X rIxS := by
  intro value slice pins s σ H x y v u Q I rx ry h hs
  obtain ⟨z, i, c, rfl, rfl, hz, he, q⟩ := h
  obtain ⟨t, rfl⟩ := rx
  obtain ⟨t', rfl⟩ := ry
  obtain ⟨j, h1, h2, h3, h4, h5⟩ := atI_get he
  have hl : z.cps.toList.length = z.length := by simp [Str.length]
  rw [hl] at h1 h4 h5
  have hn := line63
  exact tail_any (typeIs_str s z t) slot_str_getitem.lookup (getItem_str (c := c) (by
    have e1 : decide (i < -(2 ^ 63 : Int)) = false := decide_eq_false (by omega)
    have e2 : decide (i ≥ 2 ^ 63) = false := decide_eq_false (by omega)
    rw [e1, e2, Bool.or_false]) (by rw [h1]; simpa using h2) ⟨.str ⟨#[c]⟩, H, I.tok _, ⟨_, rfl⟩, q⟩) hs
/-! ### xs[i] = v, any sign -/
theorem Inv.lst {pins : List (Addr × Obj)} {σ : St} {H : Hp} {s : Shared} {p : Addr} {xs : List V} (I : Inv X pins σ H s) (h : H p = some (.lst xs)) :
    ∃ (its : List Value) (n : Nat), Vals xs its ∧ s.heap.get? p = some { cls := .type "list", data := .seq its.toArray n } ∧ xs.length ≤ sizeLine := by
  obtain ⟨z, its, n, r, e⟩ := I.hok p _ h
  exact ⟨its, n, r, e, z⟩
def rSetL : V → V → V → Hp → (Hp → Prop) → Prop := fun o i v H Q => ∃ p xs k j, o = .ref p ∧ i = .int k ∧ H p = some (.lst xs) ∧ ixN xs.length k = some j ∧ Q (upd H p (.lst (xs.set j v)))
/-! ### slices -/
theorem slice_bounds (lo hi : Option Int) (n : Nat) : (sliceBounds lo hi none n).1 = ((HT.sIx n 0 lo : Nat) : Int) ∧ (sliceBounds lo hi none n).2.1 = ((HT.sIx n n hi : Nat) : Int) ∧ (sliceBounds lo hi none n).2.2 = 1 := by
  refine ⟨?_, ?_, rfl⟩
  · cases lo with
    | none => simp [sliceBounds, HT.sIx]
    | some i =>
      simp only [sliceBounds, HT.sIx, Option.getD_none, show (1 : Int) > 0 by decide, if_true]
      by_cases h : i < 0
      · simp only [h, if_true] <;> omega
      · simp only [h, if_false] <;> omega
  · cases hi with
    | none => simp [sliceBounds, HT.sIx]
    | some i =>
      simp only [sliceBounds, HT.sIx, Option.getD_none, show (1 : Int) > 0 by decide, if_true]
      by_cases h : i < 0
      · simp only [h, if_true] <;> omega
      · simp only [h, if_false] <;> omega
theorem slicePick_cut (its : List Value) (lo hi : Option Int) : slicePick its.toArray lo hi none = ((its.drop (HT.sIx its.length 0 lo)).take (HT.sIx its.length its.length hi - HT.sIx its.length 0 lo)).toArray := by
  obtain ⟨h1, h2, h3⟩ := slice_bounds lo hi its.toArray.size
  unfold slicePick
  rw [h1, h2, h3]
  simp only [sliceRange_one, pick_run, List.size_toArray] <;> rfl
/-- xs[lo:hi] of a list: a new list -/
def rSlL (K : PySem.W.Frag) : V → Option Int → Option Int → Hp → VK → Prop := fun x lo hi H Q => ∃ a xs, x = .ref a ∧ SqL K H a xs ∧ ∀ p, H p = none → Q (.ref p) (upd H p (.lst (cutV xs lo hi)))
theorem sl_list : SlR X (rSlL X.K) := by
  intro pins s σ H x v vl vu lo hi sl Q I rx hs pl pu h
  obtain ⟨a, xs, rfl, hx, q⟩ := h
  cases rx
  obtain ⟨its, r, ht, hz⟩ := I.list hx
  have hlen := r.length
  refine ⟨"list", _, slot_list_getitem.lookup, ht.isList.typeIs, ?_⟩
  refine wpAny_getItem_list_slice ht.isList hs pl pu .none (by simp) ?_ (by rw [List.size_toArray] <;> omega)
  rw [slicePick_cut, ← hlen]
  refine ⟨.ref s.heap.objs.size, _, I.laid (t' := s.toks) (o := .lst (cutV xs lo hi)) (fun b ob q => Heap.get?_push_of_some _ q) (Nat.le_refl _) ?_, rfl, q _ (I.hok.fresh (Nat.le_refl _))⟩
  exact ⟨Nat.le_trans (cutV_length xs lo hi) hz, _, 0, (r.drop (HT.sIx xs.length 0 lo)).take (HT.sIx xs.length xs.length hi - HT.sIx xs.length 0 lo), Heap.get?_push_size _ rfl⟩

/-! ### in, not in: flat items -/
def flatV : V → Bool
  | .non => true
  | .bl _ => true
  | .int _ => true
  | .str _ => true
  | _ => false
/-- == of flat values -/
def eqV : V → V → Bool
  | .non, .non => true
  | .bl a, .bl b => a == b
  | .bl a, .int b => (if a then 1 else 0) == b
  | .int a, .bl b => a == (if b then 1 else 0)
  | .int a, .int b => a == b
  | .str a, .str b => a == b
  | _, _ => false
theorem eqAt_V {A : Around} {s : Shared} {y x : V} {u v : Value} (ry : RelV y u) (rx : RelV x v) (fy : flatV y = true) (fx : flatV x = true) : SeqAt.EqAt A s u v (eqV y x) := by
  cases y with
  | non =>
    cases ry
    cases x with
    | non => cases rx; exact SeqAt.EqAt.same _
    | bl b => cases rx; exact SeqAt.EqAt.none_bool b
    | int b => obtain ⟨t, rfl⟩ := rx; exact SeqAt.EqAt.none_int b t
    | str b => obtain ⟨t, rfl⟩ := rx; exact SeqAt.EqAt.none_str b t
    | _ => exact absurd (show false = true from fx) Bool.false_ne_true
  | bl a =>
    cases ry
    cases x with
    | non => cases rx; exact SeqAt.EqAt.bool_none a
    | bl b => cases rx; exact SeqAt.EqAt.bool_bool a b
    | int b => obtain ⟨t, rfl⟩ := rx; exact SeqAt.EqAt.bool_int a b t
    | str b => obtain ⟨t, rfl⟩ := rx; exact SeqAt.EqAt.bool_str a b t
    | _ => exact absurd (show false = true from fx) Bool.false_ne_true
  | int a =>
    obtain ⟨t', rfl⟩ := ry
    cases x with
    | non => cases rx; exact SeqAt.EqAt.int_none a t'
    | bl b => cases rx; exact SeqAt.EqAt.int_bool a t' b
    | int b => obtain ⟨t, rfl⟩ := rx; exact SeqAt.EqAt.int_int a t' b t
    | str b => obtain ⟨t, rfl⟩ := rx; exact SeqAt.EqAt.int_str a t' b t
    | _ => exact absurd (show false = true from fx) Bool.false_ne_true
  | str a =>
    obtain ⟨t', rfl⟩ := ry
    cases x with
    | non => cases rx; exact SeqAt.EqAt.str_none a t'
    | bl b => cases rx; exact SeqAt.EqAt.str_bool a t' b
    | int b => obtain ⟨t, rfl⟩ := rx; exact SeqAt.EqAt.str_int a t' b t
    | str b => obtain ⟨t, rfl⟩ := rx; exact SeqAt.EqAt.str_str a t' b t
    | _ => exact absurd (show false = true from fx) Bool.false_ne_true
  | _ => exact absurd (show false = true from fy) Bool.false_ne_true
/-- the items' answers, read off the values (a value's own answer does not lean on its token) -/
def eqU (x : V) (u : Value) : Bool := match u with
  | .none => eqV .non x
  | .bool b => eqV (.bl b) x
  | .int i _ => eqV (.int i) x
  | .str z _ => eqV (.str z) x
  | _ => false
theorem eqU_of {x y : V} {u : Value} (r : RelV y u) (f : flatV y = true) : eqU x u = eqV y x := by
  cases y with
  | non => cases r; rfl
  | bl b => cases r; rfl
  | int i => obtain ⟨t, rfl⟩ := r; rfl
  | str z => obtain ⟨t, rfl⟩ := r; rfl
  | _ => exact absurd (show false = true from f) Bool.false_ne_true
theorem any_eqU {x : V} : ∀ {xs : List V} {us : List Value}, Vals xs us → xs.all flatV = true → us.any (eqU x) = xs.any fun y => eqV y x
  | _, _, .nil, _ => rfl
  | y :: xs, u :: us, .cons r t, f => by
    rw [List.all_cons, Bool.and_eq_true] at f
    rw [List.any_cons, List.any_cons, eqU_of r f.1, any_eqU t f.2]
theorem mem_eqAt {A : Around} {s : Shared} {x : V} {v : Value} (rx : RelV x v) (fx : flatV x = true) : ∀ {xs : List V} {us : List Value}, Vals xs us → xs.all flatV = true → ∀ u ∈ us, SeqAt.EqAt A s u v (eqU x u)
  | _, _, .nil, _ => fun u hu => by cases hu
  | y :: xs, u :: us, .cons r t, f => fun u' hu => by
    rw [List.all_cons, Bool.and_eq_true] at f
    rcases List.mem_cons.mp hu with rfl | hu
    · rw [eqU_of r f.1]; exact eqAt_V r rx f.1 fx
    · exact mem_eqAt rx fx t f.2 u' hu
def inV (x : V) (xs : List V) : Bool := xs.any fun y => eqV y x
/-- x in a list or tuple of flat items -/
def rIn (K : PySem.W.Frag) (neg : Bool) : R2 := fun x y H Q => ∃ p xs, y = .ref p ∧ (SqL K H p xs ∨ SqT K H p xs) ∧ flatV x = true ∧ xs.all flatV = true ∧ Q (.bl (if neg then !inV x xs else inV x xs)) H
theorem op_notIn_seq : OpR X (compareOp .NotIn) (rIn X.K true) := by
  intro pins s σ H x y v u Q I rx ry h
  obtain ⟨p, xs, rfl, hq, fx, fs, q⟩ := h
  cases ry
  rcases hq with hq | hq
  · obtain ⟨its, r, pl, hz⟩ := I.list hq
    refine SeqAt.notIn_listAt (eqU x) pl.isList (fun w hw => mem_eqAt rx fx r fs w (by simpa using hw)) ⟨.bl _, H, I, rfl, ?_⟩
    rw [show its.toArray.any (eqU x) = its.any (eqU x) by simp, any_eqU r fs]
    exact q
  · obtain ⟨its, r, pl, hz⟩ := I.tuple hq
    refine SeqAt.notIn_tupleAt (eqU x) pl (fun w hw => mem_eqAt rx fx r fs w (by simpa using hw)) ⟨.bl _, H, I, rfl, ?_⟩
    rw [show its.toArray.any (eqU x) = its.any (eqU x) by simp, any_eqU r fs]
    exact q
/-! ### len, list(x), tuple(x) of any list or tuple that is read -/
theorem call_len_seq : CallR X (.builtin "len") (fun xs H Q => ∃ p ys, xs = [.ref p] ∧ (SqL X.K H p ys ∨ SqT X.K H p ys) ∧ Q (.int ys.length) H) := by
  intro pins s σ H xs us Q I r h
  obtain ⟨p, ys, rfl, hq, q⟩ := h
  obtain ⟨u, rfl, rx⟩ := vals1 r
  cases rx
  have hn := line63
  rcases hq with hq | hq
  · obtain ⟨its, r', pl, hz⟩ := I.list hq
    have hlen := r'.length
    exact Calls.call_len_list pl.isList (by simp only [List.size_toArray] <;> omega) ⟨.int ys.length, H, I.tok _, ⟨s.toks + 1, by rw [List.size_toArray, hlen]⟩, q⟩
  · obtain ⟨its, r', pl, hz⟩ := I.tuple hq
    have hlen := r'.length
    exact len_tuple pl (by simp only [List.size_toArray] <;> omega) ⟨.int ys.length, H, I.tok _, ⟨s.toks + 1, by rw [List.size_toArray, hlen]⟩, q⟩
theorem call_len_str : CallR X (.builtin "len") (fun xs H Q => ∃ z, xs = [.str z] ∧ z.length ≤ sizeLine ∧ Q (.int z.length) H) := by
  intro pins s σ H xs us Q I r h
  obtain ⟨z, rfl, hz, q⟩ := h
  obtain ⟨u, rfl, t, rfl⟩ := vals1 r
  have hn := line63
  exact len_str (by omega) ⟨.int z.length, H, I.tok _, ⟨_, rfl⟩, q⟩
theorem CallR.or {f : Value} {r r' : List V → Hp → VK → Prop} (h : CallR X f r) (h' : CallR X f r') : CallR X f (fun xs H Q => r xs H Q ∨ r' xs H Q) := by
  intro pins s σ H xs us Q I rs q
  rcases q with q | q
  · exact h pins s σ H xs us Q I rs q
  · exact h' pins s σ H xs us Q I rs q
theorem call_list_of : CallR X (.type "list") (fun xs H Q => ∃ p ys, xs = [.ref p] ∧ (SqL X.K H p ys ∨ SqT X.K H p ys) ∧ ∀ l, H l = none → Q (.ref l) (upd H l (.lst ys))) := by
  intro pins s σ H xs us Q I r h
  obtain ⟨p, ys, rfl, hq, q⟩ := h
  obtain ⟨u, rfl, rx⟩ := vals1 r
  cases rx
  have fin : ∀ (its : List Value), Vals ys its → ys.length ≤ sizeLine → ∀ (h' : Heap) (c' : Nat), (∀ b o', s.heap.get? b = some o' → h'.get? b = some o') →
      h'.get? s.heap.objs.size = some { cls := .type "list", dict := none, data := .seq its.toArray c', slots := #[] } → EP X pins σ Q (.ref s.heap.objs.size) { s with heap := h' } := fun its r' hz h' c' kp e =>
    ⟨.ref s.heap.objs.size, _, I.laid (t' := s.toks) kp (Nat.le_refl _) (show ObjOk X.prog X.w _ h' _ (.lst ys) from ⟨hz, its, c', r', e⟩), rfl, q _ (I.hok.fresh (Nat.le_refl _))⟩
  rcases hq with hq | hq
  · obtain ⟨its, r', pl, hz⟩ := I.list hq
    have hlen := r'.length
    obtain ⟨o, ho, hc, n, hd⟩ := pl.isList
    exact call_list_seq p (.inl rfl) ho hc hd (fun h' c' kp e => fin its r' hz h' c' kp e) (by simp only [List.size_toArray] <;> omega)
  · obtain ⟨its, r', pl, hz⟩ := I.tuple hq
    have hlen := r'.length
    obtain ⟨o, ho, hc, n, hd⟩ := pl
    exact call_list_seq p (.inr rfl) ho hc hd (fun h' c' kp e => fin its r' hz h' c' kp e) (by simp only [List.size_toArray] <;> omega)
/-! ### the call of a builtin's method: o.m(..) -/
/-- the value is of that builtin type -/
def tyV (K : PySem.W.Frag) (T : String) (x : V) (H : Hp) : Prop := match x with
  | .str _ => T = "str"
  | .int _ => T = "int"
  | .ref p => (T = "list" ∧ ∃ xs, SqL K H p xs) ∨ (T = "tuple" ∧ ∃ o, K.lookup p = some o ∧ o.cls = .type "tuple" ∧ o.dict = none) ∨
      (T = "dict" ∧ ((∃ kvs, H p = some (.dK kvs)) ∨ ∃ kvs, H p = some (.dT kvs))) ∨ (T = "set" ∧ ∃ S n, H p = some (.set S n))
  | _ => False
theorem tyV_is {pins : List (Addr × Obj)} {σ : St} {H : Hp} {s : Shared} {T : String} {x : V} {v : Value} (I : Inv X pins σ H s) (r : RelV x v) (ty : tyV X.K T x H) :
    s.TypeIs v T ∧ ∀ a, v = .ref a → ∃ ob, s.heap.get? a = some ob ∧ ob.dict = none := by
  cases x with
  | str z =>
    obtain ⟨t, rfl⟩ := r
    cases (show T = "str" from ty)
    exact ⟨typeIs_str s z t, fun _ e => nomatch e⟩
  | int i =>
    obtain ⟨t, rfl⟩ := r
    cases (show T = "int" from ty)
    exact ⟨typeIs_int s i t, fun _ e => nomatch e⟩
  | ref p =>
    cases r
    rcases ty with ⟨rfl, xs, hq⟩ | ⟨rfl, o, hk, hc, hd⟩ | ⟨rfl, hk⟩ | ⟨rfl, S, n, hk⟩
    · obtain ⟨its, _, pl, _⟩ := I.list hq
      refine ⟨pl.isList.typeIs, fun a e => ?_⟩
      cases e
      obtain ⟨o, n, e, c, hd, _⟩ := pl
      exact ⟨o, e, hd⟩
    · refine ⟨⟨o, I.kIn p o hk, hc⟩, fun a e => ?_⟩
      cases e
      exact ⟨o, I.kIn _ o hk, hd⟩
    · have z : ∃ o, s.heap.get? p = some o ∧ o.ExactDict := by
        rcases hk with ⟨kvs, hk⟩ | ⟨kvs, hk⟩
        · obtain ⟨_, _, _, _, o, _, _, e, ex, _⟩ := I.hok p _ hk
          exact ⟨o, e, ex⟩
        · obtain ⟨_, _, _, _, o, _, _, e, ex, _⟩ := I.hok p _ hk
          exact ⟨o, e, ex⟩
      obtain ⟨o, e, ex⟩ := z
      refine ⟨⟨o, e, ex.1⟩, fun a e2 => ?_⟩
      cases e2
      exact ⟨o, e, ex.2.1⟩
    · obtain ⟨o, _, _, _, e, ex, _⟩ := I.hok p _ hk
      refine ⟨⟨o, e, ex.1⟩, fun a e2 => ?_⟩
      cases e2
      exact ⟨o, e, ex.2.1⟩
  | _ => exact False.elim ty
def tBM0 (K : PySem.W.Frag) (T : String) (r : V → List V → Hp → VK → Prop) (to : TE) : TE := fun σ H Q => to σ H fun x H1 => tyV K T x H1 ∧ r x [] H1 Q
def tBM (K : PySem.W.Frag) (T : String) (r : V → List V → Hp → VK → Prop) (to : TE) (t : TA) : TE := fun σ H Q => to σ H fun x H1 => tyV K T x H1 ∧ t σ H1 fun xs H2 => r x xs H2 Q
variable {o e : Expr} {es : List Expr} {to : TE} {t : TA} {name : Str} {apos cpos : Pos} {T id : String} {r : V → List V → Hp → VK → Prop}
theorem pe_bm (pa : PlainAttrs T) (slot : Slot T name id) (hty : typeOf (.builtin id) = pure (.type "method_descriptor")) (hm : MtR X id r) (ho : PE X o to) (ha : PA X (e :: es) t)
    (hbase : attributeBase o name X.env (eval o X.env) = eval o X.env := by rfl)
    (hfew : ((backTo cpos (starEach (e :: es) X.env)).all (fun x => !x.1) && (backToKw cpos (keywordEach [] X.env)).all (fun x => x.1.isSome)
      && decide ((e :: es).length + ([] : List Keyword).length + (if ([] : List Keyword).isEmpty then 0 else 1) < 30)) = true := by rfl)
    (hline : (apos.endLine == cpos.line) = true := by rfl) (hs : starEach (e :: es) X.env = (false, eval e X.env) :: starEach es X.env := by rfl) (hplain : (backTo cpos (starEach es X.env)).any (·.1) = false := by rfl) :
    PE X (.Call (.Attribute o name apos) (e :: es) [] cpos) (tBM X.K T r to t) := by
  intro pins s σ H Q I h
  refine wpAny_Call_method_late hbase hfew hline rfl (thn (ho pins s σ H _ I h) fun v s1 ⟨x, H1, I1, r1, ty, q1⟩ => ?_)
  obtain ⟨h1, h2⟩ := tyV_is I1 r1 ty
  refine ⟨T, id, pa, slot, hty, h1, h2, ?_⟩
  have hA := ha cpos pins s1 σ H1 _ I1 q1
  rw [hs] at hA ⊢
  refine Calls.callWith_builtin (by show (false || (backTo cpos (starEach es X.env)).any (·.1)) = false; rw [hplain] <;> rfl) (Calls.evalArgs_plain ?_)
  exact thn hA fun us s2 ⟨vs, H2, I2, r2, q2⟩ => hm pins s2 σ H2 x vs v us Q I2 r1 r2 q2
/- xs.append(e), list.index on a module's tuple .. are MtR facts of 06m -/
end
end L2

namespace L2
open PySem PySem.Spec PyProof.Rows

def MtM (X : Cx) (id : String) (r : V → List V → Hp → VK → Prop) : Prop :=
  ∀ (pins : List (Addr × Obj)) (s : Shared) (σ : St) (H : Hp) (x : V) (xs : List V) (v : Value) (us : List Value) (Q : VK), Inv X pins σ H s → RelV x v → Vals xs us → r x xs H Q →
    wpAny (model X.prog X.w) X.A (call (.builtin id) (v :: us)) (EP X pins σ Q) X.xe s

/-! ### lists of values -/
theorem Vals.one : ∀ {x : V} {us : List Value}, Vals [x] us → ∃ u, us = [u] ∧ RelV x u
  | _, _, .cons r .nil => ⟨_, rfl, r⟩
theorem Vals.two : ∀ {x y : V} {us : List Value}, Vals [x, y] us → ∃ u v, us = [u, v] ∧ RelV x u ∧ RelV y v
  | _, _, _, .cons r (.cons q .nil) => ⟨_, _, rfl, r, q⟩
theorem Vals.zero : ∀ {us : List Value}, Vals [] us → us = []
  | _, .nil => rfl
theorem Vals.dropLast {xs : List V} {us : List Value} (h : Vals xs us) : Vals xs.dropLast us.dropLast := by
  induction h with
  | nil => exact .nil
  | cons r t ih =>
    cases t with
    | nil => exact .nil
    | cons q t' => exact .cons r ih
theorem Vals.reverse {xs : List V} {us : List Value} (h : Vals xs us) : Vals xs.reverse us.reverse := by
  induction h with
  | nil => exact .nil
  | cons r t ih => rw [List.reverse_cons, List.reverse_cons]; exact Vals.append ih (.cons r .nil)
theorem Vals.rep {xs : List V} {us : List Value} (h : Vals xs us) : ∀ k : Nat, Vals (List.replicate k xs).flatten (List.replicate k us).flatten
  | 0 => .nil
  | k + 1 => by
    rw [List.replicate_succ, List.replicate_succ, List.flatten_cons, List.flatten_cons]
    exact Vals.append h (Vals.rep h k)
theorem foldl_rep (its : List Value) : ∀ (k : Nat) (acc : List Value),
    List.foldl (fun x1 x2 => x1 ++ x2) acc.toArray (List.replicate k its.toArray) = (acc ++ (List.replicate k its).flatten).toArray
  | 0, acc => by simp
  | k + 1, acc => by
    have e : acc.toArray ++ its.toArray = (acc ++ its).toArray := by simp
    have e2 : (acc ++ its) ++ (List.replicate k its).flatten = acc ++ (List.replicate (k + 1) its).flatten := by
      rw [List.replicate_succ, List.flatten_cons, List.append_assoc]
    rw [← e2, ← foldl_rep its k (acc ++ its), ← e, List.replicate_succ, List.foldl_cons]

section
variable {X : Cx} {pins : List (Addr × Obj)} {σ : St} {H : Hp} {s : Shared} {l b : Addr} {xs ys zs : List V}

/-! ### the two steps: a tracked list is rewritten, a new list is laid -/
theorem Inv.lset {its its' : List Value} {n : Nat} {f : Array Value → Array Value} {t' : Nat} (I : Inv X pins σ H s) (hH : H l = some (.lst xs))
    (e : s.heap.get? l = some { cls := .type "list", data := .seq its.toArray n }) (hf : f its.toArray = its'.toArray) (hv : Vals ys its') (hz : ys.length ≤ sizeLine) :
    Inv X pins σ (upd H l (.lst ys)) { s with heap := s.heap.update l (Obj.mapSeq f), toks := t' } := by
  have q := PySem.IsL.update e f
  rw [hf] at q
  refine I.write (x := l) (e := l) (by rw [hH]; exact trivial) (.inl rfl) (fun b' u hb hu => (Heap.get?_update_other s.heap (Obj.mapSeq f) (Ne.symm hb)).trans hu) ⟨_, q⟩ ?_
  exact ⟨hz, its', _, hv, q⟩
theorem Inv.lnew {its : List Value} {t' : Nat} (I : Inv X pins σ H s) (hv : Vals ys its) (hz : ys.length ≤ sizeLine) :
    Inv X pins σ (upd H s.heap.objs.size (.lst ys)) { s with heap := s.heap.push { cls := .type "list", data := .seq its.toArray }, toks := t' } :=
  I.laid (fun _ _ q => Heap.get?_push_of_some _ q) (Nat.le_refl _) ⟨hz, its, 0, hv, Heap.get?_push_size _ rfl⟩
theorem Inv.fresh (I : Inv X pins σ H s) : H s.heap.objs.size = none := I.hok.fresh (Nat.le_refl _)
theorem Inv.lstM (I : Inv X pins σ H s) (hH : H l = some (.lst xs)) : xs.length ≤ sizeLine ∧ ∃ (its : List Value) (n : Nat), Vals xs its ∧ xs.length = its.length ∧ s.heap.get? l = some { cls := .type "list", data := .seq its.toArray n } := by
  obtain ⟨z, its, n, r, e⟩ := I.hok l _ hH
  exact ⟨z, its, n, r, r.length, e⟩

theorem notLongL {n : Nat} (h : n ≤ sizeLine) : Builtin.List.listTooLong n = false := by
  unfold Builtin.List.listTooLong
  exact decide_eq_false (by omega)
end

section
variable {X : Cx}

/-! ### methods -/
def rAppend : V → List V → Hp → VK → Prop := fun x vs H Q => ∃ l xs y, x = .ref l ∧ vs = [y] ∧ H l = some (.lst xs) ∧ xs.length < sizeLine ∧ Q .non (upd H l (.lst (xs ++ [y])))
theorem mt_append : MtM X "list.append" rAppend := by
  intro pins s σ H x vs v us Q I rx rv h
  obtain ⟨l, xs, y, rfl, rfl, hH, hz, q⟩ := h
  cases rx
  obtain ⟨u, rfl, ru⟩ := rv.one
  obtain ⟨z, its, n, r, hl, e⟩ := I.lstM hH
  refine call_meets F.slot_list_append ⟨_, e, rfl⟩ F.entry_list_append (F.args_list_append_2 _ _) (PySem.list_append l its.toArray n u (by rw [List.size_toArray]; omega)) ⟨e, ?_⟩
  refine ⟨.non, _, I.lset (its' := its ++ [u]) hH e (by simp) (r.append (.cons ru .nil)) ?_, rfl, q⟩
  rw [List.length_append, List.length_singleton]
  omega

def rExtend : V → List V → Hp → VK → Prop := fun x vs H Q => ∃ l b xs zs, x = .ref l ∧ vs = [.ref b] ∧ H l = some (.lst xs) ∧ H b = some (.lst zs) ∧ xs.length + zs.length ≤ sizeLine ∧ Q .non (upd H l (.lst (xs ++ zs)))
def rPop : V → List V → Hp → VK → Prop := fun x vs H Q => ∃ l xs y, x = .ref l ∧ vs = [] ∧ H l = some (.lst xs) ∧ xs[xs.length - 1]? = some y ∧ Q y (upd H l (.lst xs.dropLast))
def rReverse : V → List V → Hp → VK → Prop := fun x vs H Q => ∃ l xs, x = .ref l ∧ vs = [] ∧ H l = some (.lst xs) ∧ Q .non (upd H l (.lst xs.reverse))
def rClear : V → List V → Hp → VK → Prop := fun x vs H Q => ∃ l xs, x = .ref l ∧ vs = [] ∧ H l = some (.lst xs) ∧ Q .non (upd H l (.lst []))
/-! ### list + list, list += list, list * int -/
def rCat : R2 := fun x y H Q => ∃ l b xs zs, x = .ref l ∧ y = .ref b ∧ H l = some (.lst xs) ∧ H b = some (.lst zs) ∧ xs.length + zs.length ≤ sizeLine ∧ ∀ p, H p = none → Q (.ref p) (upd H p (.lst (xs ++ zs)))
theorem op_cat : OpR X (binaryOp .Add) rCat := by
  intro pins s σ H x y v u Q I rx ry h
  obtain ⟨l, b, xs, zs, rfl, rfl, hH, hB, hz, q⟩ := h
  cases rx
  cases ry
  obtain ⟨z, its, n, r, hl, e⟩ := I.lstM hH
  obtain ⟨z2, its2, n2, r2, hl2, e2⟩ := I.lstM hB
  refine PySem.P.add_list e e2 ?_ (by rw [List.size_toArray, List.size_toArray]; omega)
  have ea : its.toArray ++ its2.toArray = (its ++ its2).toArray := by simp
  rw [ea]
  exact ⟨.ref _, _, I.lnew (t' := s.toks) (r.append r2) (by rw [List.length_append]; omega), rfl, q _ I.fresh⟩
/-- a list times an int (a negative one is nothing) -/
def rRep : R2 := fun x y H Q => ∃ l k xs, x = .ref l ∧ y = .int k ∧ H l = some (.lst xs) ∧ -(2 ^ 63) ≤ k ∧ k < 2 ^ 63 ∧ xs.length * k.toNat ≤ sizeLine ∧
  ∀ p, H p = none → Q (.ref p) (upd H p (.lst (List.replicate k.toNat xs).flatten))
theorem len_rep {α : Type} (xs : List α) (k : Nat) : (List.replicate k xs).flatten.length = k * xs.length := by
  induction k with
  | zero => simp
  | succ k ih => rw [List.replicate_succ, List.flatten_cons, List.length_append, ih, Nat.succ_mul, Nat.add_comm]
theorem op_rep : OpR X (binaryOp .Mult) rRep := by
  intro pins s σ H x y v u Q I rx ry h
  obtain ⟨l, k, xs, rfl, rfl, hH, h1, h2, hz, q⟩ := h
  cases rx
  obtain ⟨t, rfl⟩ := ry
  obtain ⟨z, its, n, r, hl, e⟩ := I.lstM hH
  have hlen : its.toArray.size * k.toNat ≤ sizeLine := by rw [List.size_toArray, ← hl]; exact hz
  have hcap : ¬ its.toArray.size * k.toNat > (2 ^ 63 - 1) / 8 := by
    have : (sizeLine : Nat) ≤ (2 ^ 63 - 1) / 8 := by decide
    omega
  have hfit : ¬ (!Builtin.List.listFitsIndex k) = true := by
    rw [fitsIndex_both h1 h2]
    exact Bool.false_ne_true
  have hlong : ¬ Builtin.List.listTooLong (its.toArray.size * k.toNat) = true := by
    rw [notLongL hlen]
    exact Bool.false_ne_true
  have hnew : List.foldl (fun x1 x2 => x1 ++ x2) #[] (List.replicate (if its.toArray.isEmpty = true then 0 else k.toNat) its.toArray) = (List.replicate k.toNat its).flatten.toArray := by
    have f0 : ∀ m : Nat, List.foldl (fun x1 x2 => x1 ++ x2) #[] (List.replicate m its.toArray) = (List.replicate m its).flatten.toArray := fun m => by
      have := foldl_rep its m []
      rw [List.nil_append] at this
      exact this
    rw [f0]
    cases its with
    | nil => simp
    | cons a r' => rw [if_neg (by simp)]
  refine wpAny_binaryOp_repeat_ref (T := "list") (U := "int") (by decide) ⟨_, e, rfl⟩ (fun s' => typeIs_int s' k t) noFill_list_mul F.fills_int_mul F.slot_int_rmul repeat_list F.slot_int_index.lookup
    (call_meets F.slot_int_rmul (typeIs_int s k t) F.entry_int_rmul (F.args_int_rmul_2 _ _) (int___rmul___int_list k t l its.toArray n)
      ⟨e, rfl, ⟨_, e, rfl⟩, call_meets F.slot_list_mul ⟨_, e, rfl⟩ F.entry_list_mul (F.args_list_mul_2 _ _) (AutoListH.list___mul___list_int_3 l its.toArray n k t hfit hcap hlong) ⟨e, ?_⟩⟩)
  rw [hnew]
  exact ⟨.ref _, _, I.lnew (t' := s.toks) (r.rep k.toNat) (by rw [len_rep, Nat.mul_comm]; exact hz), rfl, q _ I.fresh⟩

/-! ### del xs[i] -/
end

/-! ### xs[a:b] = ys -/
section
variable {prog : Program} {w : World} {A : Around} {E : Value → Shared → Prop} {s : Shared}
end

section
variable {X : Cx}
end
end L2

namespace L2
open PySem PySem.Spec PyProof.Rows

theorem Vals.ints : ∀ {ns : List Int} {us : List Value}, Vals (ns.map V.int) us → IntsAre us ns
  | [], us, h => by
    rw [List.map_nil] at h
    cases h
    exact IntsAre.nil
  | n :: ns, us, h => by
    rw [List.map_cons] at h
    cases h with
    | cons r t =>
      obtain ⟨k, rfl⟩ := r
      exact IntsAre.cons n k (Vals.ints t)
theorem Vals.strs : ∀ {xs : List Str} {us : List Value}, Vals (xs.map V.str) us → StrsAre us xs
  | [], us, h => by
    rw [List.map_nil] at h
    cases h
    exact StrsAre.nil
  | x :: xs, us, h => by
    rw [List.map_cons] at h
    cases h with
    | cons r t =>
      obtain ⟨k, rfl⟩ := r
      exact StrsAre.cons x k (Vals.strs t)
/-! ### the library's walks over a list of ints, kept objects alone -/
section
variable {prog : Program} {w : World} {A : Around} {E : Value → Shared → Prop} {s : Shared} {l : Addr} {its : List Value} {ns : List Int} {Q : Value → Shared → Prop}
end

/-! ### the calls, by values (CallR of 03t; MtR of 06l) -/
section
variable {X : Cx}
/-- sum(xs) of a list of ints -/
def rSum (K : PySem.W.Frag) : List V → Hp → VK → Prop := fun vs H Q => ∃ (a : Addr) (ns : List Int), vs = [V.ref a] ∧ SqL K H a (ns.map V.int) ∧ Q (.int ns.sum) H
/-- max(xs), min(xs) of a list of ints -/
def rMax (K : PySem.W.Frag) : List V → Hp → VK → Prop := fun vs H Q => ∃ (a : Addr) (ns : List Int), vs = [V.ref a] ∧ SqL K H a (ns.map V.int) ∧ 0 < ns.length ∧ ∀ m, m ∈ ns → (∀ y, y ∈ ns → y ≤ m) → Q (.int m) H
def rMin (K : PySem.W.Frag) : List V → Hp → VK → Prop := fun vs H Q => ∃ (a : Addr) (ns : List Int), vs = [V.ref a] ∧ SqL K H a (ns.map V.int) ∧ 0 < ns.length ∧ ∀ m, m ∈ ns → (∀ y, y ∈ ns → m ≤ y) → Q (.int m) H
/-! sorted, sort (fewer than 64 items: the library's own bound) -/
end

/-! ### list.index, flat items -/
section
variable {X : Cx}
end

/-! ### type(x) of an own instance; is, is not of a module's class -/
section
variable {X : Cx}
end

/-! ### any(xs), all(xs) of a list of bools -/
section
variable {X : Cx}
def rAny (K : PySem.W.Frag) : List V → Hp → VK → Prop := fun vs H Q => ∃ (a : Addr) (bs : List Bool), vs = [V.ref a] ∧ SqL K H a (bs.map V.bl) ∧ Q (.bl (bs.any id)) H
def rAll (K : PySem.W.Frag) : List V → Hp → VK → Prop := fun vs H Q => ∃ (a : Addr) (bs : List Bool), vs = [V.ref a] ∧ SqL K H a (bs.map V.bl) ∧ Q (.bl (bs.all id)) H
end

/-! ### == and != of data at any depth: none, bools, ints, texts, lists, tuples -/
mutual
inductive Dp (K : PySem.W.Frag) (H : Hp) : V → PyData → Prop
  | non : Dp K H .non .none
  | bl (b : Bool) : Dp K H (.bl b) (.bool b)
  | int (i : Int) : Dp K H (.int i) (.int i)
  | str (x : Str) : Dp K H (.str x) (.str x)
  | lst {a : Addr} {xs : List V} {ds : List PyData} : SqL K H a xs → DpAll K H xs ds → Dp K H (.ref a) (.list ds)
  | tup {a : Addr} {xs : List V} {ds : List PyData} : SqT K H a xs → DpAll K H xs ds → Dp K H (.ref a) (.tuple ds)
inductive DpAll (K : PySem.W.Frag) (H : Hp) : List V → List PyData → Prop
  | nil : DpAll K H [] []
  | cons {v : V} {vs : List V} {d : PyData} {ds : List PyData} : Dp K H v d → DpAll K H vs ds → DpAll K H (v :: vs) (d :: ds)
end
section
variable {X : Cx} {pins : List (Addr × Obj)} {σ : St} {H : Hp} {s : Shared}
mutual
theorem Dp.reads (I : Inv X pins σ H s) : ∀ (d : PyData) (v : V) (u : Value), Dp X.K H v d → RelV v u → ∃ as, Reads s.heap u d as
  | .none, _, _, h, r => by
    cases h
    cases r
    exact ⟨_, Reads.none⟩
  | .bool b, _, _, h, r => by
    cases h
    cases r
    exact ⟨_, Reads.bool b⟩
  | .int i, _, _, h, r => by
    cases h
    obtain ⟨t, rfl⟩ := r
    exact ⟨_, Reads.int i t⟩
  | .str x, _, _, h, r => by
    cases h
    obtain ⟨t, rfl⟩ := r
    exact ⟨_, Reads.str x t⟩
  | .list ds, _, _, h, r => by
    cases h with
    | lst hs ha =>
      cases r
      obtain ⟨its, rv, ⟨o, n, ho, hc, _, hd⟩, _⟩ := I.list hs
      obtain ⟨as, hr⟩ := Dp.readsAll I ds _ its ha rv
      exact ⟨_, Reads.list ho hc hd hr⟩
  | .tuple ds, _, _, h, r => by
    cases h with
    | tup hs ha =>
      cases r
      obtain ⟨its, rv, ⟨o, ho, hc, n, hd⟩, _⟩ := I.tuple hs
      obtain ⟨as, hr⟩ := Dp.readsAll I ds _ its ha rv
      exact ⟨_, Reads.tuple ho hc hd hr⟩
  | .dict _, _, _, h, _ => by cases h
theorem Dp.readsAll (I : Inv X pins σ H s) : ∀ (ds : List PyData) (vs : List V) (us : List Value), DpAll X.K H vs ds → Vals vs us → ∃ as, ReadsAll s.heap us ds as
  | [], _, _, h, r => by
    cases h
    cases r
    exact ⟨_, ReadsAll.nil⟩
  | d :: ds, _, _, h, r => by
    cases h with
    | cons h1 h2 =>
      cases r with
      | cons r1 r2 =>
        obtain ⟨as, q1⟩ := Dp.reads I d _ _ h1 r1
        obtain ⟨bs, q2⟩ := Dp.readsAll I ds _ _ h2 r2
        exact ⟨_, ReadsAll.cons q1 q2⟩
end
end
section
variable {X : Cx}
def rEqD (K : PySem.W.Frag) : R2 := fun x y H Q => ∃ d e, Dp K H x d ∧ Dp K H y e ∧ SeqAt.shaped d = true ∧ SeqAt.shaped e = true ∧ Q (.bl (PyData.eqv d e)) H
def rNeD (K : PySem.W.Frag) : R2 := fun x y H Q => ∃ d e, Dp K H x d ∧ Dp K H y e ∧ SeqAt.shaped d = true ∧ SeqAt.shaped e = true ∧ Q (.bl (!PyData.eqv d e)) H
theorem op_neD (hu : X.A.units + 64 < cLine) : OpR X (compareOp .NotEq) (rNeD X.K) := by
  intro pins s σ H x y v u Q I rx ry h
  obtain ⟨d, e, hd, he, sd, se, q⟩ := h
  obtain ⟨as, r1⟩ := Dp.reads I d x v hd rx
  obtain ⟨bs, r2⟩ := Dp.reads I e y u he ry
  exact SeqAt.compareNe_shaped r1 r2 sd se hu ⟨.bl _, H, I, rfl, q⟩
end
end L2

namespace L2
open PySem PySem.Spec PyProof.Rows
abbrev CellAt (h : Heap) (c : Addr) (v : Option Value) : Prop := h.IsCell c v
def relS (scope sc : Scope) : Scope :=
  { scope with names := scope.names.map fun (n, k) => if (k == .free && sc.kind == .function && sc.names.lookup n == some .cell) then (n, .cell) else (n, k) }

def cloFrom (cells : List (Str × Addr)) : List (Str × NameKind) → List (Str × Addr) → List (Str × Addr)
  | [], acc => acc
  | (n, k) :: r, acc => if k == .free then cloFrom cells r ((n, (cells.lookup n).getD 0) :: acc) else cloFrom cells r acc

theorem closure_loop (env : Env) (f : Str × NameKind → List (Str × Addr) → Sem (ForInStep (List (Str × Addr))))
    (hf : ∀ n k c, f (n, k) c = if k == .free then (do let a ← cellOf env n; pure (.yield ((n, a) :: c))) else pure (.yield c)) :
    ∀ (names : List (Str × NameKind)) (acc : List (Str × Addr)), (∀ y ∈ names, y.2 = .free → ∃ c, env.cells.lookup y.1 = some c) → forIn names acc f = pure (cloFrom env.cells names acc)
  | [], acc, _ => by rw [List.forIn_nil]; rfl
  | (n, k) :: r, acc, h => by
    rw [List.forIn_cons, hf]
    have ih := fun acc => closure_loop env f hf r acc fun y hy => h y (List.mem_cons_of_mem _ hy)
    unfold cloFrom
    by_cases hk : (k == NameKind.free) = true
    · rw [if_pos hk, if_pos hk]
      obtain ⟨c, hc⟩ := h (n, k) List.mem_cons_self (by simpa using hk)
      have e : cellOf env n = pure c := by unfold cellOf; rw [hc]
      rw [e]
      have e2 : (env.cells.lookup n).getD 0 = c := by rw [hc]; rfl
      rw [e2]
      exact ih _
    · rw [if_neg hk, if_neg hk]
      exact ih _
theorem closure_ok {scope : Scope} {env : Env} (h : ∀ y ∈ scope.names, y.2 = .free → ∃ c, env.cells.lookup y.1 = some c) : closureFor scope env = pure (cloFrom env.cells scope.names []) := by
  simp only [closureFor]
  rw [closure_loop env _ (fun n k c => rfl) scope.names [] h]
  rfl

theorem mem_lookup {α : Type} : ∀ {l : List (Str × α)} {n : Str} {c : α}, (n, c) ∈ l → ∃ c', l.lookup n = some c'
  | (k, v) :: r, n, c, h => by
    rw [List.lookup_cons]
    cases hb : n == k with
    | true => exact ⟨_, rfl⟩
    | false =>
      rcases List.mem_cons.mp h with e | h
      · cases e; simp at hb
      · exact mem_lookup h

theorem cloFrom_mem {cells : List (Str × Addr)} : ∀ {names : List (Str × NameKind)} {acc : List (Str × Addr)} {n : Str} {c : Addr}, (n, c) ∈ cloFrom cells names acc → (n, c) ∈ acc ∨ ((n, .free) ∈ names ∧ c = (cells.lookup n).getD 0)
  | [], _, _, _, h => .inl h
  | (m, k) :: r, acc, n, c, h => by
    unfold cloFrom at h
    split at h
    · rename_i hk
      have hk : k = .free := by simpa using hk
      rcases cloFrom_mem h with h | ⟨h1, h2⟩
      · rcases List.mem_cons.mp h with e | h
        · cases e; exact .inr ⟨hk ▸ List.mem_cons_self, rfl⟩
        · exact .inl h
      · exact .inr ⟨List.mem_cons_of_mem _ h1, h2⟩
    · rcases cloFrom_mem h with h | ⟨h1, h2⟩
      · exact .inl h
      · exact .inr ⟨List.mem_cons_of_mem _ h1, h2⟩
theorem cloFrom_acc {cells : List (Str × Addr)} : ∀ {names : List (Str × NameKind)} {acc : List (Str × Addr)} {p : Str × Addr}, p ∈ acc → p ∈ cloFrom cells names acc
  | [], _, _, h => h
  | (m, k) :: r, acc, p, h => by
    unfold cloFrom
    split
    · exact cloFrom_acc (List.mem_cons_of_mem _ h)
    · exact cloFrom_acc h
theorem cloFrom_has {cells : List (Str × Addr)} : ∀ {names : List (Str × NameKind)} {acc : List (Str × Addr)} {n : Str}, (n, .free) ∈ names → (n, (cells.lookup n).getD 0) ∈ cloFrom cells names acc
  | (m, k) :: r, acc, n, h => by
    unfold cloFrom
    rcases List.mem_cons.mp h with e | h
    · cases e
      exact cloFrom_acc List.mem_cons_self
    · split
      · exact cloFrom_has h
      · exact cloFrom_has h

theorem cells_mem : ∀ {names : List (Str × NameKind)} {h : Heap} {acc : List (Str × Addr)} {x : Str} {c : Addr}, (x, c) ∈ cellsFrom h.objs.size names acc →
    (x, c) ∈ acc ∨ ((x, .cell) ∈ names ∧ h.objs.size ≤ c ∧ CellAt (pushCells h names) c none)
  | [], _, _, _, _, h => .inl h
  | (n, k) :: r, h, acc, x, c, hm => by
    unfold cellsFrom at hm
    unfold pushCells
    split at hm
    · rename_i hk
      rw [if_pos hk]
      have hk : k = .cell := by simpa using hk
      rw [← Heap.size_push h { cls := .type "cell", data := .cell none }] at hm
      rcases cells_mem hm with hm | ⟨h1, h2, h3⟩
      · rcases List.mem_cons.mp hm with e | hm
        · cases e
          exact .inr ⟨hk ▸ List.mem_cons_self, Nat.le_refl _, _, pushCells_keeps r _ _ _ (Heap.get?_push_size _ rfl), rfl⟩
        · exact .inl hm
      · rw [Heap.size_push] at h2
        exact .inr ⟨List.mem_cons_of_mem _ h1, Nat.le_of_succ_le h2, h3⟩
    · rename_i hk
      rw [if_neg hk]
      rcases cells_mem hm with hm | ⟨h1, h2, h3⟩
      · exact .inl hm
      · exact .inr ⟨List.mem_cons_of_mem _ h1, h2, h3⟩
theorem cells_acc : ∀ {names : List (Str × NameKind)} {n : Nat} {acc : List (Str × Addr)} {p : Str × Addr}, p ∈ acc → p ∈ cellsFrom n names acc
  | [], _, _, _, h => h
  | (m, k) :: r, n, acc, p, h => by
    unfold cellsFrom
    split
    · exact cells_acc (List.mem_cons_of_mem _ h)
    · exact cells_acc h
theorem cells_has : ∀ {names : List (Str × NameKind)} {n : Nat} {acc : List (Str × Addr)} {x : Str}, (x, .cell) ∈ names → ∃ c, (x, c) ∈ cellsFrom n names acc
  | (m, k) :: r, n, acc, x, h => by
    unfold cellsFrom
    rcases List.mem_cons.mp h with e | h
    · cases e
      exact ⟨n, cells_acc List.mem_cons_self⟩
    · split
      · exact cells_has h
      · exact cells_has h
theorem cells_inj : ∀ {names : List (Str × NameKind)} {h : Heap} {acc : List (Str × Addr)} {x y : Str} {c : Addr}, (∀ p ∈ acc, p.2 < h.objs.size) → (∀ x y c, (x, c) ∈ acc → (y, c) ∈ acc → x = y) →
    (x, c) ∈ cellsFrom h.objs.size names acc → (y, c) ∈ cellsFrom h.objs.size names acc → x = y
  | [], _, _, _, _, _, _, hi, h1, h2 => hi _ _ _ h1 h2
  | (n, k) :: r, h, acc, x, y, c, hl, hi, h1, h2 => by
    unfold cellsFrom at h1 h2
    split at h1
    · rename_i hk
      rw [if_pos hk] at h2
      rw [← Heap.size_push h { cls := .type "cell", data := .cell none }] at h1 h2
      refine cells_inj (h := h.push _) (fun p hp => ?_) (fun x y c a b => ?_) h1 h2
      · rw [Heap.size_push]
        rcases List.mem_cons.mp hp with rfl | hp
        · exact Nat.lt_succ_self _
        · exact Nat.lt_succ_of_lt (hl p hp)
      · rcases List.mem_cons.mp a with e | a <;> rcases List.mem_cons.mp b with e' | b
        · cases e; cases e'; rfl
        · cases e; exact absurd (hl _ b) (Nat.lt_irrefl _)
        · cases e'; exact absurd (hl _ a) (Nat.lt_irrefl _)
        · exact hi _ _ _ a b
    · rename_i hk
      rw [if_neg hk] at h2
      exact cells_inj hl hi h1 h2

theorem newEnv_comp {M : Model} {A : Around} {E : Value → Shared → Prop} {s : Shared} {scope : Scope} {globals : Addr} {closure : List (Str × Addr)} {qual : Str} {func : Option Addr} {code : Value} {around : Env} {builtins : Addr} {Q : Env → Shared → Prop}
    (h : Q (newEnv scope s.heap.objs.size globals (cellsFrom (s.heap.objs.size + 1) scope.names closure) qual func code (some around) builtins)
      { s with heap := pushCells (s.heap.push { cls := .type "dict", data := .dict #[] }) scope.names }) :
    wpAny M A (newFunctionEnv scope globals closure [] qual func code (some around) builtins) Q E s := by
  simp only [newFunctionEnv, Option.isSome_some, if_true]
  refine wpAny_bind (wpAny_alloc ?_)
  refine wpAny_bind (wpAny_layCells _ (fun n k c => rfl) scope.names closure _ _ ?_)
  rw [show ({ s with heap := s.heap.push { cls := .type "dict", data := .dict #[] } } : Shared).heap.objs.size = s.heap.objs.size + 1 from Heap.size_push ..]
  rw [List.forIn_nil]
  exact wpAny_bind (wpAny_pure (wpAny_pure h))

/-- every name of the written scope, in the scope that runs -/
theorem lookup_relS {sc : Scope} : ∀ {names : List (Str × NameKind)} {x : Str} {k : NameKind},
    (names.map fun (n, k) => if (k == NameKind.free && sc.kind == .function && sc.names.lookup n == some .cell) then (n, NameKind.cell) else (n, k)).lookup x = some k →
    ∃ k', names.lookup x = some k' ∧ (k = k' ∨ (k' = .free ∧ k = .cell))
  | [], _, _, h => by simp at h
  | (n, k₀) :: r, x, k, h => by
    have ih := @lookup_relS sc r x k
    have h' : List.lookup x ((if (k₀ == NameKind.free && sc.kind == .function && sc.names.lookup n == some .cell) = true then (n, NameKind.cell) else (n, k₀)) :: (r.map _)) = some k := h
    cases hx : x == n with
    | true =>
      simp only [List.lookup_cons, hx]
      by_cases hc : (k₀ == NameKind.free && sc.kind == .function && sc.names.lookup n == some .cell) = true
      · rw [if_pos hc] at h'
        simp only [List.lookup_cons, hx] at h'
        cases h'
        simp only [Bool.and_eq_true, beq_iff_eq] at hc
        exact ⟨k₀, rfl, .inr ⟨hc.1.1, rfl⟩⟩
      · rw [if_neg hc] at h'
        simp only [List.lookup_cons, hx] at h'
        cases h'
        exact ⟨_, rfl, .inl rfl⟩
    | false =>
      simp only [List.lookup_cons, hx]
      by_cases hc : (k₀ == NameKind.free && sc.kind == .function && sc.names.lookup n == some .cell) = true
      · rw [if_pos hc] at h'
        simp only [List.lookup_cons, hx] at h'
        exact ih h'
      · rw [if_neg hc] at h'
        simp only [List.lookup_cons, hx] at h'
        exact ih h'
/-- the names of a comprehension's block: its own (with their places in N), or captured -/
structure BlkOk (N : List Str) (sc scope : Scope) (own : List (Str × Nat)) : Prop where
  kind : scope.kind = .function
  uniq : ∀ y ∈ scope.names, scope.names.lookup y.1 = some y.2
  ix : ∀ p ∈ own, N[p.2]? = some p.1
  free : ∀ y ∈ scope.names, y.2 = .free → sc.names.lookup y.1 = some .cell ∨ sc.names.lookup y.1 = some .free
  own : ∀ y ∈ scope.names, y.2 = .local ∨ y.2 = .cell → y.1 ∈ own.map (·.1) ∨ y.1 ∉ N
/-- the slots of the block's own names forgotten -/
def wipe (σ : St) : List Nat → St
  | [] => σ
  | v :: vs => (wipe σ vs).set v none
theorem wipe_length (σ : St) : ∀ vs : List Nat, (wipe σ vs).length = σ.length
  | [] => rfl
  | v :: vs => by unfold wipe; rw [List.length_set, wipe_length σ vs]
theorem wipe_some {σ : St} {i : Nat} {x : V} : ∀ {vs : List Nat}, (wipe σ vs)[i]? = some (some x) → σ[i]? = some (some x) ∧ i ∉ vs
  | [], h => ⟨h, by simp⟩
  | v :: vs, h => by
    unfold wipe at h
    by_cases hi : v = i
    · subst hi
      by_cases hv : v < (wipe σ vs).length
      · rw [List.getElem?_set_self hv] at h; cases h
      · rw [List.getElem?_eq_none (by simpa using hv)] at h; cases h
    · rw [List.getElem?_set_ne hi] at h
      obtain ⟨h1, h2⟩ := wipe_some h
      exact ⟨h1, by simp only [List.mem_cons, not_or]; exact ⟨fun e => hi e.symm, h2⟩⟩

/-- the context of a block that starts at s, its iterator's objects at fp -/
abbrev Cx.blk (X : Cx) (s : Shared) (H : Hp) (scope : Scope) (cenv : Env) (fp : List Addr) : Cx := { X with s_0 := s, H_0 := H, env := cenv, outer := X.stack, ex := fp, fn := fun x => scope.names.lookup x == some .cell, pn := [], xe := fun _ _ => False }
section
variable {X : Cx} {pins : List (Addr × Obj)} {σ : St} {H : Hp} {s : Shared}
theorem block_start {scope : Scope} {own : List (Str × Nat)} {fp : List Addr} (I : Inv X pins σ H s) (ok : BlkOk X.N X.env.scope scope own) (hN : X.N.Nodup) (hfp : ∀ b ∈ fp, FpOk X pins H b ∧ b < s.heap.objs.size) :
    Inv (X.blk s H scope (compEnvC scope (cellsFrom (s.heap.objs.size + 1) scope.names (cloFrom X.env.cells scope.names [])) s.heap.objs.size X.env) fp) [] (wipe σ (own.map (·.2))) H { s with heap := pushCells (s.heap.push { cls := .type "dict", data := .dict #[] }) scope.names } := by
  have hfree : ∀ y ∈ scope.names, y.2 = .free → ∃ c, X.env.cells.lookup y.1 = some c := fun y hy e => by
    rcases ok.free y hy e with k | k
    · exact I.ok.has _ (.inl k)
    · exact I.ok.has _ (.inr k)
  generalize hcenv : compEnvC scope (cellsFrom (s.heap.objs.size + 1) scope.names (cloFrom X.env.cells scope.names [])) s.heap.objs.size X.env = cenv
  have kp : ∀ b o, s.heap.get? b = some o → (pushCells (s.heap.push { cls := .type "dict", data := .dict #[] }) scope.names).get? b = some o := fun b o e => pushCells_keeps _ _ _ _ (Heap.get?_push_of_some _ e)
  have hL : cenv.locals = s.heap.objs.size := by rw [← hcenv]; rfl
  have hcl : cenv.cells = cellsFrom (s.heap.objs.size + 1) scope.names (cloFrom X.env.cells scope.names []) := by rw [← hcenv]; rfl
  have hsc : cenv.scope = relS scope X.env.scope := by rw [← hcenv]; rfl
  rw [← Heap.size_push s.heap { cls := .type "dict", data := .dict #[] }] at hcl
  have cm : ∀ {y c}, (y, c) ∈ cloFrom X.env.cells scope.names [] → X.env.cells.lookup y = some c ∧ c < s.heap.objs.size := fun {y c} hm => by
    rcases cloFrom_mem hm with hm | ⟨h1, rfl⟩
    · cases hm
    · obtain ⟨c, hc⟩ := hfree _ h1 rfl
      rw [hc]
      obtain ⟨w, z⟩ := I.cell _ _ hc
      exact ⟨rfl, z.lt⟩
  have mem : ∀ {y c}, cenv.cells.lookup y = some c → (X.env.cells.lookup y = some c ∧ c < s.heap.objs.size) ∨ (s.heap.objs.size + 1 ≤ c ∧ CellAt (pushCells (s.heap.push { cls := .type "dict", data := .dict #[] }) scope.names) c none) := fun {y c} e => by
    rw [hcl] at e
    rcases cells_mem (PySem.mem_of_lookup e) with hm | ⟨_, h2, h3⟩
    · exact .inl (cm hm)
    · rw [Heap.size_push] at h2; exact .inr ⟨h2, h3⟩
  have look : ∀ {y}, scope.names.lookup y = some .free → ∃ c, cenv.cells.lookup y = some c ∧ X.env.cells.lookup y = some c := fun {y} hl => by
    have hy : (y, NameKind.free) ∈ scope.names := PySem.mem_of_lookup hl
    obtain ⟨c', e'⟩ := mem_lookup (cells_acc (names := scope.names) (n := (s.heap.push { cls := .type "dict", data := .dict #[] }).objs.size) (cloFrom_has (cells := X.env.cells) (acc := []) hy))
    rw [← hcl] at e'
    refine ⟨c', e', ?_⟩
    rw [hcl] at e'
    rcases cells_mem (PySem.mem_of_lookup e') with hm | ⟨h1, _, _⟩
    · exact (cm hm).1
    · have := ok.uniq _ h1
      rw [hl] at this; cases this
  have okB : (X.blk s H scope cenv fp).Ok := by
    refine ⟨I.ok.mod, by show cenv.scope.kind = _; rw [hsc]; exact ok.kind, by show cenv.globals = _; rw [← hcenv]; exact I.ok.glob, by show cenv.builtins = _; rw [← hcenv]; exact I.ok.blt, by show s.heap.objs.size ≤ cenv.locals; rw [hL]; exact Nat.le_refl _,
      fun y z c e1 e2 => ?_, fun y hy => ?_, fun y c z e => ?_, I.ok.hd, I.ok.frames, .inl rfl, fun b hb => ⟨?_, fun y c e z => ?_⟩, I.bs, Nat.le_trans I.ok.bsz I.sz, fun b o e hb => ?_, fun b hb z => ?_, I.stack, I.stkFree⟩
    · have e1 : cenv.cells.lookup y = some c := e1
      have e2 : cenv.cells.lookup z = some c := e2
      rw [hcl] at e1 e2
      refine cells_inj (fun p hp => ?_) (fun y z c a b => I.ok.inj y z c (cm a).1 (cm b).1) (PySem.mem_of_lookup e1) (PySem.mem_of_lookup e2)
      rw [Heap.size_push]
      exact Nat.lt_succ_of_lt (cm (y := p.1) (c := p.2) hp).2
    · show ∃ c, cenv.cells.lookup y = some c
      have key : ∀ k, cenv.kindOf y = some k → (k = .cell ∨ k = .free) → ∃ c, cenv.cells.lookup y = some c := fun k hk hk' => by
        unfold Env.kindOf at hk
        rw [hsc] at hk
        obtain ⟨k', e, r⟩ := lookup_relS hk
        have : k' = .cell ∨ k' = .free := by
          rcases r with rfl | ⟨rfl, _⟩
          · exact hk'
          · exact .inr rfl
        rcases this with rfl | rfl
        · obtain ⟨c, hm⟩ := cells_has (n := (s.heap.push { cls := .type "dict", data := .dict #[] }).objs.size) (acc := cloFrom X.env.cells scope.names []) (PySem.mem_of_lookup e)
          obtain ⟨c', e'⟩ := mem_lookup hm
          exact ⟨c', by rw [hcl]; exact e'⟩
        · obtain ⟨c, h1, _⟩ := look e
          exact ⟨c, h1⟩
      rcases hy with hy | hy
      · exact key _ hy (.inl rfl)
      · exact key _ hy (.inr rfl)
    · have z : (scope.names.lookup y == some NameKind.cell) = true := z
      have z : scope.names.lookup y = some .cell := by simpa using z
      have e : cenv.cells.lookup y = some c := e
      rw [hcl] at e
      rcases cells_mem (PySem.mem_of_lookup e) with hm | ⟨_, h2, _⟩
      · rcases cloFrom_mem hm with hm | ⟨h1, _⟩
        · cases hm
        · have q := ok.uniq _ h1
          rw [z] at q; cases q
      · rw [Heap.size_push] at h2
        exact Nat.le_of_succ_le h2
    · show b ≠ cenv.locals
      rw [hL]; exact Nat.ne_of_lt (hfp b hb).2
    · have e : cenv.cells.lookup y = some c := e
      rcases mem e with ⟨h1, _⟩ | ⟨h1, _⟩
      · exact (hfp b hb).1.2.2.2.2.1 y c h1 z
      · have h2 : s.heap.objs.size + 1 ≤ b := by rw [← z]; exact h1
        exact absurd (Nat.lt_of_lt_of_le (hfp b hb).2 (Nat.le_of_succ_le h2)) (Nat.lt_irrefl _)
    · rcases (hfp b hb).1.2.2.2.1 with z | z
      · exact I.ok.noex b o e z
      · exact absurd (Nat.lt_of_lt_of_le (Heap.lt_size e) (Nat.le_trans I.ok.bsz z)) (Nat.lt_irrefl _)
    · rcases List.mem_cons.mp (I.stkSub b z) with z | z
      · exact (hfp b hb).1.2.1 z
      · exact (hfp b hb).1.2.2.1 z
  refine ⟨okB, rfl, I.bare, Un.kept kp, ⟨fun _ => none, ?_, fun i y av e1 e2 e3 => ?_⟩, fun y c e => ?_, ?_, fun y c e => ?_, fun p hp => ?_, I.hok.kept kp, by rw [wipe_length]; exact I.len⟩
  · show Heap.Ns _ cenv.locals _
    rw [hL]
    exact Heap.Ns.keeps (Heap.Ns.new ..) fun b o e => pushCells_keeps _ _ _ _ e
  · obtain ⟨e2, hne⟩ := wipe_some e2
    have hfr : scope.names.lookup y = some .free ∧ (cenv.kindOf y = some .cell ∨ cenv.kindOf y = some .free) := by
      have key : ∀ k, cenv.scope.names.lookup y = some k → k = .local ∨ k = .cell ∨ k = .free → scope.names.lookup y = some .free ∧ (cenv.kindOf y = some .cell ∨ cenv.kindOf y = some .free) := fun k hk hk' => by
        have hk0 := hk
        rw [hsc] at hk
        obtain ⟨k', e, r⟩ := lookup_relS hk
        have no : ¬ (k' = .local ∨ k' = .cell) := fun hh => by
          rcases ok.own _ (PySem.mem_of_lookup e) hh with e' | e'
          · obtain ⟨p, hp, hpy⟩ := List.mem_map.mp e'
            have e3 := ok.ix p hp
            have : p.1 = y := hpy
            rw [this] at e3
            exact hne (List.mem_map.mpr ⟨p, hp, nodup_ix hN e3 e1⟩)
          · exact e' (List.mem_of_getElem? e1)
        rcases r with rfl | ⟨rfl, rfl⟩
        · rcases hk' with rfl | rfl | rfl
          · exact absurd (.inl rfl) no
          · exact absurd (.inr rfl) no
          · exact ⟨e, .inr hk0⟩
        · exact ⟨e, .inl hk0⟩
      have e3 : Vis cenv.scope y := e3
      rcases e3 with e3 | e3 | e3
      · exact key _ e3 (.inl rfl)
      · exact key _ e3 (.inr (.inl rfl))
      · exact key _ e3 (.inr (.inr rfl))
    obtain ⟨m, hn, hl⟩ := I.loc
    have hvis : Vis X.env.scope y := (ok.free _ (PySem.mem_of_lookup hfr.1) rfl).elim (fun k => .inr (.inl k)) (fun k => .inr (.inr k))
    obtain ⟨w, r, q⟩ := hl i y av e1 e2 hvis
    refine ⟨w, r, .inr ⟨hfr.2, ?_⟩⟩
    obtain ⟨c, h1, h2⟩ := look hfr.1
    rcases q with ⟨k, _⟩ | ⟨_, c', e', z⟩
    · have k : X.env.scope.names.lookup y = some .local := k
      rcases ok.free _ (PySem.mem_of_lookup hfr.1) rfl with k' | k' <;> rw [show X.env.scope.names.lookup y = _ from k'] at k <;> cases k
    · rw [h2] at e'; cases e'
      exact ⟨c, h1, z.keeps kp⟩
  · have e : cenv.cells.lookup y = some c := e
    rcases mem e with ⟨h1, _⟩ | ⟨_, z⟩
    · obtain ⟨w, z⟩ := I.cell y c h1
      exact ⟨w, z.keeps kp⟩
    · exact ⟨_, z⟩
  · show H cenv.locals = none
    rw [hL]; exact I.hok.fresh (Nat.le_refl _)
  · have e : cenv.cells.lookup y = some c := e
    rcases mem e with ⟨h1, _⟩ | ⟨h1, _⟩
    · exact I.freeC y c h1
    · exact I.hok.fresh (Nat.le_of_succ_le h1)
  · exact absurd (show p ∈ ([] : List (Addr × Obj)) ++ [] from hp) (by simp)

/-- an item appended to a tracked list -/
theorem app_ok {E : Value → Shared → Prop} {D : Addr} {xs : List V} {y : V} {v : Value} {Q : Value → Shared → Prop} (I : Inv X pins σ H s) (hD : H D = some (.lst xs)) (hz : xs.length < sizeLine) (r : RelV y v)
    (h : ∀ s', Inv X pins σ (upd H D (.lst (xs ++ [y]))) s' → Q .none s') : wpAny (model X.prog X.w) X.A (call (.builtin "list.append") [.ref D, v]) Q E s := by
  obtain ⟨hz', its, n, ri, e⟩ := I.hok D _ hD
  have hl := ri.length
  refine append_at (hsz := by rw [List.size_toArray]; omega) e fun h' sb ho' => ?_
  refine h { s with heap := h' } (I.write (t' := s.toks) (by rw [hD]; trivial) (.inl rfl) (fun b u hb q => (sb.2 b hb).trans q) ⟨_, ho'⟩ ⟨by rw [List.length_append]; exact hz, its ++ [v], n + 1, ri.append (.cons r .nil), ?_⟩)
  rw [ho']
  simp

/-- a clause's tests -/
def PTs (X : Cx) (ifs : List Expr) (t : TT) : Prop :=
  ∀ (pins : List (Addr × Obj)) (s : Shared) (σ : St) (H : Hp) (Q : Bool → Hp → Prop), Inv X pins σ H s → t σ H Q →
    wpAny (model X.prog X.w) X.A (forIn ifs true fun c r => if r = true then do let ok ← isTrue c X.env (eval c X.env); pure (ForInStep.yield ok) else pure (ForInStep.yield r)) (TP X pins σ Q) X.xe s
def tYes : TT := fun _ H Q => Q true H
theorem pts_nil : PTs X [] tYes := fun _ _ _ H _ I h => wpAny_tests_nil ⟨H, I, h⟩
theorem pts_one {c : Expr} {t : TT} (h : PT X c t) : PTs X [c] t := fun pins s σ H Q I hw => wpAny_tests_one (h pins s σ H Q I hw)
end

theorem thnF {α : Type} {t : Sem α} {Q Q' : α → Shared → Prop} {M : Model} {A : Around} {E : Value → Shared → Prop} {s : Shared} (h : wpAny M A t Q (fun _ _ => False) s) (hQ : ∀ a s, Q a s → Q' a s) : wpAny M A t Q' E s := wpAny_mono h hQ fun _ _ z => False.elim z

/-- the loop of a list comprehension's block, the target of any form (codeAny_compLoop_tests asks a target that no tuple goes to; statement and proof follow it, PyProof/CompMap.lean:41-61, with the step letOwnedTupleGo kept) -/
theorem compLoop_any {prog : Program} {w : World} {A : Around} {R : Result → Shared → Prop} {s : Shared} {elt target iter : Expr} {ifs : List Expr} {scope : Scope} {pos : Pos} {it acc : Value} {env : Env} (I : Nat → Shared → Prop)
    (turn : ∀ n s, I n s → wpAny (model prog w) A (pyNext it) (fun r s₁ => match r with
      | none => R (.ok .next) s₁
      | some v => wpAny (model prog w) A (letOwnedTupleGo target it v) (fun _ s₁' => wpAny (model prog w) A (assign target env v) (fun _ s₂ =>
          wpAny (model prog w) A (forIn ifs true fun c r => if r = true then do let ok ← isTrue c env (eval c env); pure (ForInStep.yield ok) else pure (ForInStep.yield r)) (fun ok s₃ =>
            if ok = true then wpAny (model prog w) A (eval elt env) (fun x s₄ =>
              wpAny (model prog w) A (call (.builtin "list.append") [acc, x]) (fun _ s₅ => ∃ m, m < n ∧ I m s₅) (notedBy (model prog w) A env fun e s' => R (.error e) s') s₄) (notedBy (model prog w) A env fun e s' => R (.error e) s') s₃
            else ∃ m, m < n ∧ I m s₃) (notedBy (model prog w) A env fun e s' => R (.error e) s') s₂) (notedBy (model prog w) A env fun e s' => R (.error e) s') s₁') (notedBy (model prog w) A env fun e s' => R (.error e) s') s₁) (notedBy (model prog w) A env fun e s' => R (.error e) s') s)
    (n : Nat) (h : I n s) :
    codeAny (model prog w) A (.compLoop (.ListComp elt [⟨target, iter, ifs, 0⟩] scope pos) 0 it acc env) R s := by
  refine codeAny_loop rfl I (fun n s hI => ?_) n h
  show wpAny _ A ((compTurn (.ListComp elt [⟨target, iter, ifs, 0⟩] scope pos) 0 it acc env).onRaise (fun x => do noteFrame x env; theTreesLotGoes x)) _ _ s
  refine wpAny_noted ?_
  rw [compTurn_list]
  refine wpAny_bind (wpAny_standAt (wpAny_bind (wpAny_mono (turn n s hI) (fun r s₁ h₁ => ?_) fun _ _ h' => h')))
  cases r with
  | none => exact wpAny_pure h₁
  | some v =>
    refine wpAny_bind (wpAny_mono h₁ (fun _ s₁' h₁' => ?_) fun _ _ h' => h')
    refine wpAny_bind (wpAny_mono h₁' (fun _ s₂ h₂ => wpAny_bind (wpAny_mono h₂ (fun ok s₃ h₃ => ?_) fun _ _ h' => h')) fun _ _ h' => h')
    cases ok with
    | false => exact wpAny_pure ⟨rfl, h₃⟩
    | true =>
      exact wpAny_bind (wpAny_bind (wpAny_mono h₃ (fun x s₄ h₄ => wpAny_bind (wpAny_mono h₄ (fun _ s₅ h₅ => wpAny_pure (wpAny_pure ⟨rfl, h₅⟩)) fun _ _ h' => h')) fun _ _ h' => h'))

section
variable {X : Cx}
/-- [elt for target in iter if ..]: D the new list; W by the turn and a measure, Nx what a turn is to reach -/
def tLc (wi : TI) (g : TG) (tt : TT) (te : TE) (vs : List Nat) : TE := fun σ H Q => wi σ H fun J H1 => ∀ D, H1 D = none → ∃ W : Nat → Nat → Hp → Prop, (∃ m, W 0 m (upd H1 D (.lst []))) ∧ ∀ i m H, W i m H →
  (J.stop i H ∧ Q (.ref D) H) ∨ (J.go i H ∧ ∃ Nx : Hp → Prop, (∀ H', Nx H' → ∃ m', m' < m ∧ W (i + 1) m' H') ∧ ∀ x H', J.yld i H x H' → g x (wipe σ vs) H' fun σ2 H2 => wipe σ2 vs = wipe σ vs ∧ tt σ2 H2 fun b H3 =>
    if b = true then te σ2 H3 fun y H4 => ∃ acc, H4 D = some (.lst acc) ∧ acc.length < sizeLine ∧ Nx (upd H4 D (.lst (acc ++ [y]))) else Nx H3)
theorem lc_core {pins : List (Addr × Obj)} {s : Shared} {σ : St} {H : Hp} {Q : VK} {elt tg iter : Expr} {ifs : List Expr} {scope : Scope} {own : List (Str × Nat)} {pos pos' : Pos} {wi : TI} {g : TG} {tt : TT} {te : TE} {use : Option (Value → Sem Unit)} {Qf : Value → Shared → Prop}
    (hc : X.calm = true) (hN : X.N.Nodup) (I : Inv X pins σ H s) (hi : PI X tg iter wi) (ok : BlkOk X.N X.env.scope scope own)
    (hg : ∀ (s : Shared) (H : Hp) (C : Addr) (cl : List (Str × Addr)) (fp : List Addr), PG (X.blk s H scope (compEnvC scope cl C X.env) fp) tg g) (ht : ∀ (s : Shared) (H : Hp) (C : Addr) (cl : List (Str × Addr)) (fp : List Addr), PTs (X.blk s H scope (compEnvC scope cl C X.env) fp) ifs tt)
    (he : ∀ (s : Shared) (H : Hp) (C : Addr) (cl : List (Str × Addr)) (fp : List Addr), PE (X.blk s H scope (compEnvC scope cl C X.env) fp) elt te) (hs : ∀ x, foldedSetIterable iter X.env x = pure x)
    (h : tLc wi g tt te (own.map (·.2)) σ H Q)
    (hRR : ∀ D C s' m H', Inv X pins σ H' s' → Q (.ref D) H' → s'.heap.Ns C m → FpOk X pins H' C → compPost (model X.prog X.w) X.A X.xe use Qf (.ref D) C (.ok .next) s') :
    wpAny (model X.prog X.w) X.A (comprehension (.ListComp elt [⟨tg, iter, ifs, 0⟩] scope pos) scope X.env pos' (newList []) false (eval iter X.env) use) Qf X.xe s := by
  have hfree : ∀ y ∈ scope.names, y.2 = .free → ∃ c, X.env.cells.lookup y.1 = some c := fun y hy e => by
    rcases ok.free y hy e with k | k
    · exact I.ok.has _ (.inl k)
    · exact I.ok.has _ (.inr k)
  refine wpAny_comprehension_free (use := use) rfl hs (closure_ok hfree) ok.kind (fun y hy e => by rw [ok.uniq y hy, e])
    (thn (hi pins s σ H _ I h) fun xv s1 hx => thn hx fun itv s2 h2 => ?_)
  obtain ⟨it, fp, tn, J, H2, e, I2, T, st2, f2, q⟩ := h2
  subst e
  refine wpAny_newObj_type (newEnv_comp ?_) (by show 0 ≤ sizeLine; decide)
  generalize hD : s2.heap.objs.size = D
  have hDn : H2 D = none := I2.hok.fresh (Nat.le_of_eq hD)
  obtain ⟨W, ⟨m0, w0⟩, turn⟩ := q D hDn
  -- the new list
  generalize hs3 : ({ s2 with heap := s2.heap.push { cls := .type "list", data := .seq ([] : List Value).toArray } } : Shared) = s3
  have I3 : Inv X pins σ (upd H2 D (.lst [])) s3 := by
    rw [← hs3]
    refine I2.laid (t' := s2.toks) (fun b o e => Heap.get?_push_of_some _ e) (Nat.le_of_eq hD) ⟨Nat.zero_le _, [], 0, .nil, ?_⟩
    rw [← hD]
    exact Heap.get?_push_size _ rfl
  have h3 : s3.heap = s2.heap.push { cls := .type "list", data := .seq ([] : List Value).toArray } := by rw [← hs3]
  have sz : ∀ b ∈ fp, b < s2.heap.objs.size := fun b hb => by
    obtain ⟨o, e, _⟩ := T.obj _ _ st2 b hb
    exact Heap.lt_size e
  have f3 : ∀ b ∈ fp, FpOk X pins (upd H2 D (.lst [])) b ∧ b < s3.heap.objs.size := fun b hb => by
    have hlt := sz b hb
    refine ⟨⟨?_, (f2 b hb).2⟩, by rw [h3, Heap.size_push]; exact Nat.lt_succ_of_lt hlt⟩
    rw [upd_ne (by rw [← hD]; exact Nat.ne_of_lt hlt)]
    exact (f2 b hb).1
  have st3 : tn 0 s3.heap := T.keep _ _ _ st2 fun b _ o e => by rw [h3]; exact Heap.get?_push_of_some _ e
  have I4 := block_start I3 ok hN f3
  have pg := hg s3 (upd H2 D (.lst [])) s3.heap.objs.size (cellsFrom (s3.heap.objs.size + 1) scope.names (cloFrom X.env.cells scope.names [])) fp
  have pt := ht s3 (upd H2 D (.lst [])) s3.heap.objs.size (cellsFrom (s3.heap.objs.size + 1) scope.names (cloFrom X.env.cells scope.names [])) fp
  have pe := he s3 (upd H2 D (.lst [])) s3.heap.objs.size (cellsFrom (s3.heap.objs.size + 1) scope.names (cloFrom X.env.cells scope.names [])) fp
  show codeAny _ _ (.compStart (.ListComp elt [⟨tg, iter, ifs, 0⟩] scope pos) 0 (.ref it) (.ref D) (compEnvC scope (cellsFrom (s3.heap.objs.size + 1) scope.names (cloFrom X.env.cells scope.names [])) s3.heap.objs.size X.env)) (compPost (model X.prog X.w) X.A X.xe use Qf (.ref D) s3.heap.objs.size) { s3 with heap := pushCells (s3.heap.push { cls := .type "dict", data := .dict #[] }) scope.names }
  have nfp : ∀ b ∈ fp, (upd H2 D (.lst [])) b = none := fun b hb => (f3 b hb).1.1
  generalize hce : compEnvC scope (cellsFrom (s3.heap.objs.size + 1) scope.names (cloFrom X.env.cells scope.names [])) s3.heap.objs.size X.env = ce at I4 pg pt pe ⊢
  have cL : ce.locals = s3.heap.objs.size := by subst hce; rfl
  generalize hH3 : upd H2 D (.lst []) = H3 at I3 I4 pg pt pe w0 nfp f3
  generalize hs4 : ({ s3 with heap := pushCells (s3.heap.push { cls := .type "dict", data := .dict #[] }) scope.names } : Shared) = s4 at I4 ⊢
  have st4 : tn 0 s4.heap := T.keep _ _ _ st3 fun b _ o e => by rw [← hs4]; exact pushCells_keeps _ _ _ _ (Heap.get?_push_of_some _ e)
  have stat : ∀ {σ' : St} {H' : Hp} {s' : Shared}, Inv (X.blk s3 H3 scope ce fp) [] σ' H' s' → (∀ b ∈ fp, H' b = none) → ∀ b ∈ fp, FpOk (X.blk s3 H3 scope ce fp) [] H' b := fun {σ' H' s'} I' hn b hb =>
    ⟨hn b hb, (I'.ok.exf b hb).1, I'.ok.exfs b hb, .inl hb, fun x c e => (I'.ok.exf b hb).2 x c e, fun p hp => absurd (show p ∈ ([] : List (Addr × Obj)) ++ [] from hp) (by simp)⟩
  have loop : codeAny (model X.prog X.w) X.A (.compLoop (.ListComp elt [⟨tg, iter, ifs, 0⟩] scope pos) 0 (.ref it) (.ref D) ce) (compPost (model X.prog X.w) X.A X.xe use Qf (.ref D) s3.heap.objs.size) s4 := by
    refine compLoop_any (fun n s' => ∃ i H', Inv (X.blk s3 H3 scope ce fp) [] (wipe σ (own.map (·.2))) H' s' ∧ tn i s'.heap ∧ (∀ b ∈ fp, H' b = none) ∧ W i n H') ?_ m0 ⟨0, H3, I4, st4, nfp, w0⟩
    rintro n s5 ⟨i, H5, I5, st5, n5, w5⟩
    rcases turn i n H5 w5 with ⟨stop, qq⟩ | ⟨go, Nx, hNx, step⟩
    · have td := T.done (X.blk s3 H3 scope ce fp) rfl rfl rfl hc i [] s5 _ H5 (fun _ _ => False) I5 (stat I5 n5) st5 stop
      refine thnF td fun r s6 ⟨hr, I6⟩ => ?_
      subst hr
      -- back in the def's context
      have I7 : Inv X pins σ H5 s6 := I3.call' (ch := fp) I6.os I6.base I6.hok I6.bare fun b hb => ⟨(f3 b hb).1.2.2.2.1, (f3 b hb).1.2.1, (f3 b hb).1.2.2.2.2.1, (f3 b hb).1.2.2.2.2.2⟩
      have nC : H5 s3.heap.objs.size = none := by
        have z : H5 ce.locals = none := I6.free
        rw [cL] at z
        exact z
      obtain ⟨m, hn, _⟩ := I6.loc
      have hn : s6.heap.Ns ce.locals m := hn
      rw [cL] at hn
      exact hRR D s3.heap.objs.size s6 m H5 I7 qq hn (I3.fpOk (Nat.le_refl _) nC)
    · have ti := T.item (X.blk s3 H3 scope ce fp) rfl rfl rfl hc i [] s5 _ H5 (fun _ _ => False) I5 (stat I5 n5) st5 go
      refine thnF ti fun r s6 ⟨u, hr, h6⟩ => ?_
      subst hr
      refine thnF h6 fun _ s7 ⟨x, H7, I7, r7, y7, st7, n7⟩ => ?_
      have I7' := I7.pinned (stat I7 n7) (T.obj _ _ st7)
      refine thnF (pg _ s7 _ H7 x u _ I7' r7 (step x H7 y7)) fun _ s8 ⟨σ8, H8, I8, hw8, q8⟩ => ?_
      refine thnF (pt _ s8 σ8 H8 _ I8 q8) fun b s9 ⟨H9, I9, q9⟩ => ?_
      -- the turn's end
      have fin : ∀ {s' : Shared} {H' : Hp}, Inv (X.blk s3 H3 scope ce fp) ([] ++ pinsAt fp s7.heap) σ8 H' s' → Nx H' → ∃ m, m < n ∧ ∃ i H', Inv (X.blk s3 H3 scope ce fp) [] (wipe σ (own.map (·.2))) H' s' ∧ tn i s'.heap ∧ (∀ b ∈ fp, H' b = none) ∧ W i m H' := fun {s' H'} I' nx => by
        obtain ⟨m', hm, w'⟩ := hNx H' nx
        have pin' : ∀ b ∈ fp, ∀ o, s7.heap.get? b = some o → s'.heap.get? b = some o ∧ H' b = none := fun b hb o e =>
          let z := I'.pin (b, o) (List.mem_append_right _ (List.mem_append_right _ (mem_pinsAt hb e)))
          ⟨z.1, z.2.1⟩
        have hl : (wipe σ (own.map (·.2))).length = σ8.length := by rw [← hw8, wipe_length]
        refine ⟨m', hm, i + 1, H', (I'.unpinned (pins := [])).weak hl (fun j v e => ?_), T.keep _ _ _ st7 fun b hb o e => (pin' b hb o e).1, fun b hb => ?_, w'⟩
        · rw [← hw8] at e
          exact (wipe_some e).1
        · obtain ⟨o, e, _⟩ := T.obj _ _ st7 b hb
          exact (pin' b hb o e).2
      cases b with
      | false =>
        simp only [Bool.false_eq_true, if_false] at q9 ⊢
        exact fin I9 q9
      | true =>
        simp only [if_true] at q9 ⊢
        refine thnF (pe _ s9 σ8 H9 _ I9 q9) fun z s10 ⟨yv, H10, I10, r10, acc, hD10, hz10, nx⟩ => ?_
        exact app_ok (X := X.blk s3 H3 scope ce fp) I10 hD10 hz10 r10 fun s11 I11 => fin I11 nx
  exact codeAny_compStart_list loop (T.self X.A 0 _ _ _ st4 loop)
/-- as a value -/
theorem pe_lc {elt tg iter : Expr} {ifs : List Expr} {scope : Scope} {own : List (Str × Nat)} {pos : Pos} {wi : TI} {g : TG} {tt : TT} {te : TE} (hc : X.calm = true) (hN : X.N.Nodup) (hi : PI X tg iter wi) (ok : BlkOk X.N X.env.scope scope own)
    (hg : ∀ (s : Shared) (H : Hp) (C : Addr) (cl : List (Str × Addr)) (fp : List Addr), PG (X.blk s H scope (compEnvC scope cl C X.env) fp) tg g) (ht : ∀ (s : Shared) (H : Hp) (C : Addr) (cl : List (Str × Addr)) (fp : List Addr), PTs (X.blk s H scope (compEnvC scope cl C X.env) fp) ifs tt)
    (he : ∀ (s : Shared) (H : Hp) (C : Addr) (cl : List (Str × Addr)) (fp : List Addr), PE (X.blk s H scope (compEnvC scope cl C X.env) fp) elt te) (hs : ∀ x, foldedSetIterable iter X.env x = pure x := by intro _; rfl) :
    PE X (.ListComp elt [⟨tg, iter, ifs, 0⟩] scope pos) (tLc wi g tt te (own.map (·.2))) := by
  intro pins s σ H Q I h
  rw [eval_ListComp]
  refine lc_core hc hN I hi ok hg ht he hs h fun D C s' m H' I' q hn f => ⟨m, hn, fun h'' sb => ?_⟩
  obtain ⟨f0, f1, f2, f3, f4, f5⟩ := f
  exact ⟨.ref D, H', I'.turned (t' := s'.toks) (fun b o hb e => (sb.2 b hb).trans e) f0 f1 f3 f4 f5, rfl, q⟩
/-- name = [..] on one line, the name a local -/
theorem ps_setLc {i : Nat} {y : Str} {py : Pos} {elt tg iter : Expr} {ifs : List Expr} {scope : Scope} {own : List (Str × Nat)} {pos spos : Pos} {wi : TI} {g : TG} {tt : TT} {te : TE} (hc : X.calm = true) (hN : X.N.Nodup) (hy : X.N[i]? = some y) (hyl : X.env.scope.names.lookup y = some .local)
    (hsw : swapsWith (.ListComp elt [⟨tg, iter, ifs, 0⟩] scope pos) (some (.Name y py)) spos.line X.env = pure true) (hi : PI X tg iter wi) (ok : BlkOk X.N X.env.scope scope own)
    (hg : ∀ (s : Shared) (H : Hp) (C : Addr) (cl : List (Str × Addr)) (fp : List Addr), PG (X.blk s H scope (compEnvC scope cl C X.env) fp) tg g) (ht : ∀ (s : Shared) (H : Hp) (C : Addr) (cl : List (Str × Addr)) (fp : List Addr), PTs (X.blk s H scope (compEnvC scope cl C X.env) fp) ifs tt)
    (he : ∀ (s : Shared) (H : Hp) (C : Addr) (cl : List (Str × Addr)) (fp : List Addr), PE (X.blk s H scope (compEnvC scope cl C X.env) fp) elt te) (hs : ∀ x, foldedSetIterable iter X.env x = pure x := by intro _; rfl) :
    PS X (.Assign [.Name y py] (.ListComp elt [⟨tg, iter, ifs, 0⟩] scope pos) spos) (tAsg (tLc wi g tt te (own.map (·.2))) (gName i)) := by
  intro pins s σ H D I h
  rw [exec_Assign_Name_used _ _ _ _ hsw]
  refine wpAny_bind (wpAny_standAt (wpAny_bind ?_))
  show wpAny _ X.A (do let _ ← comprehension (.ListComp elt [⟨tg, iter, ifs, 0⟩] scope pos) scope X.env (firstIterPos [⟨tg, iter, ifs, 0⟩] pos) (newList []) false (eval iter X.env) (some (assign (.Name y py) X.env))) _ _ s
  have h : tLc wi g tt te (own.map (·.2)) σ H (fun x H1 => gName i x σ H1 D.nx) := h
  refine wpAny_bind (thn (lc_core (Qf := fun _ s' => SP X pins D .next s') hc hN I hi ok hg ht he hs h fun L C s' m H' I' q hn f => ?_) fun _ s' hq => wpAny_pure (wpAny_pure hq))
  show wpAny _ _ (assign (.Name y py) X.env (.ref L)) _ _ _
  refine wpAny_assign_Name (store_ok2 (v := V.ref L) I' hN hy (.inl hyl) rfl (fun s2 I2 ⟨a, sb, ha⟩ => ?_) (.inr hyl))
  obtain ⟨f0, f1, f2, f3, f4, f5⟩ := f
  have haC : C ≠ a := by
    rcases ha with z | z
    · rw [z]; exact f1
    · exact fun e => f4 y a z e.symm
  refine ⟨m, hn.sameBut sb haC, fun h3 sb3 => ?_⟩
  exact ⟨_, H', I2.turned (t' := s2.toks) (fun b o hb e => (sb3.2 b hb).trans e) f0 f1 f3 f4 f5, q⟩
theorem sw_true {elt : Expr} {gs : List Comprehension} {scope : Scope} {pos py : Pos} {y : Str} {l : Nat} {env : Env} (hk : env.scope.kind = .function) (hy : env.scope.names.lookup y = some .local) (hl : (py.line == pos.line) = true)
    (ha : (scope.names.any fun (n, k) => n == y && (k == .local || k == .cell)) = false) : swapsWith (.ListComp elt gs scope pos) (some (.Name y py)) l env = pure true := by
  have ky : env.kindOf y = some .local := hy
  have hb : env.blockKind = .function := by unfold Env.blockKind; rw [hk]; rfl
  unfold swapsWith
  simp only [hb, ky, ha, Expr.pos, hl]
  rfl
end

/-! ### the forms one uses -/
def blkC (N : List Str) (sc scope : Scope) (own : List (Str × Nat)) : Bool :=
  (match scope.kind with | .function => true | _ => false) && (scope.names.all fun y => decide (scope.names.lookup y.1 = some y.2)) && (own.all fun p => decide (N[p.2]? = some p.1)) &&
    (scope.names.all fun y => match y.2 with
      | .free => (match sc.names.lookup y.1 with | some .cell => true | some .free => true | _ => false)
      | .local => decide (y.1 ∈ own.map (·.1)) || decide (y.1 ∉ N)
      | .cell => decide (y.1 ∈ own.map (·.1)) || decide (y.1 ∉ N)
      | _ => true)
theorem blkOk_by {N : List Str} {sc scope : Scope} {own : List (Str × Nat)} (h : blkC N sc scope own = true) : BlkOk N sc scope own := by
  unfold blkC at h
  simp only [Bool.and_eq_true, List.all_eq_true, decide_eq_true_eq] at h
  obtain ⟨⟨⟨h1, h2⟩, h3⟩, h4⟩ := h
  refine ⟨?_, h2, h3, fun y hy e => ?_, fun y hy e => ?_⟩
  · split at h1
    · assumption
    · cases h1
  · have q := h4 y hy
    simp only [e] at q
    split at q <;> first | exact .inl (by assumption) | exact .inr (by assumption) | cases q
  · have q := h4 y hy
    rcases e with e | e <;> (simp only [e, Bool.or_eq_true, decide_eq_true_eq] at q; exact q)
end L2

namespace L2
open PySem PySem.Spec PyProof.Rows

theorem compTurn2_out (elt t0 i0 t1 i1 : Expr) (ifs0 ifs1 : List Expr) (scope : Scope) (pos : Pos) (it acc : Value) (env : Env) :
    compTurn (.ListComp elt [⟨t0, i0, ifs0, 0⟩, ⟨t1, i1, ifs1, 0⟩] scope pos) 0 it acc env = (do
      standAt i0.pos
      match ← pyNext it with
      | none => pure (.done .next)
      | some v =>
        letOwnedTupleGo t0 it v
        assign t0 env v
        let mut ok := true
        for c in ifs0 do
          if ok then ok ← isTrue c env (eval c env)
        if ok then
          let x ← eval i1 env
          standAt i1.pos
          let x ← foldedSetIterable i1 env x
          let _ ← runOwn (.compStart (.ListComp elt [⟨t0, i0, ifs0, 0⟩, ⟨t1, i1, ifs1, 0⟩] scope pos) 1 (← holding [x] (pyIter x)) acc env) env
        again (.compLoop (.ListComp elt [⟨t0, i0, ifs0, 0⟩, ⟨t1, i1, ifs1, 0⟩] scope pos) 0 it acc env)) := by rfl
theorem compTurn2_in (elt t0 i0 t1 i1 : Expr) (ifs0 ifs1 : List Expr) (scope : Scope) (pos : Pos) (it acc : Value) (env : Env) :
    compTurn (.ListComp elt [⟨t0, i0, ifs0, 0⟩, ⟨t1, i1, ifs1, 0⟩] scope pos) 1 it acc env = (do
      standAt i1.pos
      match ← pyNext it with
      | none => pure (.done .next)
      | some v =>
        letOwnedTupleGo t1 it v
        assign t1 env v
        let mut ok := true
        for c in ifs1 do
          if ok then ok ← isTrue c env (eval c env)
        if ok then
          (do let _ ← call (.builtin "list.append") [acc, ← eval elt env])
        again (.compLoop (.ListComp elt [⟨t0, i0, ifs0, 0⟩, ⟨t1, i1, ifs1, 0⟩] scope pos) 1 it acc env)) := by rfl

section
variable {prog : Program} {w : World} {A : Around} {R : Result → Shared → Prop} {s : Shared} {elt t0 i0 t1 i1 : Expr} {ifs0 ifs1 : List Expr} {scope : Scope} {pos : Pos} {it acc : Value} {env : Env}
/-- the loop of the first clause -/
theorem compLoop2_out (hs : ∀ x, foldedSetIterable i1 env x = pure x) (I : Nat → Shared → Prop)
    (turn : ∀ n s, I n s → wpAny (model prog w) A (pyNext it) (fun r s₁ => match r with
      | none => R (.ok .next) s₁
      | some v => wpAny (model prog w) A (letOwnedTupleGo t0 it v) (fun _ s₁' => wpAny (model prog w) A (assign t0 env v) (fun _ s₂ =>
          wpAny (model prog w) A (forIn ifs0 true fun c r => if r = true then do let ok ← isTrue c env (eval c env); pure (ForInStep.yield ok) else pure (ForInStep.yield r)) (fun ok s₃ =>
            if ok = true then wpAny (model prog w) A (eval i1 env) (fun x s₄ => wpAny (model prog w) A (pyIter x) (fun it1 s₅ =>
              codeAny (model prog w) A (.compStart (.ListComp elt [⟨t0, i0, ifs0, 0⟩, ⟨t1, i1, ifs1, 0⟩] scope pos) 1 it1 acc env) (fun r s' => match r with
                | .ok _ => ∃ m, m < n ∧ I m s'
                | .error _ => False) s₅) (notedBy (model prog w) A env fun e s' => R (.error e) s') s₄) (notedBy (model prog w) A env fun e s' => R (.error e) s') s₃
            else ∃ m, m < n ∧ I m s₃) (notedBy (model prog w) A env fun e s' => R (.error e) s') s₂) (notedBy (model prog w) A env fun e s' => R (.error e) s') s₁') (notedBy (model prog w) A env fun e s' => R (.error e) s') s₁) (notedBy (model prog w) A env fun e s' => R (.error e) s') s)
    (n : Nat) (h : I n s) :
    codeAny (model prog w) A (.compLoop (.ListComp elt [⟨t0, i0, ifs0, 0⟩, ⟨t1, i1, ifs1, 0⟩] scope pos) 0 it acc env) R s := by
  refine codeAny_loop rfl I (fun n s hI => ?_) n h
  show wpAny _ A ((compTurn (.ListComp elt [⟨t0, i0, ifs0, 0⟩, ⟨t1, i1, ifs1, 0⟩] scope pos) 0 it acc env).onRaise (fun x => do noteFrame x env; theTreesLotGoes x)) _ _ s
  refine wpAny_noted ?_
  rw [compTurn2_out]
  refine wpAny_bind (wpAny_standAt (wpAny_bind (wpAny_mono (turn n s hI) (fun r s₁ h₁ => ?_) fun _ _ h' => h')))
  cases r with
  | none => exact wpAny_pure h₁
  | some v =>
    refine wpAny_bind (wpAny_mono h₁ (fun _ s₁' h₁' => ?_) fun _ _ h' => h')
    refine wpAny_bind (wpAny_mono h₁' (fun _ s₂ h₂ => wpAny_bind (wpAny_mono h₂ (fun ok s₃ h₃ => ?_) fun _ _ h' => h')) fun _ _ h' => h')
    cases ok with
    | false => exact wpAny_pure ⟨rfl, h₃⟩
    | true =>
      refine wpAny_bind (wpAny_mono h₃ (fun x s₄ h₄ => ?_) fun _ _ h' => h')
      refine wpAny_bind (wpAny_standAt (wpAny_bind (wpAny_of_eq (hs x) (wpAny_bind (wpAny_holding (wpAny_mono h₄ (fun it1 s₅ h₅ => ?_) fun _ _ h' => h'))))))
      refine wpAny_bind (wpAny_runOwn ?_)
      rw [Around.mark_none]
      refine codeAny_mono h₅ fun r s' hr => ?_
      cases r with
      | ok f =>
        first
          | exact wpAny_pure ⟨rfl, hr⟩
          | exact wpAny_bind (wpAny_pure (wpAny_pure ⟨rfl, hr⟩))
      | error e => exact hr.elim
/-- the loop of the second -/
theorem compLoop2_in (I : Nat → Shared → Prop)
    (turn : ∀ n s, I n s → wpAny (model prog w) A (pyNext it) (fun r s₁ => match r with
      | none => R (.ok .next) s₁
      | some v => wpAny (model prog w) A (letOwnedTupleGo t1 it v) (fun _ s₁' => wpAny (model prog w) A (assign t1 env v) (fun _ s₂ =>
          wpAny (model prog w) A (forIn ifs1 true fun c r => if r = true then do let ok ← isTrue c env (eval c env); pure (ForInStep.yield ok) else pure (ForInStep.yield r)) (fun ok s₃ =>
            if ok = true then wpAny (model prog w) A (eval elt env) (fun x s₄ =>
              wpAny (model prog w) A (call (.builtin "list.append") [acc, x]) (fun _ s₅ => ∃ m, m < n ∧ I m s₅) (notedBy (model prog w) A env fun e s' => R (.error e) s') s₄) (notedBy (model prog w) A env fun e s' => R (.error e) s') s₃
            else ∃ m, m < n ∧ I m s₃) (notedBy (model prog w) A env fun e s' => R (.error e) s') s₂) (notedBy (model prog w) A env fun e s' => R (.error e) s') s₁') (notedBy (model prog w) A env fun e s' => R (.error e) s') s₁) (notedBy (model prog w) A env fun e s' => R (.error e) s') s)
    (n : Nat) (h : I n s) :
    codeAny (model prog w) A (.compLoop (.ListComp elt [⟨t0, i0, ifs0, 0⟩, ⟨t1, i1, ifs1, 0⟩] scope pos) 1 it acc env) R s := by
  refine codeAny_loop rfl I (fun n s hI => ?_) n h
  show wpAny _ A ((compTurn (.ListComp elt [⟨t0, i0, ifs0, 0⟩, ⟨t1, i1, ifs1, 0⟩] scope pos) 1 it acc env).onRaise (fun x => do noteFrame x env; theTreesLotGoes x)) _ _ s
  refine wpAny_noted ?_
  rw [compTurn2_in]
  refine wpAny_bind (wpAny_standAt (wpAny_bind (wpAny_mono (turn n s hI) (fun r s₁ h₁ => ?_) fun _ _ h' => h')))
  cases r with
  | none => exact wpAny_pure h₁
  | some v =>
    refine wpAny_bind (wpAny_mono h₁ (fun _ s₁' h₁' => ?_) fun _ _ h' => h')
    refine wpAny_bind (wpAny_mono h₁' (fun _ s₂ h₂ => wpAny_bind (wpAny_mono h₂ (fun ok s₃ h₃ => ?_) fun _ _ h' => h')) fun _ _ h' => h')
    cases ok with
    | false => exact wpAny_pure ⟨rfl, h₃⟩
    | true =>
      exact wpAny_bind (wpAny_bind (wpAny_mono h₃ (fun x s₄ h₄ => wpAny_bind (wpAny_mono h₄ (fun _ s₅ h₅ => wpAny_pure (wpAny_pure ⟨rfl, h₅⟩)) fun _ _ h' => h')) fun _ _ h' => h'))
/-- the second clause's start -/
theorem compStart1_ok (h0 : codeAny (model prog w) A (.compLoop (.ListComp elt [⟨t0, i0, ifs0, 0⟩, ⟨t1, i1, ifs1, 0⟩] scope pos) 1 it acc env) R s)
    (h : wpAny (model prog w) A (pyIter it) (fun it' s' => codeAny (model prog w) A (.compLoop (.ListComp elt [⟨t0, i0, ifs0, 0⟩, ⟨t1, i1, ifs1, 0⟩] scope pos) 1 it' acc env) R s')
      (notedBy (model prog w) A env fun x s' => R (.error x) s') s) :
    codeAny (model prog w) A (.compStart (.ListComp elt [⟨t0, i0, ifs0, 0⟩, ⟨t1, i1, ifs1, 0⟩] scope pos) 1 it acc env) R s := by
  refine codeAny_of_tree ?_
  show wpAny _ _ ((compStart (.ListComp elt [⟨t0, i0, ifs0, 0⟩, ⟨t1, i1, ifs1, 0⟩] scope pos) 1 it acc env).onRaise (fun x => do noteFrame x env; standAt theWindowsPlace)) _ _ s
  refine wpAny_notedAt ?_
  unfold compStart
  show wpAny _ _ (ask >>= _) _ _ s
  refine wpAny_bind (wpAny_askSetting (wpAny_ite ?_))
  split
  · first
      | exact wpAny_bind (wpAny_pure (wpAny_pure (And.intro rfl h0)))
      | exact wpAny_pure (And.intro rfl h0)
  · first
      | exact wpAny_bind (wpAny_rule (wpAny_bind (wpAny_standAt (wpAny_bind (wpAny_mono h (fun it' s' h' => wpAny_pure (And.intro rfl h')) fun _ _ x => x)))))
      | (refine wpAny_bind (wpAny_rule ?_); show wpAny _ _ (standAt i1.pos >>= _) _ _ s; exact wpAny_bind (wpAny_standAt (wpAny_bind (wpAny_mono h (fun it' s' h' => wpAny_pure (And.intro rfl h')) fun _ _ x => x))))
end

theorem wipe_out {σ : St} {i : Nat} : ∀ {vs : List Nat}, i ∉ vs → (wipe σ vs)[i]? = σ[i]?
  | [], _ => rfl
  | v :: vs, h => by
    have h1 : v ≠ i := fun e => h (by rw [e]; exact List.mem_cons_self)
    have h2 : i ∉ vs := fun m => h (List.mem_cons_of_mem _ m)
    unfold wipe
    rw [List.getElem?_set_ne h1]
    exact wipe_out h2
section
variable {X : Cx}
/-- [elt for tg in iter if .. for tg1 in iter1 if ..]: behind the first clause's store and tests the second source's own loop, from which Nx is reached. vs: the block's names; vs1: those of the second target -/
def tLc2 (wi : TI) (g : TG) (tt : TT) (wi1 : TI) (g1 : TG) (tt1 : TT) (te : TE) (vs vs1 : List Nat) : TE := fun σ H Q => wi σ H fun J H1 => ∀ D, H1 D = none → ∃ W : Nat → Nat → Hp → Prop, (∃ m, W 0 m (upd H1 D (.lst []))) ∧ ∀ i m H, W i m H →
  (J.stop i H ∧ Q (.ref D) H) ∨ (J.go i H ∧ ∃ Nx : Hp → Prop, (∀ H', Nx H' → ∃ m', m' < m ∧ W (i + 1) m' H') ∧ ∀ x H', J.yld i H x H' → g x (wipe σ vs) H' fun σ2 H2 => wipe σ2 vs = wipe σ vs ∧ tt σ2 H2 fun b H3 =>
    if b = true then wi1 σ2 H3 fun J1 H4 => ∃ W1 : Nat → Nat → Hp → Prop, (∃ m, W1 0 m H4) ∧ ∀ j k H, W1 j k H →
      (J1.stop j H ∧ Nx H) ∨ (J1.go j H ∧ ∃ Nx1 : Hp → Prop, (∀ H', Nx1 H' → ∃ k', k' < k ∧ W1 (j + 1) k' H') ∧ ∀ x H', J1.yld j H x H' → g1 x (wipe σ2 vs1) H' fun σ3 H5 => wipe σ3 vs1 = wipe σ2 vs1 ∧ tt1 σ3 H5 fun b H6 =>
        if b = true then te σ3 H6 fun y H7 => ∃ acc, H7 D = some (.lst acc) ∧ acc.length < sizeLine ∧ Nx1 (upd H7 D (.lst (acc ++ [y]))) else Nx1 H6)
    else Nx H3)
theorem lc2_core {pins : List (Addr × Obj)} {s : Shared} {σ : St} {H : Hp} {Q : VK} {elt tg iter tg1 iter1 : Expr} {ifs ifs1 : List Expr} {scope : Scope} {own : List (Str × Nat)} {vs1 : List Nat} {pos pos' : Pos} {wi wi1 : TI} {g g1 : TG} {tt tt1 : TT} {te : TE} {use : Option (Value → Sem Unit)} {Qf : Value → Shared → Prop}
    (hc : X.calm = true) (hN : X.N.Nodup) (I : Inv X pins σ H s) (hi : PI X tg iter wi) (ok : BlkOk X.N X.env.scope scope own) (hv : ∀ i ∈ vs1, i ∈ own.map (·.2))
    (hg : ∀ (s : Shared) (H : Hp) (C : Addr) (cl : List (Str × Addr)) (fp : List Addr), PG (X.blk s H scope (compEnvC scope cl C X.env) fp) tg g) (ht : ∀ (s : Shared) (H : Hp) (C : Addr) (cl : List (Str × Addr)) (fp : List Addr), PTs (X.blk s H scope (compEnvC scope cl C X.env) fp) ifs tt)
    (he : ∀ (s : Shared) (H : Hp) (C : Addr) (cl : List (Str × Addr)) (fp : List Addr), PE (X.blk s H scope (compEnvC scope cl C X.env) fp) elt te) (hs : ∀ x, foldedSetIterable iter X.env x = pure x)
    (hi1 : ∀ (s : Shared) (H : Hp) (C : Addr) (cl : List (Str × Addr)) (fp : List Addr), PI (X.blk s H scope (compEnvC scope cl C X.env) fp) tg1 iter1 wi1)
    (hg1 : ∀ (s : Shared) (H : Hp) (C : Addr) (cl : List (Str × Addr)) (fp : List Addr), PG (X.blk s H scope (compEnvC scope cl C X.env) fp) tg1 g1)
    (ht1 : ∀ (s : Shared) (H : Hp) (C : Addr) (cl : List (Str × Addr)) (fp : List Addr), PTs (X.blk s H scope (compEnvC scope cl C X.env) fp) ifs1 tt1)
    (hs1 : ∀ env x, foldedSetIterable iter1 env x = pure x)
    (h : tLc2 wi g tt wi1 g1 tt1 te (own.map (·.2)) vs1 σ H Q)
    (hRR : ∀ D C s' m H', Inv X pins σ H' s' → Q (.ref D) H' → s'.heap.Ns C m → FpOk X pins H' C → compPost (model X.prog X.w) X.A X.xe use Qf (.ref D) C (.ok .next) s') :
    wpAny (model X.prog X.w) X.A (comprehension (.ListComp elt [⟨tg, iter, ifs, 0⟩, ⟨tg1, iter1, ifs1, 0⟩] scope pos) scope X.env pos' (newList []) false (eval iter X.env) use) Qf X.xe s := by
  have hfree : ∀ y ∈ scope.names, y.2 = .free → ∃ c, X.env.cells.lookup y.1 = some c := fun y hy e => by
    rcases ok.free y hy e with k | k
    · exact I.ok.has _ (.inl k)
    · exact I.ok.has _ (.inr k)
  refine wpAny_comprehension_free (use := use) rfl hs (closure_ok hfree) ok.kind (fun y hy e => by rw [ok.uniq y hy, e])
    (thn (hi pins s σ H _ I h) fun xv s1 hx => thn hx fun itv s2 h2 => ?_)
  obtain ⟨it, fp, tn, J, H2, e, I2, T, st2, f2, q⟩ := h2
  subst e
  refine wpAny_newObj_type (newEnv_comp ?_) (by show 0 ≤ sizeLine; decide)
  generalize hD : s2.heap.objs.size = D
  have hDn : H2 D = none := I2.hok.fresh (Nat.le_of_eq hD)
  obtain ⟨W, ⟨m0, w0⟩, turn⟩ := q D hDn
  -- the new list
  generalize hs3 : ({ s2 with heap := s2.heap.push { cls := .type "list", data := .seq ([] : List Value).toArray } } : Shared) = s3
  have I3 : Inv X pins σ (upd H2 D (.lst [])) s3 := by
    rw [← hs3]
    refine I2.laid (t' := s2.toks) (fun b o e => Heap.get?_push_of_some _ e) (Nat.le_of_eq hD) ⟨Nat.zero_le _, [], 0, .nil, ?_⟩
    rw [← hD]
    exact Heap.get?_push_size _ rfl
  have h3 : s3.heap = s2.heap.push { cls := .type "list", data := .seq ([] : List Value).toArray } := by rw [← hs3]
  have sz : ∀ b ∈ fp, b < s2.heap.objs.size := fun b hb => by
    obtain ⟨o, e, _⟩ := T.obj _ _ st2 b hb
    exact Heap.lt_size e
  have f3 : ∀ b ∈ fp, FpOk X pins (upd H2 D (.lst [])) b ∧ b < s3.heap.objs.size := fun b hb => by
    have hlt := sz b hb
    refine ⟨⟨?_, (f2 b hb).2⟩, by rw [h3, Heap.size_push]; exact Nat.lt_succ_of_lt hlt⟩
    rw [upd_ne (by rw [← hD]; exact Nat.ne_of_lt hlt)]
    exact (f2 b hb).1
  have st3 : tn 0 s3.heap := T.keep _ _ _ st2 fun b _ o e => by rw [h3]; exact Heap.get?_push_of_some _ e
  have I4 := block_start I3 ok hN f3
  have pg := hg s3 (upd H2 D (.lst [])) s3.heap.objs.size (cellsFrom (s3.heap.objs.size + 1) scope.names (cloFrom X.env.cells scope.names [])) fp
  have pt := ht s3 (upd H2 D (.lst [])) s3.heap.objs.size (cellsFrom (s3.heap.objs.size + 1) scope.names (cloFrom X.env.cells scope.names [])) fp
  have pe := he s3 (upd H2 D (.lst [])) s3.heap.objs.size (cellsFrom (s3.heap.objs.size + 1) scope.names (cloFrom X.env.cells scope.names [])) fp
  have pi1 := hi1 s3 (upd H2 D (.lst [])) s3.heap.objs.size (cellsFrom (s3.heap.objs.size + 1) scope.names (cloFrom X.env.cells scope.names [])) fp
  have pg1 := hg1 s3 (upd H2 D (.lst [])) s3.heap.objs.size (cellsFrom (s3.heap.objs.size + 1) scope.names (cloFrom X.env.cells scope.names [])) fp
  have pt1 := ht1 s3 (upd H2 D (.lst [])) s3.heap.objs.size (cellsFrom (s3.heap.objs.size + 1) scope.names (cloFrom X.env.cells scope.names [])) fp
  show codeAny _ _ (.compStart (.ListComp elt [⟨tg, iter, ifs, 0⟩, ⟨tg1, iter1, ifs1, 0⟩] scope pos) 0 (.ref it) (.ref D) (compEnvC scope (cellsFrom (s3.heap.objs.size + 1) scope.names (cloFrom X.env.cells scope.names [])) s3.heap.objs.size X.env)) (compPost (model X.prog X.w) X.A X.xe use Qf (.ref D) s3.heap.objs.size) { s3 with heap := pushCells (s3.heap.push { cls := .type "dict", data := .dict #[] }) scope.names }
  have nfp : ∀ b ∈ fp, (upd H2 D (.lst [])) b = none := fun b hb => (f3 b hb).1.1
  generalize hce : compEnvC scope (cellsFrom (s3.heap.objs.size + 1) scope.names (cloFrom X.env.cells scope.names [])) s3.heap.objs.size X.env = ce at I4 pg pt pe pi1 pg1 pt1 ⊢
  have cL : ce.locals = s3.heap.objs.size := by subst hce; rfl
  generalize hH3 : upd H2 D (.lst []) = H3 at I3 I4 pg pt pe pi1 pg1 pt1 w0 nfp f3
  generalize hs4 : ({ s3 with heap := pushCells (s3.heap.push { cls := .type "dict", data := .dict #[] }) scope.names } : Shared) = s4 at I4 ⊢
  have st4 : tn 0 s4.heap := T.keep _ _ _ st3 fun b _ o e => by rw [← hs4]; exact pushCells_keeps _ _ _ _ (Heap.get?_push_of_some _ e)
  have stat : ∀ {σ' : St} {H' : Hp} {s' : Shared}, Inv (X.blk s3 H3 scope ce fp) [] σ' H' s' → (∀ b ∈ fp, H' b = none) → ∀ b ∈ fp, FpOk (X.blk s3 H3 scope ce fp) [] H' b := fun {σ' H' s'} I' hn b hb =>
    ⟨hn b hb, (I'.ok.exf b hb).1, I'.ok.exfs b hb, .inl hb, fun x c e => (I'.ok.exf b hb).2 x c e, fun p hp => absurd (show p ∈ ([] : List (Addr × Obj)) ++ [] from hp) (by simp)⟩
  have loop : codeAny (model X.prog X.w) X.A (.compLoop (.ListComp elt [⟨tg, iter, ifs, 0⟩, ⟨tg1, iter1, ifs1, 0⟩] scope pos) 0 (.ref it) (.ref D) ce) (compPost (model X.prog X.w) X.A X.xe use Qf (.ref D) s3.heap.objs.size) s4 := by
    refine compLoop2_out (hs1 ce) (fun n s' => ∃ i H', Inv (X.blk s3 H3 scope ce fp) [] (wipe σ (own.map (·.2))) H' s' ∧ tn i s'.heap ∧ (∀ b ∈ fp, H' b = none) ∧ W i n H') ?_ m0 ⟨0, H3, I4, st4, nfp, w0⟩
    rintro n s5 ⟨i, H5, I5, st5, n5, w5⟩
    rcases turn i n H5 w5 with ⟨stop, qq⟩ | ⟨go, Nx, hNx, step⟩
    · have td := T.done (X.blk s3 H3 scope ce fp) rfl rfl rfl hc i [] s5 _ H5 (fun _ _ => False) I5 (stat I5 n5) st5 stop
      refine thnF td fun r s6 ⟨hr, I6⟩ => ?_
      subst hr
      -- back in the def's context
      have I7 : Inv X pins σ H5 s6 := I3.call' (ch := fp) I6.os I6.base I6.hok I6.bare fun b hb => ⟨(f3 b hb).1.2.2.2.1, (f3 b hb).1.2.1, (f3 b hb).1.2.2.2.2.1, (f3 b hb).1.2.2.2.2.2⟩
      have nC : H5 s3.heap.objs.size = none := by
        have z : H5 ce.locals = none := I6.free
        rw [cL] at z
        exact z
      obtain ⟨m, hn, _⟩ := I6.loc
      have hn : s6.heap.Ns ce.locals m := hn
      rw [cL] at hn
      exact hRR D s3.heap.objs.size s6 m H5 I7 qq hn (I3.fpOk (Nat.le_refl _) nC)
    · have ti := T.item (X.blk s3 H3 scope ce fp) rfl rfl rfl hc i [] s5 _ H5 (fun _ _ => False) I5 (stat I5 n5) st5 go
      refine thnF ti fun r s6 ⟨u, hr, h6⟩ => ?_
      subst hr
      refine thnF h6 fun _ s7 ⟨x, H7, I7, r7, y7, st7, n7⟩ => ?_
      have I7' := I7.pinned (stat I7 n7) (T.obj _ _ st7)
      refine thnF (pg _ s7 _ H7 x u _ I7' r7 (step x H7 y7)) fun _ s8 ⟨σ8, H8, I8, hw8, q8⟩ => ?_
      refine thnF (pt _ s8 σ8 H8 _ I8 q8) fun b s9 ⟨H9, I9, q9⟩ => ?_
      -- the turn's end, from any slots that know what the block knew at its start
      have fin : ∀ {σ9 : St} {s' : Shared} {H' : Hp}, Inv (X.blk s3 H3 scope ce fp) ([] ++ pinsAt fp s7.heap) σ9 H' s' → (wipe σ (own.map (·.2))).length = σ9.length → (∀ (j : Nat) v, (wipe σ (own.map (·.2)))[j]? = some (some v) → σ9[j]? = some (some v)) → Nx H' →
          ∃ m, m < n ∧ ∃ i H', Inv (X.blk s3 H3 scope ce fp) [] (wipe σ (own.map (·.2))) H' s' ∧ tn i s'.heap ∧ (∀ b ∈ fp, H' b = none) ∧ W i m H' := fun {σ9 s' H'} I' hl hk nx => by
        obtain ⟨m', hm, w'⟩ := hNx H' nx
        have pin' : ∀ b ∈ fp, ∀ o, s7.heap.get? b = some o → s'.heap.get? b = some o ∧ H' b = none := fun b hb o e =>
          let z := I'.pin (b, o) (List.mem_append_right _ (List.mem_append_right _ (mem_pinsAt hb e)))
          ⟨z.1, z.2.1⟩
        refine ⟨m', hm, i + 1, H', (I'.unpinned (pins := [])).weak hl hk, T.keep _ _ _ st7 fun b hb o e => (pin' b hb o e).1, fun b hb => ?_, w'⟩
        obtain ⟨o, e, _⟩ := T.obj _ _ st7 b hb
        exact (pin' b hb o e).2
      have hl8 : (wipe σ (own.map (·.2))).length = σ8.length := by rw [← hw8, wipe_length]
      have hk8 : ∀ (j : Nat) v, (wipe σ (own.map (·.2)))[j]? = some (some v) → σ8[j]? = some (some v) := fun j v e => by
        rw [← hw8] at e
        exact (wipe_some e).1
      have hk9 : ∀ (j : Nat) v, (wipe σ (own.map (·.2)))[j]? = some (some v) → (wipe σ8 vs1)[j]? = some (some v) := fun j v e => by
        rw [← hw8] at e
        obtain ⟨e1, e2⟩ := wipe_some e
        rw [wipe_out fun z => e2 (hv j z)]
        exact e1
      cases b with
      | false =>
        simp only [Bool.false_eq_true, if_false] at q9 ⊢
        exact fin I9 hl8 hk8 q9
      | true =>
        simp only [if_true] at q9 ⊢
        refine thnF (pi1 _ s9 σ8 H9 _ I9 q9) fun xv s10 hx => thnF hx fun itv s11 h11 => ?_
        obtain ⟨it1, fp1, tn1, J1, H11, e1, I11, T1, st11, f11, W1, ⟨m1, w1⟩, turn1⟩ := h11
        subst e1
        -- the inner loop
        have stat1 : ∀ {H' : Hp}, (∀ b ∈ fp1, H' b = none) → ∀ b ∈ fp1, FpOk (X.blk s3 H3 scope ce fp) ([] ++ pinsAt fp s7.heap) H' b := fun hn b hb => ⟨hn b hb, (f11 b hb).2⟩
        have loop1 : codeAny (model X.prog X.w) X.A (.compLoop (.ListComp elt [⟨tg, iter, ifs, 0⟩, ⟨tg1, iter1, ifs1, 0⟩] scope pos) 1 (.ref it1) (.ref D) ce)
            (fun r s' => match r with
              | .ok _ => ∃ m, m < n ∧ ∃ i H', Inv (X.blk s3 H3 scope ce fp) [] (wipe σ (own.map (·.2))) H' s' ∧ tn i s'.heap ∧ (∀ b ∈ fp, H' b = none) ∧ W i m H'
              | .error _ => False) s11 := by
          refine compLoop2_in (fun k s' => ∃ j H', Inv (X.blk s3 H3 scope ce fp) ([] ++ pinsAt fp s7.heap) (wipe σ8 vs1) H' s' ∧ tn1 j s'.heap ∧ (∀ b ∈ fp1, H' b = none) ∧ W1 j k H') ?_ m1 ⟨0, H11, I11.weak (wipe_length _ _) (fun j v e => (wipe_some e).1), st11, fun b hb => (f11 b hb).1, w1⟩
          rintro k s12 ⟨j, H12, I12, st12, n12, w12⟩
          rcases turn1 j k H12 w12 with ⟨stop1, nx1⟩ | ⟨go1, Nx1, hNx1, step1⟩
          · refine thnF (T1.done (X.blk s3 H3 scope ce fp) rfl rfl rfl hc j _ s12 (wipe σ8 vs1) H12 (fun _ _ => False) I12 (stat1 n12) st12 stop1) fun r s13 ⟨hr, I13⟩ => ?_
            subst hr
            exact fin I13 (hl8.trans (wipe_length σ8 vs1).symm) hk9 nx1
          · refine thnF (T1.item (X.blk s3 H3 scope ce fp) rfl rfl rfl hc j _ s12 (wipe σ8 vs1) H12 (fun _ _ => False) I12 (stat1 n12) st12 go1) fun r s13 ⟨u1, hr, h13⟩ => ?_
            subst hr
            refine thnF h13 fun _ s14 ⟨x1, H14, I14, r14, y14, st14, n14⟩ => ?_
            have I14' := I14.pinned (stat1 n14) (T1.obj _ _ st14)
            refine thnF (pg1 _ s14 (wipe σ8 vs1) H14 x1 u1 _ I14' r14 (step1 x1 H14 y14)) fun _ s15 ⟨σ15, H15, I15, hw15, q15⟩ => ?_
            refine thnF (pt1 _ s15 σ15 H15 _ I15 q15) fun b1 s16 ⟨H16, I16, q16⟩ => ?_
            have fin1 : ∀ {s' : Shared} {H' : Hp}, Inv (X.blk s3 H3 scope ce fp) (([] ++ pinsAt fp s7.heap) ++ pinsAt fp1 s14.heap) σ15 H' s' → Nx1 H' → ∃ m, m < k ∧ ∃ j H', Inv (X.blk s3 H3 scope ce fp) ([] ++ pinsAt fp s7.heap) (wipe σ8 vs1) H' s' ∧ tn1 j s'.heap ∧ (∀ b ∈ fp1, H' b = none) ∧ W1 j m H' := fun {s' H'} I' nx => by
              obtain ⟨m', hm, w'⟩ := hNx1 H' nx
              have pin' : ∀ b ∈ fp1, ∀ o, s14.heap.get? b = some o → s'.heap.get? b = some o ∧ H' b = none := fun b hb o e =>
                let z := I'.pin (b, o) (List.mem_append_right _ (List.mem_append_right _ (mem_pinsAt hb e)))
                ⟨z.1, z.2.1⟩
              refine ⟨m', hm, j + 1, H', I'.unpinned.weak (by rw [← hw15, wipe_length]) (fun j v e => by rw [← hw15] at e; exact (wipe_some e).1), T1.keep _ _ _ st14 fun b hb o e => (pin' b hb o e).1, fun b hb => ?_, w'⟩
              obtain ⟨o, e, _⟩ := T1.obj _ _ st14 b hb
              exact (pin' b hb o e).2
            cases b1 with
            | false =>
              simp only [Bool.false_eq_true, if_false] at q16 ⊢
              exact fin1 I16 q16
            | true =>
              simp only [if_true] at q16 ⊢
              refine thnF (pe _ s16 σ15 H16 _ I16 q16) fun z s17 ⟨yv, H17, I17, r17, acc, hD17, hz17, nx⟩ => ?_
              exact app_ok (X := X.blk s3 H3 scope ce fp) I17 hD17 hz17 r17 fun s18 I18 => fin1 I18 nx
        exact compStart1_ok loop1 (T1.self X.A 0 _ _ _ st11 loop1)
  exact codeAny_compStart_list loop (T.self X.A 0 _ _ _ st4 loop)
/-- as a value -/
theorem pe_lc2 {elt tg iter tg1 iter1 : Expr} {ifs ifs1 : List Expr} {scope : Scope} {own : List (Str × Nat)} {vs1 : List Nat} {pos : Pos} {wi wi1 : TI} {g g1 : TG} {tt tt1 : TT} {te : TE} (hc : X.calm = true) (hN : X.N.Nodup) (hi : PI X tg iter wi) (ok : BlkOk X.N X.env.scope scope own) (hv : ∀ i ∈ vs1, i ∈ own.map (·.2))
    (hg : ∀ (s : Shared) (H : Hp) (C : Addr) (cl : List (Str × Addr)) (fp : List Addr), PG (X.blk s H scope (compEnvC scope cl C X.env) fp) tg g) (ht : ∀ (s : Shared) (H : Hp) (C : Addr) (cl : List (Str × Addr)) (fp : List Addr), PTs (X.blk s H scope (compEnvC scope cl C X.env) fp) ifs tt)
    (hi1 : ∀ (s : Shared) (H : Hp) (C : Addr) (cl : List (Str × Addr)) (fp : List Addr), PI (X.blk s H scope (compEnvC scope cl C X.env) fp) tg1 iter1 wi1)
    (hg1 : ∀ (s : Shared) (H : Hp) (C : Addr) (cl : List (Str × Addr)) (fp : List Addr), PG (X.blk s H scope (compEnvC scope cl C X.env) fp) tg1 g1) (ht1 : ∀ (s : Shared) (H : Hp) (C : Addr) (cl : List (Str × Addr)) (fp : List Addr), PTs (X.blk s H scope (compEnvC scope cl C X.env) fp) ifs1 tt1)
    (he : ∀ (s : Shared) (H : Hp) (C : Addr) (cl : List (Str × Addr)) (fp : List Addr), PE (X.blk s H scope (compEnvC scope cl C X.env) fp) elt te) (hs : ∀ x, foldedSetIterable iter X.env x = pure x := by intro _; rfl) (hs1 : ∀ env x, foldedSetIterable iter1 env x = pure x := by intro _ _; rfl) :
    PE X (.ListComp elt [⟨tg, iter, ifs, 0⟩, ⟨tg1, iter1, ifs1, 0⟩] scope pos) (tLc2 wi g tt wi1 g1 tt1 te (own.map (·.2)) vs1) := by
  intro pins s σ H Q I h
  rw [eval_ListComp]
  refine lc2_core hc hN I hi ok hv hg ht he hs hi1 hg1 ht1 hs1 h fun D C s' m H' I' q hn f => ⟨m, hn, fun h'' sb => ?_⟩
  obtain ⟨f0, f1, f2, f3, f4, f5⟩ := f
  exact ⟨.ref D, H', I'.turned (t' := s'.toks) (fun b o hb e => (sb.2 b hb).trans e) f0 f1 f3 f4 f5, rfl, q⟩
end
end L2

namespace L2
open PySem PySem.Spec PyProof.Rows

/-! ### lists of pairs as tables -/
section
variable {κ : Type} [DecidableEq κ]
def valV (kvs : List (κ × V)) (k : κ) : Option V := (kvs.find? fun kv => decide (kv.1 = k)).map (·.2)
/-- in its place, or at the end -/
def putK (kvs : List (κ × V)) (k : κ) (v : V) : List (κ × V) :=
  if (kvs.any fun kv => decide (kv.1 = k)) = true then kvs.map (fun kv => if kv.1 = k then (kv.1, v) else kv) else kvs ++ [(k, v)]
def dropK (kvs : List (κ × V)) (k : κ) : List (κ × V) := kvs.filter fun kv => decide (kv.1 ≠ k)

theorem valV_pos {p : κ × V} {r : List (κ × V)} {k : κ} (e : p.1 = k) : valV (p :: r) k = some p.2 := by simp [valV, List.find?_cons, e]
theorem valV_neg {p : κ × V} {r : List (κ × V)} {k : κ} (e : ¬ p.1 = k) : valV (p :: r) k = valV r k := by simp [valV, List.find?_cons, e]
theorem valV_any (k : κ) : ∀ kvs : List (κ × V), (kvs.any fun kv => decide (kv.1 = k)) = (valV kvs k).isSome
  | [] => rfl
  | p :: r => by
    rw [List.any_cons]
    by_cases e : p.1 = k
    · simp only [valV_pos e, decide_eq_true e, Bool.true_or, Option.isSome_some]
    · rw [valV_neg e, decide_eq_false e, Bool.false_or]; exact valV_any k r
theorem length_putK (kvs : List (κ × V)) (k : κ) (v : V) : (putK kvs k v).length ≤ kvs.length + 1 := by
  unfold putK
  split
  · rw [List.length_map]; omega
  · rw [List.length_append, List.length_cons, List.length_nil]; omega
theorem RelO.isSome_eq {o : Option V} {u : Option Value} (r : RelO o u) : o.isSome = u.isSome := by
  cases o with
  | none => cases u with
    | none => rfl
    | some _ => exact (show False from r).elim
  | some _ => cases u with
    | none => exact (show False from r).elim
    | some _ => rfl
theorem RelO.getD {o : Option V} {u : Option Value} {d : V} {d' : Value} (r : RelO o u) (rd : RelV d d') : RelV (o.getD d) (u.getD d') := by
  cases o with
  | none => cases u with
    | none => exact rd
    | some _ => exact (show False from r).elim
  | some _ => cases u with
    | none => exact (show False from r).elim
    | some _ => exact r

/-- raw tables of the same keys -/
theorem KV.val {kvs : List (κ × V)} {vs : List (κ × Value)} (r : KV kvs vs) (k : κ) : RelO (valV kvs k) (valueAt vs k) := by
  unfold KV at r
  induction r with
  | nil => exact True.intro
  | @cons p q ps qs h t ih =>
    obtain ⟨h1, h2⟩ := h
    by_cases e : p.1 = k
    · have e' : q.1 = k := h1.symm.trans e
      have b : valueAt (q :: qs) k = some q.2 := by simp [valueAt, List.find?_cons, e']
      rw [valV_pos e, b]; exact h2
    · have e' : ¬ q.1 = k := fun z => e (h1.trans z)
      have b : valueAt (q :: qs) k = valueAt qs k := by simp [valueAt, List.find?_cons, e']
      rw [valV_neg e, b]; exact ih
theorem KV.any {kvs : List (κ × V)} {vs : List (κ × Value)} (r : KV kvs vs) (k : κ) : (kvs.any fun kv => decide (kv.1 = k)) = vs.any fun kv => decide (kv.1 = k) := by
  unfold KV at r
  induction r with
  | nil => rfl
  | cons h t ih => rw [List.any_cons, List.any_cons, ih, h.1]
theorem KV.repl {kvs : List (κ × V)} {vs : List (κ × Value)} (r : KV kvs vs) (k : κ) {y : V} {u : Value} (ry : RelV y u) :
    KV (kvs.map fun kv => if kv.1 = k then (kv.1, y) else kv) (vs.map fun kv => if kv.1 = k then (kv.1, u) else kv) := by
  unfold KV at r ⊢
  induction r with
  | nil => exact .nil
  | @cons p q ps qs h t ih =>
    rw [List.map_cons, List.map_cons]
    refine .cons ?_ ih
    obtain ⟨h1, h2⟩ := h
    by_cases e : p.1 = k
    · rw [if_pos e, if_pos (h1.symm.trans e)]; exact ⟨h1, ry⟩
    · rw [if_neg e, if_neg (fun z => e (h1.trans z))]; exact ⟨h1, h2⟩
theorem KV.put {kvs : List (κ × V)} {vs : List (κ × Value)} (r : KV kvs vs) (k : κ) {y : V} {u : Value} (ry : RelV y u) : KV (putK kvs k y) (stored vs k u) := by
  unfold putK stored
  rw [r.any k]
  by_cases e : (vs.any fun kv => decide (kv.1 = k)) = true
  · rw [if_pos e, if_pos e]; exact r.repl k ry
  · rw [if_neg e, if_neg e]; exact Paired.snoc r ⟨rfl, ry⟩
theorem KV.drop {kvs : List (κ × V)} {vs : List (κ × Value)} (r : KV kvs vs) (k : κ) : KV (dropK kvs k) (without vs k) := by
  unfold KV at r ⊢
  unfold dropK without
  induction r with
  | nil => exact .nil
  | @cons p q ps qs h t ih =>
    obtain ⟨h1, h2⟩ := h
    rw [List.filter_cons, List.filter_cons]
    by_cases e : p.1 = k
    · have a : ¬ decide (p.1 ≠ k) = true := by simp [e]
      have b : ¬ decide (q.1 ≠ k) = true := by simp [h1.symm.trans e]
      rw [if_neg a, if_neg b]; exact ih
    · have e' : ¬ q.1 = k := fun z => e (h1.trans z)
      have a : decide (p.1 ≠ k) = true := by simp [e]
      have b : decide (q.1 ≠ k) = true := by simp [e']
      rw [if_pos a, if_pos b]; exact .cons ⟨h1, h2⟩ ih
theorem KV.keys {kvs : List (κ × V)} {vs : List (κ × Value)} (r : KV kvs vs) : kvs.map (·.1) = vs.map (·.1) := by
  unfold KV at r
  induction r with
  | nil => rfl
  | cons h t ih => rw [List.map_cons, List.map_cons, ih, h.1]
theorem KV.length {kvs : List (κ × V)} {vs : List (κ × Value)} (r : KV kvs vs) : kvs.length = vs.length := Paired.length r
end


/-! ### a tracked dict, its keys ints and texts or tuples of these -/
theorem kV_is {P : Program} {w : World} {k : Key} {u : Value} (r : RelV (kV k) u) : (mixKind P w).is k u = true := by
  cases k with
  | inl i => obtain ⟨t, e⟩ := (show ∃ t, u = Value.int i t from r); subst e; exact mixKind_int P w i t
  | inr x => obtain ⟨t, e⟩ := (show ∃ t, u = Value.str x t from r); subst e; exact mixKind_str P w x t
theorem items_are {P : Program} {w : World} : ∀ {ks : List Key} {us : List Value}, Vals (ks.map kV) us → ItemsAre (mixKind P w) ks us
  | [], _, r => by rw [List.map_nil] at r; cases r; exact .nil
  | k :: ks, _, r => by
    rw [List.map_cons] at r
    cases r with
    | cons h t => exact .cons (kV_is h) (items_are t)

/-- raw entries of a dict with tuple keys -/
abbrev KT (H : Hp) : List (List Key × V) → List (List Key × Addr × Value) → Prop := Paired fun p q => p.1 = q.1 ∧ H q.2.1 = some (.tup (p.1.map kV)) ∧ RelV p.2 q.2.2
theorem KT.val {H : Hp} {kvs : List (List Key × V)} {xs : List (List Key × Addr × Value)} (r : KT H kvs xs) (k : List Key) : RelO (valV kvs k) ((atKey xs k).map (·.2)) := by
  induction r with
  | nil => exact True.intro
  | @cons p q ps qs h t ih =>
    obtain ⟨h1, _, h2⟩ := h
    by_cases e : p.1 = k
    · have e' : q.1 = k := h1.symm.trans e
      have b : atKey (q :: qs) k = some q.2 := by simp [atKey, List.find?_cons, e']
      rw [valV_pos e, b]; exact h2
    · have e' : ¬ q.1 = k := fun z => e (h1.trans z)
      have b : atKey (q :: qs) k = atKey qs k := by simp [atKey, List.find?_cons, e']
      rw [valV_neg e, b]; exact ih
theorem KT.repl {H : Hp} {kvs : List (List Key × V)} {xs : List (List Key × Addr × Value)} (r : KT H kvs xs) (k : List Key) {y : V} {u : Value} (ry : RelV y u) :
    KT H (kvs.map fun kv => if kv.1 = k then (kv.1, y) else kv) (xs.map (putAt k u)) := by
  induction r with
  | nil => exact .nil
  | @cons p q ps qs h t ih =>
    rw [List.map_cons, List.map_cons]
    refine .cons ?_ ih
    obtain ⟨h1, h2, h3⟩ := h
    unfold putAt
    by_cases e : p.1 = k
    · rw [if_pos e, if_pos (h1.symm.trans e)]; exact ⟨h1, h2, ry⟩
    · rw [if_neg e, if_neg (fun z => e (h1.trans z))]; exact ⟨h1, h2, h3⟩
theorem KT.put {H : Hp} {kvs : List (List Key × V)} {xs : List (List Key × Addr × Value)} (r : KT H kvs xs) (k : List Key) {b : Addr} {y : V} {u : Value} (hb : H b = some (.tup (k.map kV))) (ry : RelV y u) :
    KT H (putK kvs k y) (storedH xs k b u) := by
  have e : (kvs.any fun kv => decide (kv.1 = k)) = (atKey xs k).isSome := by
    rw [valV_any, (r.val k).isSome_eq, Option.isSome_map]
  unfold putK storedH
  rw [e]
  by_cases q : (atKey xs k).isSome = true
  · rw [if_pos q, if_pos q]; exact r.repl k ry
  · rw [if_neg q, if_neg q]; exact Paired.snoc r ⟨rfl, hb, ry⟩
theorem KT.keeps {H H' : Hp} {kvs : List (List Key × V)} {xs : List (List Key × Addr × Value)} (r : KT H kvs xs) (ht : ∀ b ys, H b = some (.tup ys) → H' b = some (.tup ys)) : KT H' kvs xs :=
  Paired.mapP r fun _ _ z => ⟨z.1, ht _ _ z.2.1, z.2.2⟩

section
variable {P : Program} {w : World} {H : Hp} {h : Heap} {a : Addr}
theorem rd_of {u : HO} (ok : HOk P w H h) (e : Rd H a u) : ObjOk P w H h a u := e.ok ok
theorem dk_rd {kvs : List (Key × V)} (ok : HOk P w H h) (e : Rd H a (.dK kvs)) : kvs.length ≤ sizeLine ∧ (a == sysModules) = false ∧ ∃ vs, KV kvs vs ∧ h.DictOf (mixKind P w) a vs :=
  show ObjOk P w H h a (.dK kvs) from rd_of ok e
theorem dk_of {kvs : List (Key × V)} (ok : HOk P w H h) (e : H a = some (.dK kvs)) : kvs.length ≤ sizeLine ∧ (a == sysModules) = false ∧ ∃ vs, KV kvs vs ∧ h.DictOf (mixKind P w) a vs := dk_rd ok (.inl e)
/-- a tracked tuple of ints and texts is a key -/
theorem key_of {ks : List Key} (ok : HOk P w H h) (e : H a = some (.tup (ks.map kV))) : (tupleKind (mixKind P w)).is h ks a := by
  obtain ⟨_, its, r, o, h1, h2, n, h3⟩ := (show ObjOk P w H h a (.tup (ks.map kV)) from ok a _ e)
  exact ⟨o, its.toArray, n, h1, h2, h3, by simpa using items_are r⟩
theorem dt_rd {kvs : List (List Key × V)} (ok : HOk P w H h) (e : Rd H a (.dT kvs)) : kvs.length ≤ sizeLine ∧ (a == sysModules) = false ∧
    ∃ xs, KT H kvs xs ∧ h.DictOfH (tupleKind (mixKind P w)) a xs := by
  obtain ⟨z, y, xs, r, o, es, ep, h1, h2, h3, h4, h5⟩ := (show ObjOk P w H h a (.dT kvs) from rd_of ok e)
  refine ⟨z, y, xs, r, o, es, ep, h1, h2, h3, h4, fun x hx => ?_, h5⟩
  have all : ∀ {l : List (List Key × V)} {m : List (List Key × Addr × Value)}, KT H l m → ∀ x ∈ m, (tupleKind (mixKind P w)).is h x.1 x.2.1 := by
    intro l m q
    induction q with
    | nil => intro x hx; exact nomatch hx
    | @cons p q ps qs hq t ih =>
      intro x hx
      rcases List.mem_cons.mp hx with e | hx
      · subst e
        exact key_of ok (by rw [← hq.1]; exact hq.2.1)
      · exact ih x hx
  exact all r x hx
theorem dt_of {kvs : List (List Key × V)} (ok : HOk P w H h) (e : H a = some (.dT kvs)) : kvs.length ≤ sizeLine ∧ (a == sysModules) = false ∧
    ∃ xs, KT H kvs xs ∧ h.DictOfH (tupleKind (mixKind P w)) a xs := dt_rd ok (.inl e)
end

/-- what the dict at a holds at the key y -/
def DGet (H : Hp) (a : Addr) (y : V) (r : Option V) : Prop :=
  (∃ kvs k, Rd H a (.dK kvs) ∧ y = kV k ∧ r = valV kvs k) ∨ ∃ kvs k b, Rd H a (.dT kvs) ∧ y = .ref b ∧ H b = some (.tup (k.map kV)) ∧ r = valV kvs k
/-- the heap behind a[y] = v -/
def DPut (H : Hp) (a : Addr) (y v : V) (H' : Hp) : Prop :=
  (∃ kvs k, H a = some (.dK kvs) ∧ y = kV k ∧ kvs.length < sizeLine ∧ H' = upd H a (.dK (putK kvs k v))) ∨
  ∃ kvs k b, H a = some (.dT kvs) ∧ y = .ref b ∧ H b = some (.tup (k.map kV)) ∧ kvs.length < sizeLine ∧ H' = upd H a (.dT (putK kvs k v))
theorem DGet.k {H : Hp} {a : Addr} {kvs : List (Key × V)} {k : Key} (e : H a = some (.dK kvs)) : DGet H a (kV k) (valV kvs k) := .inl ⟨kvs, k, .inl e, rfl, rfl⟩
theorem DGet.t {H : Hp} {a b : Addr} {kvs : List (List Key × V)} {k : List Key} (e : H a = some (.dT kvs)) (eb : H b = some (.tup (k.map kV))) : DGet H a (.ref b) (valV kvs k) := .inr ⟨kvs, k, b, .inl e, rfl, eb, rfl⟩
theorem DPut.k {H : Hp} {a : Addr} {kvs : List (Key × V)} {k : Key} {v : V} (e : H a = some (.dK kvs)) (hl : kvs.length < sizeLine) : DPut H a (kV k) v (upd H a (.dK (putK kvs k v))) := .inl ⟨kvs, k, e, rfl, hl, rfl⟩
theorem DPut.t {H : Hp} {a b : Addr} {kvs : List (List Key × V)} {k : List Key} {v : V} (e : H a = some (.dT kvs)) (eb : H b = some (.tup (k.map kV))) (hl : kvs.length < sizeLine) :
    DPut H a (.ref b) v (upd H a (.dT (putK kvs k v))) := .inr ⟨kvs, k, b, e, rfl, eb, hl, rfl⟩


section
variable {X : Cx} {pins : List (Addr × Obj)} {σ : St} {H : Hp} {s : Shared} {a : Addr} {y v : V} {u r : Value} {o : Option V} {A : Around} {E : Value → Shared → Prop}

theorem Inv.big (I : Inv X pins σ H s) : sysModules < s.heap.objs.size := by
  have h : mainGlobals < s.heap.objs.size := (I.mod.glob.keeps I.bk).lt
  exact Nat.lt_trans (by decide) h

/-- d[y], there -/
theorem d_getItem {Q : Value → Shared → Prop} (hu : A.units + 1 < cLine) (I : Inv X pins σ H s) (g : DGet H a y (some v)) (ry : RelV y u) (h : ∀ w' s', Inv X pins σ H s' → RelV v w' → Q w' s') :
    wpAny (model X.prog X.w) A (getItem (.ref a) u) Q E s := by
  rcases g with ⟨kvs, k, e, ey, l⟩ | ⟨kvs, k, b, e, ey, eb, l⟩
  · subst ey
    obtain ⟨z, hd, vs, rel, dd⟩ := dk_rd I.hok e
    obtain ⟨w', hw, rw'⟩ := RelO.some_of (v := v) (o := valueAt vs k) (by rw [l]; exact rel.val k)
    exact wpAny_getItem_of (kV_is ry) dd.mapOf hw (h w' _ (I.tok _) rw')
  · subst ey
    cases (show u = Value.ref b from ry)
    obtain ⟨z, hd, xs, rel, dd⟩ := dt_rd I.hok e
    obtain ⟨w', hw, rw'⟩ := RelO.some_of (v := v) (o := (atKey xs k).map (·.2)) (by rw [l]; exact rel.val k)
    obtain ⟨p, hp, hp2⟩ := Option.map_eq_some_iff.mp hw
    refine wpAny_getItem_heap (tupleKind_room_in1 hu) (key_of I.hok eb) dd hp ?_
    rw [hp2]
    exact h w' _ (I.tok _) rw'
/-- a dict's object is replaced -/
theorem d_write {h' : Heap} {t' : Nat} {ob : HO} (I : Inv X pins σ H s) (mu : Mut (H a)) (hs : Heap.SameBut a s.heap h') (he : ∃ q, h'.get? a = some q) (new : ObjOk X.prog X.w (upd H a ob) h' a ob) :
    Inv X pins σ (upd H a ob) { s with heap := h', toks := t' } :=
  I.write (x := a) (e := a) mu (.inl rfl) (fun b q hb z => (hs.2 b hb).trans z) he new
theorem dk_new {P : Program} {w : World} {H' : Hp} {h' : Heap} {kvs : List (Key × V)} {vs : List (Key × Value)} (z : kvs.length ≤ sizeLine) (hd : (a == sysModules) = false) (rel : KV kvs vs) (dd : h'.DictOf (mixKind P w) a vs) :
    ObjOk P w H' h' a (.dK kvs) := ⟨z, hd, vs, rel, dd⟩
/-- d[y] = v -/
theorem d_setItem {H' : Hp} {Q : Unit → Shared → Prop} (hu : A.units + 1 < cLine) (I : Inv X pins σ H s) (g : DPut H a y v H') (ry : RelV y u) (rv : RelV v r) (h : ∀ s', Inv X pins σ H' s' → Q () s') :
    wpAny (model X.prog X.w) A (setItem (.ref a) u r) Q E s := by
  rcases g with ⟨kvs, k, e, ey, l, eH⟩ | ⟨kvs, k, b, e, ey, eb, l, eH⟩
  · subst ey eH
    obtain ⟨z, hd, vs, rel, dd⟩ := dk_of I.hok e
    have hz : vs.length ≤ sizeLine := by rw [← rel.length]; exact z
    have hl : (putK kvs k v).length ≤ sizeLine := by have := length_putK kvs k v; omega
    refine wpAny_setItem_pairs (hsz := hz) (kV_is ry) dd fun h' dd' hs => h _ ?_
    have he : ∃ q, h'.get? a = some q := let ⟨q, _, _, hq, _⟩ := dd'; ⟨q, hq⟩
    exact d_write I (by rw [e]; exact True.intro) hs he (dk_new hl hd (rel.put k rv) dd')
  · subst ey eH
    cases (show u = Value.ref b from ry)
    obtain ⟨z, hd, xs, rel, dd⟩ := dt_of I.hok e
    have hz : xs.length ≤ sizeLine := by rw [← Paired.length rel]; exact z
    have hl : (putK kvs k v).length ≤ sizeLine := by have := length_putK kvs k v; omega
    refine wpAny_setItem_heap (hsz := hz) (tupleKind_room_in1 hu) (key_of I.hok eb) dd fun h' dd' hs => h _ ?_
    obtain ⟨q, es, ep, hq, h2, h3, h4, _, h5⟩ := dd'
    refine d_write I (by rw [e]; exact True.intro) hs ⟨q, hq⟩ ⟨hl, hd, _, (rel.put k eb rv).keeps fun c ys ec => ?_, q, es, ep, hq, h2, h3, h4, h5⟩
    rw [upd_ne (ne_of ec e (fun z => nomatch z))]
    exact ec
end

section
variable {X : Cx} {pins : List (Addr × Obj)} {σ : St} {H : Hp} {s : Shared} {a : Addr} {kvs : List (Key × V)} {k : Key} {u : Value} {A : Around} {E : Value → Shared → Prop}
end


/-! ### readings and rules -/
/-- the element of a subscription, not a slice -/
def NoSl (i : Expr) : Prop := ∀ ov iv, subscripted i false ov iv = operate [ov, iv] (getItem ov iv)
theorem subD_of {prog : Program} {w : World} {A : Around} {E : Value → Shared → Prop} {s : Shared} {env : Env} {value slice : Expr} {pos : Pos} {T id : String} {Q : Value → Shared → Prop}
    (hl : typeLookup (.type T) "__getitem__" = pure (some (.builtin id))) (hs : NoSl slice)
    (h : wpAny (model prog w) A (eval value env) (fun o s₁ => wpAny (model prog w) A (eval slice env) (fun i s₂ => s₂.TypeIs o T ∧ wpAny (model prog w) A (getItem o i) Q E s₂) E s₁) E s) :
    wpAny (model prog w) A (eval (.Subscript value slice pos) env) Q E s := by
  refine Subscript_ (wpAny_mono h (fun o s₁ h₁ => wpAny_mono h₁ (fun i s₂ h₂ => ?_) fun _ _ x => x) fun _ _ x => x)
  obtain ⟨hT, h₂⟩ := h₂
  unfold subscriptTail
  refine wpAny_bind ?_
  rw [getitemInPython_of_ne hT.not_modules]
  refine wpAny_bind (wpAny_specialOf hT hl ?_)
  have fin : wpAny (model prog w) A (subscripted slice false o i) (fun r s₃ => wpAny (model prog w) A (letTemporaryGo value o r >>= fun _ => pure r) Q E s₃) E s₂ := by
    rw [hs o i]
    exact wpAny_operating (wpAny_mono h₂ (fun r s₃ h₃ => wpAny_bind (wpAny_letTemporaryGo (wpAny_pure h₃))) fun _ _ x => x)
  first
    | exact wpAny_pure (wpAny_bind fin)
    | exact wpAny_bind (wpAny_pure (wpAny_bind fin))
    | exact wpAny_bind fin

theorem dict_typeIs {X : Cx} {pins : List (Addr × Obj)} {σ : St} {H : Hp} {s : Shared} {a : Addr} {y : V} {o : Option V} (I : Inv X pins σ H s) (g : DGet H a y o) : s.TypeIs (.ref a) "dict" := by
  rcases g with ⟨kvs, k, e, _, _⟩ | ⟨kvs, k, b, e, _, _, _⟩
  · obtain ⟨_, _, vs, _, dd⟩ := dk_rd I.hok e
    exact dd.typeIs
  · obtain ⟨_, _, xs, _, dd⟩ := dt_rd I.hok e
    exact dd.typeIs
/-- d[y] -/
def tDGet (td ty : TE) : TE := fun σ H Q => td σ H fun x H1 => ty σ H1 fun y H2 => ∃ a v, x = .ref a ∧ DGet H2 a y (some v) ∧ Q v H2
/-- y in d, y not in d -/
def tDIn (ty td : TE) : TE := fun σ H Q => ty σ H fun y H1 => td σ H1 fun x H2 => ∃ a o, x = .ref a ∧ DGet H2 a y o ∧ Q (.bl o.isSome) H2
def tDNotIn (ty td : TE) : TE := fun σ H Q => ty σ H fun y H1 => td σ H1 fun x H2 => ∃ a o, x = .ref a ∧ DGet H2 a y o ∧ Q (.bl (!o.isSome)) H2
/-- d[y] = v -/
def sDPut (td ty tv : TE) : TS := fun D σ H => tv σ H fun v H1 => td σ H1 fun x H2 => ty σ H2 fun y H3 => ∃ a H4, x = .ref a ∧ DPut H3 a y v H4 ∧ D.nx σ H4
section
variable {X : Cx} {o i e value : Expr} {pos pos' tpos : Pos} {td ty tv : TE}
theorem pe_dget (hu : X.A.units + 1 < cLine) (ho : PE X o td) (hi : PE X i ty) (hs : NoSl i) : PE X (.Subscript o i pos) (tDGet td ty) := by
  intro pins s σ H Q I h
  refine subD_of PySem.F.slot_dict_getitem.lookup hs (thn (ho pins s σ H _ I h) fun u s1 ⟨x, H1, I1, rx, q1⟩ => thn (hi pins s1 σ H1 _ I1 q1) fun iv s2 ⟨y, H2, I2, ry, a, v, ex, g, q2⟩ => ?_)
  subst ex
  obtain rfl : u = Value.ref a := rx
  exact ⟨dict_typeIs I2 g, d_getItem hu I2 g ry fun w' s3 I3 rw' => ⟨v, H2, I3, rw', q2⟩⟩
theorem ps_dput (hu : X.A.units + 1 < cLine) (ho : PE X o td) (hi : PE X i ty) (hv : PE X value tv) (hs : swapsWith value (some (.Subscript o i pos')) pos.line X.env = pure false) :
    PS X (.Assign [.Subscript o i pos'] value pos) (sDPut td ty tv) := by
  intro pins s σ H D I h
  refine wpAny_Assign_Subscript (thn (hv pins s σ H _ I h) fun r s1 ⟨v, H1, I1, rv, q1⟩ => thn (ho pins s1 σ H1 _ I1 q1) fun u s2 ⟨x, H2, I2, rx, q2⟩ => thn (hi pins s2 σ H2 _ I2 q2) fun iv s3 ⟨y, H3, I3, ry, a, H4, ex, g, q3⟩ => ?_) hs
  subst ex
  obtain rfl : u = Value.ref a := rx
  exact d_setItem hu I3 g ry rv fun s4 I4 => ⟨σ, H4, I4, q3⟩
end


/-! ### displays -/
theorem dk_empty {P : Program} {w : World} {H : Hp} (h : Heap) (hb : sysModules < h.objs.size) : ObjOk P w H (h.push { cls := .type "dict", data := .dict #[] }) h.objs.size (.dK []) :=
  ⟨Nat.zero_le _, beq_eq_false_iff_ne.mpr (Ne.symm (Nat.ne_of_lt hb)), [], .nil, Heap.DictOf.new h⟩
section
variable {X : Cx} {pos : Pos}
end

/-- the pairs of a display, from the left -/
def tPairs : List (TE × TE) → St → Hp → (List (V × V) → Hp → Prop) → Prop
  | [], _, H, Q => Q [] H
  | (tk, tv) :: r, σ, H, Q => tk σ H fun x H1 => tv σ H1 fun y H2 => tPairs r σ H2 fun ps H3 => Q ((x, y) :: ps) H3
abbrev VV : List (V × V) → List (Value × Value) → Prop := Paired fun p q => RelV p.1 q.1 ∧ RelV p.2 q.2
def PPs (X : Cx) (pos : Pos) (keys : List (Option Expr)) (values : List Expr) (trs : List (TE × TE)) : Prop :=
  ∀ (pins : List (Addr × Obj)) (s : Shared) (σ : St) (H : Hp) (Q : List (V × V) → Hp → Prop), Inv X pins σ H s → tPairs trs σ H Q →
    wpAny (model X.prog X.w) X.A (evalPairs (pairTrees keys values X.env pos)) (fun vs s' => ∃ ps H', Inv X pins σ H' s' ∧ VV ps vs ∧ Q ps H') X.xe s
theorem pps_nil {X : Cx} {pos : Pos} : PPs X pos [] [] [] := fun pins s σ H Q I h => pairTrees_nil_walk ⟨[], H, I, .nil, h⟩
theorem pps_cons {X : Cx} {pos : Pos} {k v : Expr} {ks : List (Option Expr)} {vs : List Expr} {tk tv : TE} {trs : List (TE × TE)} (hk : PE X k tk) (hv : PE X v tv) (hr : PPs X pos ks vs trs) :
    PPs X pos (some k :: ks) (v :: vs) ((tk, tv) :: trs) := fun pins s σ H Q I h =>
  pairTrees_cons_walk (thn (hk pins s σ H _ I h) fun u s1 ⟨x, H1, I1, rx, q1⟩ => thn (hv pins s1 σ H1 _ I1 q1) fun w2 s2 ⟨y, H2, I2, ry, q2⟩ =>
    thn (hr pins s2 σ H2 _ I2 q2) fun ws s3 ⟨ps, H3, I3, rel, q3⟩ => ⟨(x, y) :: ps, H3, I3, .cons ⟨rx, ry⟩ rel, q3⟩)

def mergeK (kvs more : List (Key × V)) : List (Key × V) := more.foldl (fun acc kv => putK acc kv.1 kv.2) kvs
theorem KV.merge : ∀ {more : List (Key × V)} {rs : List (Key × Value)} {kvs : List (Key × V)} {vs : List (Key × Value)}, KV more rs → KV kvs vs → KV (mergeK kvs more) (merged vs rs) := by
  intro more rs kvs vs r
  unfold KV at r
  induction r generalizing kvs vs with
  | nil => intro q; exact q
  | @cons p q ps qs h t ih =>
    intro r0
    have e : KV (putK kvs p.1 p.2) (stored vs q.1 q.2) := by
      have := r0.put p.1 h.2
      rw [← h.1]; exact this
    exact ih e
theorem length_mergeK : ∀ (more kvs : List (Key × V)), (mergeK kvs more).length ≤ kvs.length + more.length
  | [], kvs => by show kvs.length ≤ kvs.length + 0; omega
  | p :: r, kvs => by
    have h1 := length_mergeK r (putK kvs p.1 p.2)
    have h2 := length_putK kvs p.1 p.2
    show (mergeK (putK kvs p.1 p.2) r).length ≤ _
    rw [List.length_cons]; omega
theorem carries_of {P : Program} {w : World} : ∀ {kvs : List (Key × V)} {ws : List (Value × Value)}, VV (kvs.map fun kv => (kV kv.1, kv.2)) ws → ∃ rs, Carries (mixKind P w) ws rs ∧ KV kvs rs
  | [], _, r => by rw [List.map_nil] at r; cases r; exact ⟨[], True.intro, .nil⟩
  | p :: kvs, _, r => by
    rw [List.map_cons] at r
    cases r with
    | @cons a b as bs h t =>
      obtain ⟨rs, c, q⟩ := carries_of (P := P) (w := w) t
      obtain ⟨b1, b2⟩ := b
      exact ⟨(p.1, b2) :: rs, ⟨kV_is h.1, rfl, c⟩, .cons ⟨rfl, h.2⟩ q⟩
/-- {k: v, ..} with keys ints and texts; the new dict stands empty while the pairs are made -/
def tDisp (trs : List (TE × TE)) : TE := fun σ H Q => ∀ p, H p = none → tPairs trs σ (upd H p (.dK [])) fun ps H2 => H2 p = some (.dK []) ∧ ∃ kvs : List (Key × V), ps = kvs.map (fun kv => (kV kv.1, kv.2)) ∧ kvs.length ≤ 15 ∧ Q (.ref p) (upd H2 p (.dK (mergeK [] kvs)))
theorem pe_disp {X : Cx} {pos : Pos} {keys : List (Option Expr)} {values : List Expr} {trs : List (TE × TE)} (h : PPs X pos keys values trs) (hall : keys.all (·.isSome) = true) (hl : keys.length = values.length) (h0 : keys ≠ [])
    (h15 : keys.length ≤ 15) : PE X (.Dict keys values pos) (tDisp trs) := by
  intro pins s σ H Q I q
  have hn := I.hok.fresh (Nat.le_refl s.heap.objs.size)
  have I1 := I.laid (a := s.heap.objs.size) (o := .dK []) (h' := s.heap.push { cls := .type "dict", data := .dict #[] }) (t' := s.toks) (fun _ _ q => Heap.get?_push_of_some _ q) (Nat.le_refl _) (dk_empty s.heap I.big)
  refine wpAny_Dict_walk (knd := mixKind X.prog X.w) hall hl h0 h15 (thn (h pins _ σ _ _ I1 (q _ hn)) fun ws s2 ⟨ps, H2, I2, rel, e, kvs, ep, lk, q2⟩ => ?_)
  subst ep
  obtain ⟨rs, c, rk⟩ := carries_of (P := X.prog) (w := X.w) rel
  obtain ⟨z, hd, vs0, r0, dd⟩ := dk_of I2.hok e
  cases r0
  refine ⟨rs, c, dd, fun h' dd' hs => ⟨.ref s.heap.objs.size, _, ?_, rfl, q2⟩⟩
  have hz : (mergeK [] kvs).length ≤ sizeLine := by
    have h1 := length_mergeK kvs []
    rw [List.length_nil] at h1
    rw [sizeLine_eq]; omega
  have he : ∃ q, h'.get? s.heap.objs.size = some q := let ⟨q, _, _, hq, _⟩ := dd'; ⟨q, hq⟩
  exact d_write I2 (by rw [e]; exact True.intro) hs he (dk_new hz hd (rk.merge .nil) dd')


/-! ### methods -/
section
variable {X : Cx} {pins : List (Addr × Obj)} {σ : St} {H : Hp} {s : Shared} {a : Addr} {y d : V} {u r : Value} {o : Option V} {A : Around} {E : Value → Shared → Prop}
end

section
variable {X : Cx} {o e f : Expr} {apos cpos : Pos} {td ty tx : TE}
end

/-! ### dict(d): a copy -/
section
variable {X : Cx} {pins : List (Addr × Obj)} {σ : St} {H : Hp} {s : Shared} {a : Addr} {kvs : List (Key × V)} {A : Around} {E : Value → Shared → Prop}
end


section
variable {X : Cx} {pins : List (Addr × Obj)} {σ : St} {H : Hp} {s : Shared} {a : Addr} {y : V} {u : Value} {A : Around} {E : Value → Shared → Prop}
end
end L2

namespace L2
open PySem PySem.Spec PyProof.Rows

section
variable {prog : Program} {w : World} {A : Around} {E : Value → Shared → Prop}
end

section
variable {X : Cx}
end
end L2

namespace L2
open PySem PySem.Spec PyProof.Rows

section
variable {X : Cx} {pins : List (Addr × Obj)} {σ : St} {H : Hp} {s : Shared} {h' : Heap}
/-- .. and one new object is laid -/
theorem Inv.turnedNew {t' : Nat} {ch : List Addr} {T : Addr} {ob : HO} (I : Inv X pins σ H s) (k : ∀ b o, b ∉ ch → s.heap.get? b = some o → h'.get? b = some o) (hf : ∀ b ∈ ch, FpOk X pins H b) (hT : s.heap.objs.size ≤ T)
    (new : ObjOk X.prog X.w (upd H T ob) h' T ob) : Inv X pins σ (upd H T ob) { s with heap := h', toks := t' } := by
  have hn : H T = none := I.hok.fresh hT
  have nit : ∀ b u, H b = some u → b ∉ ch := fun b u e z => by
    have q := (hf b z).1
    rw [q] at e; cases e
  refine I.step (g' := s.gens) (d' := s.drawn) (ch := ch) (fun b hb => ⟨(hf b hb).2.2.2.1, (hf b hb).2.1, (hf b hb).2.2.2.2.1, (hf b hb).2.2.2.2.2⟩) (fun b o _ _ hc e _ => k b o hc e) (fun b o _ _ hc e _ => ⟨o.slots, k b o hc e⟩)
    (fun b o _ e n => ?_) (fun b o hc e => ⟨o, k b o hc e⟩) (fun b xs e => ?_) (fun b o u e => ?_) (fun b ps e => ⟨#[], ?_⟩) (fun m hm => ?_) (fun b u e => ?_) I.bare
  · rw [upd_ne (Nat.ne_of_lt (Nat.lt_of_lt_of_le (Heap.lt_size e) hT))]; exact n
  · rw [upd_ne (ne_of_none e hn)]; exact e
  · rw [upd_ne (ne_of_none e hn)]; exact e
  · rw [upd_ne (ne_of_none e hn), e]; simp
  · obtain ⟨o, es, ep, ho, r⟩ := hm
    exact ⟨o, es, ep, k _ o (fun z => (hf _ z).2.1 rfl) ho, r⟩
  · by_cases hb : b = T
    · subst hb
      rw [upd_same] at e
      cases e
      exact new
    · rw [upd_ne hb] at e
      refine (I.hok b u e).stay (fun c v hc q => k c v ?_ q) (fun c q => by rw [upd_ne (ne_of_none q hn)]; exact q) fun c xs q => by rw [upd_ne (ne_of_none q hn)]; exact q
      rcases hc with z | z
      · rw [z]; exact nit b u e
      · exact nit c _ z

/-! ### locking a thing while a statement runs -/
end
section
variable {X : Cx}
/-! ### one iterator just laid -/
end

/-! ### range with a step -/
/-- lo, lo + c, .. (n of them) -/
def Itc (lo c : Int) (n : Nat) : It := ⟨fun i _ => i < n, fun i H x H' => H' = H ∧ x = .int (lo + (i : Nat) * c), fun i _ => n ≤ i⟩
/-- range(i, j, c): small bounds, n items -/
def RgC (i j c : Int) (n : Nat) : Prop := c ≠ 0 ∧ c.natAbs < 1073741824 ∧ Builtin.Range.small i j c = true ∧ Builtin.Range.rangeSize i j c = n
theorem RgC.neg {i j : Int} (ha : -(2 ^ 62) ≤ i) (ha' : i < 2 ^ 62) (hb : -(2 ^ 62) ≤ j) (hb' : j < 2 ^ 62) : RgC i j (-1) (i - j).toNat :=
  ⟨by decide, by decide, PySem.W.small_down ha ha' hb hb', PySem.W.rangeSize_downNat i j⟩
def iRng3 (ta : TA) : TI := fun σ H R => ta σ H fun vs H1 => ∃ (i j c : Int) (n : Nat), vs = [.int i, .int j, .int c] ∧ RgC i j c n ∧ R (Itc i c n) H1
section
variable {X : Cx} {tg : Expr}
end
/-! ### reversed(list) -/
section
variable {X : Cx} {tg : Expr}
end

/-! ### a str -/
def Its (x : Str) : It := ⟨fun i _ => i < x.cps.size, fun i H v H' => H' = H ∧ ∃ c, x.cps[i]? = some c ∧ v = .str ⟨#[c]⟩, fun i _ => x.cps.size ≤ i⟩
def iStr (te : TE) : TI := fun σ H R => te σ H fun v H1 => ∃ x, v = .str x ∧ R (Its x) H1
/-! ### a dict's keys: any dict's entries -/
section
variable {prog : Program} {w : World} {A : Around} {E : Value → Shared → Prop} {s : Shared}
end

/-! ### a locked dict -/
section
variable {X : Cx} {pins : List (Addr × Obj)} {σ : St} {H : Hp} {s : Shared} {d : Addr} {o : Obj}
end

section
variable {P : Program} {w : World} {K : PySem.W.Frag} {tg : Expr} {d : Addr} {o : Obj} {es : Array DictEntry} {ep : Nat}
end

/-! ### for k in d, d.keys(), d.values(), d.items() -/
section
variable {X : Cx} {tg e : Expr} {td : TE} {apos cpos : Pos}
end

/-! ### enumerate(list) -/
/-- the list at a as it stands at each turn, each item in a new pair -/
def Ite (K : PySem.W.Frag) (a : Addr) : It :=
  ⟨fun i H => ∃ (xs : List V) (x : V), SqL K H a xs ∧ xs[i]? = some x, fun i H v H' => ∃ T x, v = .ref T ∧ H T = none ∧ H' = upd H T (.tup [.int (i : Nat), x]) ∧ ∀ xs, SqL K H a xs → xs[i]? = some x, fun i H => ∃ xs : List V, SqL K H a xs ∧ xs.length ≤ i⟩
theorem turn_enum {P : Program} {w : World} {K : PySem.W.Frag} {elts : List Expr} {kk : Nat} {tpos : Pos} (a e it : Addr) :
    Turn P w K (.Tuple elts kk tpos) (Ite K a) [e, it] e (fun i h => (∃ old, IsEnum h e it ((i : Nat) : Int) old) ∧ h.IsListIter it a i ∧ e ≠ it) where
  mem := by simp
  obj := fun i h st b hb => by
    obtain ⟨⟨old, he⟩, ⟨o, ho, hc, hd⟩, _⟩ := st
    have e' : b = e ∨ b = it := by simpa using hb
    rcases e' with z | z
    · rw [z]; exact ⟨_, he, fun v q => nomatch q⟩
    · rw [z]; exact ⟨o, ho, fun v q => by rw [hd] at q; cases q⟩
  keep := fun i h h' st k => let ⟨⟨old, he⟩, hi, hne⟩ := st; ⟨⟨old, k e (by simp) _ he⟩, hi.at fun o q => k it (by simp) o q, hne⟩
  item := by
    intro X hP hw hK hc i pins s σ H E I hf st hg
    subst hP hw hK
    obtain ⟨⟨old, he⟩, hit, hne⟩ := st
    obtain ⟨xs, x, hq, hx⟩ := hg
    obtain ⟨its, rv, p, hz⟩ := I.list hq
    obtain ⟨u, hu, ru⟩ := rv.get hx
    have hel : e < s.heap.objs.size := Heap.lt_size he
    have hil : it < s.heap.objs.size := by obtain ⟨_, q, _⟩ := hit; exact Heap.lt_size q
    refine wpAny_pyNext_enum_item he hit p.isList (x := u) (by simpa using hu) hne fun h' ho hit' hT hsz hk => ?_
    refine ⟨_, rfl, wpAny_letOwnedTupleGo_enum (s := { s with heap := h', toks := s.toks + 1 }) ho fun h'' he' sb => ?_⟩
    have hT2 : h''.get? s.heap.objs.size = some { cls := .type "tuple", data := .seq #[.int i s.toks, u] } := (sb.2 _ (Nat.ne_of_gt hel)).trans hT
    have new : ObjOk X.prog X.w (upd H s.heap.objs.size (.tup [.int (i : Nat), x])) h'' s.heap.objs.size (.tup [.int (i : Nat), x]) :=
      ⟨by show 2 ≤ sizeLine; decide, [.int i s.toks, u], .cons ⟨_, rfl⟩ (.cons ru .nil), ⟨_, hT2, rfl, _, rfl⟩⟩
    have I1 : Inv X pins σ (upd H s.heap.objs.size (.tup [.int (i : Nat), x])) { s with heap := h'', toks := s.toks + 1 } :=
      I.turnedNew (ch := [e, it]) (fun b ob hb q => (sb.2 b (fun z => hb (by simp [z]))).trans (hk b ob (fun z => hb (by simp [z])) (fun z => hb (by simp [z])) q)) hf (Nat.le_refl _) new
    refine ⟨.ref s.heap.objs.size, _, I1, rfl, ⟨_, x, rfl, I.hok.fresh (Nat.le_refl _), rfl, fun ys hy => by rw [I.list_inj hy hq]; exact hx⟩, ⟨⟨u, ?_⟩, hit'.at fun o q => (sb.2 it (Ne.symm hne)).trans q, hne⟩, fun b hb => ?_⟩
    · have e1 : ((i + 1 : Nat) : Int) = (i : Int) + 1 := by omega
      rw [e1]; exact he'
    · have hb' : b < s.heap.objs.size := by
        have e' : b = e ∨ b = it := by simpa using hb
        rcases e' with z | z
        · rw [z]; exact hel
        · rw [z]; exact hil
      rw [upd_ne (Nat.ne_of_lt hb')]
      exact (hf b hb).1
  done := by
    intro X hP hw hK hc i pins s σ H E I hf st hg
    subst hP hw hK
    obtain ⟨⟨old, he⟩, hit, hne⟩ := st
    obtain ⟨xs, hq, hx⟩ := hg
    obtain ⟨its, rv, p, hz⟩ := I.list hq
    obtain ⟨f0, f1, f2, f3, f4, f5⟩ := hf it (by simp)
    have hl := rv.length
    exact wpAny_pyNext_enum_end (I.ok.hd hc) he hit p.isList (by simp; omega) fun h' eb => ⟨rfl, I.turned (t' := s.toks) (fun b o hb q => eb b o hb q) f0 f1 f3 f4 f5⟩
  self := fun A i s Q E st h => let ⟨⟨_, he⟩, _⟩ := st; wpAny_pyIter_enum he h
def iEnum (K : PySem.W.Frag) (ta : TA) : TI := fun σ H R => ta σ H fun vs H1 => ∃ a xs, vs = [.ref a] ∧ SqL K H1 a xs ∧ R (Ite K a) H1
theorem pi_enum {X : Cx} {e : Expr} {ta : TA} {p pos tpos : Pos} {elts : List Expr} {kk : Nat} (hg : Gl X "enumerate") (hm : X.mg "enumerate" = none) (ha : PA X [e] ta) (hs : starEach [e] X.env = [(false, eval e X.env)] := by rfl) :
    PI X (.Tuple elts kk tpos) (.Call (.Name "enumerate" p) [e] [] pos) (iEnum X.K ta) := by
  intro pins s σ H R I h
  refine Call_ (ld_blt I hg hm boot_enumerate (PyProof.Rows.callWith_type1 (thn (ha pos pins s σ H _ I h) fun us s1 ⟨vs, H1, I1, r1, q1⟩ => ?_) hs rfl))
  obtain ⟨a, xs, ex, hq, q⟩ := q1
  subst ex
  cases r1 with
  | cons r rr =>
    cases rr
    cases r
    obtain ⟨its, rv, p', hz⟩ := I1.list hq
    refine call_enumerate_list p'.isList fun h' he hit hsz hk => wpAny_pyIter_enum he ?_
    have I2 : Inv X pins σ H1 { s1 with heap := h' } := I1.kept (t' := s1.toks) hk
    refine ⟨s1.heap.objs.size + 1, [s1.heap.objs.size + 1, s1.heap.objs.size], _, _, H1, rfl, I2, turn_enum a (s1.heap.objs.size + 1) s1.heap.objs.size, ⟨⟨.none, he⟩, hit, Nat.succ_ne_self _⟩, fun b hb => ?_, q⟩
    have e' : b = s1.heap.objs.size + 1 ∨ b = s1.heap.objs.size := by simpa using hb
    have hle : s1.heap.objs.size ≤ b := by
      rcases e' with z | z
      · rw [z]; exact Nat.le_add_right _ _
      · rw [z]; exact Nat.le_refl _
    exact I1.fpOk hle (I1.hok.fresh hle)
/-! ### zip(list, list) -/
/-- the lists at a and b as they stand at each turn, the items in new pairs -/
def Itz (K : PySem.W.Frag) (a b : Addr) : It :=
  ⟨fun i H => ∃ (xs ys : List V) (x y : V), SqL K H a xs ∧ SqL K H b ys ∧ xs[i]? = some x ∧ ys[i]? = some y,
    fun i H v H' => ∃ T x y, v = .ref T ∧ H T = none ∧ H' = upd H T (.tup [x, y]) ∧ (∀ xs, SqL K H a xs → xs[i]? = some x) ∧ ∀ ys, SqL K H b ys → ys[i]? = some y,
    fun i H => ∃ xs ys : List V, SqL K H a xs ∧ SqL K H b ys ∧ (xs.length ≤ i ∨ ys.length ≤ i)⟩
def iZip (K : PySem.W.Frag) (ta : TA) : TI := fun σ H R => ta σ H fun vs H1 => ∃ a b xs ys, vs = [.ref a, .ref b] ∧ SqL K H1 a xs ∧ SqL K H1 b ys ∧ R (Itz K a b) H1
end L2

section 
namespace Bits
open PySem PyProof.Rows

end Bits
end 

section 
namespace TL
open PySem PySem.Builtin PySem.Builtin.Str PySem.StrLaws

abbrev tl (x : Str) : List Nat := x.cps.toList
theorem len_tl (x : Str) : x.length = (tl x).length := by simp [tl, Str.length]
theorem ext_tl {x y : Str} (h : tl x = tl y) : x = y := Str.ext' (Array.toList_inj.mp h)
theorem tl_append (x y : Str) : tl (x ++ y) = tl x ++ tl y := by
  show (x ++ y).cps.toList = _
  rw [Str.cps_append, Array.toList_append]
theorem tl_mk (l : List Nat) : tl ⟨l.toArray⟩ = l := rfl
/-! ### the list functions -/
/-- S stands at the head of l -/
def pre (S l : List Nat) : Bool := l.take S.length == S
/-- l cut at each S from the left; k signs are still to be passed over -/
def spl (S : List Nat) : Nat → List Nat → List Nat → List (List Nat)
  | _, acc, [] => [acc]
  | 0, acc, c :: r => if pre S (c :: r) = true then acc :: spl S (S.length - 1) [] r else spl S 0 (acc ++ [c]) r
  | k + 1, acc, _ :: r => spl S k acc r
/-- what stands before the first S, and behind it -/
def par (S : List Nat) : List Nat → List Nat → Option (List Nat × List Nat)
  | _, [] => none
  | acc, c :: r => if pre S (c :: r) = true then some (acc, (c :: r).drop S.length) else par S (acc ++ [c]) r

/-! ### the model's split and partition are these -/
/-! ### computing spl and par -/
/-- joined lists -/
def joinL (S : List Nat) : List (List Nat) → List Nat
  | [] => []
  | [p] => p
  | p :: q :: r => p ++ (S ++ joinL S (q :: r))
theorem tl_join (y : Str) : ∀ parts : List Str, tl (Str.join y parts) = joinL (tl y) (parts.map tl)
  | [] => rfl
  | [_] => rfl
  | x :: z :: r => by
    show tl (x ++ y ++ Str.join y (z :: r)) = tl x ++ (tl y ++ joinL (tl y) ((z :: r).map tl))
    rw [tl_append, tl_append, tl_join y (z :: r), List.append_assoc]
theorem join_eq (y : Str) (parts : List Str) : Txt.join y parts = Str.join y parts := glued_eq_join y parts
/-! ### digits -/
/-- the signs of a number -/
def numL (n : Nat) : List Nat := (Nat.toDigits 10 n).map Char.toNat
/-! ### words: x.split() -/
end TL
end 

namespace L2
open PySem PySem.Spec PyProof.Rows

theorem notLong {n : Nat} (h : n ≤ 16777216) : Builtin.Str.tooLong n = false := by
  have e : (2 : Nat) ^ 24 = 16777216 := by decide
  unfold Builtin.Str.tooLong sizeLine
  exact decide_eq_false (by omega)

theorem strs_of_vals : ∀ {ys : List Str} {us : List Value}, Vals (ys.map V.str) us → StrsAre us ys
  | [], _, .nil => .nil
  | y :: ys, _, .cons r t => by
    obtain ⟨k, rfl⟩ := r
    exact .cons y k (strs_of_vals t)

/-- a new list of texts, tracked -/
def rNewStrs (ys : List Str) : Hp → VK → Prop := fun H Q => ∀ p, H p = none → Q (.ref p) (upd H p (.lst (ys.map V.str)))

section
variable {X : Cx} {pins : List (Addr × Obj)} {σ : St} {H : Hp} {s : Shared} {Q : VK}
end

section
variable {X : Cx}

/-- sep.join(a list | a tuple of texts) -/
theorem mt_join : MtR X "str.join" (fun x xs H Q => ∃ a p, ∃ ys : List Str, x = .str a ∧ xs = [.ref p] ∧ (SqL X.K H p (ys.map V.str) ∨ SqT X.K H p (ys.map V.str)) ∧
    (ys.map (·.length)).sum + ys.length * a.length ≤ 16777216 ∧ Q (.str (Txt.join a ys)) H) := by
  intro pins s σ H x xs v us Q I rx rs h
  obtain ⟨a, p, ys, rfl, rfl, hp, hz, h⟩ := h
  obtain ⟨t, rfl⟩ := rx
  cases rs with
  | cons r1 rs =>
    cases rs
    cases r1
    rcases hp with hp | hp
    · obtain ⟨its, r, ⟨o, n, ho, hc, _, hd⟩, _⟩ := I.list hp
      exact PyProof.Rows.join_list (items := its.toArray) ⟨o, ho, hc, n, hd⟩ (by rw [List.toList_toArray]; exact strs_of_vals r) hz fun t' k => ⟨.str _, H, I.tok k, ⟨t', rfl⟩, h⟩
    · obtain ⟨its, r, ht, _⟩ := I.tuple hp
      exact PyProof.Rows.join_tuple (items := its.toArray) ht (by rw [List.toList_toArray]; exact strs_of_vals r) hz fun t' k => ⟨.str _, H, I.tok k, ⟨t', rfl⟩, h⟩

/-! ### of a text alone -/
/-! ### of a text and a text -/
end

section
variable {X : Cx} {o e : Expr} {to te : TE}
def tM0 (r : V → List V → Hp → VK → Prop) (to : TE) : TE := fun σ H Q => to σ H fun x H1 => (∃ a, x = .str a) ∧ r x [] H1 Q
def tM1 (r : V → List V → Hp → VK → Prop) (to te : TE) : TE := fun σ H Q => to σ H fun x H1 => (∃ a, x = .str a) ∧ te σ H1 fun y H2 => r x [y] H2 Q
theorem pe_m1 {id : String} {name : Str} {apos pos : Pos} {r : V → List V → Hp → VK → Prop} (slot : Slot "str" name id) (ty : typeOf (.builtin id) = pure (.type "method_descriptor")) (rule : MtR X id r) (ho : PE X o to) (he : PE X e te)
    (hs : starEach [e] X.env = [(false, eval e X.env)] := by rfl) (hbase : attributeBase o name X.env (eval o X.env) = eval o X.env := by rfl) (hline : (apos.endLine == pos.line) = true := by rfl) :
    PE X (.Call (.Attribute o name apos) [e] [] pos) (tM1 r to te) := by
  intro pins s σ H Q I h
  refine PySem.Call_method1 hbase hs hline (thn (ho pins s σ H _ I h) fun v s1 ⟨x, H1, I1, r1, q1⟩ => ?_)
  obtain ⟨⟨a, rfl⟩, q1⟩ := q1
  obtain ⟨t, rfl⟩ := _root_.id r1
  refine ⟨"str", _, F.plainAttrs_str, slot, ty, typeIs_str _ _ _, (fun _ e => nomatch e), Calls.callWith_builtin rfl (Calls.evalArgs_plain (Calls.spliced_cons ?_))⟩
  exact thn (he pins s1 σ H1 _ I1 q1) fun u s2 ⟨y, H2, I2, r2, q2⟩ => Calls.spliced_nil (rule pins s2 σ H2 _ [y] _ [u] Q I2 r1 (.cons r2 .nil) q2)

end
end L2

namespace L2
open PySem PySem.Spec PyProof.Rows

section
variable {X : Cx}
end

/-! ### slices of a text -/
theorem IsPart.raw {v : Value} {o : Option Int} (p : IsPart v o) : ∃ l : Option (Int × Tok), v = partValue l ∧ l.map (·.1) = o := by
  cases p with
  | none => exact ⟨none, rfl, rfl⟩
  | int i t => exact ⟨some (i, t), rfl, rfl⟩

/-- a part, clipped, as the text's slice reckons it -/
def clipS (n d : Nat) : Option Int → Int
  | none => (d : Int)
  | some i => max 0 (min (if i < 0 then i + (n : Int) else i) (n : Int))
theorem clipS_eq (n d : Nat) (o : Option Int) : clipS n d o = ((HT.sIx n d o : Nat) : Int) := by
  cases o with
  | none => rfl
  | some v =>
    show max (0 : Int) (min (if v < 0 then v + (n : Int) else v) (n : Int)) = (((if v < 0 then (v + (n : Int)).toNat else min v.toNat n) : Nat) : Int)
    by_cases hv : v < 0
    · simp only [if_pos hv]
      omega
    · simp only [if_neg hv]
      omega
theorem sidx_clip (a b : Option Int) (n : Nat) : Builtin.Str.strSliceIndices a b 1 n = sliceRange (clipS n 0 a) (clipS n n b) 1 := by
  have h1 : ((1 : Int) > 0) = True := by simp
  cases a <;> cases b <;> first
    | rfl
    | (simp only [Builtin.Str.strSliceIndices, clipS, h1, if_true]; rfl)
    | simp [Builtin.Str.strSliceIndices, clipS]
theorem sidx (a b : Option Int) (n : Nat) : Builtin.Str.strSliceIndices a b 1 n = (List.range (HT.sIx n n b - HT.sIx n 0 a)).map (fun k => HT.sIx n 0 a + k) := by
  rw [sidx_clip, clipS_eq, clipS_eq]
  generalize HT.sIx n 0 a = p
  generalize HT.sIx n n b = q
  simp only [sliceRange, show ((1 : Int) > 0) = True from by simp, if_true]
  by_cases hlt : (p : Int) < q
  · have e3 : (((q : Int) - p + 1 - 1) / 1).toNat = q - p := by first | omega | (simp; done) | (simp; omega)
    simp only [hlt, if_true, e3]
    refine List.map_congr_left fun k _ => ?_
    omega
  · have : q - p = 0 := by omega
    simp [hlt, this]

/-- z[lo:hi] -/
def cutS (z : Str) (lo hi : Option Int) : Str :=
  ⟨((z.cps.toList.drop (HT.sIx z.length 0 lo)).take (HT.sIx z.length z.length hi - HT.sIx z.length 0 lo)).toArray⟩
theorem sliceText_cut (z : Str) (lo hi : Option Int) : PySem.StrLaws.sliceText z lo hi = cutS z lo hi := by
  have h1 : HT.sIx z.length 0 lo ≤ z.length := HT.sIx_le _ _ (Nat.zero_le _) _
  have h2 : HT.sIx z.length z.length hi ≤ z.length := HT.sIx_le _ _ (Nat.le_refl _) _
  have hp : HT.sIx z.length 0 lo ≤ max (HT.sIx z.length 0 lo) (HT.sIx z.length z.length hi) := Nat.le_max_left _ _
  have hq : max (HT.sIx z.length 0 lo) (HT.sIx z.length z.length hi) ≤ z.length := Nat.max_le.mpr ⟨h1, h2⟩
  have hd : max (HT.sIx z.length 0 lo) (HT.sIx z.length z.length hi) - HT.sIx z.length 0 lo = HT.sIx z.length z.length hi - HT.sIx z.length 0 lo := by omega
  have e : Builtin.Str.strSliceIndices lo hi 1 z.length =
      Builtin.Str.strSliceIndices (some ((HT.sIx z.length 0 lo : Nat) : Int)) (some ((max (HT.sIx z.length 0 lo) (HT.sIx z.length z.length hi) : Nat) : Int)) 1 z.length := by
    rw [PySem.StrLaws.strSliceIndices_plain hp hq, hd, sidx]
  have e2 : PySem.StrLaws.sliceText z lo hi =
      PySem.StrLaws.sliceText z (some ((HT.sIx z.length 0 lo : Nat) : Int)) (some ((max (HT.sIx z.length 0 lo) (HT.sIx z.length z.length hi) : Nat) : Int)) := by
    unfold PySem.StrLaws.sliceText
    rw [e]
  rw [e2, PySem.StrLaws.sliceText_nat z hp hq, hd]
  rfl
theorem cutS_length (z : Str) (lo hi : Option Int) : (cutS z lo hi).length ≤ z.length := by
  show (((z.cps.toList.drop (HT.sIx z.length 0 lo)).take (HT.sIx z.length z.length hi - HT.sIx z.length 0 lo)).toArray).size ≤ z.cps.size
  rw [List.size_toArray, List.length_take, List.length_drop, Array.length_toList]
  omega
def rSlS : V → Option Int → Option Int → Hp → VK → Prop := fun x lo hi H Q => ∃ z, x = .str z ∧ z.length ≤ sizeLine ∧ Q (.str (cutS z lo hi)) H
theorem sl_str {X : Cx} : SlR X rSlS := by
  intro pins s σ H x v vl vu lo hi sl Q I rx hs pl pu h
  obtain ⟨z, rfl, hz, q⟩ := h
  obtain ⟨t, rfl⟩ := rx
  obtain ⟨os, hos, hcs, hds⟩ := hs
  obtain ⟨l, rfl, rfl⟩ := IsPart.raw pl
  obtain ⟨u, rfl, rfl⟩ := IsPart.raw pu
  refine ⟨"str", _, F.slot_str_getitem.lookup, typeIs_str _ _ _, ?_⟩
  refine wpAny_getItem_str_slice (l := l) (u := u) (st := none) ⟨os, hos, hcs, hds⟩ rfl ?_
  have hl : (PySem.StrLaws.sliceText z (l.map (·.1)) (u.map (·.1))).length ≤ sizeLine := by
    rw [sliceText_cut]
    exact Nat.le_trans (cutS_length z _ _) hz
  rw [← sliceText_cut] at q
  unfold PySem.StrLaws.sliceText at q hl
  show Made.post (if ((1 : Int) == 1 && (Builtin.Str.strSliceIndices (l.map (·.1)) (u.map (·.1)) 1 z.length).length == z.length) = true then Made.val (.str z t)
    else Made.str ⟨((Builtin.Str.strSliceIndices (l.map (·.1)) (u.map (·.1)) 1 z.length).filterMap (z.cps[·]?)).toArray⟩) (EP X pins σ Q) s
  by_cases c : ((1 : Int) == 1 && (Builtin.Str.strSliceIndices (l.map (·.1)) (u.map (·.1)) 1 z.length).length == z.length) = true
  · rw [if_pos c] at q ⊢
    exact ⟨.str z, H, I, ⟨t, rfl⟩, q⟩
  · rw [if_neg c] at q hl ⊢
    exact ⟨hl, .str _, H, I.tok _, ⟨_, rfl⟩, q⟩
end L2

namespace Att
open PySem PySem.W PySem.Calls PyProof.Rows

/-! ### the script -/
theorem ints_of_wellAll {P : Params} {h : Heap} : ∀ (ns : List Int) (vs : List Value), WellAll P h vs (ns.map WData.int) → IntsAre vs ns := by
  intro ns
  induction ns with
  | nil =>
    intro vs w
    rw [List.map_nil] at w
    cases w
    exact .nil
  | cons n ns ih =>
    intro vs w
    rw [List.map_cons] at w
    cases w with
    | cons a b =>
      cases a
      exact .cons _ _ (ih _ b)

theorem script_of {l : OpenLaw} {n : Nat} (hn : l.most = some n) {P : Params} {h : Heap} {args : List WData} {vals : List Value}
    (hpre : l.row.toRowW.claim.pre args = true) (hwl : WellAll P h vals args) :
    ∃ a vs ns, vals = [Value.ref a] ∧ args = [WData.list (ns.map WData.int)] ∧ h.get? a = some { cls := .type "list", data := .seq vs.toArray } ∧ IntsAre vs ns ∧ ns.length ≤ n := by
  have hsh : WShape.hasAll [] args [.list .int] = true := (pre_splitW hpre).1
  have hc : l.pre.holds [] { args := args } = true := (pre_splitW hpre).2
  obtain ⟨d, r, rfl, h1, h2⟩ := hasAllW_cons hsh
  obtain rfl := hasAllW_nil h2
  obtain ⟨xs, rfl, h3⟩ := hasW_list h1
  obtain ⟨ns, rfl⟩ := items_int h3
  have hlen : ns.length ≤ n := by
    unfold OpenLaw.pre at hc
    have h4 : (WTm.not (.lt (.lit (.int (n : Int))) (.len (.arg 0)))).holds [] { args := [.list (ns.map .int)] } = true := by
      have h4 := (holds_andW hc).1
      rw [hn] at h4
      exact h4
    have h5 := condW_of h4 (w_not (w_lt w_lit (w_len_list (w_arg rfl))))
    rw [List.length_map] at h5
    refine Nat.le_of_not_lt fun q => ?_
    have q' : (n : Int) < ((ns.length : Nat) : Int) := by omega
    first
      | (rw [decide_eq_true q'] at h5; exact absurd h5 (by decide))
      | (simp at h5; omega)
  cases hwl with
  | cons w1 w2 =>
    cases w2
    cases w1 with
    | list ho hall => exact ⟨_, _, ns, rfl, rfl, ho, ints_of_wellAll ns _ hall, hlen⟩

theorem post_true (l : OpenLaw) (args : List WData) : l.row.toRowW.claim.post args (.bool true) args = true :=
  postW_of (r := l.row.toRowW) (X := (true == true))
    (show WShape.has [] (.bool true) .bool = true by first | rfl | decide | simp [WShape.has, WShape.arms, WShape.armsAll])
    (show (WTm.eq .res (.lit (.bool true))).value [] { args := args, res := some (.bool true), after := args } = some (.bool (true == true)) from w_eq_bool (w_res rfl) w_lit) rfl

/-! ### the attachment: holds_open's last premise (the goal 'hc' behind k_head) from a wpAny of the law's body -/
/-- the same from a codeAny of the CALL (for a layer whose function contracts speak of calls) -/
theorem attach_call {l : OpenLaw} {n : Nat} {q : Program} {loose : List Str} {XP : (Str → Option Value) → Heap → Prop} {YP : World → Heap → Prop} {d : DefRec}
    (hn : l.most = some n) (hdf : d.params.defaults = [])
    (call : ∀ (w : World) (s₀ s₁ : Shared) (mg mb : Str → Option Value) (fa : Addr) (o : Obj) (pm cd doc : Value) (a : Addr) (vs : List Value) (ns : List Int),
      Ground q loose [] XP w s₀ mg mb s₁.heap → YP w s₁.heap →
      s₁.heap.get? fa = some o → o.data = .func (docDef d.name d.params d.body d.scope pm cd doc) → s₁.heap.CodeRec cd d.name → mg d.name = some (.ref fa) →
      s₁.heap.get? a = some { cls := .type "list", data := .seq vs.toArray } → IntsAre vs ns → ns.length ≤ n → s₁.gens = #[] →
      codeAny (model l.prog w) callerA (.call (.ref fa) ⟨[.ref a], []⟩) (fun r s' => r = .ok (.ret (.bool true)) ∧ OldK s₁.heap s'.heap ∧ s'.os = s₁.os ∧ AllBare s'.gens) s₁) :
    WalkO q loose XP YP l.row.toRowW d [] (fun f vs => PySem.call f vs) := by
  intro w s₀ s₁ mg mb G Y fa o pm cd doc dV kV ho hd hcd hD hmg hg args vals as hpre hlay hrd hwl hlo
  obtain rfl : dV = .none := Dflts.none hD hdf
  obtain rfl : kV = .none := Dflts.noKw hD
  obtain ⟨a, vs, ns, rfl, rfl, hobj, hints, hlen⟩ := script_of hn hpre hwl
  refine enter_call (codeAny_mono (call w s₀ s₁ mg mb fa o pm cd doc a vs ns G Y ho (fd_plain hd) hcd hmg hobj hints hlen hg) fun r s' hq => ?_)
  obtain ⟨rfl, h2, h3, h4⟩ := hq
  exact ⟨.inl ⟨.bool true, .bool true, [], rfl, fun _ => rfl, .bool true, post_true l _, fun _ => ⟨List.Pairwise.nil, fun _ hm => (nomatch hm)⟩⟩, h2, h3, h4⟩

/-! ### rules over ANY heap (no ledger) from facts about the written part K: the library's own take a ledger (News) for what they write -/
section
variable {prog : Program} {w : World} {A : Around} {E : Value → Shared → Prop} {s : Shared} {K : Frag}

/-! the whole heap as the ledger: makes every rule that writes through a ledger a rule over any heap -/
def ledger (h : Heap) (L d : Addr) : List (Addr × Obj) := (List.range h.objs.size).filterMap fun a => if a = L ∨ a = d then none else (h.get? a).map fun o => (a, o)
end
end Att

namespace L2
open PySem PySem.Spec PyProof.Rows

theorem vals_ints : ∀ {vs : List Value} {ns : List Int}, IntsAre vs ns → Vals (ns.map V.int) vs
  | _, _, .nil => .nil
  | _, _, .cons n t h => .cons ⟨t, rfl⟩ (vals_ints h)

/-- nothing is tracked but the script, known to the object (or it is an object of the module) -/
def Only (H : Hp) : Prop := ∀ b, H b = none ∨ ∃ o xs, H b = some (.frz o (.lst xs))

/-- THE HEAD: the law's promise, at the heap behind the top. F, the promise of the law's def, may use that base is part of the heap (so K.In base, base.Ns mainGlobals mg stand in Mod) -/
theorem law_call {P : Program} {w : World} {K : PySem.W.Frag} {mg mb : Str → Option Value} {CX : CXT} {k : Nat} {fa a : Addr} {fd : FuncData} {x : Str} {sp : Sp} {s₁ : Shared} {vs : List Value} {ns : List Int}
    (KX : K.In s₁.heap) (hns : s₁.heap.Ns mainGlobals mg) (hb : s₁.heap.Ns builtinsNs mb) (hbb : ∀ x : Str, x ≠ "__name__" → mb x = bootBuiltins x) (hlim : s₁.heap.NoLimit) (hg : s₁.gens = #[])
    (ha : s₁.heap.get? a = some { cls := .type "list", data := .seq vs.toArray }) (hi : IntsAre vs ns) (hl : ns.length ≤ sizeLine) (hr : Room k callerA)
    (F : ∀ base : Heap, K.In base → base.Ns mainGlobals mg → FnOk P w K mg base CX k fa fd [x] sp) (hbind : ∀ (s : Shared) (u : Value), BindsTo s fd ⟨[u], []⟩ [(x, u)])
    (hsp : ∀ H : Hp, Only H → SqL K H a (ns.map V.int) → sp [.ref a] H (fun v _ => v = .bl true) fun _ _ _ => False)
    (hCX : ∀ H e s', CX [] H s₁ (fun _ _ _ => False) e s' → False) :
    codeAny (model P w) callerA (.call (.ref fa) ⟨[.ref a], []⟩) (fun r s' => r = .ok (.ret (.bool true)) ∧ OldK s₁.heap s'.heap ∧ s'.os = s₁.os ∧ AllBare s'.gens) s₁ := by
  have rv := vals_ints hi
  have lenV := hi.length
  -- from an abstract heap in which nothing but the script may be tracked
  have core : ∀ H : Hp, Only H → SqL K H a (ns.map V.int) → HOk P w H s₁.heap → (∀ b, H b ≠ none → b = a) → (H a ≠ none → K.lookup a = none) →
      codeAny (model P w) callerA (.call (.ref fa) ⟨[.ref a], []⟩) (fun r s' => r = .ok (.ret (.bool true)) ∧ OldK s₁.heap s'.heap ∧ s'.os = s₁.os ∧ AllBare s'.gens) s₁ := by
    intro H hO hS hok hA hK
    have base_of : ∀ {b : Addr} {o : Obj}, s₁.heap.get? b = some o → H b = none → (hidT s₁.heap H).get? b = some o := fun e n => hidT_get e n
    have noA : ∀ {b : Addr} {o : Obj} {es : Array DictEntry} {ep : Nat}, s₁.heap.get? b = some o → o.data = .dict es ep → H b = none := fun {b o es ep} e d => by
      cases q : H b with
      | none => rfl
      | some u =>
        have e' : b = a := hA b (by rw [q]; simp)
        subst e'
        rw [ha] at e; cases e
        have d' : Data.seq vs.toArray _ = Data.dict es ep := d
        cases d'
    have nsK : ∀ {b : Addr} {m : Str → Option Value}, s₁.heap.Ns b m → (hidT s₁.heap H).Ns b m := fun {b m} ⟨o, es, ep, e, d, r⟩ => ⟨o, es, ep, base_of e (noA e d), d, r⟩
    have hKb : K.In (hidT s₁.heap H) := fun b o e => base_of (KX b o e) (by
      cases q : H b with
      | none => rfl
      | some u =>
        have e' : b = a := hA b (by rw [q]; simp)
        subst e'
        rw [hK (by rw [q]; simp)] at e; cases e)
    have hM : Mod K mg (hidT s₁.heap H) := ⟨hKb, nsK hns, ⟨mb, nsK hb, hbb⟩, let ⟨mc, h1, h2⟩ := hlim; ⟨mc, nsK h1, h2⟩⟩
    have e0 : Env0 P w K mg (hidT s₁.heap H) callerA [] s₁ H := ⟨rfl, hM, fun b o e => of_hidT e, Nat.le_of_eq (hidT_size _ _), trivial, fun b hb => absurd (show b ∈ ([] : List Addr) from hb) (by simp), hok, .of_eq hg⟩
    refine codeAny_mono ((F _ hKb (nsK hns)).run callerA [] s₁ H ⟨[.ref a], []⟩ [.ref a] [.ref a] _ _ hr e0 (hbind s₁ (.ref a)) (.cons rfl .nil) (hsp H hO hS)) fun r s' h => ?_
    cases r with
    | error e => exact (hCX H e s' h).elim
    | ok fl =>
      cases fl with
      | next => exact False.elim h
      | brk => exact False.elim h
      | cont => exact False.elim h
      | ret u =>
        obtain ⟨v, H', os, bare, un, hok', r', q⟩ := h
        have q' : v = .bl true := q
        subst q'
        obtain rfl : u = Value.bool true := r'
        refine ⟨rfl, OldK.of_keep fun b o e => ?_, os, bare⟩
        cases q : H b with
        | none => exact un.keep b o e q (by intro z; exact absurd (show b ∈ ([] : List Addr) from z) (by simp)) (by simp)
        | some u =>
          rcases hO b with z | ⟨ob, xs, z⟩
          · rw [q] at z; cases z
          · have z2 := un.frzs b ob _ z
            obtain ⟨e1, _⟩ := hok b _ z
            obtain ⟨e2, _⟩ := hok' b _ z2
            rw [e] at e1; cases e1
            exact e2
  cases hk : K.lookup a with
  | some o =>
    -- the script is one of the module's own objects
    have e := KX a o hk
    rw [ha] at e
    cases e
    refine core (fun _ => none) (fun _ => .inl rfl) (.inr ⟨_, vs.toArray, _, hk, rfl, rfl, rfl, by rw [List.size_toArray, lenV]; exact hl, by simpa using rv⟩) (fun b u z => by have z' : (none : Option HO) = some u := z; cases z') (fun b z => absurd rfl z) fun z => absurd rfl z
  | none =>
    refine core (fun b => if b = a then some (.frz { cls := .type "list", data := .seq vs.toArray } (.lst (ns.map V.int))) else none) (fun b => ?_) (.inl (.inr ⟨{ cls := .type "list", data := .seq vs.toArray }, if_pos rfl⟩)) (fun b u z => ?_) (fun b z => ?_) fun _ => hk
    · by_cases hb : b = a
      · exact .inr ⟨_, _, if_pos hb⟩
      · exact .inl (if_neg hb)
    · by_cases hb : b = a
      · have z' := (if_pos hb).symm.trans z
        cases z'
        subst hb
        exact ⟨ha, by rw [List.length_map]; exact hl, vs, _, rv, ha⟩
      · have z' := (if_neg hb).symm.trans z
        cases z'
    · by_cases hb : b = a
      · exact hb
      · exact absurd (if_neg hb) z
end L2

namespace L2
open PySem PySem.Spec PyProof.Rows

/-- the goal that k_head leaves (case hc), from the law's promise. F gives the function object fd (K's own) once, then the promise over every base -/
theorem walk_of {l : PySem.W.OpenLaw} {n k : Nat} {q : Program} {loose : List Str} {XP : (Str → Option Value) → Heap → Prop} {YP : World → Heap → Prop} {d : DefRec} {K : Params → PySem.W.Frag} {CX : World → CXT} {sp : World → Sp} {x : Str}
    (hn : l.most = some n) (hn2 : n ≤ sizeLine) (hdf : d.params.defaults = []) (hr : Room k callerA)
    (hY : ∀ (w : World) (h : Heap), YP w h → (K w.params).In h)
    (F : ∀ (w : World) (mg : Str → Option Value) (fa : Addr) (h : Heap), (K w.params).In h → h.Ns mainGlobals mg → mg d.name = some (.ref fa) →
      ∃ fd : FuncData, (∀ (s : Shared) (u : Value), BindsTo s fd ⟨[u], []⟩ [(x, u)]) ∧
        ∀ base : Heap, (K w.params).In base → base.Ns mainGlobals mg → FnOk l.prog w (K w.params) mg base (CX w) k fa fd [x] (sp w))
    (hsp : ∀ (w : World) (H : Hp) (a : Addr) (ns : List Int), ns.length ≤ n → Only H → SqL (K w.params) H a (ns.map V.int) → sp w [.ref a] H (fun v _ => v = .bl true) fun _ _ _ => False)
    (hCX : ∀ (w : World) (H : Hp) (s : Shared) (e : Value) (s' : Shared), CX w [] H s (fun _ _ _ => False) e s' → False) :
    PySem.W.WalkO q loose XP YP l.row.toRowW d [] (fun f vs => PySem.call f vs) := by
  refine Att.attach_call hn hdf fun w s₀ s₁ mg mb fa o pm cd doc a vs ns G Y ho hd hcd hmg hobj hints hlen hg => ?_
  have KX := hY w _ Y
  obtain ⟨fd, hb, hF⟩ := F w mg fa _ KX G.T.g hmg
  exact law_call KX G.T.g G.T.b G.T.builtins G.T.nolimit hg hobj hints (Nat.le_trans hlen hn2) hr hF hb (fun H hO hS => hsp w H a ns hlen hO hS) fun H e s' => hCX w H s₁ e s'
end L2

/-! SHORT WORDS over the layer: a def of the text, its body, what a loop and a test want. -/
namespace L2
open PySem PySem.Spec PyProof.Rows

/-! ### the text by places -/
def defArgs (s : Stmt) : Arguments := match s with
  | .FunctionDef _ a _ _ _ _ _ _ _ _ => a
  | _ => { posonlyargs := [], args := [], vararg := none, kwonlyargs := [], kw_defaults := [], kwarg := none, defaults := [] }
def defBody (s : Stmt) : List Stmt := match s with
  | .FunctionDef _ _ b _ _ _ _ _ _ _ => b
  | _ => []
def defScope (s : Stmt) : Scope := match s with
  | .FunctionDef _ _ _ _ _ _ sc _ _ _ => sc
  | _ => { kind := .function, names := [], isGenerator := false, isCoroutine := false }

/-! ### no exception leaves a def -/
abbrev CX0 : CXT := fun _ _ _ _ _ _ => False
abbrev E0 : XK := fun _ _ _ => False
theorem pass0 {X : Cx} : Passes CX0 X E0 := fun _ _ _ _ _ _ _ h => h.elim

/-! ### a def (or method) of the text as it stands behind the top -/
structure Fun (K : PySem.W.Frag) (x qual : Str) (st : Stmt) (f : Addr) (fd : FuncData) : Prop where
  ex : ∃ (oc : Value) (od : Option Addr) (kV doc pm : Value) (an : Option Addr) (cdv ct : Value) (osl : Array (Option Value)),
    fd = PySem.W.fnOf x qual (defArgs st) (defBody st) (defScope st) .none kV doc pm an cdv ct ∧ K.lookup f = some ⟨oc, od, .func fd, osl⟩ ∧ PySem.W.codeIn K cdv qual = true
  kp : PySem.W.keepIn K (.ref f) = true
section
variable {P : Program} {w : World} {K : PySem.W.Frag} {mg : Str → Option Value} {base : Heap}
/-- THE RULE for a def: its body as a term of rules, and the reading of that term -/
theorem Fun.ok {x qual : Str} {st : Stmt} {f : Addr} {fd : FuncData} {N ps : List Str} {k : Nat} {sp : Sp} (F : Fun K x qual st f fd) (S : FnScope N ps (defScope st)) (len : ∀ vs H Q E, sp vs H Q E → vs.length = ps.length)
    (hbody : ∀ (cdv : Value) (A : Around) (outer : List Env) (s : Shared) (H : Hp) (vs : List V) (Q : VK) (E : XK), Room k (A.deeper (envOfC qual (defScope st) s.heap.objs.size f cdv)) → sp vs H Q E →
      ∃ t, PSs (cxOf CX0 P w K mg base N qual (defScope st) f cdv A outer s H E).nox (defBody st) t ∧ t { nx := fun _ H' => Q .non H', rt := Q } (start N vs) H) : FnOk P w K mg base CX0 (k + 1) f fd ps sp := by
  obtain ⟨oc, od, kV, doc, pm, an, cdv, ct, osl, rfl, lk, hcd⟩ := F.ex
  refine fn_of lk hcd S len fun A outer s H vs Q E hr hsp => ?_
  obtain ⟨t, h, q⟩ := hbody cdv A outer s H vs Q E hr hsp
  exact ⟨t, h.nox, q⟩
/-- how its arguments bind (no defaults): h is «fun _ _ _ _ _ _ us hl => match us, hl with | [_, _], _ => rfl», one _ a parameter -/
theorem Fun.binds {x qual : Str} {st : Stmt} {f : Addr} {fd : FuncData} {ps : List Str} (F : Fun K x qual st f fd)
    (h : ∀ (kV doc pm : Value) (an : Option Addr) (cdv ct : Value) (us : List Value), us.length = ps.length → bindArgs (PySem.W.fnOf x qual (defArgs st) (defBody st) (defScope st) .none kV doc pm an cdv ct) ⟨us, []⟩ = pure (ps.zip us)) : Binds K fd ps [] := by
  obtain ⟨oc, od, kV, doc, pm, an, cdv, ct, osl, rfl, lk, hcd⟩ := F.ex
  exact .all (h kV doc pm an cdv ct)
theorem fun_mk {x qual : Str} {st : Stmt} {f : Addr} {oc : Value} {od an : Option Addr} {osl : Array (Option Value)} {kV doc pm cdv ct : Value} (l : K.lookup f = some ⟨oc, od, .func (PySem.W.fnOf x qual (defArgs st) (defBody st) (defScope st) .none kV doc pm an cdv ct), osl⟩)
    (c : PySem.W.codeIn K cdv qual = true) (k : PySem.W.keepIn K (.ref f) = true) : Fun K x qual st f (PySem.W.fnOf x qual (defArgs st) (defBody st) (defScope st) .none kV doc pm an cdv ct) := ⟨⟨oc, od, kV, doc, pm, an, cdv, ct, osl, rfl, l, c⟩, k⟩
end
theorem hu_of {A : Around} {k : Nat} (hr : Room k A) : A.units + 1 < cLine := Nat.lt_of_le_of_lt (Nat.add_le_add_left (by decide : 1 ≤ 64) _) hr.units
theorem small1000 {n : Nat} (h : n ≤ 1000) : n < sizeLine := Nat.lt_of_le_of_lt h (by decide)

/-! ### expressions in short: the name that stands in the i-th slot -/
section
variable {X : Cx}
theorem pv (i : Nat) {x : Str} {pos : Pos} (hN : X.N[i]? = some x := by rfl) (hv : Vis X.env.scope x := by first | exact Or.inl rfl | exact Or.inr (Or.inl rfl) | exact Or.inr (Or.inr rfl)) (hd : (x == ("__debug__" : Str)) = false := by decide)
    (hcd : (x == ("__classdict__" : Str)) = false := by decide) : PE X (.Name x pos) (tVar i) := pe_var hN hv hd hcd
end

/-! ### tests -/
theorem ite2 {c A B : Prop} [Decidable c] (h1 : c → A) (h2 : ¬ c → B) : if c then A else B := by
  by_cases h : c
  · rw [if_pos h]
    exact h1 h
  · rw [if_neg h]
    exact h2 h
/-! ### heaps -/
/-- all that was tracked is as it was -/
def Same (H H' : Hp) : Prop := ∀ b o, H b = some o → H' b = some o
theorem Same.refl (H : Hp) : Same H H := fun _ _ h => h
theorem Same.trans {H H1 H2 : Hp} (a : Same H H1) (b : Same H1 H2) : Same H H2 := fun c o h => b c o (a c o h)
theorem Same.free {H H' : Hp} (e : Same H H') {l : Addr} (h : H' l = Option.none) : H l = Option.none := by
  cases q : H l with
  | none => rfl
  | some o =>
    rw [e l o q] at h
    cases h
theorem Same.seq {K : PySem.W.Frag} {H H' : Hp} {a : Addr} {xs : List V} (e : Same H H') (h : SqL K H a xs) : SqL K H' a xs := by
  rcases h with (h | ⟨o, h⟩) | h
  · exact .inl (.inl (e _ _ h))
  · exact .inl (.inr ⟨o, e _ _ h⟩)
  · exact .inr h

/-! ### a dict's pairs: keys that differ -/
section
variable {κ : Type} [DecidableEq κ]
end
/-! ### lists -/
/-- a new instance and its __init__ leave all that was tracked as it was -/
theorem Same.made {H H1 : Hp} {x dx C : Addr} (nx : H x = Option.none) (nd : H dx = Option.none) (k : ∀ b o, (upd (upd H dx (.own x)) x (.ins C dx [])) b = some o → b ≠ x → H1 b = some o) : Same H H1 := fun b o e =>
  k b o (by rw [upd_ne (ne_of_none e nx), upd_ne (ne_of_none e nd)]; exact e) (ne_of_none e nx)
end L2

set_option Elab.async false
set_option linter.all false
set_option maxRecDepth 100000
namespace L2
open PySem PySem.Spec PyProof.Rows TL
/-! ### a def that is called by its name -/
def KwB (fd : FuncData) (ps : List Str) : Prop := ∀ (s : Shared) (ws : List Value), ws.length = ps.length → BindsTo s fd ⟨[], ps.zip ws⟩ (ps.zip ws)
structure Callee (P : Program) (w : World) (K : PySem.W.Frag) (mg : Str → Option Value) (base : Heap) (k : Nat) (x : Str) (ps : List Str) (sp : Sp) : Prop where
  ex : ∃ (f : Addr) (fd : FuncData), FnOk P w K mg base CX0 k f fd ps sp ∧ mg x = some (.ref f) ∧ PySem.W.keepIn K (.ref f) = true ∧ Binds K fd ps [] ∧ KwB fd ps
theorem Fun.bindsK {K : PySem.W.Frag} {x qual : Str} {st : Stmt} {f : Addr} {fd : FuncData} {ps : List Str} (F : Fun K x qual st f fd)
    (h : ∀ (kV doc pm : Value) (an : Option Addr) (cdv ct : Value) (us : List Value), us.length = ps.length → bindArgs (PySem.W.fnOf x qual (defArgs st) (defBody st) (defScope st) .none kV doc pm an cdv ct) ⟨[], ps.zip us⟩ = pure (ps.zip us)) : KwB fd ps := by
  obtain ⟨oc, od, kV, doc, pm, an, cdv, ct, osl, rfl, lk, hcd⟩ := F.ex
  exact fun s ws hl => .of_eq (h kV doc pm an cdv ct ws hl)
section
variable {X : Cx} {j k : Nat} {x : Str} {ps : List Str} {sp : Sp} {p pos : Pos} {e : Expr} {es : List Expr} {t : TA}
theorem pe_callC (C : Callee X.prog X.w X.K X.mg X.base j x ps sp) (hr : Room k X.A) (hg : Gl X x) (ha : PA X (e :: es) t) (hj : j ≤ k := by decide)
    (hdb : (x == ("__debug__" : Str)) = false := by decide) (he : starEach (e :: es) X.env = (false, eval e X.env) :: starEach es X.env := by rfl) (hpl : (backTo pos (starEach es X.env)).any (·.1) = false := by rfl) :
    PE X (.Call (.Name x p) (e :: es) [] pos) (tCall sp [] E0 t) := by
  obtain ⟨f, fd, F, hm, hk, hb, _⟩ := C.ex
  exact pe_call F (hr.mono hj) hg hm hk hb .nil pass0 ha hdb he hpl
/-- f(a = e, b = e2): every parameter by its name, in the parameters' order -/
def tCallN (sp : Sp) (t : TA) : TE := fun σ H Q => t σ H fun vs H1 => sp vs H1 Q E0
end
/-! ### isinstance, list(text), walks over a text -/
def rIsi (K : PySem.W.Frag) : List V → Hp → VK → Prop := fun xs H Q => ∃ x n t b, xs = [x, .ty n] ∧ TyOf K H x t ∧ PySem.W.kitOne K t (.type n) = some b ∧ Q (.bl b) H
def rLenQ (K : PySem.W.Frag) : List V → Hp → VK → Prop := fun xs H Q => ∃ p ys, xs = [.ref p] ∧ (SqL K H p ys ∨ SqT K H p ys) ∧ Q (.int ys.length) H
def rListOf (K : PySem.W.Frag) : List V → Hp → VK → Prop := fun xs H Q => ∃ p ys, xs = [.ref p] ∧ (SqL K H p ys ∨ SqT K H p ys) ∧ ∀ l, H l = none → Q (.ref l) (upd H l (.lst ys))
def sg (c : Nat) : V := V.str ⟨#[c]⟩
/-! ### the kinds of builtins -/
theorem kit_int_int (K : PySem.W.Frag) : PySem.W.kitOne K (.type "int") (.type "int") = some true := by rfl
theorem kit_bl_int (K : PySem.W.Frag) : PySem.W.kitOne K (.type "bool") (.type "int") = some true := by rfl
theorem kit_str_int (K : PySem.W.Frag) : PySem.W.kitOne K (.type "str") (.type "int") = some false := by rfl
theorem kit_non_int (K : PySem.W.Frag) : PySem.W.kitOne K (.type "NoneType") (.type "int") = some false := by rfl
theorem kit_lst_int (K : PySem.W.Frag) : PySem.W.kitOne K (.type "list") (.type "int") = some false := by rfl
theorem kit_tup_int (K : PySem.W.Frag) : PySem.W.kitOne K (.type "tuple") (.type "int") = some false := by rfl
theorem kit_dic_int (K : PySem.W.Frag) : PySem.W.kitOne K (.type "dict") (.type "int") = some false := by rfl
theorem kit_int_bl (K : PySem.W.Frag) : PySem.W.kitOne K (.type "int") (.type "bool") = some false := by rfl
theorem kit_bl_bl (K : PySem.W.Frag) : PySem.W.kitOne K (.type "bool") (.type "bool") = some true := by rfl
theorem kit_int_str (K : PySem.W.Frag) : PySem.W.kitOne K (.type "int") (.type "str") = some false := by rfl
theorem kit_str_str (K : PySem.W.Frag) : PySem.W.kitOne K (.type "str") (.type "str") = some true := by rfl
theorem kit_bl_str (K : PySem.W.Frag) : PySem.W.kitOne K (.type "bool") (.type "str") = some false := by rfl
theorem kit_non_str (K : PySem.W.Frag) : PySem.W.kitOne K (.type "NoneType") (.type "str") = some false := by rfl
theorem kit_lst_str (K : PySem.W.Frag) : PySem.W.kitOne K (.type "list") (.type "str") = some false := by rfl
theorem kit_tup_str (K : PySem.W.Frag) : PySem.W.kitOne K (.type "tuple") (.type "str") = some false := by rfl
theorem kit_dic_str (K : PySem.W.Frag) : PySem.W.kitOne K (.type "dict") (.type "str") = some false := by rfl
/-! ### heaps that grow -/
/-- all but what stands at t is as it was -/
def Keep (t : Addr) (H H' : Hp) : Prop := ∀ b o, H b = some o → b ≠ t → H' b = some o
theorem Keep.refl (t : Addr) (H : Hp) : Keep t H H := fun _ _ h _ => h
theorem Keep.trans {t : Addr} {H H1 H2 : Hp} (a : Keep t H H1) (b : Keep t H1 H2) : Keep t H H2 := fun c o h n => b c o (a c o h n) n
theorem Keep.new {t p : Addr} {H : Hp} {o : HO} (h : H p = none) : Keep t H (upd H p o) := fun b u e _ => by rw [upd_ne (ne_of_none e h)]; exact e
theorem Keep.at {t : Addr} {H : Hp} {o : HO} : Keep t H (upd H t o) := fun b u e n => by rw [upd_ne n]; exact e
theorem Same.new {p : Addr} {H : Hp} {o : HO} (h : H p = none) : Same H (upd H p o) := fun b u e => by rw [upd_ne (ne_of_none e h)]; exact e
theorem Same.keep {t : Addr} {H H' : Hp} (s : Same H H') : Keep t H H' := fun b o e _ => s b o e
theorem Keep.free {t : Addr} {H H' : Hp} {o : HO} (k : Keep t H H') (h : H' t = some o) {p : Addr} (hp : H' p = none) : H p = none := by
  cases q : H p with
  | none => rfl
  | some u =>
    by_cases e : p = t
    · subst e; rw [h] at hp; cases hp
    · rw [k p u q e] at hp; cases hp
/-! ### the tape -/
structure TapeAt (n : Nat) (t l : Addr) (H : Hp) : Prop where
  ex : ∃ (cells : List Int) (turn rest : Int), H t = some (.lst [.ref l, .int turn, .int rest]) ∧ H l = some (.lst (cells.map V.int)) ∧ cells.length ≤ 63 ∧ 0 ≤ turn ∧ turn ≤ n ∧ 0 ≤ rest
theorem TapeAt.ne {n : Nat} {t l : Addr} {H : Hp} (T : TapeAt n t l H) : t ≠ l := by
  obtain ⟨cells, turn, rest, h1, h2, _⟩ := T.ex
  refine ne_of h1 h2 fun e => ?_
  injection e with e
  cases cells with
  | nil => cases e
  | cons a r => injection e with e _; cases e
theorem TapeAt.new {n : Nat} {t l p : Addr} {H : Hp} {o : HO} (T : TapeAt n t l H) (h : H p = none) : TapeAt n t l (upd H p o) := by
  obtain ⟨cells, turn, rest, h1, h2, r⟩ := T.ex
  exact ⟨cells, turn, rest, by rw [upd_ne (ne_of_none h1 h)]; exact h1, by rw [upd_ne (ne_of_none h2 h)]; exact h2, r⟩
theorem TapeAt.mono {n m : Nat} {t l : Addr} {H : Hp} (T : TapeAt n t l H) (h : n ≤ m) : TapeAt m t l H := by
  obtain ⟨cells, turn, rest, h1, h2, h3, h4, h5, h6⟩ := T.ex
  exact ⟨cells, turn, rest, h1, h2, h3, h4, by omega, h6⟩
theorem TapeAt.some {n : Nat} {t l : Addr} {H : Hp} (T : TapeAt n t l H) : ∃ o, H t = some o := by
  obtain ⟨cells, turn, rest, h1, _⟩ := T.ex
  exact ⟨_, h1⟩
end L2
namespace L2
open PySem PySem.Spec PyProof.Rows TL
def cutI (ns : List Int) : List Int := (ns.drop 0).take (HT.sIx ns.length ns.length (some 63) - HT.sIx ns.length 0 none)
theorem cutI_eq (ns : List Int) : cutV (ns.map V.int) none (some 63) = (cutI ns).map V.int := by
  unfold cutV cutI
  rw [List.map_take, List.map_drop, List.length_map]
  rfl
theorem cutI_len (ns : List Int) : (cutI ns).length ≤ ns.length := by
  unfold cutI
  rw [List.length_take, List.length_drop]
  omega
end L2
namespace L2
open PySem PySem.Spec PyProof.Rows TL
/-! ### lists of flat values compared -/
def okV : V → Bool
  | .non => true
  | .bl _ => true
  | .int _ => true
  | .str x => PyData.strOk x
  | _ => false
def dV : V → PyData
  | .bl b => .bool b
  | .int i => .int i
  | .str x => .str x
  | _ => .none
def eqLV : List V → List V → Bool
  | [], [] => true
  | x :: xs, y :: ys => eqV x y && eqLV xs ys
  | _, _ => false
theorem dp_ok {K : PySem.W.Frag} {H : Hp} : ∀ {x : V}, okV x = true → Dp K H x (dV x)
  | .non, _ => .non
  | .bl b, _ => .bl b
  | .int i, _ => .int i
  | .str x, _ => .str x
theorem dpAll_ok {K : PySem.W.Frag} {H : Hp} : ∀ {xs : List V}, xs.all okV = true → DpAll K H xs (xs.map dV)
  | [], _ => .nil
  | x :: xs, h => by
    rw [List.all_cons, Bool.and_eq_true] at h
    exact .cons (dp_ok h.1) (dpAll_ok h.2)
theorem canLay_ok : ∀ {x : V}, okV x = true → (dV x).canLay0 = true ∧ (dV x).depth = 0
  | .non, _ => ⟨rfl, rfl⟩
  | .bl b, _ => ⟨rfl, rfl⟩
  | .int i, _ => ⟨rfl, rfl⟩
  | .str x, h => ⟨h, rfl⟩
theorem canLayAll_ok : ∀ {xs : List V}, xs.all okV = true → PyData.canLayAll0 (xs.map dV) = true ∧ PyData.depthAll (xs.map dV) = 0
  | [], _ => ⟨rfl, rfl⟩
  | x :: xs, h => by
    rw [List.all_cons, Bool.and_eq_true] at h
    obtain ⟨a, b⟩ := canLay_ok h.1
    obtain ⟨c, d⟩ := canLayAll_ok h.2
    simp only [List.map_cons, PyData.canLayAll0, PyData.depthAll, a, b, c, d]
    exact ⟨rfl, rfl⟩
theorem shaped_list {xs : List V} (h : xs.all okV = true) : SeqAt.shaped (.list (xs.map dV)) = true := by
  obtain ⟨c, d⟩ := canLayAll_ok h
  simp [SeqAt.shaped, PyData.canLay0, PyData.depth, c, d]
theorem eqv_ok : ∀ {x y : V}, okV x = true → okV y = true → PyData.eqv (dV x) (dV y) = eqV x y := by
  intro x y hx hy
  cases x <;> cases y <;> first | rfl | exact absurd (show false = true from hx) (by decide) | exact absurd (show false = true from hy) (by decide)
theorem eqvAll_ok : ∀ {xs ys : List V}, xs.all okV = true → ys.all okV = true → PyData.eqvAll (xs.map dV) (ys.map dV) = eqLV xs ys
  | [], [], _, _ => rfl
  | [], _ :: _, _, _ => rfl
  | _ :: _, [], _, _ => rfl
  | x :: xs, y :: ys, hx, hy => by
    rw [List.all_cons, Bool.and_eq_true] at hx hy
    simp only [List.map_cons, PyData.eqvAll, eqLV, eqv_ok hx.1 hy.1, eqvAll_ok hx.2 hy.2]
theorem rNeD_flat {K : PySem.W.Frag} {H : Hp} {a b : Addr} {xs ys : List V} {Q : VK} (h1 : SqL K H a xs) (h2 : SqL K H b ys) (o1 : xs.all okV = true) (o2 : ys.all okV = true) (q : Q (.bl (!eqLV xs ys)) H) : rNeD K (.ref a) (.ref b) H Q :=
  ⟨.list (xs.map dV), .list (ys.map dV), .lst h1 (dpAll_ok o1), .lst h2 (dpAll_ok o2), shaped_list o1, shaped_list o2, by rw [PyData.eqv, eqvAll_ok o1 o2]; exact q⟩
theorem okV_ints (ns : List Int) : (ns.map V.int).all okV = true := by simp [okV]
theorem eqLV_nil (xs : List V) : eqLV xs [] = xs.isEmpty := by cases xs <;> rfl
theorem ite_hold {c A B : Prop} [Decidable c] (hB : B) (hA : c → B → A) : if c then A else B := by
  by_cases h : c
  · rw [if_pos h]; exact hA h hB
  · rw [if_neg h]; exact hB
theorem ite_not {c A B : Prop} [Decidable c] (hc : ¬ c) (h : B) : if c then A else B := by rw [if_neg hc]; exact h
theorem int_at {cells : List Int} {j : Int} (h0 : 0 ≤ j) (h1 : j < cells.length) : ∃ c : Int, atI (cells.map V.int) j = some (.int c) := by
  obtain ⟨k, rfl⟩ := Int.eq_ofNat_of_zero_le h0
  have hk : k < cells.length := by omega
  exact ⟨cells[k], atI_nat (by rw [List.getElem?_map, List.getElem?_eq_getElem hk]; rfl)⟩
end L2

set_option Elab.async false
set_option linter.all false
set_option maxRecDepth 100000
namespace L2
open PySem PySem.Spec PyProof.Rows TL
theorem kit_str_bl (K : PySem.W.Frag) : PySem.W.kitOne K (.type "str") (.type "bool") = some false := by rfl
theorem kit_non_bl (K : PySem.W.Frag) : PySem.W.kitOne K (.type "NoneType") (.type "bool") = some false := by rfl
theorem kit_lst_bl (K : PySem.W.Frag) : PySem.W.kitOne K (.type "list") (.type "bool") = some false := by rfl
theorem kit_tup_bl (K : PySem.W.Frag) : PySem.W.kitOne K (.type "tuple") (.type "bool") = some false := by rfl
theorem kit_dic_bl (K : PySem.W.Frag) : PySem.W.kitOne K (.type "dict") (.type "bool") = some false := by rfl
/-! ### things of all kinds -/
def Thing (H : Hp) : V → Prop
  | .non => True
  | .bl _ => True
  | .int _ => True
  | .str z => z.length ≤ 900 ∧ PyData.strOk z = true
  | .ref a => (∃ xs, H a = some (.lst xs)) ∨ (∃ xs, H a = some (.tup xs)) ∨ ∃ kvs, H a = some (.dK kvs)
  | _ => False
def isI : V → Bool
  | .int _ => true
  | .bl _ => true
  | _ => false
def isB : V → Bool
  | .bl _ => true
  | _ => false
def isS : V → Bool
  | .str _ => true
  | _ => false
theorem Thing.ty (K : PySem.W.Frag) {H : Hp} : ∀ {x : V}, Thing H x → ∃ t, TyOf K H x t ∧ PySem.W.kitOne K t (.type "int") = some (isI x) ∧ PySem.W.kitOne K t (.type "bool") = some (isB x) ∧ PySem.W.kitOne K t (.type "str") = some (isS x)
  | .non, _ => ⟨_, .non, kit_non_int K, kit_non_bl K, kit_non_str K⟩
  | .bl _, _ => ⟨_, .bl _, kit_bl_int K, kit_bl_bl K, kit_bl_str K⟩
  | .int _, _ => ⟨_, .int _, kit_int_int K, kit_int_bl K, kit_int_str K⟩
  | .str _, _ => ⟨_, .str _, kit_str_int K, kit_str_bl K, kit_str_str K⟩
  | .ref a, .inl ⟨xs, h⟩ => ⟨_, .lst h, kit_lst_int K, kit_lst_bl K, kit_lst_str K⟩
  | .ref a, .inr (.inl ⟨xs, h⟩) => ⟨_, .tup h, kit_tup_int K, kit_tup_bl K, kit_tup_str K⟩
  | .ref a, .inr (.inr ⟨xs, h⟩) => ⟨_, .dK h, kit_dic_int K, kit_dic_bl K, kit_dic_str K⟩
theorem Thing.keep {t : Addr} {H H' : Hp} (k : Keep t H H') : ∀ {x : V}, x ≠ .ref t → Thing H x → Thing H' x
  | .non, _, _ => trivial
  | .bl _, _, _ => trivial
  | .int _, _, _ => trivial
  | .str _, _, h => h
  | .ref a, n, .inl ⟨xs, h⟩ => .inl ⟨xs, k _ _ h fun e => n (by rw [e])⟩
  | .ref a, n, .inr (.inl ⟨xs, h⟩) => .inr (.inl ⟨xs, k _ _ h fun e => n (by rw [e])⟩)
  | .ref a, n, .inr (.inr ⟨xs, h⟩) => .inr (.inr ⟨xs, k _ _ h fun e => n (by rw [e])⟩)
theorem Thing.same {H H' : Hp} (s : Same H H') : ∀ {x : V}, Thing H x → Thing H' x
  | .non, _ => trivial
  | .bl _, _ => trivial
  | .int _, _ => trivial
  | .str _, h => h
  | .ref a, .inl ⟨xs, h⟩ => .inl ⟨xs, s _ _ h⟩
  | .ref a, .inr (.inl ⟨xs, h⟩) => .inr (.inl ⟨xs, s _ _ h⟩)
  | .ref a, .inr (.inr ⟨xs, h⟩) => .inr (.inr ⟨xs, s _ _ h⟩)
theorem Same.upd {H H' : Hp} {D : Addr} {o : HO} (s : Same H H') (h : H D = none) : Same H (upd H' D o) := fun b u e => by rw [upd_ne (ne_of_none e h)]; exact s b u e
theorem Keep.upd {t : Addr} {H H' : Hp} {D : Addr} {o : HO} (s : Keep t H H') (h : H D = none) : Keep t H (upd H' D o) := fun b u e n => by rw [upd_ne (ne_of_none e h)]; exact s b u e n
theorem take_snoc {α : Type} {l : List α} {i : Nat} {c : α} (h : l[i]? = some c) : l.take (i + 1) = l.take i ++ [c] := by
  rw [List.take_succ, h]; rfl
end L2
namespace L2
end L2
namespace L2
open PySem PySem.Spec PyProof.Rows TL
theorem strOk_iff {z : Str} : PyData.strOk z = true ↔ ∀ c ∈ tl z, c < 0x110000 := by
  unfold PyData.strOk tl
  rw [Array.all_eq_true_iff_forall_mem]
  simp
theorem strOk_app {x y : Str} (h1 : PyData.strOk x = true) (h2 : PyData.strOk y = true) : PyData.strOk (x ++ y) = true := by
  rw [strOk_iff] at *
  intro c hc
  rw [tl_append] at hc
  rcases List.mem_append.mp hc with q | q
  · exact h1 c q
  · exact h2 c q
theorem strOk_cut {x : Str} {lo hi : Option Int} (h : PyData.strOk x = true) : PyData.strOk (cutS x lo hi) = true := by
  rw [strOk_iff] at *
  intro c hc
  unfold cutS at hc
  rw [tl_mk] at hc
  exact h c (List.mem_of_mem_drop (List.mem_of_mem_take hc))
theorem strOk_sg {c : Nat} (h : c < 0x110000) : PyData.strOk ⟨#[c]⟩ = true := strOk_iff.mpr fun d hd => by
  have e : d = c := by simpa [tl] using hd
  rw [e]; exact h
theorem strLen_app (x y : Str) : (x ++ y).length = x.length + y.length := by
  rw [len_tl, len_tl, len_tl, tl_append, List.length_append]
theorem tl_joinE {zs : List Str} : tl (Txt.join "" zs) = (zs.map tl).flatten := by
  rw [join_eq, tl_join]
  show joinL [] _ = _
  generalize zs.map tl = ls
  induction ls with
  | nil => rfl
  | cons a r ih =>
    cases r with
    | nil => simp [joinL]
    | cons b s => simp only [joinL, List.flatten_cons] at *; rw [ih]; simp
theorem flat_ones : ∀ {zs : List Str}, (∀ z ∈ zs, z.length = 1) → ((zs.map tl).flatten).length = zs.length
  | [], _ => rfl
  | z :: zs, h => by
    have h1 := h z List.mem_cons_self
    rw [len_tl] at h1
    rw [List.map_cons, List.flatten_cons, List.length_append, h1, flat_ones fun y hy => h y (List.mem_cons_of_mem _ hy), List.length_cons]
    omega
theorem join_len {zs : List Str} (h : ∀ z ∈ zs, z.length = 1) : (Txt.join "" zs).length = zs.length := by
  rw [len_tl, tl_joinE, flat_ones h]
theorem join_ok {zs : List Str} (h : ∀ z ∈ zs, PyData.strOk z = true) : PyData.strOk (Txt.join "" zs) = true := by
  rw [strOk_iff, tl_joinE]
  intro c hc
  obtain ⟨l, hl, hc⟩ := List.mem_flatten.mp hc
  obtain ⟨z, hz, rfl⟩ := List.mem_map.mp hl
  exact strOk_iff.mp (h z hz) c hc
theorem sum_ones : ∀ {zs : List Str}, (∀ z ∈ zs, z.length = 1) → (zs.map (·.length)).sum = zs.length
  | [], _ => rfl
  | z :: zs, h => by
    rw [List.map_cons, List.sum_cons, h z List.mem_cons_self, sum_ones fun y hy => h y (List.mem_cons_of_mem _ hy), List.length_cons]
    omega
theorem at_some {α : Type} {l : List α} {j : Int} (h0 : 0 ≤ j) (h1 : j < l.length) : ∃ c, atI l j = some c ∧ c ∈ l := by
  obtain ⟨k, rfl⟩ := Int.eq_ofNat_of_zero_le h0
  have hk : k < l.length := by omega
  exact ⟨l[k], atI_nat (List.getElem?_eq_getElem hk), List.getElem_mem hk⟩
theorem TapeAt.same {n : Nat} {t l : Addr} {H H' : Hp} (s : Same H H') (T : TapeAt n t l H) : TapeAt n t l H' := by
  obtain ⟨cells, turn, rest, e1, e2, r⟩ := T.ex
  exact ⟨cells, turn, rest, s _ _ e1, s _ _ e2, r⟩
end L2
namespace L2
open PySem PySem.Spec PyProof.Rows TL
end L2

set_option Elab.async false
set_option linter.all false
set_option maxRecDepth 100000
namespace L2
open PySem PySem.Spec PyProof.Rows TL
/-! ### a module's constant -/
theorem pe_globE {X : Cx} {x : Str} {v : V} {pos : Pos} (hg : Gl X x) (h : ∃ u, X.mg x = some u ∧ RelV v u) (hd : (x == ("__debug__" : Str)) = false := by decide) : PE X (.Name x pos) (tC v) := by
  obtain ⟨u, hm, r⟩ := h
  exact pe_glob hg hm r hd
/-! ### slices with a step -/
section
variable {X : Cx}
def tSl3 (r : V → Option Int → Option Int → Option Int → Hp → VK → Prop) (te : TE) (tl th ts : TO) : TE := fun σ H Q => te σ H fun x H1 => tl σ H1 fun l H2 => th σ H2 fun u H3 => ts σ H3 fun k H4 => r x l u k H4 Q
def revS (z : Str) : Str := ⟨((List.range z.length).map fun k => z.cps.getD (z.length - 1 - k) 0).toArray⟩
def rSl3S : V → Option Int → Option Int → Option Int → Hp → VK → Prop := fun x lo hi st H Q => lo = none ∧ hi = none ∧ st = some (-1) ∧ ∃ z, x = .str z ∧ z.length ≤ sizeLine ∧ Q (.str (revS z)) H
end
end L2
namespace L2
open PySem PySem.Spec PyProof.Rows TL
section
variable {X : Cx} {pos : Pos}
/-- a, b, c = x, y, z with plain local names -/
def tPar3 (i j k : Nat) (ta : TA) : TS := fun D σ H => ta σ H fun vs H1 => ∃ v w z, vs = [v, w, z] ∧ D.nx (((σ.set k (some z)).set j (some w)).set i (some v)) H1
end
end L2
namespace L2
open PySem PySem.Spec PyProof.Rows TL
/-! ### exclusive or, bit by bit -/
/-! ### marks -/
def okR (b : Nat) (zs : List Str) : Prop := ∀ z ∈ zs, z.length ≤ b ∧ PyData.strOk z = true
theorem okR.app {b : Nat} {xs ys : List Str} (h1 : okR b xs) (h2 : okR b ys) : okR b (xs ++ ys) := fun z hz => (List.mem_append.mp hz).elim (h1 z) (h2 z)
theorem okR.okV {b : Nat} {zs : List Str} (h : okR b zs) : (zs.map V.str).all okV = true := by
  rw [List.all_map, List.all_eq_true]
  exact fun z hz => (h z hz).2
end L2
namespace L2
open PySem PySem.Spec PyProof.Rows TL
def cutG {α : Type} (xs : List α) (lo hi : Option Int) : List α := (xs.drop (HT.sIx xs.length 0 lo)).take (HT.sIx xs.length xs.length hi - HT.sIx xs.length 0 lo)
theorem cutG_mem {α : Type} {xs : List α} {lo hi : Option Int} {x : α} (h : x ∈ cutG xs lo hi) : x ∈ xs := List.mem_of_mem_drop (List.mem_of_mem_take h)
theorem okR.cut {b : Nat} {zs : List Str} {lo hi : Option Int} (h : okR b zs) : okR b (cutG zs lo hi) := fun z hz => h z (cutG_mem hz)
theorem okR.mono {b c : Nat} {zs : List Str} (h : okR b zs) (hb : b ≤ c) : okR c zs := fun z hz => ⟨Nat.le_trans (h z hz).1 hb, (h z hz).2⟩
theorem okR.one {b : Nat} {z : Str} (h : z.length ≤ b) (ho : PyData.strOk z = true) : okR b [z] := fun y hy => by rw [List.mem_singleton.mp hy]; exact ⟨h, ho⟩
theorem okR.nil {b : Nat} : okR b [] := fun z hz => by simp at hz
theorem okR.rev {b : Nat} {zs : List Str} (h : okR b zs) : okR b zs.reverse := fun z hz => h z (List.mem_reverse.mp hz)
theorem okR.set {b : Nat} {zs : List Str} {j : Nat} {y : Str} (h : okR b zs) (h1 : y.length ≤ b) (h2 : PyData.strOk y = true) : okR b (zs.set j y) := fun z hz => by
  rcases List.mem_or_eq_of_mem_set hz with q | q
  · exact h z q
  · rw [q]; exact ⟨h1, h2⟩
theorem okR.sum {b : Nat} : ∀ {zs : List Str}, okR b zs → (zs.map (·.length)).sum ≤ b * zs.length
  | [], _ => by simp
  | z :: zs, h => by
    have h1 := (h z List.mem_cons_self).1
    have h2 := okR.sum (zs := zs) fun y hy => h y (List.mem_cons_of_mem _ hy)
    rw [List.map_cons, List.sum_cons, List.length_cons, Nat.mul_add]
    omega
/-- a text's parts: sizes -/
theorem cutS_le {z : Str} {lo hi : Option Int} {b : Nat} (h : z.length ≤ b) : (cutS z lo hi).length ≤ b := Nat.le_trans (cutS_length z lo hi) h
theorem Keep.same {t : Addr} {H H' : Hp} (s : Same H H') : Keep t H H' := fun b o e _ => s b o e
end L2

set_option Elab.async false
set_option linter.all false
set_option maxRecDepth 100000
namespace L2
open PySem PySem.Spec PyProof.Rows TL
/-! ### f-strings -/
section
variable {X : Cx}
def tJ : List TE → St → Hp → Str → (Str → Hp → Prop) → Prop
  | [], _, H, acc, Q => Q acc H
  | te :: r, σ, H, acc, Q => te σ H fun x H1 => ∃ y : Str, x = .str y ∧ (acc ++ y).length ≤ sizeLine ∧ tJ r σ H1 (acc ++ y) Q
def PJ (X : Cx) (es : List Expr) (ts : List TE) : Prop := ∀ (pins : List (Addr × Obj)) (s : Shared) (σ : St) (H : Hp) (acc : Str) (Q : Str → Hp → Prop), Inv X pins σ H s → acc.length ≤ sizeLine → tJ ts σ H acc Q →
  Joins (model X.prog X.w) X.A X.xe (evalEach es X.env) acc (fun out s1 => out.length ≤ sizeLine ∧ ∃ H1, Inv X pins σ H1 s1 ∧ Q out H1) s
theorem pj_nil : PJ X [] [] := fun pins s σ H acc Q I hz h => ⟨hz, H, I, h⟩
theorem pj_cons {e : Expr} {es : List Expr} {te : TE} {ts : List TE} (he : PE X e te) (hr : PJ X es ts) : PJ X (e :: es) (te :: ts) := fun pins s σ H acc Q I hz h => by
  show wpAny _ _ (eval e X.env) _ _ s
  refine thn (he pins s σ H _ I h) fun u s1 ⟨x, H1, I1, r1, y, e1, hl, q⟩ => ?_
  subst e1
  obtain ⟨t, rfl⟩ := r1
  exact ⟨y, t, rfl, hl, hr pins s1 σ H1 _ Q I1 hl q⟩
theorem pe_joinedS {v1 v2 : Expr} {rest : List Expr} {pos : Pos} {ts : List TE} (h : PJ X (v1 :: v2 :: rest) ts) : PE X (.JoinedStr (v1 :: v2 :: rest) pos) (fun σ H Q => tJ ts σ H Str.empty fun z H1 => Q (.str z) H1) := by
  intro pins s σ H Q I hw
  refine wpAny_JoinedStr ?_
  have q := h pins s σ H Str.empty _ I (by decide) hw
  have mono : ∀ (parts : List (Sem Value)) (acc : Str) (s : Shared) (R R' : Str → Shared → Prop), (∀ z s, R z s → R' z s) → Joins (model X.prog X.w) X.A X.xe parts acc R s → Joins (model X.prog X.w) X.A X.xe parts acc R' s := by
    intro parts
    induction parts with
    | nil => exact fun acc s R R' hr h => hr _ _ h
    | cons p ps ih => exact fun acc s R R' hr h => thn h fun v s1 ⟨y, t, e, hl, q⟩ => ⟨y, t, e, hl, ih _ _ _ _ hr q⟩
  exact mono _ _ _ _ _ (fun z s1 ⟨hz, H1, I1, q1⟩ => ⟨hz, ⟨.str z, H1, I1.tok _, ⟨_, rfl⟩, q1⟩⟩) q
theorem pe_fmtS {e : Expr} {te : TE} {pos : Pos} (he : PE X e te) : PE X (.FormattedValue e (-1) none pos) (fun σ H Q => te σ H fun x H1 => ∃ z : Str, x = .str z ∧ z.length ≤ sizeLine ∧ Q (.str z) H1) := by
  intro pins s σ H Q I hw
  refine FormattedValue_plain (thn (he pins s σ H _ I hw) fun u s1 ⟨x, H1, I1, r1, z, e1, hl, q⟩ => ?_)
  subst e1
  obtain ⟨t, rfl⟩ := r1
  exact formatField_str (fun t' tk => ⟨.str z, H1, I1.tok tk, ⟨t', rfl⟩, q⟩) hl
theorem pe_fmtI {e : Expr} {te : TE} {pos : Pos} (he : PE X e te) : PE X (.FormattedValue e (-1) none pos) (fun σ H Q => te σ H fun x H1 => ∃ i : Int, x = .int i ∧ i.natAbs.log2 < 1920 ∧ Q (.str (toString i : String)) H1) := by
  intro pins s σ H Q I hw
  refine FormattedValue_plain (thn (he pins s σ H _ I hw) fun u s1 ⟨x, H1, I1, r1, i, e1, hl, q⟩ => ?_)
  subst e1
  obtain ⟨t, rfl⟩ := r1
  exact formatField_int_small hl ⟨.str _, H1, I1.tok _, ⟨_, rfl⟩, q⟩
/-- the written part says that no limit of digits was set -/
def NoDig (K : PySem.W.Frag) : Prop := PySem.W.nsIn K cStatics "sys.int_max_str_digits" = some none
theorem NoDig.at {K : PySem.W.Frag} {h : Heap} (n : NoDig K) (X : K.In h) (l : h.NoLimit) : h.NoDigits := by
  obtain ⟨mc, G, _⟩ := l
  refine ⟨mc, G, ?_⟩
  obtain ⟨o, es, ep, ho, hd, _, hf⟩ := G
  unfold NoDig PySem.W.nsIn at n
  split at n
  · rename_i c d es' n' sl q
    have := X _ _ q
    rw [ho] at this
    cases this
    cases hd
    split at n
    · cases n
    · rename_i he
      rw [← hf]
      unfold nsFind findBy
      rw [← Array.find?_toList, he]
      rfl
  · cases n
/-! ### a list unpacked -/
def gTupL (K : PySem.W.Frag) (n : Nat) (t : TGs) : TG := fun v σ H Q => ∃ a xs, v = .ref a ∧ SqL K H a xs ∧ xs.length = n ∧ t xs σ H Q
/-! ### removeprefix, a text taken n times -/
def repS (z : Str) (n : Nat) : Str := ⟨(List.replicate n (tl z)).flatten.toArray⟩
theorem tl_repS (z : Str) (n : Nat) : tl (repS z n) = (List.replicate n (tl z)).flatten := rfl
theorem fold_app : ∀ (n : Nat) (a acc : Array Nat), ((List.replicate n a).foldl (· ++ ·) acc).toList = acc.toList ++ (List.replicate n a.toList).flatten
  | 0, a, acc => by simp
  | n + 1, a, acc => by
    rw [List.replicate_succ, List.foldl_cons, fold_app n a (acc ++ a), List.replicate_succ, List.flatten_cons, Array.toList_append, List.append_assoc]
theorem op_mul_str : OpR X (binaryOp .Mult) (fun x y H Q => ∃ (z : Str) (n : Nat), x = .str z ∧ y = .int (n : Int) ∧ n ≤ 16777216 ∧ z.length * n ≤ 16777216 ∧ Q (.str (repS z n)) H) := by
  intro pins s σ H x y v u Q I rx ry h
  obtain ⟨z, n, rfl, rfl, hn, hz, q⟩ := h
  obtain ⟨t, rfl⟩ := rx
  obtain ⟨t2, rfl⟩ := ry
  refine PySem.P.mul_str (by rw [decide_eq_false (by omega), decide_eq_false (by omega)]; rfl) (fun h1 h2 => ?_) (fun h1 h2 => ?_) ?_
  · have h3 : (1 : Int) ≤ (n : Int) := by omega
    have h4 : (z.length : Int) ≤ 16777216 := by
      have : z.length * 1 ≤ z.length * n := Nat.mul_le_mul_left _ (by omega)
      omega
    have h5 : (2 ^ 63 - 1) / (n : Int) ≥ 16777216 := by
      have h6 : (16777216 : Int) * n ≤ 2 ^ 63 - 1 := by omega
      exact Int.le_ediv_of_mul_le (by omega) h6
    omega
  · exact notLong (by rw [Int.toNat_natCast]; exact hz)
  · by_cases c1 : (n : Int) < 1
    · rw [if_pos c1]
      have e : repS z n = Str.empty := by
        have e0 : n = 0 := by omega
        subst e0
        rfl
      rw [e] at q
      exact ⟨by decide, .str _, H, I.tok _, ⟨_, rfl⟩, q⟩
    · rw [if_neg c1]
      by_cases c2 : ((n : Int) == 1 || z.length == 0) = true
      · rw [if_pos c2]
        have e : repS z n = z := by
          refine ext_tl ?_
          rw [tl_repS]
          rcases Bool.or_eq_true_iff.mp c2 with e1 | e1
          · have e0 : n = 1 := by
              have : (n : Int) = 1 := by simpa using e1
              omega
            subst e0
            simp
          · have e0 : tl z = [] := by
              have : z.length = 0 := by simpa using e1
              rw [len_tl] at this
              exact List.eq_nil_of_length_eq_zero this
            rw [e0]
            simp
        rw [e] at q
        exact ⟨.str _, H, I, ⟨_, rfl⟩, q⟩
      · rw [if_neg c2, Int.toNat_natCast]
        have e : (⟨(List.replicate n z.cps).foldl (· ++ ·) #[]⟩ : Str) = repS z n := by
          refine ext_tl ?_
          show ((List.replicate n z.cps).foldl (· ++ ·) #[]).toList = _
          rw [fold_app, tl_repS]
          rfl
        rw [e]
        refine ⟨?_, .str _, H, I.tok _, ⟨_, rfl⟩, q⟩
        rw [len_tl, tl_repS]
        have : ((List.replicate n (tl z)).flatten).length = n * (tl z).length := by simp
        rw [this, ← len_tl, Nat.mul_comm]
        exact Nat.le_trans hz (by decide)
end
end L2

set_option Elab.async false
set_option linter.all false
set_option maxRecDepth 100000
namespace L2
open PySem PySem.Spec PyProof.Rows TL
/-! ### money written -/
def two (k : Nat) : List Nat := [48 + k / 10, 48 + k % 10]
def strL (l : List Nat) : Str := ⟨l.toArray⟩
def bodyP (a : Nat) : List Str := [strL (numL (a / 240)), strL (two (a / 12 % 20)), strL (two (a % 12))]
def body (a : Nat) : Str := Txt.join "-" (bodyP a)
end L2
namespace L2
open PySem TL
end L2
namespace L2
open PySem TL
end L2

set_option Elab.async false
set_option linter.all false
set_option maxRecDepth 100000
namespace L2
open PySem PySem.Spec PyProof.Rows TL
/-! ### for .. in enumerate(list), zip(list, list) -/
section
variable {X : Cx}
end
/-! ### texts set to rows: what the program tells, as functions -/
theorem cutS_lo (z : Str) (k : Nat) : tl (cutS z (some (k : Int)) none) = (tl z).drop k := by
  unfold cutS
  rw [tl_mk, HT.sIx_nat, HT.sIx_none]
  by_cases h : k ≤ z.length
  · rw [Nat.min_eq_left h, List.take_of_length_le]
    rw [List.length_drop, ← len_tl]
    exact Nat.le_refl _
  · have h1 : min k z.length = z.length := by omega
    rw [h1]
    rw [len_tl] at h
    rw [List.drop_eq_nil_of_le (show (tl z).length ≤ k by omega)]
    simp
theorem cutS_lo_len (z : Str) (k : Nat) : (cutS z (some (k : Int)) none).length = z.length - k := by rw [len_tl, cutS_lo, List.length_drop, ← len_tl]
termination_by z.length
decreasing_by
  rw [cutS_lo_len]
  omega
def appLast (rows : List (List Str)) (z : Str) : List (List Str) := rows.dropLast ++ [(rows.getLast?.getD []) ++ [z]]
def fstep (w : Nat) (s : List (List Str) × Nat) (z : Str) : List (List Str) × Nat :=
  if s.1 ≠ [] ∧ s.2 + 1 + z.length ≤ w then (appLast s.1 z, s.2 + 1 + z.length) else (s.1 ++ [[z]], z.length)
def filled (w : Nat) (ws : List Str) : List (List Str) := (ws.foldl (fstep w) ([], 0)).1
structure RowsAt (H : Hp) (D : Addr) (ps : List Addr) (rows : List (List Str)) : Prop where
  top : H D = some (.lst (ps.map V.ref))
  len : ps.length = rows.length
  at' : ∀ (i : Nat) p r, ps[i]? = some p → rows[i]? = some r → H p = some (.lst (r.map V.str))
  nd : ps.Nodup
  nin : D ∉ ps
theorem RowsAt.same {H H' : Hp} {D : Addr} {ps : List Addr} {rows : List (List Str)} (R : RowsAt H D ps rows) (s : Same H H') : RowsAt H' D ps rows := ⟨s _ _ R.top, R.len, fun i p r a b => s _ _ (R.at' i p r a b), R.nd, R.nin⟩
/-- a new row -/
theorem RowsAt.push {H : Hp} {D q : Addr} {ps : List Addr} {rows : List (List Str)} {z : Str} (R : RowsAt H D ps rows) (hq : H q = none) : RowsAt (upd (upd H q (.lst [.str z])) D (.lst (ps.map V.ref ++ [.ref q]))) D (ps ++ [q]) (rows ++ [[z]]) := by
  have nq : D ≠ q := ne_of_none R.top hq
  refine ⟨by rw [upd_same, List.map_append]; rfl, by rw [List.length_append, List.length_append, R.len]; rfl, fun i p r a b => ?_, ?_, ?_⟩
  · have hi : i < (ps ++ [q]).length := (List.getElem?_eq_some_iff.mp a).1
    by_cases h : i < ps.length
    · rw [List.getElem?_append_left h] at a
      rw [List.getElem?_append_left (by rw [← R.len]; exact h)] at b
      have e := R.at' i p r a b
      have n1 : p ≠ D := fun z => R.nin (z ▸ List.mem_of_getElem? a)
      rw [upd_ne n1, upd_ne (ne_of_none e hq)]
      exact e
    · have e : i = ps.length := by rw [List.length_append] at hi; simp at hi; omega
      subst e
      rw [List.getElem?_append_right (Nat.le_refl _)] at a
      rw [List.getElem?_append_right (by rw [← R.len]; exact Nat.le_refl _), ← R.len] at b
      simp at a b
      subst a b
      rw [upd_ne nq.symm, upd_same]
      rfl
  · refine List.nodup_append.mpr ⟨R.nd, by simp, fun a ha b hb => ?_⟩
    have e : b = q := List.mem_singleton.mp hb
    subst e
    intro z
    subst z
    obtain ⟨i, hi, e⟩ := List.getElem_of_mem ha
    have hr : i < rows.length := by rw [← R.len]; exact hi
    have := R.at' i a rows[i] (by rw [← e]; exact List.getElem?_eq_getElem hi) (List.getElem?_eq_getElem hr)
    rw [hq] at this
    cases this
  · intro h
    rcases List.mem_append.mp h with h | h
    · exact R.nin h
    · exact nq (List.mem_singleton.mp h)
/-- one more word in the last row -/
theorem RowsAt.more {H : Hp} {D q : Addr} {ps : List Addr} {rows : List (List Str)} {l : List Str} {z : Str} (R : RowsAt H D (ps ++ [q]) (rows ++ [l])) : H q = some (.lst (l.map V.str)) ∧ RowsAt (upd H q (.lst (l.map V.str ++ [.str z]))) D (ps ++ [q]) (rows ++ [l ++ [z]]) := by
  have hl : ps.length = rows.length := by
    have := R.len
    rw [List.length_append, List.length_append] at this
    simpa using this
  have e0 : H q = some (.lst (l.map V.str)) := R.at' ps.length q l (by rw [List.getElem?_append_right (Nat.le_refl _)]; simp) (by rw [hl, List.getElem?_append_right (Nat.le_refl _)]; simp)
  have nq : D ≠ q := fun z => R.nin (z ▸ List.mem_append_right _ (List.mem_singleton.mpr rfl))
  refine ⟨e0, (upd_ne nq).trans R.top, by rw [List.length_append, List.length_append, hl]; rfl, fun i p r a b => ?_, R.nd, R.nin⟩
  have hi : i < (ps ++ [q]).length := (List.getElem?_eq_some_iff.mp a).1
  by_cases h : i < ps.length
  · have a' := a
    rw [List.getElem?_append_left h] at a
    rw [List.getElem?_append_left (by omega)] at b
    have e := R.at' i p r a' (by rw [List.getElem?_append_left (by omega)]; exact b)
    have n1 : p ≠ q := fun z => by
      subst z
      exact (List.nodup_append.mp R.nd).2.2 p (List.mem_of_getElem? a) p (List.mem_singleton.mpr rfl) rfl
    rw [upd_ne n1]
    exact e
  · have e : i = ps.length := by rw [List.length_append] at hi; simp at hi; omega
    subst e
    rw [List.getElem?_append_right (Nat.le_refl _)] at a
    rw [hl, List.getElem?_append_right (Nat.le_refl _)] at b
    simp at a b
    subst a b
    rw [upd_same, List.map_append]
    rfl
end L2
namespace L2
open PySem PySem.Spec PyProof.Rows TL
end L2
namespace L2
open PySem PySem.Spec PyProof.Rows TL
def tTruS (ta : TE) : TT := fun σ H Q => ta σ H fun x H' => ∃ z : Str, x = .str z ∧ z.length ≤ sizeLine ∧ Q ((z.length : Int) != 0) H'
end L2
namespace L2
open PySem PySem.Spec PyProof.Rows TL
/-! ### comprehensions with two fors, over lists -/
/-! ### sizes -/
theorem repS_len (z : Str) (n : Nat) : (repS z n).length = n * z.length := by rw [len_tl, tl_repS]; simp [Str.length]
end L2
namespace L2
open PySem PySem.Spec PyProof.Rows TL
/-! ### a def with defaults -/
structure FunD (K : PySem.W.Frag) (x qual : Str) (st : Stmt) (f : Addr) (fd : FuncData) : Prop where
  ex : ∃ (oc : Value) (od : Option Addr) (dV kV doc pm : Value) (an : Option Addr) (cdv ct : Value) (osl : Array (Option Value)),
    fd = PySem.W.fnOf x qual (defArgs st) (defBody st) (defScope st) dV kV doc pm an cdv ct ∧ K.lookup f = some ⟨oc, od, .func fd, osl⟩ ∧ PySem.W.codeIn K cdv qual = true
  kp : PySem.W.keepIn K (.ref f) = true
theorem FunD.ok {P : Program} {w : World} {K : PySem.W.Frag} {mg : Str → Option Value} {base : Heap} {x qual : Str} {st : Stmt} {f : Addr} {fd : FuncData} {N ps : List Str} {k : Nat} {sp : Sp} (F : FunD K x qual st f fd) (S : FnScope N ps (defScope st)) (len : ∀ vs H Q E, sp vs H Q E → vs.length = ps.length)
    (hbody : ∀ (cdv : Value) (A : Around) (outer : List Env) (s : Shared) (H : Hp) (vs : List V) (Q : VK) (E : XK), Room k (A.deeper (envOfC qual (defScope st) s.heap.objs.size f cdv)) → sp vs H Q E →
      ∃ t, PSs (cxOf CX0 P w K mg base N qual (defScope st) f cdv A outer s H E).nox (defBody st) t ∧ t { nx := fun _ H' => Q .non H', rt := Q } (start N vs) H) : FnOk P w K mg base CX0 (k + 1) f fd ps sp := by
  obtain ⟨oc, od, dV, kV, doc, pm, an, cdv, ct, osl, rfl, lk, hcd⟩ := F.ex
  refine fn_of lk hcd S len fun A outer s H vs Q E hr hsp => ?_
  obtain ⟨t, h, q⟩ := hbody cdv A outer s H vs Q E hr hsp
  exact ⟨t, h.nox, q⟩
end L2

set_option Elab.async false
set_option linter.all false
set_option maxRecDepth 100000
namespace L2
open PySem PySem.Spec PyProof.Rows TL
/-! ### isinstance with a tuple of classes; a comprehension over zip -/
/-! ### words, sign by sign -/
/-! ### lengths of joined and of spread rows -/
end L2
namespace L2
open PySem PySem.Spec PyProof.Rows TL
end L2
namespace L2
end L2

set_option Elab.async false
set_option linter.all false
set_option maxRecDepth 100000
namespace L2
open PySem PySem.Spec PyProof.Rows TL
/-! ### blanks handed out one by one, round about -/
def blN (m k j : Nat) : Nat := if j < k % m then 1 + k / m + 1 else 1 + k / m
def blk (m k : Nat) : List V := (List.range m).map fun j => V.int ((blN m k j : Nat) : Int)
end L2

set_option Elab.async false
set_option linter.all false
set_option maxRecDepth 100000
namespace L2
open PySem PySem.Spec PyProof.Rows TL
/-! ### the signs of what is set are signs -/
theorem rep_ok {z : Str} {n : Nat} (hz : PyData.strOk z = true) : PyData.strOk (repS z n) = true := by
  rw [strOk_iff, tl_repS] at *
  intro c hc
  obtain ⟨l, hl, hc⟩ := List.mem_flatten.mp hc
  rw [List.eq_of_mem_replicate hl] at hc
  exact hz c hc
theorem RowsAt.out {H : Hp} {L D : Addr} {ps : List Addr} {rows : List (List Str)} {o : HO} (R : RowsAt H L ps rows) (h1 : L ≠ D) (h2 : ∀ q ∈ ps, q ≠ D) : RowsAt (upd H D o) L ps rows := ⟨(upd_ne h1).trans R.top, R.len, fun i p r a b => (upd_ne (h2 p (List.mem_of_getElem? a))).trans (R.at' i p r a b), R.nd, R.nin⟩
end L2

set_option Elab.async false
set_option linter.all false
set_option maxRecDepth 100000
namespace L2
open PySem PySem.Spec PyProof.Rows TL
/-! ### replace: it asks that its texts were made, so that tokens stand behind -/
def PET (X : Cx) (e : Expr) (te : TE) : Prop := ∀ (pins : List (Addr × Obj)) (s : Shared) (σ : St) (H : Hp) (Q : VK), Inv X pins σ H s → te σ H Q → wpAny (model X.prog X.w) X.A (eval e X.env) (fun v s' => 1 ≤ s'.toks ∧ EP X pins σ Q v s') X.xe s
theorem PET.pe {X : Cx} {e : Expr} {te : TE} (h : PET X e te) : PE X e te := fun pins s σ H Q I q => thn (h pins s σ H Q I q) fun _ _ z => z.2
def tRepl (y z : Str) (to : TE) : TE := fun σ H Q => to σ H fun x H1 => ∃ a : Str, x = .str a ∧ a.length + (a.length + 1) * z.length ≤ 16777216 ∧ Q (.str (Txt.replace a y z)) H1
/-! ### a def that makes a text first -/
structure FnTok (P : Program) (w : World) (K : PySem.W.Frag) (mg : Str → Option Value) (base : Heap) (CX : CXT) (k : Nat) (f : Addr) (fd : FuncData) (ps : List Str) (sp : Sp) : Prop where
  len : ∀ vs H Q E, sp vs H Q E → vs.length = ps.length
  run : ∀ (A : Around) (outer : List Env) (s : Shared) (H : Hp) (args : Args) (us : List Value) (vs : List V) (Q : VK) (E : XK), Room k A → Env0 P w K mg base A outer s H → BindsTo s fd args (ps.zip us) → Vals vs us → sp vs H Q E →
    codeAny (model P w) A (.call (.ref f) args) (fun r s' => (∀ u, r = .ok (.ret u) → 1 ≤ s'.toks) ∧ CR CX outer P w H s Q E r s') s
theorem FnTok.ok {P : Program} {w : World} {K : PySem.W.Frag} {mg : Str → Option Value} {base : Heap} {CX : CXT} {k : Nat} {f : Addr} {fd : FuncData} {ps : List Str} {sp : Sp} (F : FnTok P w K mg base CX k f fd ps sp) : FnOk P w K mg base CX k f fd ps sp :=
  ⟨F.len, fun A outer s H args us vs Q E hr e0 hb r hsp => codeAny_mono (F.run A outer s H args us vs Q E hr e0 hb r hsp) fun _ _ z => z.2⟩
structure CalleeT (P : Program) (w : World) (K : PySem.W.Frag) (mg : Str → Option Value) (base : Heap) (k : Nat) (x : Str) (ps : List Str) (sp : Sp) : Prop where
  ex : ∃ (f : Addr) (fd : FuncData), FnTok P w K mg base CX0 k f fd ps sp ∧ mg x = some (.ref f) ∧ PySem.W.keepIn K (.ref f) = true ∧ Binds K fd ps [] ∧ KwB fd ps
theorem CalleeT.callee {P : Program} {w : World} {K : PySem.W.Frag} {mg : Str → Option Value} {base : Heap} {k : Nat} {x : Str} {ps : List Str} {sp : Sp} (C : CalleeT P w K mg base k x ps sp) : Callee P w K mg base k x ps sp := by
  obtain ⟨f, fd, F, h⟩ := C.ex
  exact ⟨f, fd, F.ok, h⟩
theorem FnTok.mono {P : Program} {w : World} {K : PySem.W.Frag} {mg : Str → Option Value} {base : Heap} {CX : CXT} {j k : Nat} {f : Addr} {fd : FuncData} {ps : List Str} {sp : Sp} (F : FnTok P w K mg base CX j f fd ps sp) (h : j ≤ k) :
    FnTok P w K mg base CX k f fd ps sp := ⟨F.len, fun A outer s H args us vs Q E hr => F.run A outer s H args us vs Q E (hr.mono h)⟩
end L2

set_option Elab.async false
set_option linter.all false
set_option maxRecDepth 100000
namespace L2
open PySem PySem.Spec PyProof.Rows TL
/-! ### set_rows as it is called: by places, with what may be left out left out, with gap alone by its name -/
section
variable {X : Cx} {j k : Nat} {p pos : Pos} {e : Expr} {es : List Expr} {t tk : TA} {kws : List Keyword}
end
end L2

set_option Elab.async false
set_option linter.all false
set_option maxRecDepth 100000
namespace L2
open PySem PySem.Spec PyProof.Rows TL
/-! ### a def called in many forms: so many by places, these names, where each parameter's value comes from -/
abbrev Form := Nat × List Str × List Nat
def FormB (K : PySem.W.Frag) (fd : FuncData) (ps : List Str) (dus : List Value) (F : Form) : Prop :=
  ∀ (s : Shared) (us ws : List Value), K.In s.heap → us.length = F.1 → ws.length = F.2.1.length → BindsTo s fd ⟨us, F.2.1.zip ws⟩ (ps.zip (F.2.2.map fun i => (us ++ ws ++ dus).getD i .none))
def AllF (K : PySem.W.Frag) (fd : FuncData) (ps : List Str) (dus : List Value) : List Form → Prop
  | [] => True
  | f :: r => FormB K fd ps dus f ∧ AllF K fd ps dus r
theorem AllF.at {K : PySem.W.Frag} {fd : FuncData} {ps : List Str} {dus : List Value} : ∀ {fs : List Form} {i : Nat} {F : Form}, AllF K fd ps dus fs → fs[i]? = some F → FormB K fd ps dus F
  | [], _, _, _, e => by simp at e
  | f :: r, 0, F, h, e => by simp at e; subst e; exact h.1
  | f :: r, i + 1, F, h, e => AllF.at (fs := r) h.2 (by simpa using e)
def formV (F : Form) (dvs : List V) (vs zs : List V) : List V := bif (vs.length == F.1 && zs.length == F.2.1.length) then F.2.2.map (fun i => (vs ++ zs ++ dvs).getD i .non) else []
def formU (F : Form) (dus : List Value) (us ws : List Value) : List Value := bif (us.length == F.1 && ws.length == F.2.1.length) then F.2.2.map (fun i => (us ++ ws ++ dus).getD i .none) else []
theorem valsD_getD : ∀ {zs : List V} {ws : List Value}, Vals zs ws → ∀ i, RelV (zs.getD i .non) (ws.getD i .none)
  | _, _, .nil, _ => by simp; rfl
  | _, _, .cons r t, 0 => by simpa using r
  | _, _, .cons r t, i + 1 => by simpa using valsD_getD t i
theorem vals_app : ∀ {a : List V} {b : List Value} {c : List V} {d : List Value}, Vals a b → Vals c d → Vals (a ++ c) (b ++ d)
  | _, _, _, _, .nil, h => h
  | _, _, _, _, .cons r t, h => .cons r (vals_app t h)
theorem form_binds {K : PySem.W.Frag} {fd : FuncData} {ps : List Str} {dvs : List V} {dus : List Value} {F : Form} (hd : Vals dvs dus) (hF : FormB K fd ps dus F) (hp : ps ≠ []) : KBinds K fd ps F.2.1 (formU F dus) (formV F dvs) := by
  refine ⟨fun s us ws X hl => ?_, fun {vs us zs ws} r1 r2 => ?_⟩
  · unfold formU at hl ⊢
    cases h : (us.length == F.1 && ws.length == F.2.1.length) with
    | false =>
      rw [h] at hl
      exact absurd (List.eq_nil_of_length_eq_zero hl.symm) hp
    | true =>
      rw [Bool.and_eq_true] at h
      exact hF s us ws X (by simpa using h.1) (by simpa using h.2)
  · unfold formU formV
    rw [r1.length, r2.length]
    cases (us.length == F.1 && ws.length == F.2.1.length) with
    | false => exact .nil
    | true =>
      have h := vals_app (vals_app r1 r2) hd
      simp only [cond_true]
      induction F.2.2 with
      | nil => exact .nil
      | cons i t ih => exact .cons (valsD_getD h i) ih
structure CalleeD (P : Program) (w : World) (K : PySem.W.Frag) (mg : Str → Option Value) (base : Heap) (k : Nat) (x : Str) (ps : List Str) (sp : Sp) (dvs : List V) (fs : List Form) : Prop where
  ex : ∃ (f : Addr) (fd : FuncData) (dus : List Value), FnOk P w K mg base CX0 k f fd ps sp ∧ mg x = some (.ref f) ∧ PySem.W.keepIn K (.ref f) = true ∧ Vals dvs dus ∧ AllF K fd ps dus fs ∧ ps ≠ []
section
variable {X : Cx} {j k : Nat} {x : Str} {ps : List Str} {sp : Sp} {dvs : List V} {fs : List Form} {F : Form} {p pos : Pos} {e : Expr} {es : List Expr} {t tk : TA} {kws : List Keyword}
theorem pe_callD (i : Nat) (C : CalleeD X.prog X.w X.K X.mg X.base j x ps sp dvs fs) (hr : Room k X.A) (hg : Gl X x) (ha : PA X (e :: es) t) (hkw : PK X kws tk) (hi : fs[i]? = some F := by rfl) (hj : j ≤ k := by decide)
    (hall : (backToKw pos (keywordEach kws X.env)).all (·.1.isSome) = true := by rfl) (hks : (backToKw pos (keywordEach kws X.env)).filterMap (·.1) = F.2.1 := by rfl)
    (hdb : (x == ("__debug__" : Str)) = false := by decide) (he : starEach (e :: es) X.env = (false, eval e X.env) :: starEach es X.env := by rfl)
    (hpl : ((backTo pos (starEach (e :: es) X.env)).any (·.1) || (backToKw pos (keywordEach kws X.env)).any (·.1.isNone)) = false := by rfl) : PE X (.Call (.Name x p) (e :: es) kws pos) (tCallK sp (formV F dvs) E0 t tk) := by
  obtain ⟨f, fd, dus, FF, hm, hk, hd, hall', hp⟩ := C.ex
  exact pe_callK FF (hr.mono hj) hg hm hk (form_binds hd (hall'.at hi) hp) pass0 ha hkw hall hks hdb he hpl
def tCallK0 (sp : Sp) (gV : List V → List V → List V) (E : XK) (tk : TA) : TE := fun σ H Q => tk σ H fun zs H2 => sp (gV [] zs) H2 Q E
end
end L2

set_option Elab.async false
set_option linter.all false
set_option maxRecDepth 100000
namespace L2
open PySem PySem.Spec PyProof.Rows TL
/-! ### exceptions: what lies where while one flies -/
/-- all but ch stays, frames but for their slots -/
structure Shift (fr ch : List Addr) (h h' : Heap) : Prop where
  keep : ∀ b o, b ∉ fr → b ∉ ch → h.get? b = some o → h'.get? b = some o
  slot : ∀ b o, b ∉ ch → h.get? b = some o → ∃ sl, h'.get? b = some { o with slots := sl }
theorem Shift.refl {fr ch : List Addr} {h : Heap} : Shift fr ch h h := ⟨fun _ _ _ _ e => e, fun _ o _ e => ⟨o.slots, e⟩⟩
theorem Shift.trans {fr ch : List Addr} {h h1 h2 : Heap} (a : Shift fr ch h h1) (b : Shift fr ch h1 h2) : Shift fr ch h h2 :=
  ⟨fun c o n m e => b.keep c o n m (a.keep c o n m e), fun c o m e => let ⟨sl, e1⟩ := a.slot c o m e; let ⟨sl2, e2⟩ := b.slot c _ m e1; ⟨sl2, e2⟩⟩
theorem Shift.more {fr ch ch' : List Addr} {h h1 : Heap} (a : Shift fr ch h h1) (m : ∀ b ∈ ch, b ∈ ch') : Shift fr ch' h h1 :=
  ⟨fun c o n k e => a.keep c o n (fun z => k (m c z)) e, fun c o k e => a.slot c o (fun z => k (m c z)) e⟩
section
variable {X : Cx} {pins : List (Addr × Obj)} {σ : St} {H : Hp} {s : Shared} {h' : Heap} {ch : List Addr}
theorem Inv.shift {t' : Nat} (I : Inv X pins σ H s) (u : Shift (frs X.stack) ch s.heap h') (hc : ∀ b ∈ ch, FpOk X pins H b) : Inv X pins σ H { s with heap := h', toks := t' } := by
  refine I.call (g' := s.gens) (d' := s.drawn) (ch := ch) ⟨fun b o e n f k => u.keep b o f k e, fun b o e n f k => u.slot b o k e, fun b o e n k => n, fun b o e k => let ⟨sl, q⟩ := u.slot b o k e; ⟨_, q⟩, fun _ _ e => e, fun _ _ _ e => e, fun b ps e => ⟨#[], by rw [e]; simp⟩⟩ (fun b o e => ?_) I.bare fun b hb => ?_
  · have nt : ∀ c v, H c = some v → c ∉ ch ∧ c ∉ frs X.stack := fun c v q => ⟨fun z => (by rw [(hc c z).1] at q; cases q), fun z => (by rw [I.stkFree c z] at q; cases q)⟩
    refine (I.hok b o e).stay (fun c v q r => ?_) (fun _ q => q) fun _ _ q => q
    rcases q with rfl | q
    · exact u.keep _ _ (nt _ _ e).2 (nt _ _ e).1 r
    · exact u.keep _ _ (nt _ _ q).2 (nt _ _ q).1 r
  · obtain ⟨_, a, _, b1, c, d⟩ := hc b hb
    exact ⟨b1, a, c, d⟩
end
section
variable {M : Model} {A : Around} {E : Value → Shared → Prop} {s : Shared}
theorem dict_mapFields {o : Obj} (f : Array Value → Array Value) : (o.mapFields f).dict = o.dict := by
  obtain ⟨c, d, dt, sl⟩ := o
  cases dt <;> rfl
/-- one more row of the trace is written -/
theorem entry_sh {base : Heap} {env : Env} {outer : List Env} {L e : Addr} {oe : Obj} {vs : Array Value} {head : Value} {hadNext : Bool} {Q : Unit → Shared → Prop}
    (hfr : A.frames = some (env :: outer)) (hl : s.heap.FunFrames base (env :: outer)) (hf : env.frame = some L) (he : s.heap.get? e = some oe) (hd : oe.data = .fields vs) (hsz : 1 < vs.size)
    (k : ∀ h' T, s.heap.objs.size ≤ T → Shift (frs (env :: outer)) [e] s.heap h' → h'.get? e = some (oe.mapFields (·.setIfInBounds 1 (.ref T))) →
      (∃ oT ts, h'.get? T = some oT ∧ oT.data = .fields ts ∧ ts[3]? = some (rawInt L)) → T ≠ e → Q () { s with heap := h' }) :
    wpAny M A (do let a ← frameOf env; let pl ← entryPlaceOf L hadNext; let b ← EntryCells.newEntry head a .none (rawInt L) .none pl; setField (.ref e) 1 b) Q E s := by
  have hene : e ∉ frs (env :: outer) := fun hm => by
    obtain ⟨_, o, ho, hnf⟩ := hl.mem hm
    rw [he] at ho; cases ho; exact hnf vs hd
  refine wpAny_bind (wpAny_frameOf_fun hfr hl hf fun h1 s1 => wpAny_bind (wpAny_entryPlaceOf fun pl hpl => ?_))
  unfold EntryCells.newEntry newFields
  refine wpAny_bind (wpAny_newObj_type ?_ (hpl.sizeOk5 _ _ _ _ _))
  have e1 : h1.get? e = some oe := (s1.2.1 e hene).trans he
  refine wpAny_setField (Heap.get?_push_of_some _ e1) hd hsz ?_
  have nT : h1.objs.size ≠ e := Nat.ne_of_gt (Heap.lt_size e1)
  have d3 := Obj.data_mapFields hd (·.setIfInBounds 1 (Value.ref h1.objs.size))
  refine k _ h1.objs.size (Nat.le_of_eq s1.1.symm) ⟨fun b o nf nc q => ?_, fun b o nc q => ?_⟩ (Heap.get?_update_self _ (Heap.get?_push_of_some _ e1) (Obj.isFreed_of_fields d3)) ⟨_, _, (Heap.get?_update_other _ _ (Ne.symm nT)).trans (Heap.get?_push_size h1 rfl), rfl, ?_⟩ nT
  · rw [Heap.get?_update_other _ _ (fun z => nc (by simp [z]))]
    exact Heap.get?_push_of_some _ ((s1.2.1 b nf).trans q)
  · obtain ⟨sl, q1⟩ := s1.2.2 b o q
    refine ⟨sl, ?_⟩
    rw [Heap.get?_update_other _ _ (fun z => nc (by simp [z]))]
    exact Heap.get?_push_of_some _ q1
  · first | (simp; done) | (rcases hpl with rfl | ⟨_, _, _, _, _, _, _, rfl⟩ <;> simp)
end
/-- an exception: its object, and the newest row of its trace, whose mark is fl -/
def Air (free : Addr → Prop) (a : Addr) (C : Value) (od : Option Addr) (fl : Value) (h : Heap) : Prop :=
  free a ∧ ∃ oe vs, h.get? a = some oe ∧ oe.cls = C ∧ oe.dict = od ∧ oe.data = .fields vs ∧
    ((vs[1]? = some .none ∧ fl = .none) ∨ ∃ T oT ts, vs[1]? = some (.ref T) ∧ free T ∧ T ≠ a ∧ h.get? T = some oT ∧ oT.data = .fields ts ∧ ts[3]? = some fl)
theorem Air.imp {f g : Addr → Prop} {a : Addr} {C : Value} {od : Option Addr} {fl : Value} {h : Heap} (m : ∀ b o, h.get? b = some o → f b → g b) (x : Air f a C od fl h) : Air g a C od fl h := by
  obtain ⟨fa, oe, vs, he, hc, hd, hv, q⟩ := x
  refine ⟨m _ _ he fa, oe, vs, he, hc, hd, hv, ?_⟩
  rcases q with q | ⟨T, oT, ts, q1, q2, q3, q4, q5⟩
  · exact .inl q
  · exact .inr ⟨T, oT, ts, q1, m _ _ q4 q2, q3, q4, q5⟩
section
variable {X : Cx} {pins : List (Addr × Obj)} {σ : St} {H : Hp} {s : Shared} {a : Addr} {C : Value} {od : Option Addr} {A : Around} {E : Value → Shared → Prop} {M : Model} {Q : Unit → Shared → Prop}
theorem note_ok (I : Inv X pins σ H s) (hfr : A.frames = some X.stack) (hs : X.stack = X.env :: X.outer) (hf : X.env.frame = some X.env.locals) (x : Air (FpOk X pins H) a C od .none s.heap)
    (k : ∀ h', Inv X pins σ H { s with heap := h' } → Air (FpOk X pins H) a C od (rawInt X.env.locals) h' → Q () { s with heap := h' }) : wpAny M A (noteFrame (.ref a) X.env) Q E s := by
  obtain ⟨fa, oe, vs, he, hc, hd, hv, q⟩ := x
  have st := I.stack
  rw [hs] at st hfr
  have fin : ∀ (h1 : Heap) (T : Addr) (s1 : Shared), s1.heap.objs.size ≤ T → Inv X pins σ H s1 → Shift (frs (X.env :: X.outer)) [a] s1.heap h1 → h1.get? a = some (oe.mapFields (·.setIfInBounds 1 (.ref T))) →
      (∃ oT ts, h1.get? T = some oT ∧ oT.data = .fields ts ∧ ts[3]? = some (rawInt X.env.locals)) → T ≠ a → 1 < vs.size → Inv X pins σ H { s1 with heap := h1 } ∧ Air (FpOk X pins H) a C od (rawInt X.env.locals) h1 := by
    rintro h1 T s1 hT I1 sh ea ⟨oT, ts, q1, q2, q3⟩ nT sz
    refine ⟨I1.shift (t' := s1.toks) (by rw [hs]; exact sh) (fun b hb => by rw [List.mem_singleton.mp hb]; exact fa), fa, _, _, ea, (Obj.cls_mapFields _ _).trans hc, (dict_mapFields _).trans hd, Obj.data_mapFields hv _, .inr ⟨T, oT, ts, ?_, I1.fpOk hT (I1.hok.fresh hT), nT, q1, q2, q3⟩⟩
    simp [sz]
  unfold noteFrame
  simp only [hf]
  rcases q with ⟨h1, _⟩ | ⟨T, oT, ts, h1, fT, nT, hT, dT, h3⟩
  · have sz : 1 < vs.size := (Array.getElem?_eq_some_iff.mp h1).1
    refine wpAny_bind (wpAny_field he hv h1 ?_)
    rw [if_neg (by decide)]
    exact entry_sh hfr st hf he hv sz fun h' T' q1 q2 q3 q4 q5 => let z := fin h' T' s q1 I q2 q3 q4 q5 sz; k h' z.1 z.2
  · have sz : 1 < vs.size := (Array.getElem?_eq_some_iff.mp h1).1
    refine wpAny_bind (wpAny_field he hv h1 ?_)
    rw [if_pos (show (Value.ref T != Value.none) = true from by simp)]
    refine wpAny_bind (wpAny_field hT dT h3 ?_)
    rw [if_neg (show ¬ ((Value.none == rawInt X.env.locals) = true) from by simp [rawInt])]
    refine wpAny_bind (wpAny_setField hT dT (Array.getElem?_eq_some_iff.mp h3).1 ?_)
    have oth : ∀ b, b ≠ T → (s.heap.update T (Obj.mapFields (·.setIfInBounds 3 Value.none))).get? b = s.heap.get? b := fun b hb => Heap.get?_update_other _ _ (Ne.symm hb)
    have sh0 : Shift (frs X.stack) [T] s.heap (s.heap.update T (Obj.mapFields (·.setIfInBounds 3 Value.none))) :=
      ⟨fun b o _ n e => (oth b (fun z => n (by simp [z]))).trans e, fun b o n e => ⟨o.slots, (oth b (fun z => n (by simp [z]))).trans e⟩⟩
    have I1 := I.shift (t' := s.toks) sh0 (fun b hb => by rw [List.mem_singleton.mp hb]; exact fT)
    have st1 := I1.stack
    rw [hs] at st1
    refine entry_sh (s := { s with heap := s.heap.update T (Obj.mapFields (·.setIfInBounds 3 Value.none)) }) hfr st1 hf ((oth a (Ne.symm nT)).trans he) hv sz fun h' T' q1 q2 q3 q4 q5 => ?_
    obtain ⟨z1, z2⟩ := fin h' T' _ q1 I1 q2 q3 q4 q5 sz
    exact k h' z1 z2
theorem flight_ok {fl : Value} (I : Inv X pins σ H s) (x : Air (FpOk X pins H) a C od fl s.heap) (hfl : fl ≠ .none)
    (k : ∀ h', Inv X pins σ H { s with heap := h' } → Air (FpOk X pins H) a C od .none h' → Q () { s with heap := h' }) : wpAny M A (setFlight (.ref a) none) Q E s := by
  obtain ⟨fa, oe, vs, he, hc, hd, hv, q⟩ := x
  rcases q with ⟨_, z⟩ | ⟨T, oT, ts, h1, fT, nT, hT, dT, h3⟩
  · exact absurd z hfl
  · unfold setFlight
    refine wpAny_bind (wpAny_field he hv h1 ?_)
    rw [if_pos (show (Value.ref T != Value.none) = true from by simp)]
    have z3 : 3 < ts.size := (Array.getElem?_eq_some_iff.mp h3).1
    refine wpAny_setField hT dT z3 ?_
    have oth : ∀ b, b ≠ T → (s.heap.update T (Obj.mapFields (·.setIfInBounds 3 ((none : Option Addr).elim Value.none fun f => rawInt f)))).get? b = s.heap.get? b := fun b hb => Heap.get?_update_other _ _ (Ne.symm hb)
    refine k _ (I.shift (t' := s.toks) (ch := [T]) ⟨fun b o _ n e => (oth b (fun z => n (by simp [z]))).trans e, fun b o n e => ⟨o.slots, (oth b (fun z => n (by simp [z]))).trans e⟩⟩ (fun b hb => by rw [List.mem_singleton.mp hb]; exact fT)) ?_
    refine ⟨fa, oe, vs, (oth a (Ne.symm nT)).trans he, hc, hd, hv, .inr ⟨T, _, _, h1, fT, nT, Heap.get?_update_self _ hT (Obj.isFreed_of_fields (Obj.data_mapFields dT _)), Obj.data_mapFields dT _, ?_⟩⟩
    simp [z3]
theorem flight_any {fl : Value} (I : Inv X pins σ H s) (x : Air (FpOk X pins H) a C od fl s.heap)
    (k : ∀ h', Inv X pins σ H { s with heap := h' } → Air (FpOk X pins H) a C od .none h' → Q () { s with heap := h' }) : wpAny M A (setFlight (.ref a) none) Q E s := by
  by_cases hfl : fl = .none
  · subst hfl
    obtain ⟨fa, oe, vs, he, hc, hd, hv, q⟩ := id x
    rcases q with ⟨h1, _⟩ | ⟨T, oT, ts, h1, fT, nT, hT, dT, h3⟩
    · unfold setFlight
      refine wpAny_bind (wpAny_field he hv h1 ?_)
      rw [if_neg (by decide)]
      exact wpAny_pure (k s.heap I x)
    · unfold setFlight
      refine wpAny_bind (wpAny_field he hv h1 ?_)
      rw [if_pos (show (Value.ref T != Value.none) = true from by simp)]
      have z3 : 3 < ts.size := (Array.getElem?_eq_some_iff.mp h3).1
      refine wpAny_setField hT dT z3 ?_
      have oth : ∀ b, b ≠ T → (s.heap.update T (Obj.mapFields (·.setIfInBounds 3 ((none : Option Addr).elim Value.none fun f => rawInt f)))).get? b = s.heap.get? b := fun b hb => Heap.get?_update_other _ _ (Ne.symm hb)
      refine k _ (I.shift (t' := s.toks) (ch := [T]) ⟨fun b o _ n e => (oth b (fun z => n (by simp [z]))).trans e, fun b o n e => ⟨o.slots, (oth b (fun z => n (by simp [z]))).trans e⟩⟩ (fun b hb => by rw [List.mem_singleton.mp hb]; exact fT)) ?_
      refine ⟨fa, oe, vs, (oth a (Ne.symm nT)).trans he, hc, hd, hv, .inr ⟨T, _, _, h1, fT, nT, Heap.get?_update_self _ hT (Obj.isFreed_of_fields (Obj.data_mapFields dT _)), Obj.data_mapFields dT _, ?_⟩⟩
      simp [z3]
  · exact flight_ok I x hfl k
end
end L2

set_option Elab.async false
set_option linter.all false
set_option maxRecDepth 100000
namespace L2
open PySem PySem.Spec PyProof.Rows TL
/-! ### an exception that leaves a def's body -/
abbrev XKS := St → XK
def XE (X : Cx) (E : XKS) : Value → Shared → Prop := fun e s => ∃ a C od fl pins σ H, e = .ref a ∧ Inv X pins σ H s ∧ Air (FpOk X pins H) a C od fl s.heap ∧ (fl = .none ∨ fl = rawInt X.env.locals) ∧ E σ C od H
/-- a body whose exceptions are wished for by E -/
abbrev Cx.xw (X : Cx) (E : XKS) : Cx := X.wish (XE X E)
section
variable {X : Cx} {pins : List (Addr × Obj)} {σ : St} {H : Hp} {s : Shared} {a : Addr} {C : Value} {od : Option Addr} {fl : Value} {A : Around} {E : Value → Shared → Prop} {M : Model} {Q : Unit → Shared → Prop}
theorem rawInt_ne {n : Nat} : rawInt n ≠ Value.none := by intro z; unfold rawInt at z; cases z
theorem note_any (I : Inv X pins σ H s) (hfr : A.frames = some X.stack) (hs : X.stack = X.env :: X.outer) (hf : X.env.frame = some X.env.locals) (x : Air (FpOk X pins H) a C od fl s.heap) (hfl : fl = .none ∨ fl = rawInt X.env.locals)
    (k : ∀ h', Inv X pins σ H { s with heap := h' } → Air (FpOk X pins H) a C od (rawInt X.env.locals) h' → Q () { s with heap := h' }) : wpAny M A (noteFrame (.ref a) X.env) Q E s := by
  rcases hfl with rfl | rfl
  · exact note_ok I hfr hs hf x k
  · obtain ⟨fa, oe, vs, he, hc, hd, hv, q⟩ := id x
    rcases q with ⟨_, z⟩ | ⟨T, oT, ts, h1, fT, nT, hT, dT, h3⟩
    · exact absurd z rawInt_ne
    · unfold noteFrame
      simp only [hf]
      refine wpAny_bind (wpAny_field he hv h1 ?_)
      rw [if_pos (show (Value.ref T != Value.none) = true from by simp)]
      refine wpAny_bind (wpAny_field hT dT h3 ?_)
      rw [if_pos (show (rawInt X.env.locals == rawInt X.env.locals) = true from by simp)]
      exact wpAny_pure (k s.heap I x)
/-- its mark is set again, as behind a loop -/
theorem back_ok (I : Inv X pins σ H s) (hf : X.env.frame = some X.env.locals) (x : Air (FpOk X pins H) a C od fl s.heap) (hfl : fl ≠ .none)
    (k : ∀ h', Inv X pins σ H { s with heap := h' } → Air (FpOk X pins H) a C od (rawInt X.env.locals) h' → E (.ref a) { s with heap := h' }) : cameBackBy M A X.env E (.ref a) s := by
  obtain ⟨fa, oe, vs, he, hc, hd, hv, q⟩ := x
  rcases q with ⟨_, z⟩ | ⟨T, oT, ts, h1, fT, nT, hT, dT, h3⟩
  · exact absurd z hfl
  · unfold cameBackBy
    refine wpAny_bind (wpAny_field he hv h1 ?_)
    rw [if_neg (show ¬ ((Value.ref T == Value.none) = true) from by simp)]
    unfold setFlight
    refine wpAny_bind (wpAny_field he hv h1 ?_)
    rw [if_pos (show (Value.ref T != Value.none) = true from by simp), hf]
    have z3 : 3 < ts.size := (Array.getElem?_eq_some_iff.mp h3).1
    refine wpAny_setField hT dT z3 ?_
    have oth : ∀ b, b ≠ T → (s.heap.update T (Obj.mapFields (·.setIfInBounds 3 ((some X.env.locals : Option Addr).elim Value.none fun f => rawInt f)))).get? b = s.heap.get? b := fun b hb => Heap.get?_update_other _ _ (Ne.symm hb)
    refine k _ (I.shift (t' := s.toks) (ch := [T]) ⟨fun b o _ n e => (oth b (fun z => n (by simp [z]))).trans e, fun b o n e => ⟨o.slots, (oth b (fun z => n (by simp [z]))).trans e⟩⟩ (fun b hb => by rw [List.mem_singleton.mp hb]; exact fT)) ?_
    refine ⟨fa, oe, vs, (oth a (Ne.symm nT)).trans he, hc, hd, hv, .inr ⟨T, _, _, h1, fT, nT, Heap.get?_update_self _ hT (Obj.isFreed_of_fields (Obj.data_mapFields dT _)), Obj.data_mapFields dT _, ?_⟩⟩
    simp [z3]
theorem leave_any (I : Inv X pins σ H s) (hfr : A.frames = some X.stack) (hs : X.stack = X.env :: X.outer) (hf : X.env.frame = some X.env.locals) (x : Air (FpOk X pins H) a C od fl s.heap) (hfl : fl = .none ∨ fl = rawInt X.env.locals)
    (k : ∀ h', Inv X pins σ H { s with heap := h' } → Air (FpOk X pins H) a C od .none h' → Q () { s with heap := h' }) : wpAny M A (leaving X.env (.ref a)) Q E s := by
  unfold leaving
  exact wpAny_bind (note_any I hfr hs hf x hfl fun h1 I1 x1 => flight_any I1 x1 fun h2 I2 x2 => k h2 I2 x2)
/-- what leaves a loop's body leaves the loop -/
theorem XE.own {E : XKS} (hs : X.stack = X.env :: X.outer := by rfl) (hf : X.env.frame = some X.env.locals := by rfl) : PassesOwn M (X.xw E).A (X.xw E).env (X.xw E).xe := by
  rintro e s ⟨a, C, od, fl, pins, σ, H, rfl, I, x, hfl, q⟩
  show wpAny M X.A (noteFrame (.ref a) X.env) _ _ s
  refine note_any I I.ok.frames hs hf x hfl fun h1 I1 x1 => ?_
  show cameBackBy M X.A X.env (XE X E) (.ref a) _
  exact back_ok (X := X) I1 hf x1 rawInt_ne fun h2 I2 x2 => ⟨a, C, od, _, pins, σ, H, rfl, I2, x2, .inr rfl, q⟩
end
theorem PSs.wishes {X : Cx} {st : List Stmt} {t : TS} {E : Value → Shared → Prop} (h : PSs (X.wish E) st t) (m : ∀ e s, E e s → X.xe e s) : PSs X st t := fun pins s σ H D I hw =>
  wpAny_mono (h pins s σ H D (I.wish _) hw) (fun _ _ q => q.unwish) m
theorem PS.wishes {X : Cx} {st : Stmt} {t : TS} {E : Value → Shared → Prop} (h : PS (X.wish E) st t) (m : ∀ e s, E e s → X.xe e s) : PS X st t := fun pins s σ H D I hw =>
  wpAny_mono (h pins s σ H D (I.wish _) hw) (fun _ _ q => q.unwish) m
/-- what does not raise stands in any context -/
theorem PS.quiet {X : Cx} {st : Stmt} {t : TS} (h : PS X.nox st t) : PS X st t := h.wishes fun _ _ z => z.elim
theorem PE.wishes {X : Cx} {st : Expr} {t : TE} {E : Value → Shared → Prop} (h : PE (X.wish E) st t) (m : ∀ e s, E e s → X.xe e s) : PE X st t := fun pins s σ H Q I hw =>
  wpAny_mono (h pins s σ H Q (I.wish _) hw) (fun _ _ ⟨v, H', I', r, q⟩ => ⟨v, H', I'.unwish, r, q⟩) m
/-! ### how it lies behind a call -/
def CXE (P : Program) (w : World) : CXT := fun outer H s E e s' => ∃ a C od H', e = .ref a ∧ s'.os = s.os ∧ AllBare s'.gens ∧ Un (frs outer) [] H H' s.heap s'.heap ∧ HOk P w H' s'.heap ∧
  Air (fun b => H' b = none ∧ s.heap.objs.size ≤ b) a C od .none s'.heap ∧ E C od H'
section
variable {P : Program} {w : World} {K : PySem.W.Frag} {mg : Str → Option Value} {base : Heap}
theorem leaves_fn {N : List Str} {qual : Str} {scope : Scope} {f : Addr} {cd : Value} {A : Around} {outer : List Env} {s : Shared} {H : Hp} {E : XK} {e : Value} {s1 : Shared}
    (x : XE (cxOf (CXE P w) P w K mg base N qual scope f cd A outer s H E) (fun _ => E) e s1) : (cxOf (CXE P w) P w K mg base N qual scope f cd A outer s H E).xe e s1 := by
  obtain ⟨a, C, od, fl, pins, σ, H1, rfl, I, x, hfl, q⟩ := x
  show wpAny _ _ (leaving _ (.ref a)) _ _ s1
  refine leave_any (X := cxOf (CXE P w) P w K mg base N qual scope f cd A outer s H E) I I.ok.frames rfl rfl x hfl fun h2 I2 x2 => ?_
  refine ⟨a, C, od, H1, rfl, I2.os, I2.bare, I2.base, I2.hok, x2.imp fun b o _ z => ⟨z.1, ?_⟩, q⟩
  rcases z.2.2.2.1 with y | y
  · exact absurd (show b ∈ ([] : List Addr) from y) (by simp)
  · exact y
/-- THE RULE for a def that may raise -/
theorem Fun.okE {x qual : Str} {st : Stmt} {f : Addr} {fd : FuncData} {N ps : List Str} {k : Nat} {sp : Sp} (F : Fun K x qual st f fd) (S : FnScope N ps (defScope st)) (len : ∀ vs H Q E, sp vs H Q E → vs.length = ps.length)
    (hbody : ∀ (cdv : Value) (A : Around) (outer : List Env) (s : Shared) (H : Hp) (vs : List V) (Q : VK) (E : XK), Room k (A.deeper (envOfC qual (defScope st) s.heap.objs.size f cdv)) → sp vs H Q E →
      ∃ t, PSs ((cxOf (CXE P w) P w K mg base N qual (defScope st) f cdv A outer s H E).xw fun _ => E) (defBody st) t ∧ t { nx := fun _ H' => Q .non H', rt := Q } (start N vs) H) : FnOk P w K mg base (CXE P w) (k + 1) f fd ps sp := by
  obtain ⟨oc, od, kV, doc, pm, an, cdv, ct, osl, rfl, lk, hcd⟩ := F.ex
  refine fn_of lk hcd S len fun A outer s H vs Q E hr hsp => ?_
  obtain ⟨t, h, q⟩ := hbody cdv A outer s H vs Q E hr hsp
  exact ⟨t, h.wishes fun e s z => leaves_fn z, q⟩
/-- a def that never raises, seen as one that may -/
theorem FnOk.may {k : Nat} {f : Addr} {fd : FuncData} {ps : List Str} {sp : Sp} (F : FnOk P w K mg base CX0 k f fd ps sp) : FnOk P w K mg base (CXE P w) k f fd ps sp :=
  ⟨F.len, fun A outer s H args us vs Q E hr he hb hv hs => codeAny_mono (F.run A outer s H args us vs Q E hr he hb hv hs) fun r s' z => by
    cases r with
    | error e => exact False.elim z
    | ok fl => cases fl <;> exact z⟩
end
/-! ### calls of a def that may raise -/
section
variable {X : Cx} {j k : Nat} {x : Str} {ps : List Str} {sp : Sp} {p pos : Pos} {e : Expr} {es : List Expr} {t : TA} {E : XKS}
theorem EP.wish {E' : Value → Shared → Prop} {pins : List (Addr × Obj)} {σ : St} {Q : VK} {u : Value} {s' : Shared} (h : EP X pins σ Q u s') : EP (X.wish E') pins σ Q u s' := by
  obtain ⟨v, H', I, r⟩ := h
  exact ⟨v, H', I.wish _, r⟩
end
end L2

set_option Elab.async false
set_option linter.all false
set_option maxRecDepth 100000
namespace L2
open PySem PySem.Spec PyProof.Rows TL PySem.Calls
/-! ### an exception is made -/
section
variable {prog : Program} {w : World} {A : Around} {E : Value → Shared → Prop} {h : Heap} {g : Array GenState} {d : Drawn} {t : Nat} {os : OsState}
variable {nm q : Str} {C N : Addr} {bs bm bmB : List Value} {hdct : Bool} {sn : List Str} {sub : List Value} {ab : Bool} {col : Option Bool} {dd : Option Addr} {k0 k1 k2 k3 k5 : Option Value} {B newId initId : String}
end
section
variable {M : Model} {A : Around} {E : Value → Shared → Prop} {env : Env} {nm q : Str} {C N : Addr} {bs bm : List Value} {hdct : Bool} {sn : List Str} {sub : List Value} {ab : Bool} {col : Option Bool} {dd : Option Addr} {k0 k1 k2 k3 k5 : Option Value} {newId : String}
end
end L2

set_option Elab.async false
set_option linter.all false
set_option maxRecDepth 100000
namespace L2
open PySem PySem.Spec PyProof.Rows TL PySem.Calls Builtin Builtin.ObjectAttr
/-! ### an exception's fields are set -/
section
variable {prog : Program} {w : World} {A : Around} {R : Result → Shared → Prop} {s : Shared} {K : PySem.W.Frag} {x C : Addr} {ox : Obj} {od : Option Obj} {name : Str} {tk : Tok} {v : Value} {cd : ClassData}
end
section
variable {prog : Program} {w : World} {A : Around} {E : Value → Shared → Prop} {s : Shared} {K : PySem.W.Frag} {x C dx : Addr} {ox : Obj} {name : Str} {v : Value} {cd : ClassData} {Q : Unit → Shared → Prop}
end
/-! ### the rules -/
section
variable {X : Cx} {pins : List (Addr × Obj)} {σ : St} {H : Hp} {s : Shared} {a d C : Addr} {o : Obj} {f : Str} {y : V} {u : Value} {Q : Unit → Shared → Prop} {E : Value → Shared → Prop}
end
section
variable {X : Cx} {C : Addr} {e v : Expr} {f : Str} {pos' pos : Pos} {ta tv : TE}
end
end L2

set_option Elab.async false
set_option linter.all false
set_option maxRecDepth 100000
namespace L2
open PySem PySem.Spec PyProof.Rows TL PySem.Calls
/-! ### raise C(..) of a class of one's own whose __init__ sets its fields -/
theorem ns_some_of {K : PySem.W.Frag} {h : Heap} {N : Addr} {mg : Str → Option Value} {n : Str} {v : Value} (X : K.In h) (G : h.Ns N mg) (e : PySem.W.nsIn K N n = some (some v)) : mg n = some v := by
  obtain ⟨o, es, ep, ho, hd, _, hf⟩ := G
  unfold PySem.W.nsIn at e
  split at e
  · rename_i c d es' n' sl q
    have z := X _ _ q
    rw [ho] at z
    cases z
    cases hd
    split at e
    · rename_i he
      cases e
      rw [← hf]
      unfold nsFind findBy
      rw [← Array.find?_toList, he]
      rfl
    · split at e <;> cases e
  · cases e
section
variable {X : Cx} {pins : List (Addr × Obj)} {σ : St} {H : Hp} {s : Shared}
def tRaise (C : Addr) (names : List Str) (E : XKS) (t : TA) : TS := fun D σ H => t σ H fun ws H1 => ws.length = names.length ∧ ∀ d, H1 d = none → E σ (.ref C) (some d) (upd H1 d (.xd (names.zip ws)))
end
end L2

set_option Elab.async false
set_option linter.all false
set_option maxRecDepth 100000
namespace L2
open PySem PySem.Spec PyProof.Rows TL PySem.Calls
/-! ### which exceptions an except clause takes -/
/-- classes of one's own that may stand in an except clause -/
def xcIn (K : PySem.W.Frag) (c : Addr) : Bool := (PySem.W.clsIn K c).isSome && PySem.W.typeIn K (.ref c) == some (.type "type") && PySem.W.mroIn K c (.type "BaseException") == some true
def hitIn (K : PySem.W.Frag) (C : Addr) : List Addr → Option Bool
  | [] => some false
  | c :: r => match PySem.W.mroIn K C (.ref c) with
    | some true => some true
    | some false => hitIn K C r
    | none => none
section
variable {K : PySem.W.Frag} {M : Model} {h : Heap} {a C : Addr} {cs : List Addr}
end
/-! ### try .. except .. as n -/
/-- an exception that was caught: its class, its dict -/
abbrev XO (a : Addr) (C : Value) (od : Option Addr) : HO := .ext fun h => ∃ oe vs, h.get? a = some oe ∧ oe.cls = C ∧ oe.dict = od ∧ oe.data = .fields vs
theorem xo_of {P : Program} {w : World} {H : Hp} {h : Heap} {a : Addr} {C : Value} {od : Option Addr} (x : ObjOk P w H h a (XO a C od)) : ∃ oe vs, h.get? a = some oe ∧ oe.cls = C ∧ oe.dict = od ∧ oe.data = .fields vs := x.1
section
variable {X : Cx} {pins pl : List (Addr × Obj)} {σ : St} {H : Hp} {s : Shared} {a : Addr}
end
/-- what the clause's expression may be: a class, a tuple of classes; the exception's class is taken -/
def Hits (K : PySem.W.Frag) (H : Hp) (C : Addr) (c : V) : Prop := (∃ b, c = .ref b ∧ xcIn K b = true ∧ hitIn K C [b] = some true) ∨ ∃ p cs, c = .ref p ∧ H p = some (.tup (cs.map V.ref)) ∧ (∀ b ∈ cs, xcIn K b = true) ∧ hitIn K C cs = some true
def Ends.unn (D : Ends) (i : Nat) : Ends := { nx := fun σ H => D.nx (σ.set i none) H, rt := D.rt, bk := fun σ H => D.bk (σ.set i none) H, ct := fun σ H => D.ct (σ.set i none) H }
def tHand (K : PySem.W.Frag) (te : TE) (i : Nat) (tsu : TS) (D : Ends) : XKS := fun σ C od H => ∃ Ca, C = .ref Ca ∧ te σ H fun c H1 => Hits K H1 Ca c ∧ ∀ a, H1 a = none → tsu (D.unn i) (σ.set i (some (.ref a))) (upd H1 a (XO a C od))
def tTry (K : PySem.W.Frag) (tb : XKS → TS) (te : TE) (i : Nat) (tsu : TS) : TS := fun D σ H => tb (tHand K te i tsu D) D σ H
section
variable {X : Cx} {i : Nat} {n : Str} {te : Expr} {tte : TE} {tb : XKS → TS} {tsu : TS} {body suite : List Stmt} {b0 : Stmt} {hpos pos : Pos}
end
end L2

set_option Elab.async false
set_option linter.all false
set_option maxRecDepth 100000
set_option maxHeartbeats 400000
namespace L2
open PySem PySem.Spec PyProof.Rows TL PySem.Calls
/-! ### an exception's attribute is read -/
section
variable {prog : Program} {w : World} {A : Around} {E : Value → Shared → Prop} {s : Shared} {K : PySem.W.Frag} {x C : Addr} {ox : Obj} {od : Option Obj} {name : Str} {expr fill : Bool} {Q : Value → Shared → Prop}
/-- what the class must have for its instances' attributes to be read -/
def xgetIn (K : PySem.W.Frag) (C : Addr) : Bool := PySem.W.findIn K (.ref C) "__getattribute__" == some (some (.builtin "BaseException.__getattribute__")) && PySem.W.findIn K (.ref C) "__getattr__" == some none && PySem.W.mroIn K C (.type "BaseException") == some true
theorem getx_by (X : K.In s.heap) (I : PySem.W.InstAt s.heap x ox C od) (hg : xgetIn K C = true) {tk : Tok} {fin : Value}
    (h : wpAny (model prog w) A.in1 (Builtin.«object.__getattribute__» ⟨[.ref x, .str name tk], []⟩) (fun f s' => match f with | .done (.ret v) => wpAny (model prog w) A (handedOut v) Q E s' | _ => False) (fun _ _ => False) s) :
    wpAny (model prog w) A (getAttrBy (.ref x) (.str name tk) fill expr) Q E s := by
  simp only [xgetIn, Bool.and_eq_true, beq_iff_eq] at hg
  obtain ⟨⟨h1, h2⟩, h3⟩ := hg
  obtain ⟨hh, g, d, t, os⟩ := s
  have L0 := I.type (M := model prog w)
  have L1 := PySem.W.looks_findIn (M := model prog w) X h1
  have L2 := PySem.W.looks_findIn (M := model prog w) X h2
  have L3 : PySem.W.Looks (model prog w) hh (isInstance (.ref x) (.type "BaseException")) true := L0.andThen (PySem.W.looks_mroIn X h3)
  have hx2 : (Value.builtin "BaseException.__getattribute__" == Value.builtin "object.__getattribute__") = false := by decide +kernel
  have hx0 : (expr && onTheHeap (Value.builtin "BaseException.__getattribute__")) = false := by cases expr <;> rfl
  unfold getAttrBy
  refine wpAny_holding (wpAny_bind (L0.at (wpAny_bind (L1.at ?_))))
  show wpAny _ _ (if (onTheHeap (Value.ref C) && Value.builtin "BaseException.__getattribute__" == Value.builtin "object.__getattribute__") = true then _ else _) _ _ _
  rw [hx2, Bool.and_false, if_neg (by decide)]
  unfold getAttrByItsOwn hookBefore
  refine wpAny_bind ?_
  rw [if_pos (show onTheHeap (Value.ref C) = true from rfl)]
  refine L2.at ?_
  refine wpAny_bind (wpAny_attempt (wpAny_holding ?_))
  unfold callGetattribute
  rw [hx0, if_neg (by decide)]
  unfold boundAndCalled
  refine wpAny_bind ?_
  rw [F.excAttr_ValueError.ga.bind (.ref x)]
  refine wpAny_pure ?_
  have hk : builtinKind "BaseException.__getattribute__" = some .slot := by decide +kernel
  have hsplit : splitId "BaseException.__getattribute__" = some ("BaseException", "__getattribute__") := by decide +kernel
  refine wpAny_call ?_
  show codeAny (model prog w) A (.call (.builtin "BaseException.__getattribute__") ⟨[.ref x, .str name tk], []⟩) _ _
  refine codeAny_call_builtin F.excAttr_ValueError.ga.plain F.entry_bexc_ga (@PySem.W.check_slot (model prog w) _ _ _ "BaseException.__getattribute__" "BaseException" "__getattribute__" (.ref x) [.str name tk] [] _ hk hsplit L3 (F.args_bexc_ga (.ref x) (.str name tk)) ?_)
  refine wpAny_mono h (fun f s' z => ?_) fun e s' z => z.elim
  cases f with
  | done f =>
    cases f with
    | ret v => exact z
    | next => exact False.elim z
    | brk => exact False.elim z
    | cont => exact False.elim z
  | again c => exact False.elim z
/-- what the class must have for isinstance of its instances -/
def xisiIn (K : PySem.W.Frag) (C : Addr) : Bool := PySem.W.hasDictIn K C && PySem.W.findIn K (.ref C) "__class__" == some (some (.builtin "object.__class__")) && PySem.W.specialIn K (.builtin "object.__class__") "__get__" == some (some (.builtin "getset_descriptor.__get__")) &&
  PySem.W.takesIn K (.builtin "object.__class__") == some true && PySem.W.mroIn K C (.type "object") == some true
theorem getx_class {od : Obj} {Q : Option Value → Shared → Prop} (X : K.In s.heap) (I : PySem.W.InstAt s.heap x ox C (some od)) (hg : xgetIn K C = true) (hi : xisiIn K C = true) (h : Q (some (.ref C)) { s with toks := s.toks + 1 }) :
    wpAny (model prog w) A (getAttr? (.ref x) "__class__") Q E s := by
  simp only [xisiIn, Bool.and_eq_true, beq_iff_eq] at hi
  obtain ⟨⟨⟨⟨h1, h2⟩, h3⟩, h4⟩, h5⟩ := hi
  have hf : PySem.W.findObj K C (some od) "__class__" = some (.bind (.builtin "getset_descriptor.__get__") (.builtin "object.__class__")) := PySem.W.findObj_data (by obtain ⟨cd, hc, _⟩ := PySem.W.any_some h1; rw [hc]; rfl) h2 h3 h4
  obtain ⟨hh', g, d, t, os⟩ := s
  have L0 := I.type (M := model prog w)
  have L1 := PySem.W.looks_find (M := model prog w) X I hf
  unfold getAttr?
  refine wpAny_bind (wpAny_mkText ?_)
  unfold getAttrBy?
  refine wpAny_bind (wpAny_attempt ?_)
  refine getx_by (fin := .none) (s := ⟨hh', g, d, t + 1, os⟩) X I hg ?_
  unfold Builtin.«object.__getattribute__»
  refine wpAny_bind (wpAny_pure (wpAny_bind (wpAny_pure (wpAny_bind (L0.at (wpAny_bind (L1.at ?_)))))))
  show wpAny _ _ (holding [_] (call _ [_, .ref x, .ref C]) >>= ret) _ _ _
  refine wpAny_bind (wpAny_holding (wpAny_call (PySem.W.class_get (s := ⟨hh', g, d, t + 1, os⟩) (ox := ox) (od := some od) X I h5 ?_)))
  refine wpAny_pure ?_
  show wpAny _ _ (handedOut (.ref C)) _ _ _
  rw [PySem.W.handedOut_of rfl]
  exact wpAny_pure (wpAny_pure h)
end
theorem kitx_exc {K : PySem.W.Frag} {x C : Addr} {ox od : Obj} (hg : xgetIn K C = true) (hi : xisiIn K C = true) : PySem.W.KitX K (.ref x) (.ref C) (fun h => PySem.W.InstAt h x ox C (some od)) where
  ty := fun _ _ _ I => I.type
  it := fun _ _ X _ => by
    simp only [xisiIn, Bool.and_eq_true, beq_iff_eq] at hi
    obtain ⟨cdD, hcD, _⟩ := PySem.W.any_some hi.1.1.1.1
    unfold PySem.W.clsIn at hcD
    split at hcD
    · rename_i c' d' cd' sl' ho
      intro A' Q' E' s' k q
      unfold isType loadHead
      exact wpAny_bind (wpAny_loadPart (k _ _ (X _ _ ho)) (wpAny_pure q))
    · cases hcD
  ne := fun h tp dd its n sl X htp => by
    simp only [xisiIn, Bool.and_eq_true, beq_iff_eq] at hi
    obtain ⟨cdD, hcD, _⟩ := PySem.W.any_some hi.1.1.1.1
    refine Bool.eq_false_iff.mpr fun q => ?_
    have e : C = tp := Value.ref.inj (beq_iff_eq.mp q)
    subst e
    unfold PySem.W.clsIn at hcD
    split at hcD
    · rename_i c' d' cd' sl' ho
      have z := (X _ _ ho).symm.trans htp
      cases z
    · cases hcD
  ca := fun X I k => getx_class X I hg hi k
/-! ### the rules -/
/-- an exception's class, as far as its instances are asked -/
def xcls (K : PySem.W.Frag) (C : Addr) : Bool := xgetIn K C && xisiIn K C
section
variable {X : Cx} {pins : List (Addr × Obj)} {σ : St} {H : Hp} {s : Shared} {a d C : Addr} {fs : List (Str × V)} {f : Str} {v : V}
theorem xo_inst (I : Inv X pins σ H s) (ha : H a = some (XO a (.ref C) (some d))) (hd : H d = some (.xd fs)) : ∃ (oe od : Obj) (mA : Str → Option Value), PySem.W.InstAt s.heap a oe C (some od) ∧ (∀ name, PySem.W.lookIn name od = some (mA name)) ∧ ∀ f, RelO (fs.lookup f) (mA f) := by
  obtain ⟨oe, vs, h1, h2, h3, h4⟩ := xo_of (I.hok a _ ha)
  obtain ⟨mA, hn, hr⟩ := (show ObjOk X.prog X.w H s.heap d (.xd fs) from I.hok d _ hd)
  obtain ⟨od, ho, hl⟩ := lookIn_ns hn
  exact ⟨oe, od, mA, ⟨h1, h2, (by obtain ⟨c, di, da, sl⟩ := oe; cases h4; rfl), (by rw [h3]; exact ho)⟩, hl, hr⟩
end
/-- e.f of an exception that was caught -/
def tXF (K : PySem.W.Frag) (ta : TE) (f : Str) : TE := fun σ H Q => ta σ H fun x H1 => ∃ a C d fs v, x = .ref a ∧ H1 a = some (XO a (.ref C) (some d)) ∧ H1 d = some (.xd fs) ∧ xcls K C = true ∧ PySem.W.findIn K (.ref C) f = some none ∧ fs.lookup f = some v ∧ Q v H1
/-- what a class may be in isinstance: a built-in's name, an own class -/
def clsV : V → Option Value
  | .ty n => some (.type n)
  | .ref a => some (.ref a)
  | _ => none
theorem cls_rel {x : V} {u t : Value} (e : clsV x = some t) (r : RelV x u) : u = t := by
  cases x <;> first | cases e | skip
  · cases (show u = _ from r); rfl
  · cases (show u = _ from r); rfl
/-- the kinds of what isinstance is asked of: also exceptions that were caught -/
inductive TyX (K : PySem.W.Frag) (H : Hp) : V → Value → Prop where
  | of {x : V} {t : Value} (h : TyOf K H x t) : TyX K H x t
  | exc {a C d : Addr} {fs : List (Str × V)} (h1 : H a = some (XO a (.ref C) (some d))) (h2 : H d = some (.xd fs)) (h3 : xcls K C = true) : TyX K H (.ref a) (.ref C)
def rIsX (K : PySem.W.Frag) : List V → Hp → VK → Prop := fun xs H Q => ∃ x c t c' b, xs = [x, c] ∧ TyX K H x t ∧ clsV c = some c' ∧ PySem.W.kitOne K t c' = some b ∧ Q (.bl b) H
theorem call_isX {X : Cx} : CallR X (.builtin "isinstance") (rIsX X.K) := by
  intro pins s σ H xs us Q I r h
  obtain ⟨x, c, t, c', b, rfl, ty, ec, e, q⟩ := h
  obtain ⟨u, v, rfl, rx, rv⟩ := Vals.two r
  cases cls_rel ec rv
  cases ty with
  | of ty => exact isinst_ok I rx ty e fun tk => ⟨.bl b, H, I.tok tk, rfl, q⟩
  | @exc a C d fs h1 h2 h3 =>
    cases (show u = Value.ref a from rx)
    obtain ⟨oe, od, mA, J, _⟩ := xo_inst I h1 h2
    have hc' : xgetIn X.K C = true ∧ xisiIn X.K C = true := by simpa [xcls] using h3
    exact PySem.W.kia_one (kitx_exc hc'.1 hc'.2) I.kIn J e (fun z => nomatch z) fun tk => ⟨.bl b, H, I.tok tk, rfl, q⟩
def rIsXT (K : PySem.W.Frag) : List V → Hp → VK → Prop := fun xs H Q => ∃ x tp t cs ts b, xs = [x, .ref tp] ∧ H tp = some (.tup cs) ∧ TyX K H x t ∧ cs.mapM clsV = some ts ∧ PySem.W.kitAny K t ts = some b ∧ Q (.bl b) H
/-! ### repr of data -/
def rRepr (K : PySem.W.Frag) : List V → Hp → VK → Prop := fun xs H Q => ∃ (a : Addr) (d : PyData), xs = [.ref a] ∧ Dp K H (.ref a) d ∧ d.showable = true ∧ d.hasDict = false ∧ d.depth ≤ 60 ∧ d.shown.length ≤ sizeLine ∧ Q (.str d.shown) H
end L2

set_option Elab.async false
set_option linter.all false
set_option maxRecDepth 100000
set_option maxHeartbeats 400000
namespace L2
open PySem PySem.Spec PyProof.Rows TL PySem.Calls
/-! ### a def that may raise, called in many forms -/
structure CalleeXD (P : Program) (w : World) (K : PySem.W.Frag) (mg : Str → Option Value) (base : Heap) (k : Nat) (x : Str) (ps : List Str) (sp : Sp) (dvs : List V) (fs : List Form) : Prop where
  ex : ∃ (f : Addr) (fd : FuncData) (dus : List Value), FnOk P w K mg base (CXE P w) k f fd ps sp ∧ mg x = some (.ref f) ∧ PySem.W.keepIn K (.ref f) = true ∧ Vals dvs dus ∧ AllF K fd ps dus fs ∧ ps ≠ []
section
variable {X : Cx} {j k : Nat} {x : Str} {ps : List Str} {sp : Sp} {dvs : List V} {fs : List Form} {F : Form} {p pos : Pos} {e : Expr} {es : List Expr} {t tk : TA} {kws : List Keyword} {E : XKS}
def tCallXD (sp : Sp) (gV : List V → List V → List V) (E : XKS) (t tk : TA) : TE := fun σ H Q => t σ H fun vs H1 => tk σ H1 fun zs H2 => sp (gV vs zs) H2 Q (E σ)
def tCallXD0 (sp : Sp) (gV : List V → List V → List V) (E : XKS) (tk : TA) : TE := fun σ H Q => tk σ H fun zs H2 => sp (gV [] zs) H2 Q (E σ)
end
/-- the same where nothing is wished of exceptions: a call that is known not to raise -/
theorem CalleeXD.calm {P : Program} {w : World} {K : PySem.W.Frag} {mg : Str → Option Value} {base : Heap} {k : Nat} {x : Str} {ps : List Str} {sp : Sp} {dvs : List V} {fs : List Form} (C : CalleeXD P w K mg base k x ps sp dvs fs) :
    CalleeD P w K mg base k x ps (fun vs H Q _ => sp vs H Q E0) dvs fs := by
  obtain ⟨f, fd, dus, FF, r⟩ := C.ex
  refine ⟨f, fd, dus, ⟨fun vs H Q E h => FF.len vs H Q _ h, fun A outer s H args us vs Q E hr he hb hv hs => codeAny_mono (FF.run A outer s H args us vs Q E0 hr he hb hv hs) fun r s' z => ?_⟩, r⟩
  cases r with
  | error e => obtain ⟨a, C, od, H', _, _, _, _, _, _, q⟩ := z; exact q.elim
  | ok fl => cases fl <;> exact z
/-! ### classes of refusals: their __init__ -/
def clsBody : Stmt → List Stmt
  | .ClassDef _ _ _ b _ _ _ _ _ _ _ => b
  | _ => []
def clsFn (s : Stmt) (i : Nat) : Stmt := (clsBody s).getD i (.Pass ⟨0, 0, 0, 0⟩)
/-! ### what is taken -/
/-! ### how long data is when it is shown -/
end L2

set_option Elab.async false
set_option linter.all false
set_option maxRecDepth 100000
set_option maxHeartbeats 400000
namespace L2
open PySem PySem.Spec PyProof.Rows TL PySem.Calls
/-! ### range(a, b) as a value, list of it -/
section
variable {X : Cx}
theorem call_range1v : CallR X (.type "range") (fun xs H Q => ∃ hi, xs = [.int hi] ∧ ∀ p, H p = none → Q (.ref p) (upd H p (.rng 0 hi))) := by
  intro pins s σ H xs us Q I r h
  obtain ⟨hi, rfl, q⟩ := h
  obtain ⟨u, rfl, ru⟩ := vals1 r
  obtain ⟨t, rfl⟩ := ru
  refine call_range_1 ?_
  exact ⟨.ref s.heap.objs.size, _, I.laid (t' := s.toks + 1 + 1) (fun b o e => Heap.get?_push_of_some _ e) (Nat.le_refl _) (show ObjOk X.prog X.w _ _ _ (.rng 0 hi) from ⟨s.toks, t, s.toks + 1, Heap.get?_push_size _ rfl⟩), rfl, q _ I.fresh⟩
end
/-! ### str of a refusal, by its own __str__ -/
/-! ### the pen: a dict of cells, at, left -/
abbrev kt (x : Str) : Key := Sum.inr x
structure PenAt (n : Nat) (t l : Addr) (H : Hp) : Prop where
  ex : ∃ (cells : List Int) (at' left : Int), H t = some (.dK [(kt "cells", .ref l), (kt "at", .int at'), (kt "left", .int left)]) ∧ H l = some (.lst (cells.map V.int)) ∧ cells.length ≤ 63 ∧ 0 ≤ at' ∧ at' ≤ n ∧ 0 ≤ left
section
variable {n m : Nat} {t l p : Addr} {H H' : Hp} {o : HO}
theorem PenAt.new (T : PenAt n t l H) (h : H p = none) : PenAt n t l (upd H p o) := by
  obtain ⟨cells, turn, rest, h1, h2, r⟩ := T.ex
  exact ⟨cells, turn, rest, by rw [upd_ne (ne_of_none h1 h)]; exact h1, by rw [upd_ne (ne_of_none h2 h)]; exact h2, r⟩
theorem PenAt.mono (T : PenAt n t l H) (h : n ≤ m) : PenAt m t l H := by
  obtain ⟨cells, turn, rest, h1, h2, h3, h4, h5, h6⟩ := T.ex
  exact ⟨cells, turn, rest, h1, h2, h3, h4, by omega, h6⟩
theorem PenAt.same (T : PenAt n t l H) (s : Same H H') : PenAt n t l H' := by
  obtain ⟨cells, turn, rest, h1, h2, r⟩ := T.ex
  exact ⟨cells, turn, rest, s _ _ h1, s _ _ h2, r⟩
end
def spPen (K : PySem.W.Frag) : Sp := fun vs H Q _ => ∃ (a : Addr) (ns : List Int), vs = [.ref a] ∧ SqL K H a (ns.map V.int) ∧ ns.length ≤ 63 ∧
  ∀ (t l : Addr) (H' : Hp), PenAt 0 t l H' → H t = none → H l = none → Same H H' → Q (.ref t) H'
def spDrawP : Sp := fun vs H Q _ => ∃ (t l : Addr) (n : Nat) (many : Int), vs = [.ref t, .int many] ∧ PenAt n t l H ∧ n < 100000 ∧ 0 < many ∧ many ≤ 1000000 ∧
  ∀ (r : Int) (H' : Hp), 0 ≤ r → r < many → PenAt (n + 1) t l H' → Keep t H H' → Q (.int r) H'
end L2

set_option Elab.async false
set_option linter.all false
set_option maxRecDepth 100000
set_option maxHeartbeats 400000
namespace L2
open PySem PySem.Spec PyProof.Rows TL PySem.Calls
/-! ### a cut: what holds behind a statement, said once -/
def tSeqC (t u : TS) : TS := fun D σ H => ∃ R : St → Hp → Prop, t { D with nx := R } σ H ∧ ∀ σ' H', R σ' H' → u D σ' H'
theorem pss_consC {X : Cx} {st : Stmt} {rest : List Stmt} {t u : TS} (h1 : PS X st t) (h2 : PSs X rest u) : PSs X (st :: rest) (tSeqC t u) := by
  intro pins s σ H D I h
  obtain ⟨R, h, k⟩ := h
  refine wpAny_execs_cons (thn (h1 pins s σ H { D with nx := R } I h) fun f s1 q => ?_)
  cases f with
  | next =>
    obtain ⟨σ', H', I', q⟩ := q
    exact h2 pins s1 σ' H' D I' (k _ _ q)
  | ret v => exact q
  | brk => exact q
  | cont => exact q
/-! ### data that lies in the heap -/
/-- data keeps where a dict alone is written -/
theorem dp_keep {K : PySem.W.Frag} {H H' : Hp} {t : Addr} {kvs : List (Key × V)} (k : Keep t H H') (ht : H t = some (.dK kvs)) : ∀ {x : V} {d : PyData}, Dp K H x d → Dp K H' x d := by
  have sl : ∀ {a xs}, SqL K H a xs → SqL K H' a xs := fun {a xs} h => by
    rcases h with (h | h) | h
    · exact .inl (.inl (k _ _ h (ne_of h ht (by intro z; cases z))))
    · obtain ⟨o, h⟩ := h
      exact .inl (.inr ⟨o, k _ _ h (ne_of h ht (by intro z; cases z))⟩)
    · exact .inr h
  have st : ∀ {a xs}, SqT K H a xs → SqT K H' a xs := fun {a xs} h => by
    rcases h with (h | h) | h
    · exact .inl (.inl (k _ _ h (ne_of h ht (by intro z; cases z))))
    · obtain ⟨o, h⟩ := h
      exact .inl (.inr ⟨o, k _ _ h (ne_of h ht (by intro z; cases z))⟩)
    · exact .inr h
  intro x d h
  induction h using Dp.rec (motive_2 := fun xs ds _ => DpAll K H' xs ds) with
  | non => exact .non
  | bl b => exact .bl b
  | int i => exact .int i
  | str x => exact .str x
  | lst h1 _ ih => exact .lst (sl h1) ih
  | tup h1 _ ih => exact .tup (st h1) ih
  | nil => exact .nil
  | cons _ _ ih1 ih2 => exact .cons ih1 ih2
theorem PenAt.keep {K : PySem.W.Frag} {H H' : Hp} {n : Nat} {t l : Addr} {x : V} {d : PyData} (T : PenAt n t l H) (k : Keep t H H') (h : Dp K H x d) : Dp K H' x d := by
  obtain ⟨_, _, _, h1, _⟩ := T.ex
  exact dp_keep k h1 h
mutual
theorem short_of : ∀ d : PyData, d.showable = true → d.canLay0 = true → d.leavesShort 2000 = true
  | .none, _, _ => rfl
  | .bool _, _, _ => rfl
  | .int i, h, _ => by
    have h' : i.natAbs.log2 < 1920 := by simpa [PyData.showable] using h
    have := int_text_len_1921 h'
    simp only [PyData.leavesShort, PyData.shown, decide_eq_true_eq]
    exact decide_eq_true (Nat.le_trans this (by show 1921 ≤ 2000; decide))
  | .str x, _, h => by
    have h' : PyData.strOk x = true := by simpa [PyData.canLay0] using h
    rw [strOk_iff] at h'
    simp only [PyData.leavesShort, List.all_eq_true, decide_eq_true_eq]
    intro c hc
    have := h' c hc
    exact Nat.lt_trans this (by decide)
  | .list xs, h, h2 => by simpa [PyData.leavesShort] using shortAll_of xs (by simpa [PyData.showable] using h) (by simpa [PyData.canLay0] using h2)
  | .tuple xs, h, h2 => by simpa [PyData.leavesShort] using shortAll_of xs (by simpa [PyData.showable] using h) (by simpa [PyData.canLay0] using h2)
  | .dict _, _, h => by simp [PyData.canLay0] at h
theorem shortAll_of : ∀ xs : List PyData, PyData.showableAll xs = true → PyData.canLayAll0 xs = true → PyData.leavesShortAll 2000 xs = true
  | [], _, _ => rfl
  | x :: xs, h, h2 => by
    have h' : x.showable = true ∧ PyData.showableAll xs = true := by simpa [PyData.showableAll] using h
    have h2' : x.canLay0 = true ∧ PyData.canLayAll0 xs = true := by simpa [PyData.canLayAll0] using h2
    simp [PyData.leavesShortAll, short_of x h'.1 h2'.1, shortAll_of xs h'.2 h2'.2]
end
end L2

set_option Elab.async false
set_option linter.all false
set_option maxRecDepth 100000
set_option maxHeartbeats 400000
namespace L2
open PySem PySem.Spec PyProof.Rows TL PySem.Calls
/-! ### x in a list of data -/
open Classical in
def rInD (K : PySem.W.Frag) (neg : Bool) : R2 := fun x y H Q => ∃ p xs d ds, y = .ref p ∧ (SqL K H p xs ∨ SqT K H p xs) ∧ Dp K H x d ∧ DpAll K H xs ds ∧ d.canLay0 = true ∧ PyData.canLayAll0 ds = true ∧ d.depth ≤ 60 ∧ Q (.bl (if neg then !(ds.any fun e => PyData.eqv e d) else ds.any fun e => PyData.eqv e d)) H
/-! ### data keeps where a new thing is written -/
theorem sqL_map {K : PySem.W.Frag} {H H' : Hp} (f : ∀ b o, H b = some o → H' b = some o) {a : Addr} {xs : List V} (h : SqL K H a xs) : SqL K H' a xs := by
  rcases h with (h | h) | h
  · exact .inl (.inl (f _ _ h))
  · obtain ⟨o, h⟩ := h
    exact .inl (.inr ⟨o, f _ _ h⟩)
  · exact .inr h
mutual
def noList : PyData → Bool
  | .list _ => false
  | .dict _ => false
  | .tuple xs => noLists xs
  | _ => true
def noLists : List PyData → Bool
  | [] => true
  | x :: r => noList x && noLists r
end
mutual
/-- data of tuples alone keeps where a list is written -/
theorem dp_keepT {K : PySem.W.Frag} {H H' : Hp} {t : Addr} {zs : List V} (k : Keep t H H') (ht : H t = some (.lst zs)) : ∀ (d : PyData) {x : V}, noList d = true → Dp K H x d → Dp K H' x d
  | .none, _, _, h => by cases h; exact .non
  | .bool b, _, _, h => by cases h; exact .bl b
  | .int i, _, _, h => by cases h; exact .int i
  | .str x, _, _, h => by cases h; exact .str x
  | .list _, _, n, _ => by simp [noList] at n
  | .dict _, _, n, _ => by simp [noList] at n
  | .tuple ds, x, n, h => by
    cases h with
    | tup h1 h2 =>
      refine .tup ?_ (dpAll_keepT k ht ds (by simpa [noList] using n) h2)
      rcases h1 with (h | h) | h
      · exact .inl (.inl (k _ _ h (ne_of h ht (by intro z; cases z))))
      · obtain ⟨o, h⟩ := h
        exact .inl (.inr ⟨o, k _ _ h (ne_of h ht (by intro z; cases z))⟩)
      · exact .inr h
theorem dpAll_keepT {K : PySem.W.Frag} {H H' : Hp} {t : Addr} {zs : List V} (k : Keep t H H') (ht : H t = some (.lst zs)) : ∀ (ds : List PyData) {xs : List V}, noLists ds = true → DpAll K H xs ds → DpAll K H' xs ds
  | [], _, _, h => by cases h; exact .nil
  | d :: r, _, n, h => by
    have n' : noList d = true ∧ noLists r = true := by simpa [noLists] using n
    cases h with
    | cons a b => exact .cons (dp_keepT k ht d n'.1 a) (dpAll_keepT k ht r n'.2 b)
end
end L2

set_option Elab.async false
set_option linter.all false
set_option maxRecDepth 100000
set_option maxHeartbeats 1000000
namespace L2
open PySem PySem.Spec PyProof.Rows TL PySem.Calls Builtin Float
/-! ### four figures of sixteen -/
def figs16 : List Nat := [48, 49, 50, 51, 52, 53, 54, 55, 56, 57, 97, 98, 99, 100, 101, 102]
section
variable {X : Cx}
end
/-! ### marks read -/
def hstep (m : Nat) (c : Nat) : Nat := m * 16 + figs16.idxOf c
def hv (l : List Nat) : Nat := l.foldl hstep 0
/-! ### long rows of arguments: one step, told by the kind of the first -/
section
variable {es xs : List Expr} {env : Env} {p : Pos} {k : Nat}
end
/-! ### long displays: kept within structures, lest they be run while they are read -/
structure PAw (X : Cx) (es : List Expr) (t : TA) : Prop where
  h : PA X es t
structure PEw (X : Cx) (e : Expr) (t : TE) : Prop where
  h : PE X e t
theorem pw_nil {X : Cx} : PAw X [] tNil := ⟨pa_nil⟩
theorem pw_cons {X : Cx} {e : Expr} {es : List Expr} {te : TE} {t : TA} (ha : PEw X e te) (hr : PAw X es t) (hs : ∀ es, starEach (e :: es) X.env = (false, eval e X.env) :: starEach es X.env) : PAw X (e :: es) (tCons te t) := ⟨pa_cons ha.h hr.h (hs es)⟩
theorem w_int {X : Cx} {i : Int} {j} {pos : Pos} : PEw X (.Constant (.int i) j pos) (tC (.int i)) := ⟨pe_int⟩
theorem w_list {X : Cx} {es : List Expr} {t : TA} {pos : Pos} (h : PAw X es t) : PEw X (.List es pos) (tLst t) := ⟨pe_lst h.h⟩
structure PSw (X : Cx) (st : Stmt) (t : TS) : Prop where
  h : PS X st t
structure PSsw (X : Cx) (sts : List Stmt) (t : TS) : Prop where
  h : PSs X sts t
theorem pssw_cons {X : Cx} {st : Stmt} {rest : List Stmt} {t u : TS} (h1 : PSw X st t) (h2 : PSs X rest u) : PSsw X (st :: rest) (tSeq t u) := ⟨pss_cons h1.h h2⟩
theorem pss_consT' {X : Cx} {st : Stmt} {rest : List Stmt} {t u : TS} (h1 : PS X st t) (h2 : PSsw X rest u) : PSs X (st :: rest) (tSeq t u) := pss_cons h1 h2.h
end L2

set_option Elab.async false
set_option linter.all false
set_option maxRecDepth 100000
set_option maxHeartbeats 400000
namespace L2
open PySem PySem.Spec PyProof.Rows TL PySem.Calls
/-! ### a or b, a a text; lstrip of signs; a comprehension over enumerate -/
section
variable {X : Cx}
end
end L2

set_option Elab.async false
set_option linter.all false
set_option maxRecDepth 100000
set_option maxHeartbeats 1000000
namespace L2
open PySem PySem.Spec PyProof.Rows TL
/-! ### money read -/
def dv (z : Str) : Nat := NumText.digitsVal (tl z)
end L2

set_option Elab.async false
set_option linter.all false
set_option maxRecDepth 100000
set_option maxHeartbeats 1000000
namespace L2
open PySem PySem.Spec PyProof.Rows TL
/-! ### own instances: a class whose __init__ sets its fields, one for each argument -/
/-- C(e, ..) -/
def tNew (C : Addr) (fs : List Str) (t : TA) : TE := fun σ H Q => t σ H fun vs H1 => vs.length = fs.length ∧ ∀ a dx, H1 a = none → H1 dx = none → dx ≠ a → Q (.ref a) (upd (upd H1 dx (.own a)) a (.ins C dx (fs.zip vs)))
section
variable {X : Cx} {j k : Nat} {x : Str} {C : Addr} {fs : List Str} {p pos : Pos} {e : Expr} {es : List Expr} {t : TA}
end
end L2

set_option Elab.async false
set_option linter.all false
set_option maxRecDepth 100000
set_option maxHeartbeats 1000000
namespace L2
open PySem PySem.Spec PyProof.Rows TL
/-! ### a comprehension over a range with a step; min of three -/
theorem RgC.up {m z : Int} {n : Nat} (hz : 1 ≤ z) (hz' : z < 1000000) (hm : 0 ≤ m) (hm' : m < 1000000000) (hn : (m + z - 1) / z = n) : RgC 0 m z n := by
  have e := PyProof.Rows.rangeSize_pos (len := m) (c := z) hz hm
  have b0 : 0 ≤ (m + z - 1) / z := Int.ediv_nonneg (by omega) (by omega)
  have b1 : (m + z - 1) / z ≤ m + z - 1 := Int.ediv_le_self _ (by omega)
  refine ⟨by omega, by omega, ?_, by rw [e, hn]⟩
  have f : ∀ x : Int, -(2 ^ 62) ≤ x → x < 2 ^ 62 → Builtin.Range.rangeFitsLong x = true := fun x h1 h2 => by
    unfold Builtin.Range.rangeFitsLong
    simp
    omega
  unfold Builtin.Range.small
  rw [e, f 0 (by omega) (by omega), f m (by omega) (by omega), f z (by omega) (by omega), f _ (by omega) (by omega), if_pos (show z > 0 by omega), f (m + (z - 1)) (by omega) (by omega)]
  simp
/-! ### two lists side by side -/
inductive All2 {α β : Type} (R : α → β → Prop) : List α → List β → Prop
  | nil : All2 R [] []
  | cons {a : α} {b : β} {l : List α} {m : List β} : R a b → All2 R l m → All2 R (a :: l) (b :: m)
section
variable {α β : Type} {R S : α → β → Prop} {l l' : List α} {m m' : List β}
theorem All2.mono (h : All2 R l m) (f : ∀ a b, R a b → S a b) : All2 S l m := by
  induction h with
  | nil => exact .nil
  | cons h _ ih => exact .cons (f _ _ h) ih
theorem All2.app (h : All2 R l m) (h' : All2 R l' m') : All2 R (l ++ l') (m ++ m') := by
  induction h with
  | nil => exact h'
  | cons h _ ih => exact .cons h ih
theorem All2.snoc {a : α} {b : β} (h : All2 R l m) (h' : R a b) : All2 R (l ++ [a]) (m ++ [b]) := h.app (.cons h' .nil)
theorem All2.len (h : All2 R l m) : l.length = m.length := by
  induction h with
  | nil => rfl
  | cons h _ ih => simp [ih]
theorem All2.get {i : Nat} {a : α} (h : All2 R l m) (e : l[i]? = some a) : ∃ b, m[i]? = some b ∧ R a b := by
  induction h generalizing i with
  | nil => simp at e
  | cons h _ ih =>
    cases i with
    | zero =>
      simp at e
      subst e
      exact ⟨_, rfl, h⟩
    | succ j =>
      simp at e
      obtain ⟨b, e', r⟩ := ih e
      exact ⟨b, by simpa using e', r⟩
end
/-! ### what never changes: tuples and instances -/
def isFix : HO → Bool
  | .tup _ => true
  | .ins _ _ _ => true
  | _ => false
def Fix (H H' : Hp) : Prop := ∀ a o, H a = some o → isFix o = true → H' a = some o
section
variable {H H1 H2 : Hp} {p t l : Addr} {o : HO} {n : Nat}
theorem Fix.refl : Fix H H := fun _ _ h _ => h
theorem Fix.trans (a : Fix H H1) (b : Fix H1 H2) : Fix H H2 := fun c o h f => b c o (a c o h f) f
theorem Same.fix (s : Same H H1) : Fix H H1 := fun a o h _ => s a o h
theorem Fix.new (h : H p = none) : Fix H (upd H p o) := (Same.new h).fix
theorem Fix.put {xs : List V} (h : H p = some (.lst xs)) : Fix H (upd H p o) := fun a u e f => by
  rw [upd_ne (ne_of e h (by intro z; subst z; cases f))]
  exact e
theorem Fix.pen (k : Keep t H H1) (T : PenAt n t l H) : Fix H H1 := fun a u e f => by
  obtain ⟨cells, turn, rest, h1, _⟩ := T.ex
  exact k a u e (ne_of e h1 (by intro z; subst z; cases f))
end
/-! ### wants, rows of a list, bundles -/
structure Want where
  t : Str
  s : Str
  m : Nat
structure Row where
  t : Str
  s : Str
  k : Int
  n : Int
  c : Int
def WantAt (H : Hp) (v : V) (w : Want) : Prop := ∃ a, v = .ref a ∧ H a = some (.tup [.str w.t, .str w.s, .int w.m])
def TupAt (H : Hp) (v : V) (r : Row) : Prop := ∃ a, v = .ref a ∧ H a = some (.tup [.str r.t, .str r.s, .int r.k, .int r.n, .int r.c])
def BunAt (C : Addr) (H : Hp) (v : V) (r : Row) : Prop := ∃ a dx, v = .ref a ∧ H a = some (.ins C dx [("town", .str r.t), ("seller", .str r.s), ("number", .int r.k), ("of", .int r.n), ("copies", .int r.c)])
section
variable {H H' : Hp} {v : V} {C : Addr}
theorem WantAt.fix {w : Want} (h : WantAt H v w) (f : Fix H H') : WantAt H' v w := by
  obtain ⟨a, e, h⟩ := h
  exact ⟨a, e, f _ _ h rfl⟩
theorem TupAt.fix {w : Row} (h : TupAt H v w) (f : Fix H H') : TupAt H' v w := by
  obtain ⟨a, e, h⟩ := h
  exact ⟨a, e, f _ _ h rfl⟩
theorem BunAt.fix {w : Row} (h : BunAt C H v w) (f : Fix H H') : BunAt C H' v w := by
  obtain ⟨a, dx, e, h⟩ := h
  exact ⟨a, dx, e, f _ _ h rfl⟩
end
/-- the sizes of the bundles of m copies, z in each -/
def sizesL (m z : Nat) : List Int := List.replicate (m / z) (z : Int) ++ (if z * (m / z) < m then [((m - z * (m / z) : Nat) : Int)] else [])
theorem sizes_len {m z : Nat} (hz : 0 < z) : (((m : Int) + z - 1) / z) = ((sizesL m z).length : Int) := by
  have h := Nat.div_add_mod m z
  have hr := Nat.mod_lt m hz
  have e1 : (m : Int) + z - 1 = ((m + z - 1 : Nat) : Int) := by omega
  rw [e1, ← Int.natCast_ediv]
  unfold sizesL
  generalize m / z = q at *
  generalize m % z = r at *
  subst h
  by_cases c : z * q < z * q + r
  · rw [if_pos c]
    have : z * q + r + z - 1 = z * (q + 1) + (r - 1) := by rw [Nat.mul_add, Nat.mul_one]; omega
    rw [this, Nat.mul_add_div hz, Nat.div_eq_of_lt (by omega : r - 1 < z)]
    simp
  · rw [if_neg c]
    have : z * q + r + z - 1 = z * q + (z - 1) := by omega
    rw [this, Nat.mul_add_div hz, Nat.div_eq_of_lt (by omega : z - 1 < z)]
    simp
theorem sizes_le {m z p : Nat} (hz : 0 < z) (h : m ≤ p * z) : (sizesL m z).length ≤ p := by
  have e := sizes_len (m := m) hz
  have : ((m : Int) + z - 1) / z ≤ p := by
    apply Int.le_of_lt_add_one
    apply Int.ediv_lt_of_lt_mul (by omega)
    have e2 : ((p : Int) + 1) * z = p * z + z := by rw [Int.add_mul, Int.one_mul]
    have e3 : (m : Int) ≤ (p : Int) * z := by exact_mod_cast h
    omega
  omega
def rowsOf (w : Want) (z : Nat) : List Row := (sizesL w.m z).mapIdx fun i c => ⟨w.t, w.s, (i : Int) + 1, ((sizesL w.m z).length : Int), c⟩
theorem rows_len {w : Want} {z : Nat} : (rowsOf w z).length = (sizesL w.m z).length := by simp [rowsOf]
def allRows (ws : List Want) (z : Nat) : List Row := ws.flatMap fun w => rowsOf w z
theorem allRows_snoc {ws : List Want} {w : Want} {z : Nat} : allRows (ws ++ [w]) z = allRows ws z ++ rowsOf w z := by simp [allRows]
theorem allRows_len {ws : List Want} {z p : Nat} (hz : 0 < z) (h : ∀ w ∈ ws, w.m ≤ p * z) : (allRows ws z).length ≤ ws.length * p := by
  induction ws with
  | nil => simp [allRows]
  | cons w r ih =>
    have e : allRows (w :: r) z = rowsOf w z ++ allRows r z := by simp [allRows]
    have h1 := sizes_le hz (h w (by simp))
    have h2 := ih fun w' hw => h w' (by simp [hw])
    rw [e, List.length_append, rows_len, List.length_cons, Nat.add_mul]
    omega
/-- a name is short, its signs are signs -/
def NmOk (x : Str) : Prop := x.length ≤ 64 ∧ PyData.strOk x = true
def RowOk (r : Row) : Prop := NmOk r.t ∧ NmOk r.s ∧ (0 ≤ r.k ∧ r.k ≤ 1000000) ∧ (0 ≤ r.n ∧ r.n ≤ 1000000) ∧ (0 ≤ r.c ∧ r.c ≤ 1000000)
def rowD (r : Row) : PyData := .tuple [.str r.t, .str r.s, .int r.k, .int r.n, .int r.c]
end L2

set_option Elab.async false
set_option linter.all false
set_option maxRecDepth 100000
set_option maxHeartbeats 1000000
namespace L2
open PySem PySem.Spec PyProof.Rows TL
/-! ### own instances: ==, len, repr by their own methods -/
/-- the method m of the class at C, a def of the text that promises sp -/
structure OwnM (P : Program) (w : World) (K : PySem.W.Frag) (mg : Str → Option Value) (base : Heap) (k : Nat) (C : Addr) (m : Str) (ps : List Str) (sp : Sp) : Prop where
  ex : ∃ (f : Addr) (fd : FuncData), FnOk P w K mg base CX0 k f fd ps sp ∧ PySem.W.findIn K (.ref C) m = some (some (.ref f)) ∧ PySem.W.isFn K (.ref f) = true ∧ Binds K fd ps [] ∧ PySem.W.keepIn K (.ref f) = true
def rEqO (C : Addr) (sp : Sp) : R2 := fun x y H Q => ∃ a dx fs b dy gs, x = .ref a ∧ H a = some (.ins C dx fs) ∧ y = .ref b ∧ H b = some (.ins C dy gs) ∧ sp [x, y] H (fun v H' => ∃ t, v = .bl t ∧ Q (.bl t) H') E0
section
variable {X : Cx} {k : Nat} {C : Addr} {sp : Sp}
theorem inst_look {pins : List (Addr × Obj)} {σ : St} {H : Hp} {s : Shared} {a dx : Addr} {fs : List (Str × V)} (I : Inv X pins σ H s) (e : H a = some (.ins C dx fs)) : ∃ od, PySem.W.InstAt s.heap a (PySem.W.instObj C dx) C (some od) := by
  obtain ⟨mA, O, _⟩ := ins_get I.hok e
  obtain ⟨od, J, _⟩ := O.look
  exact ⟨od, J⟩
theorem op_eqO (S : OwnM X.prog X.w X.K X.mg X.base k C "__eq__" ["self", "other"] sp) (hr : Room k X.A) : OpR X (compareOp .Eq) (rEqO C sp) := by
  intro pins s σ H x y v u Q I rx ry h
  obtain ⟨a, dx, fs, b, dy, gs, rfl, ha, rfl, hb, q⟩ := h
  cases (show v = Value.ref a from rx)
  cases (show u = Value.ref b from ry)
  obtain ⟨f, fd, F, hs, hf, bd, _⟩ := S.ex
  obtain ⟨od, IA⟩ := inst_look I ha
  obtain ⟨od', IB⟩ := inst_look I hb
  obtain ⟨m, fr⟩ := I.fr
  show wpAny _ _ (richCompare .Eq (.ref a) (.ref b)) _ _ s
  refine PySem.W.cmp_K (op := .Eq) hr.units0 fr I.mod.kin IA IB.type (by simp [PySem.W.notFirst]) hs hf ?_
  refine thn (run_fn (vs := [.ref a, .ref b]) F hr bd .nil pass0 I (.cons rfl (.cons rfl .nil)) q) fun z s' hz => ?_
  obtain ⟨v, H', I', rv, t, rfl, q'⟩ := hz
  cases (show z = Value.bool t from rv)
  exact ⟨.bl t, H', I', rfl, q'⟩
def rLenO (C : Addr) (sp : Sp) : List V → Hp → VK → Prop := fun xs H Q => ∃ a dx fs, xs = [.ref a] ∧ H a = some (.ins C dx fs) ∧ sp [.ref a] H (fun v H' => ∃ n : Int, v = .int n ∧ 0 ≤ n ∧ n < 2 ^ 63 ∧ Q (.int n) H') E0
/-- the callee runs one unit deeper -/
theorem run_in1 {pins : List (Addr × Obj)} {σ : St} {H : Hp} {s : Shared} {Q : VK} {f : Addr} {fd : FuncData} {ps : List Str} {us : List Value} {vs : List V} (F : FnOk X.prog X.w X.K X.mg X.base CX0 k f fd ps sp) (hr : Room (k + 1) X.A) (hb : Binds X.K fd ps [])
    (I : Inv X pins σ H s) (r : Vals vs us) (h : sp vs H Q E0) : wpAny (model X.prog X.w) X.A.in1 (call (.ref f) us) (EP X pins σ Q) X.xe s := by
  have hl : us.length = ps.length := by rw [← r.length]; exact F.len _ _ _ _ h
  have bd := hb s us I.kIn (by rw [List.append_nil]; exact hl)
  rw [List.append_nil] at bd
  have e0 : Env0 X.prog X.w X.K X.mg X.base X.A.in1 X.stack s H := I.env0.in1
  refine wpAny_call (codeAny_mono (F.run X.A.in1 X.stack s H ⟨us, []⟩ us vs Q E0 hr.in1 e0 bd r h) fun z s' hq => ?_)
  cases z with
  | error e => exact False.elim hq
  | ok fl =>
    cases fl with
    | ret u => exact I.after hq
    | next => exact False.elim hq
    | brk => exact False.elim hq
    | cont => exact False.elim hq
theorem call_lenO (S : OwnM X.prog X.w X.K X.mg X.base k C "__len__" ["self"] sp) (hr : Room (k + 1) X.A) : CallR X (.builtin "len") (rLenO C sp) := by
  intro pins s σ H xs us Q I r h
  obtain ⟨a, dx, fs, rfl, ha, q⟩ := h
  obtain ⟨u, rfl, ru⟩ := vals1 r
  cases (show u = Value.ref a from ru)
  obtain ⟨f, fd, F, hs, hf, bd, _⟩ := S.ex
  obtain ⟨od, IA⟩ := inst_look I ha
  obtain ⟨m, fr⟩ := I.fr
  refine PySem.W.len_K fr I.mod.kin IA hs hf ?_
  refine thn (run_in1 (vs := [.ref a]) F hr bd I (.cons rfl .nil) q) fun z s' hz => ?_
  obtain ⟨v, H', I', rv, n, rfl, h0, h1, q'⟩ := hz
  obtain ⟨t, rfl⟩ := rv
  exact ⟨⟨h0, h1⟩, .int n, H', I'.tok _, ⟨_, rfl⟩, q'⟩
def rReprO (C : Addr) (sp : Sp) : List V → Hp → VK → Prop := fun xs H Q => ∃ a dx fs, xs = [.ref a] ∧ H a = some (.ins C dx fs) ∧ sp [.ref a] H (fun v H' => ∃ z : Str, v = .str z ∧ Q (.str z) H') E0
theorem call_reprO (S : OwnM X.prog X.w X.K X.mg X.base k C "__repr__" ["self"] sp) (hr : Room (k + 1) X.A) : CallR X (.builtin "repr") (rReprO C sp) := by
  intro pins s σ H xs us Q I r h
  obtain ⟨a, dx, fs, rfl, ha, q⟩ := h
  obtain ⟨u, rfl, ru⟩ := vals1 r
  cases (show u = Value.ref a from ru)
  obtain ⟨f, fd, F, hs, hf, bd, _⟩ := S.ex
  obtain ⟨od, IA⟩ := inst_look I ha
  obtain ⟨m, fr⟩ := I.fr
  refine PySem.W.repr_K hr.in1.units0 fr I.mod.kin IA hs hf ?_
  refine thn (run_in1 (vs := [.ref a]) F hr bd I (.cons rfl .nil) q) fun z s' hz => ?_
  obtain ⟨v, H', I', rv, n, rfl, q'⟩ := hz
  obtain ⟨t, rfl⟩ := rv
  exact ⟨.str n, H', I', ⟨_, rfl⟩, q'⟩
theorem call_strO (S : OwnM X.prog X.w X.K X.mg X.base k C "__str__" ["self"] sp) (hr : Room (k + 2) X.A) : CallR X (.type "str") (rReprO C sp) := by
  intro pins s σ H xs us Q I r h
  obtain ⟨a, dx, fs, rfl, ha, q⟩ := h
  obtain ⟨u, rfl, ru⟩ := vals1 r
  cases (show u = Value.ref a from ru)
  obtain ⟨f, fd, F, hs, hf, hb, _⟩ := S.ex
  obtain ⟨od, J⟩ := inst_look I ha
  have hr2 : Room (k + 1) X.A.in1 := hr.in1
  have hr1 : Room k X.A.in1.in1 := hr2.in1
  refine PySem.W.kso_call hr1.units0 I.kIn J hs hf ?_
  have bd := hb s [.ref a] I.kIn rfl
  rw [List.append_nil] at bd
  have e0 : Env0 X.prog X.w X.K X.mg X.base X.A.in1.in1 X.stack s H := I.env0.in1.in1
  refine wpAny_call (codeAny_mono (F.run X.A.in1.in1 X.stack s H ⟨[.ref a], []⟩ [.ref a] [.ref a] _ E0 hr1 e0 bd (.cons rfl .nil) q) fun r s' hq => ?_)
  cases r with
  | error e => exact False.elim hq
  | ok fl =>
    cases fl with
    | ret u =>
      obtain ⟨v, H', I3, rv, z, rfl, q⟩ := I.after hq
      obtain ⟨t, rfl⟩ := rv
      exact ⟨.str z, H', I3, ⟨t, rfl⟩, q⟩
    | next => exact False.elim hq
    | brk => exact False.elim hq
    | cont => exact False.elim hq
end
/-! ### != by an own __eq__ -/
def neIn (K : PySem.W.Frag) (C f : Addr) : Bool := match K.lookup C, K.lookup f with
  | some ⟨.type "type", _, .cls cd, sl⟩, some ⟨.type "function", _, _, _⟩ => (match cd.mro, sl.toList with
    | .ref C' :: bm, [_, _, _, _, some (.builtin _), _] => C' == C && !cd.hasDel && bm == [.type "object"] && PySem.W.nsOkIn K cd.ns && PySem.W.nsIn K cd.ns "__eq__" == some (some (.ref f)) && PySem.W.nsIn K cd.ns "__ne__" == some none
    | _, _ => false)
  | _, _ => false
theorem ns_none_of {K : PySem.W.Frag} {h : Heap} {N : Addr} {mm : Str → Option Value} {n : Str} (Y : K.In h) (G : h.Ns N mm) (hh : PySem.W.nsIn K N n = some none) : mm n = none := by
  obtain ⟨o1, es1, _, g1, g2, _, g3⟩ := G
  unfold PySem.W.nsIn at hh
  split at hh
  · rename_i z1
    have z2 := Y _ _ z1
    rw [g1] at z2
    cases z2
    cases g2
    split at hh
    · cases hh
    · rename_i z3
      rw [← g3]
      unfold nsFind findBy
      rw [← Array.find?_toList, z3]
      rfl
  · cases hh
theorem ne_of_in {K : PySem.W.Frag} {h : Heap} {C f x : Addr} {ox : Obj} (X : K.In h) (q : neIn K C f = true) (hx : h.get? x = some ox) (hc : ox.cls = .ref C) : h.OwnEqNoNe x C f "object" [.type "object"] := by
  unfold neIn at q
  split at q
  · rename_i dd cd sl d2 dt s2 ho hf
    split at q
    · rename_i C' bm k0 k1 k2 k3 n k5 hm hs
      simp only [Bool.and_eq_true, beq_iff_eq, Bool.not_eq_true'] at q
      obtain ⟨⟨⟨⟨⟨rfl, hdel⟩, rfl⟩, hok⟩, he⟩, hne⟩ := q
      obtain ⟨nm, bs, mro, ns, qn, hd, sn, sub, ab, col, del⟩ := cd
      dsimp only at hm hdel hok he hne
      subst hm hdel
      have hsl : sl = #[k0, k1, k2, k3, some (.builtin n), k5] := by
        obtain ⟨l⟩ := sl
        simp only at hs
        rw [hs]
      subst hsl
      have G : h.Ns ns (h.nsMap ns) := .of_isNs (PySem.W.isNs_of_in X hok)
      exact ⟨ox, _, nm, qn, ns, bs, hd, sn, sub, ab, col, dd, k0, k1, k2, k3, k5, n, _, _, hx, hc, X _ _ ho, G, ns_some_of X G he, X _ _ hf, rfl, PySem.F.cmp_object.mro, PySem.F.cmp_object.eq.lookup, ns_none_of X G hne⟩
    · cases q
  · cases q
def rNeO (C : Addr) (sp : Sp) : R2 := fun x y H Q => ∃ a dx fs b dy gs, x = .ref a ∧ H a = some (.ins C dx fs) ∧ y = .ref b ∧ H b = some (.ins C dy gs) ∧ sp [x, y] H (fun v H' => ∃ t, v = .bl t ∧ Q (.bl (!t)) H') E0
theorem op_neO {X : Cx} {k : Nat} {C f : Addr} {fd : FuncData} {sp : Sp} (F : FnOk X.prog X.w X.K X.mg X.base CX0 k f fd ["self", "other"] sp) (bd : Binds X.K fd ["self", "other"] []) (hn : neIn X.K C f = true) (hr : Room (k + 1) X.A) : OpR X (compareOp .NotEq) (rNeO C sp) := by
  intro pins s σ H x y v u Q I rx ry h
  obtain ⟨a, dx, fs, b, dy, gs, rfl, ha, rfl, hb, q⟩ := h
  cases (show v = Value.ref a from rx)
  cases (show u = Value.ref b from ry)
  obtain ⟨od, IA⟩ := inst_look I ha
  obtain ⟨od', IB⟩ := inst_look I hb
  have N := ne_of_in I.kIn hn IA.at_ IA.cls
  obtain ⟨hh, g, d, t, os⟩ := s
  refine compareOp_ne_ownEq PySem.F.cmp_object N IB.at_ IB.cls (by have := hr.units; omega) ?_
  refine thn (run_in1 (vs := [.ref a, .ref b]) F hr bd I (.cons rfl (.cons rfl .nil)) q) fun z s' hz => ?_
  obtain ⟨v, H', I', rv, t, rfl, q'⟩ := hz
  cases (show z = Value.bool t from rv)
  exact ⟨t, rfl, .bl (!t), H', I', rfl, q'⟩
end L2

set_option Elab.async false
set_option linter.all false
set_option maxRecDepth 100000
set_option maxHeartbeats 1000000
namespace L2
open PySem PySem.Spec PyProof.Rows TL
/-! ### a display or an argument list with a star: [a, *xs, b] -/
def tStar (K : PySem.W.Frag) (te : TE) (t : TA) : TA := fun σ H Q => te σ H fun x H1 => ∃ a xs, x = .ref a ∧ (SqL K H1 a xs ∨ SqT K H1 a xs) ∧ t σ H1 fun ys H2 => Q (xs ++ ys) H2
section
variable {X : Cx}
end
/-! ### methods of own classes, by their promises -/
structure OwnE (P : Program) (w : World) (K : PySem.W.Frag) (mg : Str → Option Value) (base : Heap) (k : Nat) (C : Addr) (sp : Sp) : Prop where
  ex : ∃ (f : Addr) (fd : FuncData), FnOk P w K mg base CX0 k f fd ["self", "other"] sp ∧ PySem.W.findIn K (.ref C) "__eq__" = some (some (.ref f)) ∧ PySem.W.isFn K (.ref f) = true ∧ Binds K fd ["self", "other"] [] ∧ PySem.W.keepIn K (.ref f) = true ∧ neIn K C f = true
section
variable {X : Cx} {j k : Nat} {C : Addr} {sp : Sp} {ps : List Str} {m x : Str} {o e : Expr} {es : List Expr} {ta : TE} {t : TA} {p apos pos : Pos}
theorem op_eqEO (S : OwnE X.prog X.w X.K X.mg X.base j C sp) (hr : Room j X.A) : OpR X (compareOp .Eq) (rEqO C sp) := by
  obtain ⟨f, fd, F, h1, h2, h3, h4, _⟩ := S.ex
  exact op_eqO ⟨f, fd, F, h1, h2, h3, h4⟩ hr
theorem op_neEO (S : OwnE X.prog X.w X.K X.mg X.base j C sp) (hr : Room (j + 1) X.A) : OpR X (compareOp .NotEq) (rNeO C sp) := by
  obtain ⟨f, fd, F, h1, h2, h3, h4, h5⟩ := S.ex
  exact op_neO F h3 h5 hr
end
end L2

set_option Elab.async false
set_option linter.all false
set_option maxRecDepth 100000
set_option maxHeartbeats 1000000
namespace L2
open PySem PySem.Spec PyProof.Rows TL
/-! ### the truth of an own instance by its own __len__ -/
theorem truthy_len {prog : Program} {w : World} {A : Around} {E : Value → Shared → Prop} {s : Shared} {K : PySem.W.Frag} {x C f : Addr} {ox : Obj} {od : Option Obj} {Q : Bool → Shared → Prop} (X : K.In s.heap) (I : PySem.W.InstAt s.heap x ox C od)
    (hb : PySem.W.findIn K (.ref C) "__bool__" = some none) (hs : PySem.W.findIn K (.ref C) "__len__" = some (some (.ref f))) (hf : PySem.W.isFn K (.ref f) = true)
    (h : wpAny (model prog w) A.in1 (call (.ref f) [.ref x]) (fun r s' => ∃ (n : Int) (u : Tok), r = .int n u ∧ 0 ≤ n ∧ n < 2 ^ 63 ∧ ∀ k, Q (n != 0) { s' with toks := k }) E s) : wpAny (model prog w) A (truthy (.ref x)) Q E s := by
  have key : wpAny (model prog w) A (runValue (.builtin "len" ⟨[.ref x], []⟩)) (fun r s' => ∃ (n : Int) (u : Tok), r = .int n u ∧ Q (n != 0) s') E s := by
    refine wpAny_runValue (codeAny_builtin entry_len ?_)
    rw [Around.under_plainId plain_len _]
    unfold Builtin.«len»
    refine wpAny_bind (m := oneArg "len" _) (wpAny_pure ?_)
    refine wpAny_bind (m := callSpecial? (.ref x) (Str.ofString "__len__")) (PySem.W.special_fn X I hs (beq_iff_eq.mp hf) (wpAny_mono h (fun r s' hr => ?_) fun _ _ y => y))
    obtain ⟨n, u, rfl, h0, h1, hq⟩ := hr
    refine wpAny_bind (wpAny_holding (wpAny_pure ?_))
    refine wpAny_bind (wpAny_letGo ?_)
    show wpAny _ _ (if n < 0 then _ else _) _ _ _
    rw [if_neg (by omega)]
    show wpAny _ _ (if n ≥ 2 ^ 63 then _ else _) _ _ _
    rw [if_neg (by omega)]
    exact wpAny_bind (wpAny_mkInt (wpAny_pure ⟨_, _, rfl, hq _⟩))
  unfold truthy
  refine wpAny_bind (m := callSpecial? (.ref x) (Str.ofString "__bool__")) (wpAny_bind (wpAny_bind (I.type.here ((PySem.W.looks_findIn X hb).here (wpAny_pure ?_)))))
  refine wpAny_bind (wpAny_bind (I.type.here ((PySem.W.looks_findIn X hs).here ?_)))
  show wpAny _ _ (runValue _ >>= _) _ _ _
  exact wpAny_bind (wpAny_mono key (fun r s' h' => by obtain ⟨n, u, rfl, hq⟩ := h'; exact wpAny_pure hq) fun _ _ e => e)
theorem bool_new_in {prog : Program} {w : World} (x : Value) : MeetsIn prog w (Builtin.«bool.__new__» ⟨[.type "bool", x], []⟩) (fun A R s => wpAny (model prog w) A.in1 (truthy x) (fun b s' => R (.ok (.ret (.bool b))) s') (fun e s' => R (.error e) s') s) := by
  intro A R s hs
  obtain ⟨hp, g, d, tk, os⟩ := s
  have f1 := F.conv_sub_bool
  have hs' : wpAny (model prog w) A.in1 (truthy x) (fun b s' => wpAny (model prog w) A.in1 (ret (.bool b)) (fun fin s' => match fin with | .done f => R (.ok f) s' | .again c' => c'.quiet = true ∧ codeAny (model prog w) A c' R s') (fun e s' => R (.error e) s') s') (fun e s' => R (.error e) s') ⟨hp, g, d, tk, os⟩ :=
    wpAny_mono hs (fun b s' h => wpAny_pure h) fun _ _ e => e
  repeat (any_goals (first | assumption | (with_reducible exact wpAny_bind hs') | wp_step))
def rBoolO (C : Addr) (sp : Sp) : List V → Hp → VK → Prop := fun xs H Q => ∃ a dx fs, xs = [.ref a] ∧ H a = some (.ins C dx fs) ∧ sp [.ref a] H (fun v H' => ∃ n : Int, v = .int n ∧ 0 ≤ n ∧ n < 2 ^ 63 ∧ Q (.bl (n != 0)) H') E0
section
variable {X : Cx} {k : Nat} {C : Addr} {sp : Sp}
theorem call_boolO (S : OwnM X.prog X.w X.K X.mg X.base k C "__len__" ["self"] sp) (hb : PySem.W.findIn X.K (.ref C) "__bool__" = some none) (hr : Room (k + 3) X.A) : CallR X (.type "bool") (rBoolO C sp) := by
  intro pins s σ H xs us Q I r h
  obtain ⟨a, dx, fs, rfl, ha, q⟩ := h
  obtain ⟨u, rfl, ru⟩ := vals1 r
  cases (show u = Value.ref a from ru)
  obtain ⟨f, fd, F, hs, hf, hbd, _⟩ := S.ex
  obtain ⟨od, J⟩ := inst_look I ha
  have hr2 : Room (k + 2) X.A.in1 := hr.in1
  have hr1 : Room (k + 1) X.A.in1.in1 := hr2.in1
  have hr0 : Room k X.A.in1.in1.in1 := hr1.in1
  refine callType_newIn PySem.F.called_bool PySem.F.newNe_bool (PySem.F.typeCall_bool_1 _) (PySem.F.newCall_bool_1 _) (fun obj => PySem.F.args_object_init_2 obj _) PySem.F.entry_bool_new (bool_new_in _) ?_
  show wpAny _ X.A.in1.in1 (truthy (.ref a)) _ _ s
  refine truthy_len I.kIn J hb hs hf ?_
  have bd := hbd s [.ref a] I.kIn rfl
  rw [List.append_nil] at bd
  have e0 : Env0 X.prog X.w X.K X.mg X.base X.A.in1.in1.in1 X.stack s H := I.env0.in1.in1.in1
  refine wpAny_call (codeAny_mono (F.run X.A.in1.in1.in1 X.stack s H ⟨[.ref a], []⟩ [.ref a] [.ref a] _ E0 hr0 e0 bd (.cons rfl .nil) q) fun r s' hq => ?_)
  cases r with
  | error e => exact False.elim hq
  | ok fl =>
    cases fl with
    | ret u =>
      obtain ⟨v, H', I3, rv, n, rfl, h0, h1, q⟩ := I.after hq
      obtain ⟨t, rfl⟩ := rv
      refine ⟨n, t, rfl, h0, h1, fun k => ?_⟩
      exact ⟨PySem.typeIs_bool _ _, .bl (n != 0), H', I3.tok _, rfl, q⟩
    | next => exact False.elim hq
    | brk => exact False.elim hq
    | cont => exact False.elim hq
end
end L2

set_option Elab.async false
set_option linter.all false
set_option maxRecDepth 100000
set_option maxHeartbeats 1000000
namespace L2
open PySem PySem.Spec PyProof.Rows TL MeetsSeq MeetsSeq2 SeqRoads2
open AutoSeq1 (wpAny_loadPart')
/-! ### x in a list of own instances, by their own __eq__ -/
def inL (K : PySem.W.Frag) (C : Addr) (sp : Sp) (l a : Addr) (bs : List Addr) (Q : VK) : List Addr → Hp → Prop
  | [], H => SqL K H l (bs.map V.ref) ∧ Q (.bl false) H
  | y :: ys, H => SqL K H l (bs.map V.ref) ∧ if y = a then Q (.bl true) H else (∃ dx fs dy gs, H a = some (.ins C dx fs) ∧ H y = some (.ins C dy gs)) ∧ sp [.ref y, .ref a] H (fun v H' => ∃ t, v = .bl t ∧ if t = true then Q (.bl true) H' else inL K C sp l a bs Q ys H') E0
def rInO (K : PySem.W.Frag) (C : Addr) (sp : Sp) : R2 := fun x y H Q => ∃ a l bs, x = .ref a ∧ y = .ref l ∧ inL K C sp l a bs Q bs H
theorem eqBool_same {prog : Program} {w : World} {A : Around} {E : Value → Shared → Prop} {s : Shared} {a : Addr} {Q : Bool → Shared → Prop} (h : Q true s) : wpAny (model prog w) A (eqBool (.ref a) (.ref a)) Q E s := by
  unfold eqBool
  have e : (Value.ref a == Value.ref a) = true := by simp
  refine wpAny_holding ?_
  rw [e]
  wp_walk
  exact h
section
variable {X : Cx} {k : Nat} {C : Addr} {sp : Sp}
end
end L2

set_option Elab.async false
set_option linter.all false
set_option maxRecDepth 100000
set_option maxHeartbeats 1000000
namespace L2
open PySem PySem.Spec PyProof.Rows TL
/-! ### data without addresses -/
inductive Kd where
  | tup | lst | dk (ks : List Key) | ins (C : Addr) (ns : List Str) | exc (C : Addr) | xd (ns : List Str)
inductive D where
  | v (x : V) | nd (k : Kd) (l : List D)
/-- the thing at a, of kind k, with these parts -/
def Ob (H : Hp) (a : Addr) : Kd → List V → Prop
  | .tup, vs => H a = some (.tup vs)
  | .lst, vs => H a = some (.lst vs)
  | .dk ks, vs => ks.length = vs.length ∧ H a = some (.dK (ks.zip vs))
  | .ins C ns, vs => ns.length = vs.length ∧ ∃ dx, H a = some (.ins C dx (ns.zip vs))
  | .exc C, vs => ∃ d, vs = [.ref d] ∧ H a = some (XO a (.ref C) (some d))
  | .xd ns, vs => ns.length = vs.length ∧ H a = some (.xd (ns.zip vs))
theorem Ob.keep {H H' : Hp} {a : Addr} {k : Kd} {vs : List V} (h : Ob H a k vs) (f : ∀ o, H a = some o → H' a = some o) : Ob H' a k vs := by
  cases k with
  | tup => exact f _ h
  | lst => exact f _ h
  | dk ks => exact ⟨h.1, f _ h.2⟩
  | ins C ns => obtain ⟨h1, dx, h2⟩ := h; exact ⟨h1, dx, f _ h2⟩
  | exc C => obtain ⟨d, h1, h2⟩ := h; exact ⟨d, h1, f _ h2⟩
  | xd ns => exact ⟨h.1, f _ h.2⟩
theorem Ob.some {H : Hp} {a : Addr} {k : Kd} {vs : List V} (h : Ob H a k vs) : ∃ o, H a = some o := by
  cases k with
  | tup => exact ⟨_, h⟩
  | lst => exact ⟨_, h⟩
  | dk ks => exact ⟨_, h.2⟩
  | ins C ns => obtain ⟨h1, dx, h2⟩ := h; exact ⟨_, h2⟩
  | exc C => obtain ⟨d, h1, h2⟩ := h; exact ⟨_, h2⟩
  | xd ns => exact ⟨_, h.2⟩
mutual
inductive Rep (G : Addr → Prop) (H : Hp) : V → D → Prop
  | v (x : V) : Rep G H x (.v x)
  | nd {a : Addr} {k : Kd} {vs : List V} {ds : List D} : Ob H a k vs → ¬ G a → RepL G H vs ds → Rep G H (.ref a) (.nd k ds)
inductive RepL (G : Addr → Prop) (H : Hp) : List V → List D → Prop
  | nil : RepL G H [] []
  | cons {v : V} {d : D} {vs : List V} {ds : List D} : Rep G H v d → RepL G H vs ds → RepL G H (v :: vs) (d :: ds)
end
section
variable {G G' : Addr → Prop} {H H' : Hp}
mutual
theorem Rep.imp (m : ∀ a o, H a = some o → ¬ G a → H' a = some o ∧ ¬ G' a) : ∀ {v : V} {d : D}, Rep G H v d → Rep G' H' v d
  | _, _, .v x => .v x
  | _, _, .nd o g r => by
    obtain ⟨u, hu⟩ := o.some
    exact .nd (o.keep fun o h => (m _ o h g).1) (m _ u hu g).2 (RepL.imp m r)
theorem RepL.imp (m : ∀ a o, H a = some o → ¬ G a → H' a = some o ∧ ¬ G' a) : ∀ {vs : List V} {ds : List D}, RepL G H vs ds → RepL G' H' vs ds
  | _, _, .nil => .nil
  | _, _, .cons r s => .cons (Rep.imp m r) (RepL.imp m s)
end
theorem RepL.len {vs : List V} {ds : List D} (h : RepL G H vs ds) : vs.length = ds.length := by
  induction vs generalizing ds with
  | nil => cases h; rfl
  | cons v r ih => cases h with | cons a b => simp [ih b]
theorem RepL.get : ∀ {vs : List V} {ds : List D} {i : Nat} {v : V}, RepL G H vs ds → vs[i]? = some v → ∃ d, ds[i]? = some d ∧ Rep G H v d
  | _, _, _, _, .nil, e => by simp at e
  | _, _, 0, _, .cons a b, e => by simp at e; subst e; exact ⟨_, rfl, a⟩
  | _, _, j + 1, _, .cons a b, e => by
    obtain ⟨d, h1, h2⟩ := RepL.get (i := j) b (by simpa using e)
    exact ⟨d, by simpa using h1, h2⟩
theorem RepL.getD : ∀ {vs : List V} {ds : List D} {i : Nat} {d : D}, RepL G H vs ds → ds[i]? = some d → ∃ v, vs[i]? = some v ∧ Rep G H v d
  | _, _, _, _, .nil, e => by simp at e
  | _, _, 0, _, .cons a b, e => by simp at e; subst e; exact ⟨_, rfl, a⟩
  | _, _, j + 1, _, .cons a b, e => by
    obtain ⟨d, h1, h2⟩ := RepL.getD (i := j) b (by simpa using e)
    exact ⟨d, by simpa using h1, h2⟩
theorem RepL.app {vs us : List V} {ds es : List D} (h : RepL G H vs ds) (h' : RepL G H us es) : RepL G H (vs ++ us) (ds ++ es) := by
  induction vs generalizing ds with
  | nil => cases h; exact h'
  | cons v r ih => cases h with | cons a b => exact .cons a (ih b)
theorem RepL.one {v : V} {d : D} (h : Rep G H v d) : RepL G H [v] [d] := .cons h .nil
theorem RepL.vs : ∀ (xs : List V), RepL G H xs (xs.map D.v)
  | [] => .nil
  | x :: r => .cons (.v x) (RepL.vs r)
end
/-- as Rep, but the thing itself may be a forbidden one (it is but read) -/
def WRep (G : Addr → Prop) (H : Hp) (u : V) : D → Prop
  | .v x => u = x
  | .nd k ds => ∃ a vs, u = .ref a ∧ Ob H a k vs ∧ RepL G H vs ds
theorem Rep.w {G : Addr → Prop} {H : Hp} {u : V} {d : D} (h : Rep G H u d) : WRep G H u d := by
  cases h with
  | v x => rfl
  | nd o g r => exact ⟨_, _, rfl, o, r⟩
/-! ### slots -/
def GAt : Nat → Nat → Addr → Addr → Hp → Prop
  | 0, n => PenAt n
  | _, n => TapeAt n
inductive S where
  | no | any | d (d : D) | own (f : Bool) (a : Addr) (k : Kd) (ds : List D) | gad (g n : Nat) (a : Addr)
abbrev En := List S
def S.adr : S → Option Addr
  | .own _ a _ _ => some a
  | .gad _ _ a => some a
  | _ => none
def owns (δ : En) : List Addr := δ.filterMap S.adr
def Fb (F : Addr → Prop) (δ : En) : Addr → Prop := fun a => F a ∨ a ∈ owns δ
def Fp (F : Addr → Prop) (a : Addr) : Addr → Prop := fun b => F b ∨ b = a
def SRel (F G : Addr → Prop) (H : Hp) (o : Option V) : S → Prop
  | .no => o = none
  | .any => True
  | .d d => ∃ v, o = some v ∧ Rep G H v d
  | .own f a k ds => o = some (.ref a) ∧ (f = true → ¬ F a) ∧ ∃ vs, Ob H a k vs ∧ RepL G H vs ds
  | .gad g n a => o = some (.ref a) ∧ ∃ l, GAt g n a l H ∧ ¬ G l
structure Rel (F : Addr → Prop) (σ : St) (δ : En) (H : Hp) : Prop where
  sl : All2 (SRel F (Fb F δ) H) σ δ
  nd : (owns δ).Nodup
  fd : ∀ a, F a → ∃ o, H a = some o
structure Fr (δ : En) (H : Hp) (δ' : En) (H' : Hp) : Prop where
  ex : ∀ a o, a ∉ owns δ → H a = some o → H' a = some o
  nw : ∀ a, a ∈ owns δ' → a ∈ owns δ ∨ H a = none
  dm : ∀ a o, H a = some o → ∃ o', H' a = some o'
theorem Fr.refl {δ : En} {H : Hp} : Fr δ H δ H := ⟨fun _ _ _ h => h, fun _ h => .inl h, fun _ _ h => ⟨_, h⟩⟩
theorem Fr.trans {δ δ1 δ2 : En} {H H1 H2 : Hp} (a : Fr δ H δ1 H1) (b : Fr δ1 H1 δ2 H2) : Fr δ H δ2 H2 where
  ex := fun x o h e => b.ex x o (fun z => by
    rcases a.nw x z with z | z
    · exact h z
    · rw [z] at e; cases e) (a.ex x o h e)
  nw := fun x h => by
    rcases b.nw x h with z | z
    · exact a.nw x z
    · by_cases q : x ∈ owns δ
      · exact .inl q
      · refine .inr ?_
        cases e : H x with
        | none => rfl
        | some o => rw [a.ex x o q e] at z; cases z
  dm := fun x o h => by
    obtain ⟨o', h'⟩ := a.dm x o h
    exact b.dm x o' h'
theorem Fr.free {δ δ' : En} {H H' : Hp} (f : Fr δ H δ' H') {a : Addr} (h : H' a = none) : H a = none := by
  cases e : H a with
  | none => rfl
  | some o =>
    obtain ⟨o', h'⟩ := f.dm a o e
    rw [h'] at h; cases h
/-- what the frame keeps of a plain thing -/
theorem Fr.mv {F : Addr → Prop} {δ δ' : En} {H H' : Hp} (f : Fr δ H δ' H') : ∀ a o, H a = some o → ¬ Fb F δ a → H' a = some o ∧ ¬ Fb F δ' a := fun a o e g =>
  ⟨f.ex a o (fun z => g (.inr z)) e, fun z => by
    rcases z with z | z
    · exact g (.inl z)
    · rcases f.nw a z with z | z
      · exact g (.inr z)
      · rw [z] at e; cases e⟩
theorem GAt.keep {g n : Nat} {a l : Addr} {H H' : Hp} (h : GAt g n a l H) (h1 : ∀ o, H a = some o → H' a = some o) (h2 : ∀ o, H l = some o → H' l = some o) : GAt g n a l H' := by
  cases g with
  | zero =>
    obtain ⟨cells, turn, rest, e1, e2, r⟩ := PenAt.ex h
    exact PenAt.mk ⟨cells, turn, rest, h1 _ e1, h2 _ e2, r⟩
  | succ g =>
    obtain ⟨cells, turn, rest, e1, e2, r⟩ := TapeAt.ex h
    exact TapeAt.mk ⟨cells, turn, rest, h1 _ e1, h2 _ e2, r⟩
theorem GAt.some {g n : Nat} {a l : Addr} {H : Hp} (h : GAt g n a l H) : (∃ o, H a = some o) ∧ ∃ o, H l = some o := by
  cases g with
  | zero =>
    obtain ⟨cells, turn, rest, e1, e2, r⟩ := PenAt.ex h
    exact ⟨⟨_, e1⟩, ⟨_, e2⟩⟩
  | succ g =>
    obtain ⟨cells, turn, rest, e1, e2, r⟩ := TapeAt.ex h
    exact ⟨⟨_, e1⟩, ⟨_, e2⟩⟩
theorem GAt.mono {g n m : Nat} {a l : Addr} {H : Hp} (h : GAt g n a l H) (hm : n ≤ m) : GAt g m a l H := by
  cases g with
  | zero => exact PenAt.mono h hm
  | succ g => exact TapeAt.mono h hm
/-- a slot under another heap and other forbidden ones -/
theorem SRel.imp {F F' G G' : Addr → Prop} {H H' : Hp} {o : Option V} {s : S} (h : SRel F G H o s) (m : ∀ a o, H a = some o → ¬ G a → H' a = some o ∧ ¬ G' a) (mf : ∀ a, s.adr = some a → F' a → F a) (mo : ∀ a, s.adr = some a → ∀ u, H a = some u → H' a = some u) : SRel F' G' H' o s := by
  cases s with
  | no => exact h
  | any => trivial
  | d d => obtain ⟨v, e, r⟩ := h; exact ⟨v, e, r.imp m⟩
  | own f a k ds =>
    obtain ⟨e, hf, vs, ob, r⟩ := h
    exact ⟨e, fun z q => hf z (mf a rfl q), vs, ob.keep (mo a rfl), r.imp m⟩
  | gad g n a =>
    obtain ⟨e, l, ga, nl⟩ := h
    obtain ⟨u, hu⟩ := ga.some.2
    exact ⟨e, l, ga.keep (mo a rfl) (fun o z => (m l o z nl).1), (m l u hu nl).2⟩
theorem All2.imp {α β : Type} {R T : α → β → Prop} {l : List α} {m : List β} (h : All2 R l m) (f : ∀ a b, b ∈ m → R a b → T a b) : All2 T l m := by
  induction h with
  | nil => exact .nil
  | cons h _ ih => exact .cons (f _ _ (by simp) h) (ih fun a b hb => f a b (by simp [hb]))
theorem All2.getR {α β : Type} {R : α → β → Prop} {l : List α} {m : List β} {i : Nat} {b : β} (h : All2 R l m) (e : m[i]? = some b) : ∃ a, l[i]? = some a ∧ R a b := by
  induction h generalizing i with
  | nil => simp at e
  | cons h _ ih =>
    cases i with
    | zero => simp at e; subst e; exact ⟨_, rfl, h⟩
    | succ j => exact ih (by simpa using e)
theorem All2.set {α β : Type} {R : α → β → Prop} {l : List α} {m : List β} {a : α} {b : β} (h : All2 R l m) (i : Nat) (r : R a b) : All2 R (l.set i a) (m.set i b) := by
  induction h generalizing i with
  | nil => exact .nil
  | cons h t ih =>
    cases i with
    | zero => exact .cons r t
    | succ j => exact .cons h (ih j)
theorem All2.setR {α β : Type} {R : α → β → Prop} {l : List α} {m : List β} {b : β} (h : All2 R l m) (i : Nat) (r : ∀ a, l[i]? = some a → R a b) : All2 R l (m.set i b) := by
  induction h generalizing i with
  | nil => exact .nil
  | cons h t ih =>
    cases i with
    | zero => exact .cons (r _ rfl) t
    | succ j => exact .cons h (ih j fun a e => r a (by simpa using e))
theorem mem_owns {δ : En} {a : Addr} : a ∈ owns δ ↔ ∃ s ∈ δ, s.adr = some a := by
  unfold owns; rw [List.mem_filterMap]
theorem owns_split (l1 l2 : En) (s : S) : owns (l1 ++ s :: l2) = owns l1 ++ (s.adr.toList ++ owns l2) := by
  unfold owns
  rw [List.filterMap_append, List.filterMap_cons]
  cases s.adr <;> rfl
theorem split_at {α : Type} {l : List α} {i : Nat} {s : α} (h : l[i]? = some s) : ∃ l1 l2, l = l1 ++ s :: l2 ∧ ∀ s', l.set i s' = l1 ++ s' :: l2 := by
  induction l generalizing i with
  | nil => simp at h
  | cons x r ih =>
    cases i with
    | zero => simp at h; subst h; exact ⟨[], r, rfl, fun _ => rfl⟩
    | succ j =>
      obtain ⟨l1, l2, e, f⟩ := ih (by simpa using h)
      exact ⟨x :: l1, l2, by rw [e]; rfl, fun s' => by rw [List.set_cons_succ, f s']; rfl⟩
/-- a slot is set to one that owns nothing -/
theorem owns_drop {δ : En} {i : Nat} {s s' : S} (e : δ[i]? = some s) (h : s'.adr = none) (nd : (owns δ).Nodup) : (∀ a, a ∈ owns (δ.set i s') → a ∈ owns δ ∧ s.adr ≠ some a) ∧ (owns (δ.set i s')).Nodup := by
  obtain ⟨l1, l2, rfl, f⟩ := split_at e
  rw [f s', owns_split, h]
  rw [owns_split] at nd ⊢
  have nd' := nd
  rw [List.nodup_append] at nd'
  obtain ⟨n1, n2, n3⟩ := nd'
  rw [List.nodup_append] at n2
  obtain ⟨n4, n5, n6⟩ := n2
  refine ⟨fun a ha => ⟨?_, ?_⟩, ?_⟩
  · rcases List.mem_append.mp ha with z | z
    · exact List.mem_append_left _ z
    · exact List.mem_append_right _ (List.mem_append_right _ (by simpa using z))
  · intro z
    rcases List.mem_append.mp ha with q | q
    · exact n3 a q a (by simp [z]) rfl
    · exact n6 a (by simp [z]) a (by simpa using q) rfl
  · rw [List.nodup_append]
    exact ⟨n1, by simpa using n5, fun a ha b hb => n3 a ha b (List.mem_append_right _ (by simpa using hb))⟩
theorem owns_put {δ : En} {i : Nat} {s s' : S} {a : Addr} (e : δ[i]? = some s) (h : s'.adr = some a) (hs : s.adr = some a ∨ a ∉ owns δ) (nd : (owns δ).Nodup) : (∀ b, b ∈ owns (δ.set i s') → b ∈ owns δ ∨ b = a) ∧ (owns (δ.set i s')).Nodup ∧ a ∈ owns (δ.set i s') := by
  obtain ⟨l1, l2, rfl, f⟩ := split_at e
  rw [f s', owns_split, h]
  rw [owns_split] at nd hs ⊢
  have nd' := nd
  rw [List.nodup_append] at nd'
  obtain ⟨n1, n2, n3⟩ := nd'
  rw [List.nodup_append] at n2
  obtain ⟨n4, n5, n6⟩ := n2
  have h1 : a ∉ owns l1 := fun z => by
    rcases hs with hs | hs
    · exact n3 a z a (by simp [hs]) rfl
    · exact hs (List.mem_append_left _ z)
  have h2 : a ∉ owns l2 := fun z => by
    rcases hs with hs | hs
    · exact n6 a (by simp [hs]) a z rfl
    · exact hs (List.mem_append_right _ (List.mem_append_right _ z))
  refine ⟨fun b hb => ?_, ?_, ?_⟩
  · rcases List.mem_append.mp hb with z | z
    · exact .inl (List.mem_append_left _ z)
    · rcases List.mem_append.mp z with z | z
      · simp at z; exact .inr z
      · exact .inl (List.mem_append_right _ (List.mem_append_right _ z))
  · rw [List.nodup_append, List.nodup_append]
    refine ⟨n1, ⟨by simp, n5, ?_⟩, ?_⟩
    · intro x hx y hy z
      simp at hx
      exact h2 (by rw [← hx, z]; exact hy)
    · intro x hx y hy z
      rcases List.mem_append.mp hy with q | q
      · simp at q
        exact h1 (by rw [← q, ← z]; exact hx)
      · exact n3 x hx y (List.mem_append_right _ q) z
  · simp
section
variable {F : Addr → Prop} {σ : St} {δ δ' : En} {H H' : Hp}
theorem Rel.adr (R : Rel F σ δ H) {a : Addr} (h : a ∈ owns δ) : ∃ o, H a = some o := by
  obtain ⟨s, hs, e⟩ := mem_owns.mp h
  obtain ⟨i, hi⟩ := List.mem_iff_getElem?.mp hs
  obtain ⟨o, _, r⟩ := R.sl.getR hi
  cases s with
  | no => cases e
  | any => cases e
  | d d => cases e
  | own f a' k ds => cases e; obtain ⟨_, _, vs, ob, _⟩ := r; exact ob.some
  | gad g n a' => cases e; obtain ⟨_, l, ga, _⟩ := r; exact ga.some.1
/-- the forbidden ones stand -/
theorem Rel.gd (R : Rel F σ δ H) : ∀ a, Fb F δ a → ∃ o, H a = some o := fun a h => by
  rcases h with h | h
  · exact R.fd a h
  · exact R.adr h
theorem Rel.nofb (R : Rel F σ δ H) {p : Addr} (h : H p = none) : ¬ Fb F δ p := fun z => by
  obtain ⟨o, e⟩ := R.gd p z
  rw [e] at h; cases h
/-- only new things came -/
theorem Rel.same (R : Rel F σ δ H) (s : Same H H') : Rel F σ δ H' :=
  ⟨R.sl.imp fun _ _ _ h => h.imp (fun a o e g => ⟨s _ _ e, g⟩) (fun _ _ z => z) (fun _ _ u e => s _ _ e), R.nd, fun a h => by obtain ⟨o, e⟩ := R.fd a h; exact ⟨o, s _ _ e⟩⟩
theorem Fr.same (s : Same H H') : Fr δ H δ H' := ⟨fun _ _ _ e => s _ _ e, fun _ h => .inl h, fun _ _ h => ⟨_, s _ _ h⟩⟩
/-- one more thing is forbidden: a new one -/
theorem Rel.more (R : Rel F σ δ H) (s : Same H H') {a : Addr} (h : H a = none) (h' : ∃ o, H' a = some o) : Rel (Fp F a) σ δ H' := by
  refine ⟨R.sl.imp fun _ x hx hh => hh.imp (fun b o e g => ⟨s _ _ e, fun z => ?_⟩) (fun b eb z => ?_) (fun _ _ u e => s _ _ e), R.nd, fun b hb => ?_⟩
  · rcases z with (z | z) | z
    · exact g (.inl z)
    · subst z; rw [e] at h; cases h
    · exact g (.inr z)
  · rcases z with z | z
    · exact z
    · subst z
      obtain ⟨o, e⟩ := R.adr (mem_owns.mpr ⟨x, hx, eb⟩)
      rw [e] at h; cases h
  · rcases hb with hb | hb
    · obtain ⟨o, e⟩ := R.fd b hb; exact ⟨o, s _ _ e⟩
    · subst hb; exact h'
end
end L2

set_option Elab.async false
set_option linter.all false
set_option maxRecDepth 100000
set_option maxHeartbeats 1000000
namespace L2
open PySem PySem.Spec PyProof.Rows TL
/-! ### an expression's value: plain, a new thing, or what a name holds -/
inductive R where
  | d (d : D) | new (k : Kd) (ds : List D) | var (i : Nat)
def R.dn : R → R
  | .new k ds => .d (.nd k ds)
  | r => r
/-- its data -/
def val (δ : En) (r : R) (Q : D → Prop) : Prop := match r with
  | .d d => Q d
  | .new k ds => Q (.nd k ds)
  | .var i => match δ[i]? with
    | some (.d d) => Q d
    | some (.own _ _ k ds) => Q (.nd k ds)
    | _ => False
/-- its data, given away: nobody writes it any more -/
def frz (δ : En) (r : R) (Q : D → En → Prop) : Prop := match r with
  | .d d => Q d δ
  | .new k ds => Q (.nd k ds) δ
  | .var i => match δ[i]? with
    | some (.d d) => Q d δ
    | some (.own true _ k ds) => Q (.nd k ds) (δ.set i (.d (.nd k ds)))
    | _ => False
def frzL : En → List R → (List D → En → Prop) → Prop
  | δ, [], Q => Q [] δ
  | δ, r :: rs, Q => frz δ r fun d δ1 => frzL δ1 rs fun ds δ2 => Q (d :: ds) δ2
def valL : En → List R → (List D → Prop) → Prop
  | δ, [], Q => Q []
  | δ, r :: rs, Q => val δ r fun d => valL δ rs fun ds => Q (d :: ds)
def RRep (F : Addr → Prop) (σ : St) (H0 : Hp) (δ : En) (H : Hp) (v : V) : R → Prop
  | .d d => Rep (Fb F δ) H v d
  | .new k ds => ∃ a vs, v = .ref a ∧ Ob H a k vs ∧ H0 a = none ∧ ¬ F a ∧ a ∉ owns δ ∧ RepL (Fb (Fp F a) δ) H vs ds ∧ Rel (Fp F a) σ δ H
  | .var i => σ[i]? = some (some v)
section
variable {F : Addr → Prop} {σ : St} {δ δ' : En} {H H' H0 : Hp} {v : V} {r : R}
theorem Fb.sub {a : Addr} : ∀ b, Fb F δ b → Fb (Fp F a) δ b := fun b h => h.elim (fun z => .inl (.inl z)) .inr
theorem RepL.unp {a : Addr} {vs : List V} {ds : List D} (h : RepL (Fb (Fp F a) δ) H vs ds) : RepL (Fb F δ) H vs ds := h.imp fun b o e g => ⟨e, fun z => g (Fb.sub b z)⟩
theorem RRep.mono0 {H1 : Hp} (h : RRep F σ H1 δ H v r) (m : ∀ a, H1 a = none → H0 a = none) : RRep F σ H0 δ H v r := by
  cases r with
  | d d => exact h
  | new k ds => obtain ⟨a, vs, e, ob, hn, r⟩ := h; exact ⟨a, vs, e, ob, m _ hn, r⟩
  | var i => exact h
theorem RRep.dn (h : RRep F σ H0 δ H v r) {H1 : Hp} : RRep F σ H1 δ H v r.dn := by
  cases r with
  | d d => exact h
  | new k ds =>
    obtain ⟨a, vs, rfl, ob, hn, nf, no, rl, _⟩ := h
    exact Rep.nd ob (fun z => z.elim nf no) rl.unp
  | var i => exact h
theorem RRep.mv (h : RRep F σ H0 δ H v r) (f : Fr δ H δ' H') {H1 : Hp} : RRep F σ H1 δ' H' v r.dn := by
  have h' := RRep.dn (H1 := H1) h
  cases r with
  | d d => exact Rep.imp f.mv h'
  | new k ds => exact Rep.imp f.mv h'
  | var i => exact h'
theorem val_w {P : D → Prop} (h : RRep F σ H0 δ H v r) (hr : Rel F σ δ H) (q : val δ r P) : ∃ d, WRep (Fb F δ) H v d ∧ P d := by
  cases r with
  | d d => exact ⟨d, Rep.w h, q⟩
  | new k ds => exact ⟨_, Rep.w (RRep.dn (H1 := H0) h), q⟩
  | var i =>
    have h' : σ[i]? = some (some v) := h
    dsimp only [val] at q
    cases e : δ[i]? with
    | none => rw [e] at q; exact q.elim
    | some s =>
      rw [e] at q
      obtain ⟨o, e2, sr⟩ := hr.sl.getR e
      rw [h'] at e2
      cases e2
      cases s with
      | d d => obtain ⟨u, eu, ru⟩ := sr; cases eu; exact ⟨d, ru.w, q⟩
      | own f a k ds => obtain ⟨eu, _, vs, ob, rl⟩ := sr; cases eu; exact ⟨.nd k ds, ⟨a, vs, rfl, ob, rl⟩, q⟩
      | no => exact q.elim
      | any => exact q.elim
      | gad g n a => exact q.elim
/-- a slot's thing is given away -/
theorem Rel.frz {i : Nat} {a : Addr} {k : Kd} {ds : List D} (hr : Rel F σ δ H) (e : δ[i]? = some (.own true a k ds)) : Rel F σ (δ.set i (.d (.nd k ds))) H ∧ Fr δ H (δ.set i (.d (.nd k ds))) H ∧ σ[i]? = some (some (.ref a)) ∧ Rep (Fb F (δ.set i (.d (.nd k ds)))) H (.ref a) (.nd k ds) := by
  obtain ⟨o, e2, eu, nf, vs, ob, rl⟩ := hr.sl.getR e
  subst eu
  obtain ⟨h1, h2⟩ := owns_drop (s' := .d (.nd k ds)) e rfl hr.nd
  have m : ∀ b o, H b = some o → ¬ Fb F δ b → H b = some o ∧ ¬ Fb F (δ.set i (.d (.nd k ds))) b := fun b o eb g => ⟨eb, fun z => z.elim (fun z => g (.inl z)) fun z => g (.inr (h1 b z).1)⟩
  have rp : Rep (Fb F (δ.set i (.d (.nd k ds)))) H (.ref a) (.nd k ds) := .nd ob (fun z => z.elim (nf rfl) fun z => (h1 a z).2 rfl) (rl.imp m)
  refine ⟨⟨?_, h2, hr.fd⟩, ⟨fun _ _ _ h => h, fun b z => .inl (h1 b z).1, fun _ _ h => ⟨_, h⟩⟩, e2, rp⟩
  refine All2.setR (hr.sl.imp fun _ _ _ h => h.imp m (fun _ _ z => z) (fun _ _ _ z => z)) i fun o eo => ?_
  rw [e2] at eo
  cases eo
  exact ⟨_, rfl, rp⟩
theorem frz_ok {P : D → En → Prop} (h : RRep F σ H0 δ H v r) (hr : Rel F σ δ H) (q : frz δ r P) : ∃ d δ', Rep (Fb F δ') H v d ∧ Rel F σ δ' H ∧ Fr δ H δ' H ∧ P d δ' := by
  cases r with
  | d d => exact ⟨d, δ, h, hr, .refl, q⟩
  | new k ds => exact ⟨_, δ, RRep.dn (H1 := H0) h, hr, .refl, q⟩
  | var i =>
    have h' : σ[i]? = some (some v) := h
    dsimp only [L2.frz] at q
    cases e : δ[i]? with
    | none => rw [e] at q; exact q.elim
    | some s =>
      rw [e] at q
      cases s with
      | d d =>
        obtain ⟨o, e2, u, eu, ru⟩ := hr.sl.getR e
        rw [h'] at e2; cases e2; cases eu
        exact ⟨d, δ, ru, hr, .refl, q⟩
      | own f a k ds =>
        cases f with
        | false => exact q.elim
        | true =>
          obtain ⟨r1, f1, e2, rp⟩ := hr.frz e
          rw [h'] at e2; cases e2
          exact ⟨_, _, rp, r1, f1, q⟩
      | no => exact q.elim
      | any => exact q.elim
      | gad g n a => exact q.elim
end
inductive RRepL (F : Addr → Prop) (σ : St) (H0 : Hp) (δ : En) (H : Hp) : List V → List R → Prop
  | nil : RRepL F σ H0 δ H [] []
  | cons {v : V} {r : R} {vs : List V} {rs : List R} : RRep F σ H0 δ H v r → RRepL F σ H0 δ H vs rs → RRepL F σ H0 δ H (v :: vs) (r :: rs)
section
variable {F : Addr → Prop} {σ : St} {δ δ' : En} {H H' H0 : Hp} {vs : List V} {rs : List R}
theorem RRepL.len (h : RRepL F σ H0 δ H vs rs) : vs.length = rs.length := by
  induction h with
  | nil => rfl
  | cons _ _ ih => simp [ih]
theorem RRepL.mv (h : RRepL F σ H0 δ H vs rs) (f : Fr δ H δ' H') {H1 : Hp} : RRepL F σ H1 δ' H' vs (rs.map R.dn) := by
  induction h with
  | nil => exact .nil
  | cons a _ ih => exact .cons (a.mv f) ih
theorem val_dn {P : D → Prop} {r : R} : val δ r.dn P ↔ val δ r P := by cases r <;> rfl
theorem frz_dn {P : D → En → Prop} {r : R} : frz δ r.dn P ↔ frz δ r P := by cases r <;> rfl
theorem frzL_dn : ∀ {rs : List R} {δ : En} {P : List D → En → Prop}, frzL δ (rs.map R.dn) P ↔ frzL δ rs P
  | [], _, _ => Iff.rfl
  | r :: rs, δ, P => by
    show frz δ r.dn _ ↔ frz δ r _
    rw [frz_dn]
    have : (fun d δ1 => frzL δ1 (rs.map R.dn) fun ds δ2 => P (d :: ds) δ2) = fun d δ1 => frzL δ1 rs fun ds δ2 => P (d :: ds) δ2 := by funext d δ1; exact propext frzL_dn
    rw [this]
inductive WRepL (G : Addr → Prop) (H : Hp) : List V → List D → Prop
  | nil : WRepL G H [] []
  | cons {v : V} {d : D} {vs : List V} {ds : List D} : WRep G H v d → WRepL G H vs ds → WRepL G H (v :: vs) (d :: ds)
theorem valL_w {P : List D → Prop} (h : RRepL F σ H0 δ H vs rs) (hr : Rel F σ δ H) (q : valL δ rs P) : ∃ ds, WRepL (Fb F δ) H vs ds ∧ P ds := by
  induction h generalizing P with
  | nil => exact ⟨[], .nil, q⟩
  | cons a _ ih =>
    obtain ⟨d, w1, q1⟩ := val_w a hr q
    obtain ⟨ds, w2, q2⟩ := ih q1
    exact ⟨_, .cons w1 w2, q2⟩
theorem frzL_ok : ∀ {vs : List V} {rs : List R} {δ : En} {H0 : Hp} {P : List D → En → Prop}, RRepL F σ H0 δ H vs rs → Rel F σ δ H → frzL δ rs P → ∃ ds δ', RepL (Fb F δ') H vs ds ∧ Rel F σ δ' H ∧ Fr δ H δ' H ∧ P ds δ'
  | _, _, δ, _, _, .nil, hr, q => ⟨[], δ, .nil, hr, .refl, q⟩
  | _, _, δ, H0, P, .cons (rs := rs) a b, hr, q => by
    obtain ⟨d, δ1, rp, r1, f1, q1⟩ := frz_ok a hr q
    obtain ⟨ds, δ2, rl, r2, f2, q2⟩ := frzL_ok (b.mv f1 (H1 := H0)) r1 (frzL_dn.mpr q1)
    exact ⟨_, δ2, .cons (rp.imp f2.mv) rl, r2, f1.trans f2, q2⟩
end
/-! ### readings over data -/
abbrev XDK := Addr → List (Str × D) → En → Prop
abbrev DKt := R → En → Prop
abbrev TDE := En → DKt → XDK → Prop
abbrev TDT := En → (Bool → En → Prop) → XDK → Prop
abbrev TDA := En → (List R → En → Prop) → XDK → Prop
structure DEnds where
  nx : En → Prop
  rt : DKt
  bk : En → Prop := fun _ => False
  ct : En → Prop := fun _ => False
  xc : XDK := fun _ _ _ => False
abbrev TDS := DEnds → En → Prop
def XRep (G : Addr → Prop) (H : Hp) (od : Option Addr) (fs : List (Str × D)) : Prop := ∃ d vs, od = some d ∧ H d = some (.xd ((fs.map (·.1)).zip vs)) ∧ ¬ G d ∧ RepL G H vs (fs.map (·.2))
def XOk (E : XKS) (F : Addr → Prop) (δ : En) (H : Hp) (Xd : XDK) : Prop := ∀ C fs δ' σ' H' od, Xd C fs δ' → Rel F σ' δ' H' → Fr δ H δ' H' → XRep (Fb F δ') H' od fs → E σ' (.ref C) od H'
theorem XOk.step {E : XKS} {F : Addr → Prop} {δ δ1 : En} {H H1 : Hp} {Xd : XDK} (x : XOk E F δ H Xd) (f : Fr δ H δ1 H1) : XOk E F δ1 H1 Xd := fun C fs δ' σ' H' od q r g p => x C fs δ' σ' H' od q r (f.trans g) p
class DR (E : XKS) (t : TE) (td : outParam TDE) : Prop where
  r : ∀ F σ δ H Q Qd Xd, Rel F σ δ H → td δ Qd Xd → (∀ r δ' v H', Qd r δ' → Rel F σ δ' H' → Fr δ H δ' H' → RRep F σ H δ' H' v r → Q v H') → XOk E F δ H Xd → t σ H Q
class DT (E : XKS) (t : TT) (td : outParam TDT) : Prop where
  r : ∀ F σ δ H Q Qd Xd, Rel F σ δ H → td δ Qd Xd → (∀ b δ' H', Qd b δ' → Rel F σ δ' H' → Fr δ H δ' H' → Q b H') → XOk E F δ H Xd → t σ H Q
class DA (E : XKS) (t : TA) (td : outParam TDA) : Prop where
  r : ∀ F σ δ H Q Qd Xd, Rel F σ δ H → td δ Qd Xd → (∀ rs δ' vs H', Qd rs δ' → Rel F σ δ' H' → Fr δ H δ' H' → RRepL F σ H δ' H' vs rs → Q vs H') → XOk E F δ H Xd → t σ H Q
structure EndsOk (E : XKS) (F : Addr → Prop) (δ : En) (H : Hp) (D : Ends) (Ed : DEnds) : Prop where
  nx : ∀ σ' δ' H', Ed.nx δ' → Rel F σ' δ' H' → Fr δ H δ' H' → D.nx σ' H'
  rt : ∀ r σ' δ' v H', Ed.rt r δ' → Rel F σ' δ' H' → Fr δ H δ' H' → RRep F σ' H δ' H' v r → D.rt v H'
  bk : ∀ σ' δ' H', Ed.bk δ' → Rel F σ' δ' H' → Fr δ H δ' H' → D.bk σ' H'
  ct : ∀ σ' δ' H', Ed.ct δ' → Rel F σ' δ' H' → Fr δ H δ' H' → D.ct σ' H'
  xc : XOk E F δ H Ed.xc
theorem EndsOk.step {E : XKS} {F : Addr → Prop} {δ δ1 : En} {H H1 : Hp} {D : Ends} {Ed : DEnds} (x : EndsOk E F δ H D Ed) (f : Fr δ H δ1 H1) : EndsOk E F δ1 H1 D Ed :=
  ⟨fun σ' δ' H' q r g => x.nx σ' δ' H' q r (f.trans g), fun r σ' δ' v H' q rl g p => x.rt r σ' δ' v H' q rl (f.trans g) (p.mono0 fun a h => f.free h), fun σ' δ' H' q r g => x.bk σ' δ' H' q r (f.trans g), fun σ' δ' H' q r g => x.ct σ' δ' H' q r (f.trans g), x.xc.step f⟩
class DS (E : XKS) (t : TS) (td : outParam TDS) : Prop where
  r : ∀ F σ δ H D Ed, Rel F σ δ H → td Ed δ → EndsOk E F δ H D Ed → t D σ H
/-! ### what is done with values: the heap but grows -/
def OpOut (G : Addr → Prop) (H H' : Hp) (v : V) : R → Prop
  | .d d => Rep G H' v d
  | .new k ds => ∃ a vs, v = .ref a ∧ H a = none ∧ Ob H' a k vs ∧ RepL (fun b => G b ∨ b = a) H' vs ds
  | .var _ => False
class DV1 (r : V → Hp → VK → Prop) (rd : outParam (D → (R → Prop) → Prop)) : Prop where
  r : ∀ G H x d Q Qd, (∀ a, G a → ∃ o, H a = some o) → WRep G H x d → rd d Qd → (∀ z v H', Qd z → Same H H' → OpOut G H H' v z → Q v H') → r x H Q
class DV2 (r : R2) (rd : outParam (D → D → (R → Prop) → Prop)) : Prop where
  r : ∀ G H x y d e Q Qd, (∀ a, G a → ∃ o, H a = some o) → WRep G H x d → WRep G H y e → rd d e Qd → (∀ z v H', Qd z → Same H H' → OpOut G H H' v z → Q v H') → r x y H Q
class DVn (r : List V → Hp → VK → Prop) (rd : outParam (List D → (R → Prop) → Prop)) : Prop where
  r : ∀ G H xs ds Q Qd, (∀ a, G a → ∃ o, H a = some o) → WRepL G H xs ds → rd ds Qd → (∀ z v H', Qd z → Same H H' → OpOut G H H' v z → Q v H') → r xs H Q
theorem OpOut.out {F : Addr → Prop} {σ : St} {δ : En} {H H' : Hp} {v : V} {z : R} (o : OpOut (Fb F δ) H H' v z) (s : Same H H') (hr : Rel F σ δ H) : RRep F σ H δ H' v z := by
  cases z with
  | d d => exact o
  | new k ds =>
    obtain ⟨a, vs, rfl, hn, ob, rl⟩ := o
    refine ⟨a, vs, rfl, ob, hn, fun z => hr.nofb hn (.inl z), fun z => hr.nofb hn (.inr z), rl.imp fun b o e g => ⟨e, fun z => g ?_⟩, hr.more s hn ob.some⟩
    rcases z with (z | z) | z
    · exact .inl (.inl z)
    · exact .inr z
    · exact .inl (.inr z)
  | var i => exact o.elim
section
variable {E : XKS}
/-! ### names, constants -/
def dVar (i : Nat) : TDE := fun δ Q _ => match δ[i]? with
  | some (.d _) => Q (.var i) δ
  | some (.own _ _ _ _) => Q (.var i) δ
  | some (.gad _ _ _) => Q (.var i) δ
  | _ => False
instance i_var {i : Nat} : DR E (tVar i) (dVar i) where
  r := fun F σ δ H Q Qd Xd hr q k _ => by
    unfold dVar at q
    cases e : δ[i]? with
    | none => rw [e] at q; exact q.elim
    | some s =>
      rw [e] at q
      obtain ⟨o, e2, sr⟩ := hr.sl.getR e
      have go : ∀ v, o = some v → Qd (.var i) δ → tVar i σ H Q := fun v hv q => by
        subst hv
        exact ⟨v, e2, k (.var i) δ v H q hr .refl e2⟩
      cases s with
      | d d => obtain ⟨v, hv, _⟩ := sr; exact go v hv q
      | own f a k' ds => exact go _ sr.1 q
      | gad g n a => exact go _ sr.1 q
      | no => exact q.elim
      | any => exact q.elim
def dC (v : V) : TDE := fun δ Q _ => Q (.d (.v v)) δ
instance i_c {v : V} : DR E (tC v) (dC v) where
  r := fun F σ δ H Q Qd Xd hr q k _ => k _ δ v H q hr .refl (Rep.v v)
/-! ### operators -/
def dUn (rd : D → (R → Prop) → Prop) (ta : TDE) : TDE := fun δ Q X => ta δ (fun x δ1 => val δ1 x fun d => rd d fun z => Q z δ1) X
instance i_un {r : V → Hp → VK → Prop} {rd : D → (R → Prop) → Prop} {ta : TE} {da : TDE} [h : DV1 r rd] [a : DR E ta da] : DR E (tUn r ta) (dUn rd da) where
  r := fun F σ δ H Q Qd Xd hr q k xo => by
    refine a.r F σ δ H _ _ Xd hr q (fun x δ1 v1 H1 q1 R1 f1 p1 => ?_) xo
    obtain ⟨d, w, q2⟩ := val_w p1 R1 q1
    refine h.r (Fb F δ1) H1 v1 d _ _ R1.gd w q2 fun z v H' q3 s o => ?_
    exact k z δ1 v H' q3 (R1.same s) (f1.trans (.same s)) ((o.out s R1).mono0 fun a h => f1.free h)
def dOp (rd : D → D → (R → Prop) → Prop) (ta tb : TDE) : TDE := fun δ Q X => ta δ (fun x δ1 => tb δ1 (fun y δ2 => val δ2 x fun d => val δ2 y fun e => rd d e fun z => Q z δ2) X) X
instance i_op {r : R2} {rd : D → D → (R → Prop) → Prop} {ta tb : TE} {da db : TDE} [h : DV2 r rd] [a : DR E ta da] [b : DR E tb db] : DR E (tOp r ta tb) (dOp rd da db) where
  r := fun F σ δ H Q Qd Xd hr q k xo => by
    refine a.r F σ δ H _ _ Xd hr q (fun x δ1 v1 H1 q1 R1 f1 p1 => ?_) xo
    refine b.r F σ δ1 H1 _ _ Xd R1 q1 (fun y δ2 v2 H2 q2 R2 f2 p2 => ?_) (xo.step f1)
    have p1' := p1.mv f2 (H1 := H2)
    obtain ⟨d, w1, q3⟩ := val_w p1' R2 (val_dn.mpr q2)
    obtain ⟨e, w2, q4⟩ := val_w p2 R2 q3
    refine h.r (Fb F δ2) H2 v1 v2 d e _ _ R2.gd w1 w2 q4 fun z v H' q5 s o => ?_
    exact k z δ2 v H' q5 (R2.same s) ((f1.trans f2).trans (.same s)) ((o.out s R2).mono0 fun a h => (f1.trans f2).free h)
/-! ### argument lists, displays -/
def dNil : TDA := fun δ Q _ => Q [] δ
instance i_nil : DA E tNil dNil where
  r := fun F σ δ H Q Qd Xd hr q k _ => k [] δ [] H q hr .refl .nil
def dCons (ta : TDE) (tr : TDA) : TDA := fun δ Q X => ta δ (fun x δ1 => tr δ1 (fun xs δ2 => Q (x.dn :: xs) δ2) X) X
instance i_cons {ta : TE} {tr : TA} {da : TDE} {dr : TDA} [a : DR E ta da] [b : DA E tr dr] : DA E (tCons ta tr) (dCons da dr) where
  r := fun F σ δ H Q Qd Xd hr q k xo => by
    refine a.r F σ δ H _ _ Xd hr q (fun x δ1 v1 H1 q1 R1 f1 p1 => ?_) xo
    refine b.r F σ δ1 H1 _ _ Xd R1 q1 (fun rs δ2 vs H2 q2 R2 f2 p2 => ?_) (xo.step f1)
    refine k _ δ2 _ H2 q2 R2 (f1.trans f2) (.cons (p1.mv f2) ?_)
    clear q2 k q1
    induction p2 with
    | nil => exact .nil
    | cons a _ ih => exact .cons (a.mono0 fun a h => f1.free h) ih
def dTup (t : TDA) : TDE := fun δ Q X => t δ (fun rs δ1 => rs.length ≤ sizeLine ∧ frzL δ1 rs fun ds δ2 => Q (.d (.nd .tup ds)) δ2) X
def dLst (t : TDA) : TDE := fun δ Q X => t δ (fun rs δ1 => rs.length ≤ sizeLine ∧ frzL δ1 rs fun ds δ2 => Q (.new .lst ds) δ2) X
theorem new_out {F : Addr → Prop} {σ : St} {δ : En} {H : Hp} {vs : List V} {ds : List D} {p : Addr} {k : Kd} {o : HO} (R1 : Rel F σ δ H) (rl : RepL (Fb F δ) H vs ds) (hp : H p = none) (ob : Ob (upd H p o) p k vs) : OpOut (Fb F δ) H (upd H p o) (.ref p) (.new k ds) :=
  ⟨p, vs, rfl, hp, ob, rl.imp fun b u e g => ⟨Same.new hp _ _ e, fun z => z.elim g fun z => by subst z; rw [e] at hp; cases hp⟩⟩
instance i_tup {ta : TA} {da : TDA} [a : DA E ta da] : DR E (tTup ta) (dTup da) where
  r := fun F σ δ H Q Qd Xd hr q k xo => by
    refine a.r F σ δ H _ _ Xd hr q (fun rs δ1 vs H1 ⟨hl, q1⟩ R1 f1 p1 => ⟨by rw [p1.len]; exact hl, fun p hp => ?_⟩) xo
    obtain ⟨ds, δ2, rl, R2, f2, q2⟩ := frzL_ok p1 R1 q1
    refine k _ δ2 _ _ q2 (R2.same (Same.new hp)) ((f1.trans f2).trans (.same (Same.new hp))) (Rep.nd upd_same (R2.nofb hp) (rl.imp fun b o e g => ⟨Same.new hp _ _ e, g⟩))
instance i_lst {ta : TA} {da : TDA} [a : DA E ta da] : DR E (tLst ta) (dLst da) where
  r := fun F σ δ H Q Qd Xd hr q k xo => by
    refine a.r F σ δ H _ _ Xd hr q (fun rs δ1 vs H1 ⟨hl, q1⟩ R1 f1 p1 => ⟨by rw [p1.len]; exact hl, fun p hp => ?_⟩) xo
    obtain ⟨ds, δ2, rl, R2, f2, q2⟩ := frzL_ok p1 R1 q1
    exact k _ δ2 _ _ q2 (R2.same (Same.new hp)) ((f1.trans f2).trans (.same (Same.new hp))) (((new_out (k := .lst) (o := .lst vs) R2 rl hp upd_same).out (Same.new hp) R2).mono0 fun a h => (f1.trans f2).free h)
/-! ### built-in calls -/
def dCB (rd : List D → (R → Prop) → Prop) (t : TDA) : TDE := fun δ Q X => t δ (fun rs δ1 => valL δ1 rs fun ds => rd ds fun z => Q z δ1) X
instance i_cb {r : List V → Hp → VK → Prop} {rd : List D → (R → Prop) → Prop} {ta : TA} {da : TDA} [h : DVn r rd] [a : DA E ta da] : DR E (tCB r ta) (dCB rd da) where
  r := fun F σ δ H Q Qd Xd hr q k xo => by
    refine a.r F σ δ H _ _ Xd hr q (fun rs δ1 vs H1 q1 R1 f1 p1 => ?_) xo
    obtain ⟨ds, w, q2⟩ := valL_w p1 R1 q1
    refine h.r (Fb F δ1) H1 vs ds _ _ R1.gd w q2 fun z v H' q3 s o => ?_
    exact k z δ1 v H' q3 (R1.same s) (f1.trans (.same s)) ((o.out s R1).mono0 fun a h => f1.free h)
end
end L2

set_option Elab.async false
set_option linter.all false
set_option maxRecDepth 100000
set_option maxHeartbeats 1000000
namespace L2
open PySem PySem.Spec PyProof.Rows TL
section
variable {E : XKS}
/-! ### tests -/
def dTestV (ta : TDE) : TDT := fun δ Q X => ta δ (fun x δ1 => val δ1 x fun d => match d with | .v (.bl c) => Q c δ1 | _ => False) X
theorem val_bl {F : Addr → Prop} {σ : St} {δ : En} {H H0 : Hp} {v : V} {r : R} {P : Bool → Prop} (h : RRep F σ H0 δ H v r) (hr : Rel F σ δ H) (q : val δ r fun d => match d with | .v (.bl c) => P c | _ => False) : ∃ c, v = .bl c ∧ P c := by
  obtain ⟨d, w, q⟩ := val_w h hr q
  match d, w, q with
  | .v (.bl c), w, q => exact ⟨c, w, q⟩
instance i_tB {t : TE} {d : TDE} [a : DR E t d] : DT E (tB t) (dTestV d) where
  r := fun F σ δ H Q Qd Xd hr q k xo => by
    refine a.r F σ δ H _ _ Xd hr q (fun x δ1 v1 H1 q1 R1 f1 p1 => ?_) xo
    obtain ⟨c, e, q⟩ := val_bl p1 R1 q1
    exact ⟨c, e, k c δ1 H1 q R1 f1⟩
instance i_tTest {t : TE} {d : TDE} [a : DR E t d] : DT E (tTest t) (dTestV d) where
  r := fun F σ δ H Q Qd Xd hr q k xo => by
    refine a.r F σ δ H _ _ Xd hr q (fun x δ1 v1 H1 q1 R1 f1 p1 => ?_) xo
    obtain ⟨c, e, q⟩ := val_bl p1 R1 q1
    exact ⟨c, e, k c δ1 H1 q R1 f1⟩
def dAnd (t u : TDT) : TDT := fun δ Q X => t δ (fun c δ1 => if c = true then u δ1 Q X else Q false δ1) X
def dOr (t u : TDT) : TDT := fun δ Q X => t δ (fun c δ1 => if c = true then Q true δ1 else u δ1 Q X) X
def dNot (t : TDT) : TDT := fun δ Q X => t δ (fun c δ1 => Q (!c) δ1) X
instance i_and {t u : TT} {a b : TDT} [x : DT E t a] [y : DT E u b] : DT E (tAnd t u) (dAnd a b) where
  r := fun F σ δ H Q Qd Xd hr q k xo => by
    refine x.r F σ δ H _ _ Xd hr q (fun c δ1 H1 q1 R1 f1 => ?_) xo
    cases c with
    | true => exact y.r F σ δ1 H1 _ _ Xd R1 q1 (fun c δ2 H2 q2 R2 f2 => k c δ2 H2 q2 R2 (f1.trans f2)) (xo.step f1)
    | false => exact k false δ1 H1 q1 R1 f1
instance i_or {t u : TT} {a b : TDT} [x : DT E t a] [y : DT E u b] : DT E (tOr t u) (dOr a b) where
  r := fun F σ δ H Q Qd Xd hr q k xo => by
    refine x.r F σ δ H _ _ Xd hr q (fun c δ1 H1 q1 R1 f1 => ?_) xo
    cases c with
    | false => exact y.r F σ δ1 H1 _ _ Xd R1 q1 (fun c δ2 H2 q2 R2 f2 => k c δ2 H2 q2 R2 (f1.trans f2)) (xo.step f1)
    | true => exact k true δ1 H1 q1 R1 f1
instance i_not {t : TT} {a : TDT} [x : DT E t a] : DT E (tNot t) (dNot a) where
  r := fun F σ δ H Q Qd Xd hr q k xo => x.r F σ δ H _ _ Xd hr q (fun c δ1 H1 q1 R1 f1 => k _ δ1 H1 q1 R1 f1) xo
def dYes : TDT := fun δ Q _ => Q true δ
instance i_yes : DT E tYes dYes where
  r := fun F σ δ H Q Qd Xd hr q k xo => k true δ H q hr .refl
def dAndV (ta tb : TDE) : TDE := fun δ Q X => dTestV ta δ (fun c δ1 => if c = true then tb δ1 Q X else Q (.d (.v (.bl false))) δ1) X
def dOrV (ta tb : TDE) : TDE := fun δ Q X => dTestV ta δ (fun c δ1 => if c = true then Q (.d (.v (.bl true))) δ1 else tb δ1 Q X) X
def dNotV (ta : TDE) : TDE := fun δ Q X => dTestV ta δ (fun c δ1 => Q (.d (.v (.bl (!c)))) δ1) X
theorem RRep.tr {F : Addr → Prop} {σ : St} {δ δ1 δ2 : En} {H H1 H2 : Hp} {v : V} {r : R} (h : RRep F σ H1 δ2 H2 v r) (f : Fr δ H δ1 H1) : RRep F σ H δ2 H2 v r := h.mono0 fun a h => f.free h
instance i_andV {t u : TE} {a b : TDE} [x : DR E t a] [y : DR E u b] : DR E (tAndV t u) (dAndV a b) where
  r := fun F σ δ H Q Qd Xd hr q k xo => by
    refine x.r F σ δ H _ _ Xd hr q (fun x δ1 v1 H1 q1 R1 f1 p1 => ?_) xo
    obtain ⟨c, e, q⟩ := val_bl p1 R1 q1
    refine ⟨c, e, ?_⟩
    cases c with
    | true => exact y.r F σ δ1 H1 _ _ Xd R1 q (fun r δ2 v H2 q2 R2 f2 p => k r δ2 v H2 q2 R2 (f1.trans f2) (p.tr f1)) (xo.step f1)
    | false => exact k _ δ1 _ H1 q R1 f1 (Rep.v _)
instance i_orV {t u : TE} {a b : TDE} [x : DR E t a] [y : DR E u b] : DR E (tOrV t u) (dOrV a b) where
  r := fun F σ δ H Q Qd Xd hr q k xo => by
    refine x.r F σ δ H _ _ Xd hr q (fun x δ1 v1 H1 q1 R1 f1 p1 => ?_) xo
    obtain ⟨c, e, q⟩ := val_bl p1 R1 q1
    refine ⟨c, e, ?_⟩
    cases c with
    | false => exact y.r F σ δ1 H1 _ _ Xd R1 q (fun r δ2 v H2 q2 R2 f2 p => k r δ2 v H2 q2 R2 (f1.trans f2) (p.tr f1)) (xo.step f1)
    | true => exact k _ δ1 _ H1 q R1 f1 (Rep.v _)
instance i_notV {t : TE} {a : TDE} [x : DR E t a] : DR E (tNotV t) (dNotV a) where
  r := fun F σ δ H Q Qd Xd hr q k xo => by
    refine x.r F σ δ H _ _ Xd hr q (fun x δ1 v1 H1 q1 R1 f1 p1 => ?_) xo
    obtain ⟨c, e, q⟩ := val_bl p1 R1 q1
    exact ⟨c, e, k _ δ1 _ H1 q R1 f1 (Rep.v _)⟩
def dIf (t : TDT) (ta tb : TDE) : TDE := fun δ Q X => t δ (fun c δ1 => if c = true then ta δ1 Q X else tb δ1 Q X) X
instance i_if {t : TT} {u w : TE} {d : TDT} {a b : TDE} [z : DT E t d] [x : DR E u a] [y : DR E w b] : DR E (tIf t u w) (dIf d a b) where
  r := fun F σ δ H Q Qd Xd hr q k xo => by
    refine z.r F σ δ H _ _ Xd hr q (fun c δ1 H1 q1 R1 f1 => ?_) xo
    cases c with
    | true => exact x.r F σ δ1 H1 _ _ Xd R1 q1 (fun r δ2 v H2 q2 R2 f2 p => k r δ2 v H2 q2 R2 (f1.trans f2) (p.tr f1)) (xo.step f1)
    | false => exact y.r F σ δ1 H1 _ _ Xd R1 q1 (fun r δ2 v H2 q2 R2 f2 p => k r δ2 v H2 q2 R2 (f1.trans f2) (p.tr f1)) (xo.step f1)
/-! ### statements -/
def sNext : TDS := fun D δ => D.nx δ
instance i_next : DS E tNext sNext where
  r := fun F σ δ H D Ed hr q k => k.nx σ δ H q hr .refl
def sSeq (t u : TDS) : TDS := fun D δ => t { D with nx := u D } δ
instance i_seq {t u : TS} {a b : TDS} [x : DS E t a] [y : DS E u b] : DS E (tSeq t u) (sSeq a b) where
  r := fun F σ δ H D Ed hr q k => x.r F σ δ H _ _ hr q ⟨fun σ' δ' H' q r f => y.r F σ' δ' H' D Ed r q (k.step f), k.rt, k.bk, k.ct, k.xc⟩
/-- a cut: what stands behind is said once -/
def sSeqC (t u : TDS) : TDS := fun D δ => ∃ R : En → Prop, t { D with nx := R } δ ∧ ∀ δ', R δ' → u D δ'
instance i_seqC {t u : TS} {a b : TDS} [x : DS E t a] [y : DS E u b] : DS E (tSeqC t u) (sSeqC a b) where
  r := fun F σ δ H D Ed hr q k => by
    obtain ⟨C, q1, q2⟩ := q
    refine ⟨fun σ' H' => ∃ δ', C δ' ∧ Rel F σ' δ' H' ∧ Fr δ H δ' H', x.r F σ δ H _ _ hr q1 ⟨fun σ' δ' H' q r f => ⟨δ', q, r, f⟩, k.rt, k.bk, k.ct, k.xc⟩, ?_⟩
    rintro σ' H' ⟨δ', c, r, f⟩
    exact y.r F σ' δ' H' D Ed r (q2 δ' c) (k.step f)
def sBreak : TDS := fun D δ => D.bk δ
instance i_break : DS E tBreak sBreak where
  r := fun F σ δ H D Ed hr q k => k.bk σ δ H q hr .refl
def sCont : TDS := fun D δ => D.ct δ
instance i_cont : DS E tCont sCont where
  r := fun F σ δ H D Ed hr q k => k.ct σ δ H q hr .refl
def sDrop (te : TDE) : TDS := fun D δ => te δ (fun _ δ1 => D.nx δ1) D.xc
instance i_drop {t : TE} {a : TDE} [x : DR E t a] : DS E (tDrop t) (sDrop a) where
  r := fun F σ δ H D Ed hr q k => x.r F σ δ H _ _ _ hr q (fun r δ1 v H1 q1 R1 f1 _ => k.nx σ δ1 H1 q1 R1 f1) k.xc
def sRet (te : TDE) : TDS := fun D δ => te δ D.rt D.xc
instance i_ret {t : TE} {a : TDE} [x : DR E t a] : DS E (tRet t) (sRet a) where
  r := fun F σ δ H D Ed hr q k => x.r F σ δ H _ _ _ hr q (fun r δ1 v H1 q1 R1 f1 p => k.rt r σ δ1 v H1 q1 R1 f1 p) k.xc
def sRetN : TDS := fun D δ => D.rt (.d (.v .non)) δ
instance i_retN : DS E tRetN sRetN where
  r := fun F σ δ H D Ed hr q k => k.rt _ σ δ .non H q hr .refl (Rep.v _)
def sIf (c : TDT) (t u : TDS) : TDS := fun D δ => c δ (fun b δ1 => if b = true then t D δ1 else u D δ1) D.xc
instance i_ifS {c : TT} {t u : TS} {d : TDT} {a b : TDS} [z : DT E c d] [x : DS E t a] [y : DS E u b] : DS E (tIfS c t u) (sIf d a b) where
  r := fun F σ δ H D Ed hr q k => by
    refine z.r F σ δ H _ _ _ hr q (fun c δ1 H1 q1 R1 f1 => ?_) k.xc
    cases c with
    | true => exact x.r F σ δ1 H1 D Ed R1 q1 (k.step f1)
    | false => exact y.r F σ δ1 H1 D Ed R1 q1 (k.step f1)
def sNever : TDS := fun _ _ => False
instance i_never : DS E tNever sNever where
  r := fun F σ δ H D Ed hr q k => q.elim
/-! ### targets -/
end
abbrev TDG := R → En → (En → Prop) → Prop
class DG (g : TG) (gd : outParam TDG) (sl : outParam (List Nat)) : Prop where
  r : ∀ F σ δ H H0 v r Q Qd, Rel F σ δ H → RRep F σ H0 δ H v r → gd r δ Qd → (∀ σ' δ' H', Qd δ' → Rel F σ' δ' H' → (∀ δ0, Fr δ0 H0 δ H → Fr δ0 H0 δ' H') → (∀ vs, (∀ i ∈ sl, i ∈ vs) → wipe σ' vs = wipe σ vs) → Q σ' H') → g v σ H Q
abbrev TDGs := List D → En → (En → Prop) → Prop
class DGs (g : TGs) (gd : outParam TDGs) (sl : outParam (List Nat)) : Prop where
  r : ∀ F σ δ H H0 vs ds Q Qd, Rel F σ δ H → RepL (Fb F δ) H vs ds → gd ds δ Qd → (∀ σ' δ' H', Qd δ' → Rel F σ' δ' H' → (∀ δ0, Fr δ0 H0 δ H → Fr δ0 H0 δ' H') → (∀ vs, (∀ i ∈ sl, i ∈ vs) → wipe σ' vs = wipe σ vs) → Q σ' H') → g vs σ H Q
theorem wipe_set {σ : St} {i : Nat} {x : Option V} : ∀ {vs : List Nat}, i ∈ vs → wipe (σ.set i x) vs = wipe σ vs
  | v :: vs, h => by
    show (wipe (σ.set i x) vs).set v none = (wipe σ vs).set v none
    by_cases e : i ∈ vs
    · rw [wipe_set e]
    · have : i = v := by
        rcases List.mem_cons.mp h with z | z
        · exact z
        · exact absurd z e
      subst this
      have c : ∀ (ws : List Nat), i ∉ ws → wipe (σ.set i x) ws = (wipe σ ws).set i x := by
        intro ws
        induction ws with
        | nil => intro _; rfl
        | cons u ws ih =>
          intro hu
          show (wipe (σ.set i x) ws).set u none = ((wipe σ ws).set u none).set i x
          rw [ih fun z => hu (List.mem_cons_of_mem _ z), List.set_comm _ _ (fun z => hu (by rw [z]; exact List.mem_cons_self))]
      rw [c vs e, List.set_set]
/-- what a name is given -/
def gSet (i : Nat) : TDG := fun r δ Q => match r with
  | .d d => Q (δ.set i (.d d))
  | .new .tup ds => Q (δ.set i (.d (.nd .tup ds)))
  | .new k ds => ∀ a, Q (δ.set i (.own true a k ds))
  | .var j => match δ[j]? with
    | some (.d d) => Q (δ.set i (.d d))
    | some (.own true a k ds) => Q ((δ.set j (.d (.nd k ds))).set i (.d (.nd k ds)))
    | _ => False
section
variable {F : Addr → Prop} {σ : St} {δ δ' : En} {H H' H0 : Hp} {v : V} {i : Nat}
theorem Rel.setD {d : D} (hr : Rel F σ δ H) (rp : Rep (Fb F δ) H v d) : Rel F (σ.set i (some v)) (δ.set i (.d d)) H ∧ ∀ a, a ∈ owns (δ.set i (.d d)) → a ∈ owns δ := by
  by_cases hi : i < δ.length
  · have e : δ[i]? = some δ[i] := List.getElem?_eq_getElem hi
    obtain ⟨h1, h2⟩ := owns_drop (s' := .d d) e rfl hr.nd
    have m : ∀ b o, H b = some o → ¬ Fb F δ b → H b = some o ∧ ¬ Fb F (δ.set i (.d d)) b := fun b o eb g => ⟨eb, fun z => z.elim (fun z => g (.inl z)) fun z => g (.inr (h1 b z).1)⟩
    exact ⟨⟨(hr.sl.imp fun _ _ _ h => h.imp m (fun _ _ z => z) (fun _ _ _ z => z)).set i ⟨_, rfl, rp.imp m⟩, h2, hr.fd⟩, fun a z => (h1 a z).1⟩
  · have h1 : δ.set i (.d d) = δ := List.set_eq_of_length_le (by omega)
    have h2 : σ.set i (some v) = σ := List.set_eq_of_length_le (by rw [hr.sl.len]; omega)
    rw [h1, h2]
    exact ⟨hr, fun _ z => z⟩
theorem Rel.setO {a : Addr} {k : Kd} {ds : List D} {vs : List V} (hr : Rel (Fp F a) σ δ H) (ob : Ob H a k vs) (nf : ¬ F a) (no : a ∉ owns δ) (rl : RepL (Fb (Fp F a) δ) H vs ds) : Rel F (σ.set i (some (.ref a))) (δ.set i (.own true a k ds)) H ∧ ∀ b, b ∈ owns (δ.set i (.own true a k ds)) → b ∈ owns δ ∨ b = a := by
  by_cases hi : i < δ.length
  · have e : δ[i]? = some δ[i] := List.getElem?_eq_getElem hi
    obtain ⟨h1, h2, h3⟩ := owns_put (s' := .own true a k ds) e rfl (.inr no) hr.nd
    have m : ∀ b o, H b = some o → ¬ Fb (Fp F a) δ b → H b = some o ∧ ¬ Fb F (δ.set i (.own true a k ds)) b := fun b o eb g => ⟨eb, fun z => z.elim (fun z => g (.inl (.inl z))) fun z => (h1 b z).elim (fun z => g (.inr z)) fun z => g (.inl (.inr z))⟩
    exact ⟨⟨(hr.sl.imp fun _ _ _ h => h.imp m (fun _ _ z => .inl z) (fun _ _ _ z => z)).set i ⟨rfl, fun _ => nf, vs, ob, rl.imp m⟩, h2, fun b z => hr.fd b (.inl z)⟩, h1⟩
  · have h1 : δ.set i (.own true a k ds) = δ := List.set_eq_of_length_le (by omega)
    have h2 : σ.set i (some (.ref a)) = σ := List.set_eq_of_length_le (by rw [hr.sl.len]; omega)
    rw [h1, h2]
    refine ⟨⟨hr.sl.imp fun _ _ _ h => h.imp (fun b o e g => ⟨e, fun z => g (Fb.sub b z)⟩) (fun _ _ z => .inl z) (fun _ _ _ z => z), hr.nd, fun b z => hr.fd b (.inl z)⟩, fun _ z => .inl z⟩
end
instance i_gName {i : Nat} : DG (gName i) (gSet i) [i] where
  r := fun F σ δ H H0 v r Q Qd hr rp q k => by
    have wp : ∀ vs, (∀ j ∈ [i], j ∈ vs) → wipe (σ.set i (some v)) vs = wipe σ vs := fun vs h => wipe_set (h i (by simp))
    have pl : ∀ d, Rep (Fb F δ) H v d → Qd (δ.set i (.d d)) → gName i v σ H Q := fun d rp q => by
      obtain ⟨r1, h1⟩ := hr.setD (i := i) rp
      exact k _ _ H q r1 (fun δ0 f => ⟨f.ex, fun a z => f.nw a (h1 a z), f.dm⟩) wp
    cases r with
    | d d => exact pl d rp q
    | new k' ds =>
      have nt : (∀ a, Qd (δ.set i (.own true a k' ds))) → gName i v σ H Q := fun q => by
        obtain ⟨a, vs, rfl, ob, hn, nf, no, rl, r2⟩ := rp
        obtain ⟨r1, h1⟩ := r2.setO (i := i) ob nf no rl
        exact k _ _ H (q a) r1 (fun δ0 f => ⟨f.ex, fun b z => (h1 b z).elim (f.nw b) fun z => .inr (by rw [z]; exact hn), f.dm⟩) wp
      cases k' with
      | tup => exact pl _ (RRep.dn (H1 := H0) rp) q
      | lst => exact nt q
      | dk ks => exact nt q
      | ins C ns => exact nt q
      | exc C => exact nt q
      | xd ns => exact nt q
    | var j =>
      have h' : σ[j]? = some (some v) := rp
      dsimp only [gSet] at q
      cases e : δ[j]? with
      | none => rw [e] at q; exact q.elim
      | some s =>
        rw [e] at q
        cases s with
        | d d =>
          obtain ⟨o, e2, u, eu, ru⟩ := hr.sl.getR e
          rw [h'] at e2; cases e2; cases eu
          exact pl d ru q
        | own f a k' ds =>
          cases f with
          | false => exact q.elim
          | true =>
            obtain ⟨r1, f1, e2, rp2⟩ := hr.frz e
            rw [h'] at e2; cases e2
            obtain ⟨r2, h1⟩ := r1.setD (i := i) rp2
            refine k _ _ H q r2 (fun δ0 f => ?_) wp
            have f2 := f.trans f1
            exact ⟨f2.ex, fun a z => f2.nw a (h1 a z), f2.dm⟩
        | no => exact q.elim
        | any => exact q.elim
        | gad g n a => exact q.elim
def gDs0 : TDGs := fun ds δ Q => match ds with
  | [] => Q δ
  | _ => False
instance i_gNil : DGs gNil gDs0 [] where
  r := fun F σ δ H H0 vs ds Q Qd hr rl q k => by
    cases rl with
    | nil => exact ⟨rfl, k σ δ H q hr (fun _ f => f) (fun _ _ => rfl)⟩
    | cons a b => exact q.elim
def gDs (g : TDG) (t : TDGs) : TDGs := fun ds δ Q => match ds with
  | d :: ds => g (.d d) δ fun δ1 => t ds δ1 Q
  | [] => False
instance i_gCons {g : TG} {t : TGs} {gd : TDG} {td : TDGs} {s1 s2 : List Nat} [a : DG g gd s1] [b : DGs t td s2] : DGs (gCons g t) (gDs gd td) (s1 ++ s2) where
  r := fun F σ δ H H0 vs ds Q Qd hr rl q k => by
    cases rl with
    | nil => exact q.elim
    | cons r1 r2 =>
      refine ⟨_, _, rfl, a.r F σ δ H H _ (.d _) _ _ hr r1 q fun σ1 δ1 H1 q1 R1 f1 w1 => ?_⟩
      have f := f1 δ .refl
      refine b.r F σ1 δ1 H1 H0 _ _ _ _ R1 (r2.imp f.mv) q1 fun σ2 δ2 H2 q2 R2 f2 w2 => ?_
      exact k σ2 δ2 H2 q2 R2 (fun δ0 f0 => f2 δ0 (f0.trans f)) fun vs hv => (w2 vs fun i hi => hv i (List.mem_append_right _ hi)).trans (w1 vs fun i hi => hv i (List.mem_append_left _ hi))
def gUnp (n : Nat) (t : TDGs) : TDG := fun r δ Q => val δ r fun d => match d with
  | .nd .tup ds => ds.length = n ∧ t ds δ Q
  | _ => False
instance i_gTup {K : PySem.W.Frag} {n : Nat} {t : TGs} {td : TDGs} {s : List Nat} [b : DGs t td s] : DG (gTup K n t) (gUnp n td) s where
  r := fun F σ δ H H0 v r Q Qd hr rp q k => by
    obtain ⟨d, w, q⟩ := val_w rp hr q
    match d, w, q with
    | .nd .tup ds, ⟨a, vs, e, ob, rl⟩, ⟨hl, q⟩ =>
      exact ⟨a, vs, e, SqT.of ob, by rw [rl.len]; exact hl, b.r F σ δ H H0 vs ds _ _ hr rl q k⟩
section
variable {E : XKS}
def sAsg (te : TDE) (g : TDG) : TDS := fun D δ => te δ (fun r δ1 => g r δ1 D.nx) D.xc
instance i_asg {t : TE} {g : TG} {a : TDE} {gd : TDG} {s : List Nat} [x : DR E t a] [y : DG g gd s] : DS E (tAsg t g) (sAsg a gd) where
  r := fun F σ δ H D Ed hr q k => x.r F σ δ H _ _ _ hr q (fun r δ1 v H1 q1 R1 f1 p => y.r F σ δ1 H1 H v r _ _ R1 p q1 fun σ' δ' H' q2 R2 f2 _ => k.nx σ' δ' H' q2 R2 (f2 δ f1)) k.xc
/-! ### loops -/
structure ItD where
  xs : List D
  ok : En → Prop
abbrev TDI := En → (ItD → En → Prop) → XDK → Prop
/-- what a walk asks of the frame: the things that are not forbidden stay -/
structure FrF (F : Addr → Prop) (δ : En) (H : Hp) (δ' : En) (H' : Hp) : Prop where
  ex : ∀ a o, ¬ Fb F δ a → H a = some o → H' a = some o
  nw : ∀ a, a ∈ owns δ' → a ∈ owns δ ∨ H a = none
theorem Fr.f {F : Addr → Prop} {δ δ' : En} {H H' : Hp} (f : Fr δ H δ' H') : FrF F δ H δ' H' := ⟨fun a o g e => f.ex a o (fun z => g (.inr z)) e, f.nw⟩
def ItOk (F : Addr → Prop) (JJ : It) (J : ItD) (δ1 : En) (H1 : Hp) : Prop := ∀ (i : Nat) (F' : Addr → Prop) (σ' : St) (δ' : En) (H' : Hp), (∀ a, F' a → F a ∨ H1 a = none) → Rel F' σ' δ' H' → FrF F δ1 H1 δ' H' → J.ok δ' →
  (J.xs.length ≤ i → JJ.stop i H') ∧ ∀ d, J.xs[i]? = some d → JJ.go i H' ∧ ∀ x H2, JJ.yld i H' x H2 → Same H' H2 ∧ Rep (Fb F' δ') H2 x d
class DI (E : XKS) (wi : TI) (di : outParam TDI) : Prop where
  r : ∀ F σ δ H R Rd Xd, Rel F σ δ H → di δ Rd Xd → (∀ JJ J δ' H', Rd J δ' → Rel F σ δ' H' → Fr δ H δ' H' → ItOk F JJ J δ' H' → R JJ H') → XOk E F δ H Xd → wi σ H R
def sFor (it : TDI) (g : TDG) (b : TDS) : TDS := fun D δ => it δ (fun J δ1 => ∃ I : Nat → En → Prop, I 0 δ1 ∧ (∀ i δ, I i δ → J.ok δ) ∧
  (∀ i δ x, J.xs[i]? = some x → I i δ → g (.d x) δ fun δ2 => b { D with nx := I (i + 1), ct := I (i + 1), bk := D.nx } δ2) ∧ ∀ δ, I J.xs.length δ → D.nx δ) D.xc
instance i_for {wi : TI} {g : TG} {t : TS} {di : TDI} {gd : TDG} {td : TDS} {s : List Nat} [x : DI E wi di] [y : DG g gd s] [z : DS E t td] : DS E (tFor wi g t) (sFor di gd td) where
  r := fun F σ δ H D Ed hr q k => by
    refine x.r F σ δ H _ _ _ hr q (fun JJ J δ1 H1 q1 R1 f1 io => ?_) k.xc
    obtain ⟨I, i0, iok, turn, fin⟩ := q1
    refine ⟨fun i m σ H => m = J.xs.length - i ∧ i ≤ J.xs.length ∧ ∃ δ, I i δ ∧ Rel F σ δ H ∧ Fr δ1 H1 δ H, ⟨_, rfl, Nat.zero_le _, δ1, i0, R1, .refl⟩, ?_⟩
    rintro i m σ2 H2 ⟨rfl, hi, δ2, ii, R2, f2⟩
    obtain ⟨st, go⟩ := io i F σ2 δ2 H2 (fun a h => .inl h) R2 f2.f (iok i δ2 ii)
    by_cases hlt : i < J.xs.length
    · obtain ⟨g1, g2⟩ := go J.xs[i] (List.getElem?_eq_getElem hlt)
      refine .inr ⟨g1, fun σ' H' => ∃ δ', I (i + 1) δ' ∧ Rel F σ' δ' H' ∧ Fr δ1 H1 δ' H', fun σ' H' h => ⟨_, by omega, rfl, hlt, h⟩, fun v H3 yl => ?_⟩
      obtain ⟨sm, rp⟩ := g2 v H3 yl
      refine y.r F σ2 δ2 H3 H3 v (.d _) _ _ (R2.same sm) rp (turn i δ2 _ (List.getElem?_eq_getElem hlt) ii) fun σ4 δ4 H4 q4 R4 f4 _ => ?_
      have f : Fr δ1 H1 δ4 H4 := (f2.trans (.same sm)).trans (f4 δ2 .refl)
      exact z.r F σ4 δ4 H4 _ _ R4 q4 ⟨fun σ' δ' H' q r g => ⟨δ', q, r, f.trans g⟩, (k.step (f1.trans f)).rt, fun σ' δ' H' q r g => k.nx σ' δ' H' q r (f1.trans (f.trans g)), fun σ' δ' H' q r g => ⟨δ', q, r, f.trans g⟩, (k.step (f1.trans f)).xc⟩
    · have e : i = J.xs.length := by omega
      subst e
      exact .inl ⟨st (Nat.le_refl _), k.nx σ2 δ2 H2 (fin δ2 ii) R2 (f1.trans f2)⟩
def sWhile (c : TDT) (b : TDS) : TDS := fun D δ => ∃ I : Nat → En → Prop, (∃ m, I m δ) ∧ ∀ m δ, I m δ → c δ (fun t δ1 => if t = true then b { D with nx := fun δ' => ∃ m', m' < m ∧ I m' δ', ct := fun δ' => ∃ m', m' < m ∧ I m' δ', bk := D.nx } δ1 else D.nx δ1) D.xc
instance i_while {c : TT} {t : TS} {cd : TDT} {td : TDS} [x : DT E c cd] [z : DS E t td] : DS E (tWhile c t) (sWhile cd td) where
  r := fun F σ δ H D Ed hr q k => by
    obtain ⟨I, ⟨m0, i0⟩, turn⟩ := q
    refine ⟨fun m σ' H' => ∃ δ', I m δ' ∧ Rel F σ' δ' H' ∧ Fr δ H δ' H', ⟨m0, δ, i0, hr, .refl⟩, ?_⟩
    rintro m σ1 H1 ⟨δ1, i1, R1, f1⟩
    refine x.r F σ1 δ1 H1 _ _ _ R1 (turn m δ1 i1) (fun b δ2 H2 q2 R2 f2 => ?_) (k.xc.step f1)
    have f := f1.trans f2
    cases b with
    | true =>
      refine ⟨fun σ' H' => ∃ δ', (∃ m', m' < m ∧ I m' δ') ∧ Rel F σ' δ' H' ∧ Fr δ H δ' H', fun σ' H' h => ?_, ?_⟩
      · obtain ⟨δ', ⟨m', hm, ii⟩, r, g⟩ := h
        exact ⟨m', hm, δ', ii, r, g⟩
      · exact z.r F σ1 δ2 H2 _ _ R2 q2 ⟨fun σ' δ' H' q r g => ⟨δ', q, r, f.trans g⟩, (k.step f).rt, fun σ' δ' H' q r g => k.nx σ' δ' H' q r (f.trans g), fun σ' δ' H' q r g => ⟨δ', q, r, f.trans g⟩, (k.step f).xc⟩
    | false => exact k.nx σ1 δ2 H2 q2 R2 f
end
end L2

set_option Elab.async false
set_option linter.all false
set_option maxRecDepth 100000
set_option maxHeartbeats 1000000
namespace L2
open PySem PySem.Spec PyProof.Rows TL
/-! ### calls of defs -/
abbrev DSp := List S → (R → List S → Prop) → (Addr → List (Str × D) → List S → Prop) → Prop
def RRet (F : Addr → Prop) (us : List V) (H0 : Hp) (ss : List S) (H : Hp) (v : V) : R → Prop
  | .d d => Rep (Fb F ss) H v d
  | .new k ds => ∃ a vs, v = .ref a ∧ Ob H a k vs ∧ H0 a = none ∧ RepL (Fb (Fp F a) ss) H vs ds ∧ Rel (Fp F a) (us.map some) ss H
  | .var _ => False
/-- how a promise's slots come back -/
def Bk (s s' : S) : Prop := (s.adr = none ∧ s'.adr = none) ∨ (∃ a k ds k' ds', s = .own false a k ds ∧ s' = .own false a k' ds') ∨ ∃ g n n' a, s = .gad g n a ∧ s' = .gad g n' a
/-- a promise over data as one over the heap -/
def upS (sd : DSp) : Sp := fun vs H Q E => ∃ (F : Addr → Prop) (ss : List S) (Qd : R → List S → Prop) (Xd : Addr → List (Str × D) → List S → Prop), Rel F (vs.map some) ss H ∧ (∀ a ∈ owns ss, F a) ∧ sd ss Qd Xd ∧
  (∀ r ss' v H', Qd r ss' → Rel F (vs.map some) ss' H' → Fr ss H ss' H' → All2 Bk ss ss' → RRet F vs H ss' H' v r → Q v H') ∧
  (∀ C fs ss' od H', Xd C fs ss' → Rel F (vs.map some) ss' H' → Fr ss H ss' H' → All2 Bk ss ss' → XRep (Fb F ss') H' od fs → E (.ref C) od H')
def pre : En → List R → (En → Prop) → Prop
  | δ, [], Q => Q δ
  | δ, .var i :: rs, Q => match δ[i]? with
    | some (.own true a k ds) => pre δ rs Q ∨ pre (δ.set i (.d (.nd k ds))) rs Q
    | _ => pre δ rs Q
  | δ, .d _ :: rs, Q => pre δ rs Q
  | δ, .new _ _ :: rs, Q => pre δ rs Q
def look1 (δ : En) (r : R) (Q : S → Prop) : Prop := match r with
  | .d d => Q (.d d)
  | .new k ds => Q (.d (.nd k ds))
  | .var i => match δ[i]? with
    | some (.d d) => Q (.d d)
    | some (.own _ a k ds) => Q (.own false a k ds)
    | some (.gad g n a) => Q (.gad g n a)
    | _ => False
def look : En → List R → (List S → Prop) → Prop
  | δ, [], Q => Q []
  | δ, r :: rs, Q => look1 δ r fun s => look δ rs fun ss => Q (s :: ss)
def give1 (δ : En) : R → S → En
  | .var i, .own _ a k ds => match δ[i]? with
    | some (.own f _ _ _) => δ.set i (.own f a k ds)
    | _ => δ
  | .var i, .gad g n a => δ.set i (.gad g n a)
  | _, _ => δ
def give : En → List R → List S → En
  | δ, r :: rs, s :: ss => give (give1 δ r s) rs ss
  | δ, _, _ => δ
def nodK (l : List Addr) (P : Prop) : Prop := match l with
  | [] => P
  | [_] => P
  | l => l.Nodup ∧ P
theorem nodK_ok {l : List Addr} {P : Prop} (h : nodK l P) : l.Nodup ∧ P := by
  match l, h with
  | [], h => exact ⟨List.nodup_nil, h⟩
  | [_], h => exact ⟨by simp, h⟩
  | _ :: _ :: _, h => exact h
def dRun (sd : DSp) (δ : En) (rs : List R) (Q : DKt) (X : XDK) : Prop := pre δ rs fun δ1 => look δ1 rs fun ss => nodK (owns ss) (sd ss (fun r ss' => Q r (give δ1 rs ss')) fun C fs ss' => X C fs (give δ1 rs ss'))
section
variable {F : Addr → Prop} {σ : St} {δ δ' : En} {H H' H0 : Hp} {vs : List V} {rs : List R}
theorem pre_ok : ∀ {rs : List R} {δ : En} {P : En → Prop}, Rel F σ δ H → pre δ rs P → ∃ δ', Rel F σ δ' H ∧ Fr δ H δ' H ∧ P δ'
  | [], δ, P, hr, q => ⟨δ, hr, .refl, q⟩
  | .d _ :: rs, δ, P, hr, q => pre_ok (rs := rs) hr q
  | .new _ _ :: rs, δ, P, hr, q => pre_ok (rs := rs) hr q
  | .var i :: rs, δ, P, hr, q => by
    unfold pre at q
    split at q
    · rename_i a k ds e
      rcases q with q | q
      · exact pre_ok hr q
      · obtain ⟨r1, f1, _, _⟩ := hr.frz e
        obtain ⟨δ', r2, f2, p⟩ := pre_ok r1 q
        exact ⟨δ', r2, f1.trans f2, p⟩
    · exact pre_ok hr q
def PairOk (F G : Addr → Prop) (σ : St) (δ : En) (H : Hp) (r : R) (s : S) : Prop := s.adr = none ∨
  (∃ i f a k ds k0 ds0, r = .var i ∧ s = .own false a k ds ∧ δ[i]? = some (.own f a k0 ds0) ∧ σ[i]? = some (some (.ref a)) ∧ SRel F G H (some (.ref a)) (.own f a k ds)) ∨
  (∃ i g n n0 a, r = .var i ∧ s = .gad g n a ∧ δ[i]? = some (.gad g n0 a) ∧ σ[i]? = some (some (.ref a)) ∧ SRel F G H (some (.ref a)) (.gad g n a))
theorem owns_re {δ : En} {i : Nat} {s s' : S} (e : δ[i]? = some s) (h : s'.adr = s.adr) : owns (δ.set i s') = owns δ := by
  obtain ⟨l1, l2, rfl, f⟩ := split_at e
  rw [f, owns_split, owns_split, h]
theorem adr_one {δ : En} {i j : Nat} {s t : S} {a : Addr} (nd : (owns δ).Nodup) (e : δ[i]? = some s) (e' : δ[j]? = some t) (h : s.adr = some a) (h' : t.adr = some a) : i = j := by
  by_cases z : i = j
  · exact z
  · have := (owns_drop (s' := .no) e rfl nd).1 a
    refine absurd (this (mem_owns.mpr ⟨t, List.mem_iff_getElem?.mpr ⟨j, ?_⟩, h'⟩)).2 (by simp [h])
    rw [List.getElem?_set_ne z]
    exact e'
theorem give_ok {G : Addr → Prop} {T : En → Prop} : ∀ {rs : List R} {ss : List S} {δ : En}, All2 (PairOk F G σ δ H) rs ss → All2 (fun o s => (∃ a, a ∈ owns ss ∧ s.adr = some a) ∨ SRel F G H o s) σ δ → (owns ss).Nodup → (owns δ).Nodup →
    All2 (SRel F G H) σ (give δ rs ss) ∧ owns (give δ rs ss) = owns δ
  | [], _, δ, .nil, h, _, _ => by
    refine ⟨h.imp fun o s _ z => ?_, rfl⟩
    rcases z with ⟨a, z, _⟩ | z
    · cases z
    · exact z
  | r :: rs, s :: ss, δ, .cons p ps, h, n1, n2 => by
    show All2 (SRel F G H) σ (give (give1 δ r s) rs ss) ∧ owns (give (give1 δ r s) rs ss) = owns δ
    have step : ∀ (i : Nat) (s0 s1 : S) (a : Addr), δ[i]? = some s0 → s0.adr = some a → s1.adr = some a → s.adr = some a → σ[i]? = some (some (.ref a)) → SRel F G H (some (.ref a)) s1 → give1 δ r s = δ.set i s1 →
        All2 (SRel F G H) σ (give (give1 δ r s) rs ss) ∧ owns (give (give1 δ r s) rs ss) = owns δ := by
      intro i s0 s1 a e0 a0 a1 as es sr eg
      rw [eg]
      have eo : owns (δ.set i s1) = owns δ := owns_re e0 (by rw [a0, a1])
      have en : owns (s :: ss) = a :: owns ss := by unfold owns; rw [List.filterMap_cons, as]
      rw [en] at n1 h
      have na := (List.nodup_cons.mp n1).1
      have ps' : All2 (PairOk F G σ (δ.set i s1) H) rs ss := ps.imp fun r' s' hs' z => by
        rcases z with z | ⟨i', f, a', k, ds, k0, ds0, z1, z2, z3, z4, z5⟩ | ⟨i', g, n, n0, a', z1, z2, z3, z4, z5⟩
        · exact .inl z
        · have ne : i ≠ i' := fun z => by
            subst z
            rw [e0] at z3
            cases z3
            cases a0
            exact na (mem_owns.mpr ⟨s', hs', by rw [z2]; rfl⟩)
          exact .inr (.inl ⟨i', f, a', k, ds, k0, ds0, z1, z2, by rw [List.getElem?_set_ne ne]; exact z3, z4, z5⟩)
        · have ne : i ≠ i' := fun z => by
            subst z
            rw [e0] at z3
            cases z3
            cases a0
            exact na (mem_owns.mpr ⟨s', hs', by rw [z2]; rfl⟩)
          exact .inr (.inr ⟨i', g, n, n0, a', z1, z2, by rw [List.getElem?_set_ne ne]; exact z3, z4, z5⟩)
      have h' : All2 (fun o s => (∃ a, a ∈ owns ss ∧ s.adr = some a) ∨ SRel F G H o s) σ (δ.set i s1) := by
        have hd : ∀ j o t, σ[j]? = some o → δ[j]? = some t → j ≠ i → (∃ a, a ∈ owns ss ∧ t.adr = some a) ∨ SRel F G H o t := fun j o t ho ht nj => by
          obtain ⟨o', e', z⟩ := h.getR ht
          rw [ho] at e'; cases e'
          rcases z with ⟨b, z1, z2⟩ | z
          · rcases List.mem_cons.mp z1 with z1 | z1
            · subst z1
              exact absurd (adr_one n2 ht e0 z2 a0) nj
            · exact .inl ⟨b, z1, z2⟩
          · exact .inr z
        clear ps ps' n1 na eg
        have gen : ∀ {l : St} {m : En} {i : Nat}, All2 (fun o s => (∃ b, b ∈ a :: owns ss ∧ s.adr = some b) ∨ SRel F G H o s) l m → l[i]? = some (some (.ref a)) → (∀ j o t, l[j]? = some o → m[j]? = some t → j ≠ i → (∃ a, a ∈ owns ss ∧ t.adr = some a) ∨ SRel F G H o t) → All2 (fun o s => (∃ a, a ∈ owns ss ∧ s.adr = some a) ∨ SRel F G H o s) l (m.set i s1) := by
          intro l m i hh
          induction hh generalizing i with
          | nil => intro _ _; exact .nil
          | cons x y ih =>
            intro hl hd
            cases i with
            | zero =>
              simp at hl
              subst hl
              refine .cons (.inr sr) ?_
              clear ih
              have : ∀ j o t, _ → _ → _ := fun j o t ho ht => hd (j + 1) o t (by simpa using ho) (by simpa using ht) (by omega)
              clear hd
              induction y with
              | nil => exact .nil
              | cons x' y' ih' => exact .cons (this 0 _ _ rfl rfl) (ih' fun j o t ho ht => this (j + 1) o t (by simpa using ho) (by simpa using ht))
            | succ i => exact .cons (hd 0 _ _ rfl rfl (by omega)) (ih (by simpa using hl) fun j o t ho ht nj => hd (j + 1) o t (by simpa using ho) (by simpa using ht) (by omega))
        exact gen h es hd
      obtain ⟨g1, g2⟩ := give_ok (T := T) ps' h' (List.nodup_cons.mp n1).2 (by rw [eo]; exact n2)
      exact ⟨g1, g2.trans eo⟩
    rcases p with p | ⟨i, f, a, k, ds, k0, ds0, rfl, rfl, z3, z4, z5⟩ | ⟨i, g, n, n0, a, rfl, rfl, z3, z4, z5⟩
    · have eg : give1 δ r s = δ := by
        cases r <;> cases s <;> first | rfl | cases p
      rw [eg]
      have en : owns (s :: ss) = owns ss := by unfold owns; rw [List.filterMap_cons, p]
      rw [en] at n1 h
      exact give_ok (T := T) ps h n1 n2
    · exact step i _ (.own f a k ds) a z3 rfl rfl rfl z4 z5 (by simp only [give1, z3])
    · exact step i _ (.gad g n a) a z3 rfl rfl rfl z4 z5 rfl
theorem owns_cons (s : S) (ss : List S) : owns (s :: ss) = s.adr.toList ++ owns ss := by
  unfold owns; rw [List.filterMap_cons]; cases s.adr <;> rfl
theorem look_ok : ∀ {vs : List V} {rs : List R} {P : List S → Prop}, RRepL F σ H0 δ H vs rs → Rel F σ δ H → look δ rs P → ∃ ss, All2 (SRel (Fb F δ) (Fb F δ) H) (vs.map some) ss ∧ (∀ a ∈ owns ss, a ∈ owns δ) ∧
      (∀ ss', All2 Bk ss ss' → ∀ (F' G' : Addr → Prop) (H' : Hp), (∀ a, a ∈ owns δ → F' a → F a) → All2 (SRel (Fb F δ) G' H') (vs.map some) ss' → All2 (PairOk F' G' σ δ H') rs ss') ∧ P ss
  | _, _, P, .nil, hr, q => ⟨[], .nil, fun a z => (by cases z), fun ss' hs F' G' H' _ _ => (by cases hs; exact .nil), q⟩
  | _, _, P, .cons (v := v) (r := r) (rs := rs0) a b, hr, q => by
    have one : ∃ s, SRel (Fb F δ) (Fb F δ) H (some v) s ∧ (∀ a, s.adr = some a → a ∈ owns δ) ∧ (∀ s', Bk s s' → ∀ (F' G' : Addr → Prop) (H' : Hp), (∀ a, a ∈ owns δ → F' a → F a) → SRel (Fb F δ) G' H' (some v) s' → PairOk F' G' σ δ H' r s') ∧ look δ rs0 fun ss => P (s :: ss) := by
      have pl : ∀ d, Rep (Fb F δ) H v d → (look δ rs0 fun ss => P (.d d :: ss)) → ∃ s, SRel (Fb F δ) (Fb F δ) H (some v) s ∧ (∀ a, s.adr = some a → a ∈ owns δ) ∧ (∀ s', Bk s s' → ∀ (F' G' : Addr → Prop) (H' : Hp), (∀ a, a ∈ owns δ → F' a → F a) → SRel (Fb F δ) G' H' (some v) s' → PairOk F' G' σ δ H' r s') ∧ look δ rs0 fun ss => P (s :: ss) := by
        intro d rp q
        refine ⟨.d d, ⟨v, rfl, rp⟩, fun a z => (by cases z), fun s' hs F' G' H' _ _ => ?_, q⟩
        rcases hs with ⟨_, z⟩ | ⟨_, _, _, _, _, z, _⟩ | ⟨_, _, _, _, z, _⟩
        · exact .inl z
        · cases z
        · cases z
      cases r with
      | d d => exact pl d a q
      | new k ds => exact pl _ (RRep.dn (H1 := H0) a) q
      | var i =>
        have h' : σ[i]? = some (some v) := a
        dsimp only [look, look1] at q
        cases e : δ[i]? with
        | none => rw [e] at q; exact q.elim
        | some s =>
          rw [e] at q
          obtain ⟨o, e2, sr⟩ := hr.sl.getR e
          rw [h'] at e2; cases e2
          cases s with
          | d d => obtain ⟨u, eu, ru⟩ := sr; cases eu; exact pl d ru q
          | own f a' k ds =>
            obtain ⟨eu, nf, ws, ob, rl⟩ := sr
            cases eu
            refine ⟨.own false a' k ds, ⟨rfl, fun z => (by cases z), ws, ob, rl⟩, fun b z => ?_, fun s' hs F' G' H' hF hs' => ?_, q⟩
            · cases z
              exact mem_owns.mpr ⟨_, List.mem_iff_getElem?.mpr ⟨i, e⟩, rfl⟩
            · rcases hs with ⟨z, _⟩ | ⟨_, _, _, k', ds', z, z'⟩ | ⟨_, _, _, _, z, _⟩
              · cases z
              · cases z
                subst z'
                obtain ⟨_, _, ws', ob', rl'⟩ := hs'
                exact .inr (.inl ⟨i, f, a', k', ds', k, ds, rfl, rfl, e, h', rfl, fun z q => nf z (hF _ (mem_owns.mpr ⟨_, List.mem_iff_getElem?.mpr ⟨i, e⟩, rfl⟩) q), ws', ob', rl'⟩)
              · cases z
          | gad g n a' =>
            obtain ⟨eu, l, ga, nl⟩ := sr
            cases eu
            refine ⟨.gad g n a', ⟨rfl, l, ga, nl⟩, fun b z => ?_, fun s' hs F' G' H' hF hs' => ?_, q⟩
            · cases z
              exact mem_owns.mpr ⟨_, List.mem_iff_getElem?.mpr ⟨i, e⟩, rfl⟩
            · rcases hs with ⟨z, _⟩ | ⟨_, _, _, k', ds', z, z'⟩ | ⟨_, _, n', _, z, z'⟩
              · cases z
              · cases z
              · cases z
                subst z'
                obtain ⟨_, l', ga', nl'⟩ := hs'
                exact .inr (.inr ⟨i, g, n', n, a', rfl, rfl, e, h', rfl, l', ga', nl'⟩)
          | no => exact q.elim
          | any => exact q.elim
    obtain ⟨s, sr, sa, sp, q1⟩ := one
    obtain ⟨ss, h1, h2, h3, q2⟩ := look_ok b hr q1
    refine ⟨s :: ss, .cons sr h1, fun x z => ?_, fun ss' hs F' G' H' hF hs' => ?_, q2⟩
    · rw [owns_cons] at z
      rcases List.mem_append.mp z with z | z
      · cases es : s.adr with
        | none => rw [es] at z; cases z
        | some y => rw [es] at z; simp at z; subst z; exact sa _ es
      · exact h2 x z
    · cases hs with
      | cons p ps =>
        cases hs' with
        | cons p' ps' => exact .cons (sp _ p F' G' H' hF p') (h3 _ ps F' G' H' hF ps')
theorem bk_owns {ss ss' : List S} (h : All2 Bk ss ss') : owns ss' = owns ss := by
  induction h with
  | nil => rfl
  | cons p _ ih =>
    rw [owns_cons, owns_cons, ih]
    rcases p with ⟨z, z'⟩ | ⟨_, _, _, _, _, z, z'⟩ | ⟨_, _, _, _, z, z'⟩ <;> rw [z, z'] <;> rfl
end
end L2

set_option Elab.async false
set_option linter.all false
set_option maxRecDepth 100000
set_option maxHeartbeats 1000000
namespace L2
open PySem PySem.Spec PyProof.Rows TL
section
variable {F : Addr → Prop} {σ : St} {δ δ' : En} {H H' H0 : Hp} {vs : List V} {rs : List R}
theorem look_dn : ∀ {rs : List R} {P : List S → Prop}, look δ (rs.map R.dn) P ↔ look δ rs P
  | [], _ => Iff.rfl
  | r :: rs, P => by
    show look1 δ r.dn _ ↔ look1 δ r _
    have : (fun s => look δ (rs.map R.dn) fun ss => P (s :: ss)) = fun s => look δ rs fun ss => P (s :: ss) := by funext d; exact propext look_dn
    rw [this]
    cases r <;> exact Iff.rfl
theorem give_dn : ∀ {rs : List R} {ss : List S} {δ : En}, give δ (rs.map R.dn) ss = give δ rs ss
  | [], _, _ => rfl
  | _ :: _, [], _ => rfl
  | r :: rs, s :: ss, δ => by
    show give (give1 δ r.dn s) (rs.map R.dn) ss = give (give1 δ r s) rs ss
    rw [give_dn]
    cases r <;> rfl
theorem give_rel {ss ss' : List S} {F2 : Addr → Prop} (R1 : Rel F σ δ H) (sub : ∀ a ∈ owns ss, a ∈ owns δ) (bk : All2 Bk ss ss') (nd : (owns ss).Nodup) (fr : Fr ss H ss' H') (hF : ∀ b, F b → F2 b) (hF2 : ∀ b, F2 b → F b ∨ H b = none) (fd2 : ∀ b, F2 b → ∃ o, H' b = some o)
    (hp : All2 (PairOk F2 (Fb F2 δ) σ δ H') rs ss') : Rel F2 σ (give δ rs ss') H' ∧ owns (give δ rs ss') = owns δ := by
  have eo := bk_owns bk
  have h0 : All2 (fun o s => (∃ a, a ∈ owns ss' ∧ s.adr = some a) ∨ SRel F2 (Fb F2 δ) H' o s) σ δ := R1.sl.imp fun o s hs h => by
    by_cases z : ∃ a, a ∈ owns ss' ∧ s.adr = some a
    · exact .inl z
    · refine .inr (h.imp (fun b u e g => ⟨fr.ex b u (fun y => g (.inr (sub b y))) e, fun y => ?_⟩) (fun b hb y => ?_) fun b hb u e => fr.ex b u (fun y => z ⟨b, by rw [eo]; exact y, hb⟩) e)
      · rcases y with y | y
        · rcases hF2 b y with y | y
          · exact g (.inl y)
          · rw [y] at e; cases e
        · exact g (.inr y)
      · rcases hF2 b y with y | y
        · exact y
        · obtain ⟨u, e⟩ := R1.adr (mem_owns.mpr ⟨s, hs, hb⟩)
          rw [y] at e; cases e
  obtain ⟨g1, g2⟩ := give_ok (T := fun _ => True) hp h0 (by rw [eo]; exact nd) R1.nd
  refine ⟨⟨?_, by rw [g2]; exact R1.nd, fd2⟩, g2⟩
  have : Fb F2 (give δ rs ss') = Fb F2 δ := by unfold Fb; rw [g2]
  rw [this]
  exact g1
theorem run_ok {sd : DSp} {Qd : DKt} {Xd : XDK} {Q : VK} {E : XK} (p : RRepL F σ H0 δ H vs rs) (hr : Rel F σ δ H) (q : dRun sd δ rs Qd Xd) (k : ∀ r δ' v H', Qd r δ' → Rel F σ δ' H' → Fr δ H δ' H' → RRep F σ H δ' H' v r → Q v H')
    (kx : ∀ C fs δ' od H', Xd C fs δ' → Rel F σ δ' H' → Fr δ H δ' H' → XRep (Fb F δ') H' od fs → E (.ref C) od H') : upS sd vs H Q E := by
  obtain ⟨δ1, R1, f1, q1⟩ := pre_ok hr q
  obtain ⟨ss, h1, h2, h3, q2⟩ := look_ok (p.mv f1 (H1 := H0)) R1 (look_dn.mpr q1)
  obtain ⟨nd, q3⟩ := nodK_ok q2
  have fbe : ∀ b, Fb (Fb F δ1) ss b → Fb F δ1 b := fun b z => z.elim id fun z => .inr (h2 b z)
  have rl0 : Rel (Fb F δ1) (vs.map some) ss H := ⟨h1.imp fun o s _ h => h.imp (fun b u e g => ⟨e, fun z => g (fbe b z)⟩) (fun _ _ z => z) (fun _ _ _ e => e), nd, R1.gd⟩
  refine ⟨Fb F δ1, ss, _, _, rl0, fun a h => .inr (h2 a h), q3, ?_, ?_⟩
  · intro r ss' v H' q4 rl fr bk rt
    have eo := bk_owns bk
    have gen : ∀ F2 : Addr → Prop, (∀ b, F b → F2 b) → (∀ b, F2 b → F b ∨ H b = none) → (∀ b, F2 b → ∃ o, H' b = some o) → All2 (SRel (Fb F δ1) (Fb F2 δ1) H') (vs.map some) ss' → Rel F2 σ (give δ1 rs ss') H' ∧ owns (give δ1 rs ss') = owns δ1 := fun F2 a1 a2 a3 a4 => by
      have hp := h3 ss' bk F2 (Fb F2 δ1) H' (fun a ha z => (a2 a z).elim id fun z => by obtain ⟨u, e⟩ := R1.adr ha; rw [z] at e; cases e) a4
      have := give_rel R1 h2 bk nd fr a1 a2 a3 hp
      rw [give_dn] at this
      exact this
    obtain ⟨R2, e2⟩ := gen F (fun _ z => z) (fun _ z => .inl z) (fun b z => by obtain ⟨o, e⟩ := R1.fd b z; exact fr.dm b o e) (rl.sl.imp fun o s _ h => h.imp (fun b u e g => ⟨e, fun z => g (.inl z)⟩) (fun _ _ z => z) (fun _ _ _ e => e))
    have fr2 : Fr δ1 H (give δ1 rs ss') H' := ⟨fun a o ha e => fr.ex a o (fun z => ha (h2 a z)) e, fun a z => .inl (by rw [← e2]; exact z), fr.dm⟩
    have fbe2 : Fb F (give δ1 rs ss') = Fb F δ1 := by unfold Fb; rw [e2]
    refine k r _ v H' q4 R2 (f1.trans fr2) ?_
    cases r with
    | d d => exact Rep.imp (fun b u e g => ⟨e, fun z => g (.inl (by rw [← fbe2]; exact z))⟩) rt
    | new k' ds =>
      obtain ⟨a, ws, rfl, ob, hn, rp, rl2⟩ := rt
      have n1 := R1.nofb hn
      have a4 : All2 (SRel (Fb F δ1) (Fb (Fp F a) δ1) H') (vs.map some) ss' := rl2.sl.imp fun o s hs h => h.imp (fun b u e g => ⟨e, fun z => by
        rcases z with (z | z) | z
        · exact g (.inl (.inl (.inl z)))
        · exact g (.inl (.inr z))
        · exact g (.inl (.inl (.inr z)))⟩) (fun b _ z => .inl z) (fun _ _ _ e => e)
      obtain ⟨R3, _⟩ := gen (Fp F a) (fun _ z => .inl z) (fun b z => z.elim .inl fun z => .inr (by rw [z]; exact hn)) (fun b z => rl2.fd b (z.elim (fun z => .inl (.inl z)) .inr)) a4
      refine ⟨a, ws, rfl, ob, hn, fun z => n1 (.inl z), fun z => n1 (.inr (by rw [← e2]; exact z)), rp.imp fun b u e g => ⟨e, fun z => g ?_⟩, R3⟩
      rcases z with (z | z) | z
      · exact .inl (.inl (.inl z))
      · exact .inl (.inr z)
      · exact .inl (.inl (.inr (by rw [← e2]; exact z)))
    | var i => exact rt.elim
  · intro C fs ss' od H' q4 rl fr bk xr
    have eo := bk_owns bk
    have hp := h3 ss' bk F (Fb F δ1) H' (fun a ha z => z) (rl.sl.imp fun o s _ h => h.imp (fun b u e g => ⟨e, fun z => g (.inl z)⟩) (fun _ _ z => z) (fun _ _ _ e => e))
    obtain ⟨R2, e2⟩ := give_rel R1 h2 bk nd fr (fun _ z => z) (fun _ z => .inl z) (fun b z => by obtain ⟨o, e⟩ := R1.fd b z; exact fr.dm b o e) hp
    rw [give_dn] at R2 e2
    have fr2 : Fr δ1 H (give δ1 rs ss') H' := ⟨fun a o ha e => fr.ex a o (fun z => ha (h2 a z)) e, fun a z => .inl (by rw [← e2]; exact z), fr.dm⟩
    refine kx C fs _ od H' q4 R2 (f1.trans fr2) ?_
    obtain ⟨d, us, h1, h2, h3, h4⟩ := xr
    have fbe2 : Fb F (give δ1 rs ss') = Fb F δ1 := by unfold Fb; rw [e2]
    exact ⟨d, us, h1, h2, fun z => h3 (.inl (by rw [← fbe2]; exact z)), h4.imp fun b u e g => ⟨e, fun z => g (.inl (by rw [← fbe2]; exact z))⟩⟩
end
section
variable {E : XKS}
/-- a call that raises nothing -/
def dCall (sd : DSp) (t : TDA) : TDE := fun δ Q X => t δ (fun rs δ1 => dRun sd δ1 rs Q fun _ _ _ => False) X
instance i_call {sd : DSp} {ta : TA} {da : TDA} [a : DA E ta da] : DR E (tCall (upS sd) [] E0 ta) (dCall sd da) where
  r := fun F σ δ H Q Qd Xd hr q k xo => by
    refine a.r F σ δ H _ _ Xd hr q (fun rs δ1 vs H1 q1 R1 f1 p1 => ?_) xo
    rw [List.append_nil]
    exact run_ok p1 R1 q1 (fun r δ' v H' q2 R2 f2 p2 => k r δ' v H' q2 R2 (f1.trans f2) (p2.tr f1)) fun _ _ _ _ _ z => z.elim
instance i_callN {sd : DSp} {ta : TA} {da : TDA} [a : DA E ta da] : DR E (tCallN (upS sd) ta) (dCall sd da) where
  r := fun F σ δ H Q Qd Xd hr q k xo => by
    refine a.r F σ δ H _ _ Xd hr q (fun rs δ1 vs H1 q1 R1 f1 p1 => ?_) xo
    exact run_ok p1 R1 q1 (fun r δ' v H' q2 R2 f2 p2 => k r δ' v H' q2 R2 (f1.trans f2) (p2.tr f1)) fun _ _ _ _ _ z => z.elim
def formR (F : Form) (dvs : List V) (vs zs : List R) : List R := bif (vs.length == F.1 && zs.length == F.2.1.length) then F.2.2.map (fun i => (vs ++ zs ++ dvs.map fun v => R.d (.v v)).getD i (.d (.v .non))) else []
theorem rrepL_app {F : Addr → Prop} {σ : St} {δ : En} {H H0 : Hp} {a c : List V} {b d : List R} (h : RRepL F σ H0 δ H a b) (h' : RRepL F σ H0 δ H c d) : RRepL F σ H0 δ H (a ++ c) (b ++ d) := by
  induction h with
  | nil => exact h'
  | cons x _ ih => exact .cons x ih
theorem rrepL_v {F : Addr → Prop} {σ : St} {δ : En} {H H0 : Hp} : ∀ (l : List V), RRepL F σ H0 δ H l (l.map fun v => R.d (.v v))
  | [] => .nil
  | x :: r => .cons (Rep.v x) (rrepL_v r)
theorem rrepL_getD {F : Addr → Prop} {σ : St} {δ : En} {H H0 : Hp} {a : List V} {b : List R} (h : RRepL F σ H0 δ H a b) : ∀ i, RRep F σ H0 δ H (a.getD i .non) (b.getD i (.d (.v .non))) := by
  induction h with
  | nil => intro i; simp; exact Rep.v _
  | cons x _ ih =>
    intro i
    cases i with
    | zero => simpa using x
    | succ j => simpa using ih j
theorem form_rrep {F : Addr → Prop} {σ : St} {δ : En} {H H0 : Hp} {vs zs : List V} {rs qs : List R} {f : Form} {dvs : List V} (h : RRepL F σ H0 δ H vs rs) (h' : RRepL F σ H0 δ H zs qs) : RRepL F σ H0 δ H (formV f dvs vs zs) (formR f dvs rs qs) := by
  unfold formV formR
  rw [h.len, h'.len]
  cases (rs.length == f.1 && qs.length == f.2.1.length) with
  | false => exact .nil
  | true =>
    have g := rrepL_app (rrepL_app h h') (rrepL_v (F := F) (σ := σ) (δ := δ) (H := H) (H0 := H0) dvs)
    simp only [cond_true]
    induction f.2.2 with
    | nil => exact .nil
    | cons i t ih => exact .cons (rrepL_getD g i) ih
theorem RRepL.mono0 {F : Addr → Prop} {σ : St} {δ : En} {H H0 H1 : Hp} {a : List V} {b : List R} (h : RRepL F σ H1 δ H a b) (m : ∀ a, H1 a = none → H0 a = none) : RRepL F σ H0 δ H a b := by
  induction h with
  | nil => exact .nil
  | cons x _ ih => exact .cons (x.mono0 m) ih
theorem RRepL.dn {F : Addr → Prop} {σ : St} {δ : En} {H H0 H1 : Hp} {a : List V} {b : List R} (h : RRepL F σ H0 δ H a b) : RRepL F σ H1 δ H a (b.map R.dn) := by
  induction h with
  | nil => exact .nil
  | cons x _ ih => exact .cons x.dn ih
/-- a call in one of its forms -/
def dCallF (sd : DSp) (f : Form) (dvs : List V) (t tk : TDA) : TDE := fun δ Q X => t δ (fun rs δ1 => tk δ1 (fun qs δ2 => dRun sd δ2 (formR f dvs (rs.map R.dn) (qs.map R.dn)) Q fun _ _ _ => False) X) X
instance i_callK {sd : DSp} {f : Form} {dvs : List V} {ta tk : TA} {da dk : TDA} [a : DA E ta da] [b : DA E tk dk] : DR E (tCallK (upS sd) (formV f dvs) E0 ta tk) (dCallF sd f dvs da dk) where
  r := fun F σ δ H Q Qd Xd hr q k xo => by
    refine a.r F σ δ H _ _ Xd hr q (fun rs δ1 vs H1 q1 R1 f1 p1 => ?_) xo
    refine b.r F σ δ1 H1 _ _ Xd R1 q1 (fun qs δ2 zs H2 q2 R2 f2 p2 => ?_) (xo.step f1)
    exact run_ok (form_rrep (p1.mv f2 (H1 := H2)) (p2.dn (H1 := H2))) R2 q2 (fun r δ' v H' q3 R3 f3 p3 => k r δ' v H' q3 R3 ((f1.trans f2).trans f3) (p3.tr (f1.trans f2))) fun _ _ _ _ _ z => z.elim
def dCallF0 (sd : DSp) (f : Form) (dvs : List V) (tk : TDA) : TDE := fun δ Q X => tk δ (fun qs δ2 => dRun sd δ2 (formR f dvs [] (qs.map R.dn)) Q fun _ _ _ => False) X
instance i_callK0 {sd : DSp} {f : Form} {dvs : List V} {tk : TA} {dk : TDA} [b : DA E tk dk] : DR E (tCallK0 (upS sd) (formV f dvs) E0 tk) (dCallF0 sd f dvs dk) where
  r := fun F σ δ H Q Qd Xd hr q k xo => by
    refine b.r F σ δ H _ _ Xd hr q (fun qs δ2 zs H2 q2 R2 f2 p2 => ?_) xo
    exact run_ok (form_rrep (H0 := H2) .nil (p2.dn (H1 := H2))) R2 q2 (fun r δ' v H' q3 R3 f3 p3 => k r δ' v H' q3 R3 (f2.trans f3) (p3.tr f2)) fun _ _ _ _ _ z => z.elim
def dCallX (sd : DSp) (f : Form) (dvs : List V) (t tk : TDA) : TDE := fun δ Q X => t δ (fun rs δ1 => tk δ1 (fun qs δ2 => dRun sd δ2 (formR f dvs (rs.map R.dn) (qs.map R.dn)) Q X) X) X
instance i_callXD {sd : DSp} {f : Form} {dvs : List V} {ta tk : TA} {da dk : TDA} [a : DA E ta da] [b : DA E tk dk] : DR E (tCallXD (upS sd) (formV f dvs) E ta tk) (dCallX sd f dvs da dk) where
  r := fun F σ δ H Q Qd Xd hr q k xo => by
    refine a.r F σ δ H _ _ Xd hr q (fun rs δ1 vs H1 q1 R1 f1 p1 => ?_) xo
    refine b.r F σ δ1 H1 _ _ Xd R1 q1 (fun qs δ2 zs H2 q2 R2 f2 p2 => ?_) (xo.step f1)
    exact run_ok (form_rrep (p1.mv f2 (H1 := H2)) (p2.dn (H1 := H2))) R2 q2 (fun r δ' v H' q3 R3 f3 p3 => k r δ' v H' q3 R3 ((f1.trans f2).trans f3) (p3.tr (f1.trans f2))) fun C fs δ' od H' z R3 f3 xr => xo C fs δ' σ H' od z R3 ((f1.trans f2).trans f3) xr
def dCallX0 (sd : DSp) (f : Form) (dvs : List V) (tk : TDA) : TDE := fun δ Q X => tk δ (fun qs δ2 => dRun sd δ2 (formR f dvs [] (qs.map R.dn)) Q X) X
instance i_callXD0 {sd : DSp} {f : Form} {dvs : List V} {tk : TA} {dk : TDA} [b : DA E tk dk] : DR E (tCallXD0 (upS sd) (formV f dvs) E tk) (dCallX0 sd f dvs dk) where
  r := fun F σ δ H Q Qd Xd hr q k xo => by
    refine b.r F σ δ H _ _ Xd hr q (fun qs δ2 zs H2 q2 R2 f2 p2 => ?_) xo
    exact run_ok (form_rrep (H0 := H2) .nil (p2.dn (H1 := H2))) R2 q2 (fun r δ' v H' q3 R3 f3 p3 => k r δ' v H' q3 R3 (f2.trans f3) (p3.tr f2)) fun C fs δ' od H' z R3 f3 xr => xo C fs δ' σ H' od z R3 (f2.trans f3) xr
end
/-! ### a def's entry -/
def back : List S → En → (List S → Prop) → Prop
  | [], _, Q => Q []
  | .own _ a _ _ :: r, .own _ a' k' ds' :: δ, Q => a = a' ∧ back r δ fun l => Q (.own false a k' ds' :: l)
  | .own _ _ _ _ :: _, _, _ => False
  | .gad g n a :: r, .gad g' n' a' :: δ, Q => (g = g' ∧ a = a') ∧ back r δ fun l => Q (.gad g n' a :: l)
  | .gad _ _ _ :: _, _, _ => False
  | .d d :: r, _ :: δ, Q => back r δ fun l => Q (.d d :: l)
  | .no :: r, _ :: δ, Q => back r δ fun l => Q (.no :: l)
  | .any :: r, _ :: δ, Q => back r δ fun l => Q (.any :: l)
  | _, _, _ => False
def ret (r : R) (δ : En) (Q : R → En → Prop) : Prop := match r with
  | .d d => Q (.d d) δ
  | .new .tup ds => Q (.d (.nd .tup ds)) δ
  | .new k ds => Q (.new k ds) δ
  | .var i => match δ[i]? with
    | some (.d d) => Q (.d d) δ
    | some (.own true _ k ds) => Q (.new k ds) (δ.set i .any)
    | _ => False
end L2

set_option Elab.async false
set_option linter.all false
set_option maxRecDepth 100000
set_option maxHeartbeats 1000000
namespace L2
open PySem PySem.Spec PyProof.Rows TL
theorem All2.rep {α β : Type} {R : α → β → Prop} {a : α} {b : β} (h : R a b) : ∀ n, All2 R (List.replicate n a) (List.replicate n b)
  | 0 => .nil
  | n + 1 => .cons h (All2.rep h n)
theorem owns_no (ss : List S) (n : Nat) : owns (ss ++ List.replicate n S.no) = owns ss := by
  unfold owns
  rw [List.filterMap_append]
  have : List.filterMap S.adr (List.replicate n S.no) = [] := by
    induction n with
    | zero => rfl
    | succ n ih => rw [List.replicate_succ, List.filterMap_cons]; exact ih
  rw [this, List.append_nil]
section
variable {F F2 : Addr → Prop} {H H' : Hp}
theorem backs_ok {G : Addr → Prop} (hl : ∀ b, F b → F2 b) (hF2 : ∀ b, F2 b → F b ∨ H b = none) (hG : ∀ b, F2 b → G b) (ex : ∀ a o, ¬ F a → H a = some o → H' a = some o) :
    ∀ {vs : List V} {ss : List S} {σ' : St} {δ' : En} {P : List S → Prop}, All2 (SRel F F H) (vs.map some) ss → (∀ a ∈ owns ss, F a) → All2 (SRel F2 G H') σ' δ' → back ss δ' P → ∃ ss', All2 (SRel F2 F2 H') (vs.map some) ss' ∧ All2 Bk ss ss' ∧ P ss'
  | [], _, _, _, P, .nil, _, _, q => by
    unfold back at q
    exact ⟨[], .nil, .nil, q⟩
  | v :: vs, s :: ss, σ', δ', P, .cons a b, lf, h, q => by
    have lf' : ∀ a ∈ owns ss, F a := fun a z => lf a (by rw [owns_cons]; exact List.mem_append_right _ z)
    cases h with
    | nil => cases s <;> exact q.elim
    | @cons o' s' σ'' δ'' a' b' =>
      have one : ∀ t, SRel F2 F2 H' (some v) t → Bk s t → back ss δ'' (fun l => P (t :: l)) → ∃ ss', All2 (SRel F2 F2 H') ((v :: vs).map some) ss' ∧ All2 Bk (s :: ss) ss' ∧ P ss' := fun t st bt q => by
        obtain ⟨ss', h1, h2, h3⟩ := backs_ok hl hF2 hG ex b lf' b' q
        exact ⟨t :: ss', .cons st h1, .cons bt h2, h3⟩
      cases s with
      | no => cases a
      | any => exact one .any trivial (.inl ⟨rfl, rfl⟩) (by cases s' <;> exact q)
      | d d =>
        obtain ⟨u, e, rp⟩ := a
        cases e
        refine one (.d d) ⟨v, rfl, rp.imp fun b o e g => ⟨ex b o g e, fun z => ?_⟩⟩ (.inl ⟨rfl, rfl⟩) (by cases s' <;> exact q)
        rcases hF2 b z with z | z
        · exact g z
        · rw [z] at e; cases e
      | own f x k ds =>
        have fx : F x := lf x (by rw [owns_cons]; simp [S.adr])
        obtain ⟨e, nf, _⟩ := a
        cases e
        have ff : f = false := by
          cases f with
          | false => rfl
          | true => exact absurd fx (nf rfl)
        subst ff
        cases s' with
        | own f' x' k' ds' =>
          obtain ⟨ea, q⟩ := q
          subst ea
          obtain ⟨_, _, ws, ob, rl⟩ := a'
          exact one (.own false x k' ds') ⟨rfl, fun z => (by cases z), ws, ob, rl.imp fun b o e g => ⟨e, fun z => g (hG b z)⟩⟩ (.inr (.inl ⟨_, _, _, _, _, rfl, rfl⟩)) q
        | no => exact q.elim
        | any => exact q.elim
        | d d => exact q.elim
        | gad g n x => exact q.elim
      | gad g n x =>
        obtain ⟨e, _⟩ := a
        cases e
        cases s' with
        | gad g' n' x' =>
          obtain ⟨⟨ea, eb⟩, q⟩ := q
          subst ea eb
          obtain ⟨_, l, ga, nl⟩ := a'
          exact one (.gad g n' x) ⟨rfl, l, ga, fun z => nl (hG l z)⟩ (.inr (.inr ⟨_, _, _, _, rfl, rfl⟩)) q
        | no => exact q.elim
        | any => exact q.elim
        | d d => exact q.elim
        | own f' x' k' ds' => exact q.elim
theorem back_rel {vs : List V} {ss : List S} {σ' : St} {δ' : En} {P : List S → Prop} (hl : ∀ b, F b → F2 b) (hF2 : ∀ b, F2 b → F b ∨ H b = none) (r0 : Rel F (vs.map some) ss H) (lf : ∀ a ∈ owns ss, F a) (fr : Fr ss H δ' H') (r1 : Rel F2 σ' δ' H') (q : back ss δ' P) :
    ∃ ss', Rel F2 (vs.map some) ss' H' ∧ Fr ss H ss' H' ∧ All2 Bk ss ss' ∧ (∀ b, Fb F2 ss' b → F2 b) ∧ P ss' := by
  have e0 : ∀ b, Fb F ss b → F b := fun b z => z.elim id (lf b)
  obtain ⟨ss', h1, h2, h3⟩ := backs_ok (H := H) (H' := H') (G := Fb F2 δ') hl hF2 (fun b z => .inl z) (fun a o g e => fr.ex a o (fun z => g (lf a z)) e) (r0.sl.imp fun _ _ _ h => h.imp (fun b o e g => ⟨e, fun z => g (.inl z)⟩ : ∀ b o, H b = some o → ¬ Fb F ss b → H b = some o ∧ ¬ F b) (fun _ _ z => z) (fun _ _ _ e => e)) lf r1.sl q
  have eo := bk_owns h2
  have e1 : ∀ b, Fb F2 ss' b → F2 b := fun b z => z.elim id fun z => hl b (lf b (by rw [← eo]; exact z))
  exact ⟨ss', ⟨h1.imp fun _ _ _ h => h.imp (fun b o e g => ⟨e, fun z => g (e1 b z)⟩) (fun _ _ z => z) (fun _ _ _ e => e), by rw [eo]; exact r0.nd, r1.fd⟩, ⟨fr.ex, fun a z => .inl (by rw [← eo]; exact z), fr.dm⟩, h2, e1, h3⟩
/-- the state is left: an owned thing goes out -/
theorem Rel.out {σ : St} {δ : En} {i : Nat} {a : Addr} {k : Kd} {ds : List D} (hr : Rel F σ δ H) (e : δ[i]? = some (.own true a k ds)) : ∃ vs, Ob H a k vs ∧ ¬ F a ∧ RepL (Fb (Fp F a) (δ.set i .any)) H vs ds ∧ Rel (Fp F a) σ (δ.set i .any) H ∧ (∀ b, b ∈ owns (δ.set i .any) → b ∈ owns δ) ∧ σ[i]? = some (some (.ref a)) := by
  obtain ⟨o, e2, eu, nf, vs, ob, rl⟩ := hr.sl.getR e
  subst eu
  obtain ⟨h1, h2⟩ := owns_drop (s' := .any) e rfl hr.nd
  have ha : a ∈ owns δ := mem_owns.mpr ⟨_, List.mem_iff_getElem?.mpr ⟨i, e⟩, rfl⟩
  have m : ∀ b o, H b = some o → ¬ Fb F δ b → H b = some o ∧ ¬ Fb (Fp F a) (δ.set i .any) b := fun b o eb g => ⟨eb, fun z => by
    rcases z with (z | z) | z
    · exact g (.inl z)
    · exact g (.inr (by rw [z]; exact ha))
    · exact g (.inr (h1 b z).1)⟩
  have key : All2 (SRel (Fp F a) (Fb (Fp F a) (δ.set i .any)) H) σ (δ.set i .any) := by
    have hs : ∀ j s, δ[j]? = some s → j ≠ i → s.adr ≠ some a := fun j s es ne z => ne (adr_one hr.nd es e z rfl)
    have go : ∀ {l : St} {n : En} {i' : Nat}, All2 (SRel F (Fb F δ) H) l n → (∀ j s, n[j]? = some s → j ≠ i' → s.adr ≠ some a) → All2 (SRel (Fp F a) (Fb (Fp F a) (δ.set i .any)) H) l (n.set i' .any) := by
      intro l n i' hh
      induction hh generalizing i' with
      | nil => intro _; exact .nil
      | cons x y ih =>
        intro hn
        have mf : ∀ s : S, s.adr ≠ some a → ∀ b, s.adr = some b → Fp F a b → F b := fun s hs b hb z => z.elim id fun z => absurd (by rw [← z]; exact hb) hs
        cases i' with
        | zero =>
          refine .cons trivial ?_
          clear ih
          have hn' : ∀ (j : Nat) (s : S), _ → s.adr ≠ some a := fun j s es => hn (j + 1) s (by simpa using es) (by omega)
          clear hn
          induction y with
          | nil => exact .nil
          | cons x' y' ih' => exact .cons (x'.imp m (mf _ (hn' 0 _ rfl)) (fun _ _ _ e => e)) (ih' fun j s es => hn' (j + 1) s (by simpa using es))
        | succ i' => exact .cons (x.imp m (mf _ (hn 0 _ rfl (by omega))) (fun _ _ _ e => e)) (ih fun j s es ne => hn (j + 1) s (by simpa using es) (by omega))
    exact go hr.sl hs
  exact ⟨vs, ob, nf rfl, rl.imp m, ⟨key, h2, fun b z => z.elim (hr.fd b) fun z => by rw [z]; exact ob.some⟩, fun b z => (h1 b z).1, e2⟩
end
theorem Rel.unp {F : Addr → Prop} {σ : St} {δ : En} {H : Hp} {a : Addr} (hr : Rel (Fp F a) σ δ H) : Rel F σ δ H :=
  ⟨hr.sl.imp fun _ _ _ h => h.imp (fun b o e g => ⟨e, fun z => g (Fb.sub b z)⟩) (fun _ _ z => .inl z) (fun _ _ _ z => z), hr.nd, fun b z => hr.fd b (.inl z)⟩
theorem entry {E : XK} {t : TS} {td : TDS} {sd : DSp} {N : List Str} {vs : List V} {H : Hp} {Q : VK} [x : DS (fun _ => E) t td] (h : upS sd vs H Q E)
    (body : ∀ ss Qd Xd, sd ss Qd Xd → td { nx := fun δ => back ss δ (Qd (.d (.v .non))), rt := fun r δ => ret r δ fun r' δ' => back ss δ' (Qd r'), xc := fun C fs δ => back ss δ (Xd C fs) } (ss ++ List.replicate (N.length - ss.length) .no)) :
    t { nx := fun _ H' => Q .non H', rt := Q } (start N vs) H := by
  obtain ⟨F, ss, Qd, Xd, r0, lf, hs, kq, kx⟩ := h
  have hl : vs.length = ss.length := by have := r0.sl.len; simpa using this
  have eo := owns_no ss (N.length - ss.length)
  have efb : Fb F (ss ++ List.replicate (N.length - ss.length) .no) = Fb F ss := by unfold Fb; rw [eo]
  have rs : Rel F (start N vs) (ss ++ List.replicate (N.length - ss.length) .no) H := by
    refine ⟨?_, by rw [eo]; exact r0.nd, r0.fd⟩
    unfold start
    rw [efb, hl]
    exact r0.sl.app (All2.rep (R := SRel F (Fb F ss) H) (b := S.no) rfl _)
  have fr0 : ∀ {δ' : En} {H' : Hp}, Fr (ss ++ List.replicate (N.length - ss.length) .no) H δ' H' → Fr ss H δ' H' := fun f => ⟨fun a o z e => f.ex a o (by rw [eo]; exact z) e, fun a z => by have := f.nw a z; rw [eo] at this; exact this, f.dm⟩
  refine x.r F _ _ H _ _ rs (body ss Qd Xd hs) ⟨?_, ?_, fun _ _ _ z => z.elim, fun _ _ _ z => z.elim, ?_⟩
  · intro σ' δ' H' q R1 f1
    obtain ⟨ss', h1, h2, h3, h4, h5⟩ := back_rel (fun _ z => z) (fun _ z => .inl z) r0 lf (fr0 f1) R1 q
    exact kq _ ss' .non H' h5 h1 h2 h3 (Rep.v _)
  · intro r σ' δ' v H' q R1 f1 p
    have pl : ∀ d, Rep (Fb F δ') H' v d → back ss δ' (Qd (.d d)) → Q v H' := fun d rp q => by
      obtain ⟨ss', h1, h2, h3, h4, h5⟩ := back_rel (fun _ z => z) (fun _ z => .inl z) r0 lf (fr0 f1) R1 q
      exact kq _ ss' v H' h5 h1 h2 h3 (Rep.imp (fun b o e g => ⟨e, fun z => g (.inl (h4 b z))⟩) rp)
    cases r with
    | d d => exact pl d p q
    | new k ds =>
      have nt : back ss δ' (Qd (.new k ds)) → Q v H' := fun q => by
        obtain ⟨a, ws, rfl, ob, hn, nf, no, rl, R2⟩ := p
        obtain ⟨ss', h1, h2, h3, h4, h5⟩ := back_rel (F2 := Fp F a) (fun _ z => .inl z) (fun b z => z.elim .inl fun z => .inr (by rw [z]; exact hn)) r0 lf (fr0 f1) R2 q
        exact kq _ ss' _ H' h5 h1.unp h2 h3 ⟨a, ws, rfl, ob, hn, rl.imp fun b o e g => ⟨e, fun z => g (.inl (h4 b z))⟩, h1⟩
      cases k with
      | tup => exact pl _ (RRep.dn (H1 := H) p) q
      | lst => exact nt q
      | dk ks => exact nt q
      | ins C ns => exact nt q
      | exc C => exact nt q
      | xd ns => exact nt q
    | var i =>
      have h' : σ'[i]? = some (some v) := p
      dsimp only [ret] at q
      cases e : δ'[i]? with
      | none => rw [e] at q; exact q.elim
      | some s =>
        rw [e] at q
        cases s with
        | d d =>
          obtain ⟨o, e2, u, eu, ru⟩ := R1.sl.getR e
          rw [h'] at e2; cases e2; cases eu
          exact pl d ru q
        | own f a k ds =>
          cases f with
          | false => exact q.elim
          | true =>
            obtain ⟨ws, ob, nf, rl, R2, sub, e2⟩ := R1.out e
            rw [h'] at e2; cases e2
            have hn : H a = none := by
              rcases (fr0 f1).nw a (mem_owns.mpr ⟨_, List.mem_iff_getElem?.mpr ⟨i, e⟩, rfl⟩) with z | z
              · exact absurd (lf a z) nf
              · exact z
            have f2 := fr0 f1
            obtain ⟨ss', h1, h2, h3, h4, h5⟩ := back_rel (F2 := Fp F a) (fun _ z => .inl z) (fun b z => z.elim .inl fun z => .inr (by rw [z]; exact hn)) r0 lf ⟨f2.ex, fun b z => f2.nw b (sub b z), f2.dm⟩ R2 q
            exact kq _ ss' _ H' h5 h1.unp h2 h3 ⟨a, ws, rfl, ob, hn, rl.imp fun b o e g => ⟨e, fun z => g (.inl (h4 b z))⟩, h1⟩
        | no => exact q.elim
        | any => exact q.elim
        | gad g n a => exact q.elim
  · intro C fs δ' σ' H' od q R1 f1 xr
    obtain ⟨ss', h1, h2, h3, h4, h5⟩ := back_rel (fun _ z => z) (fun _ z => .inl z) r0 lf (fr0 f1) R1 q
    obtain ⟨d, us, x1, x2, x3, x4⟩ := xr
    exact kx C fs ss' od H' h5 h1 h2 h3 ⟨d, us, x1, x2, fun z => x3 (.inl (h4 _ z)), x4.imp fun b o e g => ⟨e, fun z => g (.inl (h4 b z))⟩⟩
end L2

set_option Elab.async false
set_option linter.all false
set_option maxRecDepth 100000
set_option maxHeartbeats 1000000
namespace L2
open PySem PySem.Spec PyProof.Rows TL
/-! ### what is walked -/
def itK (isL : Bool) (d : D) (Q : List D → Prop) : Prop := match isL, d with
  | true, .nd .lst ds => Q ds
  | false, .nd .tup ds => Q ds
  | _, _ => False
def itOf (isL : Bool) (r : R) (δ : En) (Q : ItD → Prop) : Prop := match r with
  | .d d => itK isL d fun ds => Q ⟨ds, fun _ => True⟩
  | .new k ds => itK isL (.nd k ds) fun ds => Q ⟨ds, fun _ => True⟩
  | .var j => match δ[j]? with
    | some (.d d) => itK isL d fun ds => Q ⟨ds, fun _ => True⟩
    | some (.own f a k ds) => itK isL (.nd k ds) fun ds' => Q ⟨ds', fun δ' => δ'[j]? = some (.own f a k ds)⟩
    | _ => False
def kdB (isL : Bool) : Kd := if isL then .lst else .tup
def SrcOk (F : Addr → Prop) (δ1 : En) (H1 : Hp) (a : Addr) (isL : Bool) (J : ItD) : Prop := ∀ (F' : Addr → Prop) (σ' : St) (δ' : En) (H' : Hp), (∀ b, F' b → F b ∨ H1 b = none) → Rel F' σ' δ' H' → FrF F δ1 H1 δ' H' → J.ok δ' → ∃ vs, Ob H' a (kdB isL) vs ∧ RepL (Fb F' δ') H' vs J.xs
section
variable {F : Addr → Prop} {σ : St} {δ : En} {H H0 : Hp} {v : V} {r : R} {isL : Bool}
theorem itK_ok {d : D} {P : List D → Prop} (h : itK isL d P) : ∃ ds, d = .nd (kdB isL) ds ∧ P ds := by
  cases d with
  | v x => cases isL <;> exact h.elim
  | nd k ds => cases isL <;> cases k <;> first | exact h.elim | exact ⟨ds, rfl, h⟩
theorem src_ok {P : ItD → Prop} (p : RRep F σ H0 δ H v r) (hr : Rel F σ δ H) (q : itOf isL r δ P) : ∃ a J, v = .ref a ∧ P J ∧ J.ok δ ∧ SrcOk F δ H a isL J := by
  have pl : ∀ d, Rep (Fb F δ) H v d → (itK isL d fun ds => P ⟨ds, fun _ => True⟩) → ∃ a J, v = .ref a ∧ P J ∧ J.ok δ ∧ SrcOk F δ H a isL J := fun d rp q0 => by
    obtain ⟨ds, ed, q1⟩ := itK_ok q0
    subst ed
    cases rp with
    | @nd a _ vs _ ob na rl =>
      refine ⟨a, ⟨ds, fun _ => True⟩, rfl, q1, trivial, fun F' σ' δ' H' hF R' fr _ => ⟨vs, ob.keep fun o e => fr.ex a o na e, rl.imp fun b o e g => ⟨fr.ex b o g e, fun z => ?_⟩⟩⟩
      rcases z with z | z
      · rcases hF b z with z | z
        · exact g (.inl z)
        · rw [z] at e; cases e
      · rcases fr.nw b z with z | z
        · exact g (.inr z)
        · rw [z] at e; cases e
  cases r with
  | d d => exact pl d p q
  | new k ds => exact pl _ (RRep.dn (H1 := H0) p) q
  | var j =>
    have h' : σ[j]? = some (some v) := p
    dsimp only [itOf] at q
    cases e : δ[j]? with
    | none => rw [e] at q; exact q.elim
    | some s =>
      rw [e] at q
      obtain ⟨o, e2, sr⟩ := hr.sl.getR e
      rw [h'] at e2; cases e2
      cases s with
      | d d => obtain ⟨u, eu, ru⟩ := sr; cases eu; exact pl d ru q
      | own f a k ds =>
        obtain ⟨eu, _⟩ := sr
        cases eu
        obtain ⟨ds', e3, q⟩ := itK_ok q
        cases e3
        refine ⟨a, _, rfl, q, e, fun F' σ' δ' H' hF R' fr ok => ?_⟩
        obtain ⟨o, _, _, _, vs, ob, rl⟩ := R'.sl.getR (show δ'[j]? = some (.own f a (kdB isL) ds) from ok)
        exact ⟨vs, ob, rl⟩
      | no => exact q.elim
      | any => exact q.elim
      | gad g n a => exact q.elim
end
section
variable {E : XKS} {K : PySem.W.Frag}
def dIt (isL : Bool) (te : TDE) : TDI := fun δ Q X => te δ (fun r δ1 => itOf isL r δ1 fun J => Q J δ1) X
instance i_iList {t : TE} {d : TDE} [a : DR E t d] : DI E (iList K t) (dIt true d) where
  r := fun F σ δ H Rr Rd Xd hr q k xo => by
    refine a.r F σ δ H _ _ Xd hr q (fun x δ1 v1 H1 q1 R1 f1 p1 => ?_) xo
    obtain ⟨l, J, rfl, q2, ok, src⟩ := src_ok p1 R1 q1
    obtain ⟨vs0, ob0, _⟩ := src F σ δ1 H1 (fun _ z => .inl z) R1 Fr.refl.f ok
    refine ⟨l, rfl, ⟨vs0, SqL.of ob0⟩, k _ J δ1 H1 q2 R1 f1 fun i F' σ' δ' H' hF R' fr ok' => ?_⟩
    obtain ⟨vs, ob, rl⟩ := src F' σ' δ' H' hF R' fr ok'
    refine ⟨fun hi => ⟨vs, SqL.of ob, by rw [rl.len]; exact hi⟩, fun d hd => ?_⟩
    obtain ⟨w, hw, rp⟩ := rl.getD hd
    refine ⟨⟨vs, w, SqL.of ob, hw⟩, fun x H2 ⟨e, hx⟩ => ?_⟩
    subst e
    have := hx vs (SqL.of ob)
    rw [hw] at this
    cases this
    exact ⟨Same.refl _, rp⟩
instance i_iTup {t : TE} {d : TDE} [a : DR E t d] : DI E (iTup K t) (dIt false d) where
  r := fun F σ δ H Rr Rd Xd hr q k xo => by
    refine a.r F σ δ H _ _ Xd hr q (fun x δ1 v1 H1 q1 R1 f1 p1 => ?_) xo
    obtain ⟨l, J, rfl, q2, ok, src⟩ := src_ok p1 R1 q1
    obtain ⟨vs0, ob0, _⟩ := src F σ δ1 H1 (fun _ z => .inl z) R1 Fr.refl.f ok
    refine ⟨l, rfl, ⟨vs0, SqT.of ob0⟩, k _ J δ1 H1 q2 R1 f1 fun i F' σ' δ' H' hF R' fr ok' => ?_⟩
    obtain ⟨vs, ob, rl⟩ := src F' σ' δ' H' hF R' fr ok'
    refine ⟨fun hi => ⟨vs, SqT.of ob, by rw [rl.len]; exact hi⟩, fun d hd => ?_⟩
    obtain ⟨w, hw, rp⟩ := rl.getD hd
    refine ⟨⟨vs, w, SqT.of ob, hw⟩, fun x H2 ⟨e, hx⟩ => ?_⟩
    subst e
    have := hx vs (SqT.of ob)
    rw [hw] at this
    cases this
    exact ⟨Same.refl _, rp⟩
theorem rep_tup {F' : Addr → Prop} {σ' : St} {δ' : En} {H' : Hp} {T : Addr} {vs : List V} {ds : List D} (R' : Rel F' σ' δ' H') (hT : H' T = none) (rl : RepL (Fb F' δ') H' vs ds) : Rep (Fb F' δ') (upd H' T (.tup vs)) (.ref T) (.nd .tup ds) :=
  .nd upd_same (R'.nofb hT) (rl.imp fun b o e g => ⟨Same.new hT _ _ e, g⟩)
def dEnum (t : TDA) : TDI := fun δ Q X => t δ (fun rs δ1 => match rs with
  | [r] => itOf true r δ1 fun J => Q ⟨J.xs.mapIdx fun i d => .nd .tup [.v (.int (i : Nat)), d], J.ok⟩ δ1
  | _ => False) X
instance i_iEnum {t : TA} {d : TDA} [a : DA E t d] : DI E (iEnum K t) (dEnum d) where
  r := fun F σ δ H Rr Rd Xd hr q k xo => by
    refine a.r F σ δ H _ _ Xd hr q (fun rs δ1 vs1 H1 q1 R1 f1 p1 => ?_) xo
    match rs, vs1, p1, q1 with
    | [r], [v], .cons p1 .nil, q1 =>
      obtain ⟨l, J, rfl, q2, ok, src⟩ := src_ok p1 R1 q1
      obtain ⟨vs0, ob0, _⟩ := src F σ δ1 H1 (fun _ z => .inl z) R1 Fr.refl.f ok
      refine ⟨l, vs0, rfl, SqL.of ob0, k _ _ δ1 H1 q2 R1 f1 fun i F' σ' δ' H' hF R' fr ok' => ?_⟩
      obtain ⟨vs, ob, rl⟩ := src F' σ' δ' H' hF R' fr ok'
      refine ⟨fun hi => ⟨vs, SqL.of ob, by rw [rl.len]; simpa using hi⟩, fun d hd => ?_⟩
      rw [List.getElem?_mapIdx] at hd
      cases e : J.xs[i]? with
      | none => rw [e] at hd; cases hd
      | some d0 =>
        rw [e] at hd
        cases hd
        obtain ⟨w, hw, rp⟩ := rl.getD e
        refine ⟨⟨vs, w, SqL.of ob, hw⟩, fun x H2 ⟨T, y, e1, e2, e3, e4⟩ => ?_⟩
        have := e4 vs (SqL.of ob)
        rw [hw] at this
        cases this
        subst e1 e3
        exact ⟨Same.new e2, rep_tup R' e2 (.cons (.v _) (.cons rp .nil))⟩
def dZip (t : TDA) : TDI := fun δ Q X => t δ (fun rs δ1 => match rs with
  | [r, s] => itOf true r δ1 fun J => itOf true s δ1 fun J' => Q ⟨(J.xs.zip J'.xs).map fun p => .nd .tup [p.1, p.2], fun δ => J.ok δ ∧ J'.ok δ⟩ δ1
  | _ => False) X
instance i_iZip {t : TA} {d : TDA} [a : DA E t d] : DI E (iZip K t) (dZip d) where
  r := fun F σ δ H Rr Rd Xd hr q k xo => by
    refine a.r F σ δ H _ _ Xd hr q (fun rs δ1 vs1 H1 q1 R1 f1 p1 => ?_) xo
    match rs, vs1, p1, q1 with
    | [r, s], [v, u], .cons p1 (.cons p2 .nil), q1 =>
      obtain ⟨l, J, rfl, q2, ok, src⟩ := src_ok p1 R1 q1
      obtain ⟨l2, J2, rfl, q3, ok2, src2⟩ := src_ok p2 R1 q2
      obtain ⟨vs0, ob0, _⟩ := src F σ δ1 H1 (fun _ z => .inl z) R1 Fr.refl.f ok
      obtain ⟨us0, ob1, _⟩ := src2 F σ δ1 H1 (fun _ z => .inl z) R1 Fr.refl.f ok2
      refine ⟨l, l2, vs0, us0, rfl, SqL.of ob0, SqL.of ob1, k _ _ δ1 H1 q3 R1 f1 fun i F' σ' δ' H' hF R' fr ok' => ?_⟩
      obtain ⟨vs, ob, rl⟩ := src F' σ' δ' H' hF R' fr ok'.1
      obtain ⟨us, ob', rl'⟩ := src2 F' σ' δ' H' hF R' fr ok'.2
      refine ⟨fun hi => ⟨vs, us, SqL.of ob, SqL.of ob', by
        rw [rl.len, rl'.len]
        rw [List.length_map, List.length_zip] at hi
        omega⟩, fun d hd => ?_⟩
      rw [List.getElem?_map] at hd
      cases e : (J.xs.zip J2.xs)[i]? with
      | none => rw [e] at hd; cases hd
      | some d0 =>
        rw [e] at hd
        cases hd
        rw [List.getElem?_zip_eq_some] at e
        obtain ⟨w, hw, rp⟩ := rl.getD e.1
        obtain ⟨w', hw', rp'⟩ := rl'.getD e.2
        refine ⟨⟨vs, us, w, w', SqL.of ob, SqL.of ob', hw, hw'⟩, fun x H2 ⟨T, y, y', e1, e2, e3, e4, e5⟩ => ?_⟩
        have := e4 vs (SqL.of ob)
        rw [hw] at this
        cases this
        have := e5 us (SqL.of ob')
        rw [hw'] at this
        cases this
        subst e1 e3
        exact ⟨Same.new e2, rep_tup R' e2 (.cons rp (.cons rp' .nil))⟩
def intsD (n : Nat) (f : Nat → Int) : List D := (List.range n).map fun i => .v (.int (f i))
theorem intsD_len {n : Nat} {f : Nat → Int} : (intsD n f).length = n := by simp [intsD]
theorem intsD_get {n i : Nat} {f : Nat → Int} {d : D} (h : (intsD n f)[i]? = some d) : i < n ∧ d = .v (.int (f i)) := by
  unfold intsD at h
  rw [List.getElem?_map] at h
  by_cases c : i < n
  · rw [List.getElem?_range c] at h; cases h; exact ⟨c, rfl⟩
  · rw [List.getElem?_eq_none (by simpa using c)] at h; cases h
def dRng1 (t : TDA) : TDI := fun δ Q X => t δ (fun rs δ1 => valL δ1 rs fun ds => match ds with
  | [.v (.int j)] => (-(2 ^ 62) ≤ j ∧ j < 2 ^ 62) ∧ Q ⟨intsD j.toNat fun i => (i : Int), fun _ => True⟩ δ1
  | _ => False) X
instance i_iRng1 {t : TA} {d : TDA} [a : DA E t d] : DI E (iRng1 t) (dRng1 d) where
  r := fun F σ δ H Rr Rd Xd hr q k xo => by
    refine a.r F σ δ H _ _ Xd hr q (fun rs δ1 vs1 H1 q1 R1 f1 p1 => ?_) xo
    obtain ⟨ds, w, q2⟩ := valL_w p1 R1 q1
    match ds, vs1, w, q2 with
    | [.v (.int j)], [v], .cons w .nil, ⟨b, q2⟩ =>
      have w : v = .int j := w
      subst w
      refine ⟨j, rfl, b.1, b.2, k _ _ δ1 H1 q2 R1 f1 fun i F' σ' δ' H' hF R' fr ok' => ⟨fun hi => by rw [intsD_len] at hi; exact hi, fun d hd => ?_⟩⟩
      obtain ⟨h1, rfl⟩ := intsD_get hd
      refine ⟨h1, fun x H2 ⟨e1, e2⟩ => ?_⟩
      subst e1 e2
      rw [Int.zero_add]
      exact ⟨Same.refl _, .v _⟩
def dRng2 (t : TDA) : TDI := fun δ Q X => t δ (fun rs δ1 => valL δ1 rs fun ds => match ds with
  | [.v (.int i), .v (.int j)] => (-(2 ^ 62) ≤ i ∧ i < 2 ^ 62 ∧ -(2 ^ 62) ≤ j ∧ j < 2 ^ 62) ∧ Q ⟨intsD (j - i).toNat fun k => i + (k : Int), fun _ => True⟩ δ1
  | _ => False) X
instance i_iRng2 {t : TA} {d : TDA} [a : DA E t d] : DI E (iRng2 t) (dRng2 d) where
  r := fun F σ δ H Rr Rd Xd hr q k xo => by
    refine a.r F σ δ H _ _ Xd hr q (fun rs δ1 vs1 H1 q1 R1 f1 p1 => ?_) xo
    obtain ⟨ds, w, q2⟩ := valL_w p1 R1 q1
    match ds, vs1, w, q2 with
    | [.v (.int i), .v (.int j)], [v, u], .cons w (.cons w' .nil), ⟨b, q2⟩ =>
      have w : v = .int i := w
      have w' : u = .int j := w'
      subst w w'
      refine ⟨i, j, rfl, b, k _ _ δ1 H1 q2 R1 f1 fun n F' σ' δ' H' hF R' fr ok' => ⟨fun hi => by rw [intsD_len] at hi; exact hi, fun d hd => ?_⟩⟩
      obtain ⟨h1, rfl⟩ := intsD_get hd
      refine ⟨h1, fun x H2 ⟨e1, e2⟩ => ?_⟩
      subst e1 e2
      exact ⟨Same.refl _, .v _⟩
def dRng3 (t : TDA) : TDI := fun δ Q X => t δ (fun rs δ1 => valL δ1 rs fun ds => match ds with
  | [.v (.int i), .v (.int j), .v (.int c)] => ∃ n, RgC i j c n ∧ Q ⟨intsD n fun k => i + (k : Int) * c, fun _ => True⟩ δ1
  | _ => False) X
instance i_iRng3 {t : TA} {d : TDA} [a : DA E t d] : DI E (iRng3 t) (dRng3 d) where
  r := fun F σ δ H Rr Rd Xd hr q k xo => by
    refine a.r F σ δ H _ _ Xd hr q (fun rs δ1 vs1 H1 q1 R1 f1 p1 => ?_) xo
    obtain ⟨ds, w, q2⟩ := valL_w p1 R1 q1
    match ds, vs1, w, q2 with
    | [.v (.int i), .v (.int j), .v (.int c)], [v, u, z], .cons w (.cons w' (.cons w'' .nil)), ⟨n, b, q2⟩ =>
      have w : v = .int i := w
      have w' : u = .int j := w'
      have w'' : z = .int c := w''
      subst w w' w''
      refine ⟨i, j, c, n, rfl, b, k _ _ δ1 H1 q2 R1 f1 fun m F' σ' δ' H' hF R' fr ok' => ⟨fun hi => by rw [intsD_len] at hi; exact hi, fun d hd => ?_⟩⟩
      obtain ⟨h1, rfl⟩ := intsD_get hd
      refine ⟨h1, fun x H2 ⟨e1, e2⟩ => ?_⟩
      subst e1 e2
      exact ⟨Same.refl _, .v _⟩
def dIStr (t : TDE) : TDI := fun δ Q X => t δ (fun r δ1 => val δ1 r fun d => match d with
  | .v (.str x) => Q ⟨x.cps.toList.map fun c => .v (.str ⟨#[c]⟩), fun _ => True⟩ δ1
  | _ => False) X
instance i_iStr {t : TE} {d : TDE} [a : DR E t d] : DI E (iStr t) (dIStr d) where
  r := fun F σ δ H Rr Rd Xd hr q k xo => by
    refine a.r F σ δ H _ _ Xd hr q (fun x δ1 v1 H1 q1 R1 f1 p1 => ?_) xo
    obtain ⟨d, w, q2⟩ := val_w p1 R1 q1
    match d, w, q2 with
    | .v (.str x), w, q2 =>
      refine ⟨x, w, k _ _ δ1 H1 q2 R1 f1 fun i F' σ' δ' H' hF R' fr ok' => ⟨fun hi => (by simpa using hi : x.cps.size ≤ i), fun d hd => ?_⟩⟩
      rw [List.getElem?_map] at hd
      cases e : x.cps.toList[i]? with
      | none => rw [e] at hd; cases hd
      | some c =>
        rw [e] at hd
        cases hd
        have hi : i < x.cps.size := by
          have := (List.getElem?_eq_some_iff.mp e).1
          simpa using this
        refine ⟨hi, fun y H2 ⟨e1, c', e2, e3⟩ => ?_⟩
        have : c = c' := by
          rw [Array.getElem?_toList] at e
          rw [e] at e2
          exact Option.some.inj e2
        subst this e1 e3
        exact ⟨Same.refl _, .v _⟩
end
end L2

set_option Elab.async false
set_option linter.all false
set_option maxRecDepth 100000
set_option maxHeartbeats 1000000
namespace L2
open PySem PySem.Spec PyProof.Rows TL
/-! ### comprehensions -/
def wipeD (δ : En) : List Nat → En
  | [] => δ
  | v :: vs => (wipeD δ vs).set v .no
def rst : S → S
  | .no => .no
  | .d d => .d d
  | _ => .any
def restD (δ0 δ : En) : List Nat → En
  | [] => δ
  | v :: vs => (restD δ0 δ vs).set v (match δ0[v]? with | some s => rst s | none => .any)
abbrev noX : XDK := fun _ _ _ => False
theorem rst_adr (s : S) : (rst s).adr = none := by cases s <;> rfl
theorem owns_setN {δ : En} {i : Nat} {s' : S} (h : s'.adr = none) (nd : (owns δ).Nodup) : (∀ a, a ∈ owns (δ.set i s') → a ∈ owns δ) ∧ (owns (δ.set i s')).Nodup := by
  by_cases hi : i < δ.length
  · obtain ⟨h1, h2⟩ := owns_drop (List.getElem?_eq_getElem hi) h nd
    exact ⟨fun a z => (h1 a z).1, h2⟩
  · rw [List.set_eq_of_length_le (by omega)]
    exact ⟨fun _ z => z, nd⟩
theorem All2.of_get {α β : Type} {R : α → β → Prop} : ∀ {l : List α} {m : List β}, l.length = m.length → (∀ (i : Nat) a b, l[i]? = some a → m[i]? = some b → R a b) → All2 R l m
  | [], [], _, _ => .nil
  | [], _ :: _, h, _ => by simp at h
  | _ :: _, [], h, _ => by simp at h
  | a :: l, b :: m, h, f => .cons (f 0 a b rfl rfl) (All2.of_get (by simpa using h) fun i a b h1 h2 => f (i + 1) a b (by simpa using h1) (by simpa using h2))
section
variable {F : Addr → Prop} {σ : St} {δ δ0 : En} {H H0 : Hp}
theorem Rel.put {i : Nat} {s' : S} {o : Option V} (hr : Rel F σ δ H) (h : s'.adr = none) (ok : ∀ G : Addr → Prop, SRel F G H o s') : Rel F (σ.set i o) (δ.set i s') H := by
  obtain ⟨h1, h2⟩ := owns_setN (i := i) h hr.nd
  exact ⟨(hr.sl.imp fun _ _ _ q => q.imp (fun b o e g => ⟨e, fun z => g (z.elim .inl fun z => .inr (h1 b z))⟩) (fun _ _ z => z) (fun _ _ _ e => e)).set i (ok _), h2, hr.fd⟩
theorem Rel.wipe (hr : Rel F σ δ H) : ∀ vs : List Nat, Rel F (L2.wipe σ vs) (wipeD δ vs) H
  | [] => hr
  | v :: vs => (Rel.wipe hr vs).put rfl fun _ => rfl
theorem wipeD_owns : ∀ (vs : List Nat), (owns δ).Nodup → (∀ a, a ∈ owns (wipeD δ vs) → a ∈ owns δ) ∧ (owns (wipeD δ vs)).Nodup
  | [], nd => ⟨fun _ z => z, nd⟩
  | v :: vs, nd => by
    obtain ⟨h1, h2⟩ := wipeD_owns vs nd
    obtain ⟨h3, h4⟩ := owns_setN (i := v) (s' := .no) rfl h2
    exact ⟨fun a z => h1 a (h3 a z), h4⟩
theorem restD_owns : ∀ (vs : List Nat), (owns δ).Nodup → (∀ a, a ∈ owns (restD δ0 δ vs) → a ∈ owns δ) ∧ (owns (restD δ0 δ vs)).Nodup
  | [], nd => ⟨fun _ z => z, nd⟩
  | v :: vs, nd => by
    obtain ⟨h1, h2⟩ := restD_owns vs nd
    have ha : (match δ0[v]? with | some s => rst s | none => S.any).adr = none := by
      cases δ0[v]? with
      | none => rfl
      | some s => exact rst_adr s
    obtain ⟨h3, h4⟩ := owns_setN (i := v) ha h2
    exact ⟨fun a z => h1 a (h3 a z), h4⟩
theorem restD_len : ∀ (vs : List Nat), (restD δ0 δ vs).length = δ.length
  | [] => rfl
  | v :: vs => by unfold restD; rw [List.length_set, restD_len vs]
theorem restD_get {i : Nat} {s : S} : ∀ {vs : List Nat}, (restD δ0 δ vs)[i]? = some s → (i ∈ vs ∧ s = (match δ0[i]? with | some s => rst s | none => S.any)) ∨ (i ∉ vs ∧ δ[i]? = some s)
  | [], h => .inr ⟨by simp, h⟩
  | v :: vs, h => by
    unfold restD at h
    by_cases e : v = i
    · subst e
      have hl : v < (restD δ0 δ vs).length := by
        have := (List.getElem?_eq_some_iff.mp h).1
        simpa using this
      rw [List.getElem?_set_self hl] at h
      exact .inl ⟨by simp, (Option.some.inj h).symm⟩
    · rw [List.getElem?_set_ne e] at h
      rcases restD_get h with ⟨z, q⟩ | ⟨z, q⟩
      · exact .inl ⟨by simp [z], q⟩
      · exact .inr ⟨by simp [z]; exact fun z => e z.symm, q⟩
theorem wipe_outD {i : Nat} : ∀ {vs : List Nat}, i ∉ vs → (wipe σ vs)[i]? = σ[i]?
  | [], _ => rfl
  | v :: vs, h => by
    unfold wipe
    rw [List.getElem?_set_ne (fun z => h (by simp [z]))]
    exact wipe_outD fun z => h (by simp [z])
theorem wipe_idem (vs : List Nat) : wipe (wipe σ vs) vs = wipe σ vs := by
  have gen : ∀ ws, (∀ v ∈ ws, v ∈ vs) → wipe (wipe σ vs) ws = wipe σ vs := by
    intro ws
    induction ws with
    | nil => intro _; rfl
    | cons v ws ih =>
      intro h
      show (wipe (wipe σ vs) ws).set v none = wipe σ vs
      rw [ih fun u hu => h u (by simp [hu])]
      have hv := h v (by simp)
      have : ∀ us : List Nat, v ∈ us → (wipe σ us).set v none = wipe σ us := by
        intro us
        induction us with
        | nil => intro z; cases z
        | cons u us ih2 =>
          intro z
          show ((wipe σ us).set u none).set v none = (wipe σ us).set u none
          by_cases e : v = u
          · subst e; rw [List.set_set]
          · have z' : v ∈ us := by
              rcases List.mem_cons.mp z with z | z
              · exact absurd z e
              · exact z
            rw [List.set_comm _ _ (fun z => e z.symm), ih2 z']
      exact this vs hv
  exact gen vs fun _ h => h
/-- behind the comprehension the names of the block hold what they held -/
theorem Rel.rest {F' : Addr → Prop} {δ1 : En} {H1 : Hp} {vs : List Nat} (hr : Rel F' (L2.wipe σ vs) δ H) (r1 : Rel F σ δ1 H1) (fr : Fr δ1 H1 δ H) (hF : ∀ b, F' b → F b ∨ H1 b = none) : Rel F' σ (restD δ1 δ vs) H := by
  obtain ⟨h1, h2⟩ := restD_owns (δ0 := δ1) vs hr.nd
  have sub : ∀ b, Fb F' (restD δ1 δ vs) b → Fb F' δ b := fun b z => z.elim .inl fun z => .inr (h1 b z)
  refine ⟨All2.of_get ?_ fun i o s ho hs => ?_, h2, hr.fd⟩
  · rw [restD_len, ← hr.sl.len, wipe_length]
  · rcases restD_get hs with ⟨hi, rfl⟩ | ⟨hi, hs⟩
    · cases e : δ1[i]? with
      | none => trivial
      | some s =>
        obtain ⟨o', e', sr⟩ := r1.sl.getR e
        rw [ho] at e'
        cases e'
        cases s with
        | no => exact sr
        | d d =>
          obtain ⟨v, ev, rp⟩ := sr
          refine ⟨v, ev, rp.imp fun b u eb g => ⟨fr.ex b u (fun z => g (.inr z)) eb, fun z => ?_⟩⟩
          rcases sub b z with z | z
          · rcases hF b z with z | z
            · exact g (.inl z)
            · rw [z] at eb; cases eb
          · rcases fr.nw b z with z | z
            · exact g (.inr z)
            · rw [z] at eb; cases eb
        | own f a k ds => trivial
        | gad g n a => trivial
        | any => trivial
    · obtain ⟨o', e', sr⟩ := hr.sl.getR hs
      rw [wipe_outD hi, ho] at e'
      cases e'
      exact sr.imp (fun b u e g => ⟨e, fun z => g (sub b z)⟩) (fun _ _ z => z) (fun _ _ _ e => e)
theorem Rel.updF {p : Addr} {o : HO} (hr : Rel F σ δ H) (hp : F p) (np : p ∉ owns δ) : Rel F σ δ (upd H p o) := by
  have m : ∀ a u, a ≠ p → H a = some u → upd H p o a = some u := fun a u n e => by rw [upd_ne n]; exact e
  refine ⟨hr.sl.imp fun _ s hs h => h.imp (fun b u e g => ⟨m b u (fun z => g (.inl (by rw [z]; exact hp))) e, g⟩) (fun _ _ z => z) (fun b hb u e => m b u (fun z => np (by rw [← z]; exact mem_owns.mpr ⟨s, hs, hb⟩)) e), hr.nd, fun a z => ?_⟩
  by_cases e : a = p
  · subst e; exact ⟨_, upd_same⟩
  · obtain ⟨u, eu⟩ := hr.fd a z
    exact ⟨u, m a u e eu⟩
end
section
variable {E : XKS}
def dLc (it : TDI) (g : TDG) (sl : List Nat) (tt : TDT) (te : TDE) (vs : List Nat) : TDE := fun δ Q X => it δ (fun J δ1 => (sl.all fun i => vs.contains i) = true ∧ ∃ I : Nat → En → List D → Prop, I 0 (wipeD δ1 vs) [] ∧ (∀ i δ acc, I i δ acc → J.ok δ) ∧
  (∀ i δ acc x, J.xs[i]? = some x → I i δ acc → acc.length < sizeLine ∧ g (.d x) δ fun δ2 => tt δ2 (fun b δ3 => if b = true then te δ3 (fun r δ4 => frz δ4 r fun d δ5 => I (i + 1) (wipeD δ5 vs) (acc ++ [d])) noX else I (i + 1) (wipeD δ3 vs) acc) noX) ∧
  ∀ δ acc, I J.xs.length δ acc → Q (.new .lst acc) (restD δ1 δ vs)) X
instance i_lc {wi : TI} {g : TG} {tt : TT} {te : TE} {vs sl : List Nat} {di : TDI} {gd : TDG} {td : TDT} {ed : TDE} [x : DI E wi di] [y : DG g gd sl] [z : DT E tt td] [w : DR E te ed] : DR E (tLc wi g tt te vs) (dLc di gd sl td ed vs) where
  r := fun F σ δ H Q Qd Xd hr q k xo => by
    refine x.r F σ δ H _ _ _ hr q (fun JJ J δ1 H1 q1 R1 f1 io D hD => ?_) xo
    obtain ⟨hsl, I, i0, iok, turn, fin⟩ := q1
    have hsl' : ∀ i ∈ sl, i ∈ vs := fun i hi => by
      have := List.all_eq_true.mp hsl i hi
      simpa using this
    have hF : ∀ b, Fp F D b → F b ∨ H1 b = none := fun b z => z.elim .inl fun z => .inr (by rw [z]; exact hD)
    have xno : ∀ δ' H', XOk E (Fp F D) δ' H' noX := fun _ _ _ _ _ _ _ _ z => z.elim
    have st : Rel (Fp F D) (wipe σ vs) (wipeD δ1 vs) (upd H1 D (.lst [])) := (R1.more (Same.new hD) hD ⟨_, upd_same⟩).wipe vs
    obtain ⟨wo, _⟩ := wipeD_owns vs R1.nd
    have nD1 : D ∉ owns δ1 := fun z => R1.nofb hD (.inr z)
    refine ⟨fun i m H => m = J.xs.length - i ∧ i ≤ J.xs.length ∧ ∃ δ acc ws, I i δ acc ∧ Rel (Fp F D) (wipe σ vs) δ H ∧ Fr δ1 H1 δ H ∧ D ∉ owns δ ∧ H D = some (.lst ws) ∧ RepL (Fb (Fp F D) δ) H ws acc,
      ⟨_, rfl, Nat.zero_le _, _, [], [], i0, st, ⟨fun a o _ e => Same.new hD _ _ e, fun a h => .inl (wo a h), fun a o h => ⟨_, Same.new hD _ _ h⟩⟩, fun h => nD1 (wo D h), upd_same, .nil⟩, ?_⟩
    rintro i m H2 ⟨rfl, hi, δ2, acc, ws, ii, R2, f2, nD, eD, rl⟩
    obtain ⟨stp, go⟩ := io i (Fp F D) _ δ2 H2 hF R2 f2.f (iok i δ2 acc ii)
    by_cases hlt : i < J.xs.length
    · obtain ⟨g1, g2⟩ := go J.xs[i] (List.getElem?_eq_getElem hlt)
      refine .inr ⟨g1, fun H' => ∃ δ' acc ws, I (i + 1) δ' acc ∧ Rel (Fp F D) (wipe σ vs) δ' H' ∧ Fr δ1 H1 δ' H' ∧ D ∉ owns δ' ∧ H' D = some (.lst ws) ∧ RepL (Fb (Fp F D) δ') H' ws acc, fun H' h => ⟨_, by omega, rfl, hlt, h⟩, fun v H3 yl => ?_⟩
      obtain ⟨sm, rp⟩ := g2 v H3 yl
      obtain ⟨hlen, tq⟩ := turn i δ2 acc _ (List.getElem?_eq_getElem hlt) ii
      refine y.r (Fp F D) _ δ2 H3 H3 v (.d _) _ _ (R2.same sm) rp tq fun σ4 δ4 H4 q4 R4 f4 w4 => ?_
      have ew : wipe σ4 vs = wipe σ vs := (w4 vs hsl').trans (wipe_idem vs)
      have fr4 : Fr δ2 H2 δ4 H4 := (Fr.same sm).trans (f4 δ2 .refl)
      refine ⟨ew, z.r (Fp F D) σ4 δ4 H4 _ _ _ R4 q4 (fun b δ5 H5 q5 R5 f5 => ?_) (xno _ _)⟩
      have fr5 := fr4.trans f5
      have nD5 : D ∉ owns δ5 := fun h => by
        rcases fr5.nw D h with h | h
        · exact nD h
        · rw [eD] at h; cases h
      cases b with
      | true =>
        refine w.r (Fp F D) σ4 δ5 H5 _ _ _ R5 q5 (fun r δ6 u H6 q6 R6 f6 p6 => ?_) (xno _ _)
        obtain ⟨d, δ7, rp7, R7, f7, q7⟩ := frz_ok p6 R6 q6
        have fr7 := (fr5.trans f6).trans f7
        have eD7 : H6 D = some (.lst ws) := fr7.ex D _ nD eD
        have nD7 : D ∉ owns δ7 := fun h => by
          rcases fr7.nw D h with h | h
          · exact nD h
          · rw [eD] at h; cases h
        have ew' : Rel (Fp F D) (wipe σ vs) (wipeD δ7 vs) H6 := by rw [← ew]; exact R7.wipe vs
        obtain ⟨wo7, _⟩ := wipeD_owns vs R7.nd
        refine ⟨ws, eD7, by rw [rl.len]; exact hlen, _, _, ws ++ [u], q7, ew'.updF (.inr rfl) (fun h => nD7 (wo7 D h)), ?_, fun h => nD7 (wo7 D h), upd_same, ?_⟩
        · have f := f2.trans fr7
          refine ⟨fun a o ha e => ?_, fun a h => f.nw a (wo7 a h), fun a o e => ?_⟩
          · rw [upd_ne (ne_of_none e hD)]; exact f.ex a o ha e
          · rw [upd_ne (ne_of_none e hD)]; exact f.dm a o e
        · have m : ∀ b o, H6 b = some o → ¬ Fb (Fp F D) δ7 b → upd H6 D (.lst (ws ++ [u])) b = some o ∧ ¬ Fb (Fp F D) (wipeD δ7 vs) b := fun b o e g => ⟨by rw [upd_ne (fun h => g (.inl (.inr h)))]; exact e, fun h => g (h.elim .inl fun h => .inr (wo7 b h))⟩
          exact ((rl.imp fr7.mv).imp m).app (.one (rp7.imp m))
      | false =>
        have ew' : Rel (Fp F D) (wipe σ vs) (wipeD δ5 vs) H5 := by rw [← ew]; exact R5.wipe vs
        obtain ⟨wo5, _⟩ := wipeD_owns vs R5.nd
        have f := f2.trans fr5
        exact ⟨_, _, ws, q5, ew', ⟨f.ex, fun a h => f.nw a (wo5 a h), f.dm⟩, fun h => nD5 (wo5 D h), fr5.ex D _ nD eD, (rl.imp fr5.mv).imp fun b o e g => ⟨e, fun h => g (h.elim .inl fun h => .inr (wo5 b h))⟩⟩
    · have e : i = J.xs.length := by omega
      subst e
      refine .inl ⟨stp (Nat.le_refl _), ?_⟩
      have RR := R2.rest R1 f2 hF
      obtain ⟨ro, _⟩ := restD_owns (δ0 := δ1) vs R2.nd
      have nD' : D ∉ owns (restD δ1 δ2 vs) := fun h => nD (ro D h)
      refine k _ _ (.ref D) H2 (fin δ2 acc ii) RR.unp (f1.trans ⟨f2.ex, fun a h => f2.nw a (ro a h), f2.dm⟩) ⟨D, ws, rfl, eD, f1.free hD, fun h => R1.nofb hD (.inl h), nD', rl.imp fun b o e g => ⟨e, fun h => g (h.elim .inl fun h => .inr (ro b h))⟩, RR⟩
end
end L2

set_option Elab.async false
set_option linter.all false
set_option maxRecDepth 100000
set_option maxHeartbeats 1000000
namespace L2
open PySem PySem.Spec PyProof.Rows TL
/-! ### operators over data -/
abbrev RK := R → Prop
abbrev rv (v : V) : R := .d (.v v)
section
variable {K : PySem.W.Frag} {X : Cx}
def oI (C : Int → Int → Prop) (g : Int → Int → V) : D → D → RK → Prop := fun x y Q => match x, y with
  | .v (.int i), .v (.int j) => C i j ∧ Q (rv (g i j))
  | _, _ => False
def oI0 (g : Int → Int → V) : D → D → RK → Prop := fun x y Q => match x, y with
  | .v (.int i), .v (.int j) => Q (rv (g i j))
  | _, _ => False
instance v_rI0 {g : Int → Int → V} : DV2 (rI0 g) (oI0 g) where
  r := fun G H x y d e Q Qd _ w1 w2 q k => match d, e, w1, w2, q with
    | .v (.int i), .v (.int j), w1, w2, q => ⟨i, j, w1, w2, k _ _ H q (Same.refl _) (Rep.v _)⟩
instance v_rI {C : Int → Int → Prop} {g : Int → Int → V} : DV2 (rI C g) (oI C g) where
  r := fun G H x y d e Q Qd _ w1 w2 q k => match d, e, w1, w2, q with
    | .v (.int i), .v (.int j), w1, w2, q => ⟨i, j, w1, w2, q.1, k _ _ H q.2 (Same.refl _) (Rep.v _)⟩
def oU (g : Int → V) : D → RK → Prop := fun x Q => match x with
  | .v (.int i) => Q (rv (g i))
  | _ => False
instance v_rU {g : Int → V} : DV1 (rU g) (oU g) where
  r := fun G H x d Q Qd _ w1 q k => match d, w1, q with
    | .v (.int i), w1, q => ⟨i, w1, k _ _ H q (Same.refl _) (Rep.v _)⟩
def oEq : D → D → RK → Prop := fun x y Q => match x, y with
  | .v x, .v y => scal x y = true ∧ Q (rv (.bl (decide (x = y))))
  | _, _ => False
def oNe : D → D → RK → Prop := fun x y Q => match x, y with
  | .v x, .v y => scal x y = true ∧ Q (rv (.bl (!decide (x = y))))
  | _, _ => False
instance v_rEq : DV2 rEq oEq where
  r := fun G H x y d e Q Qd _ w1 w2 q k => match d, e, w1, w2, q with
    | .v x', .v y', w1, w2, q => by
      have w1 : x = x' := w1
      have w2 : y = y' := w2
      subst w1 w2
      exact ⟨q.1, k _ _ H q.2 (Same.refl _) (Rep.v _)⟩
instance v_rNe : DV2 rNe oNe where
  r := fun G H x y d e Q Qd _ w1 w2 q k => match d, e, w1, w2, q with
    | .v x', .v y', w1, w2, q => by
      have w1 : x = x' := w1
      have w2 : y = y' := w2
      subst w1 w2
      exact ⟨q.1, k _ _ H q.2 (Same.refl _) (Rep.v _)⟩
def rAddS : R2 := fun x y H Q => ∃ i j, x = .str i ∧ y = .str j ∧ i.length + j.length ≤ sizeLine ∧ Q (.str (i ++ j)) H
theorem op_addS : OpR X (binaryOp .Add) rAddS := op_add_str
def oAddS : D → D → RK → Prop := fun x y Q => match x, y with
  | .v (.str i), .v (.str j) => i.length + j.length ≤ sizeLine ∧ Q (rv (.str (i ++ j)))
  | _, _ => False
instance v_rAddS : DV2 rAddS oAddS where
  r := fun G H x y d e Q Qd _ w1 w2 q k => match d, e, w1, w2, q with
    | .v (.str i), .v (.str j), w1, w2, q => ⟨i, j, w1, w2, q.1, k _ _ H q.2 (Same.refl _) (Rep.v _)⟩
def rMulS : R2 := fun x y H Q => ∃ (z : Str) (n : Nat), x = .str z ∧ y = .int (n : Int) ∧ n ≤ 16777216 ∧ z.length * n ≤ 16777216 ∧ Q (.str (repS z n)) H
theorem op_mulS : OpR X (binaryOp .Mult) rMulS := op_mul_str
def oMulS : D → D → RK → Prop := fun x y Q => match x, y with
  | .v (.str z), .v (.int i) => 0 ≤ i ∧ i.toNat ≤ 16777216 ∧ z.length * i.toNat ≤ 16777216 ∧ Q (rv (.str (repS z i.toNat)))
  | _, _ => False
instance v_rMulS : DV2 rMulS oMulS where
  r := fun G H x y d e Q Qd _ w1 w2 q k => match d, e, w1, w2, q with
    | .v (.str i), .v (.int j), w1, w2, q => ⟨i, j.toNat, w1, by rw [Int.toNat_of_nonneg q.1]; exact w2, q.2.1, q.2.2.1, k _ _ H q.2.2.2 (Same.refl _) (Rep.v _)⟩
def rAddIB : R2 := fun x y H Q => ∃ i k, x = .int i ∧ y = .bl k ∧ Q (.int (i + b2i k)) H
def oAddIB : D → D → RK → Prop := fun x y Q => match x, y with
  | .v (.int i), .v (.bl b) => Q (rv (.int (i + b2i b)))
  | _, _ => False
instance v_rAddIB : DV2 rAddIB oAddIB where
  r := fun G H x y d e Q Qd _ w1 w2 q k => match d, e, w1, w2, q with
    | .v (.int i), .v (.bl j), w1, w2, q => ⟨i, j, w1, w2, k _ _ H q (Same.refl _) (Rep.v _)⟩
def rIsN : R2 := fun x y H Q => y = .non ∧ Q (.bl (decide (x = .non))) H
def rNotN : R2 := fun x y H Q => y = .non ∧ Q (.bl (!decide (x = .non))) H
def isNo : D → Bool
  | .v x => decide (x = .non)
  | .nd _ _ => false
def oIsN : D → D → RK → Prop := fun x y Q => match y with
  | .v .non => Q (rv (.bl (isNo x)))
  | _ => False
def oNotN : D → D → RK → Prop := fun x y Q => match y with
  | .v .non => Q (rv (.bl (!isNo x)))
  | _ => False
theorem isNo_ok {G : Addr → Prop} {H : Hp} {u : V} {d : D} (w : WRep G H u d) : decide (u = .non) = isNo d := by
  cases d with
  | v x => have w : u = x := w; subst w; rfl
  | nd k ds => obtain ⟨a, vs, rfl, _⟩ := w; rfl
instance v_rIsN : DV2 rIsN oIsN where
  r := fun G H x y d e Q Qd _ w1 w2 q k => match e, w2, q with
    | .v .non, w2, q => ⟨w2, k _ _ H q (Same.refl _) (by rw [isNo_ok w1]; exact Rep.v _)⟩
instance v_rNotN : DV2 rNotN oNotN where
  r := fun G H x y d e Q Qd _ w1 w2 q k => match e, w2, q with
    | .v .non, w2, q => ⟨w2, k _ _ H q (Same.refl _) (by rw [isNo_ok w1]; exact Rep.v _)⟩
def rInS (neg : Bool) : R2 := fun x y H Q => ∃ (c : Nat) (z : Str), x = .str ⟨#[c]⟩ ∧ y = .str z ∧ Q (.bl (if neg then !decide (c ∈ z.cps.toList) else decide (c ∈ z.cps.toList))) H
def oInS (neg : Bool) : D → D → RK → Prop := fun x y Q => match x, y with
  | .v (.str s), .v (.str z) => ∃ c, s = ⟨#[c]⟩ ∧ Q (rv (.bl (if neg then !decide (c ∈ z.cps.toList) else decide (c ∈ z.cps.toList))))
  | _, _ => False
instance v_rInS {neg : Bool} : DV2 (rInS neg) (oInS neg) where
  r := fun G H x y d e Q Qd _ w1 w2 q k => match d, e, w1, w2, q with
    | .v (.str s), .v (.str z), w1, w2, ⟨c, hc, q⟩ => ⟨c, z, by rw [← hc]; exact w1, w2, k _ _ H q (Same.refl _) (Rep.v _)⟩
/-! ### items, parts -/
theorem atI_rep {G : Addr → Prop} {H : Hp} {vs : List V} {ds : List D} {i : Int} {d : D} (rl : RepL G H vs ds) (h : atI ds i = some d) : ∃ v, atI vs i = some v ∧ Rep G H v d := by
  unfold atI at h ⊢
  rw [rl.len]
  cases e : ixN ds.length i with
  | none => rw [e] at h; cases h
  | some j =>
    rw [e] at h
    exact rl.getD h
def oIxL : D → D → RK → Prop := fun x y Q => match x, y with
  | .nd .lst ds, .v (.int i) => ∃ d, atI ds i = some d ∧ Q (.d d)
  | _, _ => False
def oIxT : D → D → RK → Prop := fun x y Q => match x, y with
  | .nd .tup ds, .v (.int i) => ∃ d, atI ds i = some d ∧ Q (.d d)
  | _, _ => False
instance v_rIxL : DV2 (rIxL K) oIxL where
  r := fun G H x y d e Q Qd _ w1 w2 q k => match d, e, w1, w2, q with
    | .nd .lst ds, .v (.int i), ⟨a, vs, ea, ob, rl⟩, w2, ⟨d, hd, q⟩ => by
      obtain ⟨v, hv, rp⟩ := atI_rep rl hd
      exact ⟨a, vs, i, v, ea, w2, SqL.of ob, hv, k _ _ H q (Same.refl _) rp⟩
instance v_rIxT : DV2 (rIxT K) oIxT where
  r := fun G H x y d e Q Qd _ w1 w2 q k => match d, e, w1, w2, q with
    | .nd .tup ds, .v (.int i), ⟨a, vs, ea, ob, rl⟩, w2, ⟨d, hd, q⟩ => by
      obtain ⟨v, hv, rp⟩ := atI_rep rl hd
      exact ⟨a, vs, i, v, ea, w2, SqT.of ob, hv, k _ _ H q (Same.refl _) rp⟩
def oIxS : D → D → RK → Prop := fun x y Q => match x, y with
  | .v (.str z), .v (.int i) => z.length ≤ sizeLine ∧ ∃ c, atI z.cps.toList i = some c ∧ Q (rv (.str ⟨#[c]⟩))
  | _, _ => False
instance v_rIxS : DV2 rIxS oIxS where
  r := fun G H x y d e Q Qd _ w1 w2 q k => match d, e, w1, w2, q with
    | .v (.str z), .v (.int i), w1, w2, ⟨hl, c, hc, q⟩ => ⟨z, i, c, w1, w2, hl, hc, k _ _ H q (Same.refl _) (Rep.v _)⟩
theorem RepL.drop {G : Addr → Prop} {H : Hp} : ∀ {vs : List V} {ds : List D} (n : Nat), RepL G H vs ds → RepL G H (vs.drop n) (ds.drop n)
  | _, _, 0, h => h
  | _, _, n + 1, .nil => .nil
  | _, _, n + 1, .cons _ h => RepL.drop n h
theorem RepL.take {G : Addr → Prop} {H : Hp} : ∀ {vs : List V} {ds : List D} (n : Nat), RepL G H vs ds → RepL G H (vs.take n) (ds.take n)
  | _, _, 0, h => by simp; exact .nil
  | _, _, n + 1, .nil => .nil
  | _, _, n + 1, .cons a h => .cons a (RepL.take n h)
theorem RepL.rev {G : Addr → Prop} {H : Hp} : ∀ {vs : List V} {ds : List D}, RepL G H vs ds → RepL G H vs.reverse ds.reverse
  | _, _, .nil => .nil
  | _, _, .cons a h => by rw [List.reverse_cons, List.reverse_cons]; exact (RepL.rev h).app (.one a)
def cutD {α : Type} (xs : List α) (lo hi : Option Int) : List α := (xs.drop (HT.sIx xs.length 0 lo)).take (HT.sIx xs.length xs.length hi - HT.sIx xs.length 0 lo)
theorem cutV_rep {G : Addr → Prop} {H : Hp} {vs : List V} {ds : List D} {lo hi : Option Int} (rl : RepL G H vs ds) : RepL G H (cutV vs lo hi) (cutD ds lo hi) := by
  unfold cutV cutD
  rw [rl.len]
  exact (rl.drop _).take _
theorem new_list {G : Addr → Prop} {H : Hp} {vs : List V} {ds : List D} {p : Addr} (rl : RepL G H vs ds) (hp : H p = none) : OpOut G H (upd H p (.lst vs)) (.ref p) (.new .lst ds) :=
  ⟨p, vs, rfl, hp, upd_same, rl.imp fun b u e g => ⟨Same.new hp _ _ e, fun z => z.elim g fun z => by subst z; rw [e] at hp; cases hp⟩⟩
theorem new_tup {G : Addr → Prop} {H : Hp} {vs : List V} {ds : List D} {p : Addr} (gd : ∀ a, G a → ∃ o, H a = some o) (rl : RepL G H vs ds) (hp : H p = none) : OpOut G H (upd H p (.tup vs)) (.ref p) (.d (.nd .tup ds)) :=
  Rep.nd upd_same (fun z => by obtain ⟨o, e⟩ := gd p z; rw [e] at hp; cases hp) (rl.imp fun b u e g => ⟨Same.new hp _ _ e, g⟩)
def oCat : D → D → RK → Prop := fun x y Q => match x, y with
  | .nd .lst a, .nd .lst b => a.length + b.length ≤ sizeLine ∧ Q (.new .lst (a ++ b))
  | _, _ => False
instance v_rCat : DV2 rCat oCat where
  r := fun G H x y d e Q Qd _ w1 w2 q k => match d, e, w1, w2, q with
    | .nd .lst ds, .nd .lst es, ⟨a, vs, ea, ob, rl⟩, ⟨b, us, eb, ob', rl'⟩, ⟨hl, q⟩ => ⟨a, b, vs, us, ea, eb, ob, ob', by rw [rl.len, rl'.len]; exact hl, fun p hp => k _ _ _ q (Same.new hp) (new_list (rl.app rl') hp)⟩
def oRep : D → D → RK → Prop := fun x y Q => match x, y with
  | .nd .lst a, .v (.int n) => (-(2 ^ 63) ≤ n ∧ n < 2 ^ 63 ∧ a.length * n.toNat ≤ sizeLine) ∧ Q (.new .lst (List.replicate n.toNat a).flatten)
  | _, _ => False
theorem RepL.reps {G : Addr → Prop} {H : Hp} {vs : List V} {ds : List D} (h : RepL G H vs ds) : ∀ n, RepL G H (List.replicate n vs).flatten (List.replicate n ds).flatten
  | 0 => .nil
  | n + 1 => by rw [List.replicate_succ, List.replicate_succ, List.flatten_cons, List.flatten_cons]; exact h.app (RepL.reps h n)
instance v_rRep : DV2 rRep oRep where
  r := fun G H x y d e Q Qd _ w1 w2 q k => match d, e, w1, w2, q with
    | .nd .lst ds, .v (.int n), ⟨a, vs, ea, ob, rl⟩, w2, ⟨⟨h1, h2, h3⟩, q⟩ => ⟨a, n, vs, ea, w2, ob, h1, h2, by rw [rl.len]; exact h3, fun p hp => k _ _ _ q (Same.new hp) (new_list (rl.reps _) hp)⟩
/-! ### built-in functions -/
theorem w1 {G : Addr → Prop} {H : Hp} {xs : List V} {d : D} (w : WRepL G H xs [d]) : ∃ x, xs = [x] ∧ WRep G H x d := by
  cases w with | cons a b => cases b; exact ⟨_, rfl, a⟩
theorem w2 {G : Addr → Prop} {H : Hp} {xs : List V} {d e : D} (w : WRepL G H xs [d, e]) : ∃ x y, xs = [x, y] ∧ WRep G H x d ∧ WRep G H y e := by
  cases w with | cons a b => cases b with | cons b c => cases c; exact ⟨_, _, rfl, a, b⟩
theorem w3 {G : Addr → Prop} {H : Hp} {xs : List V} {d e f : D} (w : WRepL G H xs [d, e, f]) : ∃ x y z, xs = [x, y, z] ∧ WRep G H x d ∧ WRep G H y e ∧ WRep G H z f := by
  cases w with | cons a b => cases b with | cons b c => cases c with | cons c e => cases e; exact ⟨_, _, _, rfl, a, b, c⟩
def oLen : List D → RK → Prop := fun ds Q => match ds with
  | [.nd .lst l] => Q (rv (.int l.length))
  | [.nd .tup l] => Q (rv (.int l.length))
  | _ => False
instance v_len : DVn (rLenQ K) oLen where
  r := fun G H xs ds Q Qd _ w q k => match ds, w, q with
    | [.nd .lst l], w, q => by
      obtain ⟨x, rfl, a, vs, rfl, ob, rl⟩ := w1 w
      exact ⟨a, vs, rfl, .inl (SqL.of ob), by rw [rl.len]; exact k _ _ H q (Same.refl _) (Rep.v _)⟩
    | [.nd .tup l], w, q => by
      obtain ⟨x, rfl, a, vs, rfl, ob, rl⟩ := w1 w
      exact ⟨a, vs, rfl, .inr (SqT.of ob), by rw [rl.len]; exact k _ _ H q (Same.refl _) (Rep.v _)⟩
def rLenS : List V → Hp → VK → Prop := fun xs H Q => ∃ z, xs = [.str z] ∧ z.length ≤ sizeLine ∧ Q (.int z.length) H
theorem call_lenS : CallR X (.builtin "len") rLenS := call_len_str
def oLenS : List D → RK → Prop := fun ds Q => match ds with
  | [.v (.str z)] => z.length ≤ sizeLine ∧ Q (rv (.int z.length))
  | _ => False
instance v_lenS : DVn rLenS oLenS where
  r := fun G H xs ds Q Qd _ w q k => match ds, w, q with
    | [.v (.str z)], w, q => by
      obtain ⟨x, rfl, e⟩ := w1 w
      have e : x = .str z := e
      subst e
      exact ⟨z, rfl, q.1, k _ _ H q.2 (Same.refl _) (Rep.v _)⟩
def oList : List D → RK → Prop := fun ds Q => match ds with
  | [.nd .lst l] => Q (.new .lst l)
  | [.nd .tup l] => Q (.new .lst l)
  | _ => False
instance v_list : DVn (rListOf K) oList where
  r := fun G H xs ds Q Qd _ w q k => match ds, w, q with
    | [.nd .lst l], w, q => by
      obtain ⟨x, rfl, a, vs, rfl, ob, rl⟩ := w1 w
      exact ⟨a, vs, rfl, .inl (SqL.of ob), fun p hp => k _ _ _ q (Same.new hp) (new_list rl hp)⟩
    | [.nd .tup l], w, q => by
      obtain ⟨x, rfl, a, vs, rfl, ob, rl⟩ := w1 w
      exact ⟨a, vs, rfl, .inr (SqT.of ob), fun p hp => k _ _ _ q (Same.new hp) (new_list rl hp)⟩
def rTupOf (K : PySem.W.Frag) : List V → Hp → VK → Prop := fun xs H Q => ∃ p ys, xs = [.ref p] ∧ ((SqL K H p ys ∧ ∀ l, H l = none → Q (.ref l) (upd H l (.tup ys))) ∨ (SqT K H p ys ∧ Q (.ref p) H))
/-- tuple(a list) -/
def oTuple : List D → RK → Prop := fun ds Q => match ds with
  | [.nd .lst l] => Q (.d (.nd .tup l))
  | _ => False
instance v_tuple : DVn (rTupOf K) oTuple where
  r := fun G H xs ds Q Qd gd w q k => match ds, w, q with
    | [.nd .lst l], w, q => by
      obtain ⟨x, rfl, a, vs, rfl, ob, rl⟩ := w1 w
      exact ⟨a, vs, rfl, .inl ⟨SqL.of ob, fun p hp => k _ _ _ q (Same.new hp) (new_tup gd rl hp)⟩⟩
def oI2 (g : Int → Int → Int) : List D → RK → Prop := fun ds Q => match ds with
  | [.v (.int i), .v (.int j)] => Q (rv (.int (g i j)))
  | _ => False
def rI2 (g : Int → Int → Int) : List V → Hp → VK → Prop := fun xs H Q => ∃ i j, xs = [.int i, .int j] ∧ Q (.int (g i j)) H
theorem call_min2D (hc : X.calm = true) : CallR X (.builtin "min") (rI2 fun i j => if j < i then j else i) := call_min2 hc
instance v_i2 {g : Int → Int → Int} : DVn (rI2 g) (oI2 g) where
  r := fun G H xs ds Q Qd _ w q k => match ds, w, q with
    | [.v (.int i), .v (.int j)], w, q => by
      obtain ⟨x, y, rfl, e, e'⟩ := w2 w
      have e : x = .int i := e
      have e' : y = .int j := e'
      subst e e'
      exact ⟨i, j, rfl, k _ _ H q (Same.refl _) (Rep.v _)⟩
def rMin3 : List V → Hp → VK → Prop := fun xs H Q => ∃ i j k, xs = [.int i, .int j, .int k] ∧ ∀ m, (m = i ∨ m = j ∨ m = k) → m ≤ i → m ≤ j → m ≤ k → Q (.int m) H
def oMin3 : List D → RK → Prop := fun ds Q => match ds with
  | [.v (.int i), .v (.int j), .v (.int k)] => ∀ m, (m = i ∨ m = j ∨ m = k) → m ≤ i → m ≤ j → m ≤ k → Q (rv (.int m))
  | _ => False
instance v_min3 : DVn rMin3 oMin3 where
  r := fun G H xs ds Q Qd _ w q k => match ds, w, q with
    | [.v (.int i), .v (.int j), .v (.int l)], w, q => by
      obtain ⟨x, y, z, rfl, e, e', e''⟩ := w3 w
      have e : x = .int i := e
      have e' : y = .int j := e'
      have e'' : z = .int l := e''
      subst e e' e''
      exact ⟨i, j, l, rfl, fun m h1 h2 h3 h4 => k _ _ H (q m h1 h2 h3 h4) (Same.refl _) (Rep.v _)⟩
def oI1 (g : Int → V) : List D → RK → Prop := fun ds Q => match ds with
  | [.v (.int i)] => Q (rv (g i))
  | _ => False
def rI1 (g : Int → V) : List V → Hp → VK → Prop := fun xs H Q => ∃ i, xs = [.int i] ∧ Q (g i) H
instance v_i1 {g : Int → V} : DVn (rI1 g) (oI1 g) where
  r := fun G H xs ds Q Qd _ w q k => match ds, w, q with
    | [.v (.int i)], w, q => by
      obtain ⟨x, rfl, e⟩ := w1 w
      have e : x = .int i := e
      subst e
      exact ⟨i, rfl, k _ _ H q (Same.refl _) (Rep.v _)⟩
def rInt1 : List V → Hp → VK → Prop := fun xs H Q => (∃ i, xs = [.int i] ∧ Q (.int i) H) ∨ ∃ k, xs = [.bl k] ∧ Q (.int (if k then 1 else 0)) H
theorem call_int1D : CallR X (.type "int") rInt1 := call_int1
def oInt1 : List D → RK → Prop := fun ds Q => match ds with
  | [.v (.int i)] => Q (rv (.int i))
  | [.v (.bl b)] => Q (rv (.int (if b then 1 else 0)))
  | _ => False
instance v_int1 : DVn rInt1 oInt1 where
  r := fun G H xs ds Q Qd _ w q k => match ds, w, q with
    | [.v (.int i)], w, q => by
      obtain ⟨x, rfl, e⟩ := w1 w
      have e : x = .int i := e
      subst e
      exact .inl ⟨i, rfl, k _ _ H q (Same.refl _) (Rep.v _)⟩
    | [.v (.bl i)], w, q => by
      obtain ⟨x, rfl, e⟩ := w1 w
      have e : x = .bl i := e
      subst e
      exact .inr ⟨i, rfl, k _ _ H q (Same.refl _) (Rep.v _)⟩
def rStrI : List V → Hp → VK → Prop := fun xs H Q => ∃ i, xs = [.int i] ∧ i.natAbs.log2 < 1920 ∧ Q (.str (toString i)) H
theorem call_strI : CallR X (.type "str") rStrI := call_str_int
def oStrI : List D → RK → Prop := fun ds Q => match ds with
  | [.v (.int i)] => i.natAbs.log2 < 1920 ∧ Q (rv (.str (toString i)))
  | _ => False
instance v_strI : DVn rStrI oStrI where
  r := fun G H xs ds Q Qd _ w q k => match ds, w, q with
    | [.v (.int i)], w, q => by
      obtain ⟨x, rfl, e⟩ := w1 w
      have e : x = .int i := e
      subst e
      exact ⟨i, rfl, q.1, k _ _ H q.2 (Same.refl _) (Rep.v _)⟩
def rDivm : List V → Hp → VK → Prop := fun xs H Q => ∃ i j, xs = [.int i, .int j] ∧ CDiv i j ∧ ∀ p, H p = none → Q (.ref p) (upd H p (.tup [.int (i / j), .int (i % j)]))
def oDivm : List D → RK → Prop := fun ds Q => match ds with
  | [.v (.int i), .v (.int j)] => CDiv i j ∧ Q (.d (.nd .tup [.v (.int (i / j)), .v (.int (i % j))]))
  | _ => False
instance v_divm : DVn rDivm oDivm where
  r := fun G H xs ds Q Qd gd w q k => match ds, w, q with
    | [.v (.int i), .v (.int j)], w, q => by
      obtain ⟨x, y, rfl, e, e'⟩ := w2 w
      have e : x = .int i := e
      have e' : y = .int j := e'
      subst e e'
      exact ⟨i, j, rfl, q.1, fun p hp => k _ _ _ q.2 (Same.new hp) (new_tup gd (.cons (.v _) (.cons (.v _) .nil)) hp)⟩
end
end L2

set_option Elab.async false
set_option linter.all false
set_option maxRecDepth 100000
set_option maxHeartbeats 1000000
namespace L2
open PySem PySem.Spec PyProof.Rows TL
section
variable {K : PySem.W.Frag} {X : Cx} {E : XKS}
/-! ### truth, chains, parts -/
def tTru (K : PySem.W.Frag) (ta : TE) : TT := fun σ H Q => ta σ H fun x H' => ∃ k, TruV K x H' k ∧ Q k H'
def truD (d : D) (Q : Bool → Prop) : Prop := match d with
  | .v .non => Q false
  | .v (.bl b) => Q b
  | .v (.int i) => Q (i != 0)
  | .v (.str y) => y.length ≤ sizeLine ∧ Q ((y.length : Int) != 0)
  | .nd .lst l => Q (!l.isEmpty)
  | .nd .tup l => Q (!l.isEmpty)
  | _ => False
theorem RepL.emp {G : Addr → Prop} {H : Hp} {vs : List V} {ds : List D} (h : RepL G H vs ds) : ds.isEmpty = vs.isEmpty := by
  cases h <;> rfl
theorem truD_ok {G : Addr → Prop} {H : Hp} {u : V} {d : D} {P : Bool → Prop} (w : WRep G H u d) (q : truD d P) : ∃ k, TruV K u H k ∧ P k := by
  match d, w, q with
  | .v .non, w, q => have w : u = _ := w; subst w; exact ⟨_, rfl, q⟩
  | .v (.bl b), w, q => have w : u = _ := w; subst w; exact ⟨_, rfl, q⟩
  | .v (.int b), w, q => have w : u = _ := w; subst w; exact ⟨_, rfl, q⟩
  | .v (.str b), w, q => have w : u = _ := w; subst w; exact ⟨_, ⟨q.1, rfl⟩, q.2⟩
  | .nd .lst l, ⟨a, vs, e, ob, rl⟩, q => subst e; exact ⟨_, .inl ⟨vs, SqL.of ob, by rw [rl.emp]⟩, q⟩
  | .nd .tup l, ⟨a, vs, e, ob, rl⟩, q => subst e; exact ⟨_, .inr (.inl ⟨vs, SqT.of ob, by rw [rl.emp]⟩), q⟩
def dTru (ta : TDE) : TDT := fun δ Q X => ta δ (fun x δ1 => val δ1 x fun d => truD d fun k => Q k δ1) X
instance i_tru {t : TE} {d : TDE} [a : DR E t d] : DT E (tTru K t) (dTru d) where
  r := fun F σ δ H Q Qd Xd hr q k xo => by
    refine a.r F σ δ H _ _ Xd hr q (fun x δ1 v1 H1 q1 R1 f1 p1 => ?_) xo
    obtain ⟨d, w, q2⟩ := val_w p1 R1 q1
    obtain ⟨b, h, q3⟩ := truD_ok (K := K) w q2
    exact ⟨b, h, k b δ1 H1 q3 R1 f1⟩
def dTruS (ta : TDE) : TDT := fun δ Q X => ta δ (fun x δ1 => val δ1 x fun d => match d with
  | .v (.str y) => y.length ≤ sizeLine ∧ Q ((y.length : Int) != 0) δ1
  | _ => False) X
instance i_truS {t : TE} {d : TDE} [a : DR E t d] : DT E (tTruS t) (dTruS d) where
  r := fun F σ δ H Q Qd Xd hr q k xo => by
    refine a.r F σ δ H _ _ Xd hr q (fun x δ1 v1 H1 q1 R1 f1 p1 => ?_) xo
    obtain ⟨d, w, q2⟩ := val_w p1 R1 q1
    match d, w, q2 with
    | .v (.str y), w, q2 => exact ⟨y, w, q2.1, k _ δ1 H1 q2.2 R1 f1⟩
def dChain (r r' : D → D → RK → Prop) (ta tb tc : TDE) : TDE := fun δ Q X => ta δ (fun x δ1 => tb δ1 (fun y δ2 => val δ2 x fun d => val δ2 y fun e => r d e fun z => match z with
  | .d (.v (.bl k)) => if k = true then tc δ2 (fun w δ3 => val δ3 y fun e => val δ3 w fun f => r' e f fun z => Q z δ3) X else Q (rv (.bl false)) δ2
  | _ => False) X) X
instance i_chain {r r' : R2} {rd rd' : D → D → RK → Prop} {ta tb tc : TE} {da db dc : TDE} [h : DV2 r rd] [h' : DV2 r' rd'] [a : DR E ta da] [b : DR E tb db] [c : DR E tc dc] : DR E (tChain r r' ta tb tc) (dChain rd rd' da db dc) where
  r := fun F σ δ H Q Qd Xd hr q k xo => by
    refine a.r F σ δ H _ _ Xd hr q (fun x δ1 v1 H1 q1 R1 f1 p1 => ?_) xo
    refine b.r F σ δ1 H1 _ _ Xd R1 q1 (fun y δ2 v2 H2 q2 R2 f2 p2 => ?_) (xo.step f1)
    obtain ⟨d, w1, q3⟩ := val_w (p1.mv f2 (H1 := H2)) R2 (val_dn.mpr q2)
    obtain ⟨e, w2, q4⟩ := val_w p2 R2 q3
    refine h.r (Fb F δ2) H2 v1 v2 d e _ _ R2.gd w1 w2 q4 fun z v H' q5 s o => ?_
    match z, o, q5 with
    | .d (.v (.bl kk)), o, q5 =>
      have o' : v = .bl kk := by cases o; rfl
      have f12 := f1.trans f2
      refine ⟨kk, o', ?_⟩
      have R3 := R2.same s
      have fs : Fr δ2 H2 δ2 H' := .same s
      cases kk with
      | true =>
        refine c.r F σ δ2 H' _ _ Xd R3 q5 (fun w δ3 v3 H3 q6 R4 f3 p3 => ?_) (xo.step (f12.trans fs))
        have p2' := p2.mv (fs.trans f3) (H1 := H3)
        obtain ⟨e', w3, q7⟩ := val_w p2' R4 (val_dn.mpr q6)
        obtain ⟨g, w4, q8⟩ := val_w p3 R4 q7
        have f := (f12.trans fs).trans f3
        refine h'.r (Fb F δ3) H3 v2 v3 e' g _ _ R4.gd w3 w4 q8 fun z v H' q9 s o => ?_
        exact k z δ3 v H' q9 (R4.same s) (f.trans (.same s)) ((o.out s R4).tr f)
      | false => exact k _ δ2 _ H' q5 R3 (f12.trans fs) (Rep.v _)
def TDO := En → (Option Int → En → Prop) → XDK → Prop
class DO (E : XKS) (t : TO) (td : outParam TDO) : Prop where
  r : ∀ F σ δ H Q Qd Xd, Rel F σ δ H → td δ Qd Xd → (∀ o δ' H', Qd o δ' → Rel F σ δ' H' → Fr δ H δ' H' → Q o H') → XOk E F δ H Xd → t σ H Q
def dNoPart : TDO := fun δ Q _ => Q none δ
instance i_noPart : DO E tNoPart dNoPart where
  r := fun F σ δ H Q Qd Xd hr q k xo => k none δ H q hr .refl
def dPart (t : TDE) : TDO := fun δ Q X => t δ (fun r δ1 => val δ1 r fun d => match d with
  | .v (.int i) => Q (some i) δ1
  | _ => False) X
instance i_part {t : TE} {d : TDE} [a : DR E t d] : DO E (tPart t) (dPart d) where
  r := fun F σ δ H Q Qd Xd hr q k xo => by
    refine a.r F σ δ H _ _ Xd hr q (fun x δ1 v1 H1 q1 R1 f1 p1 => ?_) xo
    obtain ⟨d, w, q2⟩ := val_w p1 R1 q1
    match d, w, q2 with
    | .v (.int i), w, q2 => exact ⟨i, w, k _ δ1 H1 q2 R1 f1⟩
class DSl (r : V → Option Int → Option Int → Hp → VK → Prop) (rd : outParam (D → Option Int → Option Int → RK → Prop)) : Prop where
  r : ∀ G H x d lo hi Q Qd, (∀ a, G a → ∃ o, H a = some o) → WRep G H x d → rd d lo hi Qd → (∀ z v H', Qd z → Same H H' → OpOut G H H' v z → Q v H') → r x lo hi H Q
def dSl (rd : D → Option Int → Option Int → RK → Prop) (te : TDE) (tl th : TDO) : TDE := fun δ Q X => te δ (fun x δ1 => tl δ1 (fun lo δ2 => th δ2 (fun hi δ3 => val δ3 x fun d => rd d lo hi fun z => Q z δ3) X) X) X
instance i_sl {r : V → Option Int → Option Int → Hp → VK → Prop} {rd : D → Option Int → Option Int → RK → Prop} {te : TE} {tl th : TO} {de : TDE} {dl dh : TDO} [h : DSl r rd] [a : DR E te de] [b : DO E tl dl] [c : DO E th dh] : DR E (tSl r te tl th) (dSl rd de dl dh) where
  r := fun F σ δ H Q Qd Xd hr q k xo => by
    refine a.r F σ δ H _ _ Xd hr q (fun x δ1 v1 H1 q1 R1 f1 p1 => ?_) xo
    refine b.r F σ δ1 H1 _ _ Xd R1 q1 (fun lo δ2 H2 q2 R2 f2 => ?_) (xo.step f1)
    refine c.r F σ δ2 H2 _ _ Xd R2 q2 (fun hi δ3 H3 q3 R3 f3 => ?_) (xo.step (f1.trans f2))
    obtain ⟨d, w, q4⟩ := val_w (p1.mv (f2.trans f3) (H1 := H3)) R3 (val_dn.mpr q3)
    have f := (f1.trans f2).trans f3
    refine h.r (Fb F δ3) H3 v1 d lo hi _ _ R3.gd w q4 fun z v H' q5 s o => ?_
    exact k z δ3 v H' q5 (R3.same s) (f.trans (.same s)) ((o.out s R3).tr f)
def oSlL : D → Option Int → Option Int → RK → Prop := fun d lo hi Q => match d with
  | .nd .lst l => Q (.new .lst (cutD l lo hi))
  | _ => False
instance s_list : DSl (rSlL K) oSlL where
  r := fun G H x d lo hi Q Qd _ w q k => match d, w, q with
    | .nd .lst l, ⟨a, vs, e, ob, rl⟩, q => ⟨a, vs, e, SqL.of ob, fun p hp => k _ _ _ q (Same.new hp) (new_list (cutV_rep rl) hp)⟩
def oSlS : D → Option Int → Option Int → RK → Prop := fun d lo hi Q => match d with
  | .v (.str z) => z.length ≤ sizeLine ∧ Q (rv (.str (cutS z lo hi)))
  | _ => False
instance s_str : DSl rSlS oSlS where
  r := fun G H x d lo hi Q Qd _ w q k => match d, w, q with
    | .v (.str z), w, q => ⟨z, w, q.1, k _ _ H q.2 (Same.refl _) (Rep.v _)⟩
/-! ### as Python data: ==, repr -/
mutual
def D.py : D → Option PyData
  | .v .non => some .none
  | .v (.bl b) => some (.bool b)
  | .v (.int i) => some (.int i)
  | .v (.str x) => some (.str x)
  | .nd .lst l => (pyL l).map .list
  | .nd .tup l => (pyL l).map .tuple
  | _ => none
def pyL : List D → Option (List PyData)
  | [] => some []
  | d :: r => match d.py, pyL r with
    | some p, some ps => some (p :: ps)
    | _, _ => none
end
mutual
theorem Rep.dp {G : Addr → Prop} {H : Hp} : ∀ {v : V} {d : D} {p : PyData}, Rep G H v d → d.py = some p → Dp K H v p
  | _, _, _, .v .non, e => by simp only [D.py] at e; cases e; exact .non
  | _, _, _, .v (.bl b), e => by simp only [D.py] at e; cases e; exact .bl b
  | _, _, _, .v (.int b), e => by simp only [D.py] at e; cases e; exact .int b
  | _, _, _, .v (.str b), e => by simp only [D.py] at e; cases e; exact .str b
  | _, _, _, .v (.byt b), e => by simp [D.py] at e
  | _, _, _, .v (.flt b), e => by simp [D.py] at e
  | _, _, _, .v (.ref b), e => by simp [D.py] at e
  | _, _, _, .v (.ty b), e => by simp [D.py] at e
  | _, _, _, .nd (k := .lst) (ds := ds) ob g rl, e => by
    simp only [D.py] at e
    cases h : pyL ds with
    | none => rw [h] at e; cases e
    | some ps => rw [h] at e; cases e; exact .lst (SqL.of ob) (RepL.dp rl h)
  | _, _, _, .nd (k := .tup) (ds := ds) ob g rl, e => by
    simp only [D.py] at e
    cases h : pyL ds with
    | none => rw [h] at e; cases e
    | some ps => rw [h] at e; cases e; exact .tup (SqT.of ob) (RepL.dp rl h)
  | _, _, _, .nd (k := .dk _) ob g rl, e => by simp [D.py] at e
  | _, _, _, .nd (k := .ins _ _) ob g rl, e => by simp [D.py] at e
  | _, _, _, .nd (k := .exc _) ob g rl, e => by simp [D.py] at e
  | _, _, _, .nd (k := .xd _) ob g rl, e => by simp [D.py] at e
theorem RepL.dp {G : Addr → Prop} {H : Hp} : ∀ {vs : List V} {ds : List D} {ps : List PyData}, RepL G H vs ds → pyL ds = some ps → DpAll K H vs ps
  | _, _, _, .nil, e => by simp only [pyL] at e; cases e; exact .nil
  | _, _, _, .cons (d := d) (ds := ds) a b, e => by
    simp only [pyL] at e
    cases h1 : d.py with
    | none => rw [h1] at e; simp at e
    | some p =>
      cases h2 : pyL ds with
      | none => rw [h1, h2] at e; simp at e
      | some ps => rw [h1, h2] at e; simp at e; subst e; exact .cons (Rep.dp a h1) (RepL.dp b h2)
end
theorem WRep.dp {G : Addr → Prop} {H : Hp} {v : V} {d : D} {p : PyData} (w : WRep G H v d) (e : d.py = some p) : Dp K H v p := by
  cases d with
  | v x => have w : v = x := w; subst w; exact Rep.dp (G := fun _ => False) (Rep.v v) e
  | nd k ds =>
    obtain ⟨a, vs, rfl, ob, rl⟩ := w
    cases k with
    | lst =>
      simp only [D.py] at e
      cases h : pyL ds with
      | none => rw [h] at e; cases e
      | some ps => rw [h] at e; cases e; exact .lst (SqL.of ob) (RepL.dp rl h)
    | tup =>
      simp only [D.py] at e
      cases h : pyL ds with
      | none => rw [h] at e; cases e
      | some ps => rw [h] at e; cases e; exact .tup (SqT.of ob) (RepL.dp rl h)
    | dk _ => simp [D.py] at e
    | ins _ _ => simp [D.py] at e
    | exc _ => simp [D.py] at e
    | xd _ => simp [D.py] at e
def oEqD : D → D → RK → Prop := fun x y Q => ∃ p q, x.py = some p ∧ y.py = some q ∧ SeqAt.shaped p = true ∧ SeqAt.shaped q = true ∧ Q (rv (.bl (PyData.eqv p q)))
def oNeD : D → D → RK → Prop := fun x y Q => ∃ p q, x.py = some p ∧ y.py = some q ∧ SeqAt.shaped p = true ∧ SeqAt.shaped q = true ∧ Q (rv (.bl (!PyData.eqv p q)))
instance v_eqD : DV2 (rEqD K) oEqD where
  r := fun G H x y d e Q Qd _ w1 w2 ⟨p, q, h1, h2, s1, s2, h⟩ k => ⟨p, q, w1.dp h1, w2.dp h2, s1, s2, k _ _ H h (Same.refl _) (Rep.v _)⟩
instance v_neD : DV2 (rNeD K) oNeD where
  r := fun G H x y d e Q Qd _ w1 w2 ⟨p, q, h1, h2, s1, s2, h⟩ k => ⟨p, q, w1.dp h1, w2.dp h2, s1, s2, k _ _ H h (Same.refl _) (Rep.v _)⟩
def ReprD (p : PyData) : Prop := p.showable = true ∧ p.hasDict = false ∧ p.depth ≤ 60 ∧ p.shown.length ≤ sizeLine
def oRepr : List D → RK → Prop := fun ds Q => match ds with
  | [.nd k l] => ∃ p, (D.nd k l).py = some p ∧ ReprD p ∧ Q (rv (.str p.shown))
  | _ => False
instance v_repr : DVn (rRepr K) oRepr where
  r := fun G H xs ds Q Qd _ w q k => match ds, w, q with
    | [.nd kk l], w, ⟨p, hp, ⟨h1, h2, h3, h4⟩, q⟩ => by
      obtain ⟨x, rfl, ww⟩ := w1 w
      have dd := WRep.dp (K := K) ww hp
      obtain ⟨a, vs, rfl, ob, rl⟩ := ww
      exact ⟨a, p, rfl, dd, h1, h2, h3, h4, k _ _ H q (Same.refl _) (Rep.v _)⟩
/-! ### isinstance -/
def tyD : D → Option Value
  | .v .non => some (.type "NoneType")
  | .v (.bl _) => some (.type "bool")
  | .v (.int _) => some (.type "int")
  | .v (.str _) => some (.type "str")
  | .nd .lst _ => some (.type "list")
  | .nd .tup _ => some (.type "tuple")
  | .nd (.dk _) _ => some (.type "dict")
  | _ => none
theorem tyD_ok {G : Addr → Prop} {H : Hp} {u : V} {d : D} {t : Value} (w : WRep G H u d) (e : tyD d = some t) : TyOf K H u t := by
  match d, w, e with
  | .v .non, w, e => have w : u = _ := w; subst w; cases e; exact .non
  | .v (.bl _), w, e => have w : u = _ := w; subst w; cases e; exact .bl _
  | .v (.int _), w, e => have w : u = _ := w; subst w; cases e; exact .int _
  | .v (.str _), w, e => have w : u = _ := w; subst w; cases e; exact .str _
  | .nd .lst _, ⟨a, vs, eu, ob, _⟩, e => subst eu; cases e; exact .lst ob
  | .nd .tup _, ⟨a, vs, eu, ob, _⟩, e => subst eu; cases e; exact .tup ob
  | .nd (.dk _) _, ⟨a, vs, eu, ob, _⟩, e => subst eu; cases e; exact .dK ob.2
def oIsi (K : PySem.W.Frag) : List D → RK → Prop := fun ds Q => match ds with
  | [d, .v (.ty n)] => ∃ t b, tyD d = some t ∧ PySem.W.kitOne K t (.type n) = some b ∧ Q (rv (.bl b))
  | _ => False
instance v_isi : DVn (rIsi K) (oIsi K) where
  r := fun G H xs ds Q Qd _ w q k => match ds, w, q with
    | [d, .v (.ty n)], w, ⟨t, b, h1, h2, q⟩ => by
      obtain ⟨x, y, rfl, e, e'⟩ := w2 w
      have e' : y = .ty n := e'
      subst e'
      exact ⟨x, n, t, b, rfl, tyD_ok e h1, h2, k _ _ H q (Same.refl _) (Rep.v _)⟩
/-! ### methods of texts -/
class DMt (r : V → List V → Hp → VK → Prop) (rd : outParam (D → List D → RK → Prop)) : Prop where
  r : ∀ G H x d xs ds Q Qd, (∀ a, G a → ∃ o, H a = some o) → WRep G H x d → WRepL G H xs ds → rd d ds Qd → (∀ z v H', Qd z → Same H H' → OpOut G H H' v z → Q v H') → r x xs H Q
def isStrD (d : D) (P : Prop) : Prop := match d with
  | .v (.str _) => P
  | _ => False
def dM0 (rd : D → List D → RK → Prop) (to : TDE) : TDE := fun δ Q X => to δ (fun x δ1 => val δ1 x fun d => isStrD d (rd d [] fun z => Q z δ1)) X
def dM1 (rd : D → List D → RK → Prop) (to te : TDE) : TDE := fun δ Q X => to δ (fun x δ1 => val δ1 x fun d => isStrD d (te δ1 (fun y δ2 => val δ2 y fun e => rd d [e] fun z => Q z δ2) X)) X
theorem isStrD_ok {G : Addr → Prop} {H : Hp} {u : V} {d : D} {P : Prop} (w : WRep G H u d) (q : isStrD d P) : ∃ a, u = .str a ∧ d = .v (.str a) ∧ P := by
  match d, w, q with
  | .v (.str a), w, q => exact ⟨a, w, rfl, q⟩
instance i_m0 {r : V → List V → Hp → VK → Prop} {rd : D → List D → RK → Prop} {to : TE} {dt : TDE} [h : DMt r rd] [a : DR E to dt] : DR E (tM0 r to) (dM0 rd dt) where
  r := fun F σ δ H Q Qd Xd hr q k xo => by
    refine a.r F σ δ H _ _ Xd hr q (fun x δ1 v1 H1 q1 R1 f1 p1 => ?_) xo
    obtain ⟨d, w, q2⟩ := val_w p1 R1 q1
    obtain ⟨s, e, e', q3⟩ := isStrD_ok w q2
    refine ⟨⟨s, e⟩, h.r (Fb F δ1) H1 v1 d [] [] _ _ R1.gd w .nil q3 fun z v H' q4 s o => ?_⟩
    exact k z δ1 v H' q4 (R1.same s) (f1.trans (.same s)) ((o.out s R1).tr f1)
instance i_m1 {r : V → List V → Hp → VK → Prop} {rd : D → List D → RK → Prop} {to te : TE} {dt de : TDE} [h : DMt r rd] [a : DR E to dt] [b : DR E te de] : DR E (tM1 r to te) (dM1 rd dt de) where
  r := fun F σ δ H Q Qd Xd hr q k xo => by
    refine a.r F σ δ H _ _ Xd hr q (fun x δ1 v1 H1 q1 R1 f1 p1 => ?_) xo
    obtain ⟨d, w, q2⟩ := val_w p1 R1 q1
    obtain ⟨s, e, e', q3⟩ := isStrD_ok w q2
    subst e'
    refine ⟨⟨s, e⟩, b.r F σ δ1 H1 _ _ Xd R1 q3 (fun y δ2 v2 H2 q4 R2 f2 p2 => ?_) (xo.step f1)⟩
    obtain ⟨d2, w2, q5⟩ := val_w p2 R2 q4
    have f := f1.trans f2
    refine h.r (Fb F δ2) H2 v1 (.v (.str s)) [v2] [d2] _ _ R2.gd e (.cons w2 .nil) q5 fun z v H' q6 s o => ?_
    exact k z δ2 v H' q6 (R2.same s) (f.trans (.same s)) ((o.out s R2).tr f)
def rJoin (K : PySem.W.Frag) : V → List V → Hp → VK → Prop := fun x xs H Q => ∃ a p, ∃ ys : List Str, x = .str a ∧ xs = [.ref p] ∧ (SqL K H p (ys.map V.str) ∨ SqT K H p (ys.map V.str)) ∧ (ys.map (·.length)).sum + ys.length * a.length ≤ 16777216 ∧ Q (.str (Txt.join a ys)) H
theorem mt_joinD : MtR X "str.join" (rJoin X.K) := mt_join
/-- a list of texts -/
def txtL : List D → Option (List Str)
  | [] => some []
  | .v (.str x) :: r => (txtL r).map (x :: ·)
  | _ => none
theorem txtL_map (ys : List Str) : txtL (ys.map fun y => .v (.str y)) = some ys := by
  induction ys with
  | nil => rfl
  | cons y r ih => show (txtL (r.map _)).map (y :: ·) = _; rw [ih]; rfl
theorem txtL_ok {G : Addr → Prop} {H : Hp} : ∀ {ds : List D} {vs : List V} {ys : List Str}, RepL G H vs ds → txtL ds = some ys → vs = ys.map V.str
  | [], _, _, .nil, e => by cases e; rfl
  | .v (.str x) :: r, _, ys, .cons a b, e => by
    cases a
    have e' : (txtL r).map (x :: ·) = some ys := e
    cases h : txtL r with
    | none => rw [h] at e'; cases e'
    | some zs => rw [h] at e'; cases e'; rw [txtL_ok b h]; rfl
def oJoin : D → List D → RK → Prop := fun d ds Q => match d, ds with
  | .v (.str a), [.nd .lst l] => ∃ ys, txtL l = some ys ∧ (ys.map (·.length)).sum + ys.length * a.length ≤ 16777216 ∧ Q (rv (.str (Txt.join a ys)))
  | .v (.str a), [.nd .tup l] => ∃ ys, txtL l = some ys ∧ (ys.map (·.length)).sum + ys.length * a.length ≤ 16777216 ∧ Q (rv (.str (Txt.join a ys)))
  | _, _ => False
instance m_join : DMt (rJoin K) oJoin where
  r := fun G H x d xs ds Q Qd _ w wl q k => match d, ds, w, wl, q with
    | .v (.str a), [.nd .lst l], w, wl, ⟨ys, h1, h2, q⟩ => by
      obtain ⟨y, rfl, p, vs, rfl, ob, rl⟩ := w1 wl
      have e := txtL_ok rl h1
      subst e
      exact ⟨a, p, ys, w, rfl, .inl (SqL.of ob), h2, k _ _ H q (Same.refl _) (Rep.v _)⟩
    | .v (.str a), [.nd .tup l], w, wl, ⟨ys, h1, h2, q⟩ => by
      obtain ⟨y, rfl, p, vs, rfl, ob, rl⟩ := w1 wl
      have e := txtL_ok rl h1
      subst e
      exact ⟨a, p, ys, w, rfl, .inr (SqT.of ob), h2, k _ _ H q (Same.refl _) (Rep.v _)⟩
/-! ### new instances, fields -/
def dNew (C : Addr) (fs : List Str) (t : TDA) : TDE := fun δ Q X => t δ (fun rs δ1 => rs.length = fs.length ∧ frzL δ1 rs fun ds δ2 => Q (.new (.ins C fs) ds) δ2) X
instance i_new {C : Addr} {fs : List Str} {t : TA} {d : TDA} [a : DA E t d] : DR E (tNew C fs t) (dNew C fs d) where
  r := fun F σ δ H Q Qd Xd hr q k xo => by
    refine a.r F σ δ H _ _ Xd hr q (fun rs δ1 vs H1 ⟨hl, q1⟩ R1 f1 p1 => ⟨by rw [p1.len]; exact hl, fun p dx hp hdx ne => ?_⟩) xo
    obtain ⟨ds, δ2, rl, R2, f2, q2⟩ := frzL_ok p1 R1 q1
    have s : Same H1 (upd (upd H1 dx (.own p)) p (.ins C dx (fs.zip vs))) := (Same.new hdx).trans (Same.new (by rw [upd_ne ne.symm]; exact hp))
    have o : OpOut (Fb F δ2) H1 (upd (upd H1 dx (.own p)) p (.ins C dx (fs.zip vs))) (.ref p) (.new (.ins C fs) ds) :=
      ⟨p, vs, rfl, hp, ⟨by rw [p1.len]; exact hl.symm, dx, upd_same⟩, rl.imp fun b u e g => ⟨s _ _ e, fun z => z.elim g fun z => by subst z; rw [e] at hp; cases hp⟩⟩
    exact k _ δ2 _ _ q2 (R2.same s) ((f1.trans f2).trans (.same s)) ((o.out s R2).tr (f1.trans f2))
def fldD : List Str → List D → Str → Option D
  | n :: ns, d :: ds, f => if f = n then some d else fldD ns ds f
  | _, _, _ => none
theorem fld_ok {G : Addr → Prop} {H : Hp} {f : Str} {d : D} : ∀ {ns : List Str} {vs : List V} {ds : List D}, RepL G H vs ds → fldD ns ds f = some d → ∃ v, (ns.zip vs).lookup f = some v ∧ Rep G H v d
  | n :: ns, v :: vs, e :: ds, .cons a b, h => by
    unfold fldD at h
    by_cases c : f = n
    · rw [if_pos c] at h
      cases h
      refine ⟨v, ?_, a⟩
      rw [List.zip_cons_cons, List.lookup_cons, c]
      simp
    · rw [if_neg c] at h
      obtain ⟨u, h1, h2⟩ := fld_ok b h
      refine ⟨u, ?_, h2⟩
      rw [List.zip_cons_cons, List.lookup_cons]
      have : (f == n) = false := by simpa using c
      rw [this]
      exact h1
  | [], _, _, _, h => by simp [fldD] at h
  | _ :: _, [], _, .nil, h => by simp [fldD] at h
def dFld (K : PySem.W.Frag) (ta : TDE) (f : Str) : TDE := fun δ Q X => ta δ (fun x δ1 => val δ1 x fun d => match d with
  | .nd (.ins C ns) ds => (Cls K C ∧ NoAttr K C f) ∧ ∃ d, fldD ns ds f = some d ∧ Q (.d d) δ1
  | _ => False) X
instance i_fld {ta : TE} {da : TDE} {f : Str} [a : DR E ta da] : DR E (tFld K ta f) (dFld K da f) where
  r := fun F σ δ H Q Qd Xd hr q k xo => by
    refine a.r F σ δ H _ _ Xd hr q (fun x δ1 v1 H1 q1 R1 f1 p1 => ?_) xo
    obtain ⟨d, w, q2⟩ := val_w p1 R1 q1
    match d, w, q2 with
    | .nd (.ins C ns) ds, ⟨b, vs, e, ⟨hl, dx, hb⟩, rl⟩, ⟨⟨c1, c2⟩, d, hd, q2⟩ =>
      obtain ⟨u, h1, h2⟩ := fld_ok rl hd
      exact ⟨b, C, dx, _, u, e, hb, c1, c2, h1, k _ δ1 u H1 q2 R1 f1 h2⟩
/-! ### a, b = x, y; x += e -/
def sPar (i j : Nat) (ta : TDA) : TDS := fun D δ => ta δ (fun rs δ1 => match rs with
  | [r, s] => frz δ1 r fun d δ2 => frz δ2 s fun e δ3 => D.nx ((δ3.set i (.d d)).set j (.d e))
  | _ => False) D.xc
instance i_par {i j : Nat} {t : TA} {d : TDA} [a : DA E t d] : DS E (tPar i j t) (sPar i j d) where
  r := fun F σ δ H D Ed hr q k => by
    refine a.r F σ δ H _ _ _ hr q (fun rs δ1 vs H1 q1 R1 f1 p1 => ?_) k.xc
    match rs, vs, p1, q1 with
    | [r, s], [v, u], .cons p1 (.cons p2 .nil), q1 =>
      obtain ⟨d, δ2, rp, R2, f2, q2⟩ := frz_ok p1 R1 q1
      obtain ⟨e, δ3, rp', R3, f3, q3⟩ := frz_ok (p2.mv f2 (H1 := H1)) R2 (frz_dn.mpr q2)
      refine ⟨v, u, rfl, ?_⟩
      obtain ⟨R4, h4⟩ := R3.setD (i := i) (rp.imp f3.mv)
      have m : ∀ b o, H1 b = some o → ¬ Fb F δ3 b → H1 b = some o ∧ ¬ Fb F (δ3.set i (.d d)) b := fun b o eb g => ⟨eb, fun z => z.elim (fun z => g (.inl z)) fun z => g (.inr (h4 b z))⟩
      obtain ⟨R5, h5⟩ := R4.setD (i := j) (rp'.imp m)
      have f := (f1.trans f2).trans f3
      exact k.nx _ _ H1 q3 R5 ⟨f.ex, fun b z => f.nw b (h4 b (h5 b z)), f.dm⟩
def sAugI (g : Int → Int → Int) (i : Nat) (te : TDE) : TDS := fun D δ => match δ[i]? with
  | some (.d (.v (.int x))) => te δ (fun r δ1 => val δ1 r fun e => match e with
    | .v (.int y) => D.nx (δ1.set i (.d (.v (.int (g x y)))))
    | _ => False) D.xc
  | _ => False
instance i_augI {g : Int → Int → Int} {i : Nat} {t : TE} {d : TDE} [a : DR E t d] : DS E (tAug i t (ipI g)) (sAugI g i d) where
  r := fun F σ δ H D Ed hr q k => by
    unfold sAugI at q
    split at q
    · rename_i x e
      obtain ⟨o, e2, v, ev, rp⟩ := hr.sl.getR e
      subst ev
      cases rp
      refine ⟨_, e2, a.r F σ δ H _ _ _ hr q (fun r δ1 u H1 q1 R1 f1 p1 => ?_) k.xc⟩
      obtain ⟨e, w2, q3⟩ := val_w p1 R1 q1
      match e, w2, q3 with
      | .v (.int y), w2, q3 =>
        refine ⟨x, y, rfl, w2, ?_⟩
        obtain ⟨R2, h2⟩ := R1.setD (i := i) (Rep.v (V.int (g x y)))
        exact k.nx _ _ H1 q3 R2 ⟨f1.ex, fun b z => f1.nw b (h2 b z), f1.dm⟩
    · exact q.elim
def ipS : TIp := fun x y H Q => ∃ i j, x = .str i ∧ y = .str j ∧ i.length + j.length ≤ sizeLine ∧ Q (.str (i ++ j)) H
def sAugS (i : Nat) (te : TDE) : TDS := fun D δ => match δ[i]? with
  | some (.d (.v (.str x))) => te δ (fun r δ1 => val δ1 r fun e => match e with
    | .v (.str y) => x.length + y.length ≤ sizeLine ∧ D.nx (δ1.set i (.d (.v (.str (x ++ y)))))
    | _ => False) D.xc
  | _ => False
instance i_augS {i : Nat} {t : TE} {d : TDE} [a : DR E t d] : DS E (tAug i t ipS) (sAugS i d) where
  r := fun F σ δ H D Ed hr q k => by
    unfold sAugS at q
    split at q
    · rename_i x e
      obtain ⟨o, e2, v, ev, rp⟩ := hr.sl.getR e
      subst ev
      cases rp
      refine ⟨_, e2, a.r F σ δ H _ _ _ hr q (fun r δ1 u H1 q1 R1 f1 p1 => ?_) k.xc⟩
      obtain ⟨e, w2, q3⟩ := val_w p1 R1 q1
      match e, w2, q3 with
      | .v (.str y), w2, q3 =>
        refine ⟨x, y, rfl, w2, q3.1, ?_⟩
        obtain ⟨R2, h2⟩ := R1.setD (i := i) (Rep.v (V.str (x ++ y)))
        exact k.nx _ _ H1 q3.2 R2 ⟨f1.ex, fun b z => f1.nw b (h2 b z), f1.dm⟩
    · exact q.elim
/-! ### a list of one's own is changed -/
def ownL (δ : En) (i : Nat) (P : Bool → Addr → List D → Prop) : Prop := match δ[i]? with
  | some (.own f a .lst ds) => P f a ds
  | _ => False
theorem ownL_ok {F : Addr → Prop} {σ : St} {δ : En} {H : Hp} {i : Nat} {P : Bool → Addr → List D → Prop} (hr : Rel F σ δ H) (q : ownL δ i P) : ∃ f a ds vs, δ[i]? = some (.own f a .lst ds) ∧ σ[i]? = some (some (.ref a)) ∧ H a = some (.lst vs) ∧ RepL (Fb F δ) H vs ds ∧ P f a ds := by
  unfold ownL at q
  split at q
  · rename_i f a ds e
    obtain ⟨o, e2, eu, nf, vs, ob, rl⟩ := hr.sl.getR e
    subst eu
    exact ⟨f, a, ds, vs, e, e2, ob, rl, q⟩
  · exact q.elim
theorem Rel.mut {F : Addr → Prop} {σ : St} {δ : En} {H : Hp} {i : Nat} {f : Bool} {a : Addr} {k k' : Kd} {ds ds' : List D} {vs' : List V} {o : HO} (hr : Rel F σ δ H) (e : δ[i]? = some (.own f a k ds)) (rl : RepL (Fb F δ) H vs' ds') (ob : Ob (upd H a o) a k' vs') :
    Rel F σ (δ.set i (.own f a k' ds')) (upd H a o) ∧ Fr δ H (δ.set i (.own f a k' ds')) (upd H a o) := by
  obtain ⟨u, e2, eu, nf, vs, ob0, _⟩ := hr.sl.getR e
  subst eu
  have eo : owns (δ.set i (.own f a k' ds')) = owns δ := owns_re e rfl
  have ha : a ∈ owns δ := mem_owns.mpr ⟨_, List.mem_iff_getElem?.mpr ⟨i, e⟩, rfl⟩
  have efb : Fb F (δ.set i (.own f a k' ds')) = Fb F δ := by unfold Fb; rw [eo]
  have m : ∀ b u, H b = some u → ¬ Fb F δ b → upd H a o b = some u ∧ ¬ Fb F δ b := fun b u eb g => ⟨by rw [upd_ne (fun z => g (.inr (by rw [z]; exact ha)))]; exact eb, g⟩
  refine ⟨⟨?_, by rw [eo]; exact hr.nd, fun b z => ?_⟩, ⟨fun b u hb eb => ?_, fun b z => .inl (by rw [← eo]; exact z), fun b u eb => ?_⟩⟩
  · rw [efb]
    have hs : ∀ j s, δ[j]? = some s → j ≠ i → s.adr ≠ some a := fun j s es ne z => ne (adr_one hr.nd es e z rfl)
    have go : ∀ {l : St} {n : En} {i' : Nat}, All2 (SRel F (Fb F δ) H) l n → l[i']? = some (some (.ref a)) → (∀ j s, n[j]? = some s → j ≠ i' → s.adr ≠ some a) → All2 (SRel F (Fb F δ) (upd H a o)) l (n.set i' (.own f a k' ds')) := by
      intro l n i' hh
      induction hh generalizing i' with
      | nil => intro _ _; exact .nil
      | cons x y ih =>
        intro hl hn
        have mo : ∀ s : S, s.adr ≠ some a → ∀ b, s.adr = some b → ∀ u, H b = some u → upd H a o b = some u := fun s hs b hb u eb => by
          rw [upd_ne (fun z => hs (by rw [← z]; exact hb))]; exact eb
        cases i' with
        | zero =>
          simp at hl
          subst hl
          refine .cons ⟨rfl, nf, vs', ob, rl.imp m⟩ ?_
          clear ih
          have hn' : ∀ (j : Nat) (s : S), _ → s.adr ≠ some a := fun j s es => hn (j + 1) s (by simpa using es) (by omega)
          clear hn
          induction y with
          | nil => exact .nil
          | cons x' y' ih' => exact .cons (x'.imp m (fun _ _ z => z) (mo _ (hn' 0 _ rfl))) (ih' fun j s es => hn' (j + 1) s (by simpa using es))
        | succ i' => exact .cons (x.imp m (fun _ _ z => z) (mo _ (hn 0 _ rfl (by omega)))) (ih (by simpa using hl) fun j s es ne => hn (j + 1) s (by simpa using es) (by omega))
    exact go hr.sl e2 hs
  · by_cases z2 : b = a
    · subst z2; exact ⟨_, upd_same⟩
    · obtain ⟨u, eu⟩ := hr.fd b z; exact ⟨u, by rw [upd_ne z2]; exact eu⟩
  · rw [upd_ne (fun z => hb (by rw [z]; exact ha))]; exact eb
  · by_cases z2 : b = a
    · subst z2; exact ⟨_, upd_same⟩
    · exact ⟨u, by rw [upd_ne z2]; exact eb⟩
/-- a method that changes its list: its parts, the arguments; the answer, the new parts -/
class DMut (r : V → List V → Hp → VK → Prop) (rd : outParam (List D → List D → (D → List D → Prop) → Prop)) : Prop where
  r : ∀ G H a vs ds xs es Q Qd, H a = some (.lst vs) → RepL G H vs ds → RepL G H xs es → rd ds es Qd → (∀ d ds' v vs', Qd d ds' → Rep G H v d → RepL G H vs' ds' → Q v (upd H a (.lst vs'))) → r (.ref a) xs H Q
def dMut (i : Nat) (rd : List D → List D → (D → List D → Prop) → Prop) (t : TDA) : TDE := fun δ Q X => ownL δ i fun _ _ _ => t δ (fun rs δ1 => frzL δ1 rs fun es δ2 => ownL δ2 i fun f a ds => rd ds es fun d ds' => Q (.d d) (δ2.set i (.own f a .lst ds'))) X
instance (priority := high) i_bm {i : Nat} {r : V → List V → Hp → VK → Prop} {rd : List D → List D → (D → List D → Prop) → Prop} {t : TA} {d : TDA} [h : DMut r rd] [a : DA E t d] : DR E (tBM K "list" r (tVar i) t) (dMut i rd d) where
  r := fun F σ δ H Q Qd Xd hr q k xo => by
    obtain ⟨f, l, ds, vs, e1, e2, e3, rl, q⟩ := ownL_ok hr q
    refine ⟨.ref l, e2, .inl ⟨rfl, vs, SqL.of e3⟩, a.r F σ δ H _ _ Xd hr q (fun rs δ1 xs H1 q1 R1 f1 p1 => ?_) xo⟩
    obtain ⟨es, δ2, rl2, R2, f2, q2⟩ := frzL_ok p1 R1 q1
    obtain ⟨f', l', ds', vs', g1, g2, g3, g4, q3⟩ := ownL_ok R2 q2
    rw [e2] at g2
    cases g2
    refine h.r (Fb F δ2) H1 l vs' ds' xs es _ _ g3 g4 rl2 q3 fun d ds'' v vs'' q4 rp rl'' => ?_
    obtain ⟨R3, f3⟩ := R2.mut (o := .lst vs'') g1 rl'' (k' := .lst) upd_same
    have nl : ∀ b, ¬ Fb F δ2 b → b ≠ l := fun b g z => g (.inr (by rw [z]; exact mem_owns.mpr ⟨_, List.mem_iff_getElem?.mpr ⟨i, g1⟩, rfl⟩))
    exact k _ _ v _ q4 R3 ((f1.trans f2).trans f3) (rp.imp f3.mv)
instance (priority := high) i_bm0 {i : Nat} {r : V → List V → Hp → VK → Prop} {rd : List D → List D → (D → List D → Prop) → Prop} [h : DMut r rd] : DR E (tBM0 K "list" r (tVar i)) (dMut i rd dNil) where
  r := fun F σ δ H Q Qd Xd hr q k xo => by
    obtain ⟨f, l, ds, vs, e1, e2, e3, rl, q⟩ := ownL_ok hr q
    refine ⟨.ref l, e2, .inl ⟨rfl, vs, SqL.of e3⟩, ?_⟩
    obtain ⟨f', l', ds', vs', g1, g2, g3, g4, q3⟩ := ownL_ok hr q
    rw [e2] at g2
    cases g2
    refine h.r (Fb F δ) H l vs' ds' [] [] _ _ g3 g4 .nil q3 fun d ds'' v vs'' q4 rp rl'' => ?_
    obtain ⟨R3, f3⟩ := hr.mut (o := .lst vs'') g1 rl'' (k' := .lst) upd_same
    exact k _ _ v _ q4 R3 f3 (rp.imp f3.mv)
def mAppend : List D → List D → (D → List D → Prop) → Prop := fun ds es Q => match es with
  | [e] => ds.length < sizeLine ∧ Q (.v .non) (ds ++ [e])
  | _ => False
instance u_append : DMut rAppend mAppend where
  r := fun G H a vs ds xs es Q Qd h rl re q k => match es, xs, re, q with
    | [e], [x], .cons re .nil, q => ⟨a, vs, x, rfl, rfl, h, by rw [rl.len]; exact q.1, k _ _ _ _ q.2 (Rep.v _) (rl.app (.one re))⟩
def mReverse : List D → List D → (D → List D → Prop) → Prop := fun ds es Q => match es with
  | [] => Q (.v .non) ds.reverse
  | _ => False
instance u_reverse : DMut rReverse mReverse where
  r := fun G H a vs ds xs es Q Qd h rl re q k => match es, xs, re, q with
    | [], [], .nil, q => ⟨a, vs, rfl, rfl, h, k _ _ _ _ q (Rep.v _) rl.rev⟩
def mClear : List D → List D → (D → List D → Prop) → Prop := fun ds es Q => match es with
  | [] => Q (.v .non) []
  | _ => False
instance u_clear : DMut rClear mClear where
  r := fun G H a vs ds xs es Q Qd h rl re q k => match es, xs, re, q with
    | [], [], .nil, q => ⟨a, vs, rfl, rfl, h, k _ _ _ _ q (Rep.v _) .nil⟩
def mPop : List D → List D → (D → List D → Prop) → Prop := fun ds es Q => match es with
  | [] => ∃ d, ds[ds.length - 1]? = some d ∧ Q d ds.dropLast
  | _ => False
theorem RepL.dl {G : Addr → Prop} {H : Hp} {vs : List V} {ds : List D} (h : RepL G H vs ds) : RepL G H vs.dropLast ds.dropLast := by
  rw [List.dropLast_eq_take, List.dropLast_eq_take, h.len]
  exact h.take _
instance u_pop : DMut rPop mPop where
  r := fun G H a vs ds xs es Q Qd h rl re q k => match es, xs, re, q with
    | [], [], .nil, ⟨d, hd, q⟩ => by
      obtain ⟨v, hv, rp⟩ := rl.getD hd
      exact ⟨a, vs, v, rfl, rfl, h, by rw [rl.len]; exact hv, k _ _ _ _ q rp rl.dl⟩
end
end L2

set_option Elab.async false
set_option linter.all false
set_option maxRecDepth 100000
set_option maxHeartbeats 1000000
namespace L2
open PySem PySem.Spec PyProof.Rows TL
/-! ### defs -/
def dEnd (ss : List S) (Qd : R → List S → Prop) (Xd : Addr → List (Str × D) → List S → Prop) : DEnds := { nx := fun δ => back ss δ (Qd (.d (.v .non))), rt := fun r δ => ret r δ fun r' δ' => back ss δ' (Qd r'), xc := fun C fs δ => back ss δ (Xd C fs) }
section
variable {P : Program} {w : World} {K : PySem.W.Frag} {mg : Str → Option Value} {base : Heap}
theorem upS_len {sd : DSp} {n : Nat} (len : ∀ ss Q X, sd ss Q X → ss.length = n) : ∀ vs H Q E, upS sd vs H Q E → vs.length = n := fun vs H Q E ⟨F, ss, Qd, Xd, r0, _, hs, _⟩ => by
  rw [← len ss Qd Xd hs]
  have := r0.sl.len
  simpa using this
theorem Fun.okD {x qual : Str} {st : Stmt} {f : Addr} {fd : FuncData} {N ps : List Str} {k : Nat} {sd : DSp} (F : Fun K x qual st f fd) (S' : FnScope N ps (defScope st)) (len : ∀ ss Q X, sd ss Q X → ss.length = ps.length)
    (hbody : ∀ (cdv : Value) (A : Around) (outer : List Env) (s : Shared) (H : Hp) (E : XK), Room k (A.deeper (envOfC qual (defScope st) s.heap.objs.size f cdv)) →
      ∃ t td, PSs (cxOf CX0 P w K mg base N qual (defScope st) f cdv A outer s H E).nox (defBody st) t ∧ DS (fun _ => E) t td ∧ ∀ ss Qd Xd, sd ss Qd Xd → ∃ δ0, ss ++ List.replicate (N.length - ss.length) .no = δ0 ∧ td (dEnd ss Qd Xd) δ0) : FnOk P w K mg base CX0 (k + 1) f fd ps (upS sd) := by
  refine F.ok S' (upS_len len) fun cdv A outer s H vs Q E hr h => ?_
  obtain ⟨t, td, h1, h2, h3⟩ := hbody cdv A outer s H E hr
  exact ⟨t, h1, entry (x := h2) h fun ss Qd Xd q => by obtain ⟨δ0, e, q⟩ := h3 ss Qd Xd q; rw [e]; exact q⟩
theorem FunD.okD {x qual : Str} {st : Stmt} {f : Addr} {fd : FuncData} {N ps : List Str} {k : Nat} {sd : DSp} (F : FunD K x qual st f fd) (S' : FnScope N ps (defScope st)) (len : ∀ ss Q X, sd ss Q X → ss.length = ps.length)
    (hbody : ∀ (cdv : Value) (A : Around) (outer : List Env) (s : Shared) (H : Hp) (E : XK), Room k (A.deeper (envOfC qual (defScope st) s.heap.objs.size f cdv)) →
      ∃ t td, PSs (cxOf CX0 P w K mg base N qual (defScope st) f cdv A outer s H E).nox (defBody st) t ∧ DS (fun _ => E) t td ∧ ∀ ss Qd Xd, sd ss Qd Xd → ∃ δ0, ss ++ List.replicate (N.length - ss.length) .no = δ0 ∧ td (dEnd ss Qd Xd) δ0) : FnOk P w K mg base CX0 (k + 1) f fd ps (upS sd) := by
  refine F.ok S' (upS_len len) fun cdv A outer s H vs Q E hr h => ?_
  obtain ⟨t, td, h1, h2, h3⟩ := hbody cdv A outer s H E hr
  exact ⟨t, h1, entry (x := h2) h fun ss Qd Xd q => by obtain ⟨δ0, e, q⟩ := h3 ss Qd Xd q; rw [e]; exact q⟩
/-- a def that may raise -/
theorem Fun.okXD {x qual : Str} {st : Stmt} {f : Addr} {fd : FuncData} {N ps : List Str} {k : Nat} {sd : DSp} (F : Fun K x qual st f fd) (S' : FnScope N ps (defScope st)) (len : ∀ ss Q X, sd ss Q X → ss.length = ps.length)
    (hbody : ∀ (cdv : Value) (A : Around) (outer : List Env) (s : Shared) (H : Hp) (E : XK), Room k (A.deeper (envOfC qual (defScope st) s.heap.objs.size f cdv)) →
      ∃ t td, PSs ((cxOf (CXE P w) P w K mg base N qual (defScope st) f cdv A outer s H E).xw fun _ => E) (defBody st) t ∧ DS (fun _ => E) t td ∧ ∀ ss Qd Xd, sd ss Qd Xd → ∃ δ0, ss ++ List.replicate (N.length - ss.length) .no = δ0 ∧ td (dEnd ss Qd Xd) δ0) : FnOk P w K mg base (CXE P w) (k + 1) f fd ps (upS sd) := by
  refine F.okE S' (upS_len len) fun cdv A outer s H vs Q E hr h => ?_
  obtain ⟨t, td, h1, h2, h3⟩ := hbody cdv A outer s H E hr
  exact ⟨t, h1, entry (x := h2) h fun ss Qd Xd q => by obtain ⟨δ0, e, q⟩ := h3 ss Qd Xd q; rw [e]; exact q⟩
end
/-! ### two fors in a comprehension -/
section
variable {E : XKS}
def dLc2 (it : TDI) (g : TDG) (sl : List Nat) (tt : TDT) (it1 : TDI) (g1 : TDG) (sl1 : List Nat) (tt1 : TDT) (te : TDE) (vs vs1 : List Nat) : TDE := fun δ Q X => it δ (fun J δ1 => ((sl.all fun i => vs.contains i) = true ∧ (sl1.all fun i => vs1.contains i) = true ∧ (vs1.all fun i => vs.contains i) = true) ∧ ∃ I : Nat → En → List D → Prop, I 0 (wipeD δ1 vs) [] ∧ (∀ i δ acc, I i δ acc → J.ok δ) ∧
  (∀ i δ acc x, J.xs[i]? = some x → I i δ acc → g (.d x) δ fun δ2 => tt δ2 (fun b δ3 => if b = true then
    it1 δ3 (fun J1 δ4 => ∃ I1 : Nat → En → List D → Prop, I1 0 δ4 acc ∧ (∀ i δ acc, I1 i δ acc → J1.ok (wipeD δ vs1)) ∧
      (∀ j δ acc y, J1.xs[j]? = some y → I1 j δ acc → acc.length < sizeLine ∧ g1 (.d y) (wipeD δ vs1) fun δ5 => tt1 δ5 (fun b δ6 => if b = true then te δ6 (fun r δ7 => frz δ7 r fun d δ8 => I1 (j + 1) δ8 (acc ++ [d])) noX else I1 (j + 1) δ6 acc) noX) ∧
      ∀ δ acc, I1 J1.xs.length δ acc → I (i + 1) (wipeD δ vs) acc) noX
    else I (i + 1) (wipeD δ3 vs) acc) noX) ∧
  ∀ δ acc, I J.xs.length δ acc → Q (.new .lst acc) (restD δ1 δ vs)) X
theorem wipe_sub {σ σ' : St} {vs vs1 : List Nat} (h : ∀ i ∈ vs1, i ∈ vs) (e : wipe σ' vs1 = wipe σ vs1) : wipe σ' vs = wipe σ vs := by
  have key : ∀ (τ : St) (ws : List Nat), (∀ i ∈ ws, i ∈ vs) → wipe (wipe τ ws) vs = wipe τ vs := by
    intro τ ws
    induction ws with
    | nil => intro _; rfl
    | cons v ws ih =>
      intro hw
      show wipe ((wipe τ ws).set v none) vs = wipe τ vs
      rw [wipe_set (hw v (by simp)), ih fun i hi => hw i (by simp [hi])]
  rw [← key σ' vs1 h, e, key σ vs1 h]
instance i_lc2 {wi wi1 : TI} {g g1 : TG} {tt tt1 : TT} {te : TE} {vs vs1 sl sl1 : List Nat} {di di1 : TDI} {gd gd1 : TDG} {td td1 : TDT} {ed : TDE} [x : DI E wi di] [y : DG g gd sl] [z : DT E tt td] [x1 : DI E wi1 di1] [y1 : DG g1 gd1 sl1] [z1 : DT E tt1 td1] [w : DR E te ed] : DR E (tLc2 wi g tt wi1 g1 tt1 te vs vs1) (dLc2 di gd sl td di1 gd1 sl1 td1 ed vs vs1) where
  r := fun F σ δ H Q Qd Xd hr q k xo => by
    refine x.r F σ δ H _ _ _ hr q (fun JJ J δ1 H1 q1 R1 f1 io D hD => ?_) xo
    obtain ⟨⟨hsl, hsl1, hvs⟩, I, i0, iok, turn, fin⟩ := q1
    have mem : ∀ {a b : List Nat}, (a.all fun i => b.contains i) = true → ∀ i ∈ a, i ∈ b := fun h i hi => by
      have := List.all_eq_true.mp h i hi
      simpa using this
    have hF : ∀ b, Fp F D b → F b ∨ H1 b = none := fun b z => z.elim .inl fun z => .inr (by rw [z]; exact hD)
    have xno : ∀ δ' H', XOk E (Fp F D) δ' H' noX := fun _ _ _ _ _ _ _ _ z => z.elim
    have st : Rel (Fp F D) (wipe σ vs) (wipeD δ1 vs) (upd H1 D (.lst [])) := (R1.more (Same.new hD) hD ⟨_, upd_same⟩).wipe vs
    obtain ⟨wo, _⟩ := wipeD_owns vs R1.nd
    have nD1 : D ∉ owns δ1 := fun z => R1.nofb hD (.inr z)
    refine ⟨fun i m H => m = J.xs.length - i ∧ i ≤ J.xs.length ∧ ∃ δ acc ws, I i δ acc ∧ Rel (Fp F D) (wipe σ vs) δ H ∧ Fr δ1 H1 δ H ∧ D ∉ owns δ ∧ H D = some (.lst ws) ∧ RepL (Fb (Fp F D) δ) H ws acc,
      ⟨_, rfl, Nat.zero_le _, _, [], [], i0, st, ⟨fun a o _ e => Same.new hD _ _ e, fun a h => .inl (wo a h), fun a o h => ⟨_, Same.new hD _ _ h⟩⟩, fun h => nD1 (wo D h), upd_same, .nil⟩, ?_⟩
    rintro i m H2 ⟨rfl, hi, δ2, acc, ws, ii, R2, f2, nD, eD, rl⟩
    obtain ⟨stp, go⟩ := io i (Fp F D) _ δ2 H2 hF R2 f2.f (iok i δ2 acc ii)
    by_cases hlt : i < J.xs.length
    · obtain ⟨g1', g2⟩ := go J.xs[i] (List.getElem?_eq_getElem hlt)
      refine .inr ⟨g1', fun H' => ∃ δ' acc ws, I (i + 1) δ' acc ∧ Rel (Fp F D) (wipe σ vs) δ' H' ∧ Fr δ1 H1 δ' H' ∧ D ∉ owns δ' ∧ H' D = some (.lst ws) ∧ RepL (Fb (Fp F D) δ') H' ws acc, fun H' h => ⟨_, by omega, rfl, hlt, h⟩, fun v H3 yl => ?_⟩
      obtain ⟨sm, rp⟩ := g2 v H3 yl
      have tq := turn i δ2 acc _ (List.getElem?_eq_getElem hlt) ii
      refine y.r (Fp F D) _ δ2 H3 H3 v (.d _) _ _ (R2.same sm) rp tq fun σ4 δ4 H4 q4 R4 f4 w4 => ?_
      have ew : wipe σ4 vs = wipe σ vs := (w4 vs (mem hsl)).trans (wipe_idem vs)
      have fr4 : Fr δ2 H2 δ4 H4 := (Fr.same sm).trans (f4 δ2 .refl)
      refine ⟨ew, z.r (Fp F D) σ4 δ4 H4 _ _ _ R4 q4 (fun b δ5 H5 q5 R5 f5 => ?_) (xno _ _)⟩
      have fr5 := fr4.trans f5
      have keepD : ∀ {δ' : En} {H' : Hp}, Fr δ2 H2 δ' H' → D ∉ owns δ' ∧ H' D = some (.lst ws) := by
        intro δ' H' f
        refine ⟨fun h => ?_, f.ex D _ nD eD⟩
        rcases f.nw D h with h | h
        · exact nD h
        · rw [eD] at h; cases h
      cases b with
      | true =>
        refine x1.r (Fp F D) σ4 δ5 H5 _ _ _ R5 q5 (fun JJ1 J1 δ6 H6 q6 R6 f6 io1 => ?_) (xno _ _)
        obtain ⟨I1, i10, i1ok, turn1, fin1⟩ := q6
        have fr6 := fr5.trans f6
        obtain ⟨nD6, eD6⟩ := keepD fr6
        refine ⟨fun j kk H => kk = J1.xs.length - j ∧ j ≤ J1.xs.length ∧ ∃ σ' δ acc ws, wipe σ' vs1 = wipe σ4 vs1 ∧ I1 j δ acc ∧ Rel (Fp F D) σ' δ H ∧ Fr δ1 H1 δ H ∧ FrF (Fp F D) δ6 H6 δ H ∧ D ∉ owns δ ∧ H D = some (.lst ws) ∧ RepL (Fb (Fp F D) δ) H ws acc,
          ⟨_, rfl, Nat.zero_le _, σ4, δ6, acc, ws, rfl, i10, R6, f2.trans fr6, Fr.refl.f, nD6, eD6, rl.imp fr6.mv⟩, ?_⟩
        rintro j kk H7 ⟨rfl, hj, σ7, δ7, acc7, ws7, ew7, i17, R7, fr7, ff7, nD7, eD7, rl7⟩
        obtain ⟨wo7, _⟩ := wipeD_owns vs1 R7.nd
        have RW : Rel (Fp F D) (wipe σ4 vs1) (wipeD δ7 vs1) H7 := by rw [← ew7]; exact R7.wipe vs1
        have ffw : FrF (Fp F D) δ6 H6 (wipeD δ7 vs1) H7 := ⟨ff7.ex, fun a h => ff7.nw a (wo7 a h)⟩
        have frw : Fr δ1 H1 (wipeD δ7 vs1) H7 := ⟨fr7.ex, fun a h => fr7.nw a (wo7 a h), fr7.dm⟩
        have nDw : D ∉ owns (wipeD δ7 vs1) := fun h => nD7 (wo7 D h)
        have rlw : RepL (Fb (Fp F D) (wipeD δ7 vs1)) H7 ws7 acc7 := rl7.imp fun b o e g => ⟨e, fun h => g (h.elim .inl fun h => .inr (wo7 b h))⟩
        obtain ⟨stp1, go1⟩ := io1 j (Fp F D) _ _ H7 (fun a h => .inl h) RW ffw (i1ok j δ7 acc7 i17)
        by_cases hlt1 : j < J1.xs.length
        · obtain ⟨g3, g4⟩ := go1 J1.xs[j] (List.getElem?_eq_getElem hlt1)
          refine .inr ⟨g3, fun H' => ∃ σ' δ acc ws, wipe σ' vs1 = wipe σ4 vs1 ∧ I1 (j + 1) δ acc ∧ Rel (Fp F D) σ' δ H' ∧ Fr δ1 H1 δ H' ∧ FrF (Fp F D) δ6 H6 δ H' ∧ D ∉ owns δ ∧ H' D = some (.lst ws) ∧ RepL (Fb (Fp F D) δ) H' ws acc, fun H' h => ⟨_, by omega, rfl, hlt1, h⟩, fun v1 H8 yl1 => ?_⟩
          obtain ⟨sm1, rp1⟩ := g4 v1 H8 yl1
          obtain ⟨hlen, tq1⟩ := turn1 j δ7 acc7 _ (List.getElem?_eq_getElem hlt1) i17
          refine y1.r (Fp F D) _ (wipeD δ7 vs1) H8 H8 v1 (.d _) _ _ (RW.same sm1) rp1 tq1 fun σ9 δ9 H9 q9 R9 f9 w9 => ?_
          have ew9 : wipe σ9 vs1 = wipe σ4 vs1 := (w9 vs1 (mem hsl1)).trans (wipe_idem vs1)
          have fr9 : Fr (wipeD δ7 vs1) H7 δ9 H9 := (Fr.same sm1).trans (f9 _ .refl)
          refine ⟨ew9, z1.r (Fp F D) σ9 δ9 H9 _ _ _ R9 q9 (fun b δa Ha qa Ra fa => ?_) (xno _ _)⟩
          have fra := fr9.trans fa
          have keep : ∀ {δ' : En} {H' : Hp}, Fr (wipeD δ7 vs1) H7 δ' H' → (D ∉ owns δ' ∧ H' D = some (.lst ws7)) ∧ FrF (Fp F D) δ6 H6 δ' H' := by
            intro δ' H' f
            refine ⟨⟨fun h => ?_, f.ex D _ nDw eD7⟩, ⟨fun a o g e => f.ex a o (fun z => ?_) (ffw.ex a o g e), fun a h => ?_⟩⟩
            · rcases f.nw D h with h | h
              · exact nDw h
              · rw [eD7] at h; cases h
            · rcases ffw.nw a z with z | z
              · exact g (.inr z)
              · rw [z] at e; cases e
            · rcases f.nw a h with h | h
              · exact ffw.nw a h
              · by_cases c : a ∈ owns δ6
                · exact .inl c
                · refine .inr ?_
                  cases e : H6 a with
                  | none => rfl
                  | some o =>
                    by_cases cf : Fp F D a
                    · obtain ⟨o', e'⟩ := RW.fd a cf
                      rw [h] at e'; cases e'
                    · rw [ffw.ex a o (fun z => z.elim cf c) e] at h; cases h
          cases b with
          | true =>
            refine w.r (Fp F D) σ9 δa Ha _ _ _ Ra qa (fun r δb u Hb qb Rb fb pb => ?_) (xno _ _)
            obtain ⟨d, δc, rpc, Rc, fc, qc⟩ := frz_ok pb Rb qb
            have frc := (fra.trans fb).trans fc
            obtain ⟨⟨nDc, eDc⟩, ffc⟩ := keep frc
            have fall := frw.trans frc
            refine ⟨ws7, eDc, by rw [rl7.len]; exact hlen, σ9, δc, _, ws7 ++ [u], ew9, qc, Rc.updF (.inr rfl) nDc, ?_, ?_, nDc, upd_same, ?_⟩
            · refine ⟨fun a o ha e => ?_, fall.nw, fun a o e => ?_⟩
              · rw [upd_ne (ne_of_none e hD)]; exact fall.ex a o ha e
              · rw [upd_ne (ne_of_none e hD)]; exact fall.dm a o e
            · refine ⟨fun a o g e => ?_, ffc.nw⟩
              rw [upd_ne (fun z => g (.inl (.inr z)))]
              exact ffc.ex a o g e
            · have m : ∀ b o, Hb b = some o → ¬ Fb (Fp F D) δc b → upd Hb D (.lst (ws7 ++ [u])) b = some o ∧ ¬ Fb (Fp F D) δc b := fun b o e g => ⟨by rw [upd_ne (fun h => g (.inl (.inr h)))]; exact e, g⟩
              exact ((rlw.imp frc.mv).imp m).app (.one (rpc.imp m))
          | false =>
            obtain ⟨⟨nDa, eDa⟩, ffa⟩ := keep fra
            exact ⟨σ9, δa, acc7, ws7, ew9, qa, Ra, frw.trans fra, ffa, nDa, eDa, rlw.imp fra.mv⟩
        · have e : j = J1.xs.length := by omega
          subst e
          have ew' : wipe σ7 vs = wipe σ vs := (wipe_sub (mem hvs) ew7).trans ew
          have RW2 : Rel (Fp F D) (wipe σ vs) (wipeD δ7 vs) H7 := by rw [← ew']; exact R7.wipe vs
          obtain ⟨wo8, _⟩ := wipeD_owns vs R7.nd
          exact .inl ⟨stp1 (Nat.le_refl _), _, _, ws7, fin1 δ7 acc7 i17, RW2, ⟨fr7.ex, fun a h => fr7.nw a (wo8 a h), fr7.dm⟩, fun h => nD7 (wo8 D h), eD7, rl7.imp fun b o e g => ⟨e, fun h => g (h.elim .inl fun h => .inr (wo8 b h))⟩⟩
      | false =>
        obtain ⟨nD5, eD5⟩ := keepD fr5
        have ew' : Rel (Fp F D) (wipe σ vs) (wipeD δ5 vs) H5 := by rw [← ew]; exact R5.wipe vs
        obtain ⟨wo5, _⟩ := wipeD_owns vs R5.nd
        have f := f2.trans fr5
        exact ⟨_, _, ws, q5, ew', ⟨f.ex, fun a h => f.nw a (wo5 a h), f.dm⟩, fun h => nD5 (wo5 D h), eD5, (rl.imp fr5.mv).imp fun b o e g => ⟨e, fun h => g (h.elim .inl fun h => .inr (wo5 b h))⟩⟩
    · have e : i = J.xs.length := by omega
      subst e
      refine .inl ⟨stp (Nat.le_refl _), ?_⟩
      have RR := R2.rest R1 f2 hF
      obtain ⟨ro, _⟩ := restD_owns (δ0 := δ1) vs R2.nd
      have nD' : D ∉ owns (restD δ1 δ2 vs) := fun h => nD (ro D h)
      refine k _ _ (.ref D) H2 (fin δ2 acc ii) RR.unp (f1.trans ⟨f2.ex, fun a h => f2.nw a (ro a h), f2.dm⟩) ⟨D, ws, rfl, eD, f1.free hD, fun h => R1.nofb hD (.inl h), nD', rl.imp fun b o e g => ⟨e, fun h => g (h.elim .inl fun h => .inr (ro b h))⟩, RR⟩
end
end L2

set_option Elab.async false
set_option linter.all false
set_option maxRecDepth 100000
set_option maxHeartbeats 1000000
namespace L2
open PySem PySem.Spec PyProof.Rows TL
/-! ### a long display, one item of which is taken -/
theorem w_ix {X : Cx} {a b : Expr} {pos : Pos} {ta tb : TE} {r : R2} (hr : IxR X r) (ha : PEw X a ta) (hb : PE X b tb) (hs : PlainIx b) : PEw X (.Subscript a b pos) (tOp r ta tb) := ⟨pe_ix hr ha.h hb hs⟩
theorem psw_set {X : Cx} {i : Nat} {x : Str} {e : Expr} {te : TE} {pos pos' : Pos} (hN : X.N.Nodup) (hi : X.N[i]? = some x) (hx : Loc X.env.scope x) (he : PEw X e te) (hs : swapsWith e (some (.Name x pos')) pos.line X.env = pure false := by rfl) (hf : X.fn x = true ∨ X.env.scope.names.lookup x = some .local := by first | exact .inl rfl | exact .inr rfl | assumption) :
    PSw X (.Assign [.Name x pos'] e pos) (tAsg te (gName i)) := ⟨ps_set hN hi hx he.h hs hf⟩
/-! ### draws -/
def dDraw (c lim : Nat) (top : Int) : DSp := fun ss Q _ => ∃ (n : Nat) (a : Addr) (many : Int), ss = [.gad 0 n a, .d (.v (.int many))] ∧ n < lim ∧ 0 < many ∧ many ≤ top ∧ ∀ r, 0 ≤ r → r < many → Q (rv (.int r)) [.gad 0 (n + c) a, .d (.v (.int many))]
abbrev dTake : DSp := dDraw 2 90000 100000000
theorem draw_up {c lim : Nat} {top : Int} {vs : List V} {H : Hp} {Q : VK} {E : XK} (h : upS (dDraw c lim top) vs H Q E) : ∃ (t l : Addr) (n : Nat) (many : Int), vs = [.ref t, .int many] ∧ PenAt n t l H ∧ n < lim ∧ 0 < many ∧ many ≤ top ∧
    ∀ (r : Int) (H' : Hp), 0 ≤ r → r < many → PenAt (n + c) t l H' → Keep t H H' → Q (.int r) H' := by
  obtain ⟨F, ss, Qd, Xd, rl, lf, ⟨n, a, many, rfl, h1, h2, h3, hq⟩, kq, kx⟩ := h
  have sl := rl.sl
  match vs, sl with
  | [v1, v2], .cons s1 (.cons s2 .nil) =>
    obtain ⟨e1, l, pen, nl⟩ := s1
    obtain ⟨u, e2, rp⟩ := s2
    cases e1
    cases e2
    cases rp
    refine ⟨a, l, n, many, rfl, pen, h1, h2, h3, fun r H' r0 r1 pen' kp => ?_⟩
    have ex : ∀ b o, b ≠ a → H b = some o → H' b = some o := fun b o ne e => kp b o e ne
    have dm : ∀ b o, H b = some o → ∃ o', H' b = some o' := fun b o e => by
      by_cases z : b = a
      · subst z; exact (GAt.some (g := 0) pen').1
      · exact ⟨o, ex b o z e⟩
    refine kq _ _ (.int r) H' (hq r r0 r1) ⟨.cons ⟨rfl, l, pen', nl⟩ (.cons ⟨_, rfl, Rep.v _⟩ .nil), rl.nd, fun b z => ?_⟩ ⟨fun b o hb e => ex b o (fun z => hb (by rw [z]; simp [owns, S.adr])) e, fun b z => .inl z, dm⟩ (.cons (.inr (.inr ⟨_, _, _, _, rfl, rfl⟩)) (.cons (.inl ⟨rfl, rfl⟩) .nil)) (Rep.v _)
    obtain ⟨o, e⟩ := rl.fd b z
    exact dm b o e
/-! ### the law's start: the pen is made -/
theorem law_go {E : XKS} {t2 : TS} {td : TDS} {H : Hp} {Q : VK} {σ : St} {δ : En} [x : DS E t2 td] (hr : Rel (fun _ => False) σ δ H) (k : ∀ H', Q (.bl true) H')
    (q : td { nx := fun _ => False, rt := fun r δ => val δ r fun d => d = .v (.bl true) } δ) : t2 { nx := fun _ H' => Q .non H', rt := Q } σ H := by
  refine x.r (fun _ => False) σ δ H _ _ hr q ⟨fun _ _ _ z => z.elim, fun r σ' δ' v H' q R1 f1 p => ?_, fun _ _ _ z => z.elim, fun _ _ _ z => z.elim, fun _ _ _ _ _ _ z => z.elim⟩
  obtain ⟨d, w, rfl⟩ := val_w p R1 q
  have w : v = .bl true := w
  rw [w]
  exact k H'
theorem law_rel {t l a : Addr} {g n : Nat} {H : Hp} (m : Nat) (pen : GAt g n t l H) (ne : l ≠ t) : Rel (fun _ => False) (some (.ref a) :: some (.ref t) :: List.replicate m none) (.any :: .gad g n t :: List.replicate m .no) H := by
  have eo : owns (.any :: .gad g n t :: List.replicate m S.no) = [t] := by
    have := owns_no [.any, .gad g n t] m
    exact this
  refine ⟨.cons trivial (.cons ⟨rfl, l, pen, fun z => ?_⟩ (All2.rep (R := SRel _ _ H) (b := S.no) rfl _)), by rw [eo]; simp, fun _ z => z.elim⟩
  rcases z with z | z
  · exact z
  · rw [eo] at z; simp at z; exact ne z
theorem law_first {E : XKS} {K : PySem.W.Frag} {t2 : TS} {td : TDS} {H : Hp} {Q : VK} {a : Addr} {ns : List Int} (m : Nat) (hS : SqL K H a (ns.map V.int)) (hl : ns.length ≤ 63) (k : ∀ H', Q (.bl true) H') (hx : DS E t2 td)
    (q : ∀ t, td { nx := fun _ => False, rt := fun r δ => val δ r fun d => d = .v (.bl true) } (.any :: .gad 0 0 t :: List.replicate m .no)) :
    tSeq (tAsg (tCall (spPen K) [] E0 (tCons (tVar 0) tNil)) (gName 1)) t2 { nx := fun _ H' => Q .non H', rt := Q } (some (.ref a) :: none :: List.replicate m none) H := by
  refine ⟨.ref a, rfl, a, ns, rfl, hS, hl, fun t l H1 TA ft fl s1 => ?_⟩
  exact law_go (x := hx) (law_rel m (g := 0) TA (fun z => by subst z; obtain ⟨_, _, _, h1, h2, _⟩ := TA.ex; rw [h1] at h2; cases h2)) k (q t)
/-! ### comprehensions whose parts leave all as it is -/
theorem lcMap {J : ItD} {g : TDG} {sl : List Nat} {te : TDE} {vs : List Nat} {δ1 : En} {Kk : List D → En → Prop} (f : D → D) (hsl : (sl.all fun i => vs.contains i) = true) (ok : J.ok (wipeD δ1 vs)) (hn : J.xs.length ≤ sizeLine)
    (hs : ∀ x ∈ J.xs, ∀ P : D → En → Prop, P (f x) (wipeD δ1 vs) → g (.d x) (wipeD δ1 vs) fun δ2 => te δ2 (fun r δ4 => frz δ4 r fun d δ5 => P d (wipeD δ5 vs)) noX) (q : Kk (J.xs.map f) (wipeD δ1 vs)) :
    (sl.all fun i => vs.contains i) = true ∧ ∃ I : Nat → En → List D → Prop, I 0 (wipeD δ1 vs) [] ∧ (∀ i δ acc, I i δ acc → J.ok δ) ∧
      (∀ i δ acc x, J.xs[i]? = some x → I i δ acc → acc.length < sizeLine ∧ g (.d x) δ fun δ2 => dYes δ2 (fun b δ3 => if b = true then te δ3 (fun r δ4 => frz δ4 r fun d δ5 => I (i + 1) (wipeD δ5 vs) (acc ++ [d])) noX else I (i + 1) (wipeD δ3 vs) acc) noX) ∧
      ∀ δ acc, I J.xs.length δ acc → Kk acc δ := by
  refine ⟨hsl, fun i δ acc => δ = wipeD δ1 vs ∧ acc = (J.xs.take i).map f, ⟨rfl, rfl⟩, fun i δ acc h => by rw [h.1]; exact ok, ?_, ?_⟩
  · rintro i δ acc x hx ⟨rfl, rfl⟩
    have hi : i < J.xs.length := (List.getElem?_eq_some_iff.mp hx).1
    refine ⟨by rw [List.length_map, List.length_take]; omega, ?_⟩
    have := hs x (List.mem_of_getElem? hx) (fun d δ => δ = wipeD δ1 vs ∧ (J.xs.take i).map f ++ [d] = (J.xs.take (i + 1)).map f) ⟨rfl, by rw [take_snoc hx, List.map_append]; rfl⟩
    exact this
  · rintro δ acc ⟨rfl, rfl⟩
    rw [List.take_length]
    exact q
/-- parts of which something is known -/
theorem lcAll {J : ItD} {g : TDG} {sl : List Nat} {te : TDE} {vs : List Nat} {δ1 : En} {Kk : List D → En → Prop} (p : D → Prop) (hsl : (sl.all fun i => vs.contains i) = true) (ok : J.ok (wipeD δ1 vs)) (hn : J.xs.length ≤ sizeLine)
    (hs : ∀ x ∈ J.xs, ∀ P : D → En → Prop, (∀ d, p d → P d (wipeD δ1 vs)) → g (.d x) (wipeD δ1 vs) fun δ2 => te δ2 (fun r δ4 => frz δ4 r fun d δ5 => P d (wipeD δ5 vs)) noX) (q : ∀ ds, ds.length = J.xs.length → (∀ d ∈ ds, p d) → Kk ds (wipeD δ1 vs)) :
    (sl.all fun i => vs.contains i) = true ∧ ∃ I : Nat → En → List D → Prop, I 0 (wipeD δ1 vs) [] ∧ (∀ i δ acc, I i δ acc → J.ok δ) ∧
      (∀ i δ acc x, J.xs[i]? = some x → I i δ acc → acc.length < sizeLine ∧ g (.d x) δ fun δ2 => dYes δ2 (fun b δ3 => if b = true then te δ3 (fun r δ4 => frz δ4 r fun d δ5 => I (i + 1) (wipeD δ5 vs) (acc ++ [d])) noX else I (i + 1) (wipeD δ3 vs) acc) noX) ∧
      ∀ δ acc, I J.xs.length δ acc → Kk acc δ := by
  refine ⟨hsl, fun i δ acc => δ = wipeD δ1 vs ∧ acc.length = i ∧ ∀ d ∈ acc, p d, ⟨rfl, rfl, by simp⟩, fun i δ acc h => by rw [h.1]; exact ok, ?_, ?_⟩
  · rintro i δ acc x hx ⟨rfl, hl, hp⟩
    have hi : i < J.xs.length := (List.getElem?_eq_some_iff.mp hx).1
    refine ⟨by omega, ?_⟩
    have := hs x (List.mem_of_getElem? hx) (fun d δ => δ = wipeD δ1 vs ∧ (acc ++ [d]).length = i + 1 ∧ ∀ e ∈ acc ++ [d], p e) fun d hd => ⟨rfl, by simp [hl], fun e he => by
      rcases List.mem_append.mp he with he | he
      · exact hp e he
      · rw [List.mem_singleton.mp he]; exact hd⟩
    exact this
  · rintro δ acc ⟨rfl, hl, hp⟩
    exact q acc hl hp
def NmD (x : Str) : D := .v (.str x)
theorem txts_of {p : Str → Prop} : ∀ {ds : List D}, (∀ d ∈ ds, ∃ z, d = NmD z ∧ p z) → ∃ zs : List Str, ds = zs.map NmD ∧ ∀ z ∈ zs, p z
  | [], _ => ⟨[], rfl, by simp⟩
  | d :: r, h => by
    obtain ⟨z, rfl, hz⟩ := h d (by simp)
    obtain ⟨zs, e, hp⟩ := txts_of (ds := r) fun d hd => h d (by simp [hd])
    exact ⟨z :: zs, by rw [e]; rfl, fun y hy => by
      rcases List.mem_cons.mp hy with hy | hy
      · rw [hy]; exact hz
      · exact hp y hy⟩
theorem intsD_mem {n : Nat} {f : Nat → Int} {d : D} (h : d ∈ intsD n f) : ∃ i, i < n ∧ d = .v (.int (f i)) := by
  unfold intsD at h
  obtain ⟨i, hi, e⟩ := List.mem_map.mp h
  exact ⟨i, List.mem_range.mp hi, e.symm⟩
theorem small1000' {n : Nat} (h : n ≤ 1000000) : n < sizeLine := Nat.lt_of_le_of_lt h (by rw [sizeLine_eq]; decide)
theorem smallLe {n : Nat} (h : n ≤ 1000000) : n ≤ sizeLine := Nat.le_trans h (by rw [sizeLine_eq]; decide)
end L2

set_option Elab.async false
set_option linter.all false
set_option maxRecDepth 100000
set_option maxHeartbeats 1000000
namespace L2
open PySem PySem.Spec PyProof.Rows TL
/-! ### refusals: raised, caught, looked at -/
def excD (C : Addr) (ns : List Str) (ds : List D) : D := .nd (.exc C) [.nd (.xd ns) ds]
section
variable {E : XKS} {K : PySem.W.Frag}
theorem zip_fst {ns : List Str} {ds : List D} (h : ns.length = ds.length) : (ns.zip ds).map (·.1) = ns := by
  induction ns generalizing ds with
  | nil => rfl
  | cons n r ih => cases ds with
    | nil => simp at h
    | cons d q => simp; exact ih (by simpa using h)
theorem zip_snd {ns : List Str} {ds : List D} (h : ns.length = ds.length) : (ns.zip ds).map (·.2) = ds := by
  induction ns generalizing ds with
  | nil => cases ds with
    | nil => rfl
    | cons d q => simp at h
  | cons n r ih => cases ds with
    | nil => simp at h
    | cons d q => simp; exact ih (by simpa using h)
def sRaise (C : Addr) (ns : List Str) (t : TDA) : TDS := fun D δ => t δ (fun rs δ1 => rs.length = ns.length ∧ frzL δ1 rs fun ds δ2 => D.xc C (ns.zip ds) δ2) D.xc
theorem frzL_len : ∀ {rs : List R} {δ : En} {P : List D → En → Prop}, frzL δ rs P → frzL δ rs fun ds δ' => ds.length = rs.length ∧ P ds δ'
  | [], δ, P, h => ⟨rfl, h⟩
  | r :: rs, δ, P, h => by
    have mono : ∀ {Q Q' : D → En → Prop}, (∀ d δ, Q d δ → Q' d δ) → frz δ r Q → frz δ r Q' := by
      intro Q Q' m q
      cases r with
      | d d => exact m _ _ q
      | new k ds => exact m _ _ q
      | var i =>
        dsimp only [frz] at q ⊢
        split at q
        · exact m _ _ q
        · exact m _ _ q
        · exact q.elim
    have monoL : ∀ {rs : List R} {δ : En} {Q Q' : List D → En → Prop}, (∀ d δ, Q d δ → Q' d δ) → frzL δ rs Q → frzL δ rs Q' := by
      intro rs
      induction rs with
      | nil => intro δ Q Q' m q; exact m _ _ q
      | cons r rs ih =>
        intro δ Q Q' m q
        have mono2 : ∀ {Q Q' : D → En → Prop}, (∀ d δ, Q d δ → Q' d δ) → frz δ r Q → frz δ r Q' := by
          intro Q Q' m q
          cases r with
          | d d => exact m _ _ q
          | new k ds => exact m _ _ q
          | var i =>
            dsimp only [frz] at q ⊢
            split at q
            · exact m _ _ q
            · exact m _ _ q
            · exact q.elim
        exact mono2 (fun d δ1 z => ih (fun ds δ2 y => m _ _ y) z) q
    exact mono (fun d δ1 z => monoL (fun ds δ2 ⟨y1, y2⟩ => ⟨by simp [y1], y2⟩) (frzL_len z)) h
instance i_raise {C : Addr} {ns : List Str} {t : TA} {d : TDA} [a : DA E t d] : DS E (tRaise C ns E t) (sRaise C ns d) where
  r := fun F σ δ H D Ed hr q k => by
    refine a.r F σ δ H _ _ _ hr q (fun rs δ1 vs H1 ⟨hl, q1⟩ R1 f1 p1 => ⟨by rw [p1.len]; exact hl, fun dd hd => ?_⟩) k.xc
    obtain ⟨ds, δ2, rl, R2, f2, hlen, q2⟩ := frzL_ok p1 R1 (frzL_len q1)
    have s : Same H1 (upd H1 dd (.xd (ns.zip vs))) := Same.new hd
    have hl2 : ns.length = ds.length := by rw [hlen]; exact hl.symm
    refine k.xc C (ns.zip ds) δ2 σ _ (some dd) q2 (R2.same s) ((f1.trans f2).trans (.same s)) ⟨dd, vs, rfl, ?_, R2.nofb hd, ?_⟩
    · rw [zip_fst hl2]; exact upd_same
    · rw [zip_snd hl2]; exact rl.imp fun b o e g => ⟨s _ _ e, g⟩
def DEnds.unn (D : DEnds) (i : Nat) : DEnds := { nx := fun δ => D.nx (δ.set i .no), rt := D.rt, bk := fun δ => D.bk (δ.set i .no), ct := fun δ => D.ct (δ.set i .no), xc := D.xc }
def hitD (K : PySem.W.Frag) (C : Addr) : D → Prop
  | .v (.ref b) => xcIn K b = true ∧ hitIn K C [b] = some true
  | _ => False
def sTry (K : PySem.W.Frag) (b : TDS) (te : TDE) (i : Nat) (su : TDS) : TDS := fun D δ => b { D with xc := fun C fs δ1 => te δ1 (fun c δ2 => (val δ2 c fun d => hitD K C d) ∧ su { D.unn i with xc := fun _ _ _ => False } (δ2.set i (.d (excD C (fs.map (·.1)) (fs.map (·.2)))))) (fun _ _ _ => False) } δ
theorem Rel.setN {F : Addr → Prop} {σ : St} {δ : En} {H : Hp} {i : Nat} (hr : Rel F σ δ H) : Rel F (σ.set i none) (δ.set i .no) H ∧ ∀ a, a ∈ owns (δ.set i .no) → a ∈ owns δ := ⟨hr.put rfl fun _ => rfl, (owns_setN (i := i) (s' := .no) rfl hr.nd).1⟩
instance i_try {tb : XKS → TS} {te : TE} {i : Nat} {tsu : TS} {db : TDS} {de : TDE} {ds : TDS} [x : ∀ E', DS E' (tb E') db] [y : DR (fun _ _ _ _ => True) te de] [z : DS (fun _ _ _ _ => True) tsu ds] : DS E (tTry K tb te i tsu) (sTry K db de i ds) where
  r := fun F σ δ H D Ed hr q k => by
    refine (x (tHand K te i tsu D)).r F σ δ H D _ hr q ⟨k.nx, k.rt, k.bk, k.ct, ?_⟩
    intro C fs δ1 σ1 H1 od q1 R1 f1 xr
    refine ⟨C, rfl, y.r F σ1 δ1 H1 _ _ _ R1 q1 (fun c δ2 v2 H2 q2 R2 f2 p2 => ?_) fun _ _ _ _ _ _ _ _ _ _ => trivial⟩
    obtain ⟨qh, q3⟩ := q2
    obtain ⟨d, w, hd⟩ := val_w p2 R2 qh
    obtain ⟨dd, vs, eo, ex, nd, rl⟩ := xr
    subst eo
    refine ⟨?_, fun a ha => ?_⟩
    · match d, w, hd with
      | .v (.ref b), w, hd => exact .inl ⟨b, w, hd.1, hd.2⟩
    · have s : Same H2 (upd H2 a (XO a (.ref C) (some dd))) := Same.new ha
      obtain ⟨e2, nd2⟩ := f2.mv (F := F) dd _ ex nd
      have rl2 := rl.imp f2.mv
      have hlen : (fs.map (·.1)).length = vs.length := by rw [rl.len]; simp
      have rp : Rep (Fb F δ2) (upd H2 a (XO a (.ref C) (some dd))) (.ref a) (excD C (fs.map (·.1)) (fs.map (·.2))) :=
        .nd ⟨dd, rfl, upd_same⟩ (R2.nofb ha) (.cons (.nd ⟨hlen, s _ _ e2⟩ nd2 (rl2.imp fun b o e g => ⟨s _ _ e, g⟩)) .nil)
      obtain ⟨R3, h3⟩ := (R2.same s).setD (i := i) rp
      have f : Fr δ H (δ2.set i (.d (excD C (fs.map (·.1)) (fs.map (·.2))))) (upd H2 a (XO a (.ref C) (some dd))) := by
        have g := (f1.trans f2).trans (Fr.same s)
        exact ⟨g.ex, fun b zz => g.nw b (h3 b zz), g.dm⟩
      refine z.r F _ _ _ _ _ R3 q3 ⟨fun σ' δ' H' q r g => ?_, (k.step f).rt, fun σ' δ' H' q r g => ?_, fun σ' δ' H' q r g => ?_, fun _ _ _ _ _ _ zz => zz.elim⟩
      · obtain ⟨r', h'⟩ := r.setN (i := i)
        have g' := f.trans g
        exact k.nx _ _ H' q r' ⟨g'.ex, fun b zz => g'.nw b (h' b zz), g'.dm⟩
      · obtain ⟨r', h'⟩ := r.setN (i := i)
        have g' := f.trans g
        exact k.bk _ _ H' q r' ⟨g'.ex, fun b zz => g'.nw b (h' b zz), g'.dm⟩
      · obtain ⟨r', h'⟩ := r.setN (i := i)
        have g' := f.trans g
        exact k.ct _ _ H' q r' ⟨g'.ex, fun b zz => g'.nw b (h' b zz), g'.dm⟩
def dXF (K : PySem.W.Frag) (ta : TDE) (f : Str) : TDE := fun δ Q X => ta δ (fun x δ1 => val δ1 x fun d => match d with
  | .nd (.exc C) [.nd (.xd ns) ds] => (xcls K C = true ∧ PySem.W.findIn K (.ref C) f = some none) ∧ ∃ d, fldD ns ds f = some d ∧ Q (.d d) δ1
  | _ => False) X
instance i_xf {ta : TE} {da : TDE} {f : Str} [a : DR E ta da] : DR E (tXF K ta f) (dXF K da f) where
  r := fun F σ δ H Q Qd Xd hr q k xo => by
    refine a.r F σ δ H _ _ Xd hr q (fun x δ1 v1 H1 q1 R1 f1 p1 => ?_) xo
    obtain ⟨d, w, q2⟩ := val_w p1 R1 q1
    match d, w, q2 with
    | .nd (.exc C) [.nd (.xd ns) ds], ⟨b, vs, e, ⟨dd, ev, hb⟩, rl⟩, ⟨⟨c1, c2⟩, d, hd, q2⟩ =>
      subst ev
      cases rl with
      | cons rp _ =>
        cases rp with
        | nd ob ng rl2 =>
          obtain ⟨u, h1, h2⟩ := fld_ok rl2 hd
          exact ⟨b, C, dd, _, u, e, hb, ob.2, c1, c2, h1, k _ δ1 u H1 q2 R1 f1 h2⟩
/-- what isinstance wants of a class of one's own -/
structure InsTy (K : PySem.W.Frag) (C : Addr) : Prop where
  cl : Cls K C
  ha : PySem.W.findIn K (.ref C) "__class__" = some (some (.builtin "object.__class__"))
  hn : PySem.W.specialIn K (.builtin "object.__class__") "__get__" = some (some (.builtin "getset_descriptor.__get__"))
  ht : PySem.W.takesIn K (.builtin "object.__class__") = some true
  hm : PySem.W.mroIn K C (.type "object") = some true
/-- isinstance of a refusal, of an instance -/
def tyX (K : PySem.W.Frag) : D → Option Value → Prop
  | .nd (.exc C) [.nd (.xd _) _], t => xcls K C = true ∧ t = some (.ref C)
  | .nd (.ins C _) _, t => InsTy K C ∧ t = some (.ref C)
  | d, t => tyD d = t
theorem tyX_ok {G : Addr → Prop} {H : Hp} {u : V} {d : D} {t : Value} (w : WRep G H u d) (e : tyX K d (some t)) : TyX K H u t := by
  have pl : ∀ d, WRep G H u d → tyD d = some t → TyX K H u t := fun d w e => .of (tyD_ok w e)
  match d, w, e with
  | .nd (.exc C) [.nd (.xd ns) ds], ⟨b, vs, eb, ⟨dd, ev, hb⟩, rl⟩, e =>
    subst ev eb
    cases rl with
    | cons rp _ =>
      cases rp with
      | nd ob ng rl2 =>
        obtain ⟨e1, e2⟩ := e
        cases e2
        exact .exc hb ob.2 e1
  | .v x, w, e => exact pl _ w e
  | .nd .tup l, w, e => exact pl _ w e
  | .nd .lst l, w, e => exact pl _ w e
  | .nd (.dk ks) l, w, e => exact pl _ w e
  | .nd (.ins C ns) l, ⟨b, vs, eb, ⟨_, dx, hb⟩, _⟩, e =>
    obtain ⟨e1, e2⟩ := e
    subst eb
    cases e2
    exact .of (.ins hb e1.cl e1.ha e1.hn e1.ht e1.hm)
  | .nd (.xd ns) l, w, e => exact pl _ w e
  | .nd (.exc C) [], w, e => exact pl _ w e
  | .nd (.exc C) (.v _ :: _), w, e => exact pl _ w e
  | .nd (.exc C) (.nd .tup _ :: _), w, e => exact pl _ w e
  | .nd (.exc C) (.nd .lst _ :: _), w, e => exact pl _ w e
  | .nd (.exc C) (.nd (.dk _) _ :: _), w, e => exact pl _ w e
  | .nd (.exc C) (.nd (.ins _ _) _ :: _), w, e => exact pl _ w e
  | .nd (.exc C) (.nd (.exc _) _ :: _), w, e => exact pl _ w e
  | .nd (.exc C) (.nd (.xd _) _ :: _ :: _), w, e => exact pl _ w e
def oIsX (K : PySem.W.Frag) : List D → RK → Prop := fun ds Q => match ds with
  | [d, .v c] => ∃ t c' b, tyX K d (some t) ∧ clsV c = some c' ∧ PySem.W.kitOne K t c' = some b ∧ Q (rv (.bl b))
  | _ => False
instance v_isX : DVn (rIsX K) (oIsX K) where
  r := fun G H xs ds Q Qd _ w q k => match ds, w, q with
    | [d, .v c], w, ⟨t, c', b, h1, h3, h2, q⟩ => by
      obtain ⟨x, y, rfl, e, e'⟩ := w2 w
      have e' : y = c := e'
      subst e'
      exact ⟨x, y, t, c', b, rfl, tyX_ok e h1, h3, h2, k _ _ H q (Same.refl _) (Rep.v _)⟩
def vsOf : List D → Option (List V)
  | [] => some []
  | .v x :: r => (vsOf r).map (x :: ·)
  | _ => none
theorem vsOf_ok {G : Addr → Prop} {H : Hp} : ∀ {ds : List D} {vs ys : List V}, RepL G H vs ds → vsOf ds = some ys → vs = ys
  | [], _, _, .nil, e => by cases e; rfl
  | .v x :: r, _, ys, .cons a b, e => by
    cases a
    have e' : (vsOf r).map (x :: ·) = some ys := e
    cases h : vsOf r with
    | none => rw [h] at e'; cases e'
    | some zs => rw [h] at e'; cases e'; rw [vsOf_ok b h]
def oIsXT (K : PySem.W.Frag) : List D → RK → Prop := fun ds Q => match ds with
  | [d, .nd .tup cs] => ∃ t ys ts b, tyX K d (some t) ∧ vsOf cs = some ys ∧ ys.mapM clsV = some ts ∧ PySem.W.kitAny K t ts = some b ∧ Q (rv (.bl b))
  | _ => False
instance v_isXT : DVn (rIsXT K) (oIsXT K) where
  r := fun G H xs ds Q Qd _ w q k => match ds, w, q with
    | [d, .nd .tup cs], w, ⟨t, ys, ts, b, h1, h2, h3, h4, q⟩ => by
      obtain ⟨x, y, rfl, e, tp, vs, ey, ob, rl⟩ := w2 w
      subst ey
      have := vsOf_ok rl h2
      subst this
      exact ⟨x, tp, t, vs, ts, b, rfl, ob, tyX_ok e h1, h3, h4, k _ _ H q (Same.refl _) (Rep.v _)⟩
end
/-! ### more of texts and lists -/
section
variable {E : XKS} {K : PySem.W.Frag} {X : Cx}
def rS0 (C : Str → Prop) (g : Str → V) : V → List V → Hp → VK → Prop := fun x xs H Q => ∃ a, x = .str a ∧ xs = [] ∧ C a ∧ Q (g a) H
def oS0 (C : Str → Prop) (g : Str → V) : D → List D → RK → Prop := fun d ds Q => match d, ds with
  | .v (.str a), [] => C a ∧ Q (rv (g a))
  | _, _ => False
instance m_s0 {C : Str → Prop} {g : Str → V} : DMt (rS0 C g) (oS0 C g) where
  r := fun G H x d xs ds Q Qd _ w wl q k => match d, ds, w, wl, q with
    | .v (.str a), [], w, .nil, q => ⟨a, w, rfl, q.1, k _ _ H q.2 (Same.refl _) (Rep.v _)⟩
def rS1 (C : Str → Str → Prop) (g : Str → Str → V) : V → List V → Hp → VK → Prop := fun x xs H Q => ∃ a b, x = .str a ∧ xs = [.str b] ∧ C a b ∧ Q (g a b) H
def oS1 (C : Str → Str → Prop) (g : Str → Str → V) : D → List D → RK → Prop := fun d ds Q => match d, ds with
  | .v (.str a), [.v (.str b)] => C a b ∧ Q (rv (g a b))
  | _, _ => False
instance m_s1 {C : Str → Str → Prop} {g : Str → Str → V} : DMt (rS1 C g) (oS1 C g) where
  r := fun G H x d xs ds Q Qd _ w wl q k => match d, ds, w, wl, q with
    | .v (.str a), [.v (.str b)], w, wl, q => by
      obtain ⟨y, rfl, ey⟩ := w1 wl
      have ey : y = .str b := ey
      subst ey
      exact ⟨a, b, w, rfl, q.1, k _ _ H q.2 (Same.refl _) (Rep.v _)⟩
def rSpl : V → List V → Hp → VK → Prop := fun x xs H Q => ∃ a b, x = .str a ∧ xs = [.str b] ∧ (b.length == 0) = false ∧ a.length + 2 ≤ sizeLine ∧ rNewStrs (Txt.split a b) H Q
def oSpl : D → List D → RK → Prop := fun d ds Q => match d, ds with
  | .v (.str a), [.v (.str b)] => ((b.length == 0) = false ∧ a.length + 2 ≤ sizeLine) ∧ Q (.new .lst ((Txt.split a b).map NmD))
  | _, _ => False
theorem repL_txts {G : Addr → Prop} {H : Hp} : ∀ (ys : List Str), RepL G H (ys.map V.str) (ys.map NmD)
  | [] => .nil
  | y :: r => .cons (Rep.v _) (repL_txts r)
instance m_spl : DMt rSpl oSpl where
  r := fun G H x d xs ds Q Qd _ w wl q k => match d, ds, w, wl, q with
    | .v (.str a), [.v (.str b)], w, wl, q => by
      obtain ⟨y, rfl, ey⟩ := w1 wl
      have ey : y = .str b := ey
      subst ey
      exact ⟨a, b, w, rfl, q.1.1, q.1.2, fun p hp => k _ _ _ q.2 (Same.new hp) (new_list (repL_txts _) hp)⟩
def rLj : V → List V → Hp → VK → Prop := fun x xs H Q => ∃ (a : Str) (n : Nat), x = .str a ∧ xs = [.int (n : Int)] ∧ n ≤ 1000000 ∧ Q (.str (Txt.ljust a n)) H
def oLj : D → List D → RK → Prop := fun d ds Q => match d, ds with
  | .v (.str a), [.v (.int i)] => (0 ≤ i ∧ i.toNat ≤ 1000000) ∧ Q (rv (.str (Txt.ljust a i.toNat)))
  | _, _ => False
instance m_lj : DMt rLj oLj where
  r := fun G H x d xs ds Q Qd _ w wl q k => match d, ds, w, wl, q with
    | .v (.str a), [.v (.int i)], w, wl, q => by
      obtain ⟨y, rfl, ey⟩ := w1 wl
      have ey : y = .int i := ey
      subst ey
      exact ⟨a, i.toNat, w, by rw [Int.toNat_of_nonneg q.1.1], q.1.2, k _ _ H q.2 (Same.refl _) (Rep.v _)⟩
/-- a list of ints, of truths -/
def intL : List D → Option (List Int)
  | [] => some []
  | .v (.int x) :: r => (intL r).map (x :: ·)
  | _ => none
theorem intL_ok {G : Addr → Prop} {H : Hp} : ∀ {ds : List D} {vs : List V} {ys : List Int}, RepL G H vs ds → intL ds = some ys → vs = ys.map V.int
  | [], _, _, .nil, e => by cases e; rfl
  | .v (.int x) :: r, _, ys, .cons a b, e => by
    cases a
    have e' : (intL r).map (x :: ·) = some ys := e
    cases h : intL r with
    | none => rw [h] at e'; cases e'
    | some zs => rw [h] at e'; cases e'; rw [intL_ok b h]; rfl
def blL : List D → Option (List Bool)
  | [] => some []
  | .v (.bl x) :: r => (blL r).map (x :: ·)
  | _ => none
theorem blL_ok {G : Addr → Prop} {H : Hp} : ∀ {ds : List D} {vs : List V} {ys : List Bool}, RepL G H vs ds → blL ds = some ys → vs = ys.map V.bl
  | [], _, _, .nil, e => by cases e; rfl
  | .v (.bl x) :: r, _, ys, .cons a b, e => by
    cases a
    have e' : (blL r).map (x :: ·) = some ys := e
    cases h : blL r with
    | none => rw [h] at e'; cases e'
    | some zs => rw [h] at e'; cases e'; rw [blL_ok b h]; rfl
def oSum : List D → RK → Prop := fun ds Q => match ds with
  | [.nd .lst l] => ∃ ns, intL l = some ns ∧ Q (rv (.int ns.sum))
  | _ => False
instance v_sum : DVn (rSum K) oSum where
  r := fun G H xs ds Q Qd _ w q k => match ds, w, q with
    | [.nd .lst l], w, ⟨ns, h, q⟩ => by
      obtain ⟨x, rfl, a, vs, rfl, ob, rl⟩ := w1 w
      have e := intL_ok rl h
      subst e
      exact ⟨a, ns, rfl, SqL.of ob, k _ _ H q (Same.refl _) (Rep.v _)⟩
def oMax : List D → RK → Prop := fun ds Q => match ds with
  | [.nd .lst l] => ∃ ns, intL l = some ns ∧ 0 < ns.length ∧ ∀ m, m ∈ ns → (∀ y, y ∈ ns → y ≤ m) → Q (rv (.int m))
  | _ => False
instance v_max : DVn (rMax K) oMax where
  r := fun G H xs ds Q Qd _ w q k => match ds, w, q with
    | [.nd .lst l], w, ⟨ns, h, hn, q⟩ => by
      obtain ⟨x, rfl, a, vs, rfl, ob, rl⟩ := w1 w
      have e := intL_ok rl h
      subst e
      exact ⟨a, ns, rfl, SqL.of ob, hn, fun m h1 h2 => k _ _ H (q m h1 h2) (Same.refl _) (Rep.v _)⟩
def oMin : List D → RK → Prop := fun ds Q => match ds with
  | [.nd .lst l] => ∃ ns, intL l = some ns ∧ 0 < ns.length ∧ ∀ m, m ∈ ns → (∀ y, y ∈ ns → m ≤ y) → Q (rv (.int m))
  | _ => False
instance v_min : DVn (rMin K) oMin where
  r := fun G H xs ds Q Qd _ w q k => match ds, w, q with
    | [.nd .lst l], w, ⟨ns, h, hn, q⟩ => by
      obtain ⟨x, rfl, a, vs, rfl, ob, rl⟩ := w1 w
      have e := intL_ok rl h
      subst e
      exact ⟨a, ns, rfl, SqL.of ob, hn, fun m h1 h2 => k _ _ H (q m h1 h2) (Same.refl _) (Rep.v _)⟩
def oAll (f : List Bool → Bool) : List D → RK → Prop := fun ds Q => match ds with
  | [.nd .lst l] => ∃ bs, blL l = some bs ∧ Q (rv (.bl (f bs)))
  | _ => False
instance v_all : DVn (rAll K) (oAll fun bs => bs.all id) where
  r := fun G H xs ds Q Qd _ w q k => match ds, w, q with
    | [.nd .lst l], w, ⟨ns, h, q⟩ => by
      obtain ⟨x, rfl, a, vs, rfl, ob, rl⟩ := w1 w
      have e := blL_ok rl h
      subst e
      exact ⟨a, ns, rfl, SqL.of ob, k _ _ H q (Same.refl _) (Rep.v _)⟩
instance v_any : DVn (rAny K) (oAll fun bs => bs.any id) where
  r := fun G H xs ds Q Qd _ w q k => match ds, w, q with
    | [.nd .lst l], w, ⟨ns, h, q⟩ => by
      obtain ⟨x, rfl, a, vs, rfl, ob, rl⟩ := w1 w
      have e := blL_ok rl h
      subst e
      exact ⟨a, ns, rfl, SqL.of ob, k _ _ H q (Same.refl _) (Rep.v _)⟩
/-- xs.extend(ys) -/
def dExt (i : Nat) (t : TDA) : TDE := fun δ Q X => ownL δ i fun _ _ _ => t δ (fun rs δ1 => valL δ1 rs fun es => ownL δ1 i fun f a ds => match es with
  | [.nd .lst l] => ds.length + l.length ≤ sizeLine ∧ Q (rv .non) (δ1.set i (.own f a .lst (ds ++ l)))
  | _ => False) X
instance (priority := high) i_ext {i : Nat} {t : TA} {d : TDA} [a : DA E t d] : DR E (tBM K "list" rExtend (tVar i) t) (dExt i d) where
  r := fun F σ δ H Q Qd Xd hr q k xo => by
    obtain ⟨f, l, ds, vs, e1, e2, e3, rl, q⟩ := ownL_ok hr q
    refine ⟨.ref l, e2, .inl ⟨rfl, vs, SqL.of e3⟩, a.r F σ δ H _ _ Xd hr q (fun rs δ1 xs H1 q1 R1 f1 p1 => ?_) xo⟩
    obtain ⟨es, w, q2⟩ := valL_w p1 R1 q1
    obtain ⟨f', l', ds', vs', g1, g2, g3, g4, q3⟩ := ownL_ok R1 q2
    rw [e2] at g2
    cases g2
    match es, w, q3 with
    | [.nd .lst m], w, ⟨hl, q3⟩ =>
      obtain ⟨x, rfl, b, us, rfl, ob, rl2⟩ := w1 w
      refine ⟨l, b, vs', us, rfl, rfl, g3, ob, by rw [g4.len, rl2.len]; exact hl, ?_⟩
      obtain ⟨R3, f3⟩ := R1.mut (o := .lst (vs' ++ us)) g1 (g4.app rl2) (k' := .lst) upd_same
      exact k _ _ _ _ q3 R3 (f1.trans f3) (Rep.v _)
/-! ### a, b, c = ..; a list unpacked -/
def sPar3 (i j l : Nat) (ta : TDA) : TDS := fun D δ => ta δ (fun rs δ1 => match rs with
  | [r, s, u] => frz δ1 r fun d δ2 => frz δ2 s fun e δ3 => frz δ3 u fun g δ4 => D.nx (((δ4.set l (.d g)).set j (.d e)).set i (.d d))
  | _ => False) D.xc
instance i_par3 {i j l : Nat} {t : TA} {d : TDA} [a : DA E t d] : DS E (tPar3 i j l t) (sPar3 i j l d) where
  r := fun F σ δ H D Ed hr q k => by
    refine a.r F σ δ H _ _ _ hr q (fun rs δ1 vs H1 q1 R1 f1 p1 => ?_) k.xc
    match rs, vs, p1, q1 with
    | [r, s, u], [v, x, y], .cons p1 (.cons p2 (.cons p3 .nil)), q1 =>
      obtain ⟨d, δ2, rp, R2, f2, q2⟩ := frz_ok p1 R1 q1
      obtain ⟨e, δ3, rp', R3, f3, q3⟩ := frz_ok (p2.mv f2 (H1 := H1)) R2 (frz_dn.mpr q2)
      obtain ⟨g, δ4, rp'', R4, f4, q4⟩ := frz_ok (p3.mv (f2.trans f3) (H1 := H1)) R3 (frz_dn.mpr q3)
      refine ⟨v, x, y, rfl, ?_⟩
      have m : ∀ (δ' δ'' : En), (∀ b, b ∈ owns δ'' → b ∈ owns δ') → ∀ b o, H1 b = some o → ¬ Fb F δ' b → H1 b = some o ∧ ¬ Fb F δ'' b := fun δ' δ'' hs b o eb g => ⟨eb, fun z => z.elim (fun z => g (.inl z)) fun z => g (.inr (hs b z))⟩
      obtain ⟨R5, h5⟩ := R4.setD (i := l) rp''
      have rp4 := rp'.imp f4.mv
      obtain ⟨R6, h6⟩ := R5.setD (i := j) (rp4.imp (m _ _ h5))
      obtain ⟨R7, h7⟩ := R6.setD (i := i) (((rp.imp (f3.trans f4).mv).imp (m _ _ h5)).imp (m _ _ h6))
      have f := ((f1.trans f2).trans f3).trans f4
      exact k.nx _ _ H1 q4 R7 ⟨f.ex, fun b z => f.nw b (h5 b (h6 b (h7 b z))), f.dm⟩
def gUnpL (n : Nat) (t : TDGs) : TDG := fun r δ Q => val δ r fun d => match d with
  | .nd .lst ds => ds.length = n ∧ t ds δ Q
  | _ => False
instance i_gTupL {n : Nat} {t : TGs} {td : TDGs} {s : List Nat} [b : DGs t td s] : DG (gTupL K n t) (gUnpL n td) s where
  r := fun F σ δ H H0 v r Q Qd hr rp q k => by
    obtain ⟨d, w, q⟩ := val_w rp hr q
    match d, w, q with
    | .nd .lst ds, ⟨a, vs, e, ob, rl⟩, ⟨hl, q⟩ =>
      exact ⟨a, vs, e, SqL.of ob, by rw [rl.len]; exact hl, b.r F σ δ H H0 vs ds _ _ hr rl q k⟩
end
end L2

set_option Elab.async false
set_option linter.all false
set_option maxRecDepth 100000
set_option maxHeartbeats 1000000
namespace L2
open PySem PySem.Spec PyProof.Rows TL
/-! ### own instances: their methods -/
section
variable {E : XKS} {K : PySem.W.Frag} {C : Addr} {sd : DSp}
abbrev noS : Addr → List (Str × D) → List S → Prop := fun _ _ _ => False
theorem WRep.free {G : Addr → Prop} {H : Hp} {u : V} {d : D} (w : WRep G H u d) : Rep (fun _ => False) H u d := by
  cases d with
  | v x => have w : u = x := w; subst w; exact Rep.v _
  | nd k ds =>
    obtain ⟨a, vs, rfl, ob, rl⟩ := w
    exact .nd ob (fun z => z) (rl.imp fun b o e _ => ⟨e, fun z => z⟩)
theorem owns_d (ds : List D) : owns (ds.map S.d) = [] := by
  induction ds with
  | nil => rfl
  | cons d r ih => show owns (.d d :: r.map S.d) = []; rw [owns_cons, ih]; rfl
/-- a def that is asked of plain things and tells a plain one -/
theorem up_plain {G : Addr → Prop} {vs : List V} {ds : List D} {H : Hp} {Q : VK} {Qs : V → Prop} (w : WRepL G H vs ds) (q : sd (ds.map S.d) (fun r _ => ∃ x, r = rv x ∧ Qs x) noS) (k : ∀ x H', Qs x → Same H H' → Q x H') : upS sd vs H Q E0 := by
  have eo := owns_d ds
  refine ⟨fun _ => False, ds.map S.d, _, noS, ⟨?_, by rw [eo]; exact List.nodup_nil, fun _ z => z.elim⟩, fun a z => (by rw [eo] at z; cases z), q, ?_, fun _ _ _ _ _ z => z.elim⟩
  · have gen : ∀ G' : Addr → Prop, (∀ b, ¬ G' b) → All2 (SRel (fun _ => False) G' H) (vs.map some) (ds.map S.d) := by
      intro G' hG
      clear q eo
      induction w with
      | nil => exact .nil
      | cons a _ ih => exact .cons ⟨_, rfl, a.free.imp fun b o e _ => ⟨e, hG b⟩⟩ ih
    exact gen _ fun b z => z.elim id fun z => by rw [eo] at z; cases z
  · intro r ss' v H' ⟨x, hx, qx⟩ rl fr bk rt
    subst hx
    have ev : v = x := by cases rt; rfl
    subst ev
    exact k v H' qx fun b o e => fr.ex b o (by rw [eo]; exact List.not_mem_nil) e
def isIns (C : Addr) : D → Prop
  | .nd (.ins C' _) _ => C' = C
  | _ => False
theorem isIns_ok {G : Addr → Prop} {H : Hp} {u : V} {d : D} (w : WRep G H u d) (h : isIns C d) : ∃ a dx fs, u = .ref a ∧ H a = some (.ins C dx fs) := by
  match d, w, h with
  | .nd (.ins C' ns) ds, ⟨a, vs, e, ⟨_, dx, hb⟩, _⟩, h =>
    have h : C' = C := h
    subst h
    exact ⟨a, dx, _, e, hb⟩
def oEqO (C : Addr) (sd : DSp) : D → D → RK → Prop := fun x y Q => (isIns C x ∧ isIns C y) ∧ sd [.d x, .d y] (fun r _ => ∃ v, r = rv v ∧ ∃ b, v = .bl b ∧ Q (rv (.bl b))) noS
instance v_eqO : DV2 (rEqO C (upS sd)) (oEqO C sd) where
  r := fun G H x y d e Q Qd gd w1 w2 q k => by
    obtain ⟨⟨h1, h2⟩, q⟩ := q
    obtain ⟨a, dx, fs, rfl, ha⟩ := isIns_ok w1 h1
    obtain ⟨b, dy, gs, rfl, hb⟩ := isIns_ok w2 h2
    exact ⟨a, dx, fs, b, dy, gs, rfl, ha, rfl, hb, up_plain (ds := [d, e]) (.cons w1 (.cons w2 .nil)) q fun x H' ⟨t, ht, qt⟩ s => ⟨t, ht, k _ _ H' qt s (Rep.v _)⟩⟩
def oNeO (C : Addr) (sd : DSp) : D → D → RK → Prop := fun x y Q => (isIns C x ∧ isIns C y) ∧ sd [.d x, .d y] (fun r _ => ∃ v, r = rv v ∧ ∃ b, v = .bl b ∧ Q (rv (.bl (!b)))) noS
instance v_neO : DV2 (rNeO C (upS sd)) (oNeO C sd) where
  r := fun G H x y d e Q Qd gd w1 w2 q k => by
    obtain ⟨⟨h1, h2⟩, q⟩ := q
    obtain ⟨a, dx, fs, rfl, ha⟩ := isIns_ok w1 h1
    obtain ⟨b, dy, gs, rfl, hb⟩ := isIns_ok w2 h2
    exact ⟨a, dx, fs, b, dy, gs, rfl, ha, rfl, hb, up_plain (ds := [d, e]) (.cons w1 (.cons w2 .nil)) q fun x H' ⟨t, ht, qt⟩ s => ⟨t, ht, k _ _ H' qt s (Rep.v _)⟩⟩
def oLenO (C : Addr) (sd : DSp) : List D → RK → Prop := fun ds Q => match ds with
  | [d] => isIns C d ∧ sd [.d d] (fun r _ => ∃ v, r = rv v ∧ ∃ n : Int, v = .int n ∧ 0 ≤ n ∧ n < 2 ^ 63 ∧ Q (rv (.int n))) noS
  | _ => False
instance v_lenO : DVn (rLenO C (upS sd)) (oLenO C sd) where
  r := fun G H xs ds Q Qd gd w q k => match ds, w, q with
    | [d], w, ⟨h1, q⟩ => by
      obtain ⟨x, rfl, ww⟩ := w1 w
      obtain ⟨a, dx, fs, rfl, ha⟩ := isIns_ok ww h1
      exact ⟨a, dx, fs, rfl, ha, up_plain (ds := [d]) w q fun x H' ⟨n, hn, n0, n1, qt⟩ s => ⟨n, hn, n0, n1, k _ _ H' qt s (Rep.v _)⟩⟩
def oReprO (C : Addr) (sd : DSp) : List D → RK → Prop := fun ds Q => match ds with
  | [d] => isIns C d ∧ sd [.d d] (fun r _ => ∃ v, r = rv v ∧ ∃ z : Str, v = .str z ∧ Q (rv (.str z))) noS
  | _ => False
instance v_reprO : DVn (rReprO C (upS sd)) (oReprO C sd) where
  r := fun G H xs ds Q Qd gd w q k => match ds, w, q with
    | [d], w, ⟨h1, q⟩ => by
      obtain ⟨x, rfl, ww⟩ := w1 w
      obtain ⟨a, dx, fs, rfl, ha⟩ := isIns_ok ww h1
      exact ⟨a, dx, fs, rfl, ha, up_plain (ds := [d]) w q fun x H' ⟨n, hn, qt⟩ s => ⟨n, hn, k _ _ H' qt s (Rep.v _)⟩⟩
theorem lookup_no {m : Str} : ∀ {ns : List Str} {vs : List V}, ns.contains m = false → (ns.zip vs).lookup m = none
  | [], _, _ => rfl
  | _ :: _, [], _ => rfl
  | n :: ns, v :: vs, h => by
    rw [List.contains_cons, Bool.or_eq_false_iff] at h
    rw [List.zip_cons_cons, List.lookup_cons, h.1]
    exact lookup_no h.2
/-- o.m(..) -/
def dMeth (C : Addr) (m : Str) (sd : DSp) (ta : TDE) (t : TDA) : TDE := fun δ Q X => ta δ (fun x δ1 => (val δ1 x fun d => match d with
  | .nd (.ins C' ns) _ => C' = C ∧ ns.contains m = false
  | _ => False) ∧ t δ1 (fun rs δ2 => dRun sd δ2 (x.dn :: rs.map R.dn) Q fun _ _ _ => False) X) X
instance i_meth {m : Str} {ta : TE} {t : TA} {da : TDE} {dt : TDA} [a : DR E ta da] [b : DA E t dt] : DR E (tMeth C m (upS sd) [] E0 ta t) (dMeth C m sd da dt) where
  r := fun F σ δ H Q Qd Xd hr q k xo => by
    refine a.r F σ δ H _ _ Xd hr q (fun x δ1 v1 H1 ⟨qi, q1⟩ R1 f1 p1 => ?_) xo
    obtain ⟨d, w, q2⟩ := val_w p1 R1 qi
    match d, w, q2 with
    | .nd (.ins C' ns) ds, ⟨o, vs, e, ⟨_, dx, hb⟩, rl⟩, ⟨hC, hm⟩ =>
      subst hC e
      refine ⟨o, dx, _, rfl, hb, lookup_no hm, b.r F σ δ1 H1 _ _ Xd R1 q1 (fun rs δ2 us H2 q3 R2 f2 p2 => ?_) (xo.step f1)⟩
      rw [List.append_nil]
      exact run_ok (.cons (p1.mv f2 (H1 := H2)) (p2.dn (H1 := H2))) R2 q3 (fun r δ' v H' q4 R3 f3 p3 => k r δ' v H' q4 R3 ((f1.trans f2).trans f3) (p3.tr (f1.trans f2))) fun _ _ _ _ _ z => z.elim
/-- C(..) by an __init__ of its own -/
def dMake (C : Addr) (sd : DSp) (t : TDA) : TDE := fun δ Q X => t δ (fun rs δ1 => frzL δ1 rs fun ds δ2 => ∀ a, sd (.own false a (.ins C []) [] :: ds.map S.d) (fun r ss' => r = rv .non ∧ ∃ k es rest, ss' = .own false a k es :: rest ∧ Q (.new k es) δ2) noS) X
instance i_make {t : TA} {dt : TDA} [b : DA E t dt] : DR E (tMake C (upS sd) [] E0 t) (dMake C sd dt) where
  r := fun F σ δ H Q Qd Xd hr q k xo => by
    refine b.r F σ δ H _ _ Xd hr q (fun rs δ1 vs H1 q1 R1 f1 p1 x dx hx hdx ne => ?_) xo
    obtain ⟨ds, δ2, rl, R2, f2, q2⟩ := frzL_ok p1 R1 q1
    rw [List.append_nil]
    have f12 := f1.trans f2
    have s : Same H1 (upd (upd H1 dx (.own x)) x (.ins C dx [])) := (Same.new hdx).trans (Same.new (by rw [upd_ne ne.symm]; exact hx))
    have eo : owns (.own false x (.ins C []) [] :: ds.map S.d) = [x] := by rw [owns_cons, owns_d]; rfl
    have rel0 : Rel (fun b => Fb F δ2 b ∨ b = x) ((V.ref x :: vs).map some) (.own false x (.ins C []) [] :: ds.map S.d) (upd (upd H1 dx (.own x)) x (.ins C dx [])) := by
      refine ⟨.cons ⟨rfl, fun z => (by cases z), [], ⟨rfl, dx, upd_same⟩, .nil⟩ ?_, by rw [eo]; simp, fun b z => ?_⟩
      · have gen : ∀ G' : Addr → Prop, (∀ b, G' b → Fb F δ2 b ∨ b = x) → ∀ {vs : List V} {ds : List D}, RepL (Fb F δ2) H1 vs ds → All2 (SRel (fun b => Fb F δ2 b ∨ b = x) G' (upd (upd H1 dx (.own x)) x (.ins C dx []))) (vs.map some) (ds.map S.d) := by
          intro G' hG vs ds rl
          induction vs generalizing ds with
          | nil => cases rl; exact .nil
          | cons v r ih =>
            cases rl with
            | cons rp rr =>
              refine .cons ⟨v, rfl, rp.imp fun b o e g => ⟨s _ _ e, fun z => ?_⟩⟩ (ih rr)
              rcases hG b z with z | z
              · exact g z
              · subst z; rw [e] at hx; cases hx
        exact gen _ (fun b z => z.elim id fun z => .inr (by rw [eo] at z; simpa using z)) rl
      · rcases z with z | z
        · obtain ⟨o, e⟩ := R2.gd b z; exact ⟨o, s _ _ e⟩
        · subst z; exact ⟨_, upd_same⟩
    refine ⟨_, _, _, noS, rel0, fun b z => .inr (by rw [eo] at z; simpa using z), q2 x, ?_, fun _ _ _ _ _ z => z.elim⟩
    intro r ss' v H' ⟨hr', kk, es, rest, hs, q3⟩ rl' fr bk rt
    subst hr' hs
    have ev : v = .non := by cases rt; rfl
    refine ⟨ev, ?_⟩
    have s' : Same H1 H' := fun b o e => fr.ex b o (by rw [eo]; intro z; rw [List.mem_singleton.mp z, hx] at e; cases e) (s _ _ e)
    have hsl := rl'.sl
    cases hsl with
    | cons s1 _ =>
      obtain ⟨_, _, ws, ob, rw'⟩ := s1
      have oo : OpOut (Fb F δ2) H1 H' (.ref x) (.new kk es) := ⟨x, ws, rfl, hx, ob, rw'.imp fun b o e g => ⟨e, fun z => g (.inl z)⟩⟩
      exact k _ δ2 _ H' q3 (R2.same s') (f12.trans (.same s')) ((oo.out s' R2).tr f12)
/-- [a, *xs, b] -/
def seqD (d : D) (Q : List D → Prop) : Prop := match d with
  | .nd .lst l => Q l
  | .nd .tup l => Q l
  | _ => False
def dStar (te : TDE) (t : TDA) : TDA := fun δ Q X => te δ (fun x δ1 => val δ1 x fun d => seqD d fun l => t δ1 (fun rs δ2 => Q (l.map R.d ++ rs) δ2) X) X
theorem rrepL_ds {F : Addr → Prop} {σ : St} {δ : En} {H H0 : Hp} : ∀ {vs : List V} {ds : List D}, RepL (Fb F δ) H vs ds → RRepL F σ H0 δ H vs (ds.map R.d)
  | _, _, .nil => .nil
  | _, _, .cons a b => .cons a (rrepL_ds b)
instance i_star {te : TE} {t : TA} {de : TDE} {dt : TDA} [a : DR E te de] [b : DA E t dt] : DA E (tStar K te t) (dStar de dt) where
  r := fun F σ δ H Q Qd Xd hr q k xo => by
    refine a.r F σ δ H _ _ Xd hr q (fun x δ1 v1 H1 q1 R1 f1 p1 => ?_) xo
    obtain ⟨d, w, q2⟩ := val_w p1 R1 q1
    have fin : ∀ {c : Addr} {vs : List V} {l : List D}, v1 = .ref c → (SqL K H1 c vs ∨ SqT K H1 c vs) → RepL (Fb F δ1) H1 vs l → dt δ1 (fun rs δ2 => Qd (l.map R.d ++ rs) δ2) Xd → ∃ a xs, v1 = .ref a ∧ (SqL K H1 a xs ∨ SqT K H1 a xs) ∧ t σ H1 fun ys H2 => Q (xs ++ ys) H2 := by
      intro c vs l e hq rl q3
      refine ⟨c, vs, e, hq, b.r F σ δ1 H1 _ _ Xd R1 q3 (fun rs δ2 us H2 q4 R2 f2 p2 => ?_) (xo.step f1)⟩
      exact k _ δ2 _ H2 q4 R2 (f1.trans f2) (rrepL_app (rrepL_ds (rl.imp f2.mv)) (p2.mono0 fun a h => f1.free h))
    match d, w, q2 with
    | .nd .lst l, ⟨c, vs, e, ob, rl⟩, q2 => exact fin e (.inl (SqL.of ob)) rl q2
    | .nd .tup l, ⟨c, vs, e, ob, rl⟩, q2 => exact fin e (.inr (SqT.of ob)) rl q2
/-! ### self.f = e -/
def putNs (f : Str) (ns : List Str) : List Str := if ns.contains f then ns else ns ++ [f]
def putDs (f : Str) (d : D) : List Str → List D → List D
  | n :: ns, e :: es => if n = f then d :: es else e :: putDs f d ns es
  | _, _ => [d]
theorem putF_zip {G : Addr → Prop} {H : Hp} {f : Str} {v : V} {d : D} (rp : Rep G H v d) : ∀ {ns : List Str} {vs : List V} {ds : List D}, ns.length = vs.length → RepL G H vs ds → ∃ ws, putF f v (ns.zip vs) = (putNs f ns).zip ws ∧ (putNs f ns).length = ws.length ∧ RepL G H ws (putDs f d ns ds)
  | [], [], [], _, .nil => ⟨[v], rfl, rfl, .one rp⟩
  | n :: ns, u :: vs, e :: ds, hl, .cons a b => by
    by_cases c : n = f
    · subst c
      refine ⟨v :: vs, ?_, ?_, ?_⟩
      · simp [putF, putNs]
      · simpa [putNs] using hl
      · simp only [putDs, if_true]; exact .cons rp b
    · obtain ⟨ws, h1, h2, h3⟩ := putF_zip rp (ns := ns) (by simpa using hl) b
      have ec : (n :: ns).contains f = ns.contains f := by
        rw [List.contains_cons]
        have : (f == n) = false := by simpa using fun z => c z.symm
        rw [this, Bool.false_or]
      have en : putNs f (n :: ns) = n :: putNs f ns := by
        unfold putNs
        rw [ec]
        split <;> rfl
      refine ⟨u :: ws, ?_, ?_, ?_⟩
      · rw [List.zip_cons_cons, en, List.zip_cons_cons, ← h1]
        simp [putF, c]
      · rw [en]; simpa using h2
      · simp only [putDs, if_neg c]; exact .cons a h3
  | _ :: _, [], _, hl, _ => by simp at hl
  | [], _ :: _, _, hl, _ => by simp at hl
def sSetF (K : PySem.W.Frag) (i : Nat) (tv : TDE) (f : Str) : TDS := fun D δ => tv δ (fun r δ1 => frz δ1 r fun d δ2 => match δ2[i]? with
  | some (.own b a (.ins C ns) ds) => (Cls K C ∧ NoAttr K C f ∧ ns.length < 1000) ∧ D.nx (δ2.set i (.own b a (.ins C (putNs f ns)) (putDs f d ns ds)))
  | _ => False) D.xc
instance i_setF {i : Nat} {tv : TE} {dv : TDE} {f : Str} [a : DR E tv dv] : DS E (sFld K (tVar i) tv f) (sSetF K i dv f) where
  r := fun F σ δ H D Ed hr q k => by
    refine a.r F σ δ H _ _ _ hr q (fun r δ1 v1 H1 q1 R1 f1 p1 => ?_) k.xc
    obtain ⟨d, δ2, rp, R2, f2, q2⟩ := frz_ok p1 R1 q1
    split at q2
    · rename_i b o C ns ds e
      obtain ⟨⟨c1, c2, c3⟩, q2⟩ := q2
      obtain ⟨u, e2, eu, nf, vs, ⟨hl, dx, hb⟩, rl⟩ := R2.sl.getR e
      subst eu
      obtain ⟨ws, h1, h2, h3⟩ := putF_zip (f := f) rp hl rl
      refine ⟨.ref o, e2, o, C, dx, _, rfl, hb, c1, c2, by simp [hl]; omega, ?_⟩
      obtain ⟨R3, f3⟩ := R2.mut (o := .ins C dx (putF f v1 (ns.zip vs))) e h3 (k' := .ins C (putNs f ns)) ⟨h2, dx, by rw [h1]; exact upd_same⟩
      exact k.nx σ _ _ q2 R3 ((f1.trans f2).trans f3)
    · exact q2.elim
end
end L2

set_option Elab.async false
set_option linter.all false
set_option maxRecDepth 100000
set_option maxHeartbeats 1000000
namespace L2
open PySem PySem.Spec PyProof.Rows TL
namespace Dl
section
variable {C : Addr} {sd : DSp}
/-! ### bool of an own instance by its own __len__ -/
def oBoolO (C : Addr) (sd : DSp) : List D → RK → Prop := fun ds Q => match ds with
  | [d] => isIns C d ∧ sd [.d d] (fun r _ => ∃ v, r = rv v ∧ ∃ n : Int, v = .int n ∧ 0 ≤ n ∧ n < 2 ^ 63 ∧ Q (rv (.bl (n != 0)))) noS
  | _ => False
instance v_boolO : DVn (rBoolO C (upS sd)) (oBoolO C sd) where
  r := fun G H xs ds Q Qd gd w q k => match ds, w, q with
    | [d], w, ⟨h1, q⟩ => by
      obtain ⟨x, rfl, ww⟩ := w1 w
      obtain ⟨a, dx, fs, rfl, ha⟩ := isIns_ok ww h1
      exact ⟨a, dx, fs, rfl, ha, up_plain (ds := [d]) w q fun x H' ⟨n, hn, n0, n1, qt⟩ s => ⟨n, hn, n0, n1, k _ _ H' qt s (Rep.v _)⟩⟩
end
end Dl
end L2

set_option Elab.async false
set_option linter.all false
set_option maxRecDepth 100000
set_option maxHeartbeats 1000000
namespace L2
open PySem PySem.Spec PyProof.Rows TL
/-! ### data that says all: one thing reads one way -/
mutual
def pureD : D → Bool
  | .v (.ref _) => false
  | .v _ => true
  | .nd .tup l => pureL l
  | .nd .lst l => pureL l
  | .nd (.ins _ _) l => pureL l
  | .nd _ _ => false
def pureL : List D → Bool
  | [] => true
  | d :: l => pureD d && pureL l
end
theorem zip_inj {α β : Type} : ∀ {a a' : List α} {b b' : List β}, a.length = b.length → a'.length = b'.length → a.zip b = a'.zip b' → a = a' ∧ b = b'
  | [], [], [], [], _, _, _ => ⟨rfl, rfl⟩
  | [], [], [], _ :: _, _, h, _ => by cases h
  | [], [], _ :: _, _, h, _, _ => by cases h
  | [], _ :: _, _, [], _, h, _ => by cases h
  | [], _ :: _, _, _ :: _, _, _, h => by simp at h
  | _ :: _, _, [], _, h, _, _ => by cases h
  | _ :: _, [], _ :: _, _, _, _, h => by simp at h
  | _ :: _, _ :: _, _ :: _, [], _, h, _ => by cases h
  | x :: a, y :: a', u :: b, v :: b', h, h', e => by
    simp only [List.zip_cons_cons, List.cons.injEq, Prod.mk.injEq] at e
    obtain ⟨⟨rfl, rfl⟩, e⟩ := e
    obtain ⟨rfl, rfl⟩ := zip_inj (by simpa using h) (by simpa using h') e
    exact ⟨rfl, rfl⟩
theorem ob_inj {H : Hp} {a : Addr} {k k' : Kd} {vs vs' : List V} {l l' : List D} (h : Ob H a k vs) (h' : Ob H a k' vs') (p : pureD (.nd k l) = true) (p' : pureD (.nd k' l') = true) : k = k' ∧ vs = vs' := by
  cases k <;> cases k' <;> first | (simp [pureD] at p; done) | (simp [pureD] at p'; done) | skip
  all_goals simp only [Ob] at h h'
  · rw [h] at h'; cases h'; exact ⟨rfl, rfl⟩
  · rw [h] at h'; cases h'
  · obtain ⟨_, dx, h'⟩ := h'; rw [h] at h'; cases h'
  · rw [h] at h'; cases h'
  · rw [h] at h'; cases h'; exact ⟨rfl, rfl⟩
  · obtain ⟨_, dx, h'⟩ := h'; rw [h] at h'; cases h'
  · obtain ⟨_, dx, h⟩ := h; rw [h] at h'; cases h'
  · obtain ⟨_, dx, h⟩ := h; rw [h] at h'; cases h'
  · obtain ⟨e, dx, h⟩ := h
    obtain ⟨e', dx', h'⟩ := h'
    rw [h] at h'
    simp only [Option.some.injEq, HO.ins.injEq] at h'
    obtain ⟨rfl, rfl, z⟩ := h'
    obtain ⟨rfl, rfl⟩ := zip_inj e e' z
    exact ⟨rfl, rfl⟩
theorem pure_nd {k : Kd} {l : List D} (p : pureD (.nd k l) = true) : pureL l = true := by
  cases k <;> first | (simpa [pureD] using p) | (simp [pureD] at p)
mutual
theorem rep_inj {G : Addr → Prop} {H : Hp} : ∀ {u : V} {d d' : D}, Rep G H u d → Rep G H u d' → pureD d = true → pureD d' = true → d = d'
  | _, _, _, .v x, .v _, _, _ => rfl
  | _, _, _, .v _, .nd _ _ _, p, _ => by simp [pureD] at p
  | _, _, _, .nd _ _ _, .v _, _, p => by simp [pureD] at p
  | _, _, _, .nd o _ r, .nd o' _ r', p, p' => by
    obtain ⟨rfl, rfl⟩ := ob_inj o o' p p'
    rw [repL_inj r r' (pure_nd p) (pure_nd p')]
theorem repL_inj {G : Addr → Prop} {H : Hp} : ∀ {us : List V} {l l' : List D}, RepL G H us l → RepL G H us l' → pureL l = true → pureL l' = true → l = l'
  | _, _, _, .nil, .nil, _, _ => rfl
  | _, _, _, .cons a r, .cons a' r', p, p' => by
    simp only [pureL, Bool.and_eq_true] at p p'
    rw [rep_inj a a' p.1 p'.1, repL_inj r r' p.2 p'.2]
end
theorem wrep_inj {G : Addr → Prop} {H : Hp} {u : V} {d d' : D} (h : WRep G H u d) (h' : WRep G H u d') (p : pureD d = true) (p' : pureD d' = true) : d = d' := rep_inj h.free h'.free p p'
/-! ### x in a list of own instances, over data -/
section
variable {C : Addr} {sd : DSp}
def inR (sd : DSp) (x : D) (Q : RK) : List D → Prop
  | [] => Q (rv (.bl false))
  | e :: es => (e = x → Q (rv (.bl true))) ∧ sd [.d e, .d x] (fun r _ => ∃ v, r = rv v ∧ ∃ t, v = .bl t ∧ if t = true then Q (rv (.bl true)) else inR sd x Q es) noS
def oInO (C : Addr) (sd : DSp) : D → D → RK → Prop := fun x y Q => match y with
  | .nd .lst es => (isIns C x ∧ pureD x = true) ∧ (∀ e ∈ es, isIns C e ∧ pureD e = true) ∧ inR sd x Q es
  | _ => False
theorem ins_refs {G : Addr → Prop} {H : Hp} : ∀ {vs : List V} {es : List D}, RepL G H vs es → (∀ e ∈ es, isIns C e ∧ pureD e = true) → ∃ bs : List Addr, vs = bs.map V.ref
  | _, _, .nil, _ => ⟨[], rfl⟩
  | _, _, .cons r rs, h => by
    obtain ⟨a, dx, fs, rfl, _⟩ := isIns_ok r.w (h _ List.mem_cons_self).1
    obtain ⟨bs, rfl⟩ := ins_refs rs fun e he => h e (List.mem_cons_of_mem _ he)
    exact ⟨a :: bs, rfl⟩
theorem WRep.same {G : Addr → Prop} {H H' : Hp} {u : V} {d : D} (w : WRep G H u d) (s : Same H H') : WRep (fun _ => False) H' u d := (w.free.imp fun b o e g => ⟨s b o e, g⟩).w
theorem inL_of {K : PySem.W.Frag} {l a : Addr} {bs : List Addr} {x : D} {Q : VK} {Qd : RK} (hx : isIns C x) (px : pureD x = true) : ∀ {es : List D} {ys : List Addr} {H : Hp}, RepL (fun _ => False) H (ys.map V.ref) es → WRep (fun _ => False) H (.ref a) x → SqL K H l (bs.map V.ref) →
    (∀ e ∈ es, isIns C e ∧ pureD e = true) → inR sd x Qd es → (∀ v H', Qd (rv v) → Same H H' → Q v H') → inL K C (upS sd) l a bs Q ys H
  | [], [], H, _, _, hl, _, q, k => ⟨hl, k _ _ q fun _ _ e => e⟩
  | e :: es, y :: ys, H, .cons r rs, w, hl, h, q, k => by
    have he := h e List.mem_cons_self
    refine ⟨hl, ?_⟩
    by_cases c : y = a
    · rw [if_pos c]
      subst c
      exact k _ _ (q.1 (wrep_inj r.w w he.2 px)) fun _ _ e => e
    · rw [if_neg c]
      obtain ⟨a', dx, fs, e1, ha⟩ := isIns_ok w hx
      cases e1
      obtain ⟨y', dy, gs, e2, hy⟩ := isIns_ok r.w he.1
      cases e2
      refine ⟨⟨dx, fs, dy, gs, ha, hy⟩, up_plain (ds := [e, x]) (.cons r.w (.cons w .nil)) q.2 fun v H' ⟨t, ht, qt⟩ s => ⟨t, ht, ?_⟩⟩
      cases t with
      | true => rw [if_pos rfl] at qt ⊢; exact k _ _ qt s
      | false =>
        rw [if_neg (by decide)] at qt ⊢
        exact inL_of hx px (rs.imp fun b o e g => ⟨s b o e, g⟩) (w.same s) (sqL_map (fun b o e => s b o e) hl) (fun e' he' => h e' (List.mem_cons_of_mem _ he')) qt fun v H'' qv s' => k v H'' qv fun b o e => s' b o (s b o e)
instance v_inO {K : PySem.W.Frag} : DV2 (rInO K C (upS sd)) (oInO C sd) where
  r := fun G H x y d e Q Qd gd w1 w2 q k => by
    match e, w2, q with
    | .nd .lst es, ⟨l, vs, e2, hl, rl⟩, ⟨⟨hx, px⟩, he, q⟩ =>
      subst e2
      obtain ⟨a, dx, fs, rfl, ha⟩ := isIns_ok w1 hx
      obtain ⟨bs, rfl⟩ := ins_refs rl he
      exact ⟨a, l, bs, rfl, rfl, inL_of hx px (rl.imp fun b o e g => ⟨e, fun z => z⟩) w1.free.w (SqL.of hl) he q fun v H' qv s => k _ _ H' qv s (Rep.v _)⟩
end
/-! ### x in a list of data -/
def oInD : D → D → RK → Prop := fun x y Q => match y with
  | .nd .lst es => ∃ p ps, x.py = some p ∧ pyL es = some ps ∧ p.canLay0 = true ∧ PyData.canLayAll0 ps = true ∧ p.depth ≤ 60 ∧ Q (rv (.bl (ps.any fun e => PyData.eqv e p)))
  | _ => False
instance v_inD {K : PySem.W.Frag} : DV2 (rInD K false) oInD where
  r := fun G H x y d e Q Qd gd w1 w2 q k => by
    match e, w2, q with
    | .nd .lst es, ⟨l, vs, e2, hl, rl⟩, ⟨p, ps, h1, h2, c1, c2, c3, q⟩ =>
      exact ⟨l, vs, p, ps, e2, .inl (SqL.of hl), w1.dp h1, rl.dp h2, c1, c2, c3, k _ _ H q (Same.refl _) (Rep.v _)⟩
end L2

set_option Elab.async false
set_option linter.all false
set_option maxRecDepth 100000
set_option maxHeartbeats 1000000
namespace L2
open PySem PySem.Spec PyProof.Rows TL
/-! ### a text parted at a sign -/
/-! ### the tape's draws over data -/
end L2

set_option Elab.async false
set_option linter.all false
set_option maxRecDepth 100000
set_option maxHeartbeats 1000000
namespace L2
open PySem PySem.Spec PyProof.Rows TL
/-! ### x[i] = v, x a list of one's own -/
theorem RepL.set {G : Addr → Prop} {H : Hp} {v : V} {d : D} (rp : Rep G H v d) : ∀ {vs : List V} {ds : List D} (j : Nat), RepL G H vs ds → RepL G H (vs.set j v) (ds.set j d)
  | _, _, _, .nil => .nil
  | _, _, 0, .cons _ b => .cons rp b
  | _, _, j + 1, .cons a b => .cons a (RepL.set rp j b)
def gSetL (i : Nat) (tj : TDE) : TDG := fun r δ Q => frz δ r fun d δ1 => ownL δ1 i fun _ _ _ => tj δ1 (fun y δ2 => val δ2 y fun e => match e with
  | .v (.int k) => ownL δ2 i fun f a ds => ∃ j, ixN ds.length k = some j ∧ Q (δ2.set i (.own f a .lst (ds.set j d)))
  | _ => False) noX
instance i_gSubL {i : Nat} {tj : TE} {dj : TDE} [x : DR (fun _ _ _ _ => True) tj dj] : DG (gSub (tVar i) tj rSetL) (gSetL i dj) [] where
  r := fun F σ δ H H0 v r Q Qd hr rp q k => by
    obtain ⟨d, δ1, rp1, R1, f1, q1⟩ := frz_ok rp hr q
    obtain ⟨f, l, ds, vs, e1, e2, e3, rl, q1⟩ := ownL_ok R1 q1
    refine ⟨.ref l, e2, x.r F σ δ1 H _ _ noX R1 q1 (fun y δ2 w H2 q2 R2 f2 p2 => ?_) (fun _ _ _ _ _ _ z => z.elim)⟩
    obtain ⟨e, we, q3⟩ := val_w p2 R2 q2
    match e, we, q3 with
    | .v (.int k'), we, q3 =>
      obtain ⟨f', l', ds', vs', g1, g2, g3, g4, j, hj, q4⟩ := ownL_ok R2 q3
      rw [e2] at g2
      cases g2
      refine ⟨l, vs', k', j, rfl, we, g3, by rw [g4.len]; exact hj, ?_⟩
      have rl' : RepL (Fb F δ2) H2 (vs'.set j v) (ds'.set j d) := RepL.set (rp1.imp f2.mv) j g4
      obtain ⟨R3, f3⟩ := R2.mut (o := .lst (vs'.set j v)) g1 rl' (k' := .lst) upd_same
      exact k σ _ _ q4 R3 (fun δ0 f0 => (((f0.trans f1).trans f2).trans f3)) (fun _ _ => rfl)
/-! ### cuts ahead of a wide statement -/
end L2

set_option Elab.async false
set_option linter.all false
set_option maxRecDepth 100000
set_option maxHeartbeats 1000000
namespace L2
open PySem PySem.Spec PyProof.Rows TL
section
variable {E : XKS} {K : PySem.W.Frag}
/-! ### a walk over a constant tuple of the module -/
def dItC (K : PySem.W.Frag) (g : Addr) : TDI := fun δ Q _ => ∃ ys, (∀ H, SqT K H g ys) ∧ Q ⟨ys.map D.v, fun _ => True⟩ δ
instance (priority := high) i_iTupC {g : Addr} : DI E (iTup K (tC (.ref g))) (dItC K g) where
  r := fun F σ δ H Rr Rd Xd hr q k xo => by
    obtain ⟨ys, hs, q2⟩ := q
    refine ⟨g, rfl, ⟨ys, hs H⟩, k _ ⟨ys.map D.v, fun _ => True⟩ δ H q2 hr .refl fun i F' σ' δ' H' hF R' fr ok' => ?_⟩
    refine ⟨fun hi => ⟨ys, hs H', by simpa using hi⟩, fun d hd => ?_⟩
    have hd : (ys.map D.v)[i]? = some d := hd
    rw [List.getElem?_map] at hd
    cases hw : ys[i]? with
    | none => rw [hw] at hd; cases hd
    | some w =>
      rw [hw] at hd
      cases hd
      refine ⟨⟨ys, w, hs H', hw⟩, fun x H2 ⟨e, hx⟩ => ?_⟩
      subst e
      have := hx ys (hs _)
      rw [hw] at this
      cases this
      exact ⟨Same.refl _, Rep.v _⟩
end
/-! ### a promise over data, asked by a reading over the heap -/
end L2

set_option Elab.async false
set_option linter.all false
set_option maxRecDepth 100000
set_option maxHeartbeats 1000000
namespace L2
open PySem PySem.Spec PyProof.Rows TL
/-! ### dicts over data: keys ints and texts -/
def dkGet : List Key → List D → Key → Option D
  | k' :: ks, d :: ds, k => if k' = k then some d else dkGet ks ds k
  | _, _, _ => none
theorem dkGet_ok {G : Addr → Prop} {H : Hp} {k : Key} : ∀ {ks : List Key} {vs : List V} {ds : List D} {d : D}, RepL G H vs ds → dkGet ks ds k = some d → ∃ v, valV (ks.zip vs) k = some v ∧ Rep G H v d
  | [], _, _, _, _, e => by simp [dkGet] at e
  | _ :: _, _, _, _, .nil, e => by simp [dkGet] at e
  | k' :: ks, _, _, d, .cons (v := v) (vs := vs) a b, e => by
    unfold dkGet at e
    rw [List.zip_cons_cons]
    by_cases h : k' = k
    · rw [if_pos h] at e
      cases e
      exact ⟨v, valV_pos (p := (k', v)) h, a⟩
    · rw [if_neg h] at e
      obtain ⟨w, h1, h2⟩ := dkGet_ok b e
      exact ⟨w, by rw [valV_neg (p := (k', v)) h]; exact h1, h2⟩
theorem dkGet_none {G : Addr → Prop} {H : Hp} {k : Key} : ∀ {ks : List Key} {vs : List V} {ds : List D}, RepL G H vs ds → (valV (ks.zip vs) k).isSome = (dkGet ks ds k).isSome
  | [], _, _, _ => rfl
  | _ :: _, _, _, .nil => rfl
  | k' :: ks, _, _, .cons (v := v) (vs := vs) a b => by
    unfold dkGet
    rw [List.zip_cons_cons]
    by_cases h : k' = k
    · rw [if_pos h, valV_pos (p := (k', v)) h]; rfl
    · rw [if_neg h, valV_neg (p := (k', v)) h]
      exact dkGet_none b
section
variable {E : XKS} {K : PySem.W.Frag}
/-- d[k] -/
def rDG : R2 := fun x y H Q => ∃ a v, x = .ref a ∧ DGet H a y (some v) ∧ Q v H
def oDG : D → D → RK → Prop := fun x y Q => match x, y with
  | .nd (.dk ks) ds, .v y => ∃ k d, y = kV k ∧ dkGet ks ds k = some d ∧ Q (.d d)
  | _, _ => False
instance v_dg : DV2 rDG oDG where
  r := fun G H x y d e Q Qd _ w1 w2 q k => match d, e, w1, w2, q with
    | .nd (.dk ks) ds, .v y', ⟨a, vs, ea, ob, rl⟩, w2, ⟨kk, d, hk, hd, q⟩ => by
      obtain ⟨v, hv, rp⟩ := dkGet_ok rl hd
      refine ⟨a, v, ea, ?_, k _ _ H q (Same.refl _) rp⟩
      have w2 : y = y' := w2
      rw [w2, hk, ← hv]
      exact DGet.k ob.2
instance i_dget {t u : TE} {a b : TDE} [x : DR E t a] [y : DR E u b] : DR E (tDGet t u) (dOp oDG a b) := (inferInstance : DR E (tOp rDG t u) (dOp oDG a b))
/-- k in d, k not in d -/
def rDIn (neg : Bool) : R2 := fun y x H Q => ∃ a o, x = .ref a ∧ DGet H a y o ∧ Q (.bl (if neg then !o.isSome else o.isSome)) H
def oDIn (neg : Bool) : D → D → RK → Prop := fun y x Q => match x, y with
  | .nd (.dk ks) ds, .v y => ∃ k, y = kV k ∧ Q (rv (.bl (if neg then !(dkGet ks ds k).isSome else (dkGet ks ds k).isSome)))
  | _, _ => False
instance v_din {neg : Bool} : DV2 (rDIn neg) (oDIn neg) where
  r := fun G H y x e d Q Qd _ w2 w1 q k => match d, e, w1, w2, q with
    | .nd (.dk ks) ds, .v y', ⟨a, vs, ea, ob, rl⟩, w2, ⟨kk, hk, q⟩ => by
      have w2 : y = y' := w2
      refine ⟨a, _, ea, by rw [w2, hk]; exact DGet.k ob.2, ?_⟩
      rw [dkGet_none rl]
      exact k _ _ H q (Same.refl _) (Rep.v _)
instance i_din {t u : TE} {a b : TDE} [x : DR E t a] [y : DR E u b] : DR E (tDIn t u) (dOp (oDIn false) a b) := (inferInstance : DR E (tOp (rDIn false) t u) (dOp (oDIn false) a b))
instance i_dnin {t u : TE} {a b : TDE} [x : DR E t a] [y : DR E u b] : DR E (tDNotIn t u) (dOp (oDIn true) a b) := (inferInstance : DR E (tOp (rDIn true) t u) (dOp (oDIn true) a b))
/-! ### a display -/
abbrev TDP := En → (List R → List R → En → Prop) → XDK → Prop
class DPs (E : XKS) (trs : List (TE × TE)) (td : outParam TDP) : Prop where
  r : ∀ F σ δ H Q Qd Xd, Rel F σ δ H → td δ Qd Xd → (∀ ks rs δ' ps H', Qd ks rs δ' → Rel F σ δ' H' → Fr δ H δ' H' → RRepL F σ H δ' H' (ps.map (·.1)) ks → RRepL F σ H δ' H' (ps.map (·.2)) rs → Q ps H') → XOk E F δ H Xd → tPairs trs σ H Q
def dpNil : TDP := fun δ Q _ => Q [] [] δ
instance p_nil : DPs E [] dpNil where
  r := fun F σ δ H Q Qd Xd hr q k _ => k [] [] δ [] H q hr .refl .nil .nil
def dpCons (ta tb : TDE) (tr : TDP) : TDP := fun δ Q X => ta δ (fun x δ1 => tb δ1 (fun y δ2 => tr δ2 (fun ks rs δ3 => Q (x.dn :: ks) (y.dn :: rs) δ3) X) X) X
instance p_cons {ta tb : TE} {tr : List (TE × TE)} {da db : TDE} {dr : TDP} [a : DR E ta da] [b : DR E tb db] [c : DPs E tr dr] : DPs E ((ta, tb) :: tr) (dpCons da db dr) where
  r := fun F σ δ H Q Qd Xd hr q k xo => by
    refine a.r F σ δ H _ _ Xd hr q (fun x δ1 v1 H1 q1 R1 f1 p1 => ?_) xo
    refine b.r F σ δ1 H1 _ _ Xd R1 q1 (fun y δ2 v2 H2 q2 R2 f2 p2 => ?_) (xo.step f1)
    refine c.r F σ δ2 H2 _ _ Xd R2 q2 (fun ks rs δ3 ps H3 q3 R3 f3 pk pr => ?_) ((xo.step f1).step f2)
    have f12 := f1.trans f2
    refine k _ _ δ3 _ H3 q3 R3 (f12.trans f3) ?_ ?_
    · exact .cons (p1.mv (f2.trans f3)) (RRepL.mono0 pk fun a h => f12.free h)
    · exact .cons (p2.mv f3) (RRepL.mono0 pr fun a h => f12.free h)
theorem putK_fresh {kvs : List (Key × V)} {k : Key} {v : V} (h : k ∉ kvs.map (·.1)) : putK kvs k v = kvs ++ [(k, v)] := by
  unfold putK
  rw [if_neg]
  intro z
  obtain ⟨p, hp, e⟩ := List.any_eq_true.mp z
  exact h (List.mem_map.mpr ⟨p, hp, of_decide_eq_true e⟩)
theorem mergeK_nd : ∀ {more kvs : List (Key × V)}, (kvs.map (·.1) ++ more.map (·.1)).Nodup → mergeK kvs more = kvs ++ more
  | [], kvs, _ => by simp [mergeK]
  | p :: r, kvs, h => by
    have h1 : p.1 ∉ kvs.map (·.1) := fun z => (List.nodup_append.mp h).2.2 p.1 z p.1 (by simp) rfl
    have e : mergeK kvs (p :: r) = mergeK (putK kvs p.1 p.2) r := rfl
    rw [e, putK_fresh h1, mergeK_nd (more := r) (kvs := kvs ++ [(p.1, p.2)]) (by simpa using h)]
    simp
def dDisp (td : TDP) : TDE := fun δ Q _ => td δ (fun ks rs δ1 => valL δ1 ks fun kds => ∃ kk : List Key, kds = kk.map (fun k => D.v (kV k)) ∧ kk.Nodup ∧ kk.length ≤ 15 ∧ frzL δ1 rs fun ds δ2 => Q (.new (.dk kk) ds) δ2) noX
theorem keys_back {G : Addr → Prop} {H : Hp} : ∀ {vs : List V} {kk : List Key}, WRepL G H vs (kk.map fun k => D.v (kV k)) → vs = kk.map kV
  | [], [], _ => rfl
  | [], _ :: _, w => by cases w
  | _ :: _, [], w => by cases w
  | v :: vs, k :: kk, w => by
    cases w with
    | cons a b =>
      have a : v = kV k := a
      rw [a, keys_back b]
      rfl
theorem zip_back : ∀ {ps : List (V × V)} {kk : List Key}, ps.map (·.1) = kk.map kV → ps = (kk.zip (ps.map (·.2))).map fun kv => (kV kv.1, kv.2)
  | [], [], _ => rfl
  | [], _ :: _, h => by simp at h
  | _ :: _, [], h => by simp at h
  | (u, v) :: ps, k :: kk, h => by
    simp only [List.map_cons, List.cons.injEq] at h
    have := zip_back h.2
    rw [List.map_cons, List.zip_cons_cons, List.map_cons, ← this, ← h.1]
instance i_disp {trs : List (TE × TE)} {td : TDP} [x : DPs E trs td] : DR E (tDisp trs) (dDisp td) where
  r := fun F σ δ H Q Qd Xd hr q k xo => by
    intro p hp
    have R0 := hr.more (Same.new (o := .dK []) hp) hp ⟨_, upd_same⟩
    have hnf := hr.nofb hp
    refine x.r (Fp F p) σ δ _ _ _ noX R0 q (fun ks rs δ1 ps H1 q1 R1 f1 pk pr => ?_) (fun _ _ _ _ _ _ z => z.elim)
    have np : p ∉ owns δ := fun z => hnf (.inr z)
    have e1 : H1 p = some (.dK []) := f1.ex p _ np upd_same
    obtain ⟨kds, wk, kk, hk, hnd, hl, q2⟩ := valL_w pk R1 q1
    obtain ⟨ds, δ2, rl, R2, f2, q3⟩ := frzL_ok pr R1 q2
    subst hk
    have hks := keys_back wk
    have hln : ps.length = kk.length := by
      have := congrArg List.length hks
      simpa using this
    have np2 : p ∉ owns δ2 := fun z => by
      rcases (f1.trans f2).nw p z with z | z
      · exact np z
      · rw [upd_same] at z; cases z
    have ep := zip_back hks
    have hz : (kk.zip (ps.map (·.2))).map (·.1) = kk := by
      rw [List.map_fst_zip]
      rw [List.length_map]; omega
    have hm : mergeK [] (kk.zip (ps.map (·.2))) = kk.zip (ps.map (·.2)) := by
      rw [mergeK_nd (by rw [hz]; simpa using hnd)]
      rfl
    refine ⟨e1, kk.zip (ps.map (·.2)), ep, by rw [List.length_zip, List.length_map]; omega, ?_⟩
    rw [hm]
    have R3 : Rel (Fp F p) σ δ2 (upd H1 p (.dK (kk.zip (ps.map (·.2))))) := R2.updF (.inr rfl) np2
    refine k (.new (.dk kk) ds) δ2 _ _ q3 R3.unp ?_ ?_
    · have f12 := f1.trans f2
      refine ⟨fun a o ha e => ?_, fun a ha => ?_, fun a o e => ?_⟩
      · have hne : a ≠ p := fun z => by subst z; rw [hp] at e; cases e
        rw [upd_ne hne]
        exact f12.ex a o ha ((upd_ne hne).trans e)
      · rcases f12.nw a ha with z | z
        · exact .inl z
        · by_cases hne : a = p
          · subst hne; exact .inr hp
          · rw [upd_ne hne] at z; exact .inr z
      · by_cases hne : a = p
        · subst hne; exact ⟨_, upd_same⟩
        · obtain ⟨o', h'⟩ := f12.dm a o ((upd_ne hne).trans e)
          exact ⟨o', (upd_ne hne).trans h'⟩
    · refine ⟨p, ps.map (·.2), rfl, ⟨by rw [List.length_map]; omega, upd_same⟩, hp, fun z => hnf (.inl z), np2, ?_, R3⟩
      refine rl.imp fun b o e g => ⟨?_, g⟩
      rw [upd_ne (fun z => g (.inl (.inr z)))]
      exact e
/-! ### a text's signs replaced -/
def dRepl (y z : Str) (t : TDE) : TDE := fun δ Q X => t δ (fun x δ1 => val δ1 x fun d => match d with
  | .v (.str a) => a.length + (a.length + 1) * z.length ≤ 16777216 ∧ Q (rv (.str (Txt.replace a y z))) δ1
  | _ => False) X
instance i_repl {y z : Str} {t : TE} {d : TDE} [a : DR E t d] : DR E (tRepl y z t) (dRepl y z d) where
  r := fun F σ δ H Q Qd Xd hr q k xo => by
    refine a.r F σ δ H _ _ Xd hr q (fun x δ1 v1 H1 q1 R1 f1 p1 => ?_) xo
    obtain ⟨d, w, q2⟩ := val_w p1 R1 q1
    match d, w, q2 with
    | .v (.str a), w, ⟨hb, q3⟩ => exact ⟨a, w, hb, k _ δ1 _ H1 q3 R1 f1 (Rep.v _)⟩
end
end L2

set_option Elab.async false
set_option linter.all false
set_option maxRecDepth 100000
set_option maxHeartbeats 1000000
namespace L2
open PySem PySem.Spec PyProof.Rows TL
/-! ### a call whose last argument is a list displayed there: the callee may change it -/
theorem All2.snocR {α β : Type} {R : α → β → Prop} {a : α} : ∀ {l : List α} {m : List β}, All2 R (l ++ [a]) m → ∃ m' b, m = m' ++ [b] ∧ All2 R l m' ∧ R a b
  | [], _, .cons h .nil => ⟨[], _, rfl, .nil, h⟩
  | x :: l, _, .cons h t => by
    obtain ⟨m', b, rfl, h1, h2⟩ := All2.snocR t
    exact ⟨_ :: m', b, rfl, .cons h h1, h2⟩
theorem owns_snoc (δ : En) (s : S) : owns (δ ++ [s]) = owns δ ++ s.adr.toList := by
  have := owns_split δ [] s
  simpa [owns] using this
section
variable {F : Addr → Prop} {σ : St} {δ : En} {H H0 : Hp} {o : Option V}
theorem Rel.cut (h : Rel F (σ ++ [o]) δ H) : ∃ δ' s, δ = δ' ++ [s] ∧ Rel F σ δ' H ∧ (∀ a, Fb F δ' a → Fb F δ a) ∧ ∀ a, a ∈ owns δ' → a ∈ owns δ := by
  obtain ⟨δ', s, rfl, h1, h2⟩ := All2.snocR h.sl
  have sub : ∀ a, a ∈ owns δ' → a ∈ owns (δ' ++ [s]) := fun a z => by rw [owns_snoc]; exact List.mem_append_left _ z
  have fb : ∀ a, Fb F δ' a → Fb F (δ' ++ [s]) a := fun a z => z.imp id (sub a)
  have nd := h.nd
  rw [owns_snoc] at nd
  exact ⟨δ', s, rfl, ⟨h1.imp fun _ _ _ z => z.imp (fun a o e g => ⟨e, fun y => g (fb a y)⟩) (fun _ _ z => z) (fun _ _ _ e => e), (List.nodup_append.mp nd).1, h.fd⟩, fb, sub⟩
def dTmp (sd : DSp) (ta tb : TDE) (tl : TDA) : TDE := fun δ Q X => ta δ (fun x δ1 => tb δ1 (fun y δ2 => tl δ2 (fun rs δ3 => rs.length ≤ sizeLine ∧ frzL δ3 rs fun ds δ4 => ∀ p, p ∉ owns δ4 → dRun sd (δ4 ++ [.own true p .lst ds]) [x.dn, y.dn, .var δ4.length] (fun r δ5 => match r with
  | .d d => Q (.d d) δ5.dropLast
  | .new k l => Q (.new k l) δ5.dropLast
  | .var _ => False) fun _ _ _ => False) X) X) X
theorem RRep.ext {H1 : Hp} {v : V} {r : R} (h : RRep F σ H0 δ H v r) (hn : ∀ k ds, r ≠ .new k ds) {δ' : En} {H' : Hp} (m : ∀ a o, H a = some o → ¬ Fb F δ a → H' a = some o ∧ ¬ Fb F δ' a) : RRep F (σ ++ [o]) H1 δ' H' v r := by
  cases r with
  | d d => exact Rep.imp m h
  | new k ds => exact (hn k ds rfl).elim
  | var i =>
    have h : σ[i]? = some (some v) := h
    show (σ ++ [o])[i]? = some (some v)
    rw [List.getElem?_append_left (List.getElem?_eq_some_iff.mp h).1]
    exact h
end
theorem dn_new (r : R) (k : Kd) (ds : List D) : r.dn ≠ .new k ds := by cases r <;> (intro z; cases z)
instance (priority := high) i_callTmp {E : XKS} {sd : DSp} {t1 t2 : TE} {tl : TA} {d1 d2 : TDE} {dl : TDA} [a : DR E t1 d1] [b : DR E t2 d2] [c : DA E tl dl] : DR E (tCall (upS sd) [] E0 (tCons t1 (tCons t2 (tCons (tLst tl) tNil)))) (dTmp sd d1 d2 dl) where
  r := fun F σ δ H Q Qd Xd hr q k xo => by
    refine a.r F σ δ H _ _ Xd hr q (fun x δ1 v1 H1 q1 R1 f1 p1 => ?_) xo
    refine b.r F σ δ1 H1 _ _ Xd R1 q1 (fun y δ2 v2 H2 q2 R2 f2 p2 => ?_) (xo.step f1)
    refine c.r F σ δ2 H2 _ _ Xd R2 q2 (fun rs δ3 vs H3 ⟨hl, q3⟩ R3 f3 p3 => ⟨by rw [p3.len]; exact hl, fun p hp => ?_⟩) ((xo.step f1).step f2)
    obtain ⟨ds, δ4, rl, R4, f4, q4⟩ := frzL_ok p3 R3 q3
    have np : p ∉ owns δ4 := fun z => R4.nofb hp (.inr z)
    have s5 : Same H3 (upd H3 p (.lst vs)) := Same.new hp
    have m5 : ∀ a o, H3 a = some o → ¬ Fb F δ4 a → upd H3 p (.lst vs) a = some o ∧ ¬ Fb F (δ4 ++ [.own true p .lst ds]) a := fun a o e g => by
      refine ⟨s5 a o e, fun z => ?_⟩
      rcases z with z | z
      · exact g (.inl z)
      · rw [owns_snoc] at z
        rcases List.mem_append.mp z with z | z
        · exact g (.inr z)
        · have : a = p := by simpa [S.adr] using z
          rw [this, hp] at e; cases e
    have R5 : Rel F (σ ++ [some (.ref p)]) (δ4 ++ [.own true p .lst ds]) (upd H3 p (.lst vs)) := by
      refine ⟨(R4.sl.imp fun _ _ _ h => h.imp m5 (fun _ _ z => z) (fun _ _ u e => s5 _ u e)).app (.cons ⟨rfl, fun _ z => R4.nofb hp (.inl z), vs, upd_same, rl.imp m5⟩ .nil), ?_, fun a h => ?_⟩
      · rw [owns_snoc]
        refine List.nodup_append.mpr ⟨R4.nd, by simp [S.adr], fun a ha b hb => ?_⟩
        have : b = p := by simpa [S.adr] using hb
        rw [this]
        rintro rfl
        exact np ha
      · obtain ⟨o, e⟩ := R4.fd a h; exact ⟨o, s5 a o e⟩
    have pp1 := RRep.ext (o := some (.ref p)) (H1 := upd H3 p (.lst vs)) (p1.mv (f2.trans (f3.trans f4)) (H1 := H3)) (dn_new x) m5
    have pp2 := RRep.ext (o := some (.ref p)) (H1 := upd H3 p (.lst vs)) (p2.mv (f3.trans f4) (H1 := H3)) (dn_new y) m5
    have hln : σ.length = δ4.length := R4.sl.len
    have pp3 : RRep F (σ ++ [some (.ref p)]) (upd H3 p (.lst vs)) (δ4 ++ [.own true p .lst ds]) (upd H3 p (.lst vs)) (.ref p) (.var δ4.length) := by
      show (σ ++ [some (.ref p)])[δ4.length]? = _
      rw [← hln]
      simp
    have f14 := f1.trans (f2.trans (f3.trans f4))
    show upS sd ([v1, v2, .ref p] ++ []) _ Q E0
    rw [List.append_nil]
    refine run_ok (.cons pp1 (.cons pp2 (.cons pp3 .nil))) R5 (q4 p np) (fun r δ5 v H6 q5 R6 f6 p6 => ?_) fun _ _ _ _ _ z => z.elim
    obtain ⟨δ', s, rfl, R7, fb, sub⟩ := R6.cut
    have fr : Fr δ H δ' H6 := by
      refine f14.trans ⟨fun a o ha e => ?_, fun a ha => ?_, fun a o e => f6.dm a o (s5 a o e)⟩
      · refine f6.ex a o (fun z => ?_) (s5 a o e)
        rw [owns_snoc] at z
        rcases List.mem_append.mp z with z | z
        · exact ha z
        · have : a = p := by simpa [S.adr] using z
          rw [this, hp] at e; cases e
      · rcases f6.nw a (sub a ha) with z | z
        · rw [owns_snoc] at z
          rcases List.mem_append.mp z with z | z
          · exact .inl z
          · have : a = p := by simpa [S.adr] using z
            rw [this]; exact .inr hp
        · exact .inr (Same.free s5 z)
    have nn : ∀ a, upd H3 p (.lst vs) a = none → H a = none := fun a h => f14.free (Same.free s5 h)
    cases r with
    | d d =>
      have q5 : Qd (.d d) (δ' ++ [s]).dropLast := q5
      rw [List.dropLast_concat] at q5
      exact k _ δ' v H6 q5 R7 fr (Rep.imp (fun a o e g => ⟨e, fun z => g (fb a z)⟩) p6)
    | new kk l =>
      have q5 : Qd (.new kk l) (δ' ++ [s]).dropLast := q5
      rw [List.dropLast_concat] at q5
      obtain ⟨aa, ws, rfl, ob, hn, nf, no, rl6, R8⟩ := p6
      obtain ⟨δ'', s'', e8, R9, _, _⟩ := R8.cut
      have e9 : δ'' = δ' := (List.append_inj' e8 rfl).1.symm
      subst e9
      refine k _ δ'' _ H6 q5 R7 fr ⟨aa, ws, rfl, ob, nn aa hn, nf, fun z => no (sub aa z), rl6.imp fun a o e g => ⟨e, fun z => g ?_⟩, R9⟩
      rcases z with z | z
      · exact .inl z
      · exact .inr (sub a z)
    | var i => exact q5.elim
/-! ### a def that may raise, where it does not -/
instance i_callKc {E : XKS} {sd : DSp} {f : Form} {dvs : List V} {ta tk : TA} {da dk : TDA} [a : DA E ta da] [b : DA E tk dk] : DR E (tCallK (fun vs H Q _ => upS sd vs H Q E0) (formV f dvs) E0 ta tk) (dCallF sd f dvs da dk) := (i_callK : DR E (tCallK (upS sd) (formV f dvs) E0 ta tk) (dCallF sd f dvs da dk))
instance i_callK0c {E : XKS} {sd : DSp} {f : Form} {dvs : List V} {tk : TA} {dk : TDA} [b : DA E tk dk] : DR E (tCallK0 (fun vs H Q _ => upS sd vs H Q E0) (formV f dvs) E0 tk) (dCallF0 sd f dvs dk) := (i_callK0 : DR E (tCallK0 (upS sd) (formV f dvs) E0 tk) (dCallF0 sd f dvs dk))
end L2

set_option Elab.async false
set_option linter.all false
set_option maxRecDepth 100000
set_option maxHeartbeats 1000000
set_option synthInstance.maxHeartbeats 0
set_option synthInstance.maxSize 1000000
namespace L2
open PySem
variable {E : XKS} {K : PySem.W.Frag}
/-! ### text[::-1] over data; the end of a text -/
def dRevS (te : TDE) (tl th ts : TDO) : TDE := fun δ Q X => te δ (fun x δ1 => tl δ1 (fun lo δ2 => th δ2 (fun hi δ3 => ts δ3 (fun st δ4 => val δ4 x fun d => match d with
  | .v (.str z) => lo = none ∧ hi = none ∧ st = some (-1) ∧ z.length ≤ sizeLine ∧ Q (rv (.str (revS z))) δ4
  | _ => False) X) X) X) X
instance i_revS {te : TE} {tl th ts : TO} {de : TDE} {dl dh ds : TDO} [a : DR E te de] [b : DO E tl dl] [c : DO E th dh] [d : DO E ts ds] : DR E (tSl3 rSl3S te tl th ts) (dRevS de dl dh ds) where
  r := fun F σ δ H Q Qd Xd hr q k xo => by
    refine a.r F σ δ H _ _ Xd hr q (fun x δ1 v1 H1 q1 R1 f1 p1 => ?_) xo
    refine b.r F σ δ1 H1 _ _ Xd R1 q1 (fun lo δ2 H2 q2 R2 f2 => ?_) (xo.step f1)
    refine c.r F σ δ2 H2 _ _ Xd R2 q2 (fun hi δ3 H3 q3 R3 f3 => ?_) (xo.step (f1.trans f2))
    refine d.r F σ δ3 H3 _ _ Xd R3 q3 (fun st δ4 H4 q4 R4 f4 => ?_) (xo.step ((f1.trans f2).trans f3))
    obtain ⟨d', w, q5⟩ := val_w (p1.mv ((f2.trans f3).trans f4) (H1 := H4)) R4 (val_dn.mpr q4)
    match d', w, q5 with
    | .v (.str z), w, ⟨e1, e2, e3, hz, q6⟩ =>
      cases w
      exact ⟨e1, e2, e3, z, rfl, hz, k _ δ4 _ H4 q6 R4 (((f1.trans f2).trans f3).trans f4) (.v _)⟩
/-! ### a, b, c = [], [x], y: both lists are one's own -/
theorem par3_new {i j l : Nat} {v1 v2 : V} (ij : i ≠ j) (jl : j ≠ l) (il : i ≠ l) {D σ H}
    (h : tSeq (tAsg (tLst tNil) (gName i)) (tSeq (tAsg (tLst (tCons (tC v1) tNil)) (gName j)) (tAsg (tC v2) (gName l))) D σ H) :
    tPar3 i j l (tCons (tLst tNil) (tCons (tLst (tCons (tC v1) tNil)) (tCons (tC v2) tNil))) D σ H := by
  refine ⟨h.1, fun p hp => ⟨(h.2 p hp).1, fun q hq => ⟨_, _, _, rfl, ?_⟩⟩⟩
  have := (h.2 p hp).2 q hq
  have e : ((σ.set i (some (.ref p))).set j (some (.ref q))).set l (some v2) = ((σ.set l (some v2)).set j (some (.ref q))).set i (some (.ref p)) := by
    rw [List.set_comm (some (V.ref q)) (some v2) jl, List.set_comm (some (V.ref p)) (some v2) il, List.set_comm (some (V.ref p)) (some (V.ref q)) ij]
  rw [← e]
  exact this
instance (priority := high) i_par3new {v1 v2 : V} : DS E (tPar3 1 2 3 (tCons (tLst tNil) (tCons (tLst (tCons (tC v1) tNil)) (tCons (tC v2) tNil)))) (sSeq (sAsg (dLst dNil) (gSet 1)) (sSeq (sAsg (dLst (dCons (dC v1) dNil)) (gSet 2)) (sAsg (dC v2) (gSet 3)))) where
  r := fun F σ δ H D Ed hr q k => par3_new (by decide) (by decide) (by decide) ((inferInstance : DS E (tSeq (tAsg (tLst tNil) (gName 1)) (tSeq (tAsg (tLst (tCons (tC v1) tNil)) (gName 2)) (tAsg (tC v2) (gName 3)))) _).r F σ δ H D Ed hr q k)
end L2

set_option Elab.async false
set_option linter.all false
set_option maxRecDepth 100000
/-! # a def whose first statement is wide -/
namespace L2
open PySem PyProof.Rows
section
variable {P : Program} {w : World} {K : PySem.W.Frag} {mg : Str → Option Value} {base : Heap}
end
end L2

set_option Elab.async false
set_option linter.all false
set_option maxRecDepth 100000
set_option maxHeartbeats 1000000
/-! # defs with defaults that may raise, over data -/
namespace L2
open PySem PySem.Spec PyProof.Rows TL
theorem FunD.okE {P : Program} {w : World} {K : PySem.W.Frag} {mg : Str → Option Value} {base : Heap} {x qual : Str} {st : Stmt} {f : Addr} {fd : FuncData} {N ps : List Str} {k : Nat} {sp : Sp} (F : FunD K x qual st f fd) (S : FnScope N ps (defScope st)) (len : ∀ vs H Q E, sp vs H Q E → vs.length = ps.length)
    (hbody : ∀ (cdv : Value) (A : Around) (outer : List Env) (s : Shared) (H : Hp) (vs : List V) (Q : VK) (E : XK), Room k (A.deeper (envOfC qual (defScope st) s.heap.objs.size f cdv)) → sp vs H Q E →
      ∃ t, PSs ((cxOf (CXE P w) P w K mg base N qual (defScope st) f cdv A outer s H E).xw fun _ => E) (defBody st) t ∧ t { nx := fun _ H' => Q .non H', rt := Q } (start N vs) H) : FnOk P w K mg base (CXE P w) (k + 1) f fd ps sp := by
  obtain ⟨oc, od, dV, kV, doc, pm, an, cdv, ct, osl, rfl, lk, hcd⟩ := F.ex
  refine fn_of lk hcd S len fun A outer s H vs Q E hr hsp => ?_
  obtain ⟨t, h, q⟩ := hbody cdv A outer s H vs Q E hr hsp
  exact ⟨t, h.wishes fun e s z => leaves_fn z, q⟩
variable {P : Program} {w : World} {K : PySem.W.Frag} {mg : Str → Option Value} {base : Heap}
theorem FunD.okXD {x qual : Str} {st : Stmt} {f : Addr} {fd : FuncData} {N ps : List Str} {k : Nat} {sd : DSp} (F : FunD K x qual st f fd) (S' : FnScope N ps (defScope st)) (len : ∀ ss Q X, sd ss Q X → ss.length = ps.length)
    (hbody : ∀ (cdv : Value) (A : Around) (outer : List Env) (s : Shared) (H : Hp) (E : XK), Room k (A.deeper (envOfC qual (defScope st) s.heap.objs.size f cdv)) →
      ∃ t td, PSs ((cxOf (CXE P w) P w K mg base N qual (defScope st) f cdv A outer s H E).xw fun _ => E) (defBody st) t ∧ DS (fun _ => E) t td ∧ ∀ ss Qd Xd, sd ss Qd Xd → ∃ δ0, ss ++ List.replicate (N.length - ss.length) .no = δ0 ∧ td (dEnd ss Qd Xd) δ0) : FnOk P w K mg base (CXE P w) (k + 1) f fd ps (upS sd) := by
  refine F.okE S' (upS_len len) fun cdv A outer s H vs Q E hr h => ?_
  obtain ⟨t, td, h1, h2, h3⟩ := hbody cdv A outer s H E hr
  exact ⟨t, h1, entry (x := h2) h fun ss Qd Xd q => by obtain ⟨δ0, e, q⟩ := h3 ss Qd Xd q; rw [e]; exact q⟩
/-- a promise in two ways -/
theorem FnOk.or {CX : CXT} {k : Nat} {f : Addr} {fd : FuncData} {ps : List Str} {s1 s2 : DSp} (F : FnOk P w K mg base CX k f fd ps (upS s1)) (G : FnOk P w K mg base CX k f fd ps (upS s2)) : FnOk P w K mg base CX k f fd ps (upS fun ss Q X => s1 ss Q X ∨ s2 ss Q X) := by
  have e : ∀ vs H Q E, upS (fun ss Q X => s1 ss Q X ∨ s2 ss Q X) vs H Q E → upS s1 vs H Q E ∨ upS s2 vs H Q E := fun vs H Q E ⟨F, ss, Qd, Xd, rl, lf, h, k1, k2⟩ => h.elim (fun h => .inl ⟨F, ss, Qd, Xd, rl, lf, h, k1, k2⟩) fun h => .inr ⟨F, ss, Qd, Xd, rl, lf, h, k1, k2⟩
  refine ⟨fun vs H Q E h => (e vs H Q E h).elim (F.len vs H Q E) (G.len vs H Q E), fun A outer s H args us vs Q E hr he hb hv hs => ?_⟩
  rcases e _ _ _ _ hs with h | h
  · exact F.run A outer s H args us vs Q E hr he hb hv h
  · exact G.run A outer s H args us vs Q E hr he hb hv h
end L2
namespace L2
open PySem PySem.Spec PyProof.Rows TL
/-! ### list(text) over data -/
def oLstS : List D → RK → Prop := fun ds Q => match ds with
  | [.v (.str z)] => z.length ≤ sizeLine ∧ Q (.new .lst ((tl z).map fun c => NmD ⟨#[c]⟩))
  | _ => False
instance v_lstS : DVn (fun xs H Q => ∃ z : Str, xs = [V.str z] ∧ z.length ≤ sizeLine ∧ ∀ l, H l = none → Q (V.ref l) (upd H l (HO.lst ((tl z).map sg)))) oLstS where
  r := fun G H xs ds Q Qd _ w q k => match ds, w, q with
    | [.v (.str z)], w, q => by
      obtain ⟨y, rfl, ey⟩ := w1 w
      have ey : y = .str z := ey
      subst ey
      refine ⟨z, rfl, q.1, fun p hp => k _ _ _ q.2 (Same.new hp) (new_list ?_ hp)⟩
      have e1 : (tl z).map sg = ((tl z).map fun c => (⟨#[c]⟩ : Str)).map V.str := by rw [List.map_map]; rfl
      have e2 : ((tl z).map fun c => NmD (⟨#[c]⟩ : Str)) = ((tl z).map fun c => (⟨#[c]⟩ : Str)).map NmD := by rw [List.map_map]; rfl
      rw [e1, e2]
      exact repL_txts _
end L2
namespace L2
open PySem PySem.Spec PyProof.Rows TL
/-! ### text.strip and rstrip of signs -/
def rStC (f : Str → Str → Str) : V → List V → Hp → VK → Prop := fun x xs H Q => ∃ a b : Str, x = .str a ∧ xs = [.str b] ∧ a.length ≤ sizeLine ∧ Q (.str (f a b)) H
def oStC (f : Str → Str → Str) : D → List D → RK → Prop := fun d ds Q => match d, ds with
  | .v (.str a), [.v (.str b)] => a.length ≤ sizeLine ∧ Q (rv (.str (f a b)))
  | _, _ => False
instance m_stC {f : Str → Str → Str} : DMt (rStC f) (oStC f) where
  r := fun G H x d xs ds Q Qd _ w wl q k => match d, ds, w, wl, q with
    | .v (.str a), [.v (.str b)], w, wl, q => by
      obtain ⟨y, rfl, ey⟩ := w1 wl
      have ey : y = .str b := ey
      subst ey
      exact ⟨a, b, w, rfl, q.1, k _ _ H q.2 (Same.refl _) (Rep.v _)⟩
end L2

set_option Elab.async false
set_option linter.all false
set_option maxRecDepth 100000
set_option maxHeartbeats 1000000
/-! # try .. except C without a name -/
namespace L2
open PySem PySem.Spec PyProof.Rows TL
def tHand0 (K : PySem.W.Frag) (te : TE) (tsu : TS) (D : Ends) : XKS := fun σ C od H => ∃ Ca, C = .ref Ca ∧ te σ H fun c H1 => Hits K H1 Ca c ∧ tsu D σ H1
def tTry0 (K : PySem.W.Frag) (tb : XKS → TS) (te : TE) (tsu : TS) : TS := fun D σ H => tb (tHand0 K te tsu D) D σ H
section
variable {X : Cx} {te : Expr} {tte : TE} {tb : XKS → TS} {tsu : TS} {body suite : List Stmt} {b0 : Stmt} {hpos pos : Pos}
end
section
variable {E : XKS} {K : PySem.W.Frag}
def sTry0 (K : PySem.W.Frag) (b : TDS) (te : TDE) (su : TDS) : TDS := fun D δ => b { D with xc := fun C fs δ1 => te δ1 (fun c δ2 => (val δ2 c fun d => hitD K C d) ∧ su { D with xc := fun _ _ _ => False } δ2) (fun _ _ _ => False) } δ
instance i_try0 {tb : XKS → TS} {te : TE} {tsu : TS} {db : TDS} {de : TDE} {ds : TDS} [x : ∀ E', DS E' (tb E') db] [y : DR (fun _ _ _ _ => True) te de] [z : DS (fun _ _ _ _ => True) tsu ds] : DS E (tTry0 K tb te tsu) (sTry0 K db de ds) where
  r := fun F σ δ H D Ed hr q k => by
    refine (x (tHand0 K te tsu D)).r F σ δ H D _ hr q ⟨k.nx, k.rt, k.bk, k.ct, ?_⟩
    intro C fs δ1 σ1 H1 od q1 R1 f1 xr
    refine ⟨C, rfl, y.r F σ1 δ1 H1 _ _ _ R1 q1 (fun c δ2 v2 H2 q2 R2 f2 p2 => ?_) fun _ _ _ _ _ _ _ _ _ _ => trivial⟩
    obtain ⟨qh, q3⟩ := q2
    obtain ⟨d, w, hd⟩ := val_w p2 R2 qh
    refine ⟨?_, ?_⟩
    · match d, w, hd with
      | .v (.ref b), w, hd => exact .inl ⟨b, w, hd.1, hd.2⟩
    · have k2 := k.step (f1.trans f2)
      exact z.r F _ _ _ _ _ R2 q3 ⟨k2.nx, k2.rt, k2.bk, k2.ct, fun _ _ _ _ _ _ zz => zz.elim⟩
end
end L2

set_option Elab.async false
set_option linter.all false
set_option maxRecDepth 100000
set_option maxHeartbeats 1000000
/-! # t < u, t and u tuples of two numbers and a tuple of numbers -/
namespace HT
open PySem PyProof.Rows
section
open PySem.SeqAt
open PySem.AutoSeq1 (wpAny_loadPart')
open PySem.MeetsSeq PySem.MeetsSeq2 PySem.MeetsSeq3
end
end HT
namespace HT
open PySem PyProof.Rows PySem.SeqAt
end HT
namespace L2
open PySem PySem.Spec PyProof.Rows TL
def rLtK (K : PySem.W.Frag) : R2 := fun x y H Q => ∃ a b p q i1 i2 j1 j2 ns ms, x = .ref a ∧ y = .ref b ∧ SqT K H a [.int i1, .int i2, .ref p] ∧ SqT K H b [.int j1, .int j2, .ref q] ∧ SqT K H p (ns.map V.int) ∧ SqT K H q (ms.map V.int) ∧ Q (.bl (HT.lexLt (i1 :: i2 :: ns) (j1 :: j2 :: ms))) H
def oLtK : D → D → RK → Prop := fun x y Q => match x, y with
  | .nd .tup [.v (.int i1), .v (.int i2), .nd .tup l1], .nd .tup [.v (.int j1), .v (.int j2), .nd .tup l2] => ∃ ns ms, intL l1 = some ns ∧ intL l2 = some ms ∧ Q (rv (.bl (HT.lexLt (i1 :: i2 :: ns) (j1 :: j2 :: ms))))
  | _, _ => False
theorem rep3 {G : Addr → Prop} {H : Hp} {vs : List V} {i1 i2 : Int} {l1 : List D} (h : RepL G H vs [.v (.int i1), .v (.int i2), .nd .tup l1]) : ∃ p us, vs = [.int i1, .int i2, .ref p] ∧ H p = some (.tup us) ∧ RepL G H us l1 := by
  cases h with
  | cons a h => cases h with
    | cons b h => cases h with
      | cons c h =>
        cases h
        cases a
        cases b
        cases c with
        | nd o g r => exact ⟨_, _, rfl, o, r⟩
instance v_ltK {K : PySem.W.Frag} : DV2 (rLtK K) oLtK where
  r := fun G H x y d e Q Qd _ w1 w2 q k => match d, e, w1, w2, q with
    | .nd .tup [.v (.int i1), .v (.int i2), .nd .tup l1], .nd .tup [.v (.int j1), .v (.int j2), .nd .tup l2], ⟨a, vs, e1, o1, r1⟩, ⟨b, us, e2, o2, r2⟩, ⟨ns, ms, h1, h2, q⟩ => by
      obtain ⟨p, pv, rfl, op, rp⟩ := rep3 r1
      obtain ⟨p2, qv, rfl, oq, rq⟩ := rep3 r2
      rw [intL_ok rp h1] at op
      rw [intL_ok rq h2] at oq
      exact ⟨a, b, p, p2, i1, i2, j1, j2, ns, ms, e1, e2, SqT.of o1, SqT.of o2, SqT.of op, SqT.of oq, k _ _ H q (Same.refl _) (Rep.v _)⟩
/-! ### x in a list of numbers, or not -/
def oNotInN : D → D → RK → Prop := fun x y Q => match x, y with
  | .v (.int i), .nd .lst l => ∃ ns, intL l = some ns ∧ Q (rv (.bl (!ns.contains i)))
  | _, _ => False
theorem inV_ints (i : Int) (ns : List Int) : inV (.int i) (ns.map V.int) = ns.contains i := by
  rw [Bool.eq_iff_iff]
  unfold inV
  rw [List.any_map, List.any_eq_true, List.contains_iff_mem]
  constructor
  · rintro ⟨y, hy, e⟩
    have e : (y == i) = true := e
    rwa [← beq_iff_eq.mp e]
  · intro h
    exact ⟨i, h, (beq_self_eq_true i : (i == i) = true)⟩
instance v_notInN {K : PySem.W.Frag} : DV2 (rIn K true) oNotInN where
  r := fun G H x y d e Q Qd _ w1 w2 q k => match d, e, w1, w2, q with
    | .v (.int i), .nd .lst l, w1, ⟨b, us, e2, o2, r2⟩, ⟨ns, h1, q⟩ => by
      have w1 : x = .int i := w1
      subst w1
      rw [intL_ok r2 h1] at o2
      refine ⟨b, _, e2, .inl (SqL.of o2), rfl, ?_, ?_⟩
      · rw [List.all_eq_true]
        intro v hv
        obtain ⟨j, _, rfl⟩ := List.mem_map.mp hv
        rfl
      · rw [if_pos rfl, inV_ints]
        exact k _ _ H q (Same.refl _) (Rep.v _)
end L2

set_option Elab.async false
set_option linter.all false
set_option maxRecDepth 100000
set_option maxHeartbeats 1000000
/-! # min of a tuple of numbers -/
namespace L2
open PySem PySem.Spec PyProof.Rows TL
section
variable {prog : Program} {w : World} {A : Around} {E : Value → Shared → Prop} {s : Shared} {l : Addr}
end
def rMinT (K : PySem.W.Frag) : List V → Hp → VK → Prop := fun vs H Q => ∃ (a : Addr) (ns : List Int), vs = [V.ref a] ∧ SqT K H a (ns.map V.int) ∧ 0 < ns.length ∧ ∀ m, m ∈ ns → (∀ y, y ∈ ns → m ≤ y) → Q (.int m) H
def oMinT : List D → RK → Prop := fun ds Q => match ds with
  | [.nd .tup l] => ∃ ns, intL l = some ns ∧ 0 < ns.length ∧ ∀ m, m ∈ ns → (∀ y, y ∈ ns → m ≤ y) → Q (rv (.int m))
  | _ => False
instance v_minT {K : PySem.W.Frag} : DVn (rMinT K) oMinT where
  r := fun G H xs ds Q Qd _ w q k => match ds, w, q with
    | [.nd .tup l], w, ⟨ns, h, hn, q⟩ => by
      obtain ⟨x, rfl, a, vs, rfl, ob, rl⟩ := w1 w
      have e := intL_ok rl h
      subst e
      exact ⟨a, ns, rfl, SqT.of ob, hn, fun m h1 h2 => k _ _ H (q m h1 h2) (Same.refl _) (Rep.v _)⟩
end L2

set_option Elab.async false
set_option linter.all false
set_option maxRecDepth 100000
set_option maxHeartbeats 1000000
/-! # zip of two lists or tuples: what is drawn from, said by what a draw does -/
namespace L2
open PySem PySem.Spec PyProof.Rows TL
open PySem.Builtin.SmallTypes (nextOf)
section
variable {prog : Program} {w : World} {A : Around} {E : Value → Shared → Prop} {s : Shared}
end
end L2

set_option Elab.async false
set_option linter.all false
set_option maxRecDepth 100000
set_option maxHeartbeats 1000000
/-! # the draws of a zip -/
namespace L2
open PySem PySem.Spec PyProof.Rows TL
open PySem.Builtin.SmallTypes (nextOf)
section
variable {prog : Program} {w : World} {A : Around} {E : Value → Shared → Prop} {s : Shared} {z TI TO i1 i2 l1 l2 : Addr} {St1 St2 : Nat → Heap → Prop} {xs ys : Array Value} {k : Nat} {a b : Value}
end
end L2
namespace L2
open PySem PySem.Spec PyProof.Rows TL
/-! ### zip of two tuples -/
section
variable {prog : Program} {w : World} {A : Around} {E : Value → Shared → Prop} {s : Shared} {l1 l2 : Addr} {xs ys : Array Value} {Q : Value → Shared → Prop}
end
end L2

set_option Elab.async false
set_option linter.all false
set_option maxRecDepth 100000
set_option maxHeartbeats 1000000
/-! # walks over a zip of two tuples -/
namespace L2
open PySem PySem.Spec PyProof.Rows TL
def ItzT (K : PySem.W.Frag) (a b : Addr) : It :=
  ⟨fun i H => ∃ (us vs : List V) (u v : V), SqT K H a us ∧ SqT K H b vs ∧ us[i]? = some u ∧ vs[i]? = some v,
    fun i H r H' => ∃ T u v, r = .ref T ∧ H T = none ∧ H' = upd H T (.tup [u, v]) ∧ (∀ us, SqT K H a us → us[i]? = some u) ∧ ∀ vs, SqT K H b vs → vs[i]? = some v,
    fun i H => ∃ us vs : List V, SqT K H a us ∧ SqT K H b vs ∧ (us.length ≤ i ∨ vs.length ≤ i)⟩
end L2

namespace L2
open PySem PySem.Spec PyProof.Rows TL
/-! ### zip(a, b), a and b two lists or two tuples -/
def iZipU (K : PySem.W.Frag) (ta : TA) : TI := fun σ H R => ta σ H fun ws H1 => ∃ a b, ws = [.ref a, .ref b] ∧ ((∃ us vs, SqL K H1 a us ∧ SqL K H1 b vs ∧ R (Itz K a b) H1) ∨ ∃ us vs, SqT K H1 a us ∧ SqT K H1 b vs ∧ R (ItzT K a b) H1)
theorem above {n c : Nat} (h : c ∈ [n + 4, n + 2, n + 3, n, n + 1]) : n ≤ c := by
  simp only [List.mem_cons, List.not_mem_nil, or_false] at h
  omega
variable {E : XKS} {K : PySem.W.Frag}
def dZipU (t : TDA) : TDI := fun δ Q X => t δ (fun rs δ1 => match rs with
  | [r, s] => (itOf true r δ1 fun J => itOf true s δ1 fun J' => Q ⟨(J.xs.zip J'.xs).map fun p => .nd .tup [p.1, p.2], fun δ => J.ok δ ∧ J'.ok δ⟩ δ1) ∨ itOf false r δ1 fun J => itOf false s δ1 fun J' => Q ⟨(J.xs.zip J'.xs).map fun p => .nd .tup [p.1, p.2], fun δ => J.ok δ ∧ J'.ok δ⟩ δ1
  | _ => False) X
instance i_iZipU {t : TA} {d : TDA} [a : DA E t d] : DI E (iZipU K t) (dZipU d) where
  r := fun F σ δ H Rr Rd Xd hr q k xo => by
    refine a.r F σ δ H _ _ Xd hr q (fun rs δ1 vs1 H1 q1 R1 f1 p1 => ?_) xo
    match rs, vs1, p1, q1 with
    | [r, s], [v, u], .cons p1 (.cons p2 .nil), q1 =>
      rcases q1 with q1 | q1
      · obtain ⟨l, J, rfl, q2, ok, src⟩ := src_ok p1 R1 q1
        obtain ⟨l2, J2, rfl, q3, ok2, src2⟩ := src_ok p2 R1 q2
        obtain ⟨vs0, ob0, _⟩ := src F σ δ1 H1 (fun _ z => .inl z) R1 Fr.refl.f ok
        obtain ⟨us0, ob1, _⟩ := src2 F σ δ1 H1 (fun _ z => .inl z) R1 Fr.refl.f ok2
        refine ⟨l, l2, rfl, .inl ⟨vs0, us0, SqL.of ob0, SqL.of ob1, k _ _ δ1 H1 q3 R1 f1 fun i F' σ' δ' H' hF R' fr ok' => ?_⟩⟩
        obtain ⟨vs, ob, rl⟩ := src F' σ' δ' H' hF R' fr ok'.1
        obtain ⟨us, ob', rl'⟩ := src2 F' σ' δ' H' hF R' fr ok'.2
        refine ⟨fun hi => ⟨vs, us, SqL.of ob, SqL.of ob', by
          rw [rl.len, rl'.len]
          rw [List.length_map, List.length_zip] at hi
          omega⟩, fun d hd => ?_⟩
        rw [List.getElem?_map] at hd
        cases e : (J.xs.zip J2.xs)[i]? with
        | none => rw [e] at hd; cases hd
        | some d0 =>
          rw [e] at hd
          cases hd
          rw [List.getElem?_zip_eq_some] at e
          obtain ⟨w, hw, rp⟩ := rl.getD e.1
          obtain ⟨w', hw', rp'⟩ := rl'.getD e.2
          refine ⟨⟨vs, us, w, w', SqL.of ob, SqL.of ob', hw, hw'⟩, fun x H2 ⟨T, y, y', e1, e2, e3, e4, e5⟩ => ?_⟩
          have := e4 vs (SqL.of ob)
          rw [hw] at this
          cases this
          have := e5 us (SqL.of ob')
          rw [hw'] at this
          cases this
          subst e1 e3
          exact ⟨Same.new e2, rep_tup R' e2 (.cons rp (.cons rp' .nil))⟩
      · obtain ⟨l, J, rfl, q2, ok, src⟩ := src_ok p1 R1 q1
        obtain ⟨l2, J2, rfl, q3, ok2, src2⟩ := src_ok p2 R1 q2
        obtain ⟨vs0, ob0, _⟩ := src F σ δ1 H1 (fun _ z => .inl z) R1 Fr.refl.f ok
        obtain ⟨us0, ob1, _⟩ := src2 F σ δ1 H1 (fun _ z => .inl z) R1 Fr.refl.f ok2
        refine ⟨l, l2, rfl, .inr ⟨vs0, us0, SqT.of ob0, SqT.of ob1, k _ _ δ1 H1 q3 R1 f1 fun i F' σ' δ' H' hF R' fr ok' => ?_⟩⟩
        obtain ⟨vs, ob, rl⟩ := src F' σ' δ' H' hF R' fr ok'.1
        obtain ⟨us, ob', rl'⟩ := src2 F' σ' δ' H' hF R' fr ok'.2
        refine ⟨fun hi => ⟨vs, us, SqT.of ob, SqT.of ob', by
          rw [rl.len, rl'.len]
          rw [List.length_map, List.length_zip] at hi
          omega⟩, fun d hd => ?_⟩
        rw [List.getElem?_map] at hd
        cases e : (J.xs.zip J2.xs)[i]? with
        | none => rw [e] at hd; cases hd
        | some d0 =>
          rw [e] at hd
          cases hd
          rw [List.getElem?_zip_eq_some] at e
          obtain ⟨w, hw, rp⟩ := rl.getD e.1
          obtain ⟨w', hw', rp'⟩ := rl'.getD e.2
          refine ⟨⟨vs, us, w, w', SqT.of ob, SqT.of ob', hw, hw'⟩, fun x H2 ⟨T, y, y', e1, e2, e3, e4, e5⟩ => ?_⟩
          have := e4 vs (SqT.of ob)
          rw [hw] at this
          cases this
          have := e5 us (SqT.of ob')
          rw [hw'] at this
          cases this
          subst e1 e3
          exact ⟨Same.new e2, rep_tup R' e2 (.cons rp (.cons rp' .nil))⟩
end L2

set_option Elab.async false
set_option linter.all false
set_option maxRecDepth 100000
set_option maxHeartbeats 1000000
/-! # isinstance(x, (t, u)), x of any built-in kind -/
namespace L2
open PySem PySem.Spec PyProof.Rows TL
def rIsiTA (K : PySem.W.Frag) : List V → Hp → VK → Prop := fun xs H Q => ∃ (x : V) (tp : Addr) (ns : List String) (t : Value) (b : Bool), xs = [x, .ref tp] ∧ H tp = some (.tup (ns.map V.ty)) ∧ TyOf K H x t ∧ (∀ C, t ≠ .ref C) ∧ PySem.W.kitAny K t (ns.map Value.type) = some b ∧ Q (.bl b) H
def tysL : List D → Option (List String)
  | [] => some []
  | .v (.ty n) :: r => (tysL r).map (n :: ·)
  | _ => none
theorem tysL_ok {G : Addr → Prop} {H : Hp} : ∀ {ds : List D} {vs : List V} {ns : List String}, RepL G H vs ds → tysL ds = some ns → vs = ns.map V.ty
  | [], _, _, .nil, e => by cases e; rfl
  | .v (.ty n) :: r, _, ns, .cons a b, e => by
    cases a
    have e' : (tysL r).map (n :: ·) = some ns := e
    cases h : tysL r with
    | none => rw [h] at e'; cases e'
    | some zs => rw [h] at e'; cases e'; rw [tysL_ok b h]; rfl
def oIsiTA (K : PySem.W.Frag) : List D → RK → Prop := fun ds Q => match ds with
  | [d, .nd .tup l] => ∃ ns t b, tysL l = some ns ∧ tyD d = some t ∧ PySem.W.kitAny K t (ns.map Value.type) = some b ∧ Q (rv (.bl b))
  | _ => False
theorem tyD_ref {d : D} {t : Value} (h : tyD d = some t) : ∀ C, t ≠ .ref C := by
  intro C e
  subst e
  unfold tyD at h
  split at h <;> cases h
instance v_isiTA {K : PySem.W.Frag} : DVn (rIsiTA K) (oIsiTA K) where
  r := fun G H xs ds Q Qd _ w q k => match ds, w, q with
    | [d, .nd .tup l], w, ⟨ns, t, b, h0, h1, h2, q⟩ => by
      obtain ⟨x, y, rfl, e, a, vs, e', ob, rl⟩ := w2 w
      subst e'
      rw [tysL_ok rl h0] at ob
      exact ⟨x, a, ns, t, b, rfl, ob, tyD_ok e h1, tyD_ref h1, h2, k _ _ H q (Same.refl _) (Rep.v _)⟩
end L2

set_option Elab.async false
set_option linter.all false
set_option maxRecDepth 100000
set_option maxHeartbeats 1000000
/-! # a, b = [], list(x): both lists are one's own -/
namespace L2
open PySem PySem.Spec PyProof.Rows TL
variable {E : XKS} {K : PySem.W.Frag}
theorem par2_list {i j n : Nat} (ni : i ≠ n) {D : Ends} {σ : St} {H : Hp}
    (h : tSeq (tAsg (tLst tNil) (gName i)) (tAsg (tCB (rListOf K) (tCons (tVar n) tNil)) (gName j)) D σ H) :
    tPar i j (tCons (tLst tNil) (tCons (tCB (rListOf K) (tCons (tVar n) tNil)) tNil)) D σ H := by
  refine ⟨h.1, fun p hp => ?_⟩
  obtain ⟨v, hv, p', ys, e, s, q⟩ := h.2 p hp
  rw [List.getElem?_set_ne ni] at hv
  exact ⟨v, hv, p', ys, e, s, fun l hl => ⟨_, _, rfl, q l hl⟩⟩
instance (priority := high) i_par2list : DS E (tPar 4 5 (tCons (tLst tNil) (tCons (tCB (rListOf K) (tCons (tVar 0) tNil)) tNil))) (sSeq (sAsg (dLst dNil) (gSet 4)) (sAsg (dCB oList (dCons (dVar 0) dNil)) (gSet 5))) where
  r := fun F σ δ H D Ed hr q k => par2_list (by decide) ((inferInstance : DS E (tSeq (tAsg (tLst tNil) (gName 4)) (tAsg (tCB (rListOf K) (tCons (tVar 0) tNil)) (gName 5))) _).r F σ δ H D Ed hr q k)
end L2

set_option Elab.async false
set_option linter.all false
set_option maxRecDepth 100000
set_option maxHeartbeats 1000000
/-! # min(xs, default=d), max(xs, default=d) of a list of whole numbers -/
namespace L2
open PySem PySem.Spec PyProof.Rows TL
section
variable {prog : Program} {w : World} {A : Around} {R : Result → Shared → Prop} {I S : Addr} {fp wr : List Addr} {n : Nat} {P : Nat → Value → Prop} {St : Nat → Heap → Prop} {d : Value}
end
section
variable {prog : Program} {w : World} {A : Around} {E : Value → Shared → Prop} {s : Shared} {l : Addr} {d : Value}
end
def rMinD (K : PySem.W.Frag) : List V → Hp → VK → Prop := fun xs H Q => ∃ (a : Addr) (ns : List Int) (z : V), xs = [.ref a, z] ∧ SqL K H a (ns.map V.int) ∧ (ns = [] → Q z H) ∧ ∀ m, m ∈ ns → (∀ y, y ∈ ns → m ≤ y) → Q (.int m) H
def oMinD : List D → RK → Prop := fun ds Q => match ds with
  | [.nd .lst l, .v z] => ∃ ns, intL l = some ns ∧ (ns = [] → Q (rv z)) ∧ ∀ m, m ∈ ns → (∀ y, y ∈ ns → m ≤ y) → Q (rv (.int m))
  | _ => False
instance v_minD {K : PySem.W.Frag} : DVn (rMinD K) oMinD where
  r := fun G H xs ds Q Qd _ w q k => match ds, w, q with
    | [.nd .lst l, .v z], w, ⟨ns, h, q0, q1⟩ => by
      match xs, w with
      | [x, y], .cons w1 (.cons w2 .nil) =>
        obtain ⟨a, vs, rfl, ob, rl⟩ := w1
        have e := intL_ok rl h
        subst e
        have ey : y = z := w2
        subst ey
        exact ⟨a, ns, y, rfl, SqL.of ob, fun h0 => k _ _ H (q0 h0) (Same.refl _) (Rep.v _), fun m h1 h2 => k _ _ H (q1 m h1 h2) (Same.refl _) (Rep.v _)⟩
end L2

set_option Elab.async false
set_option linter.all false
set_option maxRecDepth 100000
set_option maxHeartbeats 1000000
/-! # enumerate(tuple) -/
namespace L2
open PySem PySem.Spec PyProof.Rows TL
open PySem.Builtin.SmallTypes (nextOf)
section
variable {prog : Program} {w : World} {A : Around} {E : Value → Shared → Prop} {s : Shared}
end
def IteT (K : PySem.W.Frag) (a : Addr) : It :=
  ⟨fun i H => ∃ (xs : List V) (x : V), SqT K H a xs ∧ xs[i]? = some x, fun i H v H' => ∃ T x, v = .ref T ∧ H T = none ∧ H' = upd H T (.tup [.int (i : Nat), x]) ∧ ∀ xs, SqT K H a xs → xs[i]? = some x, fun i H => ∃ xs : List V, SqT K H a xs ∧ xs.length ≤ i⟩
def iEnumT (K : PySem.W.Frag) (ta : TA) : TI := fun σ H R => ta σ H fun vs H1 => ∃ a xs, vs = [.ref a] ∧ SqT K H1 a xs ∧ R (IteT K a) H1
def dEnumT (t : TDA) : TDI := fun δ Q X => t δ (fun rs δ1 => match rs with
  | [r] => itOf false r δ1 fun J => Q ⟨J.xs.mapIdx fun i d => .nd .tup [.v (.int (i : Nat)), d], J.ok⟩ δ1
  | _ => False) X
instance i_iEnumT {E : XKS} {K : PySem.W.Frag} {t : TA} {d : TDA} [a : DA E t d] : DI E (iEnumT K t) (dEnumT d) where
  r := fun F σ δ H Rr Rd Xd hr q k xo => by
    refine a.r F σ δ H _ _ Xd hr q (fun rs δ1 vs1 H1 q1 R1 f1 p1 => ?_) xo
    match rs, vs1, p1, q1 with
    | [r], [v], .cons p1 .nil, q1 =>
      obtain ⟨l, J, rfl, q2, ok, src⟩ := src_ok p1 R1 q1
      obtain ⟨vs0, ob0, _⟩ := src F σ δ1 H1 (fun _ z => .inl z) R1 Fr.refl.f ok
      refine ⟨l, vs0, rfl, SqT.of ob0, k _ _ δ1 H1 q2 R1 f1 fun i F' σ' δ' H' hF R' fr ok' => ?_⟩
      obtain ⟨vs, ob, rl⟩ := src F' σ' δ' H' hF R' fr ok'
      refine ⟨fun hi => ⟨vs, SqT.of ob, by rw [rl.len]; simpa using hi⟩, fun d hd => ?_⟩
      rw [List.getElem?_mapIdx] at hd
      cases e : J.xs[i]? with
      | none => rw [e] at hd; cases hd
      | some d0 =>
        rw [e] at hd
        cases hd
        obtain ⟨w, hw, rp⟩ := rl.getD e
        refine ⟨⟨vs, w, SqT.of ob, hw⟩, fun x H2 ⟨T, y, e1, e2, e3, e4⟩ => ?_⟩
        have := e4 vs (SqT.of ob)
        rw [hw] at this
        cases this
        subst e1 e3
        exact ⟨Same.new e2, rep_tup R' e2 (.cons (.v _) (.cons rp .nil))⟩
end L2

set_option Elab.async false
set_option linter.all false
set_option maxRecDepth 100000
set_option maxHeartbeats 4000000
/-! # own instances beside things of built-in kinds: ==, !=, in -/
namespace L2
open PySem PySem.Spec PyProof.Rows TL
open PySem.AutoSeq1 (wpAny_loadPart')
open PySem.MeetsSeq PySem.SeqAt
section
variable (l C dx : Addr) (items : Array Value) (n : Nat) (dd : Option Addr) (sl : Array (Option Value)) (x : Addr)
theorem decO_int (b : Int) (u : Tok) : Meets (Builtin.«int.__eq__» ⟨[.int b u, .ref x], []⟩) (fun _ R s => s.heap.get? x = some (PySem.W.instObj C dx) ∧ R (.ok (.ret .notImplemented)) s) :=
  .of_wp fun _ _ _ _ s k => by obtain ⟨q1, q2, q3, q4, q5⟩ := s; obtain ⟨kx, k⟩ := k; wp_walk using wpAny_loadPart' kx, wpAny_load kx; exact ⟨_, rfl, k⟩
theorem decO_bl (b : Bool) : Meets (Builtin.«int.__eq__» ⟨[.bool b, .ref x], []⟩) (fun _ R s => s.heap.get? x = some (PySem.W.instObj C dx) ∧ R (.ok (.ret .notImplemented)) s) :=
  .of_wp fun _ _ _ _ s k => by obtain ⟨q1, q2, q3, q4, q5⟩ := s; obtain ⟨kx, k⟩ := k; wp_walk using wpAny_loadPart' kx, wpAny_load kx; exact ⟨_, rfl, k⟩
theorem decO_str (b : Str) (u : Tok) : Meets (Builtin.«str.__eq__» ⟨[.str b u, .ref x], []⟩) (fun _ R s => s.heap.get? x = some (PySem.W.instObj C dx) ∧ R (.ok (.ret .notImplemented)) s) :=
  .of_wp fun _ _ _ _ s k => by obtain ⟨q1, q2, q3, q4, q5⟩ := s; obtain ⟨kx, k⟩ := k; wp_walk using wpAny_loadPart' kx, wpAny_load kx; exact ⟨_, rfl, k⟩
theorem decO_list : Meets (Builtin.«list.__eq__» ⟨[.ref l, .ref x], []⟩) (fun _ R s => s.heap.get? l = some { cls := .type "list", dict := dd, data := .seq items n, slots := sl } ∧ s.heap.get? x = some (PySem.W.instObj C dx) ∧ (∀ M : Model, PySem.W.Looks M s.heap (isSubtype (.ref C) (.type "list")) false) ∧ R (.ok (.ret .notImplemented)) s) :=
  .of_wp fun _ _ _ _ s k => by obtain ⟨q1, q2, q3, q4, q5⟩ := s; obtain ⟨kl, kx, ks, k⟩ := k; wp_walk using wpAny_loadPart' kl, wpAny_loadPart' kx, (ks _).here; exact ⟨_, rfl, k⟩
theorem decO_tuple : Meets (Builtin.«tuple.__eq__» ⟨[.ref l, .ref x], []⟩) (fun _ R s => s.heap.get? l = some { cls := .type "tuple", dict := dd, data := .seq items n, slots := sl } ∧ s.heap.get? x = some (PySem.W.instObj C dx) ∧ (∀ M : Model, PySem.W.Looks M s.heap (isSubtype (.ref C) (.type "tuple")) false) ∧ R (.ok (.ret .notImplemented)) s) :=
  .of_wp fun _ _ _ _ s k => by obtain ⟨q1, q2, q3, q4, q5⟩ := s; obtain ⟨kl, kx, ks, k⟩ := k; wp_walk using wpAny_loadPart' kl, wpAny_loadPart' kx, (ks _).here; exact ⟨_, rfl, k⟩
end
theorem sub_of_ne {K : PySem.W.Frag} {C f : Addr} (h : neIn K C f = true) {T : String} (hT : (T == "object") = false) : PySem.W.subIn K (.ref C) (.type T) = some false := by
  unfold neIn at h
  split at h
  · rename_i dd cd sl d2 dt s2 ho hf
    split at h
    · rename_i C' bm k0 k1 k2 k3 n k5 hm hs
      simp only [Bool.and_eq_true, beq_iff_eq, Bool.not_eq_true'] at h
      obtain ⟨⟨⟨⟨⟨rfl, hdel⟩, rfl⟩, hok⟩, he⟩, hne⟩ := h
      have e : PySem.W.clsIn K C' = some cd := by unfold PySem.W.clsIn; rw [ho]
      show PySem.W.mroIn K C' (.type T) = some false
      unfold PySem.W.mroIn
      rw [e]
      have hT' : ¬ T = "object" := by simpa using hT
      simp [hm, List.contains_cons, hT']
    · cases h
  · cases h
/-- a, a thing of a built-in kind, == x, an own thing: its own __eq__ is asked, a's one having declined -/
theorem rc_back {prog : Program} {w : World} {A : Around} {E : Value → Shared → Prop} {s : Shared} {K : PySem.W.Frag} {a : Value} {T i : String} {x C f : Addr} {ox : Obj} {od : Option Obj} {Q : Value → Shared → Prop} (hu : A.units < cLine) (ha : s.TypeIs a T) (X : K.In s.heap) (I : PySem.W.InstAt s.heap x ox C od)
    (hb : PySem.W.subIn K (.ref C) (.type T) = some false) (h1 : Slot T (cmpInfo .Eq).2.1 i) (hc : ∀ R : Value → Shared → Prop, R .notImplemented s → wpAny (model prog w) A (call (.builtin i) [a, .ref x]) R E s)
    (hs : PySem.W.findIn K (.ref C) "__eq__" = some (some (.ref f))) (hf : PySem.W.isFn K (.ref f) = true) (h : wpAny (model prog w) A (call (.ref f) [.ref x, a]) (PySem.W.CmpBack Q) E s) : wpAny (model prog w) A (richCompare .Eq a (.ref x)) Q E s := by
  have two : wpAny (model prog w) A (tryCompare (.ref x) (cmpInfo .Eq).2.2 a) (fun r s' => ∃ v, r = some v ∧ Q v s') E s := by
    unfold tryCompare
    refine wpAny_bind (PySem.W.ifBound_K X I hs hf (wpAny_mono h (fun v s' hv => ?_) fun _ _ e => e))
    cases v <;> first | exact False.elim hv | exact wpAny_pure ⟨_, rfl, hv⟩
  rcases hi : cmpInfo CmpOp.Eq with ⟨sy, fo, ba⟩
  rw [hi] at h1 two
  simp only [richCompare, hi, ha.oneThing_none]
  refine wpAny_holding (wpAny_bind (wpAny_cRoomFor hu ?_))
  refine wpAny_bind (wpAny_typeOf ha (wpAny_bind (I.type.here ?_)))
  rw [show (Value.type T != Value.ref C) = true from rfl]
  simp only [if_true]
  refine wpAny_bind ((PySem.W.looks_subIn X hb).here ?_)
  simp only [Bool.false_eq_true, if_false, Bool.not_false, if_true]
  refine wpAny_bind (m := tryCompare a _ (.ref x)) (wpAny_tryCompare_declines ha h1 (hc _ ⟨rfl, ?_⟩))
  refine wpAny_bind (wpAny_mono two (fun r s' z => ?_) fun _ _ e => e)
  obtain ⟨v, rfl, hq⟩ := z
  exact wpAny_pure hq
/-- a built-in kind that == knows to decline an own thing -/
def plainT : List String := ["int", "bool", "str", "NoneType", "list", "tuple"]
theorem tyof_looks {M : Model} {P : Program} {w : World} {K : PySem.W.Frag} {H : Hp} {h : Heap} {x : V} {u : Value} {t : Value} (hok : HOk P w H h) (e : TyOf K H x t) (hC : ∀ C, t ≠ .ref C) (r : RelV x u) : PySem.W.Looks M h (typeOf u) t := by
  cases e with
  | non => cases (show u = Value.none from r); exact PySem.W.Looks.now
  | bl y => cases (show u = Value.bool y from r); exact PySem.W.Looks.now
  | int i => obtain ⟨k, m⟩ := (show ∃ k, u = Value.int i k from r); cases m; exact PySem.W.Looks.now
  | str y => obtain ⟨k, m⟩ := (show ∃ k, u = Value.str y k from r); cases m; exact PySem.W.Looks.now
  | flt y => obtain ⟨k, m⟩ := (show ∃ k, u = Value.float y k from r); cases m; exact PySem.W.Looks.now
  | @lst a xs ea =>
    cases (show u = Value.ref a from r)
    obtain ⟨_, _, _, _, m⟩ := (show ObjOk P w H h a (.lst xs) from hok a _ ea)
    exact (PySem.W.Looks.ld (part := some headPart) m).andThen .now
  | @frz a ob xs ea =>
    cases (show u = Value.ref a from r)
    obtain ⟨_, _, _, _, _, m⟩ := (show ObjOk P w H h a (.frz ob (.lst xs)) from hok a _ ea)
    exact (PySem.W.Looks.ld (part := some headPart) m).andThen .now
  | @tup a xs ea =>
    cases (show u = Value.ref a from r)
    obtain ⟨_, _, _, o, m1, m2, _⟩ := (show ObjOk P w H h a (.tup xs) from hok a _ ea)
    exact (PySem.W.Looks.ld (part := some headPart) m1).andThen (by rw [m2]; exact .now)
  | @dK a kvs ea =>
    cases (show u = Value.ref a from r)
    obtain ⟨_, _, _, _, _, _, _, m, me, _⟩ := (show ObjOk P w H h a (.dK kvs) from hok a _ ea)
    exact (PySem.W.Looks.ld (part := some headPart) m).andThen (by rw [me.1]; exact .now)
  | @dT a kvs ea =>
    cases (show u = Value.ref a from r)
    obtain ⟨_, _, _, _, _, _, _, m, me, _⟩ := (show ObjOk P w H h a (.dT kvs) from hok a _ ea)
    exact (PySem.W.Looks.ld (part := some headPart) m).andThen (by rw [me.1]; exact .now)
  | ins e cl ha hn htk hm => exact absurd rfl (hC _)
def otherT (T : String) : Prop := ∀ (K : PySem.W.Frag) (C : Addr), PySem.W.notFirst K C (.type T) = true
theorem other_int : otherT "int" := fun _ _ => rfl
theorem other_bl : otherT "bool" := fun _ _ => rfl
theorem other_str : otherT "str" := fun _ _ => rfl
theorem other_non : otherT "NoneType" := fun _ _ => rfl
theorem other_lst : otherT "list" := fun _ _ => rfl
theorem other_tup : otherT "tuple" := fun _ _ => rfl
/-- x == y, x an own thing, y of a built-in kind: x's own __eq__ is asked -/
def rEqOK (K : PySem.W.Frag) (C : Addr) (sp : Sp) : R2 := fun x y H Q => ∃ a dx fs T, x = .ref a ∧ H a = some (.ins C dx fs) ∧ TyOf K H y (.type T) ∧ otherT T ∧ sp [x, y] H (fun v H' => ∃ t, v = .bl t ∧ Q (.bl t) H') E0
def rNeOK (K : PySem.W.Frag) (C : Addr) (sp : Sp) : R2 := fun x y H Q => ∃ a dx fs T, x = .ref a ∧ H a = some (.ins C dx fs) ∧ TyOf K H y (.type T) ∧ otherT T ∧ sp [x, y] H (fun v H' => ∃ t, v = .bl t ∧ Q (.bl (!t)) H') E0
def rEqKO (K : PySem.W.Frag) (C : Addr) (sp : Sp) : R2 := fun x y H Q => ∃ a dx fs T, y = .ref a ∧ H a = some (.ins C dx fs) ∧ TyOf K H x (.type T) ∧ T ∈ plainT ∧ sp [y, x] H (fun v H' => ∃ t, v = .bl t ∧ Q (.bl t) H') E0
section
variable {X : Cx} {k : Nat} {C : Addr} {sp : Sp}
theorem op_eqOK (S : OwnE X.prog X.w X.K X.mg X.base k C sp) (hr : Room k X.A) : OpR X (compareOp .Eq) (rEqOK X.K C sp) := by
  intro pins s σ H x y v u Q I rx ry h
  obtain ⟨a, dx, fs, T, rfl, ha, hT, hO, q⟩ := h
  cases (show v = Value.ref a from rx)
  obtain ⟨f, fd, F, hs, hf, bd, _⟩ := S.ex
  obtain ⟨od, IA⟩ := inst_look I ha
  obtain ⟨m, fr⟩ := I.fr
  show wpAny _ _ (richCompare .Eq (.ref a) u) _ _ s
  refine PySem.W.cmp_K (op := .Eq) hr.units0 fr I.mod.kin IA (tyof_looks I.hok hT (fun _ z => nomatch z) ry) (hO _ _) hs hf ?_
  refine thn (run_fn (vs := [.ref a, y]) F hr bd .nil pass0 I (.cons rfl (.cons ry .nil)) q) fun z s' hz => ?_
  obtain ⟨v, H', I', rv, t, rfl, q'⟩ := hz
  cases (show z = Value.bool t from rv)
  exact ⟨.bl t, H', I', rfl, q'⟩
theorem rc_plain {X : Cx} {C : Addr} {pins : List (Addr × Obj)} {σ : St} {H : Hp} {s : Shared} {A : Around} {E Q : Value → Shared → Prop} {f a dx : Addr} {od : Option Obj} {x : V} {v : Value} {T : String} (hu : A.units < cLine) (I : Inv X pins σ H s) (IA : PySem.W.InstAt s.heap a (PySem.W.instObj C dx) C od) (hn : neIn X.K C f = true)
    (hs : PySem.W.findIn X.K (.ref C) "__eq__" = some (some (.ref f))) (hf : PySem.W.isFn X.K (.ref f) = true) (rx : RelV x v) (hT : TyOf X.K H x (.type T)) (hO : T ∈ plainT) (fin : wpAny (model X.prog X.w) A (call (.ref f) [.ref a, v]) (PySem.W.CmpBack Q) E s) : wpAny (model X.prog X.w) A (richCompare .Eq v (.ref a)) Q E s := by
  have gx := IA.at_
  cases hT with
  | non =>
    cases (show v = Value.none from rx)
    exact rc_back hu rfl I.kIn IA (sub_of_ne hn rfl) PySem.F.slot_NoneType_eq (fun R hq => call_gives PySem.F.slot_NoneType_eq rfl PySem.F.entry_NoneType_eq (PySem.F.args_NoneType_eq_2 _ _) (NoneType___eq___none_ref_0 a) hq) hs hf fin
  | bl y =>
    cases (show v = Value.bool y from rx)
    exact rc_back hu rfl I.kIn IA (sub_of_ne hn rfl) PySem.F.slot_bool_eq (fun R hq => call_meets PySem.F.slot_bool_eq rfl PySem.F.entry_int_eq (PySem.F.args_int_eq_2 _ _) (decO_bl C dx a y) ⟨gx, hq⟩) hs hf fin
  | int i =>
    obtain ⟨t, m⟩ := (show ∃ t, v = Value.int i t from rx)
    cases m
    exact rc_back hu (typeIs_int s i t) I.kIn IA (sub_of_ne hn rfl) PySem.F.slot_int_eq (fun R hq => call_meets PySem.F.slot_int_eq (typeIs_int s i t) PySem.F.entry_int_eq (PySem.F.args_int_eq_2 _ _) (decO_int C dx a i t) ⟨gx, hq⟩) hs hf fin
  | str y =>
    obtain ⟨t, m⟩ := (show ∃ t, v = Value.str y t from rx)
    cases m
    exact rc_back hu (typeIs_str s y t) I.kIn IA (sub_of_ne hn rfl) PySem.F.slot_str_eq (fun R hq => call_meets PySem.F.slot_str_eq (typeIs_str s y t) PySem.F.entry_str_eq (PySem.F.args_str_eq_2 _ _) (decO_str C dx a y t) ⟨gx, hq⟩) hs hf fin
  | flt y => exact absurd hO (by decide)
  | @lst b xs eb =>
    cases (show v = Value.ref b from rx)
    obtain ⟨_, n, _, _, m⟩ := (show ObjOk X.prog X.w H s.heap b (.lst xs) from I.hok b _ eb)
    exact rc_back hu ⟨_, m, rfl⟩ I.kIn IA (sub_of_ne hn rfl) PySem.F.slot_list_eq (fun R hq => call_meets PySem.F.slot_list_eq ⟨_, m, rfl⟩ PySem.F.entry_list_eq (PySem.F.args_list_eq_2 _ _) (decO_list b C dx _ _ _ _ a) ⟨m, gx, fun M => PySem.W.looks_subIn I.kIn (sub_of_ne hn rfl), hq⟩) hs hf fin
  | @frz b ob xs eb =>
    cases (show v = Value.ref b from rx)
    obtain ⟨_, _, n, _, _, m⟩ := (show ObjOk X.prog X.w H s.heap b (.frz ob (.lst xs)) from I.hok b _ eb)
    exact rc_back hu ⟨_, m, rfl⟩ I.kIn IA (sub_of_ne hn rfl) PySem.F.slot_list_eq (fun R hq => call_meets PySem.F.slot_list_eq ⟨_, m, rfl⟩ PySem.F.entry_list_eq (PySem.F.args_list_eq_2 _ _) (decO_list b C dx _ _ _ _ a) ⟨m, gx, fun M => PySem.W.looks_subIn I.kIn (sub_of_ne hn rfl), hq⟩) hs hf fin
  | @tup b xs eb =>
    cases (show v = Value.ref b from rx)
    obtain ⟨_, _, _, ⟨oc, od', odat, osl⟩, m1, m2, n, m3⟩ := (show ObjOk X.prog X.w H s.heap b (.tup xs) from I.hok b _ eb)
    have m2 : oc = .type "tuple" := m2
    have m3 : odat = .seq _ n := m3
    subst m2 m3
    exact rc_back hu ⟨_, m1, rfl⟩ I.kIn IA (sub_of_ne hn rfl) PySem.F.slot_tuple_eq (fun R hq => call_meets PySem.F.slot_tuple_eq ⟨_, m1, rfl⟩ PySem.F.entry_tuple_eq (PySem.F.args_tuple_eq_2 _ _) (decO_tuple b C dx _ n _ _ a) ⟨m1, gx, fun M => PySem.W.looks_subIn I.kIn (sub_of_ne hn rfl), hq⟩) hs hf fin
  | dK eb => exact absurd hO (by decide)
  | dT eb => exact absurd hO (by decide)
theorem op_eqKO (S : OwnE X.prog X.w X.K X.mg X.base k C sp) (hr : Room k X.A) : OpR X (compareOp .Eq) (rEqKO X.K C sp) := by
  intro pins s σ H x y v u Q I rx ry h
  obtain ⟨a, dx, fs, T, rfl, ha, hT, hO, q⟩ := h
  cases (show u = Value.ref a from ry)
  obtain ⟨f, fd, G, hs, hf, bd, _, hn⟩ := S.ex
  obtain ⟨od, IA⟩ := inst_look I ha
  have fin : wpAny (model X.prog X.w) X.A (call (.ref f) [.ref a, v]) (PySem.W.CmpBack (EP X pins σ Q)) X.xe s := by
    refine thn (run_fn (vs := [.ref a, x]) G hr bd .nil pass0 I (.cons rfl (.cons rx .nil)) q) fun z s' hz => ?_
    obtain ⟨v, H', I', rv, t, rfl, q'⟩ := hz
    cases (show z = Value.bool t from rv)
    exact ⟨.bl t, H', I', rfl, q'⟩
  show wpAny _ _ (richCompare .Eq v (.ref a)) _ _ s
  exact rc_plain hr.units0 I IA hn hs hf rx hT hO fin
theorem ne_asks {prog : Program} {w : World} {A : Around} {E : Value → Shared → Prop} {s : Shared} {K : PySem.W.Frag} {x C f : Addr} {b : Value} {ox : Obj} {od : Option Obj} {Q : Fin → Shared → Prop} (hu : A.units < cLine) (X : K.In s.heap) (I : PySem.W.InstAt s.heap x ox C od)
    (hs : PySem.W.findIn K (.ref C) "__eq__" = some (some (.ref f))) (hf : PySem.W.isFn K (.ref f) = true) (h : wpAny (model prog w) A (call (.ref f) [.ref x, b]) (fun v s' => ∃ t, v = .bool t ∧ Q (.done (.ret (.bool (!t)))) s') E s) :
    wpAny (model prog w) A (Builtin.«object.__ne__» ⟨[.ref x, b], []⟩) Q E s := by
  obtain ⟨q1, q2, q3, q4, q5⟩ := s
  unfold Builtin.«object.__ne__»
  repeat (first
    | with_reducible refine wpAny_cRoomFor hu ?_
    | (refine wpAny_bind (m := callSpecialIfBound? (.ref x) (Str.ofString "__eq__") [b]) (PySem.W.ifBound_K X I hs hf (wpAny_mono h (fun v s' hv => ?_) fun _ _ e => e)))
    | wp_step)
  obtain ⟨t, rfl, hq⟩ := hv
  repeat (first | exact hq | exact wpAny_pure hq | exact wpAny_truthy_bool hq | (refine wpAny_bind (m := truthy (.bool _)) (wpAny_truthy_bool ?_)) | wp_step)
theorem op_neOK (S : OwnE X.prog X.w X.K X.mg X.base k C sp) (hr : Room (k + 1) X.A) : OpR X (compareOp .NotEq) (rNeOK X.K C sp) := by
  intro pins s σ H x y v u Q I rx ry h
  obtain ⟨a, dx, fs, T, rfl, ha, hT, hO, q⟩ := h
  cases (show v = Value.ref a from rx)
  obtain ⟨f, fd, G, hs, hf, bd, _, hn⟩ := S.ex
  obtain ⟨od, IA⟩ := inst_look I ha
  have lu : PySem.W.Looks (model X.prog X.w) s.heap (typeOf u) (.type T) := tyof_looks I.hok hT (fun _ z => nomatch z) ry
  have N := ne_of_in I.kIn hn IA.at_ IA.cls
  obtain ⟨o, of, nm, qn, N, bs, hd, sn, sub, ab, col, dd, k0, k1, k2, k3, k5, nw, mN, yv, hx, hc, hC, hN, _, _, _, _, _, hne⟩ := N
  have call : wpAny (model X.prog X.w) X.A.in1 (call (.ref f) [.ref a, u]) (fun v s' => ∃ t, v = .bool t ∧ EP X pins σ Q (.bool (!t)) s') X.xe s := by
    refine thn (run_in1 (vs := [.ref a, y]) G hr bd I (.cons rfl (.cons ry .nil)) q) fun z s' hz => ?_
    obtain ⟨v, H', I', rv, t, rfl, q'⟩ := hz
    cases (show z = Value.bool t from rv)
    exact ⟨t, rfl, .bl (!t), H', I', rfl, q'⟩
  have kin := I.kIn
  show wpAny _ _ (richCompare .NotEq (.ref a) u) _ _ s
  unfold richCompare
  simp only [oneThing_ref]
  refine wpAny_holding (wpAny_bind (wpAny_cRoomFor hr.units0 ?_))
  rw [cmpInfo_NotEq]
  dsimp only
  refine wpAny_bind (IA.type.here (wpAny_bind (lu.here ?_)))
  rw [show (Value.ref C != Value.type T) = true from rfl]
  simp only [if_true]
  have hb : PySem.W.subIn X.K (.type T) (.ref C) = some false := by
    have := hO X.K C
    simpa [PySem.W.notFirst] using this
  refine wpAny_bind ((PySem.W.looks_subIn kin hb).here ?_)
  simp only [Bool.false_eq_true, if_false]
  simp only [tryCompare]
  obtain ⟨hh, g, d, t, os⟩ := s
  refine wpAny_bind (wpAny_bind (wpAny_callSpecialIfBound?_inst hx hc hC hN hne PySem.F.cmp_object.mro PySem.F.cmp_object.ne (wpAny_call (codeAny_call_builtin PySem.F.cmp_object.ne.plain PySem.F.cmpEntry_ne
    (wpAny_check_slot_inst PySem.F.cmpKind_ne PySem.F.cmpSplit_ne (PySem.F.cmpArgs_ne _ _) PySem.F.cmp_object.hasObject hx hc hC
      (ne_asks (A := X.A.in1) (by have := hr.units; show X.A.units + 1 < cLine; omega) kin IA hs hf (wpAny_mono call (fun v s' hv => ?_) fun _ _ e => e)))))))
  obtain ⟨t, rfl, hq⟩ := hv
  first | exact ⟨t, rfl, wpAny_pure hq⟩ | exact ⟨t, rfl, wpAny_pure (wpAny_pure hq)⟩ | exact ⟨t, rfl, hq⟩ | trace_state
open PySem.MeetsSeq2 PySem.SeqRoads2
/-- x in l, from its i-th item on, k more -/
def inG (prog : Program) (w : World) (l : Addr) (x : Value) : Nat → Nat → PySem.Spec
  | 0, i => fun A R s => ∃ its : Array Value, s.heap.IsList l its ∧ its.size ≤ i ∧ R (.ok (.ret (.bool false))) s
  | k + 1, i => fun A R s => ∃ (its : Array Value) (y : Value), s.heap.IsList l its ∧ its[i]? = some y ∧ wpAny (model prog w) A.in1 (eqBool y x) (fun b s' => if b = true then R (.ok (.ret (.bool true))) s' else inG prog w l x k (i + 1) A R s') (fun e s' => R (.error e) s') s
theorem inG_loop {prog : Program} {w : World} {l : Addr} {x : Value} : ∀ k i : Nat, MeetsIn prog w (Builtin.«list.__contains__.loop» ⟨[.ref l, x, rawInt i], []⟩) (inG prog w l x k i)
  | 0, i => by
    intro A R s h
    obtain ⟨hp, g, d, tk, os⟩ := s; obtain ⟨its, hl, hlen, h⟩ := h
    obtain ⟨⟨cls, dd, data, sl⟩, ho, hc, n, hd⟩ := id hl
    simp only at hc hd
    subst hc hd
    wp_walk using wpAny_loadPart' ho
    have hi : its[((i : Nat) : Int).toNat]? = none := by simp; omega
    rw [hi]; wp_walk; exact h
  | k + 1, i => by
    intro A R s h
    obtain ⟨hp, g, d, tk, os⟩ := s; obtain ⟨its, y, hl, hi, h⟩ := h
    obtain ⟨⟨cls, dd, data, sl⟩, ho, hc, n, hd⟩ := id hl
    simp only at hc hd
    subst hc hd
    wp_walk using wpAny_loadPart' ho
    have hi' : its[((i : Nat) : Int).toNat]? = some y := by simpa using hi
    rw [hi']; refine wpAny_bind (wpAny_mono h (fun b s' hb => (?_ : wpAny _ _ _ _ _ _)) fun _ _ e => e)
    cases b with
    | true =>
      rw [if_pos rfl] at hb; wp_walk; exact hb
    | false =>
      rw [if_neg (by decide)] at hb
      have hc : ((i : Int) + 1) = ((i + 1 : Nat) : Int) := by push_cast; rfl
      wp_walk; rw [hc]
      exact ⟨plainId_quiet plain_contains_loop _, codeAny_builtin entry_contains_loop (by rw [Around.under_plainId plain_contains_loop _]; exact inG_loop k (i + 1) A R _ hb)⟩
theorem inG_is {prog : Program} {w : World} {l : Addr} {x : Value} {A : Around} {R : Result → Shared → Prop} {s : Shared} {k i : Nat} (h : inG prog w l x k i A R s) : ∃ its : Array Value, s.heap.IsList l its := by
  cases k with
  | zero => obtain ⟨its, hl, _⟩ := h; exact ⟨its, hl⟩
  | succ k => obtain ⟨its, _, hl, _⟩ := h; exact ⟨its, hl⟩
theorem inG_list {prog : Program} {w : World} {l : Addr} {x : Value} (k : Nat) : MeetsIn prog w (Builtin.«list.__contains__» ⟨[.ref l, x], []⟩) (inG prog w l x k 0) := by
  intro A R s h
  obtain ⟨its, hl⟩ := inG_is h
  obtain ⟨hp, g, d, tk, os⟩ := s
  obtain ⟨⟨cls, dd, data, sl⟩, ho, hc, n, hd⟩ := id hl
  simp only at hc hd
  subst hc hd
  wp_walk using wpAny_loadPart' ho
  exact ⟨plainId_quiet plain_contains_loop _, codeAny_builtin entry_contains_loop (by rw [Around.under_plainId plain_contains_loop _]; exact inG_loop k 0 A R _ h)⟩
theorem has_listG {prog : Program} {w : World} {A : Around} {E : Value → Shared → Prop} {s : Shared} {l : Addr} {x : Value} {P : Bool → Shared → Prop} (k : Nat) (h : inG prog w l x k 0 A (wants (fun v s' => ∃ b, v = .bool b ∧ P b s') E) s) : wpAny (model prog w) A (contains (.ref l) x) P E s := by
  obtain ⟨its, hl⟩ := inG_is h
  obtain ⟨⟨cls, dd, data, sl⟩, ho, hc, n, hd⟩ := id hl
  simp only at hc hd
  subst hc hd
  refine wpAny_contains_slot ⟨_, ho, rfl⟩ PySem.F.slot_list_contains (wpAny_mono (call_meetsIn (Q := fun v s' => ∃ b, v = .bool b ∧ P b s') (E := E) PySem.F.slot_list_contains ⟨_, ho, rfl⟩ PySem.F.entry_list_contains (PySem.F.args_list_contains_2 _ _) (inG_list k) h) (fun v s' hv => ?_) fun _ _ e => e)
  obtain ⟨b, rfl, hq⟩ := hv
  exact wpAny_truthy_bool hq
theorem eqBool_at {prog : Program} {w : World} {A : Around} {E : Value → Shared → Prop} {s : Shared} {y : Value} {a : Addr} {Q : Bool → Shared → Prop} (ne : (y == Value.ref a) = false)
    (h : wpAny (model prog w) A (richCompare .Eq y (.ref a)) (fun v s' => ∃ t, v = .bool t ∧ Q t s') E s) : wpAny (model prog w) A (eqBool y (.ref a)) Q E s := by
  unfold eqBool
  refine wpAny_holding ?_
  rw [ne]
  have go : wpAny (model prog w) A (richCompare .Eq y (.ref a) >>= truthOfDropped) Q E s := by
    refine wpAny_bind (wpAny_mono h (fun v s' hv => ?_) fun _ _ e => e)
    obtain ⟨t, rfl, q⟩ := hv
    exact wpAny_truthy_bool q
  cases y <;> exact go
theorem rel_ne {y : V} {v : Value} {a : Addr} (r : RelV y v) (h : y ≠ .ref a) : (v == Value.ref a) = false := by
  cases y with
  | non => cases (show v = Value.none from r); rfl
  | bl b => cases (show v = Value.bool b from r); rfl
  | int i => obtain ⟨t, m⟩ := (show ∃ t, v = Value.int i t from r); cases m; rfl
  | str i => obtain ⟨t, m⟩ := (show ∃ t, v = Value.str i t from r); cases m; rfl
  | byt i => obtain ⟨t, m⟩ := (show ∃ t, v = Value.bytes i t from r); cases m; rfl
  | flt i => obtain ⟨t, m⟩ := (show ∃ t, v = Value.float i t from r); cases m; rfl
  | ref b =>
    cases (show v = Value.ref b from r)
    have : b ≠ a := fun e => h (by rw [e])
    simpa using this
  | ty n => cases (show v = Value.type n from r); rfl
/-- x in a list of own things and things of built-in kinds -/
def inM (K : PySem.W.Frag) (C : Addr) (sp : Sp) (l a : Addr) (zs : List V) (Q : VK) : List V → Hp → Prop
  | [], H => SqL K H l zs ∧ Q (.bl false) H
  | y :: ys, H => SqL K H l zs ∧ if y = .ref a then Q (.bl true) H else (∃ dx fs, H a = some (.ins C dx fs)) ∧
      ((∃ b dy gs, y = .ref b ∧ H b = some (.ins C dy gs)) ∧ sp [y, .ref a] H (fun v H' => ∃ t, v = .bl t ∧ if t = true then Q (.bl true) H' else inM K C sp l a zs Q ys H') E0 ∨
        (∃ T, TyOf K H y (.type T) ∧ T ∈ plainT) ∧ sp [.ref a, y] H (fun v H' => ∃ t, v = .bl t ∧ if t = true then Q (.bl true) H' else inM K C sp l a zs Q ys H') E0)
def rInM (K : PySem.W.Frag) (C : Addr) (sp : Sp) : R2 := fun x y H Q => ∃ a l zs, x = .ref a ∧ y = .ref l ∧ inM K C sp l a zs Q zs H
theorem has_inM (S : OwnE X.prog X.w X.K X.mg X.base k C sp) (hr : Room (k + 1) X.A) {pins : List (Addr × Obj)} {σ : St} {H : Hp} {s : Shared} {l a : Addr} {zs : List V} {Q : VK} (I : Inv X pins σ H s) (h : inM X.K C sp l a zs Q zs H) : wpAny (model X.prog X.w) X.A (contains (.ref l) (.ref a)) (fun b s' => EP X pins σ Q (.bool b) s') X.xe s := by
  obtain ⟨f, fd, G, hs, hf, bd, _, hn⟩ := S.ex
  refine has_listG zs.length ?_
  have go : ∀ (ys : List V) (i : Nat) (H : Hp) (s : Shared), zs.drop i = ys → Inv X pins σ H s → inM X.K C sp l a zs Q ys H → inG X.prog X.w l (.ref a) ys.length i X.A (wants (fun v s' => ∃ b, v = .bool b ∧ EP X pins σ Q (.bool b) s') X.xe) s := by
    intro ys
    induction ys with
    | nil =>
      intro i H s hd I h
      obtain ⟨its, r, pl, _⟩ := I.list h.1
      refine ⟨_, pl.isList, ?_, _, rfl, .bl false, H, I, rfl, h.2⟩
      have := List.drop_eq_nil_iff.mp hd
      have := r.length
      simp; omega
    | cons y ys ih =>
      intro i H s hd I h
      obtain ⟨its, r, pl, _⟩ := I.list h.1
      have hy : zs[i]? = some y := by
        have e : (zs.drop i)[0]? = some y := by rw [hd]; rfl
        rw [List.getElem?_drop] at e
        simpa using e
      have hd' : zs.drop (i + 1) = ys := by rw [← List.tail_drop, hd]; rfl
      obtain ⟨v, hv, rv⟩ := r.get hy
      refine ⟨_, v, pl.isList, by simpa using hv, ?_⟩
      have h2 := h.2
      by_cases e : y = .ref a
      · subst e
        rw [if_pos rfl] at h2
        cases (show v = Value.ref a from rv)
        refine eqBool_same ?_
        rw [if_pos rfl]
        exact ⟨_, rfl, .bl true, H, I, rfl, h2⟩
      · rw [if_neg e] at h2
        obtain ⟨⟨dx, fs, ha⟩, q⟩ := h2
        obtain ⟨od', IB⟩ := inst_look I ha
        obtain ⟨m, fr⟩ := I.fr
        refine eqBool_at (rel_ne rv e) ?_
        have fin : ∀ (xs : List V) (us : List Value), Vals xs us → sp xs H (fun v H' => ∃ t, v = .bl t ∧ if t = true then Q (.bl true) H' else inM X.K C sp l a zs Q ys H') E0 → wpAny (model X.prog X.w) X.A.in1 (call (.ref f) us) (PySem.W.CmpBack fun v s' => ∃ t, v = .bool t ∧ if t = true then wants (fun v s' => ∃ b, v = .bool b ∧ EP X pins σ Q (.bool b) s') X.xe (.ok (.ret (.bool true))) s' else inG X.prog X.w l (.ref a) ys.length (i + 1) X.A (wants (fun v s' => ∃ b, v = .bool b ∧ EP X pins σ Q (.bool b) s') X.xe) s') X.xe s := by
          intro xs us rv q
          refine thn (run_in1 (vs := xs) G hr bd I rv q) fun z s' hz => ?_
          obtain ⟨v, H', I', rv, t, rfl, q'⟩ := hz
          cases (show z = Value.bool t from rv)
          refine ⟨t, rfl, ?_⟩
          cases t with
          | true =>
            rw [if_pos rfl] at q' ⊢
            exact ⟨_, rfl, .bl true, H', I', rfl, q'⟩
          | false =>
            rw [if_neg (by decide)] at q' ⊢
            exact ih (i + 1) H' s' hd' I' q'
        rcases q with ⟨⟨b, dy, gs, rfl, hb⟩, q⟩ | ⟨⟨T, hT, hO⟩, q⟩
        · obtain ⟨od, IA⟩ := inst_look I hb
          cases (show v = Value.ref b from rv)
          exact PySem.W.cmp_K (op := .Eq) hr.in1.units0 fr I.mod.kin IA IB.type (by simp [PySem.W.notFirst]) hs hf (fin [.ref b, .ref a] _ (.cons rfl (.cons rfl .nil)) q)
        · exact rc_plain hr.in1.units0 I IB hn hs hf rv hT hO (fin [.ref a, y] _ (.cons rfl (.cons rv .nil)) q)
  exact go zs 0 H s rfl I h
theorem op_inM (S : OwnE X.prog X.w X.K X.mg X.base k C sp) (hr : Room (k + 1) X.A) : OpR X (compareOp .In) (rInM X.K C sp) := by
  intro pins s σ H x y v u Q I rx ry h
  obtain ⟨a, l, zs, rfl, rfl, h⟩ := h
  cases (show v = Value.ref a from rx)
  cases (show u = Value.ref l from ry)
  show wpAny (model X.prog X.w) X.A ((do return Value.bool (← contains (.ref l) (.ref a))) : Sem Value) _ _ s
  exact wpAny_bind (wpAny_mono (has_inM S hr I h) (fun b s' hb => wpAny_pure hb) fun _ _ e => e)
def rNotInM (K : PySem.W.Frag) (C : Addr) (sp : Sp) : R2 := fun x y H Q => rInM K C sp x y H (fun v H' => ∃ t, v = .bl t ∧ Q (.bl (!t)) H')
theorem op_notInM (S : OwnE X.prog X.w X.K X.mg X.base k C sp) (hr : Room (k + 1) X.A) : OpR X (compareOp .NotIn) (rNotInM X.K C sp) := by
  intro pins s σ H x y v u Q I rx ry h
  obtain ⟨a, l, zs, rfl, rfl, h⟩ := h
  cases (show v = Value.ref a from rx)
  cases (show u = Value.ref l from ry)
  show wpAny (model X.prog X.w) X.A ((do return Value.bool (!(← contains (.ref l) (.ref a)))) : Sem Value) _ _ s
  refine wpAny_bind (wpAny_mono (has_inM S hr I h) (fun b s' hb => wpAny_pure ?_) fun _ _ e => e)
  obtain ⟨v, H', I', rv, t, rfl, q⟩ := hb
  cases (show Value.bool b = Value.bool t from rv)
  exact ⟨.bl (!b), H', I', rfl, q⟩
/-! ### one rule for == and one for != -/
def rEqU (K : PySem.W.Frag) (C : Addr) (sp : Sp) : R2 := fun x y H Q => rEqO C sp x y H Q ∨ rEqOK K C sp x y H Q ∨ rEqKO K C sp x y H Q
def rNeU (K : PySem.W.Frag) (C : Addr) (sp : Sp) : R2 := fun x y H Q => rNeO C sp x y H Q ∨ rNeOK K C sp x y H Q
theorem op_eqU (S : OwnE X.prog X.w X.K X.mg X.base k C sp) (hr : Room k X.A) : OpR X (compareOp .Eq) (rEqU X.K C sp) := fun pins s σ H x y v u Q I rx ry h => by
  rcases h with h | h | h
  · exact op_eqEO S hr pins s σ H x y v u Q I rx ry h
  · exact op_eqOK S hr pins s σ H x y v u Q I rx ry h
  · exact op_eqKO S hr pins s σ H x y v u Q I rx ry h
theorem op_neU (S : OwnE X.prog X.w X.K X.mg X.base k C sp) (hr : Room (k + 1) X.A) : OpR X (compareOp .NotEq) (rNeU X.K C sp) := fun pins s σ H x y v u Q I rx ry h => by
  rcases h with h | h
  · exact op_neEO S hr pins s σ H x y v u Q I rx ry h
  · exact op_neOK S hr pins s σ H x y v u Q I rx ry h
end
/-! ### over data -/
section
variable {K : PySem.W.Frag} {C : Addr} {sd : DSp}
def tynD : D → Option String
  | .v .non => some "NoneType"
  | .v (.bl _) => some "bool"
  | .v (.int _) => some "int"
  | .v (.str _) => some "str"
  | .nd .lst _ => some "list"
  | .nd .tup _ => some "tuple"
  | _ => none
theorem tynD_of {G : Addr → Prop} {H : Hp} {u : V} {d : D} {T : String} (w : WRep G H u d) (h : tynD d = some T) : TyOf K H u (.type T) := by
  match d, w, h with
  | .v .non, w, h => cases h; cases (show u = _ from w); exact .non
  | .v (.bl b), w, h => cases h; cases (show u = _ from w); exact .bl b
  | .v (.int b), w, h => cases h; cases (show u = _ from w); exact .int b
  | .v (.str b), w, h => cases h; cases (show u = _ from w); exact .str b
  | .nd .lst ds, ⟨a, vs, e, ob, _⟩, h => subst e; cases h; exact .lst ob
  | .nd .tup ds, ⟨a, vs, e, ob, _⟩, h => subst e; cases h; exact .tup ob
theorem tynD_other {d : D} {T : String} (h : tynD d = some T) : otherT T ∧ T ∈ plainT := by
  match d, h with
  | .v .non, h => cases h; exact ⟨other_non, by decide⟩
  | .v (.bl b), h => cases h; exact ⟨other_bl, by decide⟩
  | .v (.int b), h => cases h; exact ⟨other_int, by decide⟩
  | .v (.str b), h => cases h; exact ⟨other_str, by decide⟩
  | .nd .lst ds, h => cases h; exact ⟨other_lst, by decide⟩
  | .nd .tup ds, h => cases h; exact ⟨other_tup, by decide⟩
/-- a thing of a built-in kind -/
def plainK (d : D) : Prop := ∃ T, tynD d = some T
def oEqU (C : Addr) (sd : DSp) : D → D → RK → Prop := fun x y Q =>
  (isIns C x ∧ (isIns C y ∨ plainK y) ∧ sd [.d x, .d y] (fun r _ => ∃ v, r = rv v ∧ ∃ b, v = .bl b ∧ Q (rv (.bl b))) noS) ∨ (plainK x ∧ isIns C y ∧ sd [.d y, .d x] (fun r _ => ∃ v, r = rv v ∧ ∃ b, v = .bl b ∧ Q (rv (.bl b))) noS)
instance v_eqU : DV2 (rEqU K C (upS sd)) (oEqU C sd) where
  r := fun G H x y d e Q Qd gd w1 w2 q k => by
    rcases q with ⟨h1, h2, q⟩ | ⟨⟨T, h1⟩, h2, q⟩
    · obtain ⟨a, dx, fs, rfl, ha⟩ := isIns_ok w1 h1
      have up := up_plain (ds := [d, e]) (Q := fun v H' => ∃ t, v = .bl t ∧ Q (.bl t) H') (.cons w1 (.cons w2 .nil)) q fun x H' ⟨t, ht, qt⟩ s => ⟨t, ht, k _ _ H' qt s (Rep.v _)⟩
      rcases h2 with h2 | ⟨T, h2⟩
      · obtain ⟨b, dy, gs, rfl, hb⟩ := isIns_ok w2 h2
        exact .inl ⟨a, dx, fs, b, dy, gs, rfl, ha, rfl, hb, up⟩
      · exact .inr (.inl ⟨a, dx, fs, T, rfl, ha, tynD_of w2 h2, (tynD_other h2).1, up⟩)
    · obtain ⟨b, dy, gs, rfl, hb⟩ := isIns_ok w2 h2
      have up := up_plain (ds := [e, d]) (Q := fun v H' => ∃ t, v = .bl t ∧ Q (.bl t) H') (.cons w2 (.cons w1 .nil)) q fun x H' ⟨t, ht, qt⟩ s => ⟨t, ht, k _ _ H' qt s (Rep.v _)⟩
      exact .inr (.inr ⟨b, dy, gs, T, rfl, hb, tynD_of w1 h1, (tynD_other h1).2, up⟩)
def oNeU (C : Addr) (sd : DSp) : D → D → RK → Prop := fun x y Q => isIns C x ∧ (isIns C y ∨ plainK y) ∧ sd [.d x, .d y] (fun r _ => ∃ v, r = rv v ∧ ∃ b, v = .bl b ∧ Q (rv (.bl (!b)))) noS
instance v_neU : DV2 (rNeU K C (upS sd)) (oNeU C sd) where
  r := fun G H x y d e Q Qd gd w1 w2 q k => by
    obtain ⟨h1, h2, q⟩ := q
    obtain ⟨a, dx, fs, rfl, ha⟩ := isIns_ok w1 h1
    have up := up_plain (ds := [d, e]) (Q := fun v H' => ∃ t, v = .bl t ∧ Q (.bl (!t)) H') (.cons w1 (.cons w2 .nil)) q fun x H' ⟨t, ht, qt⟩ s => ⟨t, ht, k _ _ H' qt s (Rep.v _)⟩
    rcases h2 with h2 | ⟨T, h2⟩
    · obtain ⟨b, dy, gs, rfl, hb⟩ := isIns_ok w2 h2
      exact .inl ⟨a, dx, fs, b, dy, gs, rfl, ha, rfl, hb, up⟩
    · exact .inr ⟨a, dx, fs, T, rfl, ha, tynD_of w2 h2, (tynD_other h2).1, up⟩
def inRM (C : Addr) (sd : DSp) (x : D) (Q : RK) : List D → Prop
  | [] => Q (rv (.bl false))
  | e :: es => (e = x → Q (rv (.bl true))) ∧ ((isIns C e ∧ pureD e = true ∧ sd [.d e, .d x] (fun r _ => ∃ v, r = rv v ∧ ∃ t, v = .bl t ∧ if t = true then Q (rv (.bl true)) else inRM C sd x Q es) noS) ∨
      (plainK e ∧ sd [.d x, .d e] (fun r _ => ∃ v, r = rv v ∧ ∃ t, v = .bl t ∧ if t = true then Q (rv (.bl true)) else inRM C sd x Q es) noS))
def oInM (C : Addr) (sd : DSp) : D → D → RK → Prop := fun x y Q => match y with
  | .nd .lst es => (isIns C x ∧ pureD x = true) ∧ inRM C sd x Q es
  | _ => False
theorem plain_ref {G : Addr → Prop} {H : Hp} {a : Addr} {dx : Addr} {fs : List (Str × V)} {d : D} (w : WRep G H (.ref a) d) (ha : H a = some (.ins C dx fs)) (h : plainK d) : False := by
  obtain ⟨T, h⟩ := h
  match d, w, h with
  | .v .non, w, h => cases (show V.ref a = _ from w)
  | .v (.bl b), w, h => cases (show V.ref a = _ from w)
  | .v (.int b), w, h => cases (show V.ref a = _ from w)
  | .v (.str b), w, h => cases (show V.ref a = _ from w)
  | .nd .lst ds, ⟨b, vs, e, ob, _⟩, h => cases e; have ob : H a = _ := ob; rw [ha] at ob; cases ob
  | .nd .tup ds, ⟨b, vs, e, ob, _⟩, h => cases e; have ob : H a = _ := ob; rw [ha] at ob; cases ob
theorem inM_of {l a : Addr} {zs : List V} {x : D} {Q : VK} {Qd : RK} (hx : isIns C x) (px : pureD x = true) : ∀ {es : List D} {ys : List V} {H : Hp}, RepL (fun _ => False) H ys es → WRep (fun _ => False) H (.ref a) x → SqL K H l zs →
    inRM C sd x Qd es → (∀ v H', Qd (rv v) → Same H H' → Q v H') → inM K C (upS sd) l a zs Q ys H
  | [], [], H, _, _, hl, q, k => ⟨hl, k _ _ q fun _ _ e => e⟩
  | e :: es, y :: ys, H, .cons r rs, w, hl, q, k => by
    refine ⟨hl, ?_⟩
    obtain ⟨a', dx, fs, e1, ha⟩ := isIns_ok w hx
    cases e1
    have next : ∀ {H' : Hp} {t : Bool}, (if t = true then Qd (rv (.bl true)) else inRM C sd x Qd es) → Same H H' → if t = true then Q (.bl true) H' else inM K C (upS sd) l a zs Q ys H' := by
      intro H' t qt s
      cases t with
      | true => rw [if_pos rfl] at qt ⊢; exact k _ _ qt s
      | false =>
        rw [if_neg (by decide)] at qt ⊢
        exact inM_of hx px (rs.imp fun b o e g => ⟨s b o e, g⟩) (w.same s) (sqL_map (fun b o e => s b o e) hl) qt fun v H'' qv s' => k v H'' qv fun b o e => s' b o (s b o e)
    by_cases c : y = .ref a
    · rw [if_pos c]
      subst c
      rcases q.2 with ⟨_, pe, _⟩ | ⟨pk, _⟩
      · exact k _ _ (q.1 (wrep_inj r.w w pe px)) fun _ _ e => e
      · exact (plain_ref r.w ha pk).elim
    · rw [if_neg c]
      refine ⟨⟨dx, fs, ha⟩, ?_⟩
      rcases q.2 with ⟨he, pe, q⟩ | ⟨⟨T, pk⟩, q⟩
      · obtain ⟨b, dy, gs, rfl, hb⟩ := isIns_ok r.w he
        exact .inl ⟨⟨b, dy, gs, rfl, hb⟩, up_plain (ds := [e, x]) (.cons r.w (.cons w .nil)) q fun v H' ⟨t, ht, qt⟩ s => ⟨t, ht, next qt s⟩⟩
      · exact .inr ⟨⟨T, tynD_of r.w pk, (tynD_other pk).2⟩, up_plain (ds := [x, e]) (.cons w (.cons r.w .nil)) q fun v H' ⟨t, ht, qt⟩ s => ⟨t, ht, next qt s⟩⟩
instance v_inM : DV2 (rInM K C (upS sd)) (oInM C sd) where
  r := fun G H x y d e Q Qd gd w1 w2 q k => by
    match e, w2, q with
    | .nd .lst es, ⟨l, vs, e2, hl, rl⟩, ⟨⟨hx, px⟩, q⟩ =>
      subst e2
      obtain ⟨a, dx, fs, rfl, ha⟩ := isIns_ok w1 hx
      exact ⟨a, l, vs, rfl, rfl, inM_of hx px (rl.imp fun b o e g => ⟨e, fun z => z⟩) w1.free.w (SqL.of hl) q fun v H' qv s => k _ _ H' qv s (Rep.v _)⟩
def oNotInM (C : Addr) (sd : DSp) : D → D → RK → Prop := fun x y Q => match y with
  | .nd .lst es => (isIns C x ∧ pureD x = true) ∧ inRM C sd x (fun r => ∃ t, r = rv (.bl t) ∧ Q (rv (.bl (!t)))) es
  | _ => False
instance v_notInM : DV2 (rNotInM K C (upS sd)) (oNotInM C sd) where
  r := fun G H x y d e Q Qd gd w1 w2 q k => by
    match e, w2, q with
    | .nd .lst es, ⟨l, vs, e2, hl, rl⟩, ⟨⟨hx, px⟩, q⟩ =>
      subst e2
      obtain ⟨a, dx, fs, rfl, ha⟩ := isIns_ok w1 hx
      exact ⟨a, l, vs, rfl, rfl, inM_of hx px (rl.imp fun b o e g => ⟨e, fun z => z⟩) w1.free.w (SqL.of hl) q fun v H' ⟨t, et, qv⟩ s => ⟨t, (by cases et; rfl), k _ _ H' qv s (Rep.v _)⟩⟩
end
end L2

set_option Elab.async false
set_option linter.all false
set_option maxRecDepth 100000
set_option maxHeartbeats 1000000
/-! # C(..), where __init__ may raise; by places or by names -/
namespace L2
open PySem PySem.Spec PyProof.Rows TL
section
variable {X : Cx} {j k : Nat} {f C : Addr} {fd : FuncData} {ps ks : List Str} {sp : Sp} {E : XKS} {x : Str} {p pos : Pos} {e : Expr} {es : List Expr} {kws : List Keyword} {t tk : TA}
def tMakeX (C : Addr) (sp : Sp) (E : XKS) (t : TA) : TE := fun σ H Q => t σ H fun vs H1 => ∀ x dx, H1 x = none → H1 dx = none → dx ≠ x → sp (.ref x :: vs) (upd (upd H1 dx (.own x)) x (.ins C dx [])) (fun v H2 => v = .non ∧ Q (.ref x) H2) (E σ)
end
/-! ### over data -/
def dMakeX (C : Addr) (sd : DSp) (t : TDA) : TDE := fun δ Q X => t δ (fun rs δ1 => frzL δ1 rs fun ds δ2 => ∀ a, sd (.own false a (.ins C []) [] :: ds.map S.d) (fun r ss' => r = rv .non ∧ ∃ k es rest, ss' = .own false a k es :: rest ∧ Q (.new k es) δ2) (fun U fs ss' => X U fs δ2)) X
instance i_makeX {E : XKS} {C : Addr} {sd : DSp} {t : TA} {dt : TDA} [b : DA E t dt] : DR E (tMakeX C (upS sd) E t) (dMakeX C sd dt) where
  r := fun F σ δ H Q Qd Xd hr q k xo => by
    refine b.r F σ δ H _ _ Xd hr q (fun rs δ1 vs H1 q1 R1 f1 p1 x dx hx hdx ne => ?_) xo
    obtain ⟨ds, δ2, rl, R2, f2, q2⟩ := frzL_ok p1 R1 q1
    have f12 := f1.trans f2
    have s : Same H1 (upd (upd H1 dx (.own x)) x (.ins C dx [])) := (Same.new hdx).trans (Same.new (by rw [upd_ne ne.symm]; exact hx))
    have eo : owns (.own false x (.ins C []) [] :: ds.map S.d) = [x] := by rw [owns_cons, owns_d]; rfl
    have rel0 : Rel (fun b => Fb F δ2 b ∨ b = x) ((V.ref x :: vs).map some) (.own false x (.ins C []) [] :: ds.map S.d) (upd (upd H1 dx (.own x)) x (.ins C dx [])) := by
      refine ⟨.cons ⟨rfl, fun z => (by cases z), [], ⟨rfl, dx, upd_same⟩, .nil⟩ ?_, by rw [eo]; simp, fun b z => ?_⟩
      · have gen : ∀ G' : Addr → Prop, (∀ b, G' b → Fb F δ2 b ∨ b = x) → ∀ {vs : List V} {ds : List D}, RepL (Fb F δ2) H1 vs ds → All2 (SRel (fun b => Fb F δ2 b ∨ b = x) G' (upd (upd H1 dx (.own x)) x (.ins C dx []))) (vs.map some) (ds.map S.d) := by
          intro G' hG vs ds rl
          induction vs generalizing ds with
          | nil => cases rl; exact .nil
          | cons v r ih =>
            cases rl with
            | cons rp rr =>
              refine .cons ⟨v, rfl, rp.imp fun b o e g => ⟨s _ _ e, fun z => ?_⟩⟩ (ih rr)
              rcases hG b z with z | z
              · exact g z
              · subst z; rw [e] at hx; cases hx
        exact gen _ (fun b z => z.elim id fun z => .inr (by rw [eo] at z; simpa using z)) rl
      · rcases z with z | z
        · obtain ⟨o, e⟩ := R2.gd b z; exact ⟨o, s _ _ e⟩
        · subst z; exact ⟨_, upd_same⟩
    have same' : ∀ {ss' : List S} {H' : Hp}, Fr (.own false x (.ins C []) [] :: ds.map S.d) (upd (upd H1 dx (.own x)) x (.ins C dx [])) ss' H' → Same H1 H' := fun fr b o e => fr.ex b o (by rw [eo]; intro z; rw [List.mem_singleton.mp z, hx] at e; cases e) (s _ _ e)
    refine ⟨_, _, _, _, rel0, fun b z => .inr (by rw [eo] at z; simpa using z), q2 x, ?_, ?_⟩
    · intro r ss' v H' ⟨hr', kk, es, rest, hs, q3⟩ rl' fr bk rt
      subst hr' hs
      have ev : v = .non := by cases rt; rfl
      refine ⟨ev, ?_⟩
      have s' := same' fr
      have hsl := rl'.sl
      cases hsl with
      | cons s1 _ =>
        obtain ⟨_, _, ws, ob, rw'⟩ := s1
        have oo : OpOut (Fb F δ2) H1 H' (.ref x) (.new kk es) := ⟨x, ws, rfl, hx, ob, rw'.imp fun b o e g => ⟨e, fun z => g (.inl z)⟩⟩
        exact k _ δ2 _ H' q3 (R2.same s') (f12.trans (.same s')) ((oo.out s' R2).tr f12)
    · intro U fs ss' od H' q3 rl' fr bk ⟨d, vs', e1, e2, g, rr⟩
      have s' := same' fr
      exact xo U fs δ2 σ H' od q3 (R2.same s') (f12.trans (.same s')) ⟨d, vs', e1, e2, fun z => g (.inl (.inl z)), rr.imp fun b o e g => ⟨e, fun z => g (.inl (.inl z))⟩⟩
/-! # C(..) in its forms: by places, by names, defaults left out; the things handed in are lent or given -/
/-- a form of the call, the new thing apart -/
def FormM (K : PySem.W.Frag) (fd : FuncData) (ps : List Str) (dus : List Value) (F : Form) : Prop :=
  ∀ (s : Shared) (o : Value) (us ws : List Value), K.In s.heap → us.length = F.1 → ws.length = F.2.1.length → BindsTo s fd ⟨o :: us, F.2.1.zip ws⟩ (ps.zip (o :: F.2.2.map fun i => (us ++ ws ++ dus).getD i .none))
def AllM (K : PySem.W.Frag) (fd : FuncData) (ps : List Str) (dus : List Value) : List Form → Prop
  | [] => True
  | f :: r => FormM K fd ps dus f ∧ AllM K fd ps dus r
theorem AllM.at {K : PySem.W.Frag} {fd : FuncData} {ps : List Str} {dus : List Value} : ∀ {fs : List Form} {i : Nat} {F : Form}, AllM K fd ps dus fs → fs[i]? = some F → FormM K fd ps dus F
  | [], _, _, _, e => by simp at e
  | f :: r, 0, F, h, e => by simp at e; subst e; exact h.1
  | f :: r, i + 1, F, h, e => AllM.at (fs := r) h.2 (by simpa using e)
theorem form_rel {dvs : List V} {dus : List Value} {F : Form} (hd : Vals dvs dus) {vs zs : List V} {us ws : List Value} (r1 : Vals vs us) (r2 : Vals zs ws) : Vals (formV F dvs vs zs) (formU F dus us ws) := by
  unfold formU formV
  rw [r1.length, r2.length]
  cases (us.length == F.1 && ws.length == F.2.1.length) with
  | false => exact .nil
  | true =>
    have h := vals_app (vals_app r1 r2) hd
    simp only [cond_true]
    induction F.2.2 with
    | nil => exact .nil
    | cons i t ih => exact .cons (valsD_getD h i) ih
structure MakeF (P : Program) (w : World) (K : PySem.W.Frag) (mg : Str → Option Value) (base : Heap) (k : Nat) (x : Str) (C : Addr) (ps : List Str) (sp : Sp) (dvs : List V) (fs : List Form) : Prop where
  ex : ∃ (f : Addr) (fd : FuncData) (dus : List Value), Mk K C f ∧ FnOk P w K mg base (CXE P w) k f fd ps sp ∧ Vals dvs dus ∧ AllM K fd ps dus fs ∧ ps.length ≠ 1
  at_ : mg x = some (.ref C)
def tMakeF (C : Addr) (sp : Sp) (F : Form) (dvs : List V) (E : XKS) (t tk : TA) : TE := fun σ H Q => t σ H fun vs H1 => tk σ H1 fun zs H2 => ∀ x dx, H2 x = none → H2 dx = none → dx ≠ x → sp (.ref x :: formV F dvs vs zs) (upd (upd H2 dx (.own x)) x (.ins C dx [])) (fun v H3 => v = .non ∧ Q (.ref x) H3) (E σ)
section
variable {X : Cx} {j k : Nat} {C : Addr} {ps : List Str} {sp : Sp} {dvs : List V} {fs : List Form} {F : Form} {E : XKS} {x : Str} {p pos : Pos} {e : Expr} {es : List Expr} {kws : List Keyword} {t tk : TA}
theorem MakeF.kp (S : MakeF X.prog X.w X.K X.mg X.base j x C ps sp dvs fs) : PySem.W.keepIn X.K (.ref C) = true := by
  obtain ⟨_, _, _, M, _⟩ := S.ex
  exact M.kp
end
/-! ### over data -/
def mkS (δ : En) (Q : R → En → Prop) : Prop := match δ.getLast? with
  | some (.own true _ k es) => Q (.new k es) δ.dropLast
  | _ => False
def dMakeF (C : Addr) (sd : DSp) (f : Form) (dvs : List V) (t tk : TDA) : TDE := fun δ Q X => t δ (fun rs δ1 => tk δ1 (fun qs δ2 => ∀ p, p ∉ owns δ2 → dRun sd (δ2 ++ [.own true p (.ins C []) []]) (.var δ2.length :: formR f dvs (rs.map R.dn) (qs.map R.dn)) (fun r δ5 => r = rv .non ∧ mkS δ5 Q) fun U fs δ5 => X U fs δ5.dropLast) X) X
theorem RRepL.extL {F : Addr → Prop} {σ : St} {δ : En} {H H0 H1 : Hp} {o : Option V} {δ' : En} {H' : Hp} (m : ∀ a u, H a = some u → ¬ Fb F δ a → H' a = some u ∧ ¬ Fb F δ' a) : ∀ {vs : List V} {rs : List R}, RRepL F σ H0 δ H vs (rs.map R.dn) → RRepL F (σ ++ [o]) H1 δ' H' vs (rs.map R.dn)
  | [], [], .nil => .nil
  | v :: vs, r :: rs, .cons a t => .cons (RRep.ext a (dn_new r) m) (RRepL.extL m t)
theorem Rel.take {F : Addr → Prop} {σ : St} {δ : En} {H : Hp} {x : Addr} {k : Kd} {es : List D} (h : Rel F (σ ++ [some (.ref x)]) (δ ++ [.own true x k es]) H) : Rel (Fp F x) σ δ H ∧ x ∉ owns δ ∧ ¬ F x ∧ ∃ ws, Ob H x k ws ∧ RepL (Fb (Fp F x) δ) H ws es := by
  obtain ⟨δ', s, e, h1, h2⟩ := All2.snocR h.sl
  obtain ⟨rfl, rfl⟩ : δ' = δ ∧ s = .own true x k es := by
    have := List.append_inj' e rfl
    exact ⟨this.1.symm, by simpa using this.2.symm⟩
  have nd := h.nd
  rw [owns_snoc] at nd
  have nx : x ∉ owns δ' := fun z => (List.nodup_append.mp nd).2.2 x z x (by simp [S.adr]) rfl
  have fb : ∀ b, Fb (Fp F x) δ' b → Fb F (δ' ++ [.own true x k es]) b := fun b z => by
    rcases z with (z | z) | z
    · exact .inl z
    · refine .inr ?_
      rw [owns_snoc]
      exact List.mem_append_right _ (by simp [S.adr, z])
    · refine .inr ?_
      rw [owns_snoc]
      exact List.mem_append_left _ z
  obtain ⟨e1, nF, ws, ob, rl⟩ := h2
  have gen : ∀ {σ : St} {δ : En}, x ∉ owns δ → All2 (SRel F (Fb F (δ' ++ [.own true x k es])) H) σ δ → All2 (SRel (Fp F x) (Fb (Fp F x) δ') H) σ δ := by
    intro σ δ hx a
    induction a with
    | nil => exact .nil
    | @cons o s _ _ a t ih =>
      rw [owns_cons] at hx
      refine .cons ?_ (ih fun z => hx (List.mem_append_right _ z))
      have a1 := a.imp (G' := Fb (Fp F x) δ') (fun b u e g => ⟨e, fun y => g (fb b y)⟩) (fun _ _ z => z) (fun _ _ _ e => e)
      cases s with
      | own f b kk ds =>
        obtain ⟨b1, b2, b3⟩ := a1
        refine ⟨b1, fun hf z => ?_, b3⟩
        rcases z with z | z
        · exact b2 hf z
        · exact hx (List.mem_append_left _ (by simp [S.adr, z]))
      | _ => exact a1
  refine ⟨⟨gen nx h1, (List.nodup_append.mp nd).1, fun b z => ?_⟩, nx, nF rfl, ws, ob, rl.imp fun b u e g => ⟨e, fun y => g (fb b y)⟩⟩
  rcases z with z | z
  · exact h.fd b z
  · subst z; exact ob.some
def dMakeG (C : Addr) (sd : DSp) (f : Form) (dvs : List V) (t tk : TDA) (X' : XDK) : TDE := fun δ Q X => t δ (fun rs δ1 => tk δ1 (fun qs δ2 => ∀ p, p ∉ owns δ2 → dRun sd (δ2 ++ [.own true p (.ins C []) []]) (.var δ2.length :: formR f dvs (rs.map R.dn) (qs.map R.dn)) (fun r δ5 => r = rv .non ∧ mkS δ5 Q) fun U fs δ5 => X' U fs δ5.dropLast) X) X
theorem makeG_ok {E E' : XKS} {C : Addr} {sd : DSp} {f : Form} {dvs : List V} {ta tk : TA} {da dk : TDA} [a : DA E ta da] [b : DA E tk dk] : ∀ F σ δ H Q Qd Xd Xd', Rel F σ δ H → dMakeG C sd f dvs da dk Xd' δ Qd Xd → (∀ r δ' v H', Qd r δ' → Rel F σ δ' H' → Fr δ H δ' H' → RRep F σ H δ' H' v r → Q v H') → XOk E F δ H Xd → XOk E' F δ H Xd' → tMakeF C (upS sd) f dvs E' ta tk σ H Q :=
  fun F σ δ H Q Qd Xd Xd' hr q k xo xo' => by
    refine a.r F σ δ H _ _ Xd hr q (fun rs δ1 vs H1 q1 R1 f1 p1 => ?_) xo
    refine b.r F σ δ1 H1 _ _ Xd R1 q1 (fun qs δ2 zs H2 q2 R2 f2 p2 x dx hx hdx ne => ?_) (xo.step f1)
    have f12 := f1.trans f2
    have np : x ∉ owns δ2 := fun z => R2.nofb hx (.inr z)
    have s5 : Same H2 (upd (upd H2 dx (.own x)) x (.ins C dx [])) := (Same.new hdx).trans (Same.new (by rw [upd_ne ne.symm]; exact hx))
    have m5 : ∀ a o, H2 a = some o → ¬ Fb F δ2 a → upd (upd H2 dx (.own x)) x (.ins C dx []) a = some o ∧ ¬ Fb F (δ2 ++ [.own true x (.ins C []) []]) a := fun a o e g => by
      refine ⟨s5 a o e, fun z => ?_⟩
      rcases z with z | z
      · exact g (.inl z)
      · rw [owns_snoc] at z
        rcases List.mem_append.mp z with z | z
        · exact g (.inr z)
        · have : a = x := by simpa [S.adr] using z
          rw [this, hx] at e; cases e
    have R5 : Rel F (σ ++ [some (.ref x)]) (δ2 ++ [.own true x (.ins C []) []]) (upd (upd H2 dx (.own x)) x (.ins C dx [])) := by
      refine ⟨(R2.sl.imp fun _ _ _ h => h.imp m5 (fun _ _ z => z) (fun _ _ u e => s5 _ u e)).app (.cons ⟨rfl, fun _ z => R2.nofb hx (.inl z), [], ⟨rfl, dx, upd_same⟩, .nil⟩ .nil), ?_, fun a h => ?_⟩
      · rw [owns_snoc]
        refine List.nodup_append.mpr ⟨R2.nd, by simp [S.adr], fun a ha b hb => ?_⟩
        have : b = x := by simpa [S.adr] using hb
        rw [this]
        rintro rfl
        exact np ha
      · obtain ⟨o, e⟩ := R2.fd a h; exact ⟨o, s5 a o e⟩
    have hln : σ.length = δ2.length := R2.sl.len
    have pp := form_rrep (f := f) (dvs := dvs) (RRepL.extL (o := some (.ref x)) (H0 := H2) (H1 := H2) m5 (p1.mv f2 (H1 := H2))) (RRepL.extL (o := some (.ref x)) (H0 := H2) (H1 := H2) m5 (p2.dn (H1 := H2)))
    have pp3 : RRep F (σ ++ [some (.ref x)]) H2 (δ2 ++ [.own true x (.ins C []) []]) (upd (upd H2 dx (.own x)) x (.ins C dx [])) (.ref x) (.var δ2.length) := by
      show (σ ++ [some (.ref x)])[δ2.length]? = _
      rw [← hln]
      simp
    have frr : ∀ {δ' : En} {s : S} {H6 : Hp}, Fr (δ2 ++ [.own true x (.ins C []) []]) (upd (upd H2 dx (.own x)) x (.ins C dx [])) (δ' ++ [s]) H6 → Fr δ H δ' H6 := by
      intro δ' s H6 f6
      have sub : ∀ a, a ∈ owns δ' → a ∈ owns (δ' ++ [s]) := fun a z => by rw [owns_snoc]; exact List.mem_append_left _ z
      refine f12.trans ⟨fun a o ha e => ?_, fun a ha => ?_, fun a o e => f6.dm a o (s5 a o e)⟩
      · refine f6.ex a o (fun z => ?_) (s5 a o e)
        rw [owns_snoc] at z
        rcases List.mem_append.mp z with z | z
        · exact ha z
        · have : a = x := by simpa [S.adr] using z
          rw [this, hx] at e; cases e
      · rcases f6.nw a (sub a ha) with z | z
        · rw [owns_snoc] at z
          rcases List.mem_append.mp z with z | z
          · exact .inl z
          · have : a = x := by simpa [S.adr] using z
            rw [this]; exact .inr hx
        · exact .inr (Same.free s5 z)
    refine run_ok (.cons pp3 pp) R5 (q2 x np) (fun r δ5 v H6 q5 R6 f6 p6 => ?_) (fun U fs δ5 od H6 q5 R6 f6 xr => ?_)
    · obtain ⟨δ', s, rfl, R7, fb, sub⟩ := R6.cut
      obtain ⟨rfl, q5⟩ := q5
      have ev : v = .non := by cases p6; rfl
      refine ⟨ev, ?_⟩
      unfold mkS at q5
      rw [List.getLast?_concat, List.dropLast_concat] at q5
      match s, q5, R6, f6 with
      | .own true y kk es, q5, R6, f6 =>
        have ey : y = x := by
          obtain ⟨δ'', s'', e, h1, h2⟩ := All2.snocR R6.sl
          have := List.append_inj' e rfl
          have e2 : s'' = .own true y kk es := by simpa using this.2.symm
          subst e2
          have := h2.1
          simpa using this.symm
        subst ey
        obtain ⟨R8, nx, nF, ws, ob, rl⟩ := R6.take
        exact k _ δ' _ H6 q5 R7 (frr f6) ⟨y, ws, rfl, ob, f12.free hx, nF, nx, rl, R8⟩
    · obtain ⟨δ', s, rfl, R7, fb, sub⟩ := R6.cut
      have q5 : Xd' U fs (δ' ++ [s]).dropLast := q5
      rw [List.dropLast_concat] at q5
      obtain ⟨d, vs', e1, e2, g, rr⟩ := xr
      exact xo' U fs δ' σ H6 od q5 R7 (frr f6) ⟨d, vs', e1, e2, fun z => g (fb _ z), rr.imp fun b o e g => ⟨e, fun z => g (fb _ z)⟩⟩
instance i_makeF {E : XKS} {C : Addr} {sd : DSp} {f : Form} {dvs : List V} {ta tk : TA} {da dk : TDA} [a : DA E ta da] [b : DA E tk dk] : DR E (tMakeF C (upS sd) f dvs E ta tk) (dMakeF C sd f dvs da dk) where
  r := fun F σ δ H Q Qd Xd hr q k xo => makeG_ok F σ δ H Q Qd Xd Xd hr q k xo xo
/-! ### where it is known not to raise -/
def dMakeFc (C : Addr) (sd : DSp) (f : Form) (dvs : List V) (t tk : TDA) : TDE := dMakeG C sd f dvs t tk fun _ _ _ => False
instance i_makeFc {E : XKS} {C : Addr} {sd : DSp} {f : Form} {dvs : List V} {ta tk : TA} {da dk : TDA} [a : DA E ta da] [b : DA E tk dk] : DR E (tMakeF C (fun vs H Q _ => upS sd vs H Q E0) f dvs (fun _ => E0) ta tk) (dMakeFc C sd f dvs da dk) where
  r := fun F σ δ H Q Qd Xd hr q k xo => makeG_ok (E' := fun _ => E0) F σ δ H Q Qd Xd _ hr q k xo fun _ _ _ _ _ _ z => z.elim
structure MakeFc (P : Program) (w : World) (K : PySem.W.Frag) (mg : Str → Option Value) (base : Heap) (k : Nat) (x : Str) (C : Addr) (ps : List Str) (sp : Sp) (dvs : List V) (fs : List Form) : Prop where
  ex : ∃ (f : Addr) (fd : FuncData) (dus : List Value), Mk K C f ∧ FnOk P w K mg base CX0 k f fd ps sp ∧ Vals dvs dus ∧ AllM K fd ps dus fs ∧ ps.length ≠ 1
  at_ : mg x = some (.ref C)
theorem MakeF.calm {P : Program} {w : World} {K : PySem.W.Frag} {mg : Str → Option Value} {base : Heap} {k : Nat} {x : Str} {C : Addr} {ps : List Str} {sp : Sp} {dvs : List V} {fs : List Form} (S : MakeF P w K mg base k x C ps sp dvs fs) : MakeFc P w K mg base k x C ps (fun vs H Q _ => sp vs H Q E0) dvs fs := by
  obtain ⟨f, fd, dus, M, FF, r⟩ := S.ex
  refine ⟨⟨f, fd, dus, M, ⟨fun vs H Q E h => FF.len vs H Q _ h, fun A outer s H args us vs Q E hr he hb hv hs => codeAny_mono (FF.run A outer s H args us vs Q E0 hr he hb hv hs) fun r s' z => ?_⟩, r⟩, S.at_⟩
  cases r with
  | error e => obtain ⟨a, C, od, H', _, _, _, _, _, _, q⟩ := z; exact q.elim
  | ok fl => cases fl <;> exact z
section
variable {X : Cx} {j k : Nat} {C : Addr} {ps : List Str} {sp : Sp} {dvs : List V} {fs : List Form} {F : Form} {x : Str} {p pos : Pos} {e : Expr} {es : List Expr} {kws : List Keyword} {t tk : TA}
theorem run_makeFc {pins : List (Addr × Obj)} {σ : St} {H : Hp} {s : Shared} {Q : VK} {us ws : List Value} {vs zs : List V} (S : MakeFc X.prog X.w X.K X.mg X.base j x C ps sp dvs fs) {i : Nat} (hi : fs[i]? = some F) (hr : Room (j + 1) X.A) (I : Inv X pins σ H s) (r : Vals vs us) (rz : Vals zs ws)
    (h : ∀ x dx, H x = none → H dx = none → dx ≠ x → sp (.ref x :: formV F dvs vs zs) (upd (upd H dx (.own x)) x (.ins C dx [])) (fun v H3 => v = .non ∧ Q (.ref x) H3) E0) : wpAny (model X.prog X.w) X.A (call (.ref C) us (F.2.1.zip ws)) (EP X pins σ Q) X.xe s := by
  obtain ⟨f, fd, dus, M, FF, hd, ha, hp⟩ := S.ex
  have rr := form_rel (F := F) hd r rz
  have hq := h (s.heap.objs.size + 1) s.heap.objs.size (I.hok.fresh (Nat.le_succ _)) (I.hok.fresh (Nat.le_refl _)) (Nat.ne_of_lt (Nat.lt_succ_self _))
  have I2 := Inv.made (C := C) I
  have r2 : Vals (V.ref (s.heap.objs.size + 1) :: formV F dvs vs zs) (Value.ref (s.heap.objs.size + 1) :: formU F dus us ws) := .cons rfl rr
  have bd : ∀ s' : Shared, X.K.In s'.heap → BindsTo s' fd ⟨.ref (s.heap.objs.size + 1) :: us, F.2.1.zip ws⟩ (ps.zip (.ref (s.heap.objs.size + 1) :: formU F dus us ws)) := fun s' X' => by
    have hl := FF.len _ _ _ _ hq
    unfold formV at hl
    unfold formU
    rw [r.length, rz.length] at hl
    cases h : (us.length == F.1 && ws.length == F.2.1.length) with
    | false =>
      rw [h] at hl
      exact absurd hl.symm hp
    | true =>
      rw [Bool.and_eq_true] at h
      exact ha.at hi s' _ us ws X' (by simpa using h.1) (by simpa using h.2)
  refine wpAny_call (make_map (f := f) I.kIn M.makes M.init (beq_iff_eq.mp M.fn) (codeAny_mono (FF.run _ X.stack _ _ ⟨Value.ref (s.heap.objs.size + 1) :: us, F.2.1.zip ws⟩ (Value.ref (s.heap.objs.size + 1) :: formU F dus us ws) _ _ E0 (hr.make C us (F.2.1.zip ws))
    (I2.env0.make C us (F.2.1.zip ws)) (bd _ I2.kIn) r2 hq) fun r s' hq' => ?_))
  cases r with
  | error e => exact False.elim hq'
  | ok fl =>
    cases fl with
    | ret u =>
      obtain ⟨v, H', I3, rv, ev, q3⟩ := I2.after hq'
      subst ev
      exact ⟨rv, ⟨V.ref (s.heap.objs.size + 1), H', I3, rfl, q3⟩⟩
    | next => exact False.elim hq'
    | brk => exact False.elim hq'
    | cont => exact False.elim hq'
theorem MakeFc.kp (S : MakeFc X.prog X.w X.K X.mg X.base j x C ps sp dvs fs) : PySem.W.keepIn X.K (.ref C) = true := by
  obtain ⟨_, _, _, M, _⟩ := S.ex
  exact M.kp
theorem pe_makeFc (i : Nat) (S : MakeFc X.prog X.w X.K X.mg X.base j x C ps sp dvs fs) (hr : Room k X.A) (hg : Gl X x) (ha : PA X (e :: es) t) (hkw : PK X kws tk) (hi : fs[i]? = some F := by rfl) (hj : j + 1 ≤ k := by decide)
    (hall : (backToKw pos (keywordEach kws X.env)).all (·.1.isSome) = true := by rfl) (hks : (backToKw pos (keywordEach kws X.env)).filterMap (·.1) = F.2.1 := by rfl)
    (hdb : (x == ("__debug__" : Str)) = false := by decide) (he : starEach (e :: es) X.env = (false, eval e X.env) :: starEach es X.env := by rfl)
    (hpl : ((backTo pos (starEach (e :: es) X.env)).any (·.1) || (backToKw pos (keywordEach kws X.env)).any (·.1.isNone)) = false := by rfl) : PE X (.Call (.Name x p) (e :: es) kws pos) (tMakeF C sp F dvs (fun _ => E0) t tk) := by
  intro pins s σ H Q I h
  refine wpAny_Call_Name_kw (ld_glob I hg S.at_ (?_ : wpAny _ _ _ _ _ _) hdb)
  refine PySem.W.callWith_KW (h₀ := X.base) I.ok.mod.kin S.kp hall (thn (ha pos pins s σ H _ I h) fun us s1 ⟨vs, H1, I1, r, q⟩ => ?_) hpl he
  refine thn (hkw pos pins s1 σ H1 _ I1 q) fun ws s2 ⟨zs, H2, I2, rz, q2⟩ => ⟨I2.kIn, ?_⟩
  rw [hks]
  exact run_makeFc S hi (hr.mono hj) I2 r rz q2
theorem pe_makeFc0 (i : Nat) (S : MakeFc X.prog X.w X.K X.mg X.base j x C ps sp dvs fs) (hr : Room k X.A) (hg : Gl X x) (hkw : PK X kws tk) (hi : fs[i]? = some F := by rfl) (hj : j + 1 ≤ k := by decide)
    (hall : (backToKw pos (keywordEach kws X.env)).all (·.1.isSome) = true := by rfl) (hks : (backToKw pos (keywordEach kws X.env)).filterMap (·.1) = F.2.1 := by rfl)
    (hdb : (x == ("__debug__" : Str)) = false := by decide)
    (hpl : ((backTo pos (starEach [] X.env)).any (·.1) || (backToKw pos (keywordEach kws X.env)).any (·.1.isNone)) = false := by rfl) : PE X (.Call (.Name x p) [] kws pos) (tMakeF C sp F dvs (fun _ => E0) tNil tk) := by
  intro pins s σ H Q I h
  refine wpAny_Call_Name_kw (ld_glob I hg S.at_ (?_ : wpAny _ _ _ _ _ _) hdb)
  refine PySem.W.callWith_KW0 (h₀ := X.base) I.ok.mod.kin S.kp hall (thn (hkw pos pins s σ H _ I h) fun ws s2 ⟨zs, H2, I2, rz, q2⟩ => ⟨I2.kIn, ?_⟩) hpl
  rw [hks]
  exact run_makeFc S hi (hr.mono hj) I2 .nil rz q2
end
end L2

set_option Elab.async false
set_option linter.all false
set_option maxRecDepth 100000
set_option maxHeartbeats 1000000
/-! # a method that changes a list which nobody keeps -/
namespace L2
open PySem PySem.Spec PyProof.Rows TL
theorem Rel.drop {F : Addr → Prop} {σ : St} {δ : En} {H : Hp} {a : Addr} {o : HO} (R : Rel (Fp F a) σ δ H) (na : a ∉ owns δ) : Rel F σ δ (upd H a o) := by
  refine ⟨R.sl.imp fun _ x hx hh => hh.imp (fun b u e g => ?_) (fun b eb z => .inl z) (fun b eb u e => ?_), R.nd, fun b hb => ?_⟩
  · have nb : b ≠ a := fun z => g (.inl (.inr z))
    exact ⟨by rw [upd_ne nb]; exact e, fun z => g (z.elim (fun z => .inl (.inl z)) .inr)⟩
  · have nb : b ≠ a := fun z => na (by rw [← z]; exact mem_owns.mpr ⟨_, hx, eb⟩)
    rw [upd_ne nb]; exact e
  · by_cases z : b = a
    · subst z; exact ⟨_, upd_same⟩
    · obtain ⟨u, e⟩ := R.fd b (.inl hb); exact ⟨u, by rw [upd_ne z]; exact e⟩
def dMutT (te : TDE) (rd : List D → List D → (D → List D → Prop) → Prop) (t : TDA) : TDE := fun δ Q X => te δ (fun x δ1 => match x with
  | .new .lst ds => t δ1 (fun rs δ2 => frzL δ2 rs fun es δ3 => rd ds es fun d _ => Q (.d d) δ3) X
  | _ => False) X
theorem Rel.less {F : Addr → Prop} {σ : St} {δ : En} {H : Hp} {a : Addr} (R : Rel (Fp F a) σ δ H) : Rel F σ δ H :=
  ⟨R.sl.imp fun _ x hx hh => hh.imp (fun b u e g => ⟨e, fun z => g (z.elim (fun z => .inl (.inl z)) .inr)⟩) (fun b eb z => .inl z) (fun _ _ _ e => e), R.nd, fun b hb => R.fd b (.inl hb)⟩
instance i_bmT {E : XKS} {K : PySem.W.Frag} {r : V → List V → Hp → VK → Prop} {rd : List D → List D → (D → List D → Prop) → Prop} {to : TE} {te : TDE} {t : TA} {d : TDA} [h : DMut r rd] [x : DR E to te] [a : DA E t d] : DR E (tBM K "list" r to t) (dMutT te rd d) where
  r := fun F σ δ H Q Qd Xd hr q k xo => by
    refine x.r F σ δ H _ _ Xd hr q (fun y δ1 v1 H1 q1 R1 f1 p1 => ?_) xo
    match y, q1, p1 with
    | .new .lst ds, q1, ⟨l, vs, ev, ob, hn, nF, no, rl, R1'⟩ =>
      subst ev
      refine ⟨.inl ⟨rfl, vs, SqL.of ob⟩, a.r (Fp F l) σ δ1 H1 _ _ Xd R1' q1 (fun rs δ2 xs H2 q2 R2 f2 p2 => ?_) fun C fs δ' σ' H' od q r g p => ?_⟩
      · obtain ⟨es, δ3, rl2, R3, f3, q3⟩ := frzL_ok p2 R2 q2
        have e3 : H2 l = some (.lst vs) := f2.ex l _ no ob
        have n2 : l ∉ owns δ2 := fun z => by
          rcases f2.nw l z with z | z
          · exact no z
          · have ob : H1 l = _ := ob
            rw [ob] at z; cases z
        have n3 : l ∉ owns δ3 := fun z => by
          rcases f3.nw l z with z | z
          · exact n2 z
          · rw [e3] at z; cases z
        have f : Fr δ H δ3 H2 := (f1.trans f2).trans f3
        have rl' : RepL (Fb (Fp F l) δ3) H2 vs ds := (rl.imp f2.mv).imp f3.mv
        refine h.r (Fb (Fp F l) δ3) H2 l vs ds xs es _ _ e3 rl' rl2 q3 fun d ds'' v vs'' q4 rp rl'' => ?_
        have hne : ∀ {b : Addr} {o : HO}, H b = some o → b ≠ l := fun e z => by rw [z, hn] at e; cases e
        refine k _ δ3 v _ q4 (R3.drop n3) ⟨fun b o hb e => by rw [upd_ne (hne e)]; exact f.ex b o hb e, f.nw, fun b o e => by rw [upd_ne (hne e)]; exact f.dm b o e⟩ (Rep.imp (fun b u e g => ?_) rp)
        have nb : b ≠ l := fun z => g (.inl (.inr z))
        exact ⟨by rw [upd_ne nb]; exact e, fun z => g (z.elim (fun z => .inl (.inl z)) .inr)⟩
      · obtain ⟨dd, vs', e1, e2, g2, rr⟩ := p
        have wk : ∀ b, Fb F δ' b → Fb (Fp F l) δ' b := fun b z => z.elim (fun z => .inl (.inl z)) .inr
        exact xo C fs δ' σ' H' od q r.less (f1.trans g) ⟨dd, vs', e1, e2, fun z => g2 (wk _ z), rr.imp fun b o e g => ⟨e, fun z => g (wk _ z)⟩⟩
instance i_bmT0 {E : XKS} {K : PySem.W.Frag} {r : V → List V → Hp → VK → Prop} {rd : List D → List D → (D → List D → Prop) → Prop} {to : TE} {te : TDE} [h : DMut r rd] [x : DR E to te] : DR E (tBM0 K "list" r to) (dMutT te rd dNil) := (i_bmT : DR E (tBM K "list" r to tNil) (dMutT te rd dNil))
/-! # f-strings over data -/
def tFmtS (te : TE) : TE := fun σ H Q => te σ H fun x H1 => ∃ z : Str, x = .str z ∧ z.length ≤ sizeLine ∧ Q (.str z) H1
def tFmtI (te : TE) : TE := fun σ H Q => te σ H fun x H1 => ∃ i : Int, x = .int i ∧ i.natAbs.log2 < 1920 ∧ Q (.str (toString i : String)) H1
def tJn (ts : List TE) : TE := fun σ H Q => tJ ts σ H Str.empty fun z H1 => Q (.str z) H1
theorem pe_fmtSD {X : Cx} {e : Expr} {te : TE} {pos : Pos} (he : PE X e te) : PE X (.FormattedValue e (-1) none pos) (tFmtS te) := pe_fmtS he
theorem pe_fmtID {X : Cx} {e : Expr} {te : TE} {pos : Pos} (he : PE X e te) : PE X (.FormattedValue e (-1) none pos) (tFmtI te) := pe_fmtI he
theorem pe_joinedD {X : Cx} {v1 v2 : Expr} {rest : List Expr} {pos : Pos} {ts : List TE} (h : PJ X (v1 :: v2 :: rest) ts) : PE X (.JoinedStr (v1 :: v2 :: rest) pos) (tJn ts) := pe_joinedS h
def dFmtS (te : TDE) : TDE := fun δ Q X => te δ (fun r δ1 => val δ1 r fun d => match d with
  | .v (.str z) => z.length ≤ sizeLine ∧ Q (rv (.str z)) δ1
  | _ => False) X
def dFmtI (te : TDE) : TDE := fun δ Q X => te δ (fun r δ1 => val δ1 r fun d => match d with
  | .v (.int i) => i.natAbs.log2 < 1920 ∧ Q (rv (.str (toString i : String))) δ1
  | _ => False) X
instance i_fmtS {E : XKS} {te : TE} {de : TDE} [a : DR E te de] : DR E (tFmtS te) (dFmtS de) where
  r := fun F σ δ H Q Qd Xd hr q k xo => by
    refine a.r F σ δ H _ _ Xd hr q (fun r δ1 v1 H1 q1 R1 f1 p1 => ?_) xo
    obtain ⟨d, w, q2⟩ := val_w p1 R1 q1
    match d, w, q2 with
    | .v (.str z), w, ⟨hl, q2⟩ => exact ⟨z, w, hl, k _ δ1 _ H1 q2 R1 f1 (Rep.v _)⟩
instance i_fmtI {E : XKS} {te : TE} {de : TDE} [a : DR E te de] : DR E (tFmtI te) (dFmtI de) where
  r := fun F σ δ H Q Qd Xd hr q k xo => by
    refine a.r F σ δ H _ _ Xd hr q (fun r δ1 v1 H1 q1 R1 f1 p1 => ?_) xo
    obtain ⟨d, w, q2⟩ := val_w p1 R1 q1
    match d, w, q2 with
    | .v (.int z), w, ⟨hl, q2⟩ => exact ⟨z, w, hl, k _ δ1 _ H1 q2 R1 f1 (Rep.v _)⟩
def dJ : List TDE → En → Str → (Str → En → Prop) → XDK → Prop
  | [], δ, acc, Q, _ => Q acc δ
  | te :: ts, δ, acc, Q, X => te δ (fun r δ1 => val δ1 r fun d => match d with
    | .v (.str y) => (acc ++ y).length ≤ sizeLine ∧ dJ ts δ1 (acc ++ y) Q X
    | _ => False) X
class DJ (E : XKS) (ts : List TE) (ds : outParam (List TDE)) : Prop where
  r : ∀ F σ δ H acc Q Qd Xd, Rel F σ δ H → dJ ds δ acc Qd Xd → (∀ z δ' H', Qd z δ' → Rel F σ δ' H' → Fr δ H δ' H' → Q z H') → XOk E F δ H Xd → tJ ts σ H acc Q
instance j_nil {E : XKS} : DJ E [] [] where
  r := fun F σ δ H acc Q Qd Xd hr q k xo => k _ δ H q hr .refl
instance j_cons {E : XKS} {te : TE} {de : TDE} {ts : List TE} {ds : List TDE} [a : DR E te de] [b : DJ E ts ds] : DJ E (te :: ts) (de :: ds) where
  r := fun F σ δ H acc Q Qd Xd hr q k xo => by
    refine a.r F σ δ H _ _ Xd hr q (fun r δ1 v1 H1 q1 R1 f1 p1 => ?_) xo
    obtain ⟨d, w, q2⟩ := val_w p1 R1 q1
    match d, w, q2 with
    | .v (.str y), w, ⟨hl, q2⟩ => exact ⟨y, w, hl, b.r F σ δ1 H1 _ _ _ Xd R1 q2 (fun z δ' H' q3 R3 f3 => k z δ' H' q3 R3 (f1.trans f3)) (xo.step f1)⟩
def dJn (ds : List TDE) : TDE := fun δ Q X => dJ ds δ Str.empty (fun z δ1 => Q (rv (.str z)) δ1) X
instance i_jn {E : XKS} {ts : List TE} {ds : List TDE} [a : DJ E ts ds] : DR E (tJn ts) (dJn ds) where
  r := fun F σ δ H Q Qd Xd hr q k xo => a.r F σ δ H Str.empty _ _ Xd hr q (fun z δ' H' q3 R3 f3 => k _ δ' _ H' q3 R3 f3 (Rep.v _)) xo
theorem plain_all {P : String → Prop} (h1 : P "int") (h2 : P "bool") (h3 : P "str") (h4 : P "NoneType") (h5 : P "list") (h6 : P "tuple") : ∀ T ∈ plainT, P T := fun T hT => by
  simp only [plainT, List.mem_cons, List.not_mem_nil, or_false] at hT
  rcases hT with rfl | rfl | rfl | rfl | rfl | rfl <;> assumption
theorem tynD_ty {d : D} {T : String} (h : tynD d = some T) : tyD d = some (.type T) := by
  match d, h with
  | .v .non, h => cases h; rfl
  | .v (.bl b), h => cases h; rfl
  | .v (.int b), h => cases h; rfl
  | .v (.str b), h => cases h; rfl
  | .nd .lst ds, h => cases h; rfl
  | .nd .tup ds, h => cases h; rfl
/-- isinstance(d, C) of a thing of a built-in kind is False -/
theorem isX_plain {K : PySem.W.Frag} {C : Addr} {d : D} (hk : ∀ T ∈ plainT, PySem.W.kitOne K (.type T) (.ref C) = some false) (h : plainK d) : ∃ t, tyX K d (some t) ∧ PySem.W.kitOne K t (.ref C) = some false := by
  obtain ⟨T, hT⟩ := h
  refine ⟨.type T, ?_, hk T (tynD_other hT).2⟩
  have := tynD_ty hT
  match d, hT, this with
  | .v .non, _, e => exact e
  | .v (.bl b), _, e => exact e
  | .v (.int b), _, e => exact e
  | .v (.str b), _, e => exact e
  | .nd .lst ds, _, e => exact e
  | .nd .tup ds, _, e => exact e
end L2

set_option Elab.async false
set_option linter.all false
set_option maxRecDepth 100000
set_option maxHeartbeats 1000000
/-! # slices and sums of tuples, len(range(n)), over data -/
namespace L2
open PySem PySem.Spec PyProof.Rows TL PySem.Calls
section
variable {K : PySem.W.Frag} {E : XKS}
/-! ### t[lo:hi], not the whole -/
def oSlT : D → Option Int → Option Int → RK → Prop := fun d lo hi Q => match d with
  | .nd .tup l => ¬ (HT.sIx l.length 0 lo = 0 ∧ HT.sIx l.length l.length hi = l.length) ∧ Q (.d (.nd .tup (cutD l lo hi)))
  | _ => False
instance s_tup : DSl (rSlT K) oSlT where
  r := fun G H x d lo hi Q Qd gd w q k => match d, w, q with
    | .nd .tup l, ⟨a, vs, e, ob, rl⟩, ⟨hn, q⟩ => ⟨a, vs, e, SqT.of ob, by rw [rl.len]; exact hn, fun p hp => k _ _ _ q (Same.new hp) (new_tup gd (cutV_rep rl) hp)⟩
/-! ### t + u -/
/-- t + u: where one is empty it is the other itself -/
def rCatU (K : PySem.W.Frag) : R2 := fun x y H Q => ∃ a b xs ys, x = .ref a ∧ y = .ref b ∧ SqT K H a xs ∧ SqT K H b ys ∧ xs.length + ys.length ≤ sizeLine ∧
  (xs = [] → Q (.ref b) H) ∧ (xs ≠ [] → ys = [] → Q (.ref a) H) ∧ (xs ≠ [] → ys ≠ [] → ∀ p, H p = none → Q (.ref p) (upd H p (.tup (xs ++ ys))))
theorem op_catU {X : Cx} : OpR X (binaryOp .Add) (rCatU X.K) := by
  intro pins s σ H x y v u Q I rx ry h
  obtain ⟨a, b, xs, ys, rfl, rfl, ha, hb, hz, q0, q1, q2⟩ := h
  by_cases hx : xs = []
  · cases rx
    cases ry
    obtain ⟨its, r1, p1, _⟩ := I.tuple ha
    obtain ⟨its2, r2, p2, _⟩ := I.tuple hb
    have hi : its = [] := r1.nil_iff.mpr hx
    obtain ⟨⟨cls, dd, data, sl⟩, ho, hc, n, hd⟩ := id p1
    obtain ⟨⟨cls2, dd2, data2, sl2⟩, ho2, hc2, n2, hd2⟩ := id p2
    simp only at hc hd hc2 hd2
    subst hc hd hc2 hd2
    exact concat_meets ⟨_, ho, rfl⟩ ⟨_, ho2, rfl⟩ noFill_tuple_add seq_tuple_add PySem.F.slot_tuple_add PySem.F.entry_tuple_add (PySem.F.args_tuple_add_2 _ _)
      (tuple_addW0 a b its.toArray its2.toArray n n2 dd dd2 sl sl2 (by simp [hi])) ⟨ho, ho2, ⟨.ref b, H, I, rfl, q0 hx⟩⟩
  · exact op_catT pins s σ H _ _ v u Q I rx ry ⟨a, b, xs, ys, rfl, rfl, ha, hb, hx, hz, q1 hx, q2 hx⟩
def dCatU (ta tb : TDE) : TDE := fun δ Q X => ta δ (fun x δ1 => tb δ1 (fun y δ2 => frz δ2 x fun d1 δ3 => frz δ3 y fun d2 δ4 => match d1, d2 with
  | .nd .tup a, .nd .tup b => a.length + b.length ≤ sizeLine ∧ Q (.d (.nd .tup (a ++ b))) δ4
  | _, _ => False) X) X
instance (priority := high) i_catU {ta tb : TE} {da db : TDE} [a : DR E ta da] [b : DR E tb db] : DR E (tOp (rCatU K) ta tb) (dCatU da db) where
  r := fun F σ δ H Q Qd Xd hr q k xo => by
    refine a.r F σ δ H _ _ Xd hr q (fun x δ1 v1 H1 q1 R1 f1 p1 => ?_) xo
    refine b.r F σ δ1 H1 _ _ Xd R1 q1 (fun y δ2 v2 H2 q2 R2 f2 p2 => ?_) (xo.step f1)
    obtain ⟨d1, δ3, rp1, R3, f3, q3⟩ := frz_ok (p1.mv f2 (H1 := H2)) R2 (frz_dn.mpr q2)
    obtain ⟨d2, δ4, rp2, R4, f4, q4⟩ := frz_ok (p2.mv f3 (H1 := H2)) R3 (frz_dn.mpr q3)
    have rp1' := rp1.imp f4.mv
    have f := (f1.trans f2).trans (f3.trans f4)
    match d1, d2, rp1', rp2, q4 with
    | .nd .tup l1, .nd .tup l2, rp1, rp2, ⟨hl, q⟩ =>
      cases rp1 with
      | nd o1 g1 r1 =>
        cases rp2 with
        | nd o2 g2 r2 =>
          refine ⟨_, _, _, _, rfl, rfl, SqT.of o1, SqT.of o2, by rw [r1.len, r2.len]; exact hl, fun e => ?_, fun _ e => ?_, fun _ _ p hp => ?_⟩
          · subst e
            cases r1
            exact k _ δ4 _ H2 q R4 f (Rep.nd o2 g2 r2)
          · subst e
            cases r2
            exact k _ δ4 _ H2 q R4 f (Rep.nd o1 g1 (by rw [List.append_nil]; exact r1))
          · exact k _ δ4 _ _ q (R4.same (Same.new hp)) (f.trans (.same (Same.new hp))) (Rep.nd upd_same (R4.nofb hp) ((r1.app r2).imp fun b o e g => ⟨Same.new hp _ _ e, g⟩))
/-! ### len(range(n)) -/
def rRng1 : List V → Hp → VK → Prop := fun xs H Q => ∃ hi, xs = [.int hi] ∧ ∀ p, H p = none → Q (.ref p) (upd H p (.rng 0 hi))
def rLenG : List V → Hp → VK → Prop := fun xs H Q => ∃ p lo hi, xs = [.ref p] ∧ H p = some (.rng lo hi) ∧ (hi - lo).toNat < 2 ^ 62 ∧ Q (.int (hi - lo).toNat) H
theorem call_rng1 {X : Cx} : CallR X (.type "range") rRng1 := call_range1v
theorem call_lenG {X : Cx} : CallR X (.builtin "len") rLenG := by
  intro pins s σ H xs us Q I r h
  obtain ⟨p, lo, hi, rfl, hp, h5, q⟩ := h
  obtain ⟨u, rfl, ru⟩ := vals1 r
  cases (show u = Value.ref p from ru)
  obtain ⟨t, t', v, hr⟩ := (show ObjOk X.prog X.w H s.heap p (.rng lo hi) from I.hok p _ hp)
  have hn : Builtin.Range.rangeSize lo hi 1 = (((hi - lo).toNat : Nat) : Int) := by rw [rangeSize_one]; split <;> omega
  exact call_len_range hr hn (by omega) ⟨.int (hi - lo).toNat, H, I.tok _, ⟨_, rfl⟩, q⟩
def dLenG (t : TDE) : TDE := fun δ Q X => t δ (fun x δ1 => val δ1 x fun d => match d with
  | .v (.int n) => n.toNat < 2 ^ 62 ∧ Q (.d (.v (.int n.toNat))) δ1
  | _ => False) X
instance (priority := high) i_lenG {t : TE} {d : TDE} [a : DR E t d] : DR E (tCB rLenG (tCons (tCB rRng1 (tCons t tNil)) tNil)) (dLenG d) where
  r := fun F σ δ H Q Qd Xd hr q k xo => by
    refine a.r F σ δ H _ _ Xd hr q (fun x δ1 v1 H1 q1 R1 f1 p1 => ?_) xo
    obtain ⟨d, w, q2⟩ := val_w p1 R1 q1
    match d, w, q2 with
    | .v (.int n), w, ⟨hn, q2⟩ =>
      refine ⟨n, by rw [show v1 = V.int n from w], fun p hp => ⟨p, 0, n, rfl, upd_same, by simpa using hn, ?_⟩⟩
      rw [Int.sub_zero]
      exact k _ δ1 _ _ q2 (R1.same (Same.new hp)) (f1.trans (.same (Same.new hp))) (Rep.v _)
end
end L2

set_option Elab.async false
set_option linter.all false
set_option maxRecDepth 100000
set_option maxHeartbeats 1000000
/-! # f"{o}", o an own instance with its own __str__ -/
namespace L2
open PySem PySem.Spec PyProof.Rows TL
/-- format finds object's own, and the class is an object -/
def FmtO (K : PySem.W.Frag) (C : Addr) : Prop := PySem.W.findIn K (.ref C) "__format__" = some (some (.builtin "object.__format__")) ∧ PySem.W.mroIn K C (.type "object") = some true
def rFmtO (C : Addr) (sp : Sp) : V → Hp → VK → Prop := fun x H Q => ∃ a dx fs, x = .ref a ∧ H a = some (.ins C dx fs) ∧ sp [.ref a] H (fun v H' => ∃ z : Str, v = .str z ∧ Q (.str z) H') E0
section
variable {X : Cx} {k : Nat} {C : Addr} {sp : Sp} {sd : DSp}
theorem pe_fmtO {e : Expr} {te : TE} {pos : Pos} (S : OwnM X.prog X.w X.K X.mg X.base k C "__str__" ["self"] sp) (hm : FmtO X.K C) (hr : Room (k + 2) X.A) (he : PE X e te) : PE X (.FormattedValue e (-1) none pos) (tUn (rFmtO C sp) te) := by
  intro pins s σ H Q I hw
  refine FormattedValue_plain (thn (he pins s σ H _ I hw) fun u s1 ⟨x, H1, I1, r1, a, dx, fs, e1, ha, q⟩ => ?_)
  subst e1
  cases (show u = Value.ref a from r1)
  obtain ⟨f, fd, F, hs, hf, hb, _⟩ := S.ex
  obtain ⟨od, J⟩ := inst_look I1 ha
  have hr2 : Room (k + 1) X.A.in1 := hr.in1
  have I2 : Inv X pins σ H1 { s1 with toks := s1.toks + 1 } := I1.tok _
  refine PySem.W.kfo_fieldS hr2.units0 I1.kIn J hm.1 hm.2 hs hf ?_
  have hr1 : Room (k + 1) X.A := hr.mono (by omega)
  refine thn (run_in1 (vs := [.ref a]) F hr1 hb I2 (.cons rfl .nil) q) fun z s' hz => ?_
  obtain ⟨v, H', I', rv, n, rfl, q'⟩ := hz
  obtain ⟨t, rfl⟩ := rv
  exact ⟨.str n, H', I', ⟨_, rfl⟩, q'⟩
def oFmtO (C : Addr) (sd : DSp) : D → RK → Prop := fun d Q => isIns C d ∧ sd [.d d] (fun r _ => ∃ v, r = rv v ∧ ∃ z : Str, v = .str z ∧ Q (rv (.str z))) noS
instance v_fmtO : DV1 (rFmtO C (upS sd)) (oFmtO C sd) where
  r := fun G H x d Q Qd gd w q k => by
    obtain ⟨h1, q⟩ := q
    obtain ⟨a, dx, fs, rfl, ha⟩ := isIns_ok w h1
    exact ⟨a, dx, fs, rfl, ha, up_plain (ds := [d]) (.cons w .nil) q fun x H' ⟨n, hn, qt⟩ s => ⟨n, hn, k _ _ H' qt s (Rep.v _)⟩⟩
end
/-! # a number's text is short -/
def numS (i : Int) : Str := ((toString i : String) : Str)
theorem num_len {i : Int} (h0 : 0 ≤ i) (h1 : i ≤ 2000000) : (numS i).length ≤ 10 := toString_length_le h0 (by decide) (by omega)
theorem num_log {i : Int} (h0 : 0 ≤ i) (h1 : i ≤ 2000000) : i.natAbs.log2 < 1920 := by
  have : i.natAbs.log2 < 21 := by
    by_cases z : i.natAbs = 0
    · rw [z]; decide
    · exact (Nat.log2_lt z).mpr (by omega)
  omega
end L2

set_option Elab.async false
set_option linter.all false
set_option maxRecDepth 100000
set_option maxHeartbeats 1000000
/-! # x is True, over data -/
namespace L2
open PySem PySem.Spec PyProof.Rows TL
def rIsB : R2 := fun x y H Q => ∃ a b, x = .bl a ∧ y = .bl b ∧ Q (.bl (a == b)) H
theorem op_isB {X : Cx} : OpR X (compareOp .Is) rIsB := by
  intro pins s σ H x y v u Q I rx ry h
  obtain ⟨a, b, rfl, rfl, q⟩ := h
  cases rx
  cases ry
  refine wpAny_is_plain (by cases a <;> cases b <;> rfl) (fin_bl I q ?_)
  cases a <;> cases b <;> rfl
def oIsB : D → D → RK → Prop := fun x y Q => match x, y with
  | .v (.bl a), .v (.bl b) => Q (rv (.bl (a == b)))
  | _, _ => False
instance v_isB : DV2 rIsB oIsB where
  r := fun G H x y d e Q Qd _ w1 w2 q k => match d, e, w1, w2, q with
    | .v (.bl a), .v (.bl b), w1, w2, q => ⟨a, b, w1, w2, k _ _ H q (Same.refl _) (Rep.v _)⟩
/-! # a text not in a tuple or list of texts -/
def oNotInU : D → D → RK → Prop := fun x y Q => match x, y with
  | .v (.int i), .nd .lst l => ∃ ns, intL l = some ns ∧ Q (rv (.bl (!ns.contains i)))
  | .v (.str z), .nd .lst l => ∃ zs, txtL l = some zs ∧ Q (rv (.bl (!zs.contains z)))
  | .v (.str z), .nd .tup l => ∃ zs, txtL l = some zs ∧ Q (rv (.bl (!zs.contains z)))
  | _, _ => False
theorem inV_txts (z : Str) (zs : List Str) : inV (.str z) (zs.map V.str) = zs.contains z := by
  rw [Bool.eq_iff_iff]
  unfold inV
  rw [List.any_map, List.any_eq_true, List.contains_iff_mem]
  constructor
  · rintro ⟨y, hy, e⟩
    have e : (y == z) = true := e
    rwa [← beq_iff_eq.mp e]
  · intro h
    exact ⟨z, h, (beq_self_eq_true z : (z == z) = true)⟩
theorem flat_txts (zs : List Str) : (zs.map V.str).all flatV = true := by
  rw [List.all_eq_true]
  intro v hv
  obtain ⟨j, _, rfl⟩ := List.mem_map.mp hv
  rfl
instance (priority := high) v_notInU {K : PySem.W.Frag} : DV2 (rIn K true) oNotInU where
  r := fun G H x y d e Q Qd gd w1 w2 q k => match d, e, w1, w2, q with
    | .v (.int i), .nd .lst l, w1, w2, q => v_notInN.r G H x y (.v (.int i)) (.nd .lst l) Q Qd gd w1 w2 q k
    | .v (.str z), .nd .lst l, w1, ⟨b, us, e2, o2, r2⟩, ⟨zs, h1, q⟩ => by
      have w1 : x = .str z := w1
      subst w1
      rw [txtL_ok r2 h1] at o2
      refine ⟨b, _, e2, .inl (SqL.of o2), rfl, flat_txts zs, ?_⟩
      rw [if_pos rfl, inV_txts]
      exact k _ _ H q (Same.refl _) (Rep.v _)
    | .v (.str z), .nd .tup l, w1, ⟨b, us, e2, o2, r2⟩, ⟨zs, h1, q⟩ => by
      have w1 : x = .str z := w1
      subst w1
      rw [txtL_ok r2 h1] at o2
      refine ⟨b, _, e2, .inr (SqT.of o2), rfl, flat_txts zs, ?_⟩
      rw [if_pos rfl, inV_txts]
      exact k _ _ H q (Same.refl _) (Rep.v _)
end L2

set_option Elab.async false
set_option linter.all false
set_option maxRecDepth 100000
set_option maxHeartbeats 1000000
set_option synthInstance.maxHeartbeats 0
set_option synthInstance.maxSize 1000000
--% M
--% J
namespace Toy
open PySem L2 TL
def top (i : Nat) : Stmt := PySem.Challenge.pw_nightpaper_k58_what_a_bundle_is.main.body.getD i (.Pass ⟨0, 0, 0, 0⟩)
abbrev s_want_bundles : Stmt := top 2
abbrev N_want_bundles : List Str := ["town", "seller", "copies", "size", "counts", "at", "count"]
theorem sc_want_bundles : FnScope N_want_bundles ["town", "seller", "copies", "size"] (defScope s_want_bundles) := ⟨rfl, rfl, rfl, by decide +kernel, rfl, by decide +kernel, by decide +kernel⟩
abbrev s_bundled : Stmt := top 3
abbrev N_bundled : List Str := ["wants", "size", "town", "seller", "copies", "bundle"]
theorem sc_bundled : FnScope N_bundled ["wants", "size"] (defScope s_bundled) := ⟨rfl, rfl, rfl, by decide +kernel, rfl, by decide +kernel, by decide +kernel⟩
abbrev s__law_held : Stmt := top 5
abbrev N__law_held : List Str := ["_law_script"]
theorem sc__law_held : FnScope N__law_held ["_law_script"] (defScope s__law_held) := ⟨rfl, rfl, rfl, by decide +kernel, rfl, by decide +kernel, by decide +kernel⟩
abbrev s__law_take : Stmt := top 6
abbrev N__law_take : List Str := ["_law_held_here", "_law_many", "_law_found", "_law_at", "_law_cell", "_law_figure"]
theorem sc__law_take : FnScope N__law_take ["_law_held_here", "_law_many"] (defScope s__law_take) := ⟨rfl, rfl, rfl, by decide +kernel, rfl, by decide +kernel, by decide +kernel⟩
abbrev s__law_names : Stmt := top 7
abbrev N__law_names : List Str := ["_law_held_here", "_law_many", "_law_letters", "_law_word", "_law_at", "_law_first", "_law_step", "_law_signs", "_law_k", "_law_sign"]
theorem sc__law_names : FnScope N__law_names ["_law_held_here", "_law_many"] (defScope s__law_names) := ⟨rfl, rfl, rfl, by decide +kernel, rfl, by decide +kernel, by decide +kernel⟩
abbrev s__law_others : Stmt := top 8
abbrev N__law_others : List Str := ["_law_held_here", "_law_parts", "_law_names_here", "_law_found", "_law_k", "_law_other", "_law_name"]
theorem sc__law_others : FnScope N__law_others ["_law_held_here", "_law_parts"] (defScope s__law_others) := ⟨rfl, rfl, rfl, by decide +kernel, rfl, by decide +kernel, by decide +kernel⟩
abbrev s__law_text : Stmt := top 9
abbrev N__law_text : List Str := ["_law_parts", "_law_place", "_law_buyer", "_law_figure", "_law_whole", "_law_amount"]
theorem sc__law_text : FnScope N__law_text ["_law_parts"] (defScope s__law_text) := ⟨rfl, rfl, rfl, by decide +kernel, rfl, by decide +kernel, by decide +kernel⟩
abbrev s__law_made : Stmt := top 10
abbrev N__law_made : List Str := ["_law_parts"]
theorem sc__law_made : FnScope N__law_made ["_law_parts"] (defScope s__law_made) := ⟨rfl, rfl, rfl, by decide +kernel, rfl, by decide +kernel, by decide +kernel⟩
abbrev s__law_right : Stmt := top 11
abbrev N__law_right : List Str := ["_law_one", "_law_parts"]
theorem sc__law_right : FnScope N__law_right ["_law_one", "_law_parts"] (defScope s__law_right) := ⟨rfl, rfl, rfl, by decide +kernel, rfl, by decide +kernel, by decide +kernel⟩
abbrev s_law : Stmt := top 12
abbrev N_law : List Str := ["_law_script", "_law_held_here", "_law_bout", "_law_names_here", "_law_numbers", "_law_parts", "_law_one", "_law_twin", "_law_others_here", "_law_thing", "_law_share", "_law_told", "_law_begin", "_law_some", "_law_other"]
theorem sc_law : FnScope N_law ["_law_script"] (defScope s_law) := ⟨rfl, rfl, rfl, by decide +kernel, rfl, by decide +kernel, by decide +kernel⟩
abbrev s_Bundle___init__ : Stmt := clsFn (top 1) 0
abbrev N_Bundle___init__ : List Str := ["self", "town", "seller", "number", "of", "copies"]
theorem sc_Bundle___init__ : FnScope N_Bundle___init__ ["self", "town", "seller", "number", "of", "copies"] (defScope s_Bundle___init__) := ⟨rfl, rfl, rfl, by decide +kernel, rfl, by decide +kernel, by decide +kernel⟩
abbrev s_Bundle___eq__ : Stmt := clsFn (top 1) 1
abbrev N_Bundle___eq__ : List Str := ["self", "other"]
theorem sc_Bundle___eq__ : FnScope N_Bundle___eq__ ["self", "other"] (defScope s_Bundle___eq__) := ⟨rfl, rfl, rfl, by decide +kernel, rfl, by decide +kernel, by decide +kernel⟩
abbrev s_Bundle___len__ : Stmt := clsFn (top 1) 2
abbrev N_Bundle___len__ : List Str := ["self"]
theorem sc_Bundle___len__ : FnScope N_Bundle___len__ ["self"] (defScope s_Bundle___len__) := ⟨rfl, rfl, rfl, by decide +kernel, rfl, by decide +kernel, by decide +kernel⟩
abbrev s_Bundle___str__ : Stmt := clsFn (top 1) 3
abbrev N_Bundle___str__ : List Str := ["self"]
theorem sc_Bundle___str__ : FnScope N_Bundle___str__ ["self"] (defScope s_Bundle___str__) := ⟨rfl, rfl, rfl, by decide +kernel, rfl, by decide +kernel, by decide +kernel⟩
abbrev s_Bundle___repr__ : Stmt := clsFn (top 1) 4
abbrev N_Bundle___repr__ : List Str := ["self"]
theorem sc_Bundle___repr__ : FnScope N_Bundle___repr__ ["self"] (defScope s_Bundle___repr__) := ⟨rfl, rfl, rfl, by decide +kernel, rfl, by decide +kernel, by decide +kernel⟩
abbrev forms_Bundle : List Form := [(5, [], [0, 1, 2, 3, 4]), (0, ["copies", "number", "of", "town", "seller"], [3, 4, 1, 2, 0])]
abbrev forms_bundled : List Form := [(2, [], [0, 1])]
structure Adr where
  Bundle : Addr
structure Txt (K : PySem.W.Frag) (mg : Str → Option Value) (c : Adr) : Prop where
  b_bool : mg "bool" = none
  b_enumerate : mg "enumerate" = none
  b_int : mg "int" = none
  b_isinstance : mg "isinstance" = none
  b_len : mg "len" = none
  b_list : mg "list" = none
  b_min : mg "min" = none
  b_range : mg "range" = none
  b_repr : mg "repr" = none
  b_str : mg "str" = none
  m_Bundle : ∃ u, mg "Bundle" = some u ∧ RelV (.ref c.Bundle) u
  fo_Bundle : FmtO K c.Bundle
  cl_Bundle : Cls K c.Bundle
  it_Bundle : InsTy K c.Bundle
  i_Bundle_Bundle : PySem.W.kitOne K (.ref c.Bundle) (.ref c.Bundle) = some true
  nb_Bundle : PySem.W.findIn K (.ref c.Bundle) "__bool__" = some none
  n_Bundle_town : NoAttr K c.Bundle "town"
  n_Bundle_seller : NoAttr K c.Bundle "seller"
  n_Bundle_number : NoAttr K c.Bundle "number"
  n_Bundle_of : NoAttr K c.Bundle "of"
  n_Bundle_copies : NoAttr K c.Bundle "copies"
  kp_Bundle : ∀ T ∈ plainT, PySem.W.kitOne K (.type T) (.ref c.Bundle) = some false
section
variable {P : Program} {w : World} {K : PySem.W.Frag} {mg : Str → Option Value} {base : Heap} {c : Adr}
abbrev bF : List Str := ["town", "seller", "number", "of", "copies"]
structure Bu where
  t : Str
  s : Str
  k : Nat
  n : Nat
  m : Nat
def bunD (C : Addr) (r : Row) : D := .nd (.ins C ["town", "seller", "number", "of", "copies"]) [.v (.str r.t), .v (.str r.s), .v (.int r.k), .v (.int r.n), .v (.int r.c)]
/-- a bundle is made -/
def spMakeB (C : Addr) : DSp := fun ss Q _ => ∃ (a : Addr) (r : Row), ss = [.own false a (.ins C []) [], .d (.v (.str r.t)), .d (.v (.str r.s)), .d (.v (.int r.k)), .d (.v (.int r.n)), .d (.v (.int r.c))] ∧
  Q (rv .non) [.own false a (.ins C bF) [.v (.str r.t), .v (.str r.s), .v (.int r.k), .v (.int r.n), .v (.int r.c)], .d (.v (.str r.t)), .d (.v (.str r.s)), .d (.v (.int r.k)), .d (.v (.int r.n)), .d (.v (.int r.c))]
theorem ok_Bundle___init__ {f : Addr} {fd : FuncData} (T : Txt K mg c) (F : Fun K "__init__" "Bundle.__init__" s_Bundle___init__ f fd) : FnOk P w K mg base (CXE P w) 1 f fd ["self", "town", "seller", "number", "of", "copies"] (upS (spMakeB c.Bundle)) := by
  refine F.okXD sc_Bundle___init__ (fun ss Q X ⟨_, _, h, _⟩ => by rw [h]; rfl) fun cdv A outer s H E hr => ⟨_, _, (pss_cons (ps_fld (pv 0) (pv 1) rfl)
      (pss_cons (ps_fld (pv 0) (pv 2) rfl)
      (pss_cons (ps_fld (pv 0) (pv 3) rfl)
      (pss_cons (ps_fld (pv 0) (pv 4) rfl)
      (pss_one (ps_fld (pv 0) (pv 5) rfl)))))), inferInstance, fun ss Q X h => ?_⟩
  obtain ⟨a, r, rfl, q⟩ := h
  exact ⟨[_, _, _, _, _, _], rfl, ⟨T.cl_Bundle, T.n_Bundle_town, by decide⟩, ⟨T.cl_Bundle, T.n_Bundle_seller, by decide⟩, ⟨T.cl_Bundle, T.n_Bundle_number, by decide⟩, ⟨T.cl_Bundle, T.n_Bundle_of, by decide⟩, ⟨T.cl_Bundle, T.n_Bundle_copies, by decide⟩, rfl, q⟩
def eqR (r u : Row) : Bool := decide (r.t = u.t ∧ r.s = u.s ∧ r.k = u.k ∧ r.n = u.n ∧ r.c = u.c)
def spEqU (C : Addr) : DSp := fun ss Q _ => ∃ (r : Row) (d : D), ss = [.d (bunD C r), .d d] ∧ ((∃ u : Row, d = bunD C u ∧ Q (rv (.bl (eqR r u))) ss) ∨ plainK d ∧ Q (rv (.bl false)) ss)
theorem ok_Bundle___eq__ {f : Addr} {fd : FuncData} (T : Txt K mg c) (F : Fun K "__eq__" "Bundle.__eq__" s_Bundle___eq__ f fd) : FnOk P w K mg base CX0 1 f fd ["self", "other"] (upS (spEqU c.Bundle)) := by
  refine F.okD sc_Bundle___eq__ (fun ss Q X ⟨_, _, h, _⟩ => by rw [h]; rfl) fun cdv A outer s H E hr => ⟨_, _, (pss_cons (ps_if (pt_not (pt_val (pe_callB call_isX (by rfl) T.b_isinstance (by decide +kernel) (pa_cons (pv 1) (pa_cons (pe_globE rfl T.m_Bundle) pa_nil))))) (pss_one (ps_ret pe_bl)) pss_nil)
      (pss_cons (ps_if (PW.pt (pw_or (pt_cmpR op_ne (pe_fld (pv 0) rfl) (pe_fld (pv 1) rfl) (nomark _)) (pw_or1 (pt_cmpR op_ne (pe_fld (pv 0) rfl) (pe_fld (pv 1) rfl) (nomark _))))) (pss_one (ps_ret pe_bl)) pss_nil)
      (pss_one (ps_ret (pe_and (pe_cmpR op_eq (pe_fld (pv 0) rfl) (pe_fld (pv 1) rfl) (nomark _)) (pe_and (pe_cmpR op_eq (pe_fld (pv 0) rfl) (pe_fld (pv 1) rfl) (nomark _)) (pe_one (pe_cmpR op_eq (pe_fld (pv 0) rfl) (pe_fld (pv 1) rfl) (nomark _))))))))), inferInstance, fun ss Q X h => ?_⟩
  obtain ⟨r, d, rfl, q⟩ := h
  refine ⟨[_, _], rfl, ?_⟩
  rcases q with ⟨u, rfl, q⟩ | ⟨hp, q⟩
  · refine ⟨_, _, true, ⟨T.it_Bundle, rfl⟩, rfl, T.i_Bundle_Bundle, ⟨T.cl_Bundle, T.n_Bundle_town⟩, _, rfl, ⟨T.cl_Bundle, T.n_Bundle_town⟩, _, rfl, rfl, ?_⟩
    refine ite2 (fun c0 => ?_) (fun c0 => ?_)
    · have c1 : r.t ≠ u.t := by simpa using c0
      show Q (rv (.bl false)) _
      rw [eqR, decide_eq_false (fun z => c1 z.1)] at q
      exact q
    · have c1 : r.t = u.t := by simpa using c0
      refine ⟨⟨T.cl_Bundle, T.n_Bundle_seller⟩, _, rfl, ⟨T.cl_Bundle, T.n_Bundle_seller⟩, _, rfl, rfl, ?_⟩
      refine ite2 (fun c2 => ?_) (fun c2 => ?_)
      · have c3 : r.s ≠ u.s := by simpa using c2
        show Q (rv (.bl false)) _
        rw [eqR, decide_eq_false (fun z => c3 z.2.1)] at q
        exact q
      · have c3 : r.s = u.s := by simpa using c2
        refine ⟨⟨T.cl_Bundle, T.n_Bundle_number⟩, _, rfl, ⟨T.cl_Bundle, T.n_Bundle_number⟩, _, rfl, rfl, ?_⟩
        have dk : ∀ i j : Int, decide (V.int i = V.int j) = decide (i = j) := fun i j => by rw [decide_eq_decide]; simp
        rw [dk]
        by_cases ck : r.k = u.k
        · rw [decide_eq_true ck]
          refine ⟨⟨T.cl_Bundle, T.n_Bundle_of⟩, _, rfl, ⟨T.cl_Bundle, T.n_Bundle_of⟩, _, rfl, rfl, ?_⟩
          rw [dk]
          by_cases cn : r.n = u.n
          · rw [decide_eq_true cn]
            refine ⟨⟨T.cl_Bundle, T.n_Bundle_copies⟩, _, rfl, ⟨T.cl_Bundle, T.n_Bundle_copies⟩, _, rfl, rfl, ?_⟩
            rw [dk]
            rw [show eqR r u = decide (r.c = u.c) from by rw [eqR, decide_eq_decide]; simp [c1, c3, ck, cn]] at q
            exact q
          · rw [decide_eq_false cn]
            rw [eqR, decide_eq_false (fun z => cn z.2.2.2.1)] at q
            exact q
        · rw [decide_eq_false ck]
          rw [eqR, decide_eq_false (fun z => ck z.2.2.1)] at q
          exact q
  · obtain ⟨t, e1, e2⟩ := isX_plain T.kp_Bundle hp
    exact ⟨t, _, false, e1, rfl, e2, q⟩
def spLenB (C : Addr) : DSp := fun ss Q _ => ∃ r : Row, ss = [.d (bunD C r)] ∧ 0 ≤ r.c ∧ r.c ≤ 2000000 ∧ Q (rv (.int r.c)) ss
theorem ok_Bundle___len__ {f : Addr} {fd : FuncData} (T : Txt K mg c) (F : Fun K "__len__" "Bundle.__len__" s_Bundle___len__ f fd) : FnOk P w K mg base CX0 1 f fd ["self"] (upS (spLenB c.Bundle)) := by
  refine F.okD sc_Bundle___len__ (fun ss Q X ⟨_, h, _⟩ => by rw [h]; rfl) fun cdv A outer s H E hr => ⟨_, _, (pss_one (ps_ret (pe_callB call_lenG (by rfl) T.b_len (by decide +kernel) (pa_cons (pe_callTy call_rng1 (by rfl) T.b_range (by decide +kernel) (pa_cons (pe_fld (pv 0) rfl) pa_nil)) pa_nil)))), inferInstance, fun ss Q X h => ?_⟩
  obtain ⟨r, rfl, h0, h1, q⟩ := h
  refine ⟨[_], rfl, ⟨T.cl_Bundle, T.n_Bundle_copies⟩, _, rfl, by omega, ?_⟩
  have e : ((r.c.toNat : Nat) : Int) = r.c := by omega
  show Q (rv (.int ((r.c.toNat : Nat) : Int))) _
  rw [e]
  exact q
def textB (r : Row) : Str := Str.empty ++ r.t ++ " " ++ r.s ++ " " ++ numS r.k ++ "/" ++ numS r.n ++ " " ++ numS r.c
def RowOk (r : Row) : Prop := NmOk r.t ∧ NmOk r.s ∧ (0 ≤ r.k ∧ r.k ≤ 2000000) ∧ (0 ≤ r.n ∧ r.n ≤ 2000000) ∧ 0 ≤ r.c ∧ r.c ≤ 2000000
theorem sp_len : (" " : Str).length = 1 := by decide +kernel
theorem sl_len : ("/" : Str).length = 1 := by decide +kernel
theorem em_len : (Str.empty).length = 0 := rfl
theorem textB_len {r : Row} (h : RowOk r) : (textB r).length ≤ 200 := by
  obtain ⟨⟨a, _⟩, ⟨b, _⟩, ⟨k0, k1⟩, ⟨n0, n1⟩, c0, c1⟩ := h
  have := num_len k0 k1
  have := num_len n0 n1
  have := num_len c0 c1
  unfold textB
  simp only [strLen_app, sp_len, sl_len, em_len]
  omega
def spStrB (C : Addr) : DSp := fun ss Q _ => ∃ r : Row, ss = [.d (bunD C r)] ∧ RowOk r ∧ Q (rv (.str (textB r))) ss
theorem ok_Bundle___str__ {f : Addr} {fd : FuncData} (T : Txt K mg c) (F : Fun K "__str__" "Bundle.__str__" s_Bundle___str__ f fd) : FnOk P w K mg base CX0 1 f fd ["self"] (upS (spStrB c.Bundle)) := by
  refine F.okD sc_Bundle___str__ (fun ss Q X ⟨_, h, _⟩ => by rw [h]; rfl) fun cdv A outer s H E hr => ⟨_, _, (pss_one (ps_ret (pe_joinedD (pj_cons (pe_fmtSD (pe_fld (pv 0) rfl)) (pj_cons pe_str (pj_cons (pe_fmtSD (pe_fld (pv 0) rfl)) (pj_cons pe_str (pj_cons (pe_fmtID (pe_fld (pv 0) rfl)) (pj_cons pe_str (pj_cons (pe_fmtID (pe_fld (pv 0) rfl)) (pj_cons pe_str (pj_cons (pe_fmtID (pe_fld (pv 0) rfl)) pj_nil)))))))))))), inferInstance, fun ss Q X h => ?_⟩
  obtain ⟨r, rfl, hk, q⟩ := h
  have hl := textB_len hk
  unfold textB at hl
  obtain ⟨⟨a, _⟩, ⟨b, _⟩, ⟨k0, k1⟩, ⟨n0, n1⟩, c0, c1⟩ := hk
  have lk : ((toString r.k : String) : Str).length ≤ 10 := num_len k0 k1
  have ln : ((toString r.n : String) : Str).length ≤ 10 := num_len n0 n1
  have lc : ((toString r.c : String) : Str).length ≤ 10 := num_len c0 c1
  refine ⟨[_], rfl, ⟨T.cl_Bundle, T.n_Bundle_town⟩, _, rfl, smallLe (by omega), smallLe ?_, smallLe ?_, ⟨T.cl_Bundle, T.n_Bundle_seller⟩, _, rfl, smallLe (by omega), smallLe ?_, smallLe ?_, ⟨T.cl_Bundle, T.n_Bundle_number⟩, _, rfl, num_log k0 k1, smallLe ?_, smallLe ?_,
    ⟨T.cl_Bundle, T.n_Bundle_of⟩, _, rfl, num_log n0 n1, smallLe ?_, smallLe ?_, ⟨T.cl_Bundle, T.n_Bundle_copies⟩, _, rfl, num_log c0 c1, smallLe ?_, q⟩
  all_goals
    simp only [strLen_app, sp_len, sl_len, em_len]
    omega
def reprB (r : Row) : Str := Str.empty ++ "Bundle(" ++ textB r ++ ")"
def spReprB (C : Addr) : DSp := fun ss Q _ => ∃ r : Row, ss = [.d (bunD C r)] ∧ RowOk r ∧ Q (rv (.str (reprB r))) ss
theorem ok_Bundle___repr__ {f : Addr} {fd : FuncData} (T : Txt K mg c) (F : Fun K "__repr__" "Bundle.__repr__" s_Bundle___repr__ f fd) (O_Bundle___str__ : OwnM P w K mg base 1 c.Bundle "__str__" ["self"] (upS (spStrB c.Bundle))) : FnOk P w K mg base CX0 4 f fd ["self"] (upS (spReprB c.Bundle)) := by
  refine F.okD sc_Bundle___repr__ (fun ss Q X ⟨_, h, _⟩ => by rw [h]; rfl) fun cdv A outer s H E hr => ⟨_, _, (pss_one (ps_ret (pe_joinedD (pj_cons pe_str (pj_cons (pe_fmtO O_Bundle___str__ T.fo_Bundle (hr.mono (by decide)) (pv 0)) (pj_cons pe_str pj_nil)))))), inferInstance, fun ss Q X h => ?_⟩
  obtain ⟨r, rfl, hk, q⟩ := h
  have hl := textB_len hk
  have l0 : ("Bundle(" : Str).length = 7 := by decide +kernel
  have l2 : (")" : Str).length = 1 := by decide +kernel
  refine ⟨[_], rfl, smallLe ?_, ⟨rfl, r, rfl, hk, _, rfl, _, rfl, smallLe ?_, smallLe ?_, q⟩⟩
  all_goals
    simp only [strLen_app, l0, l2, em_len]
    omega
theorem sqL_same {K : PySem.W.Frag} {H H' : Hp} {a : Addr} {xs : List V} (h : SqL K H a xs) (s : Same H H') : SqL K H' a xs := by
  rcases h with (h | h) | h
  · exact .inl (.inl (s _ _ h))
  · obtain ⟨o, h⟩ := h
    exact .inl (.inr ⟨o, s _ _ h⟩)
  · exact .inr h
theorem ok__law_held {f : Addr} {fd : FuncData} (T : Txt K mg c) (F : Fun K "_law_held" "_law_held" s__law_held f fd) : FnOk P w K mg base CX0 1 f fd ["_law_script"] (spPen K) := by
  refine F.ok sc__law_held (fun vs H Q E h => ?_) (fun cdv A outer s H vs Q E hr h => ?_)
  · obtain ⟨a, ns, rfl, _⟩ := h
    rfl
  · obtain ⟨a, ns, rfl, hS, hl, k⟩ := h
    refine ⟨_, (pss_one (ps_ret (pe_disp (pps_cons pe_str (pe_callTy (show CallR _ _ (rListOf K) from call_list_of) (by rfl) T.b_list (by decide +kernel) (pa_cons (pe_slice sl_list (pv 0) po_none (po_some pe_int)) pa_nil)) (pps_cons pe_str pe_int (pps_cons pe_str pe_int pps_nil))) (by rfl) (by rfl) (fun z => by cases z) (by decide)))), ?_⟩
    refine fun t ht => ?_
    refine ⟨_, rfl, _, rfl, a, _, rfl, sqL_same hS (Same.new ht), fun p hp => ?_⟩
    refine ⟨p, _, rfl, .inl (SqL.of upd_same), fun l hl' => ?_⟩
    have e : cutV (ns.map V.int) none (some 63) = (cutI ns).map V.int := cutI_eq ns
    have ntp : t ≠ p := ne_of_none (o := HO.dK []) upd_same hp
    have e0 : (upd (upd H t (.dK [])) p (HO.lst (cutV (ns.map V.int) none (some 63)))) t = some (.dK []) := (upd_ne ntp).trans upd_same
    have ntl : t ≠ l := ne_of_none e0 hl'
    have hl1 : H l = none := Same.free (Same.new ht) (Same.free (Same.new hp) hl')
    have hp1 : H p = none := Same.free (Same.new ht) hp
    have npl : p ≠ l := ne_of_none (o := HO.lst _) upd_same hl'
    refine ⟨(upd_ne ntl).trans e0, [(kt "cells", .ref l), (kt "at", .int 0), (kt "left", .int 0)], rfl, (by show 3 ≤ 15; decide), ?_⟩
    refine k t l _ ⟨cutI ns, 0, 0, upd_same, ?_, ?_, by omega, by omega, by omega⟩ ht hl1 ?_
    · rw [upd_ne ntl.symm, upd_same, e]
    · exact Nat.le_trans (cutI_len ns) hl
    · intro b o eb
      have n1 : b ≠ t := ne_of_none eb ht
      have n2 : b ≠ p := ne_of_none eb hp1
      have n3 : b ≠ l := ne_of_none eb hl1
      rw [upd_ne n1, upd_ne n3, upd_ne n2, upd_ne n1]
      exact eb
theorem ok__law_take1 {f : Addr} {fd : FuncData} (T : Txt K mg c) (F : Fun K "_law_take" "_law_take" s__law_take f fd) : FnOk P w K mg base CX0 1 f fd ["_law_held_here", "_law_many"] spDrawP := by
  refine F.ok sc__law_take (fun vs H Q E h => ?_) (fun cdv A outer s H vs Q E hr h => ?_)
  · obtain ⟨t, l, n, many, rfl, _⟩ := h
    rfl
  · obtain ⟨t, l, n, many, rfl, TA, hn, hm0, hm1, k⟩ := h
    obtain ⟨cells, turn, rest, h1, h2, hc, ht0, htn, hr0⟩ := TA.ex
    have ntl : t ≠ l := ne_of h1 h2 (by intro z; cases z)
    refine ⟨_, (pss_cons (ps_if (pt_cmpR op_gt (pe_dget (hu_of hr) (pv 0) pe_str (fun _ _ => rfl)) pe_int (nomark _)) (pss_cons (ps_set (i := 2) sc__law_take.nd rfl (by first | exact Or.inl rfl | exact Or.inr rfl) (pe_op op_mod (pe_dget (hu_of hr) (pv 0) pe_str (fun _ _ => rfl)) (pv 1)))
        (pss_cons (ps_dput (hu_of hr) (pv 0) pe_str (pe_op op_fdiv (pe_dget (hu_of hr) (pv 0) pe_str (fun _ _ => rfl)) (pv 1)) rfl)
        (pss_one (ps_ret (pv 2))))) pss_nil)
      (pss_cons (ps_set (i := 3) sc__law_take.nd rfl (by first | exact Or.inl rfl | exact Or.inr rfl) (pe_dget (hu_of hr) (pv 0) pe_str (fun _ _ => rfl)))
      (pss_cons (ps_dput (hu_of hr) (pv 0) pe_str (pe_op op_add (pv 3) pe_int) rfl)
      (pss_cons (ps_set (i := 4) sc__law_take.nd rfl (by first | exact Or.inl rfl | exact Or.inr rfl) pe_int)
      (pss_cons (ps_if (pt_cmpR (op_neD hr.units) (pe_dget (hu_of hr) (pv 0) pe_str (fun _ _ => rfl)) (pe_lst pa_nil) (nomark _)) (pss_one (ps_set (i := 4) sc__law_take.nd rfl (by first | exact Or.inl rfl | exact Or.inr rfl) (pe_ix ix_list (pe_dget (hu_of hr) (pv 0) pe_str (fun _ _ => rfl)) (pe_op op_mod (pv 3) (pe_callB (show CallR _ _ (rLenQ K) from call_len_seq) (by rfl) T.b_len (by decide +kernel) (pa_cons (pe_dget (hu_of hr) (pv 0) pe_str (fun _ _ => rfl)) pa_nil))) (fun _ _ => rfl)))) pss_nil)
      (pss_cons (ps_if (PW.pt (pw_and (pt_cmpR op_lt (pv 3) (pe_callB (show CallR _ _ (rLenQ K) from call_len_seq) (by rfl) T.b_len (by decide +kernel) (pa_cons (pe_dget (hu_of hr) (pv 0) pe_str (fun _ _ => rfl)) pa_nil)) (nomark _)) (pw_and1 (pt_cmpR op_ge (pv 4) (pe_op op_pow pe_int pe_int) (nomark _))))) (pss_cons (ps_dput (hu_of hr) (pv 0) pe_str (pe_op op_fdiv (pe_op op_sub (pv 4) (pe_op op_pow pe_int pe_int)) (pv 1)) rfl)
        (pss_one (ps_ret (pe_op op_mod (pe_op op_sub (pv 4) (pe_op op_pow pe_int pe_int)) (pv 1))))) pss_nil)
      (pss_cons (ps_set (i := 5) sc__law_take.nd rfl (by first | exact Or.inl rfl | exact Or.inr rfl) (pe_op op_mod (pe_op op_add (pe_op op_add (pe_op op_add (pe_op op_mul (pe_op op_mod (pv 4) pe_int) pe_int) (pe_op op_mul (pe_op op_mul pe_int (pv 3)) (pv 3))) (pe_op op_mul pe_int (pv 3))) pe_int) pe_int))
      (pss_cons (ps_set (i := 5) sc__law_take.nd rfl (by first | exact Or.inl rfl | exact Or.inr rfl) (pe_op op_mod (pe_op op_add (pe_op op_add (pe_op op_mul (pv 5) (pv 5)) (pe_op op_mul pe_int (pv 5))) pe_int) pe_int))
      (pss_cons (ps_if (pt_cmpR op_gt (pv 1) (pe_op op_pow pe_int pe_int) (nomark _)) pss_never pss_nil)
      (pss_one (ps_ret (pe_op op_mod (pe_op op_fdiv (pv 5) pe_int) (pv 1))))))))))))), ?_⟩
    refine ⟨_, rfl, t, _, rfl, DGet.k (k := kt "left") h1, _, _, rfl, rfl, _, rfl, ?_⟩
    refine ite2 (fun c0 => ?_) (fun c0 => ?_)
    · refine ⟨_, rfl, t, _, rfl, DGet.k (k := kt "left") h1, _, rfl, _, _, rfl, rfl, hm0, ?_⟩
      refine ⟨_, rfl, t, _, rfl, DGet.k (k := kt "left") h1, _, rfl, _, _, rfl, rfl, ⟨hm0, by omega⟩, _, rfl, t, _, rfl, DPut.k (k := kt "left") h1 (by show 3 < sizeLine; decide), ?_⟩
      refine ⟨_, rfl, ?_⟩
      refine k (rest % many) _ (Int.emod_nonneg _ (by omega)) (Int.emod_lt_of_pos _ hm0) ⟨cells, turn, rest / many, upd_same, by rw [upd_ne ntl.symm]; exact h2, hc, ht0, by omega, Int.ediv_nonneg hr0 (by omega)⟩ Keep.at
    · refine ⟨_, rfl, t, _, rfl, DGet.k (k := kt "at") h1, ?_⟩
      refine ⟨_, rfl, _, _, rfl, rfl, _, rfl, t, _, rfl, DPut.k (k := kt "at") h1 (by show 3 < sizeLine; decide), ?_⟩
      have g1 : (upd H t (.dK (putK [(kt "cells", V.ref l), (kt "at", V.int turn), (kt "left", V.int rest)] (kt "at") (V.int (turn + 1))))) t = some (.dK [(kt "cells", V.ref l), (kt "at", V.int (turn + 1)), (kt "left", V.int rest)]) := upd_same
      have g2 : (upd H t (.dK (putK [(kt "cells", V.ref l), (kt "at", V.int turn), (kt "left", V.int rest)] (kt "at") (V.int (turn + 1))))) l = some (HO.lst (cells.map V.int)) := (upd_ne ntl.symm).trans h2
      have gk : Keep t H (upd H t (.dK (putK [(kt "cells", V.ref l), (kt "at", V.int turn), (kt "left", V.int rest)] (kt "at") (V.int (turn + 1))))) := Keep.at
      generalize upd H t (.dK (putK [(kt "cells", V.ref l), (kt "at", V.int turn), (kt "left", V.int rest)] (kt "at") (V.int (turn + 1)))) = H1 at *
      refine ⟨_, rfl, t, _, rfl, DGet.k (k := kt "cells") g1, (by show 0 ≤ sizeLine; decide), fun p hp => ?_⟩
      have gk2 := gk.trans (Keep.new (t := t) (o := .lst []) hp)
      have g3 := Same.new (o := .lst []) hp _ _ g1
      have g4 := Same.new (o := .lst []) hp _ _ g2
      have gp : (upd H1 p (HO.lst [])) p = some (HO.lst []) := upd_same
      generalize upd H1 p (HO.lst []) = H2 at *
      refine rNeD_flat (SqL.of g4) (SqL.of gp) (okV_ints _) rfl ⟨_, rfl, ?_⟩
      have hL : (cells.map V.int).length = cells.length := List.length_map _
      rw [eqLV_nil]
      refine ite2 (fun c1 => ?_) (fun c1 => ?_)
      · have hpos : 0 < cells.length := by
          cases cells with
          | nil => simp at c1
          | cons a r => simp
        obtain ⟨cell, hcell⟩ := int_at (cells := cells) (j := turn % cells.length) (Int.emod_nonneg _ (by omega)) (Int.emod_lt_of_pos _ (by omega))
        refine ⟨_, rfl, t, _, rfl, DGet.k (k := kt "cells") g3, _, rfl, _, rfl, t, _, rfl, DGet.k (k := kt "cells") g3, l, _, rfl, .inl (SqL.of g4), _, _, rfl, rfl, (by rw [hL]; omega), l, _, _, _, rfl, rfl, SqL.of g4, (by rw [hL]; exact hcell), ?_⟩
        clear hcell
        refine ⟨_, rfl, _, rfl, t, _, rfl, DGet.k (k := kt "cells") g3, l, _, rfl, .inl (SqL.of g4), _, _, rfl, rfl, _, rfl, ?_⟩
        refine ite_hold ?fin (fun c2 fin => ?_)
        case fin =>
          refine ite_not (by simp) ?_
          have b0 := Int.emod_nonneg (cell) (show (2147483587 : Int) ≠ 0 by decide)
          have b1 := Int.emod_lt_of_pos (cell) (show (0 : Int) < 2147483587 by decide)
          refine ⟨_, rfl, _, _, rfl, rfl, (by show (0 : Int) < 2147483587; decide), _, _, rfl, rfl, .inl ⟨by omega, by omega⟩, _, rfl, _, _, rfl, rfl, .inl ⟨by decide, by decide⟩, _, rfl, _, _, rfl, rfl, .inl ⟨by omega, by omega⟩, _, _, rfl, rfl, _, rfl, _, _, rfl, rfl, .inl ⟨by decide, by decide⟩, _, _, rfl, rfl, _, _, rfl, rfl, _, _, rfl, rfl, (by show (0 : Int) < 2147483629; decide), ?_⟩
          have d0 := Int.emod_nonneg ((cell) % 2147483587 * 40692 + 7907 * turn * turn + 104729 * turn + 17) (show (2147483629 : Int) ≠ 0 by decide)
          have d1 := Int.emod_lt_of_pos ((cell) % 2147483587 * 40692 + 7907 * turn * turn + 104729 * turn + 17) (show (0 : Int) < 2147483629 by decide)
          generalize ((cell) % 2147483587 * 40692 + 7907 * turn * turn + 104729 * turn + 17) % 2147483629 = n1 at *
          refine ⟨_, rfl, _, rfl, _, _, rfl, rfl, .inl ⟨by omega, by omega⟩, _, rfl, _, _, rfl, rfl, .inl ⟨by decide, by decide⟩, _, _, rfl, rfl, _, _, rfl, rfl, _, _, rfl, rfl, (by show (0 : Int) < 2147483647; decide), ?_⟩
          have e0 := Int.emod_nonneg (n1 * n1 + 48271 * n1 + 31) (show (2147483647 : Int) ≠ 0 by decide)
          have e1 := Int.emod_lt_of_pos (n1 * n1 + 48271 * n1 + 31) (show (0 : Int) < 2147483647 by decide)
          generalize (n1 * n1 + 48271 * n1 + 31) % 2147483647 = n2 at *
          have p6 : (10 : Int) ^ (6 : Int).toNat = 1000000 := by decide
          refine ⟨_, rfl, _, _, rfl, rfl, ⟨by decide, by decide, by decide⟩, _, _, rfl, rfl, _, rfl, ite_not (fun z => ?_) ?_⟩
          · have z' := of_decide_eq_true z
            omega
          refine ⟨_, rfl, _, _, rfl, rfl, ⟨by decide, by decide⟩, _, rfl, _, _, rfl, rfl, hm0, ?_⟩
          exact k _ _ (Int.emod_nonneg _ (by omega)) (Int.emod_lt_of_pos _ hm0) ⟨cells, turn + 1, rest, g3, g4, hc, by omega, by omega, hr0⟩ gk2
        · refine ⟨_, rfl, _, _, rfl, rfl, ⟨by decide, by decide, by decide⟩, _, _, rfl, rfl, _, rfl, ?_⟩
          refine ite2 (fun c3 => ?_) (fun c3 => fin)
          have c3' : (10 : Int) ^ (18 : Int).toNat ≤ cell := of_decide_eq_true c3
          refine ⟨_, rfl, _, _, rfl, rfl, ⟨by decide, by decide, by decide⟩, _, _, rfl, rfl, _, rfl, _, _, rfl, rfl, ⟨hm0, by omega⟩, _, rfl, t, _, rfl, DPut.k (k := kt "left") g3 (by show 3 < sizeLine; decide), ?_⟩
          refine ⟨_, rfl, _, _, rfl, rfl, ⟨by decide, by decide, by decide⟩, _, _, rfl, rfl, _, rfl, _, _, rfl, rfl, hm0, ?_⟩
          refine k _ _ (Int.emod_nonneg _ (by omega)) (Int.emod_lt_of_pos _ hm0) ⟨cells, turn + 1, _, upd_same, by rw [upd_ne ntl.symm]; exact g4, hc, by omega, by omega, Int.ediv_nonneg ?_ (by omega)⟩ (gk2.trans Keep.at)
          omega
      · skip
        refine ⟨_, rfl, _, rfl, t, _, rfl, DGet.k (k := kt "cells") g3, l, _, rfl, .inl (SqL.of g4), _, _, rfl, rfl, _, rfl, ?_⟩
        refine ite_hold ?fin (fun c2 fin => ?_)
        case fin =>
          refine ite_not (by simp) ?_
          have b0 := Int.emod_nonneg (5) (show (2147483587 : Int) ≠ 0 by decide)
          have b1 := Int.emod_lt_of_pos (5) (show (0 : Int) < 2147483587 by decide)
          refine ⟨_, rfl, _, _, rfl, rfl, (by show (0 : Int) < 2147483587; decide), _, _, rfl, rfl, .inl ⟨by omega, by omega⟩, _, rfl, _, _, rfl, rfl, .inl ⟨by decide, by decide⟩, _, rfl, _, _, rfl, rfl, .inl ⟨by omega, by omega⟩, _, _, rfl, rfl, _, rfl, _, _, rfl, rfl, .inl ⟨by decide, by decide⟩, _, _, rfl, rfl, _, _, rfl, rfl, _, _, rfl, rfl, (by show (0 : Int) < 2147483629; decide), ?_⟩
          have d0 := Int.emod_nonneg ((5) % 2147483587 * 40692 + 7907 * turn * turn + 104729 * turn + 17) (show (2147483629 : Int) ≠ 0 by decide)
          have d1 := Int.emod_lt_of_pos ((5) % 2147483587 * 40692 + 7907 * turn * turn + 104729 * turn + 17) (show (0 : Int) < 2147483629 by decide)
          generalize ((5) % 2147483587 * 40692 + 7907 * turn * turn + 104729 * turn + 17) % 2147483629 = n1 at *
          refine ⟨_, rfl, _, rfl, _, _, rfl, rfl, .inl ⟨by omega, by omega⟩, _, rfl, _, _, rfl, rfl, .inl ⟨by decide, by decide⟩, _, _, rfl, rfl, _, _, rfl, rfl, _, _, rfl, rfl, (by show (0 : Int) < 2147483647; decide), ?_⟩
          have e0 := Int.emod_nonneg (n1 * n1 + 48271 * n1 + 31) (show (2147483647 : Int) ≠ 0 by decide)
          have e1 := Int.emod_lt_of_pos (n1 * n1 + 48271 * n1 + 31) (show (0 : Int) < 2147483647 by decide)
          generalize (n1 * n1 + 48271 * n1 + 31) % 2147483647 = n2 at *
          have p6 : (10 : Int) ^ (6 : Int).toNat = 1000000 := by decide
          refine ⟨_, rfl, _, _, rfl, rfl, ⟨by decide, by decide, by decide⟩, _, _, rfl, rfl, _, rfl, ite_not (fun z => ?_) ?_⟩
          · have z' := of_decide_eq_true z
            omega
          refine ⟨_, rfl, _, _, rfl, rfl, ⟨by decide, by decide⟩, _, rfl, _, _, rfl, rfl, hm0, ?_⟩
          exact k _ _ (Int.emod_nonneg _ (by omega)) (Int.emod_lt_of_pos _ hm0) ⟨cells, turn + 1, rest, g3, g4, hc, by omega, by omega, hr0⟩ gk2
        · refine ⟨_, rfl, _, _, rfl, rfl, ⟨by decide, by decide, by decide⟩, _, _, rfl, rfl, _, rfl, ?_⟩
          refine ite2 (fun c3 => ?_) (fun c3 => fin)
          have c3' : (10 : Int) ^ (18 : Int).toNat ≤ 5 := of_decide_eq_true c3
          refine ⟨_, rfl, _, _, rfl, rfl, ⟨by decide, by decide, by decide⟩, _, _, rfl, rfl, _, rfl, _, _, rfl, rfl, ⟨hm0, by omega⟩, _, rfl, t, _, rfl, DPut.k (k := kt "left") g3 (by show 3 < sizeLine; decide), ?_⟩
          refine ⟨_, rfl, _, _, rfl, rfl, ⟨by decide, by decide, by decide⟩, _, _, rfl, rfl, _, rfl, _, _, rfl, rfl, hm0, ?_⟩
          refine k _ _ (Int.emod_nonneg _ (by omega)) (Int.emod_lt_of_pos _ hm0) ⟨cells, turn + 1, _, upd_same, by rw [upd_ne ntl.symm]; exact g4, hc, by omega, by omega, Int.ediv_nonneg ?_ (by omega)⟩ (gk2.trans Keep.at)
          omega
def spTakeX : Sp := fun vs H Q _ => ∃ (t l : Addr) (n : Nat) (many : Int), vs = [.ref t, .int many] ∧ PenAt n t l H ∧ n < 90000 ∧ 0 < many ∧ many ≤ 100000000 ∧
  ∀ (r : Int) (H' : Hp), 0 ≤ r → r < many → PenAt (n + 2) t l H' → Keep t H H' → Q (.int r) H'
theorem ok__law_take2r {f : Addr} {fd : FuncData} (T : Txt K mg c) (F : Fun K "_law_take" "_law_take" s__law_take f fd) (C__law_take : Callee P w K mg base 1 "_law_take" ["_law_held_here", "_law_many"] spDrawP) : FnOk P w K mg base CX0 2 f fd ["_law_held_here", "_law_many"] spTakeX := by
  refine F.ok sc__law_take (fun vs H Q E h => ?_) (fun cdv A outer s H vs Q E hr h => ?_)
  · obtain ⟨t, l, n, many, rfl, _⟩ := h
    rfl
  · obtain ⟨t, l, n, many, rfl, TA, hn, hm0, hm1, k⟩ := h
    obtain ⟨cells, turn, rest, h1, h2, hc, ht0, htn, hr0⟩ := TA.ex
    have ntl : t ≠ l := ne_of h1 h2 (by intro z; cases z)
    refine ⟨_, (pss_cons (ps_if (pt_cmpR op_gt (pe_dget (hu_of hr) (pv 0) pe_str (fun _ _ => rfl)) pe_int (nomark _)) (pss_cons (ps_set (i := 2) sc__law_take.nd rfl (by first | exact Or.inl rfl | exact Or.inr rfl) (pe_op op_mod (pe_dget (hu_of hr) (pv 0) pe_str (fun _ _ => rfl)) (pv 1)))
        (pss_cons (ps_dput (hu_of hr) (pv 0) pe_str (pe_op op_fdiv (pe_dget (hu_of hr) (pv 0) pe_str (fun _ _ => rfl)) (pv 1)) rfl)
        (pss_one (ps_ret (pv 2))))) pss_nil)
      (pss_cons (ps_set (i := 3) sc__law_take.nd rfl (by first | exact Or.inl rfl | exact Or.inr rfl) (pe_dget (hu_of hr) (pv 0) pe_str (fun _ _ => rfl)))
      (pss_cons (ps_dput (hu_of hr) (pv 0) pe_str (pe_op op_add (pv 3) pe_int) rfl)
      (pss_cons (ps_set (i := 4) sc__law_take.nd rfl (by first | exact Or.inl rfl | exact Or.inr rfl) pe_int)
      (pss_cons (ps_if (pt_cmpR (op_neD hr.units) (pe_dget (hu_of hr) (pv 0) pe_str (fun _ _ => rfl)) (pe_lst pa_nil) (nomark _)) (pss_one (ps_set (i := 4) sc__law_take.nd rfl (by first | exact Or.inl rfl | exact Or.inr rfl) (pe_ix ix_list (pe_dget (hu_of hr) (pv 0) pe_str (fun _ _ => rfl)) (pe_op op_mod (pv 3) (pe_callB (show CallR _ _ (rLenQ K) from call_len_seq) (by rfl) T.b_len (by decide +kernel) (pa_cons (pe_dget (hu_of hr) (pv 0) pe_str (fun _ _ => rfl)) pa_nil))) (fun _ _ => rfl)))) pss_nil)
      (pss_cons (ps_if (PW.pt (pw_and (pt_cmpR op_lt (pv 3) (pe_callB (show CallR _ _ (rLenQ K) from call_len_seq) (by rfl) T.b_len (by decide +kernel) (pa_cons (pe_dget (hu_of hr) (pv 0) pe_str (fun _ _ => rfl)) pa_nil)) (nomark _)) (pw_and1 (pt_cmpR op_ge (pv 4) (pe_op op_pow pe_int pe_int) (nomark _))))) (pss_cons (ps_dput (hu_of hr) (pv 0) pe_str (pe_op op_fdiv (pe_op op_sub (pv 4) (pe_op op_pow pe_int pe_int)) (pv 1)) rfl)
        (pss_one (ps_ret (pe_op op_mod (pe_op op_sub (pv 4) (pe_op op_pow pe_int pe_int)) (pv 1))))) pss_nil)
      (pss_cons (ps_set (i := 5) sc__law_take.nd rfl (by first | exact Or.inl rfl | exact Or.inr rfl) (pe_op op_mod (pe_op op_add (pe_op op_add (pe_op op_add (pe_op op_mul (pe_op op_mod (pv 4) pe_int) pe_int) (pe_op op_mul (pe_op op_mul pe_int (pv 3)) (pv 3))) (pe_op op_mul pe_int (pv 3))) pe_int) pe_int))
      (pss_cons (ps_set (i := 5) sc__law_take.nd rfl (by first | exact Or.inl rfl | exact Or.inr rfl) (pe_op op_mod (pe_op op_add (pe_op op_add (pe_op op_mul (pv 5) (pv 5)) (pe_op op_mul pe_int (pv 5))) pe_int) pe_int))
      (pss_cons (ps_if (pt_cmpR op_gt (pv 1) (pe_op op_pow pe_int pe_int) (nomark _)) (pss_one (ps_ret (pe_op op_mod (pe_op op_add (pe_op op_mod (pe_op op_fdiv (pv 5) pe_int) (pe_op op_pow pe_int pe_int)) (pe_op op_mul (pe_op op_pow pe_int pe_int) (pe_callC C__law_take hr rfl (pa_cons (pv 0) (pa_cons (pe_op op_add (pe_op op_fdiv (pv 1) (pe_op op_pow pe_int pe_int)) pe_int) pa_nil))))) (pv 1)))) pss_nil)
      (pss_one (ps_ret (pe_op op_mod (pe_op op_fdiv (pv 5) pe_int) (pv 1))))))))))))), ?_⟩
    refine ⟨_, rfl, t, _, rfl, DGet.k (k := kt "left") h1, _, _, rfl, rfl, _, rfl, ?_⟩
    refine ite2 (fun c0 => ?_) (fun c0 => ?_)
    · refine ⟨_, rfl, t, _, rfl, DGet.k (k := kt "left") h1, _, rfl, _, _, rfl, rfl, hm0, ?_⟩
      refine ⟨_, rfl, t, _, rfl, DGet.k (k := kt "left") h1, _, rfl, _, _, rfl, rfl, ⟨hm0, by omega⟩, _, rfl, t, _, rfl, DPut.k (k := kt "left") h1 (by show 3 < sizeLine; decide), ?_⟩
      refine ⟨_, rfl, ?_⟩
      refine k (rest % many) _ (Int.emod_nonneg _ (by omega)) (Int.emod_lt_of_pos _ hm0) ⟨cells, turn, rest / many, upd_same, by rw [upd_ne ntl.symm]; exact h2, hc, ht0, by omega, Int.ediv_nonneg hr0 (by omega)⟩ Keep.at
    · refine ⟨_, rfl, t, _, rfl, DGet.k (k := kt "at") h1, ?_⟩
      refine ⟨_, rfl, _, _, rfl, rfl, _, rfl, t, _, rfl, DPut.k (k := kt "at") h1 (by show 3 < sizeLine; decide), ?_⟩
      have g1 : (upd H t (.dK (putK [(kt "cells", V.ref l), (kt "at", V.int turn), (kt "left", V.int rest)] (kt "at") (V.int (turn + 1))))) t = some (.dK [(kt "cells", V.ref l), (kt "at", V.int (turn + 1)), (kt "left", V.int rest)]) := upd_same
      have g2 : (upd H t (.dK (putK [(kt "cells", V.ref l), (kt "at", V.int turn), (kt "left", V.int rest)] (kt "at") (V.int (turn + 1))))) l = some (HO.lst (cells.map V.int)) := (upd_ne ntl.symm).trans h2
      have gk : Keep t H (upd H t (.dK (putK [(kt "cells", V.ref l), (kt "at", V.int turn), (kt "left", V.int rest)] (kt "at") (V.int (turn + 1))))) := Keep.at
      generalize upd H t (.dK (putK [(kt "cells", V.ref l), (kt "at", V.int turn), (kt "left", V.int rest)] (kt "at") (V.int (turn + 1)))) = H1 at *
      refine ⟨_, rfl, t, _, rfl, DGet.k (k := kt "cells") g1, (by show 0 ≤ sizeLine; decide), fun p hp => ?_⟩
      have gk2 := gk.trans (Keep.new (t := t) (o := .lst []) hp)
      have g3 := Same.new (o := .lst []) hp _ _ g1
      have g4 := Same.new (o := .lst []) hp _ _ g2
      have gp : (upd H1 p (HO.lst [])) p = some (HO.lst []) := upd_same
      generalize upd H1 p (HO.lst []) = H2 at *
      refine rNeD_flat (SqL.of g4) (SqL.of gp) (okV_ints _) rfl ⟨_, rfl, ?_⟩
      have hL : (cells.map V.int).length = cells.length := List.length_map _
      rw [eqLV_nil]
      refine ite2 (fun c1 => ?_) (fun c1 => ?_)
      · have hpos : 0 < cells.length := by
          cases cells with
          | nil => simp at c1
          | cons a r => simp
        obtain ⟨cell, hcell⟩ := int_at (cells := cells) (j := turn % cells.length) (Int.emod_nonneg _ (by omega)) (Int.emod_lt_of_pos _ (by omega))
        refine ⟨_, rfl, t, _, rfl, DGet.k (k := kt "cells") g3, _, rfl, _, rfl, t, _, rfl, DGet.k (k := kt "cells") g3, l, _, rfl, .inl (SqL.of g4), _, _, rfl, rfl, (by rw [hL]; omega), l, _, _, _, rfl, rfl, SqL.of g4, (by rw [hL]; exact hcell), ?_⟩
        clear hcell
        refine ⟨_, rfl, _, rfl, t, _, rfl, DGet.k (k := kt "cells") g3, l, _, rfl, .inl (SqL.of g4), _, _, rfl, rfl, _, rfl, ?_⟩
        refine ite_hold ?fin (fun c2 fin => ?_)
        case fin =>
          refine ite_not (by simp) ?_
          have b0 := Int.emod_nonneg (cell) (show (2147483587 : Int) ≠ 0 by decide)
          have b1 := Int.emod_lt_of_pos (cell) (show (0 : Int) < 2147483587 by decide)
          refine ⟨_, rfl, _, _, rfl, rfl, (by show (0 : Int) < 2147483587; decide), _, _, rfl, rfl, .inl ⟨by omega, by omega⟩, _, rfl, _, _, rfl, rfl, .inl ⟨by decide, by decide⟩, _, rfl, _, _, rfl, rfl, .inl ⟨by omega, by omega⟩, _, _, rfl, rfl, _, rfl, _, _, rfl, rfl, .inl ⟨by decide, by decide⟩, _, _, rfl, rfl, _, _, rfl, rfl, _, _, rfl, rfl, (by show (0 : Int) < 2147483629; decide), ?_⟩
          have d0 := Int.emod_nonneg ((cell) % 2147483587 * 40692 + 7907 * turn * turn + 104729 * turn + 17) (show (2147483629 : Int) ≠ 0 by decide)
          have d1 := Int.emod_lt_of_pos ((cell) % 2147483587 * 40692 + 7907 * turn * turn + 104729 * turn + 17) (show (0 : Int) < 2147483629 by decide)
          generalize ((cell) % 2147483587 * 40692 + 7907 * turn * turn + 104729 * turn + 17) % 2147483629 = n1 at *
          refine ⟨_, rfl, _, rfl, _, _, rfl, rfl, .inl ⟨by omega, by omega⟩, _, rfl, _, _, rfl, rfl, .inl ⟨by decide, by decide⟩, _, _, rfl, rfl, _, _, rfl, rfl, _, _, rfl, rfl, (by show (0 : Int) < 2147483647; decide), ?_⟩
          have e0 := Int.emod_nonneg (n1 * n1 + 48271 * n1 + 31) (show (2147483647 : Int) ≠ 0 by decide)
          have e1 := Int.emod_lt_of_pos (n1 * n1 + 48271 * n1 + 31) (show (0 : Int) < 2147483647 by decide)
          generalize (n1 * n1 + 48271 * n1 + 31) % 2147483647 = n2 at *
          have p6 : (10 : Int) ^ (6 : Int).toNat = 1000000 := by decide
          refine ⟨_, rfl, _, _, rfl, rfl, ⟨by decide, by decide, by decide⟩, _, _, rfl, rfl, _, rfl, ?_⟩
          refine ite2 (fun z => ?_) (fun z => ?_)
          · have z' : (10 : Int) ^ (6 : Int).toNat < many := of_decide_eq_true z
            refine ⟨_, rfl, _, _, rfl, rfl, ⟨by decide, by decide⟩, _, _, rfl, rfl, ⟨by decide, by decide, by decide⟩, _, _, rfl, rfl, (by show (0 : Int) < 10 ^ (6 : Int).toNat; decide), _, _, rfl, rfl, ⟨by decide, by decide, by decide⟩, _, rfl, _, rfl, _, _, rfl, rfl, ⟨by decide, by decide, by decide⟩, _, _, rfl, rfl, ⟨by decide, by decide⟩, _, _, rfl, rfl, ?_⟩
            refine ⟨t, l, n + 1, _, rfl, ⟨cells, turn + 1, rest, g3, g4, hc, by omega, by omega, hr0⟩, by omega, by rw [p6]; omega, by rw [p6]; omega, fun r H3 r0 r1 T3 K3 => ?_⟩
            refine ⟨_, _, rfl, rfl, .inl ⟨by decide, by decide⟩, _, _, rfl, rfl, _, rfl, _, _, rfl, rfl, hm0, ?_⟩
            exact k _ _ (Int.emod_nonneg _ (by omega)) (Int.emod_lt_of_pos _ hm0) T3 (gk2.trans K3)
          refine ⟨_, rfl, _, _, rfl, rfl, ⟨by decide, by decide⟩, _, rfl, _, _, rfl, rfl, hm0, ?_⟩
          exact k _ _ (Int.emod_nonneg _ (by omega)) (Int.emod_lt_of_pos _ hm0) ⟨cells, turn + 1, rest, g3, g4, hc, by omega, by omega, hr0⟩ gk2
        · refine ⟨_, rfl, _, _, rfl, rfl, ⟨by decide, by decide, by decide⟩, _, _, rfl, rfl, _, rfl, ?_⟩
          refine ite2 (fun c3 => ?_) (fun c3 => fin)
          have c3' : (10 : Int) ^ (18 : Int).toNat ≤ cell := of_decide_eq_true c3
          refine ⟨_, rfl, _, _, rfl, rfl, ⟨by decide, by decide, by decide⟩, _, _, rfl, rfl, _, rfl, _, _, rfl, rfl, ⟨hm0, by omega⟩, _, rfl, t, _, rfl, DPut.k (k := kt "left") g3 (by show 3 < sizeLine; decide), ?_⟩
          refine ⟨_, rfl, _, _, rfl, rfl, ⟨by decide, by decide, by decide⟩, _, _, rfl, rfl, _, rfl, _, _, rfl, rfl, hm0, ?_⟩
          refine k _ _ (Int.emod_nonneg _ (by omega)) (Int.emod_lt_of_pos _ hm0) ⟨cells, turn + 1, _, upd_same, by rw [upd_ne ntl.symm]; exact g4, hc, by omega, by omega, Int.ediv_nonneg ?_ (by omega)⟩ (gk2.trans Keep.at)
          omega
      · skip
        refine ⟨_, rfl, _, rfl, t, _, rfl, DGet.k (k := kt "cells") g3, l, _, rfl, .inl (SqL.of g4), _, _, rfl, rfl, _, rfl, ?_⟩
        refine ite_hold ?fin (fun c2 fin => ?_)
        case fin =>
          refine ite_not (by simp) ?_
          have b0 := Int.emod_nonneg (5) (show (2147483587 : Int) ≠ 0 by decide)
          have b1 := Int.emod_lt_of_pos (5) (show (0 : Int) < 2147483587 by decide)
          refine ⟨_, rfl, _, _, rfl, rfl, (by show (0 : Int) < 2147483587; decide), _, _, rfl, rfl, .inl ⟨by omega, by omega⟩, _, rfl, _, _, rfl, rfl, .inl ⟨by decide, by decide⟩, _, rfl, _, _, rfl, rfl, .inl ⟨by omega, by omega⟩, _, _, rfl, rfl, _, rfl, _, _, rfl, rfl, .inl ⟨by decide, by decide⟩, _, _, rfl, rfl, _, _, rfl, rfl, _, _, rfl, rfl, (by show (0 : Int) < 2147483629; decide), ?_⟩
          have d0 := Int.emod_nonneg ((5) % 2147483587 * 40692 + 7907 * turn * turn + 104729 * turn + 17) (show (2147483629 : Int) ≠ 0 by decide)
          have d1 := Int.emod_lt_of_pos ((5) % 2147483587 * 40692 + 7907 * turn * turn + 104729 * turn + 17) (show (0 : Int) < 2147483629 by decide)
          generalize ((5) % 2147483587 * 40692 + 7907 * turn * turn + 104729 * turn + 17) % 2147483629 = n1 at *
          refine ⟨_, rfl, _, rfl, _, _, rfl, rfl, .inl ⟨by omega, by omega⟩, _, rfl, _, _, rfl, rfl, .inl ⟨by decide, by decide⟩, _, _, rfl, rfl, _, _, rfl, rfl, _, _, rfl, rfl, (by show (0 : Int) < 2147483647; decide), ?_⟩
          have e0 := Int.emod_nonneg (n1 * n1 + 48271 * n1 + 31) (show (2147483647 : Int) ≠ 0 by decide)
          have e1 := Int.emod_lt_of_pos (n1 * n1 + 48271 * n1 + 31) (show (0 : Int) < 2147483647 by decide)
          generalize (n1 * n1 + 48271 * n1 + 31) % 2147483647 = n2 at *
          have p6 : (10 : Int) ^ (6 : Int).toNat = 1000000 := by decide
          refine ⟨_, rfl, _, _, rfl, rfl, ⟨by decide, by decide, by decide⟩, _, _, rfl, rfl, _, rfl, ?_⟩
          refine ite2 (fun z => ?_) (fun z => ?_)
          · have z' : (10 : Int) ^ (6 : Int).toNat < many := of_decide_eq_true z
            refine ⟨_, rfl, _, _, rfl, rfl, ⟨by decide, by decide⟩, _, _, rfl, rfl, ⟨by decide, by decide, by decide⟩, _, _, rfl, rfl, (by show (0 : Int) < 10 ^ (6 : Int).toNat; decide), _, _, rfl, rfl, ⟨by decide, by decide, by decide⟩, _, rfl, _, rfl, _, _, rfl, rfl, ⟨by decide, by decide, by decide⟩, _, _, rfl, rfl, ⟨by decide, by decide⟩, _, _, rfl, rfl, ?_⟩
            refine ⟨t, l, n + 1, _, rfl, ⟨cells, turn + 1, rest, g3, g4, hc, by omega, by omega, hr0⟩, by omega, by rw [p6]; omega, by rw [p6]; omega, fun r H3 r0 r1 T3 K3 => ?_⟩
            refine ⟨_, _, rfl, rfl, .inl ⟨by decide, by decide⟩, _, _, rfl, rfl, _, rfl, _, _, rfl, rfl, hm0, ?_⟩
            exact k _ _ (Int.emod_nonneg _ (by omega)) (Int.emod_lt_of_pos _ hm0) T3 (gk2.trans K3)
          refine ⟨_, rfl, _, _, rfl, rfl, ⟨by decide, by decide⟩, _, rfl, _, _, rfl, rfl, hm0, ?_⟩
          exact k _ _ (Int.emod_nonneg _ (by omega)) (Int.emod_lt_of_pos _ hm0) ⟨cells, turn + 1, rest, g3, g4, hc, by omega, by omega, hr0⟩ gk2
        · refine ⟨_, rfl, _, _, rfl, rfl, ⟨by decide, by decide, by decide⟩, _, _, rfl, rfl, _, rfl, ?_⟩
          refine ite2 (fun c3 => ?_) (fun c3 => fin)
          have c3' : (10 : Int) ^ (18 : Int).toNat ≤ 5 := of_decide_eq_true c3
          refine ⟨_, rfl, _, _, rfl, rfl, ⟨by decide, by decide, by decide⟩, _, _, rfl, rfl, _, rfl, _, _, rfl, rfl, ⟨hm0, by omega⟩, _, rfl, t, _, rfl, DPut.k (k := kt "left") g3 (by show 3 < sizeLine; decide), ?_⟩
          refine ⟨_, rfl, _, _, rfl, rfl, ⟨by decide, by decide, by decide⟩, _, _, rfl, rfl, _, rfl, _, _, rfl, rfl, hm0, ?_⟩
          refine k _ _ (Int.emod_nonneg _ (by omega)) (Int.emod_lt_of_pos _ hm0) ⟨cells, turn + 1, _, upd_same, by rw [upd_ne ntl.symm]; exact g4, hc, by omega, by omega, Int.ediv_nonneg ?_ (by omega)⟩ (gk2.trans Keep.at)
          omega
theorem ok__law_take2 {f : Addr} {fd : FuncData} (T : Txt K mg c) (F : Fun K "_law_take" "_law_take" s__law_take f fd) (C__law_take : Callee P w K mg base 1 "_law_take" ["_law_held_here", "_law_many"] spDrawP) : FnOk P w K mg base CX0 2 f fd ["_law_held_here", "_law_many"] (upS dTake) :=
  (ok__law_take2r T F C__law_take).imp fun vs H Q E h => draw_up h

def dNames : DSp := fun ss Q _ => ∃ (n : Nat) (a : Addr) (m : Int), ss = [.gad 0 n a, .d (.v (.int m))] ∧ n < 80000 ∧ 0 ≤ m ∧ m ≤ 26 ∧ ∀ (n' : Nat) (xs : List Str), n' ≤ n + 40 → xs.length = m.toNat → (∀ x ∈ xs, NmOk x) → (9 ≤ m → xs.Nodup) → Q (.new .lst (xs.map NmD)) [.gad 0 n' a, .d (.v (.int m))]
def sgAt (r : Int) : Str := match atI ("abcdefghijklmnopqrstuvwxyz" : Str).cps.toList r with | some c => ⟨#[c]⟩ | none => Str.empty
def stepsN : List Int := [1, 3, 5, 7, 9, 11, 15, 17, 19, 21, 23, 25]
theorem nodup_map {α β : Type} {l : List α} {h : α → β} (nd : l.Nodup) (inj : ∀ a ∈ l, ∀ b ∈ l, h a = h b → a = b) : (l.map h).Nodup :=
  List.pairwise_map.mpr (List.Pairwise.imp_of_mem (fun {a b} ha hb hne e => hne (inj a ha b hb e)) nd)
theorem mid_same {a b : Str} {c d : Nat} (e : a ++ (⟨#[c]⟩ : Str) ++ b = a ++ (⟨#[d]⟩ : Str) ++ b) : c = d := by
  rcases a with ⟨a⟩
  rcases b with ⟨b⟩
  have e : (⟨a ++ #[c] ++ b⟩ : Str) = ⟨a ++ #[d] ++ b⟩ := e
  have e := congrArg (fun s : Str => s.cps.toList) e
  simpa using e
theorem sgAt_inj : ∀ i j : Fin 26, sgAt (i.val : Int) = sgAt (j.val : Int) → i = j := by decide +kernel
theorem signs_nodup {first k : Int} {n : Nat} (hk : k ∈ stepsN) (f0 : 0 ≤ first) (f1 : first < 26) (hn : n ≤ 26) : ((List.range n).map fun i : Nat => sgAt ((first + k * (i : Int)) % 26)).Nodup := by
  refine nodup_map List.nodup_range fun i hi j hj e => ?_
  have hi := List.mem_range.mp hi
  have hj := List.mem_range.mp hj
  have a0 := Int.emod_nonneg (first + k * (i : Int)) (show (26 : Int) ≠ 0 by decide)
  have a1 := Int.emod_lt_of_pos (first + k * (i : Int)) (show (0 : Int) < 26 by decide)
  have b0 := Int.emod_nonneg (first + k * (j : Int)) (show (26 : Int) ≠ 0 by decide)
  have b1 := Int.emod_lt_of_pos (first + k * (j : Int)) (show (0 : Int) < 26 by decide)
  have e2 : (first + k * (i : Int)) % 26 = (first + k * (j : Int)) % 26 := by
    have ha : (((first + k * (i : Int)) % 26).toNat : Int) = (first + k * (i : Int)) % 26 := by omega
    have hb : (((first + k * (j : Int)) % 26).toNat : Int) = (first + k * (j : Int)) % 26 := by omega
    have := sgAt_inj ⟨((first + k * (i : Int)) % 26).toNat, by omega⟩ ⟨((first + k * (j : Int)) % 26).toNat, by omega⟩ (by
      show sgAt ((((first + k * (i : Int)) % 26).toNat : Nat) : Int) = sgAt ((((first + k * (j : Int)) % 26).toNat : Nat) : Int)
      rw [ha, hb]; exact e)
    have := congrArg Fin.val this
    simp only at this
    omega
  simp only [stepsN, List.mem_cons, List.not_mem_nil, or_false] at hk
  rcases hk with rfl | rfl | rfl | rfl | rfl | rfl | rfl | rfl | rfl | rfl | rfl | rfl <;> omega
theorem letter_at {r : Int} (h0 : 0 ≤ r) (h1 : r < 26) : ∃ c, atI ("abcdefghijklmnopqrstuvwxyz" : Str).cps.toList r = some c ∧ c < 200 := by
  obtain ⟨c, hc, hm⟩ := at_some (l := ("abcdefghijklmnopqrstuvwxyz" : Str).cps.toList) h0 (by rw [show (("abcdefghijklmnopqrstuvwxyz" : Str).cps.toList.length : Int) = 26 by decide +kernel]; exact h1)
  refine ⟨c, hc, ?_⟩
  have : ∀ c ∈ ("abcdefghijklmnopqrstuvwxyz" : Str).cps.toList, c < 200 := by decide +kernel
  exact this c hm
theorem ok__law_names {f : Addr} {fd : FuncData} (T : Txt K mg c) (F : Fun K "_law_names" "_law_names" s__law_names f fd) (C__law_take : Callee P w K mg base 2 "_law_take" ["_law_held_here", "_law_many"] (upS dTake)) : FnOk P w K mg base CX0 3 f fd ["_law_held_here", "_law_many"] (upS dNames) := by
  refine F.okD sc__law_names (fun ss Q X ⟨n, a, m, h, _⟩ => by rw [h]; rfl) fun cdv A outer s H E hr => ⟨_, _, (pss_cons (ps_set (i := 2) sc__law_names.nd rfl (by first | exact Or.inl rfl | exact Or.inr rfl) pe_str)
      (pss_consC (ps_set (i := 3) sc__law_names.nd rfl (by first | exact Or.inl rfl | exact Or.inr rfl) (pe_m1 PySem.F.slot_str_join PySem.F.type_str_join mt_joinD pe_str (pe_lc (own := [("_law_k", 8)]) (g := gName 8) (by rfl) sc__law_names.nd (pi_range1 (by rfl) T.b_range (pa_cons (pe_op op_add pe_int (pe_callC C__law_take hr rfl (pa_cons (pv 0) (pa_cons pe_int pa_nil)))) pa_nil)) (blkOk_by (own := [("_law_k", 8)]) (N := N__law_names) (sc := defScope s__law_names) (by decide +kernel)) (fun _ _ _ _ _ => pg_name (i := 8) sc__law_names.nd rfl (Or.inl rfl)) (fun _ _ _ _ _ => pts_nil) (fun _ _ _ _ _ => (pe_ix ix_str (pv 2) (pe_callC C__law_take hr rfl (pa_cons (pv 0) (pa_cons pe_int pa_nil))) (fun _ _ => rfl))))))
      (pss_consT' (ps_asg (pe_tup (pa_cons (pe_callC C__law_take hr rfl (pa_cons (pv 0) (pa_cons (pe_callB call_lenS (by rfl) T.b_len (by decide +kernel) (pa_cons (pv 3) pa_nil)) pa_nil))) (pa_cons (pe_callC C__law_take hr rfl (pa_cons (pv 0) (pa_cons pe_int pa_nil))) pa_nil))) (pg_tup (n := 2) (by rfl) (pgs_cons (pg_name (i := 4) sc__law_names.nd rfl (by first | exact Or.inl rfl | exact Or.inr rfl)) (pgs_cons (pg_name (i := 5) sc__law_names.nd rfl (by first | exact Or.inl rfl | exact Or.inr rfl)) pgs_nil))))
      (pssw_cons (psw_set (i := 6) sc__law_names.nd rfl (by first | exact Or.inl rfl | exact Or.inr rfl) (w_ix ix_list (w_list (pw_cons w_int (pw_cons w_int (pw_cons w_int (pw_cons w_int (pw_cons w_int (pw_cons w_int (pw_cons w_int (pw_cons w_int (pw_cons w_int (pw_cons w_int (pw_cons w_int (pw_cons w_int pw_nil (fun _ => rfl)) (fun _ => rfl)) (fun _ => rfl)) (fun _ => rfl)) (fun _ => rfl)) (fun _ => rfl)) (fun _ => rfl)) (fun _ => rfl)) (fun _ => rfl)) (fun _ => rfl)) (fun _ => rfl)) (fun _ => rfl))) (pe_callC C__law_take hr rfl (pa_cons (pv 0) (pa_cons pe_int pa_nil))) (fun _ _ => rfl)))
      (pss_consC (ps_if (PW.pt (pw_and (pt_cmpR op_lt (pv 1) pe_int (nomark _)) (pw_and1 (pt_cmpR op_eq (pe_callC C__law_take hr rfl (pa_cons (pv 0) (pa_cons pe_int pa_nil))) pe_int (nomark _))))) (pss_one (ps_ret (pe_lc (own := [("_law_k", 8)]) (g := gName 8) (by rfl) sc__law_names.nd (pi_range1 (by rfl) T.b_range (pa_cons (pv 1) pa_nil)) (blkOk_by (own := [("_law_k", 8)]) (N := N__law_names) (sc := defScope s__law_names) (by decide +kernel)) (fun _ _ _ _ _ => pg_name (i := 8) sc__law_names.nd rfl (Or.inl rfl)) (fun _ _ _ _ _ => pts_nil) (fun _ _ _ _ _ => (pe_slice sl_str (pe_op op_mulS (pv 3) pe_int) po_none (po_some (pe_op op_add pe_int (pe_op op_mod (pe_op op_add (pv 5) (pe_op op_mul (pv 6) (pv 8))) pe_int)))))))) pss_nil)
      (pss_cons (ps_setLc (i := 7) (own := [("_law_k", 8)]) (g := gName 8) (by rfl) sc__law_names.nd rfl rfl (sw_true rfl rfl rfl (by decide +kernel)) (pi_range1 (by rfl) T.b_range (pa_cons (pv 1) pa_nil)) (blkOk_by (own := [("_law_k", 8)]) (N := N__law_names) (sc := defScope s__law_names) (by decide +kernel)) (fun _ _ _ _ _ => pg_name (i := 8) sc__law_names.nd rfl (Or.inl rfl)) (fun _ _ _ _ _ => pts_nil) (fun _ _ _ _ _ => (pe_ix ix_str (pv 2) (pe_op op_mod (pe_op op_add (pv 5) (pe_op op_mul (pv 6) (pv 8))) pe_int) (fun _ _ => rfl))))
      (pss_one (ps_ret (pe_lc (own := [("_law_sign", 9)]) (g := gName 9) (by rfl) sc__law_names.nd (pi_list (pv 7)) (blkOk_by (own := [("_law_sign", 9)]) (N := N__law_names) (sc := defScope s__law_names) (by decide +kernel)) (fun _ _ _ _ _ => pg_name (i := 9) sc__law_names.nd rfl (Or.inl rfl)) (fun _ _ _ _ _ => pts_nil) (fun _ _ _ _ _ => (pe_op op_addS (pe_op op_addS (pe_slice sl_str (pv 3) po_none (po_some (pv 4))) (pv 9)) (pe_slice sl_str (pv 3) (po_some (pe_op op_add (pv 4) pe_int)) po_none)))))))))))), inferInstance, fun ss Q X h => ?_⟩
  obtain ⟨n, a, m, rfl, hn, hm0, hm1, q⟩ := h
  refine ⟨[_, _, .no, .no, .no, .no, .no, .no, .no, .no], rfl, ?_⟩
  refine ⟨fun δ => ∃ (word : Str) (n1 : Nat), δ = [.gad 0 n1 a, .d (.v (.int m)), .d (.v (.str "abcdefghijklmnopqrstuvwxyz")), .d (.v (.str word)), .no, .no, .no, .no, .no, .no] ∧ n1 ≤ n + 20 ∧ (1 ≤ word.length ∧ word.length ≤ 8) ∧ PyData.strOk word = true, ⟨n, a, 8, rfl, by omega, by decide, by decide, fun r r0 r1 => ⟨⟨by omega, by omega⟩, rfl, fun i δ acc => ∃ (zs : List Str) (n' : Nat), δ = [.gad 0 n' a, .d (.v (.int m)), .d (.v (.str "abcdefghijklmnopqrstuvwxyz")), .no, .no, .no, .no, .no, .no, .no] ∧ acc = zs.map NmD ∧ zs.length = i ∧ n' ≤ n + 2 + 2 * i ∧ ∀ z ∈ zs, z.length = 1 ∧ PyData.strOk z = true, ⟨[], _, rfl, rfl, rfl, by omega, by simp⟩, fun _ _ _ _ => trivial, ?_, ?_⟩⟩, ?_⟩
  · rintro i δ acc x hx ⟨zs, n', rfl, rfl, hl, hn', hz⟩
    obtain ⟨hi, rfl⟩ := intsD_get hx
    refine ⟨Nat.lt_of_le_of_lt (by rw [List.length_map, hl]; omega) (small1000 (n := i) (by omega)), n', a, 26, rfl, by omega, by decide, by decide, fun r2 h0 h1 => ?_⟩
    obtain ⟨cc, hc, hcl⟩ := letter_at h0 h1
    refine ⟨by decide +kernel, cc, hc, zs ++ [⟨#[cc]⟩], _, rfl, by simp [NmD], by simp [hl], by omega, fun z hz' => ?_⟩
    rcases List.mem_append.mp hz' with hz' | hz'
    · exact hz z hz'
    · rw [List.mem_singleton.mp hz']
      exact ⟨rfl, strOk_sg (by omega)⟩
  · rintro δ acc ⟨zs, n1, rfl, rfl, hl, hn1, hz⟩
    rw [intsD_len] at hl hn1
    refine ⟨zs, txtL_map zs, ?_, ?_⟩
    · rw [sum_ones fun z hz' => (hz z hz').1]
      show zs.length + zs.length * 0 ≤ _
      omega
    have wl : (Txt.join "" zs).length = zs.length := join_len fun z hz' => (hz z hz').1
    have wo : PyData.strOk (Txt.join "" zs) = true := join_ok fun z hz' => (hz z hz').2
    exact ⟨_, n1, rfl, by omega, by omega, wo⟩
  · rintro _ ⟨word, n1, rfl, hn1, wl1, wo⟩
    refine ⟨smallLe (by omega), n1, a, (word.length : Int), rfl, by omega, by omega, by omega, fun at' a0 a1 => ⟨n1 + 2, a, 26, rfl, by omega, by decide, by decide, fun first f0 f1 => ⟨(by show 2 ≤ sizeLine; decide), rfl, ?_⟩⟩⟩
    refine ⟨(by show 12 ≤ sizeLine; decide), n1 + 4, a, 12, rfl, by omega, by decide, by decide, fun st s0 s1 => ?_⟩
    have hst : ∃ k : Int, atI [D.v (.int 1), .v (.int 3), .v (.int 5), .v (.int 7), .v (.int 9), .v (.int 11), .v (.int 15), .v (.int 17), .v (.int 19), .v (.int 21), .v (.int 23), .v (.int 25)] st = some (.v (.int k)) ∧ (1 ≤ k ∧ k ≤ 25) ∧ k ∈ stepsN := by
      obtain ⟨d, hd, hm⟩ := at_some (l := [D.v (.int 1), .v (.int 3), .v (.int 5), .v (.int 7), .v (.int 9), .v (.int 11), .v (.int 15), .v (.int 17), .v (.int 19), .v (.int 21), .v (.int 23), .v (.int 25)]) s0 s1
      simp only [List.mem_cons, List.not_mem_nil, or_false] at hm
      rcases hm with rfl | rfl | rfl | rfl | rfl | rfl | rfl | rfl | rfl | rfl | rfl | rfl <;> exact ⟨_, hd, by decide, by decide⟩
    obtain ⟨k, hk, ⟨k0, k1⟩, hkm⟩ := hst
    refine ⟨_, hk, fun δ => ∃ n', δ = [.gad 0 n' a, .d (.v (.int m)), .d (.v (.str "abcdefghijklmnopqrstuvwxyz")), .d (.v (.str word)), .d (.v (.int at')), .d (.v (.int first)), .d (.v (.int k)), .no, .no, .no] ∧ n' ≤ n1 + 8, ?_, ?_⟩
    · refine ite2 (fun c0 => ?_) (fun c0 => ?_)
      · refine ⟨n1 + 6, a, 3, rfl, by omega, by decide, by decide, fun r3 t0 t1 => ⟨rfl, ?_⟩⟩
        refine ite2 (fun c1 => ?_) (fun c1 => ⟨_, rfl, by omega⟩)
        refine ⟨⟨by omega, by omega⟩, lcAll (fun d => ∃ z, d = NmD z ∧ NmOk z) rfl trivial (smallLe (by rw [intsD_len]; omega)) ?_ ?_⟩
        · intro x hx P hP
          obtain ⟨i, hi, rfl⟩ := intsD_mem hx
          refine ⟨by decide, by decide, by show word.length * 8 ≤ _; omega, .inl ⟨by omega, by omega⟩, (by show (0 : Int) < 8; decide), smallLe ?_, ?_⟩
          · show (repS word 8).length ≤ _
            rw [repS_len]; omega
          · refine hP _ ⟨_, rfl, cutS_le ?_, strOk_cut (rep_ok wo)⟩
            show (repS word 8).length ≤ 64
            rw [repS_len]; omega
        · intro ds hl hp
          obtain ⟨zs, rfl, hz⟩ := txts_of hp
          rw [intsD_len, List.length_map] at hl
          exact ⟨⟨rfl, rfl⟩, q _ zs (by omega) hl hz fun h9 => absurd (of_decide_eq_true c0) (by omega)⟩
      · exact ⟨_, rfl, by omega⟩
    · rintro _ ⟨n2, rfl, hn2⟩
      refine ⟨⟨by omega, by omega⟩, ?_⟩
      refine lcMap (fun d => match d with | .v (.int i) => NmD (sgAt ((first + k * i) % 26)) | d => d) rfl trivial (smallLe (by rw [intsD_len]; omega)) ?_ ?_
      · intro x hx P hP
        obtain ⟨i, hi, rfl⟩ := intsD_mem hx
        obtain ⟨cc, hc, hcl⟩ := letter_at (r := (first + k * (i : Int)) % 26) (Int.emod_nonneg _ (by decide)) (Int.emod_lt_of_pos _ (by decide))
        have e : sgAt ((first + k * (i : Int)) % 26) = ⟨#[cc]⟩ := by unfold sgAt; rw [hc]
        have hP : P (NmD (sgAt ((first + k * (i : Int)) % 26))) _ := hP
        rw [e] at hP
        exact ⟨.inl ⟨by omega, by omega⟩, (by show (0 : Int) < 26; decide), by decide +kernel, cc, hc, hP⟩
      · intro b
        have ez : (intsD m.toNat fun i => (i : Int)).map (fun d => match d with | .v (.int i) => NmD (sgAt ((first + k * i) % 26)) | d => d) = ((List.range m.toNat).map fun i : Nat => sgAt ((first + k * (i : Int)) % 26)).map NmD := by
          rw [List.map_map, intsD, List.map_map]
          rfl
        have hz : ∀ z ∈ (List.range m.toNat).map fun i : Nat => sgAt ((first + k * (i : Int)) % 26), ∃ c, z = ⟨#[c]⟩ ∧ c < 200 := by
          intro z hz
          obtain ⟨i, _, rfl⟩ := List.mem_map.mp hz
          obtain ⟨cc, hc, hcl⟩ := letter_at (r := (first + k * (i : Int)) % 26) (Int.emod_nonneg _ (by decide)) (Int.emod_lt_of_pos _ (by decide))
          exact ⟨cc, by unfold sgAt; rw [hc], hcl⟩
        have hnd : ((List.range m.toNat).map fun i : Nat => sgAt ((first + k * (i : Int)) % 26)).Nodup := signs_nodup hkm f0 f1 (by omega)
        have hlen : ((List.range m.toNat).map fun i : Nat => sgAt ((first + k * (i : Int)) % 26)).length = m.toNat := by simp
        rw [show (ItD.xs ⟨intsD m.toNat fun i => (i : Int), fun _ => True⟩) = intsD m.toNat fun i => (i : Int) from rfl, ez]
        generalize ((List.range m.toNat).map fun i : Nat => sgAt ((first + k * (i : Int)) % 26)) = zs at *
        refine lcMap (fun d => match d with | .v (.str z) => NmD (cutS word none (some at') ++ z ++ cutS word (some (at' + 1)) none) | d => d) rfl rfl (smallLe (by rw [List.length_map]; omega)) ?_ ?_
        · intro x hx P hP
          obtain ⟨z, hz', rfl⟩ := List.mem_map.mp hx
          obtain ⟨cc, rfl, z2⟩ := hz z hz'
          have z1 : (⟨#[cc]⟩ : Str).length = 1 := rfl
          have c1 := cutS_length word none (some at')
          have c2 := cutS_length word (some (at' + 1)) none
          exact ⟨smallLe (by omega), smallLe (by omega), smallLe (by omega), smallLe (by rw [strLen_app]; omega), hP⟩
        · have ey : (zs.map NmD).map (fun d => match d with | .v (.str z) => NmD (cutS word none (some at') ++ z ++ cutS word (some (at' + 1)) none) | d => d) = (zs.map fun z => cutS word none (some at') ++ z ++ cutS word (some (at' + 1)) none).map NmD := by
            rw [List.map_map, List.map_map]
            rfl
          rw [ey]
          refine ⟨⟨rfl, rfl⟩, q _ _ (by omega) (by rw [List.length_map]; exact hlen) (fun y hy => ?_) fun _ => ?_⟩
          · obtain ⟨z, hz', rfl⟩ := List.mem_map.mp hy
            obtain ⟨cc, rfl, z2⟩ := hz z hz'
            have z1 : (⟨#[cc]⟩ : Str).length = 1 := rfl
            have c1 := cutS_length word none (some at')
            have c2 := cutS_length word (some (at' + 1)) none
            refine ⟨?_, strOk_app (strOk_app (strOk_cut wo) (strOk_sg (by omega))) (strOk_cut wo)⟩
            rw [strLen_app, strLen_app]
            omega
          · refine nodup_map hnd fun x hx y hy e => ?_
            obtain ⟨c1, rfl, _⟩ := hz x hx
            obtain ⟨c2, rfl, _⟩ := hz y hy
            rw [mid_same e]

def wantD (w : Want) : D := .nd .tup [.v (.str w.t), .v (.str w.s), .v (.int w.m)]
/-- the bundles of a want -/
def spWantB (C : Addr) : DSp := fun ss Q _ => ∃ (w : Want) (z : Nat), ss = [.d (.v (.str w.t)), .d (.v (.str w.s)), .d (.v (.int w.m)), .d (.v (.int z))] ∧ 0 < z ∧ z ≤ 1000 ∧ w.m ≤ 1000 * z ∧ Q (.new .lst ((rowsOf w z).map (bunD C))) ss
theorem ok_want_bundles {f : Addr} {fd : FuncData} (T : Txt K mg c) (F : Fun K "want_bundles" "want_bundles" s_want_bundles f fd) (MF_Bundle : MakeF P w K mg base 1 "Bundle" c.Bundle ["self", "town", "seller", "number", "of", "copies"] (upS (spMakeB c.Bundle)) [] forms_Bundle) : FnOk P w K mg base CX0 3 f fd ["town", "seller", "copies", "size"] (upS (spWantB c.Bundle)) := by
  refine F.okD sc_want_bundles (fun ss Q X ⟨w, z, h, _⟩ => by rw [h]; rfl) fun cdv A outer s H E hr => ⟨_, _, (pss_cons (ps_set (i := 4) sc_want_bundles.nd rfl (by first | exact Or.inl rfl | exact Or.inr rfl) (pe_op op_rep (pe_lst (pa_cons (pv 3) pa_nil)) (pe_op op_fdiv (pv 2) (pv 3))))
      (pss_consC (ps_if (pt_cmpR op_gt (pv 2) (pe_op op_mul (pv 3) (pe_callB (show CallR _ _ (rLenQ K) from call_len_seq) (by rfl) T.b_len (by decide +kernel) (pa_cons (pv 4) pa_nil))) (nomark _)) (pss_one (ps_expr (pe_bm PySem.F.plainAttrs_list PySem.F.slot_list_append PySem.F.type_list_append mt_append (pv 4) (pa_cons (pe_op op_sub (pv 2) (pe_op op_mul (pv 3) (pe_callB (show CallR _ _ (rLenQ K) from call_len_seq) (by rfl) T.b_len (by decide +kernel) (pa_cons (pv 4) pa_nil)))) pa_nil)))) pss_nil)
      (pss_one (ps_ret (pe_lc (own := [("at", 5), ("count", 6)]) (g := gTup K 2 (gCons (gName 5) (gCons (gName 6) gNil))) (by rfl) sc_want_bundles.nd (pi_enum (by rfl) T.b_enumerate (pa_cons (pv 4) pa_nil)) (blkOk_by (own := [("at", 5), ("count", 6)]) (N := N_want_bundles) (sc := defScope s_want_bundles) (by decide +kernel)) (fun _ _ _ _ _ => pg_tup (by rfl) (pgs_cons (pg_name (i := 5) sc_want_bundles.nd rfl (Or.inl rfl)) (pgs_cons (pg_name (i := 6) sc_want_bundles.nd rfl (Or.inl rfl)) pgs_nil))) (fun _ _ _ _ _ => pts_nil) (fun _ _ _ _ _ => (pe_makeFc (F := (5, [], [0, 1, 2, 3, 4])) 0 MF_Bundle.calm hr rfl (pa_cons (pv 0) (pa_cons (pv 1) (pa_cons (pe_op op_add (pv 5) pe_int) (pa_cons (pe_callB (show CallR _ _ (rLenQ K) from call_len_seq) (by rfl) T.b_len (by decide +kernel) (pa_cons (pv 4) pa_nil)) (pa_cons (pv 6) pa_nil))))) pk_nil))))))), inferInstance, fun ss Q X h => ?_⟩
  obtain ⟨w, z, rfl, hz, hz1, hm, q⟩ := h
  refine ⟨[_, _, _, _, .no, .no, .no], rfl, ?_⟩
  have hq : ((w.m : Int) / (z : Int)).toNat = w.m / z := by rw [← Int.natCast_ediv]; rfl
  have hql : w.m / z ≤ 1000 := Nat.div_le_of_le_mul (by rw [Nat.mul_comm]; exact hm)
  have hqi : ((w.m / z : Nat) : Int) = (w.m : Int) / (z : Int) := Int.natCast_ediv _ _
  refine ⟨(by show 1 ≤ sizeLine; decide), ⟨by omega, by omega⟩, ⟨by rw [← hqi]; omega, by rw [← hqi]; omega, by rw [hq]; exact smallLe (by show 1 * _ ≤ _; omega)⟩, fun a => ?_⟩
  rw [hq, show (List.replicate (w.m / z) [D.v (V.int (z : Int))]).flatten = List.replicate (w.m / z) (D.v (V.int (z : Int))) by simp]
  refine ⟨fun δ => δ = [.d (.v (.str w.t)), .d (.v (.str w.s)), .d (.v (.int w.m)), .d (.v (.int z)), .own true a .lst ((sizesL w.m z).map fun i => .v (.int i)), .no, .no], ⟨.inl ⟨by omega, by omega⟩, ?_⟩, ?_⟩
  · have el : ((List.replicate (w.m / z) (D.v (V.int (z : Int)))).length : Int) = ((w.m / z : Nat) : Int) := by simp
    have es : sizesL w.m z = List.replicate (w.m / z) (z : Int) ++ (if z * (w.m / z) < w.m then [((w.m - z * (w.m / z) : Nat) : Int)] else []) := rfl
    rw [el, es]
    refine ite2 (fun c0 => ?_) (fun c0 => ?_)
    · have c1 : (z : Int) * ((w.m / z : Nat) : Int) < w.m := of_decide_eq_true c0
      have c2 : z * (w.m / z) < w.m := by exact_mod_cast c1
      refine ⟨.inl ⟨by omega, by omega⟩, smallLe (by simp; omega), ?_⟩
      rw [if_pos c2, List.map_append]
      have : (w.m : Int) - (z : Int) * ((w.m / z : Nat) : Int) = ((w.m - z * (w.m / z) : Nat) : Int) := by
        rw [Int.natCast_sub (Nat.le_of_lt c2), Int.natCast_mul]
      simp only [List.length_replicate, this, List.map_replicate, List.map_cons, List.map_nil]
      rfl
    · have c1 : ¬ (z : Int) * ((w.m / z : Nat) : Int) < w.m := of_decide_eq_false (by simpa using c0)
      have c2 : ¬ z * (w.m / z) < w.m := fun z' => c1 (by exact_mod_cast z')
      rw [if_neg c2, List.append_nil, List.map_replicate]
      rfl
  · rintro _ rfl
    have h9 := sizes_le hz hm
    refine lcMap (fun d => match d with | .nd .tup [.v (.int i), .v (.int n)] => bunD c.Bundle ⟨w.t, w.s, i + 1, ((sizesL w.m z).length : Int), n⟩ | _ => d) rfl rfl (smallLe (by simp; omega)) ?_ ?_
    · intro x hx P hP
      simp only [List.mem_mapIdx, List.length_map, List.getElem_map] at hx
      obtain ⟨i, hi, rfl⟩ := hx
      refine ⟨rfl, fun p np => .inl ⟨p, ⟨w.t, w.s, (i : Int) + 1, ((sizesL w.m z).length : Int), (sizesL w.m z)[i]⟩, ?_, rfl, ?_⟩⟩
      · simp only [List.length_map]
      · exact hP
    · show Q (.new .lst _) _
      have : ∀ l : List Int, ∀ n, (l.mapIdx fun i (c : Int) => (⟨w.t, w.s, ((n + i : Nat) : Int) + 1, ((sizesL w.m z).length : Int), c⟩ : Row)).map (bunD c.Bundle) = (((l.map fun i => D.v (V.int i)).mapIdx fun i d => D.nd .tup [.v (.int ((n + i : Nat) : Int)), d]).map fun d => match d with | .nd .tup [.v (.int i), .v (.int n)] => bunD c.Bundle ⟨w.t, w.s, i + 1, ((sizesL w.m z).length : Int), n⟩ | _ => d) := by
        intro l
        induction l with
        | nil => intro n; rfl
        | cons x r ih =>
          intro n
          simp only [List.mapIdx_cons, List.map_cons]
          congr 1
          have := ih (n + 1)
          simp only [show ∀ i, n + 1 + i = n + (i + 1) from fun i => by omega] at this
          exact this
      have h0 := this (sizesL w.m z) 0
      simp only [Nat.zero_add] at h0
      rw [← h0]
      exact q
def spBundled (C : Addr) : DSp := fun ss Q _ => ∃ (ws : List Want) (z p : Nat), ss = [.d (.nd .lst (ws.map wantD)), .d (.v (.int z))] ∧ 0 < z ∧ z ≤ 1000 ∧ p ≤ 1000 ∧ (∀ w ∈ ws, w.m ≤ p * z) ∧ ws.length * p ≤ 2000 ∧ Q (.new .lst ((allRows ws z).map (bunD C))) ss
theorem ok_bundled {f : Addr} {fd : FuncData} (T : Txt K mg c) (F : FunD K "bundled" "bundled" s_bundled f fd) (C_want_bundles : Callee P w K mg base 3 "want_bundles" ["town", "seller", "copies", "size"] (upS (spWantB c.Bundle))) : FnOk P w K mg base CX0 4 f fd ["wants", "size"] (upS (spBundled c.Bundle)) := by
  refine F.okD sc_bundled (fun ss Q X ⟨w, z, p, h, _⟩ => by rw [h]; rfl) fun cdv A outer s H E hr => ⟨_, _, (pss_one (ps_ret (pe_lc2 (own := [("town", 2), ("seller", 3), ("copies", 4), ("bundle", 5)]) (vs1 := [5]) (g := (gTup K 3 (gCons (gName 2) (gCons (gName 3) (gCons (gName 4) gNil))))) (g1 := gName 5) (by rfl) sc_bundled.nd (pi_list (pv 0)) (blkOk_by (own := [("town", 2), ("seller", 3), ("copies", 4), ("bundle", 5)]) (N := N_bundled) (sc := defScope s_bundled) (by decide +kernel)) (by decide) (fun _ _ _ _ _ => pg_tup (by rfl) (pgs_cons (pg_name (i := 2) sc_bundled.nd rfl (Or.inl rfl)) (pgs_cons (pg_name (i := 3) sc_bundled.nd rfl (Or.inl rfl)) (pgs_cons (pg_name (i := 4) sc_bundled.nd rfl (Or.inl rfl)) pgs_nil)))) (fun _ _ _ _ _ => pts_nil) (fun _ _ _ _ _ => (show PI _ _ _ (iList K _) from pi_list (pe_callC C_want_bundles hr rfl (pa_cons (pv 2) (pa_cons (pv 3) (pa_cons (pv 4) (pa_cons (pv 1) pa_nil))))))) (fun _ _ _ _ _ => pg_name (i := 5) sc_bundled.nd rfl (Or.inl rfl)) (fun _ _ _ _ _ => pts_nil) (fun _ _ _ _ _ => (pv 5))))), inferInstance, fun ss Q X h => ?_⟩
  obtain ⟨ws, z, p, rfl, hz, hz1, hp, hm, hn, q⟩ := h
  refine ⟨[_, _, .no, .no, .no, .no], rfl, ?_⟩
  refine ⟨⟨rfl, rfl, rfl⟩, fun i δ acc => δ = [.d (.nd .lst (ws.map wantD)), .d (.v (.int z)), .no, .no, .no, .no] ∧ acc = (allRows (ws.take i) z).map (bunD c.Bundle), ⟨rfl, rfl⟩, fun _ _ _ _ => trivial, ?_, ?_⟩
  · rintro i δ acc x hx ⟨rfl, rfl⟩
    have hx' : (ws.map wantD)[i]? = some x := hx
    rw [List.getElem?_map] at hx'
    cases hu : ws[i]? with
    | none => rw [hu] at hx'; cases hx'
    | some u =>
      rw [hu] at hx'
      cases hx'
      have hum := hm u (List.mem_of_getElem? hu)
      have hum2 : u.m ≤ 1000 * z := Nat.le_trans hum (Nat.mul_le_mul_right _ hp)
      have hlen : (allRows (ws.take i) z).length ≤ 2000 := by
        refine Nat.le_trans (allRows_len hz fun w hw => hm w (List.mem_of_mem_take hw)) (Nat.le_trans (Nat.mul_le_mul_right _ ?_) hn)
        rw [List.length_take]
        omega
      have h9 := sizes_le hz hum2
      rw [← rows_len] at h9
      refine ⟨rfl, u, z, rfl, hz, hz1, hum2, fun j δ acc' => ∃ s5, δ = [.d (.nd .lst (ws.map wantD)), .d (.v (.int z)), .d (.v (.str u.t)), .d (.v (.str u.s)), .d (.v (.int u.m)), s5] ∧ acc' = (allRows (ws.take i) z ++ (rowsOf u z).take j).map (bunD c.Bundle), ⟨_, rfl, by simp⟩, fun _ _ _ _ => trivial, ?_, ?_⟩
      · rintro j δ acc' y hy ⟨s5, rfl, rfl⟩
        have hy' : ((rowsOf u z).map (bunD c.Bundle))[j]? = some y := hy
        rw [List.getElem?_map] at hy'
        cases hr' : (rowsOf u z)[j]? with
        | none => rw [hr'] at hy'; cases hy'
        | some r =>
          rw [hr'] at hy'
          cases hy'
          refine ⟨?_, _, rfl, ?_⟩
          · rw [List.length_map, List.length_append, List.length_take]
            exact small1000' (by omega)
          · rw [take_snoc hr', ← List.append_assoc]
            simp
      · rintro δ acc' ⟨s5, rfl, rfl⟩
        refine ⟨rfl, ?_⟩
        rw [List.length_map, List.take_length, take_snoc hu, allRows_snoc]
  · rintro δ acc ⟨rfl, rfl⟩
    show Q (.new .lst _) _
    rw [List.length_map, List.take_length]
    exact q
def partsD (r : Row) : D := .nd .tup [.v (.str r.t), .v (.str r.s), .v (.int r.k), .v (.int r.n), .v (.int r.c)]
def textT (r : Row) : Str := r.t ++ " " ++ r.s ++ " " ++ numS r.k ++ "/" ++ numS r.n ++ " " ++ numS r.c
theorem empty_app (x : Str) : Str.empty ++ x = x := by
  rcases x with ⟨a⟩
  show (⟨#[] ++ a⟩ : Str) = ⟨a⟩
  simp
theorem text_eq (r : Row) : textB r = textT r := by
  unfold textB textT
  rw [empty_app]
def spText : DSp := fun ss Q _ => ∃ r : Row, ss = [.d (partsD r)] ∧ RowOk r ∧ Q (rv (.str (textB r))) ss
theorem ok__law_text {f : Addr} {fd : FuncData} (T : Txt K mg c) (F : Fun K "_law_text" "_law_text" s__law_text f fd) : FnOk P w K mg base CX0 1 f fd ["_law_parts"] (upS spText) := by
  refine F.okD sc__law_text (fun ss Q X ⟨_, h, _⟩ => by rw [h]; rfl) fun cdv A outer s H E hr => ⟨_, _, (pss_cons (ps_asg (pv 0) (pg_tup (n := 5) (by rfl) (pgs_cons (pg_name (i := 1) sc__law_text.nd rfl (by first | exact Or.inl rfl | exact Or.inr rfl)) (pgs_cons (pg_name (i := 2) sc__law_text.nd rfl (by first | exact Or.inl rfl | exact Or.inr rfl)) (pgs_cons (pg_name (i := 3) sc__law_text.nd rfl (by first | exact Or.inl rfl | exact Or.inr rfl)) (pgs_cons (pg_name (i := 4) sc__law_text.nd rfl (by first | exact Or.inl rfl | exact Or.inr rfl)) (pgs_cons (pg_name (i := 5) sc__law_text.nd rfl (by first | exact Or.inl rfl | exact Or.inr rfl)) pgs_nil)))))))
      (pss_one (ps_ret (pe_op op_addS (pe_op op_addS (pe_op op_addS (pe_op op_addS (pe_op op_addS (pe_op op_addS (pe_op op_addS (pe_op op_addS (pv 1) pe_str) (pv 2)) pe_str) (pe_callTy call_strI (by rfl) T.b_str (by decide +kernel) (pa_cons (pv 3) pa_nil))) pe_str) (pe_callTy call_strI (by rfl) T.b_str (by decide +kernel) (pa_cons (pv 4) pa_nil))) pe_str) (pe_callTy call_strI (by rfl) T.b_str (by decide +kernel) (pa_cons (pv 5) pa_nil)))))), inferInstance, fun ss Q X h => ?_⟩
  obtain ⟨r, rfl, hk, q⟩ := h
  rw [text_eq] at q
  have hl := textB_len hk
  obtain ⟨⟨a, _⟩, ⟨b, _⟩, ⟨k0, k1⟩, ⟨n0, n1⟩, c0, c1⟩ := hk
  have lk : ((toString r.k : String) : Str).length ≤ 10 := num_len k0 k1
  have ln : ((toString r.n : String) : Str).length ≤ 10 := num_len n0 n1
  have lc : ((toString r.c : String) : Str).length ≤ 10 := num_len c0 c1
  refine ⟨[_, .no, .no, .no, .no, .no], rfl, ?_⟩
  refine ⟨rfl, smallLe ?_, smallLe ?_, smallLe ?_, num_log k0 k1, smallLe ?_, smallLe ?_, num_log n0 n1, smallLe ?_, smallLe ?_, num_log c0 c1, smallLe ?_, q⟩
  all_goals
    simp only [strLen_app, sp_len, sl_len]
    omega
def spMadeB (C : Addr) : DSp := fun ss Q _ => ∃ r : Row, ss = [.d (partsD r)] ∧ Q (.new (.ins C bF) [.v (.str r.t), .v (.str r.s), .v (.int r.k), .v (.int r.n), .v (.int r.c)]) ss
theorem ok__law_made {f : Addr} {fd : FuncData} (T : Txt K mg c) (F : Fun K "_law_made" "_law_made" s__law_made f fd) (MF_Bundle : MakeF P w K mg base 1 "Bundle" c.Bundle ["self", "town", "seller", "number", "of", "copies"] (upS (spMakeB c.Bundle)) [] forms_Bundle) : FnOk P w K mg base CX0 3 f fd ["_law_parts"] (upS (spMadeB c.Bundle)) := by
  refine F.okD sc__law_made (fun ss Q X ⟨_, h, _⟩ => by rw [h]; rfl) fun cdv A outer s H E hr => ⟨_, _, (pss_one (ps_ret (pe_makeFc (F := (5, [], [0, 1, 2, 3, 4])) 0 MF_Bundle.calm hr rfl (pa_cons (pe_ix ix_tup (pv 0) pe_int (fun _ _ => rfl)) (pa_cons (pe_ix ix_tup (pv 0) pe_int (fun _ _ => rfl)) (pa_cons (pe_ix ix_tup (pv 0) pe_int (fun _ _ => rfl)) (pa_cons (pe_ix ix_tup (pv 0) pe_int (fun _ _ => rfl)) (pa_cons (pe_ix ix_tup (pv 0) pe_int (fun _ _ => rfl)) pa_nil))))) pk_nil))), inferInstance, fun ss Q X h => ?_⟩
  obtain ⟨r, rfl, q⟩ := h
  refine ⟨[_], rfl, ?_⟩
  refine ⟨_, rfl, _, rfl, _, rfl, _, rfl, _, rfl, fun p np => .inl ⟨p, r, rfl, rfl, ?_⟩⟩
  exact q
theorem py_parts (r : Row) : (partsD r).py = some (rowD r) := by simp [partsD, rowD, D.py, pyL]
theorem shaped_parts {r : Row} (h : RowOk r) : SeqAt.shaped (rowD r) = true := by
  obtain ⟨⟨_, a⟩, ⟨_, b⟩, _⟩ := h
  refine Bool.and_eq_true_iff.mpr ⟨?_, decide_eq_true ?_⟩
  · simp [rowD, PyData.canLay0, PyData.canLayAll0, a, b]
  · simp [rowD, PyData.depth, PyData.depthAll]
theorem eqv_parts (r : Row) : PyData.eqv (rowD r) (rowD r) = true := by simp [rowD, PyData.eqv, PyData.eqvAll]
/-- what a bundle tells is what its parts tell -/
def spRight (C : Addr) : DSp := fun ss Q _ => ∃ (s : S) (r : Row), ss = [s, .d (partsD r)] ∧ s = .d (bunD C r) ∧ RowOk r ∧ 1 ≤ r.c ∧ Q (rv (.bl true)) ss
theorem ok__law_right {f : Addr} {fd : FuncData} (T : Txt K mg c) (F : Fun K "_law_right" "_law_right" s__law_right f fd) (O_Bundle___len__ : OwnM P w K mg base 1 c.Bundle "__len__" ["self"] (upS (spLenB c.Bundle))) (O_Bundle___str__ : OwnM P w K mg base 1 c.Bundle "__str__" ["self"] (upS (spStrB c.Bundle))) (O_Bundle___repr__ : OwnM P w K mg base 4 c.Bundle "__repr__" ["self"] (upS (spReprB c.Bundle))) (C__law_text : Callee P w K mg base 1 "_law_text" ["_law_parts"] (upS spText)) : FnOk P w K mg base CX0 8 f fd ["_law_one", "_law_parts"] (upS (spRight c.Bundle)) := by
  refine F.okD sc__law_right (fun ss Q X ⟨_, _, h, _⟩ => by rw [h]; rfl) fun cdv A outer s H E hr => ⟨_, _, (pss_cons (ps_if (PW.pt (pw_or (pt_cmpR (op_neD hr.units) (pe_tup (pa_cons (pe_fld (pv 0) rfl) (pa_cons (pe_fld (pv 0) rfl) (pa_cons (pe_fld (pv 0) rfl) (pa_cons (pe_fld (pv 0) rfl) (pa_cons (pe_fld (pv 0) rfl) pa_nil)))))) (pv 1) (nomark _)) (pw_or1 (pt_cmpR op_ne (pe_callB (call_lenO O_Bundle___len__ (hr.mono (by decide))) (by rfl) T.b_len (by decide +kernel) (pa_cons (pv 0) pa_nil)) (pe_ix ix_tup (pv 1) pe_int (fun _ _ => rfl)) (nomark _))))) (pss_one (ps_ret pe_bl)) pss_nil)
      (pss_one (ps_ret (pe_and (pe_cmpR op_eq (pe_callTy (call_strO O_Bundle___str__ (hr.mono (by decide))) (by rfl) T.b_str (by decide +kernel) (pa_cons (pv 0) pa_nil)) (pe_callC C__law_text hr rfl (pa_cons (pv 1) pa_nil)) (nomark _)) (pe_and (pe_cmpR op_eq (pe_callB (call_reprO O_Bundle___repr__ (hr.mono (by decide))) (by rfl) T.b_repr (by decide +kernel) (pa_cons (pv 0) pa_nil)) (pe_op op_addS (pe_op op_addS pe_str (pe_callC C__law_text hr rfl (pa_cons (pv 1) pa_nil))) pe_str) (nomark _)) (pe_one (pe_cmpR op_isB (pe_callTy (call_boolO O_Bundle___len__ T.nb_Bundle (hr.mono (by decide))) (by rfl) T.b_bool (by decide +kernel) (pa_cons (pv 0) pa_nil)) pe_bl (nomark _)))))))), inferInstance, fun ss Q X h => ?_⟩
  obtain ⟨s, r, rfl, rfl, hk, h1, q⟩ := h
  refine ⟨[_, _], rfl, ?_⟩
  refine ⟨⟨T.cl_Bundle, T.n_Bundle_town⟩, _, rfl, ⟨T.cl_Bundle, T.n_Bundle_seller⟩, _, rfl, ⟨T.cl_Bundle, T.n_Bundle_number⟩, _, rfl, ⟨T.cl_Bundle, T.n_Bundle_of⟩, _, rfl, ⟨T.cl_Bundle, T.n_Bundle_copies⟩, _, rfl, (by show 5 ≤ sizeLine; decide), ?_⟩
  refine ⟨_, _, py_parts r, py_parts r, shaped_parts hk, shaped_parts hk, ?_⟩
  refine L2.ite_not (by rw [eqv_parts]; simp) ?_
  have hk' := hk
  obtain ⟨_, _, _, _, c0, c1⟩ := hk'
  refine ⟨rfl, r, rfl, c0, c1, _, rfl, _, rfl, c0, by omega, _, rfl, rfl, ?_⟩
  refine L2.ite_not (by simp) ?_
  refine ⟨rfl, r, rfl, hk, _, rfl, _, rfl, r, rfl, hk, rfl, ?_⟩
  rw [decide_eq_true (p := V.str (textB r) = V.str (textB r)) rfl]
  have hl := textB_len hk
  have l0 : ("Bundle(" : Str).length = 7 := by decide +kernel
  have l2 : (")" : Str).length = 1 := by decide +kernel
  refine ⟨rfl, r, rfl, hk, _, rfl, _, rfl, r, rfl, hk, smallLe (by rw [l0]; omega), smallLe (by rw [strLen_app, l0, l2]; omega), rfl, ?_⟩
  rw [decide_eq_true (by unfold reprB; rw [empty_app])]
  have e : (r.c != 0) = true := by simp; omega
  refine ⟨rfl, r, rfl, c0, c1, _, rfl, _, rfl, c0, by omega, ?_⟩
  rw [e]
  exact q
theorem keep_len {a b : Str} : ∀ {xs : List Str}, xs.Nodup → xs.length ≤ (xs.filter fun x => !([a, b].contains x)).length + (if a ∈ xs then 1 else 0) + (if b ∈ xs then 1 else 0)
  | [], _ => by simp
  | x :: r, h => by
    obtain ⟨h1, h2⟩ := List.nodup_cons.mp h
    have ih := keep_len (a := a) (b := b) h2
    by_cases ea : a = x
    · subst ea
      rw [if_neg h1] at ih
      rw [List.filter_cons_of_neg (by simp), if_pos (List.mem_cons_self ..)]
      have : (if b ∈ r then 1 else 0) ≤ if b ∈ a :: r then 1 else 0 := by
        by_cases hb : b ∈ r
        · rw [if_pos hb, if_pos (List.mem_cons_of_mem _ hb)]; exact Nat.le_refl _
        · rw [if_neg hb]; exact Nat.zero_le _
      rw [List.length_cons]
      omega
    · by_cases eb : b = x
      · subst eb
        rw [if_neg h1] at ih
        rw [List.filter_cons_of_neg (by simp), if_pos (List.mem_cons_self ..)]
        have : (if a ∈ r then 1 else 0) ≤ if a ∈ b :: r then 1 else 0 := by
          by_cases ha : a ∈ r
          · rw [if_pos ha, if_pos (List.mem_cons_of_mem _ ha)]; exact Nat.le_refl _
          · rw [if_neg ha]; exact Nat.zero_le _
        rw [List.length_cons]
        omega
      · rw [List.filter_cons_of_pos (by simp [Ne.symm ea, Ne.symm eb])]
        have ja : (if a ∈ x :: r then 1 else 0) = if a ∈ r then 1 else 0 := by simp [ea]
        have jb : (if b ∈ x :: r then 1 else 0) = if b ∈ r then 1 else 0 := by simp [eb]
        rw [ja, jb, List.length_cons, List.length_cons]
        omega
/-- the parts but for one -/
def spOthers : DSp := fun ss Q _ => ∃ (n : Nat) (a : Addr) (r : Row), ss = [.gad 0 n a, .d (partsD r)] ∧ n < 70000 ∧ RowOk r ∧ r.k ≤ 1000000 ∧ r.n ≤ 1000000 ∧ r.c ≤ 1000000 ∧
  ∀ (n' : Nat) (us : List Row), n' ≤ n + 100 → us.length ≤ 6 → (∀ u ∈ us, RowOk u ∧ eqR r u = false) → Q (.new .lst (us.map partsD)) [.gad 0 n' a, .d (partsD r)]
theorem ok__law_others {f : Addr} {fd : FuncData} (T : Txt K mg c) (F : Fun K "_law_others" "_law_others" s__law_others f fd) (C__law_take : Callee P w K mg base 2 "_law_take" ["_law_held_here", "_law_many"] (upS dTake)) (C__law_names : Callee P w K mg base 3 "_law_names" ["_law_held_here", "_law_many"] (upS dNames)) : FnOk P w K mg base CX0 6 f fd ["_law_held_here", "_law_parts"] (upS spOthers) := by
  refine F.okD sc__law_others (fun ss Q X ⟨_, _, _, h, _⟩ => by rw [h]; rfl) fun cdv A outer s H E hr => ⟨_, _, (pss_cons (ps_setLc (i := 2) (own := [("_law_name", 6)]) (g := gName 6) (by rfl) sc__law_others.nd rfl rfl (sw_true rfl rfl rfl (by decide +kernel)) (pi_list (pe_callC C__law_names hr rfl (pa_cons (pv 0) (pa_cons pe_int pa_nil)))) (blkOk_by (own := [("_law_name", 6)]) (N := N__law_others) (sc := defScope s__law_others) (by decide +kernel)) (fun _ _ _ _ _ => pg_name (i := 6) sc__law_others.nd rfl (Or.inl rfl)) (fun _ _ _ _ _ => (pts_one (pt_cmpR (show OpR _ _ (rIn K true) from op_notIn_seq) (pv 6) (pe_slice (show SlR _ (rSlT K) from sl_tup) (pv 1) po_none (po_some pe_int)) (by rfl)))) (fun _ _ _ _ _ => (pv 6)))
      (pss_cons (ps_set (i := 3) sc__law_others.nd rfl (by first | exact Or.inl rfl | exact Or.inr rfl) (pe_lst pa_nil))
      (pss_cons (ps_for PassesOwn.never rfl (pi_range1 (by rfl) T.b_range (pa_cons pe_int pa_nil)) (pg_name (i := 4) sc__law_others.nd rfl (by first | exact Or.inl rfl | exact Or.inr rfl))
      (pss_cons (ps_set (i := 5) sc__law_others.nd rfl (by first | exact Or.inl rfl | exact Or.inr rfl) (pe_ifExp (pt_cmpR op_lt (pv 4) pe_int (nomark _)) (pe_ix ix_list (pv 2) (pe_callC C__law_take hr rfl (pa_cons (pv 0) (pa_cons (pe_callB (show CallR _ _ (rLenQ K) from call_len_seq) (by rfl) T.b_len (by decide +kernel) (pa_cons (pv 2) pa_nil)) pa_nil))) (fun _ _ => rfl)) (pe_op op_add (pe_op op_add (pe_ix ix_tup (pv 1) (pv 4) (fun _ _ => rfl)) pe_int) (pe_callC C__law_take hr rfl (pa_cons (pv 0) (pa_cons pe_int pa_nil))))))
        (pss_one (ps_expr (pe_bm PySem.F.plainAttrs_list PySem.F.slot_list_append PySem.F.type_list_append mt_append (pv 3) (pa_cons (pe_op op_catU (pe_op op_catU (pe_slice sl_tup (pv 1) po_none (po_some (pv 4))) (pe_tup (pa_cons (pv 5) pa_nil))) (pe_slice sl_tup (pv 1) (po_some (pe_op op_add (pv 4) pe_int)) po_none)) pa_nil))))))
      (pss_one (ps_ret (pe_op op_cat (pv 3) (pe_op op_rep (pe_lst (pa_cons (pe_op op_catU (pe_tup (pa_cons (pe_ix ix_tup (pv 1) pe_int (fun _ _ => rfl)) (pa_cons (pe_ix ix_tup (pv 1) pe_int (fun _ _ => rfl)) pa_nil))) (pe_slice sl_tup (pv 1) (po_some pe_int) po_none)) pa_nil)) (pe_callTy call_int1D (by rfl) T.b_int (by decide +kernel) (pa_cons (pe_cmpR op_ne (pe_ix ix_tup (pv 1) pe_int (fun _ _ => rfl)) (pe_ix ix_tup (pv 1) pe_int (fun _ _ => rfl)) (nomark _)) pa_nil))))))))), inferInstance, fun ss Q X h => ?_⟩
  obtain ⟨n, a, r, rfl, hn, hk, hk1, hn1, hc1, q⟩ := h
  refine ⟨[_, _, .no, .no, .no, .no, .no], rfl, ?_⟩
  refine ⟨n, a, 9, rfl, by omega, by decide, by decide, fun n1 xs h1 hx ho hd => ?_⟩
  have hx9 : xs.length = 9 := hx
  refine ⟨rfl, fun i δ acc => δ = [.gad 0 n1 a, .d (partsD r), .no, .no, .no, .no, .no] ∧ acc = ((xs.take i).filter fun x => !([r.t, r.s].contains x)).map NmD, ⟨rfl, rfl⟩, fun _ _ _ _ => trivial, ?_, ?_⟩
  · rintro i δ acc x hx ⟨rfl, rfl⟩
    have hx' : (xs.map NmD)[i]? = some x := hx
    rw [List.getElem?_map] at hx'
    cases hu : xs[i]? with
    | none => rw [hu] at hx'; cases hx'
    | some u =>
      rw [hu] at hx'
      cases hx'
      have hlen : ((xs.take i).filter fun x => !([r.t, r.s].contains x)).length ≤ 9 := Nat.le_trans (List.length_filter_le ..) (by rw [List.length_take]; omega)
      refine ⟨Nat.lt_of_le_of_lt (by rw [List.length_map]; exact hlen) (by decide), ⟨by show ¬ (0 = 0 ∧ 2 = 5); decide, [r.t, r.s], rfl, ?_⟩⟩
      have et : (xs.take (i + 1)).filter (fun x => !([r.t, r.s].contains x)) = (xs.take i).filter (fun x => !([r.t, r.s].contains x)) ++ [u].filter (fun x => !([r.t, r.s].contains x)) := by rw [take_snoc hu, List.filter_append]
      refine ite2 (fun c0 => ?_) (fun c0 => ?_)
      · refine ⟨rfl, ?_⟩
        rw [et, List.filter_cons_of_pos (p := fun x => !([r.t, r.s].contains x)) c0, List.map_append]
        rfl
      · refine ⟨rfl, ?_⟩
        rw [et, List.filter_cons_of_neg (p := fun x => !([r.t, r.s].contains x)) c0]
        simp
  · rintro δ acc ⟨rfl, rfl⟩ b
    have hkl : 7 ≤ ((xs.take xs.length).filter fun x => !([r.t, r.s].contains x)).length := by
      rw [List.take_length]
      have := keep_len (a := r.t) (b := r.s) (hd (by decide))
      have e1 : (if r.t ∈ xs then 1 else 0) ≤ 1 := by split <;> omega
      have e2 : (if r.s ∈ xs then 1 else 0) ≤ 1 := by split <;> omega
      omega
    have hko : ∀ y ∈ (xs.take xs.length).filter fun x => !([r.t, r.s].contains x), NmOk y ∧ y ≠ r.t ∧ y ≠ r.s := by
      intro y hy
      rw [List.take_length] at hy
      obtain ⟨y1, y2⟩ := List.mem_filter.mp hy
      simp only [List.contains_cons, List.contains_nil, Bool.or_false, Bool.not_eq_true', Bool.or_eq_false_iff, beq_eq_false_iff_ne] at y2
      exact ⟨ho y y1, y2.1, y2.2⟩
    have hku : ((xs.take xs.length).filter fun x => !([r.t, r.s].contains x)).length ≤ 9 := Nat.le_trans (List.length_filter_le ..) (by rw [List.length_take]; omega)
    rw [List.length_map]
    generalize (xs.take xs.length).filter (fun x => !([r.t, r.s].contains x)) = ks at hkl hko hku ⊢
    refine ⟨(by show 0 ≤ sizeLine; decide), fun b2 => ⟨⟨by decide, by decide⟩, fun i δ => ∃ (n2 : Nat) (us : List Row) (s4 s5 s6 : S), δ = [.gad 0 n2 a, .d (partsD r), .own true b .lst (ks.map NmD), .own true b2 .lst (us.map partsD), s4, s5, s6] ∧ n2 ≤ n1 + 2 * i ∧ us.length = i ∧ ∀ u ∈ us, RowOk u ∧ eqR r u = false, ⟨n1, [], _, _, _, rfl, by omega, rfl, by simp⟩, fun _ _ _ => trivial, ?_, ?_⟩⟩
    · rintro i δ x hx2 ⟨n2, us, s4, s5, s6, rfl, hn2, hul, hu⟩
      obtain ⟨hi, rfl⟩ := intsD_get hx2
      have hi5 : i = 0 ∨ i = 1 ∨ i = 2 ∨ i = 3 ∨ i = 4 := by have : i < 5 := hi; omega
      rcases hi5 with rfl | rfl | rfl | rfl | rfl
      · refine ⟨n2, a, ((ks.map NmD).length : Nat), rfl, by omega, by rw [List.length_map]; omega, by rw [List.length_map]; omega, fun r0 g0 g1 => ?_⟩
        obtain ⟨e, he, hm⟩ := at_some (l := ks.map NmD) g0 g1
        obtain ⟨y, hy, rfl⟩ := List.mem_map.mp hm
        obtain ⟨y1, y2, y3⟩ := hko y hy
        refine ⟨_, he, (by show ¬ (0 = 0 ∧ 0 = 5); decide), (by show 1 ≤ sizeLine; decide), (by show 0 + 1 ≤ sizeLine; decide), (by show ¬ (1 = 0 ∧ 5 = 5); decide), (by show 1 + 4 ≤ sizeLine; decide), small1000' (by rw [List.length_map]; omega), n2 + 2, us ++ [{ r with t := y }], _, _, _, by rw [List.map_append]; rfl, by omega, by simp [hul], fun u hu' => ?_⟩
        rcases List.mem_append.mp hu' with hu' | hu'
        · exact hu u hu'
        · rw [List.mem_singleton.mp hu']
          obtain ⟨z1, z2, z3, z4, z5⟩ := hk
          exact ⟨⟨y1, z2, z3, z4, z5⟩, by unfold eqR; exact decide_eq_false fun z => y2 z.1.symm⟩
      · refine ⟨n2, a, ((ks.map NmD).length : Nat), rfl, by omega, by rw [List.length_map]; omega, by rw [List.length_map]; omega, fun r0 g0 g1 => ?_⟩
        obtain ⟨e, he, hm⟩ := at_some (l := ks.map NmD) g0 g1
        obtain ⟨y, hy, rfl⟩ := List.mem_map.mp hm
        obtain ⟨y1, y2, y3⟩ := hko y hy
        refine ⟨_, he, (by show ¬ (0 = 0 ∧ 1 = 5); decide), (by show 1 ≤ sizeLine; decide), (by show 1 + 1 ≤ sizeLine; decide), (by show ¬ (2 = 0 ∧ 5 = 5); decide), (by show 2 + 3 ≤ sizeLine; decide), small1000' (by rw [List.length_map]; omega), n2 + 2, us ++ [{ r with s := y }], _, _, _, by rw [List.map_append]; rfl, by omega, by simp [hul], fun u hu' => ?_⟩
        rcases List.mem_append.mp hu' with hu' | hu'
        · exact hu u hu'
        · rw [List.mem_singleton.mp hu']
          obtain ⟨z1, z2, z3, z4, z5⟩ := hk
          exact ⟨⟨z1, y1, z3, z4, z5⟩, by unfold eqR; exact decide_eq_false fun z => y3 z.2.1.symm⟩
      · refine ⟨_, rfl, n2, a, 3, rfl, by omega, by decide, by decide, fun r0 g0 g1 => ?_⟩
        refine ⟨(by show ¬ (0 = 0 ∧ 2 = 5); decide), (by show 1 ≤ sizeLine; decide), (by show 2 + 1 ≤ sizeLine; decide), (by show ¬ (3 = 0 ∧ 5 = 5); decide), (by show 3 + 2 ≤ sizeLine; decide), small1000' (by rw [List.length_map]; omega), n2 + 2, us ++ [{ r with k := r.k + 1 + r0 }], _, _, _, by rw [List.map_append]; rfl, by omega, by simp [hul], fun u hu' => ?_⟩
        rcases List.mem_append.mp hu' with hu' | hu'
        · exact hu u hu'
        · rw [List.mem_singleton.mp hu']
          obtain ⟨z1, z2, z3, z4, z5⟩ := hk
          refine ⟨⟨z1, z2, ?_, z4, z5⟩, (decide_eq_false fun z => ?_ : eqR r _ = false)⟩
          · show 0 ≤ r.k + 1 + r0 ∧ r.k + 1 + r0 ≤ 2000000
            omega
          · have : r.k = r.k + 1 + r0 := z.2.2.1
            omega
      · refine ⟨_, rfl, n2, a, 3, rfl, by omega, by decide, by decide, fun r0 g0 g1 => ?_⟩
        refine ⟨(by show ¬ (0 = 0 ∧ 3 = 5); decide), (by show 1 ≤ sizeLine; decide), (by show 3 + 1 ≤ sizeLine; decide), (by show ¬ (4 = 0 ∧ 5 = 5); decide), (by show 4 + 1 ≤ sizeLine; decide), small1000' (by rw [List.length_map]; omega), n2 + 2, us ++ [{ r with n := r.n + 1 + r0 }], _, _, _, by rw [List.map_append]; rfl, by omega, by simp [hul], fun u hu' => ?_⟩
        rcases List.mem_append.mp hu' with hu' | hu'
        · exact hu u hu'
        · rw [List.mem_singleton.mp hu']
          obtain ⟨z1, z2, z3, z4, z5⟩ := hk
          refine ⟨⟨z1, z2, z3, ?_, z5⟩, (decide_eq_false fun z => ?_ : eqR r _ = false)⟩
          · show 0 ≤ r.n + 1 + r0 ∧ r.n + 1 + r0 ≤ 2000000
            omega
          · have : r.n = r.n + 1 + r0 := z.2.2.2.1
            omega
      · refine ⟨_, rfl, n2, a, 3, rfl, by omega, by decide, by decide, fun r0 g0 g1 => ?_⟩
        refine ⟨(by show ¬ (0 = 0 ∧ 4 = 5); decide), (by show 1 ≤ sizeLine; decide), (by show 4 + 1 ≤ sizeLine; decide), (by show ¬ (5 = 0 ∧ 5 = 5); decide), (by show 5 + 0 ≤ sizeLine; decide), small1000' (by rw [List.length_map]; omega), n2 + 2, us ++ [{ r with c := r.c + 1 + r0 }], _, _, _, by rw [List.map_append]; rfl, by omega, by simp [hul], fun u hu' => ?_⟩
        rcases List.mem_append.mp hu' with hu' | hu'
        · exact hu u hu'
        · rw [List.mem_singleton.mp hu']
          obtain ⟨z1, z2, z3, z4, z5⟩ := hk
          refine ⟨⟨z1, z2, z3, z4, ?_⟩, (decide_eq_false fun z => ?_ : eqR r _ = false)⟩
          · show 0 ≤ r.c + 1 + r0 ∧ r.c + 1 + r0 ≤ 2000000
            omega
          · have : r.c = r.c + 1 + r0 := z.2.2.2.2
            omega
    · rintro δ ⟨n2, us, s4, s5, s6, rfl, hn2, hul, hu⟩
      have hul : us.length = 5 := hul
      have hn2 : n2 ≤ n1 + 2 * 5 := hn2
      refine ⟨_, rfl, _, rfl, (by show 2 ≤ sizeLine; decide), (by show ¬ (2 = 0 ∧ 5 = 5); decide), (by show 2 + 3 ≤ sizeLine; decide), (by show 1 ≤ sizeLine; decide), _, rfl, _, rfl, rfl, ?_⟩
      by_cases e : V.str r.t = V.str r.s
      · rw [decide_eq_true e]
        refine ⟨⟨by decide, by decide, (by show 1 * 0 ≤ sizeLine; decide)⟩, smallLe (by show (us.map partsD).length + 0 ≤ _; rw [List.length_map]; omega), ?_⟩
        simp only [Bool.not_true, Bool.false_eq_true, if_false, Int.toNat_zero, List.replicate_zero, List.flatten_nil, List.append_nil]
        exact ⟨⟨rfl, rfl⟩, q n2 us (by omega) (by omega) hu⟩
      · rw [decide_eq_false e]
        refine ⟨⟨by decide, by decide, (by show 1 * 1 ≤ sizeLine; decide)⟩, smallLe (by show (us.map partsD).length + 1 ≤ _; rw [List.length_map]; omega), ?_⟩
        simp only [Bool.not_false, if_true, Int.toNat_one, List.replicate_one, List.flatten_cons, List.flatten_nil, List.append_nil]
        have := q n2 (us ++ [{ r with t := r.s, s := r.t }]) (by omega) (by rw [List.length_append, hul]; exact Nat.le_refl _) fun u hu' => by
          rcases List.mem_append.mp hu' with hu' | hu'
          · exact hu u hu'
          · rw [List.mem_singleton.mp hu']
            obtain ⟨z1, z2, z3⟩ := hk
            exact ⟨⟨z2, z1, z3⟩, decide_eq_false fun z => e (by rw [z.1])⟩
        rw [List.map_append] at this
        exact ⟨⟨rfl, rfl⟩, this⟩
theorem eqR_symm (r u : Row) : eqR r u = eqR u r := by
  unfold eqR
  rw [decide_eq_decide]
  constructor <;> (rintro ⟨a, b, c, d, e⟩; exact ⟨a.symm, b.symm, c.symm, d.symm, e.symm⟩)
theorem eqR_self (r : Row) : eqR r r = true := decide_eq_true ⟨rfl, rfl, rfl, rfl, rfl⟩
theorem bun_inj {C : Addr} {r u : Row} (e : bunD C r = bunD C u) : eqR r u = true := by
  unfold bunD at e
  simp only [D.nd.injEq, List.cons.injEq, D.v.injEq, V.str.injEq, V.int.injEq, and_true, true_and] at e
  exact decide_eq_true e
theorem pure_bun (C : Addr) (r : Row) : pureD (bunD C r) = true := by simp [bunD, pureD, pureL]
theorem in_skip {C : Addr} {Q : RK} {r : Row} {es : List D} : ∀ {us : List Row}, (∀ u ∈ us, eqR r u = false) → inRM C (spEqU C) (bunD C r) Q es → inRM C (spEqU C) (bunD C r) Q (us.map (bunD C) ++ es)
  | [], _, q => q
  | u :: us, h, q => by
    have h0 := h u List.mem_cons_self
    have ih := in_skip (es := es) (us := us) (fun u hu => h u (List.mem_cons_of_mem _ hu)) q
    refine ⟨fun e => ?_, .inl ⟨rfl, pure_bun C u, u, _, rfl, .inl ⟨r, rfl, _, rfl, _, rfl, ?_⟩⟩⟩
    · have := bun_inj e
      rw [eqR_symm, h0] at this
      cases this
    · rw [eqR_symm, h0, if_neg (by decide)]
      exact ih
theorem in_here {C : Addr} {Q : RK} {r : Row} {es : List D} (q : Q (rv (.bl true))) : inRM C (spEqU C) (bunD C r) Q (bunD C r :: es) :=
  ⟨fun _ => q, .inl ⟨rfl, pure_bun C r, r, _, rfl, .inl ⟨r, rfl, _, rfl, _, rfl, by rw [eqR_self, if_pos rfl]; exact q⟩⟩⟩
theorem py_nil : (D.nd .lst []).py = some (.list []) := by simp [D.py, pyL]
theorem shaped_nil : SeqAt.shaped (.list []) = true := by decide +kernel
theorem first_row {w : Want} {z : Nat} (hz : 0 < z) (hm : 1 ≤ w.m) : ∃ rest, allRows [w] z = ⟨w.t, w.s, 1, ((allRows [w] z).length : Int), if (z : Int) < (w.m : Int) then (z : Int) else (w.m : Int)⟩ :: rest := by
  have e0 : allRows [w] z = rowsOf w z := by simp [allRows]
  rw [e0, rows_len]
  obtain ⟨c0, r0, hs, hc⟩ : ∃ c0 r0, sizesL w.m z = c0 :: r0 ∧ c0 = if (z : Int) < (w.m : Int) then (z : Int) else (w.m : Int) := by
    unfold sizesL
    by_cases h : w.m < z
    · have e : w.m / z = 0 := Nat.div_eq_of_lt h
      rw [e, Nat.mul_zero, if_pos (show 0 < w.m by omega)]
      refine ⟨_, _, rfl, ?_⟩
      rw [if_neg (by omega)]
      rfl
    · have : 0 < w.m / z := Nat.div_pos (by omega) hz
      obtain ⟨q, hq⟩ : ∃ q, w.m / z = q + 1 := ⟨w.m / z - 1, by omega⟩
      refine ⟨(z : Int), _, by rw [hq, List.replicate_succ]; rfl, ?_⟩
      by_cases h2 : (z : Int) < (w.m : Int)
      · rw [if_pos h2]
      · rw [if_neg h2]; omega
  refine ⟨(r0.mapIdx fun i c => ⟨w.t, w.s, ((i + 1 : Nat) : Int) + 1, ((sizesL w.m z).length : Int), c⟩), ?_⟩
  unfold rowsOf
  rw [← hc]
  rw [hs, List.mapIdx_cons]
  rfl
abbrev KLAW : Nat := 12
def spLaw (K : PySem.W.Frag) : Sp := fun vs H Q _ => ∃ (a : Addr) (ns : List Int), vs = [.ref a] ∧ SqL K H a (ns.map V.int) ∧ ns.length ≤ 63 ∧ ∀ H', Q (.bl true) H'
abbrev sp_law (K : PySem.W.Frag) : Sp := spLaw K
theorem ok_law {f : Addr} {fd : FuncData} (T : Txt K mg c) (F : Fun K "law" "law" s_law f fd) (MF_Bundle : MakeF P w K mg base 1 "Bundle" c.Bundle ["self", "town", "seller", "number", "of", "copies"] (upS (spMakeB c.Bundle)) [] forms_Bundle) (E_Bundle : OwnE P w K mg base 1 c.Bundle (upS (spEqU c.Bundle))) (O_Bundle___len__ : OwnM P w K mg base 1 c.Bundle "__len__" ["self"] (upS (spLenB c.Bundle))) (O_Bundle___repr__ : OwnM P w K mg base 4 c.Bundle "__repr__" ["self"] (upS (spReprB c.Bundle)))
    (C__law_held : Callee P w K mg base 1 "_law_held" ["_law_script"] (spPen K)) (C__law_names : Callee P w K mg base 3 "_law_names" ["_law_held_here", "_law_many"] (upS dNames)) (C__law_take : Callee P w K mg base 2 "_law_take" ["_law_held_here", "_law_many"] (upS dTake)) (C__law_made : Callee P w K mg base 3 "_law_made" ["_law_parts"] (upS (spMadeB c.Bundle))) (C__law_others : Callee P w K mg base 6 "_law_others" ["_law_held_here", "_law_parts"] (upS spOthers)) (C__law_right : Callee P w K mg base 8 "_law_right" ["_law_one", "_law_parts"] (upS (spRight c.Bundle))) (C__law_text : Callee P w K mg base 1 "_law_text" ["_law_parts"] (upS spText)) (C_bundled : CalleeD P w K mg base 4 "bundled" ["wants", "size"] (upS (spBundled c.Bundle)) [.int 50] forms_bundled) : FnOk P w K mg base CX0 KLAW f fd ["_law_script"] (sp_law K) := by
  refine F.ok sc_law (fun vs H Q E h => ?_) (fun cdv A outer s H vs Q E hr h => ?_)
  · obtain ⟨a, ns, rfl, _⟩ := h
    rfl
  · obtain ⟨a, ns, rfl, hS, hlen, k⟩ := h
    refine ⟨_, (pss_cons (ps_set (i := 1) sc_law.nd rfl (by first | exact Or.inl rfl | exact Or.inr rfl) (pe_callC C__law_held hr rfl (pa_cons (pv 0) pa_nil)))
      (pss_cons (ps_for PassesOwn.never rfl (pi_range1 (by rfl) T.b_range (pa_cons pe_int pa_nil)) (pg_name (i := 2) sc_law.nd rfl (by first | exact Or.inl rfl | exact Or.inr rfl))
      (pss_consC (ps_set (i := 3) sc_law.nd rfl (by first | exact Or.inl rfl | exact Or.inr rfl) (pe_callC C__law_names hr rfl (pa_cons (pv 1) (pa_cons pe_int pa_nil))))
        (pss_consC (ps_set (i := 4) sc_law.nd rfl (by first | exact Or.inl rfl | exact Or.inr rfl) (pe_tup (pa_cons (pe_op op_add pe_int (pe_callC C__law_take hr rfl (pa_cons (pv 1) (pa_cons pe_int pa_nil)))) (pa_cons (pe_op op_add pe_int (pe_callC C__law_take hr rfl (pa_cons (pv 1) (pa_cons pe_int pa_nil)))) pa_nil))))
        (pss_consC (ps_set (i := 5) sc_law.nd rfl (by first | exact Or.inl rfl | exact Or.inr rfl) (pe_op op_catU (pe_tup (pa_cons (pe_ix ix_list (pv 3) (pe_callC C__law_take hr rfl (pa_cons (pv 1) (pa_cons pe_int pa_nil))) (fun _ _ => rfl)) (pa_cons (pe_ix ix_list (pv 3) (pe_callC C__law_take hr rfl (pa_cons (pv 1) (pa_cons pe_int pa_nil))) (fun _ _ => rfl)) pa_nil))) (pv 4)))
        (pss_consC (ps_set (i := 5) sc_law.nd rfl (by first | exact Or.inl rfl | exact Or.inr rfl) (pe_op op_catU (pv 5) (pe_tup (pa_cons (pe_op op_add pe_int (pe_callC C__law_take hr rfl (pa_cons (pv 1) (pa_cons (pe_ix ix_list (pe_lst (pa_cons pe_int (pa_cons pe_int (pa_cons pe_int pa_nil)))) (pe_callC C__law_take hr rfl (pa_cons (pv 1) (pa_cons pe_int pa_nil))) (fun _ _ => rfl)) pa_nil)))) pa_nil))))
        (pss_consC (ps_set (i := 6) sc_law.nd rfl (by first | exact Or.inl rfl | exact Or.inr rfl) (pe_callC C__law_made hr rfl (pa_cons (pv 5) pa_nil)))
        (pss_consC (ps_set (i := 7) sc_law.nd rfl (by first | exact Or.inl rfl | exact Or.inr rfl) (pe_makeFc0 (F := (0, ["copies", "number", "of", "town", "seller"], [3, 4, 1, 2, 0])) 1 MF_Bundle.calm hr rfl (pk_cons (pe_ix ix_tup (pv 5) pe_int (fun _ _ => rfl)) (pk_cons (pe_ix ix_tup (pv 5) pe_int (fun _ _ => rfl)) (pk_cons (pe_ix ix_tup (pv 5) pe_int (fun _ _ => rfl)) (pk_cons (pe_ix ix_tup (pv 5) pe_int (fun _ _ => rfl)) (pk_cons (pe_ix ix_tup (pv 5) pe_int (fun _ _ => rfl)) pk_nil)))))))
        (pss_consC (ps_setLc (i := 8) (own := [("_law_some", 13)]) (g := gName 13) (by rfl) sc_law.nd rfl rfl (sw_true rfl rfl rfl (by decide +kernel)) (pi_list (pe_callC C__law_others hr rfl (pa_cons (pv 1) (pa_cons (pv 5) pa_nil)))) (blkOk_by (own := [("_law_some", 13)]) (N := N_law) (sc := defScope s_law) (by decide +kernel)) (fun _ _ _ _ _ => pg_name (i := 13) sc_law.nd rfl (Or.inl rfl)) (fun _ _ _ _ _ => pts_nil) (fun _ _ _ _ _ => (pe_callC C__law_made hr rfl (pa_cons (pv 13) pa_nil))))
        (pss_consC (ps_if (PW.pt (pw_or (pt_not (pt_val (pe_callC C__law_right hr rfl (pa_cons (pv 6) (pa_cons (pv 5) pa_nil))))) (pw_or (pt_not (pt_val (pe_callC C__law_right hr rfl (pa_cons (pv 7) (pa_cons (pv 5) pa_nil))))) (pw_or (pt_not (pt_cmpR (op_eqEO E_Bundle (hr.mono (by decide))) (pv 6) (pv 7) (nomark _))) (pw_or1 (pt_cmpR (op_neEO E_Bundle (hr.mono (by decide))) (pv 6) (pv 7) (nomark _))))))) (pss_one (ps_ret pe_bl)) pss_nil)
        (pss_consC (ps_if (PW.pt (pw_or (pt_cmpR (show OpR _ _ (rInM K _ _) from op_inM E_Bundle (hr.mono (by decide))) (pv 6) (pv 8) (by rfl)) (pw_or (pt_not (pt_cmpR (show OpR _ _ (rInM K _ _) from op_inM E_Bundle (hr.mono (by decide))) (pv 7) (pe_op op_cat (pv 8) (pe_lst (pa_cons (pv 6) pa_nil))) (by rfl))) (pw_or1 (pt_cmpR (op_neD hr.units) (pe_lc (own := [("_law_other", 14)]) (g := gName 14) (by rfl) sc_law.nd (pi_list (pv 8)) (blkOk_by (own := [("_law_other", 14)]) (N := N_law) (sc := defScope s_law) (by decide +kernel)) (fun _ _ _ _ _ => pg_name (i := 14) sc_law.nd rfl (Or.inl rfl)) (fun _ _ _ _ _ => (pts_one (pt_cmpR (op_eqEO E_Bundle (hr.mono (by decide))) (pv 14) (pv 6) (nomark _)))) (fun _ _ _ _ _ => (pv 14))) (pe_lst pa_nil) (nomark _)))))) (pss_one (ps_ret pe_bl)) pss_nil)
        (pss_consC (ps_if (pt_cmpR (op_neD hr.units) (pe_lc (own := [("_law_other", 14)]) (g := gName 14) (by rfl) sc_law.nd (pi_list (pv 8)) (blkOk_by (own := [("_law_other", 14)]) (N := N_law) (sc := defScope s_law) (by decide +kernel)) (fun _ _ _ _ _ => pg_name (i := 14) sc_law.nd rfl (Or.inl rfl)) (fun _ _ _ _ _ => (pts_one (PW.pt (pw_or (pt_cmpR (op_eqEO E_Bundle (hr.mono (by decide))) (pv 6) (pv 14) (nomark _)) (pw_or1 (pt_not (pt_cmpR (op_neEO E_Bundle (hr.mono (by decide))) (pv 6) (pv 14) (nomark _)))))))) (fun _ _ _ _ _ => (pv 14))) (pe_lst pa_nil) (nomark _)) (pss_one (ps_ret pe_bl)) pss_nil)
        (pss_consC (ps_for PassesOwn.never rfl (pi_tup (pe_tup (pa_cons (pv 5) (pa_cons (pe_callTy (show CallR _ _ (rListOf K) from call_list_of) (by rfl) T.b_list (by decide +kernel) (pa_cons (pv 5) pa_nil)) (pa_cons (pe_callC C__law_text hr rfl (pa_cons (pv 5) pa_nil)) (pa_cons (pe_ix ix_tup (pv 5) pe_int (fun _ _ => rfl)) (pa_cons pe_non (pa_cons (pe_lst (pa_cons (pv 6) pa_nil)) (pa_cons (pe_callB (call_reprO O_Bundle___repr__ (hr.mono (by decide))) (by rfl) T.b_repr (by decide +kernel) (pa_cons (pv 6) pa_nil)) pa_nil))))))))) (pg_name (i := 9) sc_law.nd rfl (by first | exact Or.inl rfl | exact Or.inr rfl))
        (pss_one (ps_if (PW.pt (pw_or (pt_cmpR (show OpR _ _ (rEqU K _ _) from op_eqU E_Bundle (hr.mono (by decide))) (pv 6) (pv 9) (nomark _)) (pw_or (pt_cmpR (show OpR _ _ (rEqU K _ _) from op_eqU E_Bundle (hr.mono (by decide))) (pv 9) (pv 6) (nomark _)) (pw_or1 (pt_not (pt_cmpR (show OpR _ _ (rNeU K _ _) from op_neU E_Bundle (hr.mono (by decide))) (pv 6) (pv 9) (nomark _))))))) (pss_one (ps_ret pe_bl)) pss_nil)))
        (pss_consC (ps_set (i := 10) sc_law.nd rfl (by first | exact Or.inl rfl | exact Or.inr rfl) (pe_callB (call_min2D rfl) (by rfl) T.b_min (by decide +kernel) (pa_cons pe_int (pa_cons (pe_op op_add pe_int (pe_op op_fdiv (pe_ix ix_tup (pv 5) pe_int (fun _ _ => rfl)) pe_int)) pa_nil))))
        (pss_consC (ps_set (i := 11) sc_law.nd rfl (by first | exact Or.inl rfl | exact Or.inr rfl) (pe_callD 0 C_bundled hr rfl (pa_cons (pe_lst (pa_cons (pe_tup (pa_cons (pe_ix ix_tup (pv 5) pe_int (fun _ _ => rfl)) (pa_cons (pe_ix ix_tup (pv 5) pe_int (fun _ _ => rfl)) (pa_cons (pe_ix ix_tup (pv 5) pe_int (fun _ _ => rfl)) pa_nil)))) pa_nil)) (pa_cons (pv 10) pa_nil)) pk_nil))
        (pss_consC (ps_set (i := 12) sc_law.nd rfl (by first | exact Or.inl rfl | exact Or.inr rfl) (pe_callC C__law_made hr rfl (pa_cons (pe_op op_catU (pe_slice sl_tup (pv 5) po_none (po_some pe_int)) (pe_tup (pa_cons pe_int (pa_cons (pe_callB (show CallR _ _ (rLenQ K) from call_len_seq) (by rfl) T.b_len (by decide +kernel) (pa_cons (pv 11) pa_nil)) (pa_cons (pe_callB (call_min2D rfl) (by rfl) T.b_min (by decide +kernel) (pa_cons (pe_ix ix_tup (pv 5) pe_int (fun _ _ => rfl)) (pa_cons (pv 10) pa_nil))) pa_nil))))) pa_nil)))
        (pss_one (ps_if (PW.pt (pw_or (pt_cmpR (show OpR _ _ (rNotInM K _ _) from op_notInM E_Bundle (hr.mono (by decide))) (pv 12) (pv 11) (by rfl)) (pw_or1 (pt_cmpR op_ne (pe_callB (call_lenO O_Bundle___len__ (hr.mono (by decide))) (by rfl) T.b_len (by decide +kernel) (pa_cons (pv 6) pa_nil)) (pe_ix ix_tup (pv 5) pe_int (fun _ _ => rfl)) (nomark _))))) (pss_one (ps_ret pe_bl)) pss_nil)))))))))))))))))
      (pss_one (ps_ret pe_bl)))), ?_⟩
    refine law_first (E := fun _ _ _ _ => True) 13 hS hlen k (by infer_instance) fun t => ?_
    refine ⟨⟨by decide, by decide⟩, fun i δ => ∃ (n : Nat) (s2 s3 s4 s5 s6 s7 s8 s9 s10 s11 s12 s13 s14 : S), δ = [.any, .gad 0 n t, s2, s3, s4, s5, s6, s7, s8, s9, s10, s11, s12, s13, s14] ∧ n ≤ 400 * i, ⟨0, _, _, _, _, _, _, _, _, _, _, _, _, _, rfl, by omega⟩, fun _ _ _ => trivial, ?_, ?_⟩
    · rintro i δ x hx ⟨n, s2, s3, s4, s5, s6, s7, s8, s9, s10, s11, s12, s13, s14, rfl, hn⟩
      obtain ⟨hi, rfl⟩ := intsD_get hx
      have hi8 : i < 8 := hi
      refine ⟨fun δ => ∃ (n1 : Nat) (b3 : Addr) (xs : List Str), δ = [.any, .gad 0 n1 t, .d (.v (.int i)), .own true b3 .lst (xs.map NmD), s4, s5, s6, s7, s8, s9, s10, s11, s12, s13, s14] ∧ n1 ≤ n + 40 ∧ xs.length = 2 ∧ ∀ x ∈ xs, NmOk x, ⟨n, t, 2, rfl, by omega, by decide, by decide, fun n1 xs h1 h2 h3 _ b3 => ⟨n1, b3, xs, rfl, h1, h2, h3⟩⟩, ?_⟩
      rintro _ ⟨n1, b3, xs, rfl, hn1, hx2, hxo⟩
      refine ⟨fun δ => ∃ (n2 : Nat) (k1 k2 : Int), δ = [.any, .gad 0 n2 t, .d (.v (.int i)), .own true b3 .lst (xs.map NmD), .d (.nd .tup [.v (.int k1), .v (.int k2)]), s5, s6, s7, s8, s9, s10, s11, s12, s13, s14] ∧ n2 ≤ n1 + 4 ∧ (0 ≤ k1 ∧ k1 ≤ 1000000) ∧ 0 ≤ k2 ∧ k2 ≤ 1000000, ?_, ?_⟩
      · refine ⟨n1, t, 9, rfl, by omega, by decide, by decide, fun r1 g0 g1 => ⟨n1 + 2, t, 1990, rfl, by omega, by decide, by decide, fun r2 h0 h1 => ⟨(by show 2 ≤ sizeLine; decide), n1 + 4, _, _, rfl, by omega, by omega, by omega⟩⟩⟩
      rintro _ ⟨n2, k1, k2, rfl, hn2, hk1, hk2⟩
      refine ⟨fun δ => ∃ (n3 : Nat) (y1 y2 : Str), δ = [.any, .gad 0 n3 t, .d (.v (.int i)), .own true b3 .lst (xs.map NmD), .d (.nd .tup [.v (.int k1), .v (.int k2)]), .d (.nd .tup [.v (.str y1), .v (.str y2), .v (.int k1), .v (.int k2)]), s6, s7, s8, s9, s10, s11, s12, s13, s14] ∧ n3 ≤ n2 + 4 ∧ NmOk y1 ∧ NmOk y2, ?_, ?_⟩
      · refine ⟨n2, t, 2, rfl, by omega, by decide, by decide, fun r1 g0 g1 => ?_⟩
        obtain ⟨d1, hd1, hm1⟩ := at_some (l := xs.map NmD) g0 (by rw [List.length_map, hx2]; exact g1)
        obtain ⟨y1, hy1, rfl⟩ := List.mem_map.mp hm1
        refine ⟨_, hd1, n2 + 2, t, 2, rfl, by omega, by decide, by decide, fun r2 h0 h1 => ?_⟩
        obtain ⟨d2, hd2, hm2⟩ := at_some (l := xs.map NmD) h0 (by rw [List.length_map, hx2]; exact h1)
        obtain ⟨y2, hy2, rfl⟩ := List.mem_map.mp hm2
        exact ⟨_, hd2, (by show 2 ≤ sizeLine; decide), (by show 2 + 2 ≤ sizeLine; decide), n2 + 4, y1, y2, rfl, by omega, hxo y1 hy1, hxo y2 hy2⟩
      rintro _ ⟨n3, y1, y2, rfl, hn3, hy1, hy2⟩
      refine ⟨fun δ => ∃ (n4 m : Nat) (r : Row), δ = [.any, .gad 0 n4 t, .d (.v (.int i)), .own true b3 .lst (xs.map NmD), .d (.nd .tup [.v (.int k1), .v (.int k2)]), .d (partsD r), s6, s7, s8, s9, s10, s11, s12, s13, s14] ∧ n4 ≤ n3 + 6 ∧ RowOk r ∧ r.k ≤ 1000000 ∧ r.n ≤ 1000000 ∧ r.c = m ∧ 1 ≤ m ∧ m ≤ 999990, ?_, ?_⟩
      · refine ⟨(by show 3 ≤ sizeLine; decide), n3, t, 3, rfl, by omega, by decide, by decide, fun r1 g0 g1 => ?_⟩
        obtain ⟨d, hd, hm⟩ := at_some (l := [D.v (.int 3), .v (.int 60), .v (.int 999990)]) g0 g1
        obtain ⟨g, rfl, hg0, hg1⟩ : ∃ g : Int, d = .v (.int g) ∧ 3 ≤ g ∧ g ≤ 999990 := by
          simp only [List.mem_cons, List.not_mem_nil, or_false] at hm
          rcases hm with rfl | rfl | rfl <;> exact ⟨_, rfl, by decide, by decide⟩
        refine ⟨_, hd, n3 + 2, t, g, rfl, by omega, by omega, by omega, fun r2 h0 h1 => ⟨(by show 1 ≤ sizeLine; decide), (by show 4 + 1 ≤ sizeLine; decide), n3 + 4, (1 + r2).toNat, ⟨y1, y2, k1, k2, 1 + r2⟩, rfl, by omega, ⟨hy1, hy2, ⟨hk1.1, by show k1 ≤ 2000000; omega⟩, ⟨hk2.1, by show k2 ≤ 2000000; omega⟩, by show 0 ≤ 1 + r2; omega, by show 1 + r2 ≤ 2000000; omega⟩, hk1.2, hk2.2, by show 1 + r2 = _; omega, by omega, by omega⟩⟩
      rintro _ ⟨n4, m, r, rfl, hn4, hr, hrk, hrn, hrc, hm1, hm2⟩
      refine ⟨fun δ => ∃ p6 : Addr, δ = [.any, .gad 0 n4 t, .d (.v (.int i)), .own true b3 .lst (xs.map NmD), .d (.nd .tup [.v (.int k1), .v (.int k2)]), .d (partsD r), .own true p6 (.ins c.Bundle bF) [.v (.str r.t), .v (.str r.s), .v (.int r.k), .v (.int r.n), .v (.int r.c)], s7, s8, s9, s10, s11, s12, s13, s14], ⟨r, rfl, fun p6 => ⟨p6, rfl⟩⟩, ?_⟩
      rintro _ ⟨p6, rfl⟩
      refine ⟨fun δ => ∃ p7 : Addr, δ = [.any, .gad 0 n4 t, .d (.v (.int i)), .own true b3 .lst (xs.map NmD), .d (.nd .tup [.v (.int k1), .v (.int k2)]), .d (partsD r), .own true p6 (.ins c.Bundle bF) [.v (.str r.t), .v (.str r.s), .v (.int r.k), .v (.int r.n), .v (.int r.c)], .own true p7 (.ins c.Bundle bF) [.v (.str r.t), .v (.str r.s), .v (.int r.k), .v (.int r.n), .v (.int r.c)], s8, s9, s10, s11, s12, s13, s14], ?_, ?_⟩
      · refine ⟨_, rfl, _, rfl, _, rfl, _, rfl, _, rfl, fun p np => .inl ⟨p, r, rfl, rfl, fun a => ⟨a, rfl⟩⟩⟩
      rintro _ ⟨p7, rfl⟩
      refine ⟨fun δ => ∃ (n5 : Nat) (b8 : Addr) (us : List Row) (s13 s14 : S), δ = [.any, .gad 0 n5 t, .d (.v (.int i)), .own true b3 .lst (xs.map NmD), .d (.nd .tup [.v (.int k1), .v (.int k2)]), .d (partsD r), .own true p6 (.ins c.Bundle bF) [.v (.str r.t), .v (.str r.s), .v (.int r.k), .v (.int r.n), .v (.int r.c)], .own true p7 (.ins c.Bundle bF) [.v (.str r.t), .v (.str r.s), .v (.int r.k), .v (.int r.n), .v (.int r.c)], .own true b8 .lst (us.map (bunD c.Bundle)), s9, s10, s11, s12, s13, s14] ∧ n5 ≤ n4 + 100 ∧ us.length ≤ 6 ∧ ∀ u ∈ us, eqR r u = false, ?_, ?_⟩
      · refine ⟨n4, t, r, rfl, by omega, hr, hrk, hrn, by omega, fun n5 us h1 h2 h3 => ?_⟩
        refine lcMap (fun d => match d with | .nd .tup [.v (.str a), .v (.str b), .v (.int i), .v (.int j), .v (.int k)] => bunD c.Bundle ⟨a, b, i, j, k⟩ | d => d) rfl trivial (smallLe (by rw [List.length_map]; omega)) ?_ ?_
        · intro x hx P hP
          obtain ⟨u, _, rfl⟩ := List.mem_map.mp hx
          exact ⟨u, rfl, hP⟩
        · intro b8
          refine ⟨n5, b8, us, rst s13, s14, ?_, h1, h2, fun u hu => (h3 u hu).2⟩
          have ef : (us.map partsD).map (fun d => match d with | .nd .tup [.v (.str a), .v (.str b), .v (.int i), .v (.int j), .v (.int k)] => bunD c.Bundle ⟨a, b, i, j, k⟩ | d => d) = us.map (bunD c.Bundle) := by
            rw [List.map_map]; rfl
          rw [show (ItD.xs ⟨us.map partsD, fun _ => True⟩) = us.map partsD from rfl, ef]
          rfl
      rintro _ ⟨n5, b8, us, s13, s14, rfl, hn5, hul, hu⟩
      refine ⟨fun δ => δ = [.any, .gad 0 n5 t, .d (.v (.int i)), .own true b3 .lst (xs.map NmD), .d (.nd .tup [.v (.int k1), .v (.int k2)]), .d (partsD r), .d (bunD c.Bundle r), .d (bunD c.Bundle r), .own true b8 .lst (us.map (bunD c.Bundle)), s9, s10, s11, s12, s13, s14], ?_, ?_⟩
      · refine .inr ⟨_, r, rfl, rfl, hr, by omega, .inr ⟨_, r, rfl, rfl, hr, by omega, ?_⟩⟩
        refine ⟨⟨rfl, rfl⟩, r, _, rfl, .inl ⟨r, rfl, _, rfl, _, rfl, ?_⟩⟩
        rw [eqR_self]
        refine ⟨⟨rfl, rfl⟩, r, _, rfl, .inl ⟨r, rfl, _, rfl, _, rfl, ?_⟩⟩
        rw [eqR_self]
        exact rfl
      rintro _ rfl
      refine ⟨fun δ => ∃ s14, δ = [.any, .gad 0 n5 t, .d (.v (.int i)), .own true b3 .lst (xs.map NmD), .d (.nd .tup [.v (.int k1), .v (.int k2)]), .d (partsD r), .d (bunD c.Bundle r), .d (bunD c.Bundle r), .own true b8 .lst (us.map (bunD c.Bundle)), s9, s10, s11, s12, s13, s14], ?_, ?_⟩
      · refine ⟨⟨rfl, pure_bun _ r⟩, ?_⟩
        rw [← List.append_nil (us.map (bunD c.Bundle))]
        refine in_skip hu ?_
        rw [List.append_nil]
        refine ⟨(by show 1 ≤ sizeLine; decide), smallLe (by rw [List.length_map]; show us.length + 1 ≤ _; omega), ⟨rfl, pure_bun _ r⟩, ?_⟩
        refine in_skip hu (in_here ?_)
        refine ⟨rfl, fun l δ acc => δ = [.any, .gad 0 n5 t, .d (.v (.int i)), .own true b3 .lst (xs.map NmD), .d (.nd .tup [.v (.int k1), .v (.int k2)]), .d (partsD r), .d (bunD c.Bundle r), .d (bunD c.Bundle r), .own true b8 .lst (us.map (bunD c.Bundle)), s9, s10, s11, s12, s13, .no] ∧ acc = [], ⟨rfl, rfl⟩, fun _ _ _ ⟨e, _⟩ => by rw [e]; rfl, ?_, ?_⟩
        · rintro l δ acc x hx ⟨rfl, rfl⟩
          obtain ⟨u, hum, rfl⟩ := List.mem_map.mp (List.mem_of_getElem? hx)
          refine ⟨(by show 0 < sizeLine; decide), ?_⟩
          refine ⟨⟨rfl, rfl⟩, u, _, rfl, .inl ⟨r, rfl, _, rfl, _, rfl, ?_⟩⟩
          rw [eqR_symm, hu u hum]
          exact ⟨rfl, rfl⟩
        · rintro δ acc ⟨rfl, rfl⟩
          exact ⟨(by show 0 ≤ sizeLine; decide), _, _, py_nil, py_nil, shaped_nil, shaped_nil, _, rfl⟩
      rintro _ ⟨s14, rfl⟩
      refine ⟨fun δ => ∃ s14, δ = [.any, .gad 0 n5 t, .d (.v (.int i)), .own true b3 .lst (xs.map NmD), .d (.nd .tup [.v (.int k1), .v (.int k2)]), .d (partsD r), .d (bunD c.Bundle r), .d (bunD c.Bundle r), .own true b8 .lst (us.map (bunD c.Bundle)), s9, s10, s11, s12, s13, s14], ?_, ?_⟩
      · refine ⟨rfl, fun l δ acc => δ = [.any, .gad 0 n5 t, .d (.v (.int i)), .own true b3 .lst (xs.map NmD), .d (.nd .tup [.v (.int k1), .v (.int k2)]), .d (partsD r), .d (bunD c.Bundle r), .d (bunD c.Bundle r), .own true b8 .lst (us.map (bunD c.Bundle)), s9, s10, s11, s12, s13, .no] ∧ acc = [], ⟨rfl, rfl⟩, fun _ _ _ ⟨e, _⟩ => by rw [e]; rfl, ?_, ?_⟩
        · rintro l δ acc x hx ⟨rfl, rfl⟩
          obtain ⟨u, hum, rfl⟩ := List.mem_map.mp (List.mem_of_getElem? hx)
          refine ⟨(by show 0 < sizeLine; decide), ?_⟩
          refine ⟨⟨rfl, rfl⟩, r, _, rfl, .inl ⟨u, rfl, _, rfl, _, rfl, ?_⟩⟩
          rw [hu u hum]
          refine ⟨⟨rfl, rfl⟩, r, _, rfl, .inl ⟨u, rfl, _, rfl, _, rfl, ?_⟩⟩
          rw [hu u hum]
          exact ⟨rfl, rfl⟩
        · rintro δ acc ⟨rfl, rfl⟩
          exact ⟨(by show 0 ≤ sizeLine; decide), _, _, py_nil, py_nil, shaped_nil, shaped_nil, _, rfl⟩
      rintro _ ⟨s14, rfl⟩
      refine ⟨fun δ => ∃ s9, δ = [.any, .gad 0 n5 t, .d (.v (.int i)), .own true b3 .lst (xs.map NmD), .d (.nd .tup [.v (.int k1), .v (.int k2)]), .d (partsD r), .d (bunD c.Bundle r), .d (bunD c.Bundle r), .own true b8 .lst (us.map (bunD c.Bundle)), s9, s10, s11, s12, s13, s14], ?_, ?_⟩
      · refine ⟨r, rfl, hr, _, rfl, (by show 1 ≤ sizeLine; decide), rfl, r, rfl, hr, _, rfl, _, rfl, (by show 7 ≤ sizeLine; decide), fun l δ => ∃ s9, δ = [.any, .gad 0 n5 t, .d (.v (.int i)), .own true b3 .lst (xs.map NmD), .d (.nd .tup [.v (.int k1), .v (.int k2)]), .d (partsD r), .d (bunD c.Bundle r), .d (bunD c.Bundle r), .own true b8 .lst (us.map (bunD c.Bundle)), s9, s10, s11, s12, s13, s14], ⟨_, rfl⟩, fun _ _ _ => trivial, ?_, ?_⟩
        · rintro l δ x hx ⟨s9, rfl⟩
          have hp : plainK x := by
            have hm := List.mem_of_getElem? hx
            simp only [List.mem_cons, List.not_mem_nil, or_false] at hm
            rcases hm with rfl | rfl | rfl | rfl | rfl | rfl | rfl <;> exact ⟨_, rfl⟩
          refine .inl ⟨rfl, .inr hp, r, x, rfl, .inr ⟨hp, _, rfl, _, rfl, ?_⟩⟩
          refine .inr ⟨hp, rfl, r, x, rfl, .inr ⟨hp, _, rfl, _, rfl, ?_⟩⟩
          refine ⟨rfl, .inr hp, r, x, rfl, .inr ⟨hp, _, rfl, _, rfl, ?_⟩⟩
          exact ⟨_, rfl⟩
        · rintro δ ⟨s9, rfl⟩
          exact ⟨_, rfl⟩
      rintro _ ⟨s9, rfl⟩
      obtain ⟨z, p, hz, hz0, hz1, hp, hmp⟩ : ∃ z p : Nat, (if (1 : Int) + r.c / 9 < 1000 then (1 : Int) + r.c / 9 else 1000) = (z : Int) ∧ 0 < z ∧ z ≤ 1000 ∧ p ≤ 1000 ∧ m ≤ p * z := by
        by_cases h : (1 : Int) + r.c / 9 < 1000
        · refine ⟨m / 9 + 1, 9, ?_, by omega, by omega, by decide, by omega⟩
          rw [if_pos h, hrc]
          omega
        · exact ⟨1000, 1000, by rw [if_neg h]; rfl, by decide, by decide, by decide, by omega⟩
      refine ⟨fun δ => δ = [.any, .gad 0 n5 t, .d (.v (.int i)), .own true b3 .lst (xs.map NmD), .d (.nd .tup [.v (.int k1), .v (.int k2)]), .d (partsD r), .d (bunD c.Bundle r), .d (bunD c.Bundle r), .own true b8 .lst (us.map (bunD c.Bundle)), s9, .d (.v (.int (z : Int))), s11, s12, s13, s14], ?_, ?_⟩
      · refine ⟨_, rfl, ⟨by decide, by decide⟩, ?_⟩
        rw [← hz]
        rfl
      rintro _ rfl
      obtain ⟨rest, hrest⟩ := first_row (w := ⟨r.t, r.s, m⟩) hz0 hm1
      refine ⟨fun δ => ∃ b11, δ = [.any, .gad 0 n5 t, .d (.v (.int i)), .own true b3 .lst (xs.map NmD), .d (.nd .tup [.v (.int k1), .v (.int k2)]), .d (partsD r), .d (bunD c.Bundle r), .d (bunD c.Bundle r), .own true b8 .lst (us.map (bunD c.Bundle)), s9, .d (.v (.int (z : Int))), .own true b11 .lst ((allRows [⟨r.t, r.s, m⟩] z).map (bunD c.Bundle)), s12, s13, s14], ?_, ?_⟩
      · refine ⟨_, rfl, _, rfl, _, rfl, (by show 3 ≤ sizeLine; decide), (by show 1 ≤ sizeLine; decide), [⟨r.t, r.s, m⟩], z, p, ?_, hz0, hz1, hp, ?_, ?_, fun b11 => ⟨b11, rfl⟩⟩
        · rw [hrc]; rfl
        · intro w hw; rw [List.mem_singleton.mp hw]; exact hmp
        · show 1 * p ≤ 2000; omega
      rintro _ ⟨b11, rfl⟩
      refine ⟨fun δ => ∃ p12, δ = [.any, .gad 0 n5 t, .d (.v (.int i)), .own true b3 .lst (xs.map NmD), .d (.nd .tup [.v (.int k1), .v (.int k2)]), .d (partsD r), .d (bunD c.Bundle r), .d (bunD c.Bundle r), .own true b8 .lst (us.map (bunD c.Bundle)), s9, .d (.v (.int (z : Int))), .own true b11 .lst ((allRows [⟨r.t, r.s, m⟩] z).map (bunD c.Bundle)), .own true p12 (.ins c.Bundle bF) [.v (.str r.t), .v (.str r.s), .v (.int 1), .v (.int ((allRows [⟨r.t, r.s, m⟩] z).length : Int)), .v (.int (if (z : Int) < (m : Int) then (z : Int) else (m : Int)))], s13, s14], ?_, ?_⟩
      · refine ⟨(by show ¬ (0 = 0 ∧ 2 = 5); decide), _, rfl, (by show 3 ≤ sizeLine; decide), (by show 2 + 3 ≤ sizeLine; decide), ⟨r.t, r.s, 1, ((allRows [⟨r.t, r.s, m⟩] z).length : Int), if (z : Int) < (m : Int) then (z : Int) else (m : Int)⟩, ?_, fun p12 => ⟨p12, rfl⟩⟩
        rw [hrc, List.length_map]
        rfl
      rintro _ ⟨p12, rfl⟩
      refine ⟨⟨rfl, pure_bun c.Bundle ⟨r.t, r.s, 1, ((allRows [⟨r.t, r.s, m⟩] z).length : Int), if (z : Int) < (m : Int) then (z : Int) else (m : Int)⟩⟩, ?_⟩
      have e := congrArg (List.map (bunD c.Bundle)) hrest
      rw [List.map_cons] at e
      rw [e]
      refine in_here (C := c.Bundle) (r := ⟨r.t, r.s, 1, ((allRows [⟨r.t, r.s, m⟩] z).length : Int), if (z : Int) < (m : Int) then (z : Int) else (m : Int)⟩) ?_
      refine ⟨true, rfl, ?_⟩
      refine ⟨rfl, r, rfl, by omega, by omega, _, rfl, _, rfl, by omega, by omega, _, rfl, rfl, ?_⟩
      refine L2.ite_not (by simp) ?_
      exact ⟨n5, _, _, _, _, _, _, _, _, _, _, _, _, _, rfl, by omega⟩
    · rintro δ ⟨n, s2, s3, s4, s5, s6, s7, s8, s9, s10, s11, s12, s13, s14, rfl, hn⟩
      rfl
theorem all_mk {l : PySem.W.OpenLaw} {w : World} {K : PySem.W.Frag} {h : Heap} {mg : Str → Option Value} {c_Bundle fa f0 f1 f2 f3 f4 f5 f6 f7 f8 f9 : Addr} (X : K.In h) (G : h.Ns mainGlobals mg) (hfa : mg "law" = some (.ref fa))
    {od0 an0 : Option Addr} {sl0 : Array (Option Value)} {oc0 kV0 dc0 pm0 cd0 ct0 : Value}
    (a0 : PySem.W.nsIn K mainGlobals "want_bundles" = some (some (.ref f0))) (l0 : K.lookup f0 = some ⟨oc0, od0, .func (PySem.W.fnOf "want_bundles" "want_bundles" (defArgs s_want_bundles) (defBody s_want_bundles) (defScope s_want_bundles) .none kV0 dc0 pm0 an0 cd0 ct0), sl0⟩) (c0 : PySem.W.codeIn K cd0 "want_bundles" = true) (k0 : PySem.W.keepIn K (.ref f0) = true)
    {od1 an1 : Option Addr} {sl1 : Array (Option Value)} {oc1 kV1 dc1 pm1 cd1 ct1 : Value} {TD1 : Addr} {dtc1 : Value} {dtd1 : Option Addr} {dtk1 : Tok} {dtn1 : Nat} {dts1 : Array (Option Value)}
    (a1 : PySem.W.nsIn K mainGlobals "bundled" = some (some (.ref f1))) (l1 : K.lookup f1 = some ⟨oc1, od1, .func (PySem.W.fnOf "bundled" "bundled" (defArgs s_bundled) (defBody s_bundled) (defScope s_bundled) (.ref TD1) kV1 dc1 pm1 an1 cd1 ct1), sl1⟩) (c1 : PySem.W.codeIn K cd1 "bundled" = true) (k1 : PySem.W.keepIn K (.ref f1) = true)
    (d1 : K.lookup TD1 = some ⟨dtc1, dtd1, .seq #[.int 50 dtk1] dtn1, dts1⟩)
    {od2 an2 : Option Addr} {sl2 : Array (Option Value)} {oc2 kV2 dc2 pm2 cd2 ct2 : Value}
    (a2 : PySem.W.nsIn K mainGlobals "_law_held" = some (some (.ref f2))) (l2 : K.lookup f2 = some ⟨oc2, od2, .func (PySem.W.fnOf "_law_held" "_law_held" (defArgs s__law_held) (defBody s__law_held) (defScope s__law_held) .none kV2 dc2 pm2 an2 cd2 ct2), sl2⟩) (c2 : PySem.W.codeIn K cd2 "_law_held" = true) (k2 : PySem.W.keepIn K (.ref f2) = true)
    {od3 an3 : Option Addr} {sl3 : Array (Option Value)} {oc3 kV3 dc3 pm3 cd3 ct3 : Value}
    (a3 : PySem.W.nsIn K mainGlobals "_law_take" = some (some (.ref f3))) (l3 : K.lookup f3 = some ⟨oc3, od3, .func (PySem.W.fnOf "_law_take" "_law_take" (defArgs s__law_take) (defBody s__law_take) (defScope s__law_take) .none kV3 dc3 pm3 an3 cd3 ct3), sl3⟩) (c3 : PySem.W.codeIn K cd3 "_law_take" = true) (k3 : PySem.W.keepIn K (.ref f3) = true)
    {od4 an4 : Option Addr} {sl4 : Array (Option Value)} {oc4 kV4 dc4 pm4 cd4 ct4 : Value}
    (a4 : PySem.W.nsIn K mainGlobals "_law_names" = some (some (.ref f4))) (l4 : K.lookup f4 = some ⟨oc4, od4, .func (PySem.W.fnOf "_law_names" "_law_names" (defArgs s__law_names) (defBody s__law_names) (defScope s__law_names) .none kV4 dc4 pm4 an4 cd4 ct4), sl4⟩) (c4 : PySem.W.codeIn K cd4 "_law_names" = true) (k4 : PySem.W.keepIn K (.ref f4) = true)
    {od5 an5 : Option Addr} {sl5 : Array (Option Value)} {oc5 kV5 dc5 pm5 cd5 ct5 : Value}
    (a5 : PySem.W.nsIn K mainGlobals "_law_others" = some (some (.ref f5))) (l5 : K.lookup f5 = some ⟨oc5, od5, .func (PySem.W.fnOf "_law_others" "_law_others" (defArgs s__law_others) (defBody s__law_others) (defScope s__law_others) .none kV5 dc5 pm5 an5 cd5 ct5), sl5⟩) (c5 : PySem.W.codeIn K cd5 "_law_others" = true) (k5 : PySem.W.keepIn K (.ref f5) = true)
    {od6 an6 : Option Addr} {sl6 : Array (Option Value)} {oc6 kV6 dc6 pm6 cd6 ct6 : Value}
    (a6 : PySem.W.nsIn K mainGlobals "_law_text" = some (some (.ref f6))) (l6 : K.lookup f6 = some ⟨oc6, od6, .func (PySem.W.fnOf "_law_text" "_law_text" (defArgs s__law_text) (defBody s__law_text) (defScope s__law_text) .none kV6 dc6 pm6 an6 cd6 ct6), sl6⟩) (c6 : PySem.W.codeIn K cd6 "_law_text" = true) (k6 : PySem.W.keepIn K (.ref f6) = true)
    {od7 an7 : Option Addr} {sl7 : Array (Option Value)} {oc7 kV7 dc7 pm7 cd7 ct7 : Value}
    (a7 : PySem.W.nsIn K mainGlobals "_law_made" = some (some (.ref f7))) (l7 : K.lookup f7 = some ⟨oc7, od7, .func (PySem.W.fnOf "_law_made" "_law_made" (defArgs s__law_made) (defBody s__law_made) (defScope s__law_made) .none kV7 dc7 pm7 an7 cd7 ct7), sl7⟩) (c7 : PySem.W.codeIn K cd7 "_law_made" = true) (k7 : PySem.W.keepIn K (.ref f7) = true)
    {od8 an8 : Option Addr} {sl8 : Array (Option Value)} {oc8 kV8 dc8 pm8 cd8 ct8 : Value}
    (a8 : PySem.W.nsIn K mainGlobals "_law_right" = some (some (.ref f8))) (l8 : K.lookup f8 = some ⟨oc8, od8, .func (PySem.W.fnOf "_law_right" "_law_right" (defArgs s__law_right) (defBody s__law_right) (defScope s__law_right) .none kV8 dc8 pm8 an8 cd8 ct8), sl8⟩) (c8 : PySem.W.codeIn K cd8 "_law_right" = true) (k8 : PySem.W.keepIn K (.ref f8) = true)
    {od9 an9 : Option Addr} {sl9 : Array (Option Value)} {oc9 kV9 dc9 pm9 cd9 ct9 : Value}
    (a9 : PySem.W.nsIn K mainGlobals "law" = some (some (.ref f9))) (l9 : K.lookup f9 = some ⟨oc9, od9, .func (PySem.W.fnOf "law" "law" (defArgs s_law) (defBody s_law) (defScope s_law) .none kV9 dc9 pm9 an9 cd9 ct9), sl9⟩) (c9 : PySem.W.codeIn K cd9 "law" = true) (k9 : PySem.W.keepIn K (.ref f9) = true)
    (z_bool : PySem.W.nsIn K mainGlobals "bool" = some none)
    (z_enumerate : PySem.W.nsIn K mainGlobals "enumerate" = some none)
    (z_int : PySem.W.nsIn K mainGlobals "int" = some none)
    (z_isinstance : PySem.W.nsIn K mainGlobals "isinstance" = some none)
    (z_len : PySem.W.nsIn K mainGlobals "len" = some none)
    (z_list : PySem.W.nsIn K mainGlobals "list" = some none)
    (z_min : PySem.W.nsIn K mainGlobals "min" = some none)
    (z_range : PySem.W.nsIn K mainGlobals "range" = some none)
    (z_repr : PySem.W.nsIn K mainGlobals "repr" = some none)
    (z_str : PySem.W.nsIn K mainGlobals "str" = some none)
    (nc_Bundle : PySem.W.nsIn K mainGlobals "Bundle" = some (some (.ref c_Bundle)))
    (ff_Bundle : PySem.W.findIn K (.ref c_Bundle) "__format__" = some (some (.builtin "object.__format__")))
    (fm_Bundle : PySem.W.mroIn K c_Bundle (.type "object") = some true)
    (pg_Bundle : PySem.W.plainGet K c_Bundle Str.empty = true)
    (hd_Bundle : PySem.W.hasDictIn K c_Bundle = true)
    (po_Bundle : PySem.W.plainOver K c_Bundle = true)
    (sa_Bundle : PySem.W.findIn K (.ref c_Bundle) "__setattr__" = some (some (.builtin "object.__setattr__")))
    (ia_Bundle : PySem.W.findIn K (.ref c_Bundle) "__class__" = some (some (.builtin "object.__class__")))
    (ib_Bundle : PySem.W.specialIn K (.builtin "object.__class__") "__get__" = some (some (.builtin "getset_descriptor.__get__")))
    (ic_Bundle : PySem.W.takesIn K (.builtin "object.__class__") = some true)
    (id_Bundle : PySem.W.mroIn K c_Bundle (.type "object") = some true)
    (hi_Bundle_Bundle : PySem.W.kitOne K (.ref c_Bundle) (.ref c_Bundle) = some true)
    (nb_Bundle : PySem.W.findIn K (.ref c_Bundle) "__bool__" = some none)
    (na_Bundle_town : PySem.W.findIn K (.ref c_Bundle) "town" = some none)
    (na_Bundle_seller : PySem.W.findIn K (.ref c_Bundle) "seller" = some none)
    (na_Bundle_number : PySem.W.findIn K (.ref c_Bundle) "number" = some none)
    (na_Bundle_of : PySem.W.findIn K (.ref c_Bundle) "of" = some none)
    (na_Bundle_copies : PySem.W.findIn K (.ref c_Bundle) "copies" = some none)
    (hkp_Bundle_int : PySem.W.kitOne K (.type "int") (.ref c_Bundle) = some false)
    (hkp_Bundle_bool : PySem.W.kitOne K (.type "bool") (.ref c_Bundle) = some false)
    (hkp_Bundle_str : PySem.W.kitOne K (.type "str") (.ref c_Bundle) = some false)
    (hkp_Bundle_NoneType : PySem.W.kitOne K (.type "NoneType") (.ref c_Bundle) = some false)
    (hkp_Bundle_list : PySem.W.kitOne K (.type "list") (.ref c_Bundle) = some false)
    (hkp_Bundle_tuple : PySem.W.kitOne K (.type "tuple") (.ref c_Bundle) = some false)
    {fs_Bundle___init__ : Addr} {sod_Bundle___init__ san_Bundle___init__ : Option Addr} {ssl_Bundle___init__ : Array (Option Value)} {soc_Bundle___init__ skV_Bundle___init__ sdc_Bundle___init__ spm_Bundle___init__ scd_Bundle___init__ sct_Bundle___init__ : Value}
    (ns_Bundle___init__ : PySem.W.findIn K (.ref c_Bundle) "__init__" = some (some (.ref fs_Bundle___init__)))
    (ls_Bundle___init__ : K.lookup fs_Bundle___init__ = some ⟨soc_Bundle___init__, sod_Bundle___init__, .func (PySem.W.fnOf "__init__" "Bundle.__init__" (defArgs s_Bundle___init__) (defBody s_Bundle___init__) (defScope s_Bundle___init__) .none skV_Bundle___init__ sdc_Bundle___init__ spm_Bundle___init__ san_Bundle___init__ scd_Bundle___init__ sct_Bundle___init__), ssl_Bundle___init__⟩)
    (cs_Bundle___init__ : PySem.W.codeIn K scd_Bundle___init__ "Bundle.__init__" = true)
    (ks_Bundle___init__ : PySem.W.keepIn K (.ref fs_Bundle___init__) = true)
    (if_Bundle___init__ : PySem.W.isFn K (.ref fs_Bundle___init__) = true)
    (kc_Bundle : PySem.W.keepIn K (.ref c_Bundle) = true)
    (mk_Bundle : PySem.W.makesIn K c_Bundle = true)
    {fs_Bundle___eq__ : Addr} {sod_Bundle___eq__ san_Bundle___eq__ : Option Addr} {ssl_Bundle___eq__ : Array (Option Value)} {soc_Bundle___eq__ skV_Bundle___eq__ sdc_Bundle___eq__ spm_Bundle___eq__ scd_Bundle___eq__ sct_Bundle___eq__ : Value}
    (ns_Bundle___eq__ : PySem.W.findIn K (.ref c_Bundle) "__eq__" = some (some (.ref fs_Bundle___eq__)))
    (ls_Bundle___eq__ : K.lookup fs_Bundle___eq__ = some ⟨soc_Bundle___eq__, sod_Bundle___eq__, .func (PySem.W.fnOf "__eq__" "Bundle.__eq__" (defArgs s_Bundle___eq__) (defBody s_Bundle___eq__) (defScope s_Bundle___eq__) .none skV_Bundle___eq__ sdc_Bundle___eq__ spm_Bundle___eq__ san_Bundle___eq__ scd_Bundle___eq__ sct_Bundle___eq__), ssl_Bundle___eq__⟩)
    (cs_Bundle___eq__ : PySem.W.codeIn K scd_Bundle___eq__ "Bundle.__eq__" = true)
    (ks_Bundle___eq__ : PySem.W.keepIn K (.ref fs_Bundle___eq__) = true)
    (if_Bundle___eq__ : PySem.W.isFn K (.ref fs_Bundle___eq__) = true)
    (ne_Bundle : neIn K c_Bundle fs_Bundle___eq__ = true)
    {fs_Bundle___len__ : Addr} {sod_Bundle___len__ san_Bundle___len__ : Option Addr} {ssl_Bundle___len__ : Array (Option Value)} {soc_Bundle___len__ skV_Bundle___len__ sdc_Bundle___len__ spm_Bundle___len__ scd_Bundle___len__ sct_Bundle___len__ : Value}
    (ns_Bundle___len__ : PySem.W.findIn K (.ref c_Bundle) "__len__" = some (some (.ref fs_Bundle___len__)))
    (ls_Bundle___len__ : K.lookup fs_Bundle___len__ = some ⟨soc_Bundle___len__, sod_Bundle___len__, .func (PySem.W.fnOf "__len__" "Bundle.__len__" (defArgs s_Bundle___len__) (defBody s_Bundle___len__) (defScope s_Bundle___len__) .none skV_Bundle___len__ sdc_Bundle___len__ spm_Bundle___len__ san_Bundle___len__ scd_Bundle___len__ sct_Bundle___len__), ssl_Bundle___len__⟩)
    (cs_Bundle___len__ : PySem.W.codeIn K scd_Bundle___len__ "Bundle.__len__" = true)
    (ks_Bundle___len__ : PySem.W.keepIn K (.ref fs_Bundle___len__) = true)
    (if_Bundle___len__ : PySem.W.isFn K (.ref fs_Bundle___len__) = true)
    {fs_Bundle___str__ : Addr} {sod_Bundle___str__ san_Bundle___str__ : Option Addr} {ssl_Bundle___str__ : Array (Option Value)} {soc_Bundle___str__ skV_Bundle___str__ sdc_Bundle___str__ spm_Bundle___str__ scd_Bundle___str__ sct_Bundle___str__ : Value}
    (ns_Bundle___str__ : PySem.W.findIn K (.ref c_Bundle) "__str__" = some (some (.ref fs_Bundle___str__)))
    (ls_Bundle___str__ : K.lookup fs_Bundle___str__ = some ⟨soc_Bundle___str__, sod_Bundle___str__, .func (PySem.W.fnOf "__str__" "Bundle.__str__" (defArgs s_Bundle___str__) (defBody s_Bundle___str__) (defScope s_Bundle___str__) .none skV_Bundle___str__ sdc_Bundle___str__ spm_Bundle___str__ san_Bundle___str__ scd_Bundle___str__ sct_Bundle___str__), ssl_Bundle___str__⟩)
    (cs_Bundle___str__ : PySem.W.codeIn K scd_Bundle___str__ "Bundle.__str__" = true)
    (ks_Bundle___str__ : PySem.W.keepIn K (.ref fs_Bundle___str__) = true)
    (if_Bundle___str__ : PySem.W.isFn K (.ref fs_Bundle___str__) = true)
    {fs_Bundle___repr__ : Addr} {sod_Bundle___repr__ san_Bundle___repr__ : Option Addr} {ssl_Bundle___repr__ : Array (Option Value)} {soc_Bundle___repr__ skV_Bundle___repr__ sdc_Bundle___repr__ spm_Bundle___repr__ scd_Bundle___repr__ sct_Bundle___repr__ : Value}
    (ns_Bundle___repr__ : PySem.W.findIn K (.ref c_Bundle) "__repr__" = some (some (.ref fs_Bundle___repr__)))
    (ls_Bundle___repr__ : K.lookup fs_Bundle___repr__ = some ⟨soc_Bundle___repr__, sod_Bundle___repr__, .func (PySem.W.fnOf "__repr__" "Bundle.__repr__" (defArgs s_Bundle___repr__) (defBody s_Bundle___repr__) (defScope s_Bundle___repr__) .none skV_Bundle___repr__ sdc_Bundle___repr__ spm_Bundle___repr__ san_Bundle___repr__ scd_Bundle___repr__ sct_Bundle___repr__), ssl_Bundle___repr__⟩)
    (cs_Bundle___repr__ : PySem.W.codeIn K scd_Bundle___repr__ "Bundle.__repr__" = true)
    (ks_Bundle___repr__ : PySem.W.keepIn K (.ref fs_Bundle___repr__) = true)
    (if_Bundle___repr__ : PySem.W.isFn K (.ref fs_Bundle___repr__) = true)
    : ∃ fd : FuncData, (∀ (s : Shared) (v : Value), BindsTo s fd ⟨[v], []⟩ [("_law_script", v)]) ∧ ∀ base : Heap, K.In base → base.Ns mainGlobals mg → FnOk l.prog w K mg base CX0 KLAW fa fd ["_law_script"] (sp_law K) := by
  have e := hfa.symm.trans (PySem.W.mg_of X G a9)
  cases e
  have T : Txt K mg ⟨c_Bundle⟩ := ⟨PySem.W.mg_none_of X G z_bool, PySem.W.mg_none_of X G z_enumerate, PySem.W.mg_none_of X G z_int, PySem.W.mg_none_of X G z_isinstance, PySem.W.mg_none_of X G z_len, PySem.W.mg_none_of X G z_list, PySem.W.mg_none_of X G z_min, PySem.W.mg_none_of X G z_range, PySem.W.mg_none_of X G z_repr, PySem.W.mg_none_of X G z_str, ⟨_, PySem.W.mg_of X G nc_Bundle, rfl⟩, ⟨ff_Bundle, fm_Bundle⟩, ⟨pg_Bundle, hd_Bundle, po_Bundle, sa_Bundle⟩, ⟨⟨pg_Bundle, hd_Bundle, po_Bundle, sa_Bundle⟩, ia_Bundle, ib_Bundle, ic_Bundle, id_Bundle⟩, hi_Bundle_Bundle, nb_Bundle, na_Bundle_town, na_Bundle_seller, na_Bundle_number, na_Bundle_of, na_Bundle_copies, plain_all hkp_Bundle_int hkp_Bundle_bool hkp_Bundle_str hkp_Bundle_NoneType hkp_Bundle_list hkp_Bundle_tuple⟩
  have F0 := fun_mk (st := s_want_bundles) l0 c0 k0
  have b0 := F0.binds (ps := ["town", "seller", "copies", "size"]) fun _ _ _ _ _ _ us hl => match us, hl with | [_, _, _, _], _ => rfl
  have q0 := F0.bindsK (ps := ["town", "seller", "copies", "size"]) fun _ _ _ _ _ _ us hl => match us, hl with | [_, _, _, _], _ => rfl
  have F1 : FunD K "bundled" "bundled" s_bundled f1 _ := ⟨⟨_, _, _, _, _, _, _, _, _, _, rfl, l1, c1⟩, k1⟩
  have F2 := fun_mk (st := s__law_held) l2 c2 k2
  have b2 := F2.binds (ps := ["_law_script"]) fun _ _ _ _ _ _ us hl => match us, hl with | [_], _ => rfl
  have q2 := F2.bindsK (ps := ["_law_script"]) fun _ _ _ _ _ _ us hl => match us, hl with | [_], _ => rfl
  have F3 := fun_mk (st := s__law_take) l3 c3 k3
  have b3 := F3.binds (ps := ["_law_held_here", "_law_many"]) fun _ _ _ _ _ _ us hl => match us, hl with | [_, _], _ => rfl
  have q3 := F3.bindsK (ps := ["_law_held_here", "_law_many"]) fun _ _ _ _ _ _ us hl => match us, hl with | [_, _], _ => rfl
  have F4 := fun_mk (st := s__law_names) l4 c4 k4
  have b4 := F4.binds (ps := ["_law_held_here", "_law_many"]) fun _ _ _ _ _ _ us hl => match us, hl with | [_, _], _ => rfl
  have q4 := F4.bindsK (ps := ["_law_held_here", "_law_many"]) fun _ _ _ _ _ _ us hl => match us, hl with | [_, _], _ => rfl
  have F5 := fun_mk (st := s__law_others) l5 c5 k5
  have b5 := F5.binds (ps := ["_law_held_here", "_law_parts"]) fun _ _ _ _ _ _ us hl => match us, hl with | [_, _], _ => rfl
  have q5 := F5.bindsK (ps := ["_law_held_here", "_law_parts"]) fun _ _ _ _ _ _ us hl => match us, hl with | [_, _], _ => rfl
  have F6 := fun_mk (st := s__law_text) l6 c6 k6
  have b6 := F6.binds (ps := ["_law_parts"]) fun _ _ _ _ _ _ us hl => match us, hl with | [_], _ => rfl
  have q6 := F6.bindsK (ps := ["_law_parts"]) fun _ _ _ _ _ _ us hl => match us, hl with | [_], _ => rfl
  have F7 := fun_mk (st := s__law_made) l7 c7 k7
  have b7 := F7.binds (ps := ["_law_parts"]) fun _ _ _ _ _ _ us hl => match us, hl with | [_], _ => rfl
  have q7 := F7.bindsK (ps := ["_law_parts"]) fun _ _ _ _ _ _ us hl => match us, hl with | [_], _ => rfl
  have F8 := fun_mk (st := s__law_right) l8 c8 k8
  have b8 := F8.binds (ps := ["_law_one", "_law_parts"]) fun _ _ _ _ _ _ us hl => match us, hl with | [_, _], _ => rfl
  have q8 := F8.bindsK (ps := ["_law_one", "_law_parts"]) fun _ _ _ _ _ _ us hl => match us, hl with | [_, _], _ => rfl
  have F9 := fun_mk (st := s_law) l9 c9 k9
  refine ⟨PySem.W.fnOf "law" "law" (defArgs s_law) (defBody s_law) (defScope s_law) .none kV9 dc9 pm9 an9 cd9 ct9, fun s v => .of_eq rfl, fun base _ _ => ?_⟩
  have C__law_held : Callee l.prog w K mg base _ "_law_held" _ _ := ⟨_, _, ok__law_held T F2 , PySem.W.mg_of X G a2, k2, b2, q2⟩
  have C1__law_take : Callee l.prog w K mg base _ "_law_take" _ _ := ⟨_, _, ok__law_take1 T F3, PySem.W.mg_of X G a3, k3, b3, q3⟩
  have C__law_take : Callee l.prog w K mg base _ "_law_take" _ _ := ⟨_, _, ok__law_take2 T F3 C1__law_take, PySem.W.mg_of X G a3, k3, b3, q3⟩
  have C__law_names : Callee l.prog w K mg base _ "_law_names" _ _ := ⟨_, _, ok__law_names T F4 (C__law_take := C__law_take), PySem.W.mg_of X G a4, k4, b4, q4⟩
  have FM_Bundle___init__ := fun_mk (st := s_Bundle___init__) ls_Bundle___init__ cs_Bundle___init__ ks_Bundle___init__
  have bM_Bundle___init__ := FM_Bundle___init__.binds (ps := ["self", "town", "seller", "number", "of", "copies"]) fun _ _ _ _ _ _ us hl => match us, hl with | [_, _, _, _, _, _], _ => rfl
  have MF_Bundle : MakeF l.prog w K mg base _ "Bundle" c_Bundle _ _ [] forms_Bundle := ⟨⟨fs_Bundle___init__, _, [], ⟨mk_Bundle, ns_Bundle___init__, if_Bundle___init__, kc_Bundle⟩, ok_Bundle___init__ T FM_Bundle___init__  , .nil, ⟨(fun s o us ws XI h1 h2 => match us, ws, h1, h2 with | [_, _, _, _, _], [], _, _ => .of_eq rfl), (fun s o us ws XI h1 h2 => match us, ws, h1, h2 with | [], [_, _, _, _, _], _, _ => .of_eq rfl), trivial⟩, by decide⟩, PySem.W.mg_of X G nc_Bundle⟩
  have C__law_made : Callee l.prog w K mg base _ "_law_made" _ _ := ⟨_, _, ok__law_made T F7 (MF_Bundle := MF_Bundle) , PySem.W.mg_of X G a7, k7, b7, q7⟩
  have C_want_bundles : Callee l.prog w K mg base _ "want_bundles" _ _ := ⟨_, _, ok_want_bundles T F0 (MF_Bundle := MF_Bundle) , PySem.W.mg_of X G a0, k0, b0, q0⟩
  have C_bundled : CalleeD l.prog w K mg base _ "bundled" _ _ [.int 50] forms_bundled := ⟨_, _, [.int 50 dtk1], ok_bundled T F1 (C_want_bundles := C_want_bundles), PySem.W.mg_of X G a1, k1, (.cons ⟨_, rfl⟩ .nil), ⟨(fun s us ws XI h1 h2 => match us, ws, h1, h2 with | [_, _], [], _, _ => PySem.W.binds_K XI rfl d1 rfl rfl rfl), trivial⟩, by decide⟩
  have C__law_text : Callee l.prog w K mg base _ "_law_text" _ _ := ⟨_, _, ok__law_text T F6 , PySem.W.mg_of X G a6, k6, b6, q6⟩
  have C__law_others : Callee l.prog w K mg base _ "_law_others" _ _ := ⟨_, _, ok__law_others T F5 (C__law_names := C__law_names) (C__law_take := C__law_take), PySem.W.mg_of X G a5, k5, b5, q5⟩
  have FM_Bundle___len__ := fun_mk (st := s_Bundle___len__) ls_Bundle___len__ cs_Bundle___len__ ks_Bundle___len__
  have bM_Bundle___len__ := FM_Bundle___len__.binds (ps := ["self"]) fun _ _ _ _ _ _ us hl => match us, hl with | [_], _ => rfl
  have O_Bundle___len__ : OwnM l.prog w K mg base _ c_Bundle "__len__" _ _ := ⟨fs_Bundle___len__, _, ok_Bundle___len__ T FM_Bundle___len__ , ns_Bundle___len__, if_Bundle___len__, bM_Bundle___len__, ks_Bundle___len__⟩
  have FM_Bundle___str__ := fun_mk (st := s_Bundle___str__) ls_Bundle___str__ cs_Bundle___str__ ks_Bundle___str__
  have bM_Bundle___str__ := FM_Bundle___str__.binds (ps := ["self"]) fun _ _ _ _ _ _ us hl => match us, hl with | [_], _ => rfl
  have O_Bundle___str__ : OwnM l.prog w K mg base _ c_Bundle "__str__" _ _ := ⟨fs_Bundle___str__, _, ok_Bundle___str__ T FM_Bundle___str__ , ns_Bundle___str__, if_Bundle___str__, bM_Bundle___str__, ks_Bundle___str__⟩
  have FM_Bundle___repr__ := fun_mk (st := s_Bundle___repr__) ls_Bundle___repr__ cs_Bundle___repr__ ks_Bundle___repr__
  have bM_Bundle___repr__ := FM_Bundle___repr__.binds (ps := ["self"]) fun _ _ _ _ _ _ us hl => match us, hl with | [_], _ => rfl
  have O_Bundle___repr__ : OwnM l.prog w K mg base _ c_Bundle "__repr__" _ _ := ⟨fs_Bundle___repr__, _, ok_Bundle___repr__ T FM_Bundle___repr__ (O_Bundle___str__ := O_Bundle___str__), ns_Bundle___repr__, if_Bundle___repr__, bM_Bundle___repr__, ks_Bundle___repr__⟩
  have C__law_right : Callee l.prog w K mg base _ "_law_right" _ _ := ⟨_, _, ok__law_right T F8 (O_Bundle___len__ := O_Bundle___len__) (O_Bundle___str__ := O_Bundle___str__) (O_Bundle___repr__ := O_Bundle___repr__) (C__law_text := C__law_text), PySem.W.mg_of X G a8, k8, b8, q8⟩
  have FM_Bundle___eq__ := fun_mk (st := s_Bundle___eq__) ls_Bundle___eq__ cs_Bundle___eq__ ks_Bundle___eq__
  have bM_Bundle___eq__ := FM_Bundle___eq__.binds (ps := ["self", "other"]) fun _ _ _ _ _ _ us hl => match us, hl with | [_, _], _ => rfl
  have E_Bundle : OwnE l.prog w K mg base _ c_Bundle _ := ⟨fs_Bundle___eq__, _, ok_Bundle___eq__ T FM_Bundle___eq__ , ns_Bundle___eq__, if_Bundle___eq__, bM_Bundle___eq__, ks_Bundle___eq__, ne_Bundle⟩
  exact ok_law T F9 (MF_Bundle := MF_Bundle) (E_Bundle := E_Bundle) (O_Bundle___len__ := O_Bundle___len__) (O_Bundle___repr__ := O_Bundle___repr__) (C__law_held := C__law_held) (C__law_names := C__law_names) (C__law_made := C__law_made) (C_bundled := C_bundled) (C__law_text := C__law_text) (C__law_take := C__law_take) (C__law_others := C__law_others) (C__law_right := C__law_right)
end
theorem walk {l : PySem.W.OpenLaw} {q : Program} {loose : List Str} {XP : (Str → Option Value) → Heap → Prop} {YP : World → Heap → Prop} {d : DefRec} {K : Params → PySem.W.Frag} (hn : l.most = some 63) (hdf : d.params.defaults = [])
    (hY : ∀ (w : World) (h : Heap), YP w h → (K w.params).In h)
    (F : ∀ (w : World) (mg : Str → Option Value) (fa : Addr) (h : Heap), (K w.params).In h → h.Ns mainGlobals mg → mg d.name = some (.ref fa) →
      ∃ fd : FuncData, (∀ (s : Shared) (u : Value), BindsTo s fd ⟨[u], []⟩ [("_law_script", u)]) ∧ ∀ base : Heap, (K w.params).In base → base.Ns mainGlobals mg → FnOk l.prog w (K w.params) mg base CX0 KLAW fa fd ["_law_script"] (sp_law (K w.params))) :
    PySem.W.WalkO q loose XP YP l.row.toRowW d [] (fun f vs => PySem.call f vs) :=
  L2.walk_of (n := 63) (k := KLAW) (x := "_law_script") (CX := fun _ => CX0) (sp := fun w => sp_law (K w.params)) hn (by decide) hdf ⟨rfl, by decide, by decide, rfl⟩ hY F (fun _ _ a ns hl _ hS => ⟨a, ns, rfl, hS, hl, fun _ => rfl⟩) fun _ _ _ _ _ z => z
end Toy
open PySem PySem.W PyProof.Rows
set_option maxRecDepth 100000 in
set_option maxHeartbeats 0 in
theorem PySem.Challenge.cw_nightpaper_k58_what_a_bundle_is_holds : PySem.Challenge.rw_nightpaper_k58_what_a_bundle_is.Holds := by
  w_on; o_law; k_head; (case hw => w_witness2)
  k_fill
  refine Toy.walk (l := PySem.Challenge.rw_nightpaper_k58_what_a_bundle_is) rfl rfl (fun w h Y => PySem.W.kIn_of Y) ?F
  case F =>
    intro w mg fa h KX G hmg
    refine' Toy.all_mk KX G hmg ?a0 ?l0 ?c0 ?k0 ?a1 ?l1 ?c1 ?k1 ?d1 ?a2 ?l2 ?c2 ?k2 ?a3 ?l3 ?c3 ?k3 ?a4 ?l4 ?c4 ?k4 ?a5 ?l5 ?c5 ?k5 ?a6 ?l6 ?c6 ?k6 ?a7 ?l7 ?c7 ?k7 ?a8 ?l8 ?c8 ?k8 ?a9 ?l9 ?c9 ?k9 ?z_bool ?z_enumerate ?z_int ?z_isinstance ?z_len ?z_list ?z_min ?z_range ?z_repr ?z_str ?nc_Bundle ?ff_Bundle ?fm_Bundle ?pg_Bundle ?hd_Bundle ?po_Bundle ?sa_Bundle ?ia_Bundle ?ib_Bundle ?ic_Bundle ?id_Bundle ?hi_Bundle_Bundle ?nb_Bundle ?na_Bundle_town ?na_Bundle_seller ?na_Bundle_number ?na_Bundle_of ?na_Bundle_copies ?hkp_Bundle_int ?hkp_Bundle_bool ?hkp_Bundle_str ?hkp_Bundle_NoneType ?hkp_Bundle_list ?hkp_Bundle_tuple ?ns_Bundle___init__ ?ls_Bundle___init__ ?cs_Bundle___init__ ?ks_Bundle___init__ ?if_Bundle___init__ ?kc_Bundle ?mk_Bundle ?ns_Bundle___eq__ ?ls_Bundle___eq__ ?cs_Bundle___eq__ ?ks_Bundle___eq__ ?if_Bundle___eq__ ?ne_Bundle ?ns_Bundle___len__ ?ls_Bundle___len__ ?cs_Bundle___len__ ?ks_Bundle___len__ ?if_Bundle___len__ ?ns_Bundle___str__ ?ls_Bundle___str__ ?cs_Bundle___str__ ?ks_Bundle___str__ ?if_Bundle___str__ ?ns_Bundle___repr__ ?ls_Bundle___repr__ ?cs_Bundle___repr__ ?ks_Bundle___repr__ ?if_Bundle___repr__
    (case a0 => k_is)
    (case l0 => k_is)
    (case c0 => k_is)
    (case k0 => k_is)
    (case a1 => k_is)
    (case l1 => k_is)
    (case c1 => k_is)
    (case k1 => k_is)
    (case d1 => k_is)
    (case a2 => k_is)
    (case l2 => k_is)
    (case c2 => k_is)
    (case k2 => k_is)
    (case a3 => k_is)
    (case l3 => k_is)
    (case c3 => k_is)
    (case k3 => k_is)
    (case a4 => k_is)
    (case l4 => k_is)
    (case c4 => k_is)
    (case k4 => k_is)
    (case a5 => k_is)
    (case l5 => k_is)
    (case c5 => k_is)
    (case k5 => k_is)
    (case a6 => k_is)
    (case l6 => k_is)
    (case c6 => k_is)
    (case k6 => k_is)
    (case a7 => k_is)
    (case l7 => k_is)
    (case c7 => k_is)
    (case k7 => k_is)
    (case a8 => k_is)
    (case l8 => k_is)
    (case c8 => k_is)
    (case k8 => k_is)
    (case a9 => k_is)
    (case l9 => k_is)
    (case c9 => k_is)
    (case k9 => k_is)
    (case z_bool => k_is)
    (case z_enumerate => k_is)
    (case z_int => k_is)
    (case z_isinstance => k_is)
    (case z_len => k_is)
    (case z_list => k_is)
    (case z_min => k_is)
    (case z_range => k_is)
    (case z_repr => k_is)
    (case z_str => k_is)
    (case nc_Bundle => k_is)
    (case ff_Bundle => k_is)
    (case fm_Bundle => kernel_rfl)
    (case pg_Bundle => k_is)
    (case hd_Bundle => k_is)
    (case po_Bundle => k_is)
    (case sa_Bundle => k_is)
    (case ia_Bundle => k_is)
    (case ib_Bundle => kernel_rfl)
    (case ic_Bundle => kernel_rfl)
    (case id_Bundle => kernel_rfl)
    (case hi_Bundle_Bundle => kernel_rfl)
    (case nb_Bundle => k_is)
    (case na_Bundle_town => k_is)
    (case na_Bundle_seller => k_is)
    (case na_Bundle_number => k_is)
    (case na_Bundle_of => k_is)
    (case na_Bundle_copies => k_is)
    (case hkp_Bundle_int => kernel_rfl)
    (case hkp_Bundle_bool => kernel_rfl)
    (case hkp_Bundle_str => kernel_rfl)
    (case hkp_Bundle_NoneType => kernel_rfl)
    (case hkp_Bundle_list => kernel_rfl)
    (case hkp_Bundle_tuple => kernel_rfl)
    (case ns_Bundle___init__ => k_is)
    (case ls_Bundle___init__ => k_is)
    (case cs_Bundle___init__ => k_is)
    (case ks_Bundle___init__ => k_is)
    (case if_Bundle___init__ => k_is)
    (case kc_Bundle => k_is)
    (case mk_Bundle => k_is)
    (case ns_Bundle___eq__ => k_is)
    (case ls_Bundle___eq__ => k_is)
    (case cs_Bundle___eq__ => k_is)
    (case ks_Bundle___eq__ => k_is)
    (case if_Bundle___eq__ => k_is)
    (case ne_Bundle => kernel_rfl)
    (case ns_Bundle___len__ => k_is)
    (case ls_Bundle___len__ => k_is)
    (case cs_Bundle___len__ => k_is)
    (case ks_Bundle___len__ => k_is)
    (case if_Bundle___len__ => k_is)
    (case ns_Bundle___str__ => k_is)
    (case ls_Bundle___str__ => k_is)
    (case cs_Bundle___str__ => k_is)
    (case ks_Bundle___str__ => k_is)
    (case if_Bundle___str__ => k_is)
    (case ns_Bundle___repr__ => k_is)
    (case ls_Bundle___repr__ => k_is)
    (case cs_Bundle___repr__ => k_is)
    (case ks_Bundle___repr__ => k_is)
    (case if_Bundle___repr__ => k_is)

