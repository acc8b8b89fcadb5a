import PyProof.Rows.All
import Wide.All
import OpenK.AllK
import Wide.FinOn
import PyProof.EqAt
import PyProof.EqKinds
import PyProof.TupleCall
import KE.BitLaws
import KE.KLam
import KE.KSortTupG
import KE.KDictSum
import KE.KItemsList
import KE.KEqDict
import PyProof.SetKind
import PyProof.Rows.SetFrom
import PyProof.FactsAll.set_1
import PyProof.FactsAll.set_2
import PyProof.Rows.SortShellAny
import PyProof.Rows.ReprOcc
import PyProof.Rows.CountFlat
import PySem.Challenge.RW_coinlaw_k01_days_and_dates
set_option Elab.async false
set_option linter.all false
set_option maxRecDepth 100000
/-! THE HAND LAYER, for ints, bools, texts, own classes, lists, tuples, dicts, comprehensions, walks over dicts, enumerate, zip, reversed, texts, calls, loops. Paste it whole ahead of your own text; what your proof does not reach may be deleted. -/
namespace L2
open PySem PySem.Spec PyProof.Rows

/-- a key: an int or a str -/
abbrev Key := Sum Int Str
def keyIs : Key → Value → Bool
  | .inl k, v => Value.isInt k v
  | .inr x, v => Value.isStrOf x v
def keyH (w : World) : Key → Int
  | .inl k => hashInt k
  | .inr x => hashStr w x
theorem keyIs_shape : ∀ {k : Key} {v : Value}, keyIs k v = true → (∃ i t, k = Sum.inl i ∧ v = Value.int i t) ∨ (∃ x t, k = Sum.inr x ∧ v = Value.str x t)
  | .inl i, v, h => by
    obtain ⟨t, e⟩ := Value.isInt_shape (k := i) (v := v) h
    exact .inl ⟨i, t, rfl, e⟩
  | .inr x, v, h => by
    obtain ⟨t, e⟩ := Value.isStrOf_shape (x := x) (v := v) h
    exact .inr ⟨x, t, rfl, e⟩
theorem keyIs_int (i : Int) (t : Tok) : keyIs (.inl i) (.int i t) = true := by simp [keyIs, Value.isInt]
theorem keyIs_str (x : Str) (t : Tok) : keyIs (.inr x) (.str x t) = true := by simp [keyIs, Value.isStrOf]
theorem key_ll (a b : Int) : decide ((Sum.inl a : Key) = Sum.inl b) = (a == b) := by
  by_cases e : a = b
  · subst e; simp
  · have h : ¬ (Sum.inl a : Key) = Sum.inl b := fun q => e (Sum.inl.inj q)
    rw [decide_eq_false h]
    exact (beq_eq_false_iff_ne.mpr e).symm
theorem key_rr (a b : Str) : decide ((Sum.inr a : Key) = Sum.inr b) = decide (a = b) := by
  by_cases e : a = b
  · subst e; simp
  · have h : ¬ (Sum.inr a : Key) = Sum.inr b := fun q => e (Sum.inr.inj q)
    rw [decide_eq_false h, decide_eq_false e]
theorem key_lr (a : Int) (b : Str) : decide ((Sum.inl a : Key) = Sum.inr b) = false := decide_eq_false (fun q => nomatch q)
theorem key_rl (a : Str) (b : Int) : decide ((Sum.inr a : Key) = Sum.inl b) = false := decide_eq_false (fun q => nomatch q)

def mixKind (prog : Program) (w : World) : PySem.KeyKind prog w Key where
  is := keyIs
  hash := keyH w
  inj := fun v a b ha hb => by
    rcases keyIs_shape ha with ⟨i, t, rfl, rfl⟩ | ⟨x, t, rfl, rfl⟩
    · rcases keyIs_shape hb with ⟨j, u, rfl, e⟩ | ⟨y, u, rfl, e⟩
      · injection e with e1 _; rw [e1]
      · exact nomatch e
    · rcases keyIs_shape hb with ⟨j, u, rfl, e⟩ | ⟨y, u, rfl, e⟩
      · exact nomatch e
      · injection e with e1 _; rw [e1]
  byValue := fun k v h => by
    rcases keyIs_shape h with ⟨i, t, rfl, rfl⟩ | ⟨x, t, rfl, rfl⟩ <;> rfl
  pyHash := fun hv h => by
    rcases keyIs_shape hv with ⟨i, t, rfl, rfl⟩ | ⟨x, t, rfl, rfl⟩
    · exact wpAny_pyHash_int h
    · exact wpAny_pyHash_str h
  eqBool := fun hu hv h => by
    rcases keyIs_shape hu with ⟨i, t, rfl, rfl⟩ | ⟨x, t, rfl, rfl⟩
    · rcases keyIs_shape hv with ⟨j, u, rfl, rfl⟩ | ⟨y, u, rfl, rfl⟩
      · rw [key_ll] at h; exact wpAny_eqBool_int h
      · rw [key_lr] at h; exact SeqAt.EqAt.int_str i t y u _ _ _ _ h
    · rcases keyIs_shape hv with ⟨j, u, rfl, rfl⟩ | ⟨y, u, rfl, rfl⟩
      · rw [key_rl] at h; exact SeqAt.EqAt.str_int x t j u _ _ _ _ h
      · rw [key_rr] at h; exact wpAny_eqBool_str h
  «strs» := fun k x t v h => by
    rcases keyIs_shape h with ⟨i, u, rfl, e⟩ | ⟨y, u, rfl, e⟩
    · exact nomatch e
    · injection e with e1 _
      subst e1
      cases v <;> rfl

theorem mixKind_int (prog : Program) (w : World) (i : Int) (t : Tok) : (mixKind prog w).is (.inl i) (.int i t) = true := keyIs_int i t
theorem mixKind_str (prog : Program) (w : World) (x : Str) (t : Tok) : (mixKind prog w).is (.inr x) (.str x t) = true := keyIs_str x t
end L2

namespace L2
open PySem PySem.Spec PyProof.Rows

/-- a value, without the heap -/
inductive V where
  | non | bl (b : Bool) | int (i : Int) | str (x : Str) | byt (b : Array UInt8) | flt (b : UInt64) | ref (a : Addr) | ty (n : String)
  deriving DecidableEq

def RelV : V → Value → Prop
  | .non, u => u = Value.none
  | .bl b, u => u = Value.bool b
  | .int i, u => ∃ t, u = Value.int i t
  | .str x, u => ∃ t, u = Value.str x t
  | .byt b, u => ∃ t, u = Value.bytes b t
  | .flt b, u => ∃ t, u = Value.float b t
  | .ref a, u => u = Value.ref a
  | .ty n, u => u = Value.type n

abbrev Vals : List V → List Value → Prop := Paired RelV
theorem Vals.length {xs : List V} {us : List Value} (r : Vals xs us) : xs.length = us.length := Paired.length r
theorem Vals.get : ∀ {xs : List V} {us : List Value} {i : Nat} {x : V}, Vals xs us → xs[i]? = some x → ∃ u, us[i]? = some u ∧ RelV x u
  | _, _, _, _, .nil, e => by simp at e
  | _, _, 0, _, .cons r _, e => by simp at e; subst e; exact ⟨_, rfl, r⟩
  | _, _, i + 1, x, .cons _ t, e => by
    obtain ⟨u, h1, h2⟩ := Vals.get (i := i) (x := x) t (by simpa using e)
    exact ⟨u, by simpa using h1, h2⟩
theorem Vals.set {x : V} {u : Value} (r : RelV x u) : ∀ {xs : List V} {us : List Value} (i : Nat), Vals xs us → Vals (xs.set i x) (us.set i u)
  | _, _, _, .nil => .nil
  | _, _, 0, .cons _ t => .cons r t
  | _, _, i + 1, .cons q t => .cons q (Vals.set r i t)
theorem Vals.append : ∀ {xs ys : List V} {us ws : List Value}, Vals xs us → Vals ys ws → Vals (xs ++ ys) (us ++ ws)
  | _, _, _, _, .nil, s => s
  | _, _, _, _, .cons r t, s => .cons r (Vals.append t s)
theorem Vals.take : ∀ {xs : List V} {us : List Value} (n : Nat), Vals xs us → Vals (xs.take n) (us.take n)
  | _, _, 0, _ => .nil
  | _, _, _ + 1, .nil => .nil
  | _, _, n + 1, .cons r t => .cons r (Vals.take n t)
theorem Vals.drop : ∀ {xs : List V} {us : List Value} (n : Nat), Vals xs us → Vals (xs.drop n) (us.drop n)
  | _, _, 0, r => r
  | _, _, _ + 1, .nil => .nil
  | _, _, n + 1, .cons _ t => Vals.drop n t
def RelO : Option V → Option Value → Prop
  | some v, some u => RelV v u
  | none, none => True
  | _, _ => False
def KV {κ : Type} : List (κ × V) → List (κ × Value) → Prop := Paired fun (p : κ × V) (q : κ × Value) => p.1 = q.1 ∧ RelV p.2 q.2

/-- a key of a dict (00_mix): an int or a text -/
def kV : Key → V
  | .inl i => .int i
  | .inr x => .str x

/-- what stands at a tracked address -/
inductive HO where
  /-- a list -/
  | lst (xs : List V)
  /-- a tuple (never changes) -/
  | tup (xs : List V)
  /-- a dict whose keys are ints and texts; one whose keys are tuples of ints and texts (the empty one is both) -/
  | dK (kvs : List (Key × V)) | dT (kvs : List (List Key × V))
  /-- a set of ints: its members, its size -/
  | set (S : Int → Bool) (n : Nat)
  /-- an instance of the class at C, its dict at dx, its attributes -/
  | ins (C dx : Addr) (fs : List (Str × V))
  /-- the dict of the instance at x -/
  | own (x : Addr)
  /-- the dict of an exception -/
  | xd (fs : List (Str × V))
  /-- a bound method, f of x -/
  | met (f x : Addr)
  /-- a range object lo, lo + 1, .. below hi -/
  | rng (lo hi : Int)
  /-- a thing that is known to the object (the script; a dict while a loop walks it): read, never written while it is so -/
  | frz (o : Obj) (u : HO)
  /-- a code object's table -/
  | tbl (ps : Array Value)
  /-- any other thing, by what is true of its one object (a def of one's own: SetO a S n := HO.ext fun h => ..) -/
  | ext (φ : Heap → Prop)

abbrev Hp := Addr → Option HO
def upd (H : Hp) (a : Addr) (o : HO) : Hp := fun b => if b = a then some o else H b
theorem upd_same {H : Hp} {a : Addr} {o : HO} : upd H a o a = some o := by unfold upd; rw [if_pos rfl]
theorem upd_ne {H : Hp} {a b : Addr} {o : HO} (h : b ≠ a) : upd H a o b = H b := by unfold upd; rw [if_neg h]
theorem ne_of_none {H : Hp} {a b : Addr} {o : HO} (h : H a = some o) (h' : H b = none) : a ≠ b := by
  intro e; subst e; rw [h] at h'; cases h'

section
variable (P : Program) (w : World)
def ObjOk (H : Hp) (h : Heap) (a : Addr) : HO → Prop
  | .lst xs => xs.length ≤ sizeLine ∧ ∃ (its : List Value) (n : Nat), Vals xs its ∧ h.get? a = some { cls := .type "list", data := .seq its.toArray n }
  | .tup xs => xs.length ≤ sizeLine ∧ ∃ its : List Value, Vals xs its ∧ IsTup h a its.toArray
  | .dK kvs => kvs.length ≤ sizeLine ∧ (a == sysModules) = false ∧ ∃ vs, KV kvs vs ∧ h.DictOf (mixKind P w) a vs
  | .dT kvs => kvs.length ≤ sizeLine ∧ (a == sysModules) = false ∧ ∃ xs : List (List Key × Addr × Value),
      Paired (fun (p : List Key × V) (q : List Key × Addr × Value) => p.1 = q.1 ∧ H q.2.1 = some (.tup (p.1.map kV)) ∧ RelV p.2 q.2.2) kvs xs ∧
      ∃ o es ep, h.get? a = some o ∧ o.ExactDict ∧ o.data = .dict es ep ∧ es.toList = xs.map (entryOfKey (tupleKind (mixKind P w))) ∧ (xs.map (·.1)).Nodup
  | .set S n => h.SetOf (intKind P w) a S n
  | .ins C dx fs => H dx = some (.own a) ∧ fs.length ≤ 1000 ∧ dx ≠ a ∧ h.get? a = some (PySem.W.instObj C dx) ∧
      ∃ mA, h.Ns1 dx mA ∧ (∀ f, RelO (fs.lookup f) (mA f)) ∧ PySem.Within mA (fs.map (·.1))
  | .own _ => ∃ o, h.get? a = some o
  | .xd fs => ∃ mA, h.Ns1 a mA ∧ ∀ f, RelO (fs.lookup f) (mA f)
  | .rng lo hi => ∃ t u v, h.get? a = some { cls := .type "range", data := .fields #[.int lo t, .int hi u, .int 1 v] }
  | .frz o u => h.get? a = some o ∧ ObjOk H h a u
  | .tbl ps => h.get? a = some { cls := .none, data := .fields ps }
  | .met f x => h.get? a = some (PySem.W.methodObj (.ref f) (.ref x))
  | .ext φ => φ h ∧ (∃ o, h.get? a = some o) ∧ ∀ h1 h2 : Heap, φ h1 → (∀ o, h1.get? a = some o → h2.get? a = some o) → φ h2
/-- the abstract heap is held -/
def HOk (H : Hp) (h : Heap) : Prop := ∀ a o, H a = some o → ObjOk P w H h a o
end

section
variable {P : Program} {w : World} {H H' : Hp} {h h' : Heap} {a : Addr} {o : HO}
theorem ObjOk.lt (x : ObjOk P w H h a o) : a < h.objs.size := by
  cases o with
  | lst xs => obtain ⟨_, _, _, _, e⟩ := x; exact Heap.lt_size e
  | tup xs => obtain ⟨_, _, _, p⟩ := x; exact p.lt
  | dK kvs => obtain ⟨_, _, _, _, o, _, _, e, _⟩ := x; exact Heap.lt_size e
  | dT kvs => obtain ⟨_, _, _, _, o, _, _, e, _⟩ := x; exact Heap.lt_size e
  | set S n => obtain ⟨o, _, _, _, e, _⟩ := x; exact Heap.lt_size e
  | ins C dx fs => obtain ⟨_, _, _, e, _⟩ := x; exact Heap.lt_size e
  | own y => obtain ⟨_, e⟩ := x; exact Heap.lt_size e
  | xd fs => obtain ⟨_, ⟨_, _, _, e, _⟩, _⟩ := x; exact Heap.lt_size e
  | rng lo hi => obtain ⟨_, _, _, e⟩ := x; exact Heap.lt_size e
  | frz ob u => obtain ⟨e, _⟩ := x; exact Heap.lt_size e
  | tbl ps => exact Heap.lt_size (show h.get? a = some _ from x)
  | met f y => exact Heap.lt_size (show h.get? a = some _ from x)
  | ext φ => obtain ⟨_, ⟨_, e⟩, _⟩ := x; exact Heap.lt_size e
theorem Paired.mapP {α β : Type} {F G : α → β → Prop} : ∀ {l₁ : List α} {l₂ : List β}, Paired F l₁ l₂ → (∀ a b, F a b → G a b) → Paired G l₁ l₂
  | _, _, .nil, _ => .nil
  | _, _, .cons r t, f => .cons (f _ _ r) (Paired.mapP t f)
/-- what an object's description leans on: its own object, its own dict, the tuples -/
theorem ObjOk.stay (x : ObjOk P w H h a o) (k : ∀ b u, (b = a ∨ H b = some (.own a)) → h.get? b = some u → h'.get? b = some u)
    (ho : ∀ b, H b = some (.own a) → H' b = some (.own a)) (ht : ∀ b xs, H b = some (.tup xs) → H' b = some (.tup xs)) : ObjOk P w H' h' a o := by
  induction o with
  | lst xs => obtain ⟨z, its, n, r, e⟩ := x; exact ⟨z, its, n, r, k _ _ (.inl rfl) e⟩
  | tup xs => obtain ⟨z, its, r, ob, e, c⟩ := x; exact ⟨z, its, r, ob, k _ _ (.inl rfl) e, c⟩
  | dK kvs => obtain ⟨z, y, vs, r, ob, es, ep, e, c⟩ := x; exact ⟨z, y, vs, r, ob, es, ep, k _ _ (.inl rfl) e, c⟩
  | dT kvs =>
    obtain ⟨z, y, xs, r, ob, es, ep, e, c⟩ := x
    exact ⟨z, y, xs, Paired.mapP r fun p q z => ⟨z.1, ht _ _ z.2.1, z.2.2⟩, ob, es, ep, k _ _ (.inl rfl) e, c⟩
  | set S n => obtain ⟨ob, es, ep, t, e, c⟩ := x; exact ⟨ob, es, ep, t, k _ _ (.inl rfl) e, c⟩
  | ins C dx fs =>
    obtain ⟨d, z, ne, e, mA, ⟨od, es, ep, e2, c⟩, r⟩ := x
    exact ⟨ho _ d, z, ne, k _ _ (.inl rfl) e, mA, ⟨od, es, ep, k _ _ (.inr d) e2, c⟩, r⟩
  | own y => obtain ⟨ob, e⟩ := x; exact ⟨ob, k _ _ (.inl rfl) e⟩
  | xd fs => obtain ⟨mA, ⟨od, es, ep, e, c⟩, r⟩ := x; exact ⟨mA, ⟨od, es, ep, k _ _ (.inl rfl) e, c⟩, r⟩
  | rng lo hi => obtain ⟨t, u, v, e⟩ := x; exact ⟨t, u, v, k _ _ (.inl rfl) e⟩
  | frz ob u ih => obtain ⟨e, q⟩ := x; exact ⟨k _ _ (.inl rfl) e, ih q⟩
  | tbl ps =>
    have e : h.get? a = some { cls := .none, data := .fields ps } := x
    show h'.get? a = some { cls := .none, data := .fields ps }
    exact k a _ (.inl rfl) e
  | met f y =>
    have e : h.get? a = some (PySem.W.methodObj (.ref f) (.ref y)) := x
    show h'.get? a = some (PySem.W.methodObj (.ref f) (.ref y))
    exact k a _ (.inl rfl) e
  | ext φ => obtain ⟨p, ⟨o, e⟩, st⟩ := x; exact ⟨st _ _ p fun o q => k _ _ (.inl rfl) q, ⟨o, k _ _ (.inl rfl) e⟩, st⟩
theorem HOk.lt (x : HOk P w H h) (e : H a = some o) : a < h.objs.size := (x a o e).lt
theorem HOk.fresh (x : HOk P w H h) (e : h.objs.size ≤ a) : H a = none := by
  cases q : H a with
  | none => rfl
  | some u => exact absurd (Nat.lt_of_lt_of_le (x.lt q) e) (Nat.lt_irrefl _)
/-- every object of the heap is kept -/
theorem HOk.kept (x : HOk P w H h) (k : ∀ b u, h.get? b = some u → h'.get? b = some u) : HOk P w H h' := fun a o e =>
  (x a o e).stay (fun b u _ q => k b u q) (fun _ q => q) fun _ _ q => q
/-- a new object is laid and tracked -/
theorem HOk.laid (x : HOk P w H h) (k : ∀ b u, h.get? b = some u → h'.get? b = some u) (hp : h.objs.size ≤ a) (new : ObjOk P w (upd H a o) h' a o) : HOk P w (upd H a o) h' := fun b u e => by
  have hn := x.fresh hp
  by_cases hb : b = a
  · subst hb; rw [upd_same] at e; cases e; exact new
  · rw [upd_ne hb] at e
    exact (x b u e).stay (fun c v _ q => k c v q) (fun c q => by rw [upd_ne (ne_of_none q hn)]; exact q) fun c xs q => by rw [upd_ne (ne_of_none q hn)]; exact q
end

/-- what may be read as u: it is u, or a known u -/
def Rd (H : Hp) (a : Addr) (u : HO) : Prop := H a = some u ∨ ∃ o, H a = some (.frz o u)
theorem Rd.of {H : Hp} {a : Addr} {u : HO} (h : H a = some u) : Rd H a u := .inl h
theorem Rd.ok {P : Program} {w : World} {H : Hp} {h : Heap} {a : Addr} {u : HO} (r : Rd H a u) (x : HOk P w H h) : ObjOk P w H h a u := by
  rcases r with r | ⟨o, r⟩
  · exact x a u r
  · obtain ⟨_, q⟩ := x a _ r
    exact q
/-- what may be written -/
def Mut : Option HO → Prop
  | some (.lst _) => True
  | some (.dK _) => True
  | some (.dT _) => True
  | some (.set _ _) => True
  | some (.ins _ _ _) => True
  | some (.ext _) => True
  | _ => False
section
variable {P : Program} {w : World} {H : Hp} {h h' : Heap} {x e : Addr} {o' : HO}
/-- the object at e is changed: x itself, or the dict of the instance x -/
theorem HOk.write (ok : HOk P w H h) (mu : Mut (H x)) (he : e = x ∨ H e = some (.own x)) (k : ∀ b u, b ≠ e → h.get? b = some u → h'.get? b = some u) (heo : ∃ u, h'.get? e = some u)
    (new : ObjOk P w (upd H x o') h' x o') : HOk P w (upd H x o') h' := fun b u q => by
  have nown : ∀ c y, H c = some (.own y) → c ≠ x := fun c y r z => by subst z; rw [r] at mu; exact mu
  have ntup : ∀ c xs, H c = some (.tup xs) → c ≠ x := fun c xs r z => by subst z; rw [r] at mu; exact mu
  by_cases hb : b = x
  · subst hb; rw [upd_same] at q; cases q; exact new
  · rw [upd_ne hb] at q
    by_cases hbe : b = e
    · have q' : H b = some (.own x) := by
        rcases he with z | z
        · exact absurd (hbe.trans z) hb
        · rw [hbe]; exact z
      rw [q] at q'; cases q'
      obtain ⟨v, hv⟩ := heo
      exact ⟨v, by rw [hbe]; exact hv⟩
    · refine (ok b u q).stay (fun c v hc r => k c v ?_ r) (fun c r => by rw [upd_ne (nown c b r)]; exact r) fun c xs r => by rw [upd_ne (ntup c xs r)]; exact r
      rcases hc with rfl | hc
      · exact hbe
      · rintro rfl
        rcases he with z | z
        · exact nown c b hc z
        · rw [hc] at z; cases z; exact hb rfl
end

/-! ### kept unless tracked; of the frames at fs (the callers') the slots may change (an exception that passes writes there); of the records at ex (iterators) nothing is said -/
structure Un (fs ex : List Addr) (H H' : Hp) (h h' : Heap) : Prop where
  keep : ∀ b o, h.get? b = some o → H b = none → b ∉ fs → b ∉ ex → h'.get? b = some o
  slot : ∀ b o, h.get? b = some o → H b = none → b ∈ fs → b ∉ ex → ∃ sl, h'.get? b = some { o with slots := sl }
  free : ∀ b o, h.get? b = some o → H b = none → b ∉ ex → H' b = none
  there : ∀ b o, h.get? b = some o → b ∉ ex → ∃ o', h'.get? b = some o'
  tups : ∀ b xs, H b = some (.tup xs) → H' b = some (.tup xs)
  frzs : ∀ b o u, H b = some (.frz o u) → H' b = some (.frz o u)
  tbls : ∀ b ps, H b = some (.tbl ps) → ∃ more, H' b = some (.tbl (ps ++ more))
section
variable {fs fs' ex ex' : List Addr} {H H1 H2 : Hp} {h h1 h2 h' : Heap} {a x e : Addr} {o : HO}
theorem Un.any (u : Un fs ex H H1 h h1) {b : Addr} {ob : Obj} (q : h.get? b = some ob) (n : H b = none) (hx : b ∉ ex) : ∃ sl, h1.get? b = some { ob with slots := sl } := by
  by_cases hb : b ∈ fs
  · exact u.slot b ob q n hb hx
  · exact ⟨ob.slots, u.keep b ob q n hb hx⟩
theorem Un.trans (a : Un fs ex H H1 h h1) (b : Un fs ex H1 H2 h1 h2) : Un fs ex H H2 h h2 where
  keep := fun c ob q n hc hx => b.keep c ob (a.keep c ob q n hc hx) (a.free c ob q n hx) hc hx
  slot := fun c ob q n hc hx => by
    obtain ⟨sl, e1⟩ := a.slot c ob q n hc hx
    obtain ⟨sl', e2⟩ := b.slot c _ e1 (a.free c ob q n hx) hc hx
    exact ⟨sl', e2⟩
  free := fun c ob q n hx => by
    obtain ⟨o', e1⟩ := a.there c ob q hx
    exact b.free c o' e1 (a.free c ob q n hx) hx
  there := fun c ob q hx => by
    obtain ⟨o', e1⟩ := a.there c ob q hx
    exact b.there c o' e1 hx
  tups := fun c xs q => b.tups c xs (a.tups c xs q)
  frzs := fun c ob xs q => b.frzs c ob xs (a.frzs c ob xs q)
  tbls := fun c ps q => by
    obtain ⟨m1, e1⟩ := a.tbls c ps q
    obtain ⟨m2, e2⟩ := b.tbls c _ e1
    exact ⟨m1 ++ m2, by rw [e2, Array.append_assoc]⟩
theorem Un.kept (k : ∀ b u, h.get? b = some u → h'.get? b = some u) : Un fs ex H H h h' :=
  ⟨fun b ob q _ _ _ => k b ob q, fun b ob q _ _ _ => ⟨ob.slots, k b ob q⟩, fun _ _ _ n _ => n, fun b ob q _ => ⟨ob, k b ob q⟩, fun _ _ q => q, fun _ _ _ q => q, fun _ ps q => ⟨#[], by rw [q]; simp⟩⟩
theorem Un.refl : Un fs ex H H h h := Un.kept fun _ _ q => q
theorem Un.laid (k : ∀ b u, h.get? b = some u → h'.get? b = some u) (hp : h.objs.size ≤ a) (hn : H a = none) : Un fs ex H (upd H a o) h h' where
  keep := fun b u q _ _ _ => k b u q
  slot := fun b u q _ _ _ => ⟨u.slots, k b u q⟩
  free := fun b u q n _ => by rw [upd_ne (Nat.ne_of_lt (Nat.lt_of_lt_of_le (Heap.lt_size q) hp))]; exact n
  there := fun b u q _ => ⟨u, k b u q⟩
  tups := fun b xs q => by rw [upd_ne (ne_of_none q hn)]; exact q
  frzs := fun b u xs q => by rw [upd_ne (ne_of_none q hn)]; exact q
  tbls := fun b ps q => ⟨#[], by rw [upd_ne (ne_of_none q hn), q]; simp⟩
theorem Un.write (mu : Mut (H x)) (he : e = x ∨ H e = some (.own x)) (k : ∀ b u, b ≠ e → h.get? b = some u → h'.get? b = some u) (heo : ∃ u, h'.get? e = some u) : Un fs ex H (upd H x o) h h' := by
  have hx : ∀ b, H b = none → b ≠ x := fun b n z => by subst z; rw [n] at mu; exact mu
  have hb : ∀ b, H b = none → b ≠ e := fun b n z => by
    subst z
    rcases he with r | r
    · exact hx b n r
    · rw [n] at r; cases r
  have hm : ∀ b u, H b = some u → ¬ Mut (some u) → b ≠ x := fun b u q nm z => by subst z; rw [q] at mu; exact nm mu
  refine ⟨fun b u q n _ _ => k b u (hb b n) q, fun b u q n _ _ => ⟨u.slots, k b u (hb b n) q⟩, fun b u q n _ => by rw [upd_ne (hx b n)]; exact n, fun b u q _ => ?_,
    fun b xs q => by rw [upd_ne (hm b _ q fun z => z)]; exact q, fun b u xs q => by rw [upd_ne (hm b _ q fun z => z)]; exact q, fun b ps q => ⟨#[], by rw [upd_ne (hm b _ q fun z => z), q]; simp⟩⟩
  by_cases hbe : b = e
  · subst hbe; exact heo
  · exact ⟨u, k b u hbe q⟩
theorem Un.mono (u : Un fs ex H H1 h h1) (hs : ∀ b ∈ fs, b ∈ fs') (hx : ∀ b ∈ ex, b ∈ ex') : Un fs' ex' H H1 h h1 :=
  ⟨fun b ob q n hb he => u.keep b ob q n (fun z => hb (hs b z)) fun z => he (hx b z), fun _ _ q n _ he => u.any q n fun z => he (hx _ z), fun b ob q n he => u.free b ob q n fun z => he (hx b z), fun b ob q he => u.there b ob q fun z => he (hx b z), u.tups, u.frzs, u.tbls⟩
end

/-! ### the heap without what is tracked -/
def trk (h : Heap) (H : Hp) : List Addr := (List.range h.objs.size).filter fun a => (H a).isSome
def hidT (h : Heap) (H : Hp) : Heap := PySem.W.hideAll h (trk h H)
theorem hidT_size (h : Heap) (H : Hp) : (hidT h H).objs.size = h.objs.size := PySem.W.hideAll_size _ _
theorem hidT_get {h : Heap} {H : Hp} {b : Addr} {o : Obj} (e : h.get? b = some o) (n : H b = none) : (hidT h H).get? b = some o :=
  PySem.W.hideAll_get _ e fun hm => by
    have q : (H b).isSome = true := (List.mem_filter.mp hm).2
    rw [n] at q; simp at q
theorem of_hidT {h : Heap} {H : Hp} {b : Addr} {o : Obj} (e : (hidT h H).get? b = some o) : h.get? b = some o ∧ H b = none := by
  have e' : h.get? b = some o := PySem.W.of_hideAll (trk h H) e
  refine ⟨e', ?_⟩
  cases q : H b with
  | none => rfl
  | some x =>
    have hm : b ∈ trk h H := List.mem_filter.mpr ⟨List.mem_range.mpr (Heap.lt_size e'), by simp [q]⟩
    have z : (hidT h H).get? b = none := PySem.W.hideAll_none (trk h H) hm
    rw [z] at e; cases e

/-! ### OpenK's ledger, filled with every new object but one -/
def allNews (g h : Heap) (L : Addr) : List (Addr × Obj) := (List.range h.objs.size).filterMap fun a => if a = L ∨ (g.get? a).isSome = true then none else (h.get? a).map fun o => (a, o)
def rest (g h : Heap) (L d : Addr) : List (Addr × Obj) := (allNews g h L).filter fun p => decide (p.1 ≠ d)
end L2

namespace L2
open PySem PySem.Spec PyProof.Rows

/-- the module's facts, over the base: the heap at the law's entry without what is tracked there -/
structure Mod (K : PySem.W.Frag) (mg : Str → Option Value) (base : Heap) : Prop where
  kin : K.In base
  glob : base.Ns mainGlobals mg
  blt : ∃ mb, base.Ns builtinsNs mb ∧ ∀ x : Str, x ≠ "__name__" → mb x = bootBuiltins x
  nolimit : base.NoLimit

/-- the context: a def's body (or a comprehension's block) running. base: fixed through the whole law; s₀, H₀: the entry; outer: the frames whose slots others may change (a def's callers); stack: all frames that run;
   ex: iterators that were made ahead of the entry and are walked here (a comprehension's); fn: the names whose cells were made at the entry (a def: all; a comprehension's block: its own); calm: not within an except suite; pn: pins that every state bears; xe: what is wanted of an exception that leaves the code -/
structure Cx where
  prog : Program
  w : World
  K : PySem.W.Frag
  mg : Str → Option Value
  base : Heap
  A : Around
  N : List Str
  s_0 : Shared
  H_0 : Hp
  env : Env
  outer : List Env
  stack : List Env
  ex : List Addr
  fn : Str → Bool
  calm : Bool
  pn : List (Addr × Obj)
  xe : Value → Shared → Prop
/-- the callers' frames -/
def frs (l : List Env) : List Addr := l.filterMap (·.frame)
abbrev Cx.fs (X : Cx) : List Addr := frs X.outer

def Vis (sc : Scope) (x : Str) : Prop := sc.names.lookup x = some .local ∨ sc.names.lookup x = some .cell ∨ sc.names.lookup x = some .free
def Loc (sc : Scope) (x : Str) : Prop := sc.names.lookup x = some .local ∨ sc.names.lookup x = some .cell
def Look (env : Env) (h : Heap) (m : Str → Option Value) (x : Str) (u : Value) : Prop :=
  (env.kindOf x = some .local ∧ m x = some u) ∨ ((env.kindOf x = some .cell ∨ env.kindOf x = some .free) ∧ ∃ c, env.cells.lookup x = some c ∧ h.IsCell c (some u))

structure Cx.Ok (X : Cx) : Prop where
  mod : Mod X.K X.mg X.base
  kind : X.env.scope.kind = .function
  glob : X.env.globals = mainGlobals
  blt : X.env.builtins = builtinsNs
  above : X.s_0.heap.objs.size ≤ X.env.locals
  inj : ∀ x y c, X.env.cells.lookup x = some c → X.env.cells.lookup y = some c → x = y
  has : ∀ x, (X.env.kindOf x = some .cell ∨ X.env.kindOf x = some .free) → ∃ c, X.env.cells.lookup x = some c
  cab : ∀ x c, X.fn x = true → X.env.cells.lookup x = some c → X.s_0.heap.objs.size ≤ c
  hd : X.calm = true → X.A.handled = none
  frames : X.A.frames = some X.stack
  stk : X.stack = X.outer ∨ (X.stack = X.env :: X.outer ∧ X.env.frame = some X.env.locals)
  exf : ∀ b ∈ X.ex, b ≠ X.env.locals ∧ ∀ x c, X.env.cells.lookup x = some c → c ≠ b
  bs : ∀ b o, X.base.get? b = some o → X.s_0.heap.get? b = some o ∧ X.H_0 b = none
  bsz : X.base.objs.size ≤ X.s_0.heap.objs.size
  noex : ∀ b o, X.base.get? b = some o → b ∉ X.ex
  exfs : ∀ b ∈ X.ex, b ∉ X.fs
  funs : X.s_0.heap.FunFrames X.base X.outer
  frf : ∀ b ∈ X.fs, X.H_0 b = none

structure Inv (X : Cx) (pins : List (Addr × Obj)) (σ : List (Option V)) (H : Hp) (s : Shared) : Prop where
  ok : X.Ok
  os : s.os = X.s_0.os
  bare : AllBare s.gens
  base : Un X.fs X.ex X.H_0 H X.s_0.heap s.heap
  loc : ∃ m, s.heap.Ns X.env.locals m ∧ ∀ (i : Nat) (x : Str) (v : V), X.N[i]? = some x → σ[i]? = some (some v) → Vis X.env.scope x → ∃ u, RelV v u ∧ Look X.env s.heap m x u
  cell : ∀ x c, X.env.cells.lookup x = some c → ∃ v, s.heap.IsCell c v
  free : H X.env.locals = none
  freeC : ∀ x c, X.env.cells.lookup x = some c → H c = none
  pin : ∀ p ∈ X.pn ++ pins, s.heap.get? p.1 = some p.2 ∧ H p.1 = none ∧ p.1 ≠ X.env.locals ∧ p.1 ∉ X.fs ∧ ∀ v, p.2.data ≠ .cell v
  hok : HOk X.prog X.w H s.heap
  len : σ.length = X.N.length

section
variable {X : Cx} {pins : List (Addr × Obj)} {σ : List (Option V)} {H H' : Hp} {s : Shared} {h' : Heap}

theorem Cx.Ok.nofr (ok : X.Ok) {b : Addr} {o : Obj} (e : X.base.get? b = some o) : b ∉ X.fs := fun hb => by
  have := (ok.funs.mem hb).1
  rw [e] at this; cases this
theorem Inv.bs (I : Inv X pins σ H s) : ∀ b o, X.base.get? b = some o → s.heap.get? b = some o ∧ H b = none := fun b o e =>
  ⟨I.base.keep b o (I.ok.bs b o e).1 (I.ok.bs b o e).2 (I.ok.nofr e) (I.ok.noex b o e), I.base.free b o (I.ok.bs b o e).1 (I.ok.bs b o e).2 (I.ok.noex b o e)⟩
theorem Inv.bk (I : Inv X pins σ H s) : ∀ b o, X.base.get? b = some o → s.heap.get? b = some o := fun b o e => (I.bs b o e).1
theorem Inv.mod (I : Inv X pins σ H s) : Mod X.K X.mg X.base := I.ok.mod
theorem Inv.kIn (I : Inv X pins σ H s) : X.K.In s.heap := I.ok.mod.kin.keeps I.bk
theorem Inv.nolimit (I : Inv X pins σ H s) : s.heap.NoLimit := I.ok.mod.nolimit.keeps I.bk
/-- the frame over the base: for OpenK's rules (K.In X.base is I.mod.kin) -/
theorem Inv.fr (I : Inv X pins σ H s) : ∃ m, Fr X.base X.env.locals s.heap m :=
  let ⟨m, hn, _⟩ := I.loc
  ⟨m, hn, I.bk, Nat.le_trans I.ok.bsz I.ok.above⟩
theorem Inv.lt (I : Inv X pins σ H s) : X.env.locals < s.heap.objs.size := let ⟨_, hn, _⟩ := I.loc; hn.lt
theorem Inv.sz (I : Inv X pins σ H s) : X.s_0.heap.objs.size ≤ s.heap.objs.size := Nat.le_trans I.ok.above (Nat.le_of_lt I.lt)
theorem Inv.nofs (I : Inv X pins σ H s) {a : Addr} (h : s.heap.objs.size ≤ a) : a ∉ X.fs := fun hb => by
  obtain ⟨_, o, ho, _⟩ := I.ok.funs.mem hb
  exact absurd (Nat.lt_of_lt_of_le (Heap.lt_size ho) (Nat.le_trans I.sz h)) (Nat.lt_irrefl _)
theorem Inv.cne (I : Inv X pins σ H s) : ∀ x c, X.env.cells.lookup x = some c → c ≠ X.env.locals := fun x c e z => by
  obtain ⟨v, o, ho, hd⟩ := I.cell x c e
  obtain ⟨m, ⟨o', es, ep, ho', hd', _⟩, _⟩ := I.loc
  rw [z, ho'] at ho; cases ho; rw [hd'] at hd; cases hd
theorem Inv.funs (I : Inv X pins σ H s) : s.heap.FunFrames X.base X.outer := by
  have all : ∀ (l : List Env), (∀ b ∈ frs l, b ∈ X.fs) → X.s_0.heap.FunFrames X.base l → s.heap.FunFrames X.base l := by
    intro l
    induction l with
    | nil => intro _ _; trivial
    | cons env r ih =>
      intro hs hl
      obtain ⟨hk, ⟨L, o, hf, hn, ho, hd⟩, hr⟩ := hl
      have hL : L ∈ X.fs := hs L (by unfold frs; rw [List.filterMap_cons, hf]; exact List.mem_cons_self)
      obtain ⟨sl, e⟩ := I.base.slot L o ho (I.ok.frf L hL) hL fun z => I.ok.exfs L z hL
      exact ⟨hk, ⟨L, _, hf, hn, e, hd⟩, ih (fun b hb => hs b (by unfold frs; rw [List.filterMap_cons, hf]; exact List.mem_cons_of_mem _ hb)) hr⟩
  exact all X.outer (fun _ hb => hb) I.ok.funs

/-- the frames that run, for a call -/
theorem Inv.stack (I : Inv X pins σ H s) : s.heap.FunFrames X.base X.stack := by
  rcases I.ok.stk with e | ⟨e, hf⟩
  · rw [e]; exact I.funs
  · rw [e]
    obtain ⟨m, hn, _⟩ := I.loc
    refine .cons (by rw [I.ok.kind]; decide) hf hn ?_ I.funs
    exact Heap.get?_none_of_le (Nat.le_trans I.ok.bsz I.ok.above)
theorem Inv.stkSub (I : Inv X pins σ H s) : ∀ b ∈ frs X.stack, b ∈ X.env.locals :: X.fs := fun b hb => by
  rcases I.ok.stk with e | ⟨e, hf⟩
  · rw [e] at hb; exact List.mem_cons_of_mem _ hb
  · rw [e] at hb
    unfold frs at hb
    rw [List.filterMap_cons, hf] at hb
    exact hb
theorem Inv.stkFree (I : Inv X pins σ H s) : ∀ b ∈ frs X.stack, H b = none := fun b hb => by
  rcases List.mem_cons.mp (I.stkSub b hb) with e | hb
  · rw [e]; exact I.free
  · obtain ⟨_, o, ho, _⟩ := I.ok.funs.mem hb
    exact I.base.free b o ho (I.ok.frf b hb) fun z => I.ok.exfs b z hb

/-- THE STEP: the untracked objects but the frame and the records at ch are kept (the callers' frames up to slots), the frame's map is kept, the new abstract heap is held -/
theorem Inv.step {g' : Array GenState} {t' : Nat} {d' : Drawn} {ch : List Addr} (I : Inv X pins σ H s)
    (hch : ∀ b ∈ ch, (b ∈ X.ex ∨ X.s_0.heap.objs.size ≤ b) ∧ b ≠ X.env.locals ∧ (∀ x c, X.env.cells.lookup x = some c → c ≠ b) ∧ ∀ p ∈ X.pn ++ pins, p.1 ≠ b)
    (keep : ∀ b o, b ≠ X.env.locals → b ∉ X.fs → b ∉ ch → s.heap.get? b = some o → H b = none → h'.get? b = some o)
    (slot : ∀ b o, b ≠ X.env.locals → b ∈ X.fs → b ∉ ch → s.heap.get? b = some o → H b = none → ∃ sl, h'.get? b = some { o with slots := sl }) (free : ∀ b o, b ∉ ch → s.heap.get? b = some o → H b = none → H' b = none)
    (there : ∀ b o, b ∉ ch → s.heap.get? b = some o → ∃ o', h'.get? b = some o')
    (tups : ∀ b xs, H b = some (.tup xs) → H' b = some (.tup xs)) (frzs : ∀ b o u, H b = some (.frz o u) → H' b = some (.frz o u)) (tbls : ∀ b ps, H b = some (.tbl ps) → ∃ more, H' b = some (.tbl (ps ++ more)))
    (ns : ∀ m, s.heap.Ns X.env.locals m → h'.Ns X.env.locals m) (hok : HOk X.prog X.w H' h') (hg : AllBare g') :
    Inv X pins σ H' { s with heap := h', gens := g', drawn := d', toks := t' } := by
  have neL : ∀ b o, X.s_0.heap.get? b = some o → b ≠ X.env.locals := fun b o e => Nat.ne_of_lt (Nat.lt_of_lt_of_le (Heap.lt_size e) I.ok.above)
  have neC : ∀ b o, X.s_0.heap.get? b = some o → b ∉ X.ex → b ∉ ch := fun b o e hx hb => by
    rcases (hch b hb).1 with z | z
    · exact hx z
    · exact absurd (Nat.lt_of_lt_of_le (Heap.lt_size e) z) (Nat.lt_irrefl _)
  have cellK : ∀ x c, X.env.cells.lookup x = some c → ∀ v, s.heap.IsCell c v → h'.IsCell c v := fun x c e v ⟨o, ho, hd⟩ => by
    have nch : c ∉ ch := fun z => (hch c z).2.2.1 x c e rfl
    by_cases hc : c ∈ X.fs
    · obtain ⟨sl, q⟩ := slot c o (I.cne x c e) hc nch ho (I.freeC x c e)
      exact ⟨_, q, hd⟩
    · exact ⟨o, keep c o (I.cne x c e) hc nch ho (I.freeC x c e), hd⟩
  refine ⟨I.ok, I.os, hg, ⟨fun b o e n hb hx => ?_, fun b o e n hb hx => ?_, fun b o e n hx => ?_, fun b o e hx => ?_, fun b xs e => tups b xs (I.base.tups b xs e), fun b o xs e => frzs b o xs (I.base.frzs b o xs e), fun b ps e => ?_⟩, ?_, fun x c e => ?_, ?_, fun x c e => ?_, fun p hp => ?_, hok, I.len⟩
  · exact keep b o (neL b o e) hb (neC b o e hx) (I.base.keep b o e n hb hx) (I.base.free b o e n hx)
  · obtain ⟨sl, e1⟩ := I.base.slot b o e n hb hx
    obtain ⟨sl', e2⟩ := slot b _ (neL b o e) hb (neC b o e hx) e1 (I.base.free b o e n hx)
    exact ⟨sl', e2⟩
  · obtain ⟨o', e1⟩ := I.base.there b o e hx
    exact free b o' (neC b o e hx) e1 (I.base.free b o e n hx)
  · obtain ⟨o', e1⟩ := I.base.there b o e hx
    exact there b o' (neC b o e hx) e1
  · obtain ⟨m1, e1⟩ := I.base.tbls b ps e
    obtain ⟨m2, e2⟩ := tbls b _ e1
    exact ⟨m1 ++ m2, by rw [e2, Array.append_assoc]⟩
  · obtain ⟨m, hn, hl⟩ := I.loc
    refine ⟨m, ns m hn, fun i x v e1 e2 e3 => ?_⟩
    obtain ⟨u, r, l⟩ := hl i x v e1 e2 e3
    refine ⟨u, r, ?_⟩
    rcases l with l | ⟨k, c, e, z⟩
    · exact .inl l
    · exact .inr ⟨k, c, e, cellK x c e _ z⟩
  · obtain ⟨v, z⟩ := I.cell x c e
    exact ⟨v, cellK x c e v z⟩
  · obtain ⟨m, ⟨o, _, _, ho, _⟩, _⟩ := I.loc
    exact free _ o (fun z => (hch _ z).2.1 rfl) ho I.free
  · obtain ⟨v, o, ho, hd⟩ := I.cell x c e
    exact free c o (fun z => (hch c z).2.2.1 x c e rfl) ho (I.freeC x c e)
  · obtain ⟨e, n, ne, nf, d⟩ := I.pin p hp
    have nch : p.1 ∉ ch := fun z => (hch p.1 z).2.2.2 p hp rfl
    exact ⟨keep p.1 p.2 ne nf nch e n, free p.1 p.2 nch e n, ne, nf, d⟩
/-- .. where the frame's own object is kept too -/
theorem Inv.un {t' : Nat} (I : Inv X pins σ H s) (u : Un X.fs [] H H' s.heap h') (hok : HOk X.prog X.w H' h') : Inv X pins σ H' { s with heap := h', toks := t' } := by
  obtain ⟨m, ⟨o, es, ep, ho, r⟩, _⟩ := id I.loc
  obtain ⟨sl, hL⟩ := u.any ho I.free (by simp)
  exact I.step (g' := s.gens) (d' := s.drawn) (ch := []) (fun _ z => nomatch z) (fun b o _ hb _ e n => u.keep b o e n hb (by simp)) (fun b o _ hb _ e n => u.slot b o e n hb (by simp)) (fun b o _ e n => u.free b o e n (by simp)) (fun b o _ e => u.there b o e (by simp)) u.tups u.frzs u.tbls (fun m' hm => by
    obtain ⟨o', es', ep', ho', r'⟩ := hm
    rw [ho] at ho'; cases ho'
    exact ⟨_, es', ep', hL, r'⟩) hok I.bare
/-- behind a call (or a comprehension's block): the slots of this frame may have changed too, the records at ch may have turned -/
theorem Inv.call {g' : Array GenState} {t' : Nat} {d' : Drawn} {ch : List Addr} (I : Inv X pins σ H s) (u : Un (frs X.stack) ch H H' s.heap h') (hok : HOk X.prog X.w H' h') (hg : AllBare g')
    (hch : ∀ b ∈ ch, (b ∈ X.ex ∨ X.s_0.heap.objs.size ≤ b) ∧ b ≠ X.env.locals ∧ (∀ x c, X.env.cells.lookup x = some c → c ≠ b) ∧ ∀ p ∈ X.pn ++ pins, p.1 ≠ b) :
    Inv X pins σ H' { s with heap := h', gens := g', drawn := d', toks := t' } := by
  obtain ⟨m, ⟨o, es, ep, ho, r⟩, _⟩ := id I.loc
  obtain ⟨sl, hL⟩ := u.any ho I.free fun z => (hch _ z).2.1 rfl
  exact I.step (ch := ch) hch (fun b o hL hb hc e n => u.keep b o e n (fun z => (List.mem_cons.mp (I.stkSub b z)).elim hL hb) hc) (fun b o _ _ hc e n => u.any e n hc) (fun b o hc e n => u.free b o e n hc) (fun b o hc e => u.there b o e hc) u.tups u.frzs u.tbls (fun m' hm => by
    obtain ⟨o', es', ep', ho', r'⟩ := hm
    rw [ho] at ho'; cases ho'
    exact ⟨_, es', ep', hL, r'⟩) hok hg
/-- an untracked record of ours (an iterator) has turned -/
theorem Inv.turned {t' : Nat} {it : Addr} (I : Inv X pins σ H s) (k : ∀ b o, b ≠ it → s.heap.get? b = some o → h'.get? b = some o) (hn : H it = none) (hL : it ≠ X.env.locals)
    (h1 : it ∈ X.ex ∨ X.s_0.heap.objs.size ≤ it) (h2 : ∀ x c, X.env.cells.lookup x = some c → c ≠ it) (h3 : ∀ p ∈ X.pn ++ pins, p.1 ≠ it) : Inv X pins σ H { s with heap := h', toks := t' } := by
  have nit : ∀ b u, H b = some u → b ≠ it := fun b u e z => by rw [z, hn] at e; cases e
  refine I.step (g' := s.gens) (d' := s.drawn) (ch := [it]) (fun b hb => ?_) (fun b o _ _ hc e _ => k b o (fun z => hc (by simp [z])) e) (fun b o _ _ hc e _ => ⟨o.slots, k b o (fun z => hc (by simp [z])) e⟩) (fun _ _ _ _ n => n)
    (fun b o hc e => ⟨o, k b o (fun z => hc (by simp [z])) e⟩) (fun _ _ e => e) (fun _ _ _ e => e) (fun b ps e => ⟨#[], by rw [e]; simp⟩) (fun m hm => ?_) (fun b u e => ?_) I.bare
  · have e : b = it := by simpa using hb
    subst e
    exact ⟨h1, hL, h2, h3⟩
  · obtain ⟨o, es, ep, ho, r⟩ := hm
    exact ⟨o, es, ep, k _ o (Ne.symm hL) ho, r⟩
  · refine (I.hok b u e).stay (fun c v hc q => k c v ?_ q) (fun _ q => q) fun _ _ q => q
    rcases hc with z | z
    · rw [z]; exact nit b u e
    · exact nit c _ z
theorem Inv.tok (I : Inv X pins σ H s) (t : Nat) : Inv X pins σ H { s with toks := t } := I.un (h' := s.heap) (t' := t) Un.refl I.hok
/-- all objects kept -/
theorem Inv.kept {t' : Nat} (I : Inv X pins σ H s) (k : ∀ b u, s.heap.get? b = some u → h'.get? b = some u) : Inv X pins σ H { s with heap := h', toks := t' } := I.un (Un.kept k) (I.hok.kept k)
/-- a new object laid and tracked -/
theorem Inv.laid {a : Addr} {o : HO} {t' : Nat} (I : Inv X pins σ H s) (k : ∀ b u, s.heap.get? b = some u → h'.get? b = some u) (hp : s.heap.objs.size ≤ a) (new : ObjOk X.prog X.w (upd H a o) h' a o) :
    Inv X pins σ (upd H a o) { s with heap := h', toks := t' } := I.un (Un.laid k hp (I.hok.fresh hp)) (I.hok.laid k hp new)
/-- an object written -/
theorem Inv.write {x e : Addr} {o : HO} {t' : Nat} (I : Inv X pins σ H s) (mu : Mut (H x)) (he : e = x ∨ H e = some (.own x)) (k : ∀ b u, b ≠ e → s.heap.get? b = some u → h'.get? b = some u) (heo : ∃ u, h'.get? e = some u)
    (new : ObjOk X.prog X.w (upd H x o) h' x o) : Inv X pins σ (upd H x o) { s with heap := h', toks := t' } := I.un (Un.write mu he k heo) (I.hok.write mu he k heo new)
theorem Inv.pins_of {pins' : List (Addr × Obj)} (I : Inv X pins σ H s) (h : ∀ p ∈ pins', s.heap.get? p.1 = some p.2 ∧ H p.1 = none ∧ p.1 ≠ X.env.locals ∧ p.1 ∉ X.fs ∧ ∀ v, p.2.data ≠ .cell v) : Inv X pins' σ H s :=
  ⟨I.ok, I.os, I.bare, I.base, I.loc, I.cell, I.free, I.freeC, fun p hp => (List.mem_append.mp hp).elim (fun z => I.pin p (List.mem_append_left _ z)) (h p), I.hok, I.len⟩

theorem nodup_ix {N : List Str} (hN : N.Nodup) {i j : Nat} {x : Str} (a : N[i]? = some x) (b : N[j]? = some x) : i = j := by
  obtain ⟨h1, e1⟩ := List.getElem?_eq_some_iff.mp a
  obtain ⟨h2, e2⟩ := List.getElem?_eq_some_iff.mp b
  exact (List.getElem_inj hN).mp (e1.trans e2.symm)

/-- a name is stored; what changed -/
theorem store_ok2 {M : Model} {A : Around} {E : Value → Shared → Prop} {i : Nat} {x : Str} {v : V} {u : Value} {Q : Unit → Shared → Prop} (I : Inv X pins σ H s) (hN : X.N.Nodup) (hi : X.N[i]? = some x) (hx : Loc X.env.scope x) (r : RelV v u)
    (h : ∀ s', Inv X pins (σ.set i (some v)) H s' → (∃ a, Heap.SameBut a s.heap s'.heap ∧ (a = X.env.locals ∨ X.env.cells.lookup x = some a)) → Q () s') (hf : X.fn x = true ∨ X.env.scope.names.lookup x = some .local := by first | exact .inl rfl | exact .inr rfl | assumption) : wpAny M A (storeName X.env x u) Q E s := by
  obtain ⟨m, hn, hl⟩ := id I.loc
  have hcls : (X.env.scope.kind == .class || (X.env.scope.kind == .module && X.env.locals != X.env.globals)) = false := by rw [I.ok.kind]; rfl
  have hiσ : i < σ.length := by rw [I.len]; exact (List.getElem?_eq_some_iff.mp hi).1
  have cne := I.cne
  have tracked : ∀ {a : Addr} {h' : Heap}, (∃ o, s.heap.get? a = some o ∧ H a = none) → Heap.SameBut a s.heap h' → HOk X.prog X.w H h' := fun {a h'} ha hs b ob e => by
    obtain ⟨_, _, hfree⟩ := ha
    refine (I.hok b ob e).stay (fun c w' hc q => (hs.2 c ?_).trans q) (fun _ q => q) fun _ _ q => q
    rintro rfl
    rcases hc with rfl | hc
    · rw [hfree] at e; cases e
    · rw [hfree] at hc; cases hc
  rcases hx with hk | hk
  · refine wpAny_storeName_local hk hn (fun h' hn' hs => ?_) hcls
    obtain ⟨oL, _, _, hoL, _⟩ := id hn
    refine h _ ⟨I.ok, I.os, I.bare, ⟨fun b o e n hb hx => ?_, fun b o e n hb hx => ?_, I.base.free, fun b o e hx => ?_, I.base.tups, I.base.frzs, I.base.tbls⟩, ⟨_, hn', fun j y v' e1 e2 e3 => ?_⟩, fun y c e => ?_, I.free, I.freeC, fun p hp => ?_, tracked ⟨oL, hoL, I.free⟩ hs, by simpa using I.len⟩ ⟨_, hs, .inl rfl⟩
    · exact (hs.2 b (Nat.ne_of_lt (Nat.lt_of_lt_of_le (Heap.lt_size e) I.ok.above))).trans (I.base.keep b o e n hb hx)
    · obtain ⟨sl, e1⟩ := I.base.slot b o e n hb hx
      exact ⟨sl, (hs.2 b (Nat.ne_of_lt (Nat.lt_of_lt_of_le (Heap.lt_size e) I.ok.above))).trans e1⟩
    · obtain ⟨o', e1⟩ := I.base.there b o e hx
      exact ⟨o', (hs.2 b (Nat.ne_of_lt (Nat.lt_of_lt_of_le (Heap.lt_size e) I.ok.above))).trans e1⟩
    · by_cases hj : j = i
      · subst hj
        rw [hi] at e1; cases e1
        rw [List.getElem?_set_self hiσ] at e2
        cases e2
        exact ⟨u, r, .inl ⟨hk, by simp⟩⟩
      · rw [List.getElem?_set_ne (Ne.symm hj)] at e2
        obtain ⟨u', r', q⟩ := hl j y v' e1 e2 e3
        refine ⟨u', r', ?_⟩
        rcases q with ⟨k, e⟩ | ⟨k, c, e, z⟩
        · refine .inl ⟨k, ?_⟩
          have : y ≠ x := fun e => hj (nodup_ix hN e1 (e ▸ hi))
          simp [this, e]
        · exact .inr ⟨k, c, e, z.sameBut hs (cne y c e)⟩
    · obtain ⟨w', z⟩ := I.cell y c e
      exact ⟨w', z.sameBut hs (cne y c e)⟩
    · obtain ⟨e, n, ne, nf, d⟩ := I.pin p hp
      exact ⟨(hs.2 p.1 ne).trans e, n, ne, nf, d⟩
  · have hfn : X.fn x = true := by
      rcases hf with z | z
      · exact z
      · rw [z] at hk; cases hk
    obtain ⟨c, hc⟩ := I.ok.has x (.inl hk)
    obtain ⟨w', z⟩ := I.cell x c hc
    refine wpAny_storeName_cell I.ok.kind hk hc z (fun h' hc' hs => ?_)
    obtain ⟨oc, hoc, hocd⟩ := id z
    refine h { s with heap := h' } ⟨I.ok, I.os, I.bare, ⟨fun b o e n hb hx => ?_, fun b o e n hb hx => ?_, I.base.free, fun b o e hx => ?_, I.base.tups, I.base.frzs, I.base.tbls⟩, ⟨m, hn.sameBut hs (Ne.symm (cne x c hc)), fun j y v' e1 e2 e3 => ?_⟩, fun y c' e => ?_, I.free, I.freeC, fun p hp => ?_, tracked ⟨oc, hoc, I.freeC x c hc⟩ hs, by simpa using I.len⟩ ⟨c, hs, .inr hc⟩
    · exact (hs.2 b (Nat.ne_of_lt (Nat.lt_of_lt_of_le (Heap.lt_size e) (I.ok.cab x c hfn hc)))).trans (I.base.keep b o e n hb hx)
    · obtain ⟨sl, e1⟩ := I.base.slot b o e n hb hx
      exact ⟨sl, (hs.2 b (Nat.ne_of_lt (Nat.lt_of_lt_of_le (Heap.lt_size e) (I.ok.cab x c hfn hc)))).trans e1⟩
    · obtain ⟨o', e1⟩ := I.base.there b o e hx
      exact ⟨o', (hs.2 b (Nat.ne_of_lt (Nat.lt_of_lt_of_le (Heap.lt_size e) (I.ok.cab x c hfn hc)))).trans e1⟩
    · by_cases hj : j = i
      · subst hj
        rw [hi] at e1; cases e1
        rw [List.getElem?_set_self hiσ] at e2
        cases e2
        exact ⟨u, r, .inr ⟨.inl hk, c, hc, hc'⟩⟩
      · rw [List.getElem?_set_ne (Ne.symm hj)] at e2
        obtain ⟨u', r', q⟩ := hl j y v' e1 e2 e3
        refine ⟨u', r', ?_⟩
        rcases q with q | ⟨k, c', e, z'⟩
        · exact .inl q
        · refine .inr ⟨k, c', e, z'.sameBut hs ?_⟩
          rintro rfl
          exact hj (nodup_ix hN e1 (I.ok.inj _ _ _ e hc ▸ hi))
    · by_cases hcc : c' = c
      · subst hcc; exact ⟨_, hc'⟩
      · obtain ⟨w2, z2⟩ := I.cell y c' e
        exact ⟨w2, z2.sameBut hs hcc⟩
    · obtain ⟨e, n, ne, nf, d⟩ := I.pin p hp
      refine ⟨(hs.2 p.1 ?_).trans e, n, ne, nf, d⟩
      intro q
      rw [q, hoc] at e
      have q' : oc = p.2 := Option.some.inj e
      exact d w' (by rw [← q']; exact hocd)
theorem store_ok {M : Model} {A : Around} {E : Value → Shared → Prop} {i : Nat} {x : Str} {v : V} {u : Value} {Q : Unit → Shared → Prop} (I : Inv X pins σ H s) (hN : X.N.Nodup) (hi : X.N[i]? = some x) (hx : Loc X.env.scope x) (r : RelV v u)
    (h : ∀ s', Inv X pins (σ.set i (some v)) H s' → Q () s') (hf : X.fn x = true ∨ X.env.scope.names.lookup x = some .local := by first | exact .inl rfl | exact .inr rfl | assumption) : wpAny M A (storeName X.env x u) Q E s :=
  store_ok2 I hN hi hx r (fun s' I' _ => h s' I') hf
/-- behind a call or a block, the state as it is -/
theorem Inv.call' {s' : Shared} {ch : List Addr} (I : Inv X pins σ H s) (ho : s'.os = s.os) (u : Un (frs X.stack) ch H H' s.heap s'.heap) (hok : HOk X.prog X.w H' s'.heap) (hg : AllBare s'.gens)
    (hch : ∀ b ∈ ch, (b ∈ X.ex ∨ X.s_0.heap.objs.size ≤ b) ∧ b ≠ X.env.locals ∧ (∀ x c, X.env.cells.lookup x = some c → c ≠ b) ∧ ∀ p ∈ X.pn ++ pins, p.1 ≠ b) : Inv X pins σ H' s' := by
  obtain ⟨h', g', d', t', o'⟩ := s'
  have e : o' = s.os := ho
  subst e
  exact I.call (g' := g') (t' := t') (d' := d') u hok hg hch
end

/-! ### the judgements -/
/-- an exception: its class, its own dict's address (where it has one), the abstract heap behind it -/
abbrev XK := Value → Option Addr → Hp → Prop
abbrev St := List (Option V)
abbrev VK := V → Hp → Prop
/-- an expression's reading; a test's; an argument list's -/
abbrev TE := St → Hp → VK → Prop
abbrev TT := St → Hp → (Bool → Hp → Prop) → Prop
abbrev TA := St → Hp → (List V → Hp → Prop) → Prop
/-- what is wanted behind a statement -/
structure Ends where
  nx : St → Hp → Prop
  rt : VK
  bk : St → Hp → Prop := fun _ _ => False
  ct : St → Hp → Prop := fun _ _ => False
abbrev TS := Ends → St → Hp → Prop

def EP (X : Cx) (pins : List (Addr × Obj)) (σ : St) (Q : VK) (u : Value) (s' : Shared) : Prop := ∃ v H', Inv X pins σ H' s' ∧ RelV v u ∧ Q v H'
def TP (X : Cx) (pins : List (Addr × Obj)) (σ : St) (Q : Bool → Hp → Prop) (b : Bool) (s' : Shared) : Prop := ∃ H', Inv X pins σ H' s' ∧ Q b H'
def AP (X : Cx) (pins : List (Addr × Obj)) (σ : St) (Q : List V → Hp → Prop) (us : List Value) (s' : Shared) : Prop := ∃ vs H', Inv X pins σ H' s' ∧ Vals vs us ∧ Q vs H'
def SP (X : Cx) (pins : List (Addr × Obj)) (D : Ends) (f : Flow) (s' : Shared) : Prop :=
  match f with
  | .next => ∃ σ' H', Inv X pins σ' H' s' ∧ D.nx σ' H'
  | .brk => ∃ σ' H', Inv X pins σ' H' s' ∧ D.bk σ' H'
  | .cont => ∃ σ' H', Inv X pins σ' H' s' ∧ D.ct σ' H'
  | .ret u => ∃ v σ' H', Inv X pins σ' H' s' ∧ RelV v u ∧ D.rt v H'

def PE (X : Cx) (e : Expr) (t : TE) : Prop :=
  ∀ (pins : List (Addr × Obj)) (s : Shared) (σ : St) (H : Hp) (Q : VK), Inv X pins σ H s → t σ H Q → wpAny (model X.prog X.w) X.A (eval e X.env) (EP X pins σ Q) X.xe s
def PT (X : Cx) (e : Expr) (t : TT) : Prop :=
  ∀ (pins : List (Addr × Obj)) (s : Shared) (σ : St) (H : Hp) (Q : Bool → Hp → Prop), Inv X pins σ H s → t σ H Q → wpAny (model X.prog X.w) X.A (isTrue e X.env (eval e X.env)) (TP X pins σ Q) X.xe s
/-- a test whatever its 'whole' is (and, or) -/
def PW (X : Cx) (e : Expr) (t : TT) : Prop :=
  ∀ (whole : Sem Value) (pins : List (Addr × Obj)) (s : Shared) (σ : St) (H : Hp) (Q : Bool → Hp → Prop), Inv X pins σ H s → t σ H Q → wpAny (model X.prog X.w) X.A (isTrue e X.env whole) (TP X pins σ Q) X.xe s
theorem PW.pt {X : Cx} {e : Expr} {t : TT} (h : PW X e t) : PT X e t := h _
/-- an argument list (no star), from the left -/
def PA (X : Cx) (es : List Expr) (t : TA) : Prop :=
  ∀ (pos : Pos) (pins : List (Addr × Obj)) (s : Shared) (σ : St) (H : Hp) (Q : List V → Hp → Prop), Inv X pins σ H s → t σ H Q → wpAny (model X.prog X.w) X.A (spliced (backTo pos (starEach es X.env))) (AP X pins σ Q) X.xe s
def PS (X : Cx) (st : Stmt) (t : TS) : Prop :=
  ∀ (pins : List (Addr × Obj)) (s : Shared) (σ : St) (H : Hp) (D : Ends), Inv X pins σ H s → t D σ H → wpAny (model X.prog X.w) X.A (exec st X.env) (SP X pins D) X.xe s
def PSs (X : Cx) (st : List Stmt) (t : TS) : Prop :=
  ∀ (pins : List (Addr × Obj)) (s : Shared) (σ : St) (H : Hp) (D : Ends), Inv X pins σ H s → t D σ H → wpAny (model X.prog X.w) X.A (execs st X.env) (SP X pins D) X.xe s
/-- weaken the end -/
theorem thn {α : Type} {t : Sem α} {Q Q' : α → Shared → Prop} {M : Model} {A : Around} {E : Value → Shared → Prop} {s : Shared} (h : wpAny M A t Q E s) (hQ : ∀ a s, Q a s → Q' a s) : wpAny M A t Q' E s := wpAny_mono h hQ fun _ _ x => x
end L2

namespace L2
open PySem PySem.Spec PyProof.Rows
section
variable {X : Cx}

/-! ### names and constants -/
def tVar (i : Nat) : TE := fun σ H Q => ∃ v, σ[i]? = some (some v) ∧ Q v H
def tC (v : V) : TE := fun _ H Q => Q v H
theorem pe_var {i : Nat} {x : Str} {pos : Pos} (hN : X.N[i]? = some x) (hv : Vis X.env.scope x) (hd : (x == ("__debug__" : Str)) = false := by decide) (hcd : (x == ("__classdict__" : Str)) = false := by decide) : PE X (.Name x pos) (tVar i) := by
  intro pins s σ H Q I h
  obtain ⟨v, e, h⟩ := h
  obtain ⟨m, hn, hl⟩ := I.loc
  obtain ⟨u, r, l⟩ := hl i x v hN e hv
  have fin : EP X pins σ Q u s := ⟨v, H, I, r, h⟩
  rcases l with ⟨hk, hm⟩ | ⟨hk, c, hc, hcell⟩
  · exact wpAny_Name (wpAny_loadName_local I.ok.kind hk hn hm fin) hd
  · rcases hk with hk | hk
    · exact wpAny_Name (wpAny_loadName_cell I.ok.kind hk hc hcell fin) hd
    · exact wpAny_Name (wpAny_loadName_free I.ok.kind hk hc hcell fin hcd) hd
theorem pe_int {i j pos} : PE X (.Constant (.int i) j pos) (tC (.int i)) := fun _ _ _ H _ I h => wpAny_Constant_int ⟨.int i, H, I.tok _, ⟨_, rfl⟩, h⟩
theorem pe_bl {b j pos} : PE X (.Constant (.bool b) j pos) (tC (.bl b)) := fun _ _ _ H _ I h => Constant_bool ⟨.bl b, H, I, rfl, h⟩
theorem pe_non {j pos} : PE X (.Constant .none j pos) (tC .non) := fun _ _ _ H _ I h => Constant_none ⟨.non, H, I, rfl, h⟩
theorem pe_str {x j pos} : PE X (.Constant (.str x) j pos) (tC (.str x)) := fun _ _ _ H _ I h => Calls.Constant_str ⟨.str x, H, I.tok _, ⟨_, rfl⟩, h⟩

/-- a global name of the def -/
def Gl (X : Cx) (x : Str) : Prop := X.env.kindOf x = some .globalImplicit
theorem ld_glob {E : Value → Shared → Prop} {pins : List (Addr × Obj)} {s : Shared} {σ : St} {H : Hp} {x : Str} {u : Value} {pos : Pos} {Q : Value → Shared → Prop} (I : Inv X pins σ H s) (hg : Gl X x) (hm : X.mg x = some u) (h : Q u s)
    (hd : (x == ("__debug__" : Str)) = false := by decide) : wpAny (model X.prog X.w) X.A (eval (.Name x pos) X.env) Q E s :=
  Calls.Name_function_global I.ok.kind hg (Calls.loadGlobal_global (by rw [I.ok.glob]; exact I.mod.glob.keeps I.bk) hm h) hd
theorem ld_blt {E : Value → Shared → Prop} {pins : List (Addr × Obj)} {s : Shared} {σ : St} {H : Hp} {x : Str} {u : Value} {pos : Pos} {Q : Value → Shared → Prop} (I : Inv X pins σ H s) (hg : Gl X x) (hm : X.mg x = none) (hv : bootBuiltins x = some u) (h : Q u s)
    (hn : x ≠ "__name__" := by decide) (hd : (x == ("__debug__" : Str)) = false := by decide) : wpAny (model X.prog X.w) X.A (eval (.Name x pos) X.env) Q E s := by
  obtain ⟨mb, h1, h2⟩ := I.mod.blt
  exact Calls.Name_function_global I.ok.kind hg (Calls.loadGlobal_builtin (by rw [I.ok.glob]; exact I.mod.glob.keeps I.bk) hm (by rw [I.ok.blt]; exact h1.keeps I.bk) ((h2 x hn).trans hv) h) hd
/-- a module's constant, a class, a function, as a value -/
theorem pe_glob {x : Str} {v : V} {u : Value} {pos : Pos} (hg : Gl X x) (hm : X.mg x = some u) (r : RelV v u) (hd : (x == ("__debug__" : Str)) = false := by decide) : PE X (.Name x pos) (tC v) :=
  fun _ _ _ H _ I h => ld_glob I hg hm ⟨v, H, I, r, h⟩ hd
theorem pe_bltn {x : Str} {v : V} {u : Value} {pos : Pos} (hg : Gl X x) (hm : X.mg x = none) (hv : bootBuiltins x = some u) (r : RelV v u) (hn : x ≠ "__name__" := by decide) (hd : (x == ("__debug__" : Str)) = false := by decide) : PE X (.Name x pos) (tC v) :=
  fun _ _ _ H _ I h => ld_blt I hg hm hv ⟨v, H, I, r, h⟩ hn hd

/-! ### arithmetic -/
variable {a b : Expr} {ta tb : TE} {pos : Pos}
/-! ### comparisons -/
/-! ### and, or, not -/
variable {tA tB' : TT} {rest : List Expr}
def tOr (t u : TT) : TT := fun σ H Q => t σ H fun c H1 => if c = true then Q true H1 else u σ H1 Q
def tNot (t : TT) : TT := fun σ H Q => t σ H fun c H1 => Q (!c) H1
theorem pw_or1 (ha : PT X a tA) : PW X (.BoolOp .Or [a] pos) tA := by
  intro wh pins s σ H Q I h
  refine isTrue_or (thn (ha pins s σ H Q I h) fun c s1 e => ?_)
  cases c with
  | false => exact isTrue_or_nil e
  | true => exact e
theorem pw_or (ha : PT X a tA) (hb : PW X (.BoolOp .Or (b :: rest) pos) tB') : PW X (.BoolOp .Or (a :: b :: rest) pos) (tOr tA tB') := by
  intro wh pins s σ H Q I h
  refine isTrue_or (thn (ha pins s σ H _ I h) fun c s1 ⟨H1, I1, q1⟩ => ?_)
  cases c with
  | true => exact ⟨H1, I1, q1⟩
  | false => exact hb wh pins s1 σ H1 Q I1 q1
theorem pt_not (ha : PT X a tA) : PT X (.UnaryOp .Not a pos) (tNot tA) := by
  intro pins s σ H Q I h
  exact isTrue_not (ha pins s σ H (fun c H1 => Q (!c) H1) I h)
/-- .. as values (bools) -/
def tAndV (ta tb : TE) : TE := fun σ H Q => ta σ H fun x H1 => ∃ c, x = .bl c ∧ if c = true then tb σ H1 Q else Q (.bl false) H1
theorem pe_one {op} {t : TE} (h : PE X a t) : PE X (.BoolOp op [a] pos) t := fun pins s σ H Q I hw => BoolOp_one (h pins s σ H Q I hw)
theorem pe_and (ha : PE X a ta) (hb : PE X (.BoolOp .And (b :: rest) pos) tb) : PE X (.BoolOp .And (a :: b :: rest) pos) (tAndV ta tb) := by
  intro pins s σ H Q I h
  refine BoolOp_and (thn (ha pins s σ H _ I h) fun v s1 ⟨x, H1, I1, r1, q1⟩ => ?_)
  obtain ⟨c, rfl, q1⟩ := q1
  cases r1
  refine wpAny_truthy_bool ?_
  cases c with
  | true => exact hb pins s1 σ H1 Q I1 q1
  | false => exact ⟨.bl false, H1, I1, rfl, q1⟩
end
end L2

namespace L2
open PySem PySem.Spec PyProof.Rows

/-! ### a list, a tuple that is read: tracked, frozen, or an object of the module -/
def SqL (K : PySem.W.Frag) (H : Hp) (a : Addr) (xs : List V) : Prop :=
  Rd H a (.lst xs) ∨
    ∃ (o : Obj) (its : Array Value) (n : Nat), K.lookup a = some o ∧ o.cls = .type "list" ∧ o.dict = none ∧ o.data = .seq its n ∧ its.size ≤ sizeLine ∧ Vals xs its.toList
def SqT (K : PySem.W.Frag) (H : Hp) (a : Addr) (xs : List V) : Prop :=
  Rd H a (.tup xs) ∨
    ∃ (o : Obj) (its : Array Value) (n : Nat), K.lookup a = some o ∧ o.cls = .type "tuple" ∧ o.data = .seq its n ∧ its.size ≤ sizeLine ∧ Vals xs its.toList
def absV : Value → Option V
  | .none => some .non
  | .bool b => some (.bl b)
  | .int i _ => some (.int i)
  | .str x _ => some (.str x)
  | .bytes b _ => some (.byt b)
  | .float b _ => some (.flt b)
  | .ref a => some (.ref a)
  | .type n => some (.ty n)
  | _ => none
theorem RelV.abs {x : V} {u : Value} (r : RelV x u) : absV u = some x := by
  cases x with
  | non => cases r; rfl
  | bl _ => cases r; rfl
  | int _ => obtain ⟨t, rfl⟩ := r; rfl
  | str _ => obtain ⟨t, rfl⟩ := r; rfl
  | byt _ => obtain ⟨t, rfl⟩ := r; rfl
  | flt _ => obtain ⟨t, rfl⟩ := r; rfl
  | ref _ => cases r; rfl
  | ty _ => cases r; rfl
theorem RelV.inj {x y : V} {u : Value} (r : RelV x u) (q : RelV y u) : x = y := Option.some.inj (r.abs.symm.trans q.abs)
theorem Vals.inj : ∀ {xs ys : List V} {us : List Value}, Vals xs us → Vals ys us → xs = ys
  | _, _, _, .nil, .nil => rfl
  | _, _, _, .cons r t, .cons r' t' => by rw [r.inj r', Vals.inj t t']
section
variable {X : Cx} {pins : List (Addr × Obj)} {σ : St} {H : Hp} {s : Shared} {a : Addr} {xs ys : List V}
theorem SqL.of {K : PySem.W.Frag} (h : H a = some (.lst xs)) : SqL K H a xs := .inl (.inl h)
theorem SqT.of {K : PySem.W.Frag} (h : H a = some (.tup xs)) : SqT K H a xs := .inl (.inl h)
theorem Inv.list (I : Inv X pins σ H s) (h : SqL X.K H a xs) : ∃ its : List Value, Vals xs its ∧ PlainL s.heap a its.toArray ∧ xs.length ≤ sizeLine := by
  rcases h with h | ⟨o, its, n, hk, hc, hd, hs, hz, r⟩
  · obtain ⟨z, its, n, r, e⟩ := h.ok I.hok
    exact ⟨its, r, ⟨_, n, e, rfl, rfl, rfl⟩, z⟩
  · refine ⟨its.toList, r, ⟨o, n, I.kIn a o hk, hc, hd, by simpa using hs⟩, ?_⟩
    have e := r.length
    simp only [Array.length_toList] at e
    omega
theorem Inv.tuple (I : Inv X pins σ H s) (h : SqT X.K H a xs) : ∃ its : List Value, Vals xs its ∧ IsTup s.heap a its.toArray ∧ xs.length ≤ sizeLine := by
  rcases h with h | ⟨o, its, n, hk, hc, hs, hz, r⟩
  · obtain ⟨z, its, r, p⟩ := h.ok I.hok
    exact ⟨its, r, p, z⟩
  · refine ⟨its.toList, r, ⟨o, I.kIn a o hk, hc, n, by simpa using hs⟩, ?_⟩
    have e := r.length
    simp only [Array.length_toList] at e
    omega
theorem Inv.list_inj (I : Inv X pins σ H s) (h : SqL X.K H a xs) (h' : SqL X.K H a ys) : xs = ys := by
  obtain ⟨its, r, ⟨o, n, e, _, _, d⟩, _⟩ := I.list h
  obtain ⟨its', r', ⟨o', n', e', _, _, d'⟩, _⟩ := I.list h'
  rw [e] at e'; cases e'
  rw [d] at d'
  injection d' with d1 _
  have : its = its' := by simpa using congrArg Array.toList d1
  subst this
  exact r.inj r'
theorem Inv.tuple_inj (I : Inv X pins σ H s) (h : SqT X.K H a xs) (h' : SqT X.K H a ys) : xs = ys := by
  obtain ⟨its, r, ⟨o, e, _, n, d⟩, _⟩ := I.tuple h
  obtain ⟨its', r', ⟨o', e', _, n', d'⟩, _⟩ := I.tuple h'
  rw [e] at e'; cases e'
  rw [d] at d'
  injection d' with d1 _
  have : its = its' := by simpa using congrArg Array.toList d1
  subst this
  exact r.inj r'
end

/-! ### another wish about exceptions -/
abbrev Cx.wish (X : Cx) (E : Value → Shared → Prop) : Cx := { X with xe := E }
/-- no exception leaves -/
abbrev Cx.nox (X : Cx) : Cx := X.wish fun _ _ => False
theorem Cx.Ok.wish {X : Cx} (ok : X.Ok) (E : Value → Shared → Prop) : (X.wish E).Ok :=
  ⟨ok.mod, ok.kind, ok.glob, ok.blt, ok.above, ok.inj, ok.has, ok.cab, ok.hd, ok.frames, ok.stk, ok.exf, ok.bs, ok.bsz, ok.noex, ok.exfs, ok.funs, ok.frf⟩
theorem Cx.Ok.unwish {X : Cx} {E : Value → Shared → Prop} (ok : (X.wish E).Ok) : X.Ok :=
  ⟨ok.mod, ok.kind, ok.glob, ok.blt, ok.above, ok.inj, ok.has, ok.cab, ok.hd, ok.frames, ok.stk, ok.exf, ok.bs, ok.bsz, ok.noex, ok.exfs, ok.funs, ok.frf⟩
section
variable {X : Cx} {pins : List (Addr × Obj)} {σ : St} {H : Hp} {s : Shared} {E : Value → Shared → Prop}
theorem Inv.wish (I : Inv X pins σ H s) (E : Value → Shared → Prop) : Inv (X.wish E) pins σ H s := ⟨I.ok.wish E, I.os, I.bare, I.base, I.loc, I.cell, I.free, I.freeC, I.pin, I.hok, I.len⟩
theorem Inv.unwish (I : Inv (X.wish E) pins σ H s) : Inv X pins σ H s := ⟨I.ok.unwish, I.os, I.bare, I.base, I.loc, I.cell, I.free, I.freeC, I.pin, I.hok, I.len⟩
theorem SP.unwish {D : Ends} {f : Flow} {s' : Shared} (h : SP (X.wish E) pins D f s') : SP X pins D f s' := by
  cases f with
  | next => obtain ⟨σ', H', I, q⟩ := h; exact ⟨σ', H', I.unwish, q⟩
  | brk => obtain ⟨σ', H', I, q⟩ := h; exact ⟨σ', H', I.unwish, q⟩
  | cont => obtain ⟨σ', H', I, q⟩ := h; exact ⟨σ', H', I.unwish, q⟩
  | ret u => obtain ⟨v, σ', H', I, r, q⟩ := h; exact ⟨v, σ', H', I.unwish, r, q⟩
theorem PE.nox {e : Expr} {t : TE} (h : PE X.nox e t) : PE X e t := fun pins s σ H Q I hw =>
  wpAny_mono (h pins s σ H Q (I.wish _) hw) (fun _ _ ⟨v, H', I', r, q⟩ => ⟨v, H', I'.unwish, r, q⟩) fun _ _ z => False.elim z
theorem PT.nox {e : Expr} {t : TT} (h : PT X.nox e t) : PT X e t := fun pins s σ H Q I hw =>
  wpAny_mono (h pins s σ H Q (I.wish _) hw) (fun _ _ ⟨H', I', q⟩ => ⟨H', I'.unwish, q⟩) fun _ _ z => False.elim z
theorem PSs.nox {st : List Stmt} {t : TS} (h : PSs X.nox st t) : PSs X st t := fun pins s σ H D I hw =>
  wpAny_mono (h pins s σ H D (I.wish _) hw) (fun _ _ q => q.unwish) fun _ _ z => False.elim z
end

/-! ### blocks and small statements -/
section
variable {X : Cx} {st : Stmt} {rest : List Stmt} {t u : TS} {e : Expr} {te : TE} {pos : Pos}
def tNext : TS := fun D σ H => D.nx σ H
def tSeq (t u : TS) : TS := fun D σ H => t { D with nx := u D } σ H
theorem pss_nil : PSs X [] tNext := fun _ _ σ H _ I h => wpAny_execs_nil ⟨σ, H, I, h⟩
theorem pss_cons (h1 : PS X st t) (h2 : PSs X rest u) : PSs X (st :: rest) (tSeq t u) := by
  intro pins s σ H D I h
  refine wpAny_execs_cons (thn (h1 pins s σ H { D with nx := u D } I h) fun f s1 q => ?_)
  cases f with
  | next =>
    obtain ⟨σ', H', I', q⟩ := q
    exact h2 pins s1 σ' H' D I' q
  | ret v => exact q
  | brk => exact q
  | cont => exact q
theorem pss_one (h1 : PS X st t) : PSs X [st] t := by
  intro pins s σ H D I h
  refine wpAny_execs_cons (thn (h1 pins s σ H D I h) fun f s1 q => ?_)
  cases f with
  | next => exact wpAny_execs_nil q
  | ret v => exact q
  | brk => exact q
  | cont => exact q
/-- in a def's body nothing is shown -/
theorem Inv.quiet {pins : List (Addr × Obj)} {σ : St} {H : Hp} {s : Shared} (I : Inv X pins σ H s) : interactive X.env = false := by simp [interactive, I.ok.kind]
/-- an expression whose value is dropped -/
def tDrop (te : TE) : TS := fun D σ H => te σ H fun _ H1 => D.nx σ H1
theorem ps_expr (he : PE X e te) (hs : swapsWith e none pos.line X.env = pure false := by rfl) : PS X (.Expr e pos) (tDrop te) := by
  intro pins s σ H D I h
  exact wpAny_Expr_any (thn (he pins s σ H _ I h) fun v s1 ⟨x, H1, I1, r1, q1⟩ => ⟨σ, H1, I1, q1⟩) I.quiet hs
def tRet (te : TE) : TS := fun D σ H => te σ H D.rt
theorem ps_ret (he : PE X e te) : PS X (.Return (some e) pos) (tRet te) := by
  intro pins s σ H D I h
  exact wpAny_Return_some (thn (he pins s σ H _ I h) fun v s1 ⟨x, H1, I1, r1, q1⟩ => ⟨x, σ, H1, I1, r1, q1⟩)
def tIfS (c : TT) (t u : TS) : TS := fun D σ H => c σ H fun b H1 => if b = true then t D σ H1 else u D σ H1
theorem ps_if {c : Expr} {a b : List Stmt} {tc : TT} (hc : PT X c tc) (ha : PSs X a t) (hb : PSs X b u) : PS X (.If c a b pos) (tIfS tc t u) := by
  intro pins s σ H D I h
  refine wpAny_If (thn (hc pins s σ H _ I h) fun d s1 ⟨H1, I1, q1⟩ => ?_)
  cases d with
  | true => exact ha pins s1 σ H1 D I1 q1
  | false => exact hb pins s1 σ H1 D I1 q1
/-- code that the proof never comes to -/
def tNever : TS := fun _ _ _ => False
theorem pss_never {sts : List Stmt} : PSs X sts tNever := fun _ _ _ _ _ _ h => h.elim
end

/-! ### targets -/
abbrev TG := V → St → Hp → (St → Hp → Prop) → Prop
abbrev TGs := List V → St → Hp → (St → Hp → Prop) → Prop
def PG (X : Cx) (target : Expr) (t : TG) : Prop :=
  ∀ (pins : List (Addr × Obj)) (s : Shared) (σ : St) (H : Hp) (v : V) (u : Value) (Q : St → Hp → Prop), Inv X pins σ H s → RelV v u → t v σ H Q →
    wpAny (model X.prog X.w) X.A (assign target X.env u) (fun _ s' => ∃ σ' H', Inv X pins σ' H' s' ∧ Q σ' H') X.xe s
/-- several targets, one after another -/
def PGs (X : Cx) (ts : List Expr) (t : TGs) : Prop :=
  ∀ (pins : List (Addr × Obj)) (s : Shared) (σ : St) (H : Hp) (vs : List V) (us : List Value) (Q : St → Hp → Prop), Inv X pins σ H s → Vals vs us → t vs σ H Q →
    wpAny (model X.prog X.w) X.A (assignInOrder ((assignEach ts X.env).map (·.2)) us) (fun _ s' => ∃ σ' H', Inv X pins σ' H' s' ∧ Q σ' H') X.xe s
/-- o[i] = v, by values -/
abbrev TSet := V → V → V → Hp → (Hp → Prop) → Prop
def PSet (X : Cx) (t : TSet) : Prop :=
  ∀ (pins : List (Addr × Obj)) (s : Shared) (σ : St) (H : Hp) (o i v : V) (ov iv u : Value) (Q : Hp → Prop), Inv X pins σ H s → RelV o ov → RelV i iv → RelV v u → t o i v H Q →
    wpAny (model X.prog X.w) X.A (setItem ov iv u) (fun _ s' => ∃ H', Inv X pins σ H' s' ∧ Q H') X.xe s
section
variable {X : Cx} {pos : Pos}
def gName (i : Nat) : TG := fun v σ H Q => Q (σ.set i (some v)) H
theorem pg_name {i : Nat} {x : Str} (hN : X.N.Nodup) (hi : X.N[i]? = some x) (hx : Loc X.env.scope x) (hf : X.fn x = true ∨ X.env.scope.names.lookup x = some .local := by first | exact .inl rfl | exact .inr rfl | assumption) : PG X (.Name x pos) (gName i) := by
  intro pins s σ H v u Q I r h
  exact wpAny_assign_Name (store_ok I hN hi hx r (fun s' I' => ⟨_, H, I', h⟩) hf)
def gNil : TGs := fun vs σ H Q => vs = [] ∧ Q σ H
def gCons (t : TG) (u : TGs) : TGs := fun vs σ H Q => ∃ v r, vs = v :: r ∧ t v σ H fun σ' H' => u r σ' H' Q
theorem pgs_nil : PGs X [] gNil := by
  intro pins s σ H vs us Q I r h
  obtain ⟨e, h⟩ := h
  subst e
  cases r
  exact assignInOrder_nil ⟨σ, H, I, h⟩
theorem pgs_cons {e : Expr} {es : List Expr} {t : TG} {u : TGs} (h1 : PG X e t) (h2 : PGs X es u)
    (hs : (assignEach (e :: es) X.env).map (·.2) = assign e X.env :: (assignEach es X.env).map (·.2) := by rfl) : PGs X (e :: es) (gCons t u) := by
  intro pins s σ H vs us Q I r h
  obtain ⟨v, vr, e1, h⟩ := h
  subst e1
  cases r with
  | cons r rr =>
    rw [hs]
    refine assignInOrder_cons (thn (h1 pins s σ H _ _ _ I r h) fun _ s1 ⟨σ1, H1, I1, q1⟩ => ?_)
    exact h2 pins s1 σ1 H1 _ _ Q I1 rr q1
/-- (a, b, ..) = a tuple of that length -/
def gTup (K : PySem.W.Frag) (n : Nat) (t : TGs) : TG := fun v σ H Q => ∃ a xs, v = .ref a ∧ SqT K H a xs ∧ xs.length = n ∧ t xs σ H Q
theorem pg_tup {es : List Expr} {k : Nat} {t : TGs} {n : Nat} (hc : X.calm = true) (h : PGs X es t)
    (hn : (assignEach es X.env).length = n := by rfl) (hst : (assignEach es X.env).findIdx? (·.1) = none := by rfl) : PG X (.Tuple es k pos) (gTup X.K n t) := by
  intro pins s σ H v u Q I r hw
  obtain ⟨a, xs, e1, hq, hl, hw⟩ := hw
  subst e1
  cases r
  obtain ⟨its, rv, ht, hz⟩ := I.tuple hq
  refine assign_Tuple_tuple (I.ok.hd hc) ht (by simp [hn, ← hl, rv.length]) hst fun h' hx => ?_
  have I1 : Inv X pins σ H { s with heap := h' } := I.kept (t' := s.toks) fun b o e => hx b o (Nat.ne_of_lt (Heap.lt_size e)) e
  exact h pins _ σ H xs _ Q I1 (by simpa using rv) hw
/-- o[i] = .. -/
def gSub (to ti : TE) (t : TSet) : TG := fun v σ H Q => to σ H fun o H1 => ti σ H1 fun i H2 => t o i v H2 fun H3 => Q σ H3
theorem pg_sub {o i : Expr} {to ti : TE} {t : TSet} (ho : PE X o to) (hi : PE X i ti) (hs : PSet X t)
    (ha : ∀ v, assign (.Subscript o i pos) X.env v = (do
      let ov ← holding [v] (eval o X.env)
      let iv ← holding [v, ov] (eval i X.env)
      standAt pos
      holding [v, ov, iv] (setItem ov iv v)
      release [v, ov, iv] []) := by intro _; rfl) : PG X (.Subscript o i pos) (gSub to ti t) := by
  intro pins s σ H v u Q I r h
  rw [ha]
  refine wpAny_bind (wpAny_holding (thn (ho pins s σ H _ I h) fun ov s1 ⟨x, H1, I1, r1, q1⟩ => ?_))
  refine wpAny_bind (wpAny_holding (thn (hi pins s1 σ H1 _ I1 q1) fun iv s2 ⟨y, H2, I2, r2, q2⟩ => ?_))
  refine wpAny_bind (wpAny_standAt (wpAny_bind (wpAny_holding (thn (hs pins s2 σ H2 x y v ov iv u _ I2 r1 r2 r q2) fun _ s3 ⟨H3, I3, q3⟩ => ?_))))
  exact wpAny_release ⟨σ, H3, I3, q3⟩
/-- target = value -/
def tAsg (te : TE) (g : TG) : TS := fun D σ H => te σ H fun x H1 => g x σ H1 D.nx
theorem ps_asg {tg e : Expr} {te : TE} {g : TG} (he : PE X e te) (hg : PG X tg g) (hs : swapsWithSole [tg] e pos.line X.env = pure false := by rfl) (hw : swappedStores [tg] e X.env = pure none := by rfl)
    (h1 : (assignEach [tg] X.env).map (·.2) = [assign tg X.env] := by rfl) : PS X (.Assign [tg] e pos) (tAsg te g) := by
  intro pins s σ H D I h
  refine wpAny_Assign_stores (thn (he pins s σ H _ I h) fun v s1 ⟨x, H1, I1, r1, q1⟩ => ?_) hs hw
  rw [h1]
  exact thn (hg pins s1 σ H1 x v _ I1 r1 q1) fun _ s2 q => q
/-- name = value -/
theorem ps_set {i : Nat} {x : Str} {e : Expr} {te : TE} {pos' : Pos} (hN : X.N.Nodup) (hi : X.N[i]? = some x) (hx : Loc X.env.scope x) (he : PE X e te) (hs : swapsWith e (some (.Name x pos')) pos.line X.env = pure false := by rfl) (hf : X.fn x = true ∨ X.env.scope.names.lookup x = some .local := by first | exact .inl rfl | exact .inr rfl | assumption) :
    PS X (.Assign [.Name x pos'] e pos) (tAsg te (gName i)) := by
  intro pins s σ H D I h
  refine wpAny_Assign_Name (thn (he pins s σ H _ I h) fun v s1 ⟨y, H1, I1, r1, q1⟩ => ?_) hs
  exact store_ok I1 hN hi hx r1 (fun s2 I2 => ⟨_, H1, I2, q1⟩) hf
/-- a, b = x, y with plain local names: stored from the right; the pair itself is not tracked (the opening rows as in PyProof/Rows/TupAssign.lean:23) -/
def tPar (i j : Nat) (ta : TA) : TS := fun D σ H => ta σ H fun vs H1 => ∃ v w, vs = [v, w] ∧ D.nx ((σ.set i (some v)).set j (some w)) H1
theorem ps_par {i j : Nat} {x y : Str} {a b : Expr} {ta : TA} {px py pt : Pos} {kt k2 pt2} (hc : X.calm = true) (hN : X.N.Nodup) (hi : X.N[i]? = some x) (hj : X.N[j]? = some y) (hij : i ≠ j)
    (hx : X.env.scope.names.lookup x = some .local) (hy : X.env.scope.names.lookup y = some .local) (ha : PA X [a, b] ta)
    (hw : swappedStores [.Tuple [.Name x px, .Name y py] kt pt] (.Tuple [a, b] k2 pt2) X.env = pure (some [x, y]))
    (hs : swapsWithSole [.Tuple [.Name x px, .Name y py] kt pt] (.Tuple [a, b] k2 pt2) pos.line X.env = pure false := by rfl) :
    PS X (.Assign [.Tuple [.Name x px, .Name y py] kt pt] (.Tuple [a, b] k2 pt2) pos) (tPar i j ta) := by
  intro pins s σ H D I h
  rw [exec_Assign_arm]
  refine wpAny_bind (wpAny_standAt ?_)
  rw [hs]
  refine wpAny_bind (wpAny_pure ?_)
  rw [if_neg (by decide)]
  refine wpAny_bind (Tuple_ (thn (ha _ pins s σ H _ I h) fun us s1 ⟨vs, H1, I1, r1, q1⟩ => ?_))
  obtain ⟨v, w, e1, q1⟩ := q1
  subst e1
  obtain ⟨u1, u2, rfl, rv, rw'⟩ : ∃ u1 u2, us = [u1, u2] ∧ RelV v u1 ∧ RelV w u2 := by
    cases r1 with
    | cons p q =>
      cases q with
      | cons p' q' =>
        cases q'
        exact ⟨_, _, rfl, p, p'⟩
  refine wpAny_newObj_type ?_ (by show 2 ≤ sizeLine; decide)
  have I2 : Inv X pins σ H1 { s1 with heap := s1.heap.push { cls := .type "tuple", data := .seq [u1, u2].toArray } } := I1.kept (t' := s1.toks) fun b o e => Heap.get?_push_of_some _ e
  rw [hw]
  refine wpAny_bind (wpAny_pure ?_)
  show wpAny (model X.prog X.w) X.A (do rule "assign.swapped-stores"; let items ← unpackItems (.ref s1.heap.objs.size) 2 none; assignInOrder [fun v => bindName X.env y v, fun v => bindName X.env x v] items.reverse; pure Flow.next) _ _ _
  refine wpAny_bind (wpAny_rule (wpAny_bind (unpackItems_tuple (items := #[u1, u2]) (I.ok.hd hc) (IsTup.new s1.heap _) fun h' hx' => ?_)))
  have I3 := I2.kept (h' := h') (t' := s1.toks) fun b o e => hx' b o (Nat.ne_of_lt (Heap.lt_size e)) e
  show wpAny _ _ (assignInOrder [fun v => bindName X.env y v, fun v => bindName X.env x v] [u2, u1] >>= fun _ => pure Flow.next) _ _ _
  refine wpAny_bind (assignInOrder_cons (wpAny_bindName (store_ok I3 hN hj (.inl hy) rw' (fun s2 I4 => ?_) (.inr hy))))
  refine assignInOrder_cons (wpAny_bindName (store_ok I4 hN hi (.inl hx) rv (fun s3 I5 => assignInOrder_nil (wpAny_pure ?_)) (.inr hx)))
  rw [List.set_comm _ _ (Ne.symm hij)] at I5
  exact ⟨_, H1, I5, q1⟩
end

/-! ### while -/
section
variable {X : Cx} {pos : Pos}
/-- the invariant W with its measure -/
def tWhile (c : TT) (tb : TS) : TS := fun D σ H => ∃ W : Nat → St → Hp → Prop, (∃ m, W m σ H) ∧ ∀ m σ H, W m σ H →
  c σ H fun b H1 => if b = true then ∃ N : St → Hp → Prop, (∀ σ' H', N σ' H' → ∃ m', m' < m ∧ W m' σ' H') ∧ tb { D with nx := N, ct := N, bk := D.nx } σ H1 else D.nx σ H1
theorem ps_while {c : Expr} {body : List Stmt} {tc : TT} {tb : TS} (hp : PassesOwn (model X.prog X.w) X.A X.env X.xe) (hc : PT X c tc) (hb : PSs X body tb) : PS X (.While c body [] pos) (tWhile tc tb) := by
  intro pins s σ H D I h
  obtain ⟨W, ⟨m0, w0⟩, turn⟩ := h
  refine wpAny_While (codeAny_whileLoop (fun n s' => ∃ σ' H', Inv X pins σ' H' s' ∧ W n σ' H') ?_ m0 ⟨σ, H, I, w0⟩)
  rintro n s1 ⟨σ1, H1, I1, w1⟩
  refine wpAny_passesOwn hp (thn (hc pins s1 σ1 H1 _ I1 (turn n σ1 H1 w1)) fun b s2 ⟨H2, I2, q2⟩ => ?_)
  cases b with
  | true =>
    obtain ⟨N, hN, q2⟩ := q2
    rw [if_pos rfl]
    refine wpAny_passesOwn hp (thn (hb pins s2 σ1 H2 _ I2 q2) fun f s3 q3 => ?_)
    cases f with
    | next =>
      obtain ⟨σ3, H3, I3, n3⟩ := q3
      obtain ⟨m', hm, w3⟩ := hN σ3 H3 n3
      exact ⟨m', hm, σ3, H3, I3, w3⟩
    | cont =>
      obtain ⟨σ3, H3, I3, n3⟩ := q3
      obtain ⟨m', hm, w3⟩ := hN σ3 H3 n3
      exact ⟨m', hm, σ3, H3, I3, w3⟩
    | brk => exact q3
    | ret v => exact q3
  | false =>
    rw [if_neg Bool.false_ne_true]
    exact wpAny_execs_nil ⟨σ1, H2, I2, q2⟩
end

/-! ### what a loop or a comprehension walks -/
/-- at turn i: it yields x (the heap may grow), or it stops -/
structure It where
  go : Nat → Hp → Prop
  yld : Nat → Hp → V → Hp → Prop
  stop : Nat → Hp → Prop
/-- the iterator's own objects may turn: they are not the frame's, not pinned, younger than the entry (or a comprehension's own) -/
def FpOk (X : Cx) (pins : List (Addr × Obj)) (H : Hp) (b : Addr) : Prop :=
  H b = none ∧ b ≠ X.env.locals ∧ b ∉ X.fs ∧ (b ∈ X.ex ∨ X.s_0.heap.objs.size ≤ b) ∧ (∀ x c, X.env.cells.lookup x = some c → c ≠ b) ∧ ∀ p ∈ X.pn ++ pins, p.1 ≠ b
theorem Inv.fpOk {X : Cx} {pins : List (Addr × Obj)} {σ : St} {H H' : Hp} {s : Shared} {b : Addr} (I : Inv X pins σ H s) (hb : s.heap.objs.size ≤ b) (hn : H' b = none) : FpOk X pins H' b := by
  refine ⟨hn, Nat.ne_of_gt (Nat.lt_of_lt_of_le I.lt hb), I.nofs hb, .inr (Nat.le_trans I.sz hb), fun x c e z => ?_, fun p hp z => ?_⟩
  · obtain ⟨v, q⟩ := I.cell x c e
    exact absurd (Nat.lt_of_lt_of_le q.lt (by rw [z]; exact hb)) (Nat.lt_irrefl _)
  · exact absurd (Nat.lt_of_lt_of_le (Heap.lt_size (I.pin p hp).1) (by rw [z]; exact hb)) (Nat.lt_irrefl _)
structure Turn (P : Program) (w : World) (K : PySem.W.Frag) (tg : Expr) (J : It) (fp : List Addr) (it : Addr) (tn : Nat → Heap → Prop) : Prop where
  mem : it ∈ fp
  obj : ∀ i h, tn i h → ∀ b ∈ fp, ∃ o, h.get? b = some o ∧ ∀ v, o.data ≠ .cell v
  keep : ∀ i h h', tn i h → (∀ b ∈ fp, ∀ o, h.get? b = some o → h'.get? b = some o) → tn i h'
  item : ∀ (X : Cx), X.prog = P → X.w = w → X.K = K → X.calm = true → ∀ (i : Nat) (pins : List (Addr × Obj)) (s : Shared) (σ : St) (H : Hp) (E : Value → Shared → Prop), Inv X pins σ H s → (∀ b ∈ fp, FpOk X pins H b) → tn i s.heap → J.go i H →
    wpAny (model P w) X.A (pyNext (.ref it)) (fun r s1 => ∃ u, r = some u ∧
      wpAny (model P w) X.A (letOwnedTupleGo tg (.ref it) u) (fun _ s2 => ∃ x H', Inv X pins σ H' s2 ∧ RelV x u ∧ J.yld i H x H' ∧ tn (i + 1) s2.heap ∧ ∀ b ∈ fp, H' b = none) E s1) E s
  done : ∀ (X : Cx), X.prog = P → X.w = w → X.K = K → X.calm = true → ∀ (i : Nat) (pins : List (Addr × Obj)) (s : Shared) (σ : St) (H : Hp) (E : Value → Shared → Prop), Inv X pins σ H s → (∀ b ∈ fp, FpOk X pins H b) → tn i s.heap → J.stop i H →
    wpAny (model P w) X.A (pyNext (.ref it)) (fun r s1 => r = none ∧ Inv X pins σ H s1) E s
  self : ∀ (A : Around) (i : Nat) (s : Shared) (Q : Value → Shared → Prop) (E : Value → Shared → Prop), tn i s.heap → Q (.ref it) s → wpAny (model P w) A (pyIter (.ref it)) Q E s
abbrev TI := St → Hp → (It → Hp → Prop) → Prop
/-- an iterator has come -/
def PIE (X : Cx) (pins : List (Addr × Obj)) (σ : St) (tg : Expr) (R : It → Hp → Prop) (itv : Value) (s2 : Shared) : Prop :=
  ∃ (it : Addr) (fp : List Addr) (tn : Nat → Heap → Prop) (J : It) (H' : Hp), itv = .ref it ∧ Inv X pins σ H' s2 ∧ Turn X.prog X.w X.K tg J fp it tn ∧ tn 0 s2.heap ∧ (∀ b ∈ fp, FpOk X pins H' b) ∧ R J H'
def PI (X : Cx) (tg iter : Expr) (wi : TI) : Prop :=
  ∀ (pins : List (Addr × Obj)) (s : Shared) (σ : St) (H : Hp) (R : It → Hp → Prop), Inv X pins σ H s → wi σ H R →
    wpAny (model X.prog X.w) X.A (eval iter X.env) (fun v s1 => wpAny (model X.prog X.w) X.A (pyIter v) (PIE X pins σ tg R) X.xe s1) X.xe s

/-- the step ahead of the store is nothing for an iterator that keeps no tuple -/
theorem go_of {M : Model} {A : Around} {E : Value → Shared → Prop} {s : Shared} {tg : Expr} {it : Addr} {u : Value} {o : Obj} {n : String} {vs : Array Value} {Q : Unit → Shared → Prop} (ho : s.heap.get? it = some o) (hc : o.cls = .type n) (hd : o.data = .fields vs)
    (hn : ["enumerate", "zip", "dict_itemiterator", "dict_reverseitemiterator", "odict_iterator", "itertools.zip_longest", "itertools.pairwise"].contains n = false) (hQ : Q () s) : wpAny M A (letOwnedTupleGo tg (.ref it) u) Q E s := by
  unfold letOwnedTupleGo
  cases tg <;> first
    | exact wpAny_pure hQ
    | (cases u <;> first
        | exact wpAny_pure hQ
        | (refine wpAny_bind (wpAny_load ho ?_)
           rw [hc, hd]
           show wpAny M A (if (["enumerate", "zip", "dict_itemiterator", "dict_reverseitemiterator", "odict_iterator", "itertools.zip_longest", "itertools.pairwise"].contains n && vs[0]? == some (rawInt _)) = true then _ else _) Q E s
           rw [if_neg (by intro h; rw [hn, Bool.false_and] at h; cases h)]
           exact wpAny_pure hQ))

/-- the list at a, as it stands at each turn (a loop may append to it) -/
def Itl (K : PySem.W.Frag) (a : Addr) : It :=
  ⟨fun i H => ∃ xs x, SqL K H a xs ∧ xs[i]? = some x, fun i H x H' => H' = H ∧ ∀ xs, SqL K H a xs → xs[i]? = some x, fun i H => ∃ xs, SqL K H a xs ∧ xs.length ≤ i⟩
def Itt (K : PySem.W.Frag) (a : Addr) : It :=
  ⟨fun i H => ∃ xs x, SqT K H a xs ∧ xs[i]? = some x, fun i H x H' => H' = H ∧ ∀ xs, SqT K H a xs → xs[i]? = some x, fun i H => ∃ xs, SqT K H a xs ∧ xs.length ≤ i⟩
/-- lo, lo + 1, .. (n of them) -/
def Itr (lo : Int) (n : Nat) : It := ⟨fun i _ => i < n, fun i H x H' => H' = H ∧ x = .int (lo + i), fun i _ => n ≤ i⟩
theorem turn_list {P : Program} {w : World} {K : PySem.W.Frag} {tg : Expr} (a it : Addr) : Turn P w K tg (Itl K a) [it] it (fun i h => h.IsListIter it a i) where
  mem := by simp
  obj := fun i h st b hb => by
    have e : b = it := by simpa using hb
    subst e
    obtain ⟨o, e, c, d⟩ := st
    exact ⟨o, e, fun v z => by rw [d] at z; cases z⟩
  keep := fun i h h' st k => st.at fun o e => k it (by simp) o e
  item := by
    intro X hP hw hK hc i pins s σ H E I hf st hg
    subst hP hw hK
    obtain ⟨xs, x, hq, hx⟩ := hg
    obtain ⟨its, rv, p, hz⟩ := I.list hq
    obtain ⟨u, hu, ru⟩ := rv.get hx
    obtain ⟨f0, f1, f2, f3, f4, f5⟩ := hf it (by simp)
    refine wpAny_pyNext_list_item st p.isList (x := u) (by simpa using hu) fun h' st' sb => ?_
    have I1 : Inv X pins σ H { s with heap := h' } := I.turned (t' := s.toks) (fun b o hb e => (sb.2 b hb).trans e) f0 f1 f3 f4 f5
    obtain ⟨o, e, c, d⟩ := id st'
    exact ⟨u, rfl, go_of (s := { s with heap := h' }) e c d (by decide) ⟨x, H, I1, ru, ⟨rfl, fun ys hy => by rw [I.list_inj hy hq]; exact hx⟩, st', fun b hb => (hf b hb).1⟩⟩
  done := by
    intro X hP hw hK hc i pins s σ H E I hf st hg
    subst hP hw hK
    obtain ⟨xs, hq, hx⟩ := hg
    obtain ⟨its, rv, p, hz⟩ := I.list hq
    obtain ⟨f0, f1, f2, f3, f4, f5⟩ := hf it (by simp)
    have hl := rv.length
    exact wpAny_pyNext_list_end (I.ok.hd hc) st p.isList (by simp; omega) fun h' eb => ⟨rfl, I.turned (t' := s.toks) (fun b o hb e => eb b o hb e) f0 f1 f3 f4 f5⟩
  self := fun _ _ _ _ _ st h => wpAny_pyIter_listiter st h
theorem turn_tuple {P : Program} {w : World} {K : PySem.W.Frag} {tg : Expr} (a it : Addr) : Turn P w K tg (Itt K a) [it] it (fun i h => h.IsTupleIter it a i) where
  mem := by simp
  obj := fun i h st b hb => by
    have e : b = it := by simpa using hb
    subst e
    obtain ⟨o, e, c, d⟩ := st
    exact ⟨o, e, fun v z => by rw [d] at z; cases z⟩
  keep := fun i h h' st k => st.at fun o e => k it (by simp) o e
  item := by
    intro X hP hw hK hc i pins s σ H E I hf st hg
    subst hP hw hK
    obtain ⟨xs, x, hq, hx⟩ := hg
    obtain ⟨its, rv, p, hz⟩ := I.tuple hq
    obtain ⟨u, hu, ru⟩ := rv.get hx
    obtain ⟨f0, f1, f2, f3, f4, f5⟩ := hf it (by simp)
    refine wpAny_pyNext_tuple_item st (show s.heap.IsTuple a its.toArray from p) (x := u) (by simpa using hu) fun h' st' sb => ?_
    have I1 : Inv X pins σ H { s with heap := h' } := I.turned (t' := s.toks) (fun b o hb e => (sb.2 b hb).trans e) f0 f1 f3 f4 f5
    obtain ⟨o, e, c, d⟩ := id st'
    exact ⟨u, rfl, go_of (s := { s with heap := h' }) e c d (by decide) ⟨x, H, I1, ru, ⟨rfl, fun ys hy => by rw [I.tuple_inj hy hq]; exact hx⟩, st', fun b hb => (hf b hb).1⟩⟩
  done := by
    intro X hP hw hK hc i pins s σ H E I hf st hg
    subst hP hw hK
    obtain ⟨xs, hq, hx⟩ := hg
    obtain ⟨its, rv, p, hz⟩ := I.tuple hq
    obtain ⟨f0, f1, f2, f3, f4, f5⟩ := hf it (by simp)
    have hl := rv.length
    exact wpAny_pyNext_tuple_end (I.ok.hd hc) st (show s.heap.IsTuple a its.toArray from p) (by simp; omega) fun h' eb => ⟨rfl, I.turned (t' := s.toks) (fun b o hb e => eb b o hb e) f0 f1 f3 f4 f5⟩
  self := fun _ _ _ _ _ st h => wpAny_pyIter_tupleiter st h
theorem turn_range {P : Program} {w : World} {K : PySem.W.Frag} {tg : Expr} (it : Addr) (lo : Int) (n : Nat) : Turn P w K tg (Itr lo n) [it] it (fun i h => IsRangeIter h it (lo + (i : Nat) * 1) ((n : Int) - (i : Nat)) 1) where
  mem := by simp
  obj := fun i h st b hb => by
    have e : b = it := by simpa using hb
    subst e
    exact ⟨_, st, fun v z => by
      have z' : Data.fields _ = Data.cell v := z
      cases z'⟩
  keep := fun i h h' st k => k it (by simp) _ st
  item := by
    intro X hP hw hK hc i pins s σ H E I hf st hg
    subst hP hw hK
    obtain ⟨f0, f1, f2, f3, f4, f5⟩ := hf it (by simp)
    have W := Walks.range (prog := X.prog) (w := X.w) (I.ok.hd hc) it lo 1 n
    refine W.item i s _ _ hg st fun v h' tk hv st' kk => ?_
    obtain ⟨t, rfl⟩ := hv
    have I1 : Inv X pins σ H { s with heap := h', toks := tk } := I.turned (fun b o hb e => kk b o (by simpa using hb) e) f0 f1 f3 f4 f5
    refine ⟨_, rfl, go_of (s := { s with heap := h', toks := tk }) (n := "range_iterator") st' rfl rfl (by decide) ⟨.int (lo + i), H, I1, ⟨t, ?_⟩, ⟨rfl, rfl⟩, st', fun b hb => (hf b hb).1⟩⟩
    rw [Int.mul_one]
  done := by
    intro X hP hw hK hc i pins s σ H E I hf st hg
    subst hP hw hK
    obtain ⟨f0, f1, f2, f3, f4, f5⟩ := hf it (by simp)
    exact wpAny_pyNext_range_end (I.ok.hd hc) st (by have : n ≤ i := hg; omega) fun h' eb => ⟨rfl, I.turned (t' := s.toks) (fun b o hb e => eb b o hb e) f0 f1 f3 f4 f5⟩
  self := fun _ _ _ _ _ st h => wpAny_pyIter_rangeiter st h
end L2

namespace L2
open PySem PySem.Spec PyProof.Rows
section
variable {X : Cx} {tg : Expr}
def iList (K : PySem.W.Frag) (tl : TE) : TI := fun σ H R => tl σ H fun x H1 => ∃ a, x = .ref a ∧ (∃ xs, SqL K H1 a xs) ∧ R (Itl K a) H1
def iTup (K : PySem.W.Frag) (tl : TE) : TI := fun σ H R => tl σ H fun x H1 => ∃ a, x = .ref a ∧ (∃ xs, SqT K H1 a xs) ∧ R (Itt K a) H1
theorem pi_list {l : Expr} {tl : TE} (hl : PE X l tl) : PI X tg l (iList X.K tl) := by
  intro pins s σ H R I h
  refine thn (hl pins s σ H _ I h) fun v s1 ⟨x, H1, I1, r1, q1⟩ => ?_
  obtain ⟨a, e, ⟨xs, hq⟩, q⟩ := q1
  subst e
  cases r1
  obtain ⟨its, rv, p, hz⟩ := I1.list hq
  refine wpAny_pyIter_list p.isList ?_
  refine ⟨s1.heap.objs.size, [s1.heap.objs.size], _, _, H1, rfl, I1.kept (t' := s1.toks) fun b o e => Heap.get?_push_of_some _ e, turn_list a _, ⟨_, Heap.get?_push_size _ rfl, rfl, rfl⟩, fun b hb => ?_, q⟩
  have e : b = s1.heap.objs.size := by simpa using hb
  subst e
  exact I1.fpOk (Nat.le_refl _) (I1.hok.fresh (Nat.le_refl _))
theorem pi_tup {l : Expr} {tl : TE} (hl : PE X l tl) : PI X tg l (iTup X.K tl) := by
  intro pins s σ H R I h
  refine thn (hl pins s σ H _ I h) fun v s1 ⟨x, H1, I1, r1, q1⟩ => ?_
  obtain ⟨a, e, ⟨xs, hq⟩, q⟩ := q1
  subst e
  cases r1
  obtain ⟨its, rv, p, hz⟩ := I1.tuple hq
  refine wpAny_pyIter_tuple (show s1.heap.IsTuple a its.toArray from p) ?_
  refine ⟨s1.heap.objs.size, [s1.heap.objs.size], _, _, H1, rfl, I1.kept (t' := s1.toks) fun b o e => Heap.get?_push_of_some _ e, turn_tuple a _, ⟨_, Heap.get?_push_size _ rfl, rfl, rfl⟩, fun b hb => ?_, q⟩
  have e : b = s1.heap.objs.size := by simpa using hb
  subst e
  exact I1.fpOk (Nat.le_refl _) (I1.hok.fresh (Nat.le_refl _))
/-- a range object just made, walked -/
theorem range_it {pins : List (Addr × Obj)} {σ : St} {H : Hp} {s : Shared} {R : It → Hp → Prop} {E : Value → Shared → Prop} {lo hi : Int} {t u v : Tok} {tk : Nat} (I : Inv X pins σ H s) (h1 : -(2 ^ 62) ≤ lo) (h2 : lo < 2 ^ 62) (h3 : -(2 ^ 62) ≤ hi) (h4 : hi < 2 ^ 62)
    (q : R (Itr lo (hi - lo).toNat) H) : wpAny (model X.prog X.w) X.A (pyIter (.ref s.heap.objs.size)) (PIE X pins σ tg R) E { s with heap := s.heap.push { cls := .type "range", data := .fields #[.int lo t, .int hi u, .int 1 v] }, toks := tk } := by
  refine wpAny_pyIter_range (IsRange.new ..) (small_one h1 h2 h3 h4) ?_
  have I1 : Inv X pins σ H { s with heap := s.heap.push { cls := .type "range", data := .fields #[.int lo t, .int hi u, .int 1 v] }, toks := tk } := I.kept fun b o e => Heap.get?_push_of_some _ e
  refine ⟨(s.heap.push { cls := .type "range", data := .fields #[.int lo t, .int hi u, .int 1 v] }).objs.size, [(s.heap.push { cls := .type "range", data := .fields #[.int lo t, .int hi u, .int 1 v] }).objs.size], _, _, H, rfl,
    I1.kept (t' := tk) fun b o e => Heap.get?_push_of_some _ e, turn_range _ lo (hi - lo).toNat, ?_, fun b hb => ?_, q⟩
  · have e1 : lo + ((0 : Nat) : Int) * 1 = lo := by simp
    have e2 : (((hi - lo).toNat : Nat) : Int) - ((0 : Nat) : Int) = Builtin.Range.rangeSize lo hi 1 := by rw [rangeSize_one]; split <;> omega
    show IsRangeIter _ _ (lo + ((0 : Nat) : Int) * 1) ((((hi - lo).toNat : Nat) : Int) - ((0 : Nat) : Int)) 1
    rw [e1, e2]
    exact Heap.get?_push_size _ rfl
  · have e : b = (s.heap.push { cls := .type "range", data := .fields #[.int lo t, .int hi u, .int 1 v] }).objs.size := by simpa using hb
    subst e
    exact I1.fpOk (Nat.le_refl _) (I1.hok.fresh (Nat.le_refl _))
def iRng1 (ta : TA) : TI := fun σ H R => ta σ H fun vs H1 => ∃ j : Int, vs = [.int j] ∧ -(2 ^ 62) ≤ j ∧ j < 2 ^ 62 ∧ R (Itr 0 j.toNat) H1
theorem pi_range1 {a : Expr} {ta : TA} {p pos : Pos} (hg : Gl X "range") (hm : X.mg "range" = none) (ha : PA X [a] ta) (hs : starEach [a] X.env = [(false, eval a X.env)] := by rfl) : PI X tg (.Call (.Name "range" p) [a] [] pos) (iRng1 ta) := by
  intro pins s σ H R I h
  refine Call_ (ld_blt I hg hm boot_range (PyProof.Rows.callWith_type1 (thn (ha pos pins s σ H _ I h) fun us s1 ⟨vs, H1, I1, r1, q1⟩ => ?_) hs rfl))
  obtain ⟨j, e, q1, q2, q⟩ := q1
  subst e
  cases r1 with
  | cons r rr =>
    cases rr
    obtain ⟨t, rfl⟩ := r
    exact call_range_1 (range_it I1 (by omega) (by omega) q1 q2 (by simpa using q))
/-! ### for -/
/-- W: the invariant by the turn and a measure; N: what the body is to reach -/
def tFor (wi : TI) (g : TG) (tb : TS) : TS := fun D σ H => wi σ H fun J H1 => ∃ W : Nat → Nat → St → Hp → Prop, (∃ m, W 0 m σ H1) ∧ ∀ i m σ H, W i m σ H →
  (J.stop i H ∧ D.nx σ H) ∨ (J.go i H ∧ ∃ N : St → Hp → Prop, (∀ σ' H', N σ' H' → ∃ m', m' < m ∧ W (i + 1) m' σ' H') ∧ ∀ x H', J.yld i H x H' → g x σ H' fun σ2 H2 => tb { D with nx := N, ct := N, bk := D.nx } σ2 H2)
/-- the records at fp as they stand -/
def pinsAt (fp : List Addr) (h : Heap) : List (Addr × Obj) := fp.filterMap fun b => (h.get? b).map fun o => (b, o)
theorem mem_pinsAt {fp : List Addr} {h : Heap} {b : Addr} {o : Obj} (hb : b ∈ fp) (e : h.get? b = some o) : (b, o) ∈ pinsAt fp h := List.mem_filterMap.mpr ⟨b, hb, by rw [e]; rfl⟩
theorem of_pinsAt {fp : List Addr} {h : Heap} {p : Addr × Obj} (hp : p ∈ pinsAt fp h) : p.1 ∈ fp ∧ h.get? p.1 = some p.2 := by
  obtain ⟨b, hb, e⟩ := List.mem_filterMap.mp hp
  cases q : h.get? b with
  | none => rw [q] at e; cases e
  | some o =>
    rw [q] at e
    have e' : (b, o) = p := Option.some.inj e
    subst e'
    exact ⟨hb, q⟩
theorem Inv.pinned {pins : List (Addr × Obj)} {σ : St} {H : Hp} {s : Shared} {fp : List Addr} (I : Inv X pins σ H s) (hf : ∀ b ∈ fp, FpOk X pins H b) (ho : ∀ b ∈ fp, ∃ o, s.heap.get? b = some o ∧ ∀ v, o.data ≠ .cell v) : Inv X (pins ++ pinsAt fp s.heap) σ H s :=
  I.pins_of fun p hp => (List.mem_append.mp hp).elim (fun z => I.pin p (List.mem_append_right _ z)) fun z => by
    obtain ⟨hb, e⟩ := of_pinsAt z
    obtain ⟨f0, f1, f2, _⟩ := hf p.1 hb
    obtain ⟨o, e', d⟩ := ho p.1 hb
    rw [e] at e'; cases e'
    exact ⟨e, f0, f1, f2, d⟩
theorem Inv.unpinned {pins pl : List (Addr × Obj)} {σ : St} {H : Hp} {s : Shared} (I : Inv X (pins ++ pl) σ H s) : Inv X pins σ H s := I.pins_of fun p hp => I.pin p (List.mem_append_right _ (List.mem_append_left _ hp))
theorem ps_for {iter : Expr} {body : List Stmt} {wi : TI} {g : TG} {tb : TS} {pos : Pos} (hp : PassesOwn (model X.prog X.w) X.A X.env X.xe) (hc : X.calm = true) (hi : PI X tg iter wi) (hg : PG X tg g) (hb : PSs X body tb)
    (hs : ∀ x, foldedSetIterable iter X.env x = pure x := by intro _; rfl) : PS X (.For tg iter body [] pos) (tFor wi g tb) := by
  intro pins s σ H D I h
  refine wpAny_For (thn (hi pins s σ H _ I h) fun v s1 h1 => thn h1 fun itv s2 h2 => ?_) hs
  obtain ⟨it, fp, tn, J, H2, e, I2, T, st2, f2, W, ⟨m0, w0⟩, turn⟩ := h2
  subst e
  -- what stays true of the iterator's objects through the loop
  have stat : ∀ {H' : Hp}, (∀ b ∈ fp, H' b = none) → ∀ b ∈ fp, FpOk X pins H' b := fun hn b hb => ⟨hn b hb, (f2 b hb).2⟩
  refine codeAny_forLoop_any (fun n s' => ∃ i σ' H', Inv X pins σ' H' s' ∧ tn i s'.heap ∧ (∀ b ∈ fp, H' b = none) ∧ W i n σ' H') ?_ m0 ⟨0, σ, H2, I2, st2, fun b hb => (f2 b hb).1, w0⟩
  rintro n s3 ⟨i, σ3, H3, I3, st3, fr3, w3⟩
  rcases turn i n σ3 H3 w3 with ⟨stop, qn⟩ | ⟨go, N, hN, step⟩
  · refine wpAny_passesOwn hp (thn (T.done X rfl rfl rfl hc i pins s3 σ3 H3 X.xe I3 (stat fr3) st3 stop) fun r s4 ⟨hr, I4⟩ => ?_)
    subst hr
    exact wpAny_execs_nil ⟨σ3, H3, I4, qn⟩
  · refine wpAny_passesOwn hp (thn (T.item X rfl rfl rfl hc i pins s3 σ3 H3 X.xe I3 (stat fr3) st3 go) fun r s4 ⟨u, hr, h4⟩ => ?_)
    subst hr
    refine wpAny_passesOwn hp (thn h4 fun _ s5 ⟨x, H5, I5, r5, y5, st5, fr5⟩ => ?_)
    have I5' := I5.pinned (stat fr5) (T.obj _ _ st5)
    refine wpAny_passesOwn hp (thn (hg _ s5 σ3 H5 x u _ I5' r5 (step x H5 y5)) fun _ s6 ⟨σ6, H6, I6, q6⟩ => ?_)
    refine wpAny_passesOwn hp (thn (hb _ s6 σ6 H6 _ I6 q6) fun f s7 q7 => ?_)
    have again : ∀ {σ7 : St} {H7 : Hp}, Inv X (pins ++ pinsAt fp s5.heap) σ7 H7 s7 → N σ7 H7 → ∃ m, m < n ∧ ∃ i σ' H', Inv X pins σ' H' s7 ∧ tn i s7.heap ∧ (∀ b ∈ fp, H' b = none) ∧ W i m σ' H' := fun {σ7 H7} I7 n7 => by
      obtain ⟨m', hm, w7⟩ := hN σ7 H7 n7
      refine ⟨m', hm, i + 1, σ7, H7, I7.unpinned, T.keep _ _ _ st5 fun b hb o e => (I7.pin (b, o) (List.mem_append_right _ (List.mem_append_right _ (mem_pinsAt hb e)))).1, fun b hb => ?_, w7⟩
      obtain ⟨o, e, d⟩ := T.obj _ _ st5 b hb
      exact (I7.pin (b, o) (List.mem_append_right _ (List.mem_append_right _ (mem_pinsAt hb e)))).2.1
    cases f with
    | next => obtain ⟨σ7, H7, I7, n7⟩ := q7; exact again I7 n7
    | cont => obtain ⟨σ7, H7, I7, n7⟩ := q7; exact again I7 n7
    | brk => obtain ⟨σ7, H7, I7, q7⟩ := q7; exact ⟨σ7, H7, I7.unpinned, q7⟩
    | ret v => obtain ⟨x7, σ7, H7, I7, r7, q7⟩ := q7; exact ⟨x7, σ7, H7, I7.unpinned, r7, q7⟩
end

/-! ### the forms one uses -/
end L2

namespace L2
open PySem PySem.Spec PyProof.Rows

abbrev R2 := V → V → Hp → VK → Prop
/-- a two-place operation on values: f is binaryOp op, inplaceOp op or compareOp op -/
def OpR (X : Cx) (f : Value → Value → Sem Value) (r : R2) : Prop :=
  ∀ (pins : List (Addr × Obj)) (s : Shared) (σ : St) (H : Hp) (x y : V) (v u : Value) (Q : VK), Inv X pins σ H s → RelV x v → RelV y u → r x y H Q →
    wpAny (model X.prog X.w) X.A (f v u) (EP X pins σ Q) X.xe s
/-- a one-place operation -/
def UnR (X : Cx) (f : Value → Sem Value) (r : V → Hp → VK → Prop) : Prop :=
  ∀ (pins : List (Addr × Obj)) (s : Shared) (σ : St) (H : Hp) (x : V) (v : Value) (Q : VK), Inv X pins σ H s → RelV x v → r x H Q →
    wpAny (model X.prog X.w) X.A (f v) (EP X pins σ Q) X.xe s
/-- a call of a value that is known (a builtin, a type) with values -/
def CallR (X : Cx) (f : Value) (r : List V → Hp → VK → Prop) : Prop :=
  ∀ (pins : List (Addr × Obj)) (s : Shared) (σ : St) (H : Hp) (xs : List V) (us : List Value) (Q : VK), Inv X pins σ H s → Vals xs us → r xs H Q →
    wpAny (model X.prog X.w) X.A (call f us) (EP X pins σ Q) X.xe s
/-- a value's truth -/
def TruR (X : Cx) (r : V → Hp → (Bool → Hp → Prop) → Prop) : Prop :=
  ∀ (pins : List (Addr × Obj)) (s : Shared) (σ : St) (H : Hp) (x : V) (v : Value) (Q : Bool → Hp → Prop), Inv X pins σ H s → RelV x v → r x H Q →
    wpAny (model X.prog X.w) X.A (truthy v) (TP X pins σ Q) X.xe s

def tOp (r : R2) (ta tb : TE) : TE := fun σ H Q => ta σ H fun x H1 => tb σ H1 fun y H2 => r x y H2 Q
def tUn (r : V → Hp → VK → Prop) (ta : TE) : TE := fun σ H Q => ta σ H fun x H1 => r x H1 Q
/-- ints in, under C, and a value out -/
def rI (C : Int → Int → Prop) (g : Int → Int → V) : R2 := fun x y H Q => ∃ i j, x = .int i ∧ y = .int j ∧ C i j ∧ Q (g i j) H
def rI0 (g : Int → Int → V) : R2 := fun x y H Q => ∃ i j, x = .int i ∧ y = .int j ∧ Q (g i j) H
def rU (g : Int → V) : V → Hp → VK → Prop := fun x H Q => ∃ i, x = .int i ∧ Q (g i) H

section
variable {X : Cx} {a b c : Expr} {ta tb tc : TE} {pos : Pos}

theorem binT (ha : PE X a ta) (hb : PE X b tb) {pins : List (Addr × Obj)} {s : Shared} {σ : St} {H : Hp} {R : V → V → Hp → Prop} (I : Inv X pins σ H s)
    (h : ta σ H fun x H1 => tb σ H1 fun y H2 => R x y H2) {Q : Value → Shared → Prop} {f : Value → Value → Sem Value}
    (hf : ∀ v u s2 x y H2, Inv X pins σ H2 s2 → RelV x v → RelV y u → R x y H2 → wpAny (model X.prog X.w) X.A (f v u) Q X.xe s2) :
    wpAny (model X.prog X.w) X.A (eval a X.env) (fun v s₁ => wpAny (model X.prog X.w) X.A (eval b X.env) (fun u s₂ => wpAny (model X.prog X.w) X.A (f v u) Q X.xe s₂) X.xe s₁) X.xe s := by
  refine thn (ha pins s σ H _ I h) fun v s1 ⟨x, H1, I1, r1, q1⟩ => ?_
  refine thn (hb pins s1 σ H1 _ I1 q1) fun u s2 ⟨y, H2, I2, r2, q2⟩ => ?_
  exact hf v u s2 x y H2 I2 r1 r2 q2

theorem pe_op {op : Operator} {r : R2} (ho : OpR X (binaryOp op) r) (ha : PE X a ta) (hb : PE X b tb) : PE X (.BinOp a op b pos) (tOp r ta tb) := by
  intro pins s σ H Q I h
  exact wpAny_BinOp (binT ha hb I h fun v u s2 x y H2 I2 rx ry q => ho pins s2 σ H2 x y v u Q I2 rx ry q)
theorem pe_un {op : UnaryOp} {r : V → Hp → VK → Prop} (ho : UnR X (unaryOp op) r) (ha : PE X a ta) : PE X (.UnaryOp op a pos) (tUn r ta) := by
  intro pins s σ H Q I h
  exact UnaryOp_ (thn (ha pins s σ H _ I h) fun v s1 ⟨x, H1, I1, r1, q1⟩ => ho pins s1 σ H1 x v Q I1 r1 q1)
/-! ### ints -/
theorem opI {f : Value → Value → Sem Value} {C : Int → Int → Prop} {g : Int → Int → Int}
    (rule : ∀ (i j : Int) (t u : Tok) (s : Shared) (Q : Value → Shared → Prop) (E : Value → Shared → Prop), C i j → Q (.int (g i j) s.toks) { s with toks := s.toks + 1 } → wpAny (model X.prog X.w) X.A (f (.int i t) (.int j u)) Q E s) :
    OpR X f (rI C fun i j => .int (g i j)) := by
  intro pins s σ H x y v u Q I rx ry h
  obtain ⟨i, j, rfl, rfl, hc, q⟩ := h
  obtain ⟨t, rfl⟩ := rx
  obtain ⟨t', rfl⟩ := ry
  exact rule i j t t' s _ _ hc ⟨.int (g i j), H, I.tok _, ⟨_, rfl⟩, q⟩
theorem opI0 {f : Value → Value → Sem Value} {g : Int → Int → Int}
    (rule : ∀ (i j : Int) (t u : Tok) (s : Shared) (Q : Value → Shared → Prop) (E : Value → Shared → Prop), Q (.int (g i j) s.toks) { s with toks := s.toks + 1 } → wpAny (model X.prog X.w) X.A (f (.int i t) (.int j u)) Q E s) :
    OpR X f (rI0 fun i j => .int (g i j)) := by
  intro pins s σ H x y v u Q I rx ry h
  obtain ⟨i, j, rfl, rfl, q⟩ := h
  obtain ⟨t, rfl⟩ := rx
  obtain ⟨t', rfl⟩ := ry
  exact rule i j t t' s _ _ ⟨.int (g i j), H, I.tok _, ⟨_, rfl⟩, q⟩
theorem opB0 {f : Value → Value → Sem Value} {g : Int → Int → Bool}
    (rule : ∀ (i j : Int) (t u : Tok) (s : Shared) (Q : Value → Shared → Prop) (E : Value → Shared → Prop), Q (.bool (g i j)) s → wpAny (model X.prog X.w) X.A (f (.int i t) (.int j u)) Q E s) :
    OpR X f (rI0 fun i j => .bl (g i j)) := by
  intro pins s σ H x y v u Q I rx ry h
  obtain ⟨i, j, rfl, rfl, q⟩ := h
  obtain ⟨t, rfl⟩ := rx
  obtain ⟨t', rfl⟩ := ry
  exact rule i j t t' s _ _ ⟨.bl (g i j), H, I, rfl, q⟩

def CPow (i j : Int) : Prop := 0 ≤ j ∧ j ≤ 1000000 ∧ i.natAbs < 2 ^ 64
def CMul (i j : Int) : Prop := (-(2 ^ 64) < i ∧ i < 2 ^ 64) ∨ (-(2 ^ 64) < j ∧ j < 2 ^ 64)
theorem CMul.ok {i j : Int} (h : CMul i j) : IntMulOk i j := by
  rcases h with ⟨h1, h2⟩ | ⟨h1, h2⟩
  · exact .of_left (intBits_le_64 h1 h2)
  · exact .of_right (intBits_le_64 h1 h2)
theorem op_add : OpR X (binaryOp .Add) (rI0 fun i j => .int (i + j)) := opI0 fun _ _ _ _ _ _ _ q => add_int q
theorem op_sub : OpR X (binaryOp .Sub) (rI0 fun i j => .int (i - j)) := opI0 fun _ _ _ _ _ _ _ q => sub_int q
/-- % by a positive divisor of any size -/
theorem op_mod : OpR X (binaryOp .Mod) (rI (fun _ j => 0 < j) fun i j => .int (i % j)) := opI fun i j _ _ _ _ _ hc q => by
  have h1 : (0 : Int) < j := hc
  exact mod_int' (by omega) (by rw [Int.fmod_eq_emod_of_nonneg i (by omega)]; exact q)
theorem op_pow : OpR X (binaryOp .Pow) (rI CPow fun i j => .int (i ^ j.toNat)) := opI fun _ _ _ _ _ _ _ hc q => pow_int_small hc.1 hc.2.1 hc.2.2 q
theorem unI {f : Value → Sem Value} {g : Int → Int}
    (rule : ∀ (i : Int) (t : Tok) (s : Shared) (Q : Value → Shared → Prop) (E : Value → Shared → Prop), Q (.int (g i) s.toks) { s with toks := s.toks + 1 } → wpAny (model X.prog X.w) X.A (f (.int i t)) Q E s) :
    UnR X f (rU fun i => .int (g i)) := by
  intro pins s σ H x v Q I rx h
  obtain ⟨i, rfl, q⟩ := h
  obtain ⟨t, rfl⟩ := rx
  exact rule i t s _ _ ⟨.int (g i), H, I.tok _, ⟨_, rfl⟩, q⟩
theorem un_neg : UnR X (unaryOp .USub) (rU fun i => .int (-i)) := unI fun _ _ _ _ _ q => neg_int q
/-! ### bools among ints: n += (a < b) -/
end

/-! ### comparisons -/
/-- the scalars that == tells apart as data does -/
def scal : V → V → Bool
  | .non, .non => true | .non, .int _ => true | .int _, .non => true | .non, .bl _ => true | .bl _, .non => true | .non, .str _ => true | .str _, .non => true
  | .int _, .int _ => true | .bl _, .bl _ => true | .str _, .str _ => true | .byt _, .byt _ => true
  | .int _, .str _ => true | .str _, .int _ => true | .bl _, .str _ => true | .str _, .bl _ => true
  | _, _ => false
def rEq : R2 := fun x y H Q => scal x y = true ∧ Q (.bl (decide (x = y))) H
def rNe : R2 := fun x y H Q => scal x y = true ∧ Q (.bl (!decide (x = y))) H

theorem dec_int {i j : Int} : decide (V.int i = V.int j) = (i == j) := by
  rw [Bool.eq_iff_iff]
  simp
theorem dec_bl {i j : Bool} : decide (V.bl i = V.bl j) = (i == j) := by
  rw [Bool.eq_iff_iff]
  simp
theorem dec_str {i j : Str} : decide (V.str i = V.str j) = (i == j) := by
  rw [Bool.eq_iff_iff]
  simp
theorem dec_byt {i j : Array UInt8} : decide (V.byt i = V.byt j) = (i.toList == j.toList) := by
  rw [Bool.eq_iff_iff]
  cases i
  cases j
  simp

section
variable {X : Cx} {a b c : Expr} {ta tb tc : TE} {pos : Pos}
theorem fin_bl {pins : List (Addr × Obj)} {σ : St} {H : Hp} {s : Shared} {Q : VK} {k k' : Bool} (I : Inv X pins σ H s) (q : Q (.bl k) H) (e : k = k') : EP X pins σ Q (.bool k') s := by
  subst e
  exact ⟨.bl k, H, I, rfl, q⟩
theorem op_eq : OpR X (compareOp .Eq) rEq := by
  intro pins s σ H x y v u Q I rx ry h
  obtain ⟨hs, q⟩ := h
  cases x with
  | non =>
    cases rx
    cases y with
    | non => cases ry; exact PySem.EqNone.eq_none_none (fin_bl I q (by simp))
    | bl j => cases ry; exact PySem.EqNone.eq_none_bool (fin_bl I q (by simp))
    | int j => obtain ⟨t', rfl⟩ := ry; exact PySem.EqNone.eq_none_int (fin_bl I q (by simp))
    | str j => obtain ⟨t', rfl⟩ := ry; exact PySem.EqNone.eq_none_str (fin_bl I q (by simp))
    | _ => exact absurd (show false = true from hs) Bool.false_ne_true
  | bl i =>
    cases rx
    cases y with
    | non => cases ry; exact PySem.EqNone.eq_bool_none (fin_bl I q (by simp))
    | bl j => cases ry; exact eq_bool (fin_bl I q dec_bl)
    | str j => obtain ⟨t', rfl⟩ := ry; exact PySem.EqMixed.eq_bool_str (fin_bl I q (by simp))
    | _ => exact absurd (show false = true from hs) Bool.false_ne_true
  | int i =>
    obtain ⟨t, rfl⟩ := rx
    cases y with
    | non => cases ry; exact PySem.EqNone.eq_int_none (fin_bl I q (by simp))
    | int j => obtain ⟨t', rfl⟩ := ry; exact eq_int (fin_bl I q dec_int)
    | str j => obtain ⟨t', rfl⟩ := ry; exact PySem.EqMixed.eq_int_str (fin_bl I q (by simp))
    | _ => exact absurd (show false = true from hs) Bool.false_ne_true
  | str i =>
    obtain ⟨t, rfl⟩ := rx
    cases y with
    | non => cases ry; exact PySem.EqNone.eq_str_none (fin_bl I q (by simp))
    | bl j => cases ry; exact PySem.EqMixed.eq_str_bool (fin_bl I q (by simp))
    | int j => obtain ⟨t', rfl⟩ := ry; exact PySem.EqMixed.eq_str_int (fin_bl I q (by simp))
    | str j => obtain ⟨t', rfl⟩ := ry; exact eq_str (fin_bl I q dec_str)
    | _ => exact absurd (show false = true from hs) Bool.false_ne_true
  | byt i =>
    obtain ⟨t, rfl⟩ := rx
    cases y with
    | byt j => obtain ⟨t', rfl⟩ := ry; exact PySem.W.eq_bytes (fin_bl I q dec_byt)
    | _ => exact absurd (show false = true from hs) Bool.false_ne_true
  | _ => cases y <;> exact absurd (show false = true from hs) Bool.false_ne_true
theorem op_ne : OpR X (compareOp .NotEq) rNe := by
  intro pins s σ H x y v u Q I rx ry h
  obtain ⟨hs, q⟩ := h
  cases x with
  | non =>
    cases rx
    cases y with
    | non => cases ry; exact PySem.EqNone.ne_none_none (fin_bl I q (by simp))
    | bl j => cases ry; exact PySem.EqNone.ne_none_bool (fin_bl I q (by simp))
    | int j => obtain ⟨t', rfl⟩ := ry; exact PySem.EqNone.ne_none_int (fin_bl I q (by simp))
    | str j => obtain ⟨t', rfl⟩ := ry; exact PySem.EqNone.ne_none_str (fin_bl I q (by simp))
    | _ => exact absurd (show false = true from hs) Bool.false_ne_true
  | bl i =>
    cases rx
    cases y with
    | non => cases ry; exact PySem.EqNone.ne_bool_none (fin_bl I q (by simp))
    | bl j => cases ry; exact ne_bool (fin_bl I q (congrArg not dec_bl))
    | str j => obtain ⟨t', rfl⟩ := ry; exact PySem.EqMixed.ne_bool_str (fin_bl I q (by simp))
    | _ => exact absurd (show false = true from hs) Bool.false_ne_true
  | int i =>
    obtain ⟨t, rfl⟩ := rx
    cases y with
    | non => cases ry; exact PySem.EqNone.ne_int_none (fin_bl I q (by simp))
    | int j => obtain ⟨t', rfl⟩ := ry; exact ne_int (fin_bl I q (congrArg not dec_int))
    | str j => obtain ⟨t', rfl⟩ := ry; exact PySem.EqMixed.ne_int_str (fin_bl I q (by simp))
    | _ => exact absurd (show false = true from hs) Bool.false_ne_true
  | str i =>
    obtain ⟨t, rfl⟩ := rx
    cases y with
    | non => cases ry; exact PySem.EqNone.ne_str_none (fin_bl I q (by simp))
    | bl j => cases ry; exact PySem.EqMixed.ne_str_bool (fin_bl I q (by simp))
    | int j => obtain ⟨t', rfl⟩ := ry; exact PySem.EqMixed.ne_str_int (fin_bl I q (by simp))
    | str j => obtain ⟨t', rfl⟩ := ry; exact ne_str (fin_bl I q (congrArg not dec_str))
    | _ => exact absurd (show false = true from hs) Bool.false_ne_true
  | byt i =>
    obtain ⟨t, rfl⟩ := rx
    cases y with
    | byt j => obtain ⟨t', rfl⟩ := ry; exact PySem.W.ne_bytes (fin_bl I q (congrArg not dec_byt))
    | _ => exact absurd (show false = true from hs) Bool.false_ne_true
  | _ => cases y <;> exact absurd (show false = true from hs) Bool.false_ne_true

theorem op_lt : OpR X (compareOp .Lt) (rI0 fun i j => .bl (decide (i < j))) := opB0 fun _ _ _ _ _ _ _ q => lt_int q
theorem op_le : OpR X (compareOp .LtE) (rI0 fun i j => .bl (decide (i ≤ j))) := opB0 fun _ _ _ _ _ _ _ q => le_int q
theorem op_ge : OpR X (compareOp .GtE) (rI0 fun i j => .bl (decide (j ≤ i))) := opB0 fun _ _ _ _ _ _ _ q => ge_int q
theorem op_lt_str : OpR X (compareOp .Lt) (fun x y H Q => ∃ i j, x = .str i ∧ y = .str j ∧ Q (.bl (decide (i.cps.toList < j.cps.toList))) H) := by
  intro pins s σ H x y v u Q I rx ry h
  obtain ⟨i, j, rfl, rfl, q⟩ := h
  obtain ⟨t, rfl⟩ := rx
  obtain ⟨t', rfl⟩ := ry
  exact lt_str (fin_bl I q rfl)
/-- the one string within the other -/
theorem op_in_str : OpR X (compareOp .In) (fun x y H Q => ∃ i j, x = .str i ∧ y = .str j ∧ Q (.bl (!(Builtin.Str.occurrences j i 0 j.length 1).isEmpty)) H) := by
  intro pins s σ H x y v u Q I rx ry h
  obtain ⟨i, j, rfl, rfl, q⟩ := h
  obtain ⟨t, rfl⟩ := rx
  obtain ⟨t', rfl⟩ := ry
  exact in_str (fin_bl I q rfl)

/-- is, is not of two objects that are tracked lists or instances -/
def isObj : HO → Bool
  | .lst _ => true
  | .ins _ _ _ => true
  | _ => false
theorem obj_there {pins : List (Addr × Obj)} {s : Shared} {σ : St} {H : Hp} {a : Addr} {o : HO} (I : Inv X pins σ H s) (h : H a = some o) (p : isObj o = true) : ∃ ob, s.heap.get? a = some ob ∧ ob.cls ≠ .type "tuple" := by
  cases o with
  | lst xs =>
    obtain ⟨_, its, n, _, e⟩ : xs.length ≤ sizeLine ∧ ∃ (its : List Value) (n : Nat), Vals xs its ∧ s.heap.get? a = some { cls := .type "list", data := .seq its.toArray n } := I.hok a _ h
    exact ⟨_, e, (by show Value.type "list" ≠ .type "tuple"; decide +kernel)⟩
  | ins C dx fs =>
    have x := I.hok a _ h
    obtain ⟨_, _, _, e, _⟩ := x
    exact ⟨_, e, (by show Value.ref C ≠ .type "tuple"; exact fun z => by cases z)⟩
  | _ => exact absurd (show false = true from p) Bool.false_ne_true
theorem nomark (b : Expr) {op : CmpOp} (h : op ≠ .In := by decide) (h2 : op ≠ .NotIn := by decide) : behindInMarks op b = false := by
  have e1 : (op == CmpOp.In) = false := by cases op <;> first | rfl | exact absurd rfl h
  have e2 : (op == CmpOp.NotIn) = false := by cases op <;> first | rfl | exact absurd rfl h2
  cases b <;> simp [behindInMarks, e1, e2]
/-- a comparison as a value; hm: nomark b, or (for in, not in) by with_unfolding_all rfl -/
theorem pe_cmpR {op : CmpOp} {r : R2} (ho : OpR X (compareOp op) r) (ha : PE X a ta) (hb : PE X b tb) (hm : behindInMarks op b = false) : PE X (.Compare a [op] [b] pos) (tOp r ta tb) := by
  intro pins s σ H Q I h
  exact wpAny_Compare1 (binT ha hb I h fun v u s2 x y H2 I2 rx ry q => ho pins s2 σ H2 x y v u Q I2 rx ry q) hm
/-- a reading of a value as a test -/
def tTest (t : TE) : TT := fun σ H Q => t σ H fun x H' => ∃ k, x = .bl k ∧ Q k H'
theorem pt_cmpR {op : CmpOp} {r : R2} (ho : OpR X (compareOp op) r) (ha : PE X a ta) (hb : PE X b tb) (hm : behindInMarks op b = false) : PT X (.Compare a [op] [b] pos) (tTest (tOp r ta tb)) := by
  intro pins s σ H Q I h
  refine wpAny_isTrue_Compare1 (thn (ha pins s σ H _ I h) fun v s1 ⟨x, H1, I1, r1, q1⟩ => thn (hb pins s1 σ H1 _ I1 q1) fun u s2 ⟨y, H2, I2, r2, q2⟩ =>
    thn (ho pins s2 σ H2 x y v u _ I2 r1 r2 q2) fun c s3 ⟨z, H3, I3, r3, k, e, q3⟩ => ?_) hm
  subst e
  cases r3
  exact wpAny_truthy_bool ⟨H3, I3, q3⟩
/-- a op1 b op2 c -/
def tChain (r r' : R2) (ta tb tc : TE) : TE := fun σ H Q => ta σ H fun x H1 => tb σ H1 fun y H2 => r x y H2 fun z H3 => ∃ k, z = .bl k ∧
  (if k = true then tc σ H3 fun w' H4 => r' y w' H4 Q else Q (.bl false) H3)
theorem pe_chain {op op' : CmpOp} {r r' : R2} (ho : OpR X (compareOp op) r) (ho' : OpR X (compareOp op') r') (ha : PE X a ta) (hb : PE X b tb) (hc : PE X c tc)
    (hm : lastMarks [op, op'] [b, c] = false := by with_unfolding_all rfl) : PE X (.Compare a [op, op'] [b, c] pos) (tChain r r' ta tb tc) := by
  intro pins s σ H Q I h
  refine Compare_chain (thn (ha pins s σ H _ I h) fun v s1 ⟨x, H1, I1, r1, q1⟩ => chain_link (thn (hb pins s1 σ H1 _ I1 q1) fun u s2 ⟨y, H2, I2, r2, q2⟩ =>
    thn (ho pins s2 σ H2 x y v u _ I2 r1 r2 q2) fun d s3 ⟨z, H3, I3, r3, k, e, q3⟩ => ?_)) hm
  subst e
  cases r3
  refine wpAny_truthy_bool ?_
  cases k with
  | false => exact ite_ff ⟨.bl false, H3, I3, rfl, q3⟩
  | true => exact ite_tt (chain_last (thn (hc pins s3 σ H3 _ I3 q3) fun w' s4 ⟨z', H4, I4, r4, q4⟩ => ho' pins s4 σ H4 y z' u w' Q I4 r2 r4 q4))
theorem pt_chain {op op' : CmpOp} {r r' : R2} (ho : OpR X (compareOp op) r) (ho' : OpR X (compareOp op') r') (ha : PE X a ta) (hb : PE X b tb) (hc : PE X c tc)
    (hm : lastMarks [op, op'] [b, c] = false := by with_unfolding_all rfl) : PT X (.Compare a [op, op'] [b, c] pos) (tTest (tChain r r' ta tb tc)) := by
  intro pins s σ H Q I h
  refine isTrue_chain (thn (ha pins s σ H _ I h) fun v s1 ⟨x, H1, I1, r1, q1⟩ => test_link (thn (hb pins s1 σ H1 _ I1 q1) fun u s2 ⟨y, H2, I2, r2, q2⟩ =>
    thn (ho pins s2 σ H2 x y v u _ I2 r1 r2 q2) fun d s3 ⟨z, H3, I3, r3, k, e, q3⟩ => ?_)) hm
  subst e
  cases r3
  refine wpAny_truthy_bool ?_
  cases k with
  | false =>
    obtain ⟨k', e', q'⟩ := q3
    cases e'
    exact ite_ff ⟨H3, I3, q'⟩
  | true =>
    refine ite_tt (test_last (thn (hc pins s3 σ H3 _ I3 q3) fun w' s4 ⟨z', H4, I4, r4, q4⟩ => thn (ho' pins s4 σ H4 y z' u w' _ I4 r2 r4 q4) fun d' s5 ⟨z2, H5, I5, r5, k2, e2, q5⟩ => ?_))
    subst e2
    cases r5
    exact wpAny_truthy_bool ⟨H5, I5, q5⟩

/-! ### truth -/
/-- a value's truth by the abstract heap -/
def TruV (K : PySem.W.Frag) (x : V) (H : Hp) (k : Bool) : Prop :=
  match x with
  | .non => k = false
  | .bl b => k = b
  | .int i => k = (i != 0)
  | .str y => y.length ≤ sizeLine ∧ k = ((y.length : Int) != 0)
  | .byt y => y.size ≤ sizeLine ∧ k = ((y.size : Int) != 0)
  | .ref p => (∃ xs, SqL K H p xs ∧ k = !xs.isEmpty) ∨ (∃ xs, SqT K H p xs ∧ k = !xs.isEmpty) ∨ ∃ kvs, H p = some (.dK kvs) ∧ k = !kvs.isEmpty
  | _ => False
theorem isEmpty_kv {κ : Type} {kvs : List (κ × V)} {vs : List (κ × Value)} (r : KV kvs vs) : (!vs.isEmpty) = !kvs.isEmpty := by
  cases r <;> rfl
theorem isEmpty_of {xs : List V} {its : List Value} (r : Vals xs its) : (!its.toArray.isEmpty) = !xs.isEmpty := by
  cases r <;> simp
theorem line63 : (sizeLine : Nat) < 2 ^ 63 := by rw [sizeLine_eq]; decide
theorem tru_ok : TruR X (fun x H Q => ∃ k, TruV X.K x H k ∧ Q k H) := by
  intro pins s σ H x v Q I rx h
  obtain ⟨k, e, q⟩ := h
  have hl := line63
  have hs : sizeLine = 16777216 := sizeLine_eq
  cases x with
  | non =>
    cases rx
    have e' : k = false := e
    subst e'
    exact truthy_none ⟨H, I, q⟩
  | bl b =>
    cases rx
    have e' : k = b := e
    subst e'
    exact wpAny_truthy_bool ⟨H, I, q⟩
  | int i =>
    obtain ⟨t, rfl⟩ := rx
    have e' : k = (i != 0) := e
    subst e'
    exact PySem.P.truthy_int ⟨H, I, q⟩
  | str y =>
    obtain ⟨t, rfl⟩ := rx
    obtain ⟨hy, e'⟩ : y.length ≤ sizeLine ∧ k = ((y.length : Int) != 0) := e
    subst e'
    exact PySem.P.truthy_str (by omega) ⟨H, I.tok _, q⟩
  | byt y =>
    obtain ⟨t, rfl⟩ := rx
    obtain ⟨hy, e'⟩ : y.size ≤ sizeLine ∧ k = ((y.size : Int) != 0) := e
    subst e'
    exact PySem.W.truthy_bytes (by omega) ⟨H, I.tok _, q⟩
  | ref p =>
    cases rx
    have e' : (∃ xs, SqL X.K H p xs ∧ k = !xs.isEmpty) ∨ (∃ xs, SqT X.K H p xs ∧ k = !xs.isEmpty) ∨ ∃ kvs, H p = some (.dK kvs) ∧ k = !kvs.isEmpty := e
    rcases e' with ⟨xs, hx, e'⟩ | ⟨xs, hx, e'⟩ | ⟨kvs, hx, e'⟩
    · subst e'
      obtain ⟨its, r, pl, hz⟩ := I.list hx
      have hlen := r.length
      exact wpAny_truthy_list pl.isList (by simp only [List.size_toArray]; omega) ⟨H, I.tok _, by rw [isEmpty_of r]; exact q⟩
    · subst e'
      obtain ⟨its, r, pl, hz⟩ := I.tuple hx
      have hlen := r.length
      exact truthy_tuple pl (by simp only [List.size_toArray]; omega) ⟨H, I.tok _, by rw [isEmpty_of r]; exact q⟩
    · subst e'
      obtain ⟨hz, hS, vs, r, m⟩ : kvs.length ≤ sizeLine ∧ (p == sysModules) = false ∧ ∃ vs, KV kvs vs ∧ s.heap.DictOf (mixKind X.prog X.w) p vs := I.hok p _ hx
      have hlen : kvs.length = vs.length := Paired.length r
      exact wpAny_truthy_dict hS m (by omega) ⟨H, I.tok _, by rw [isEmpty_kv r]; exact q⟩
  | _ => exact (show False from e).elim
/-- any expression whose test is its value's truth (a name, a call, a subscript, a field ..: he by fun _ => rfl) -/
theorem pt_truth (ha : PE X a ta) (he : ∀ whole, isTrue a X.env whole = (do let v ← whole; standAt a.pos; holding [v] (truthy v))) :
    PT X a (fun σ H Q => ta σ H fun x H' => ∃ k, TruV X.K x H' k ∧ Q k H') := by
  intro pins s σ H Q I h
  exact isTrue_plain (thn (ha pins s σ H _ I h) fun v s1 ⟨x, H1, I1, r1, q1⟩ => tru_ok pins s1 σ H1 x v Q I1 r1 q1) (he _)

/-! ### strs and bytes -/
theorem op_add_str : OpR X (binaryOp .Add) (fun x y H Q => ∃ i j, x = .str i ∧ y = .str j ∧ i.length + j.length ≤ sizeLine ∧ Q (.str (i ++ j)) H) := by
  intro pins s σ H x y v u Q I rx ry h
  obtain ⟨i, j, rfl, rfl, hz, q⟩ := h
  obtain ⟨t, rfl⟩ := rx
  obtain ⟨t', rfl⟩ := ry
  exact add_str (fun t' tk => ⟨.str (i ++ j), H, I.tok _, ⟨_, rfl⟩, q⟩) hz
/-! ### scalar builtins, by CallR -/
theorem vals1 {x : V} {us : List Value} (r : Vals [x] us) : ∃ u, us = [u] ∧ RelV x u := by
  cases r with
  | cons r1 r2 => cases r2; exact ⟨_, rfl, r1⟩
theorem vals2 {x y : V} {us : List Value} (r : Vals [x, y] us) : ∃ u w', us = [u, w'] ∧ RelV x u ∧ RelV y w' := by
  cases r with
  | cons r1 r2 =>
    cases r2 with
    | cons r3 r4 => cases r4; exact ⟨_, _, rfl, r1, r3⟩
theorem call_abs : CallR X (.builtin "abs") (fun xs H Q => ∃ i, xs = [.int i] ∧ Q (.int (if i < 0 then -i else i)) H) := by
  intro pins s σ H xs us Q I r h
  obtain ⟨i, rfl, q⟩ := h
  obtain ⟨u, rfl, t, rfl⟩ := vals1 r
  exact call_abs_int fun u tk => ⟨.int (if i < 0 then -i else i), H, I.tok _, ⟨_, rfl⟩, q⟩
theorem call_max2 (hc : X.calm = true) : CallR X (.builtin "max") (fun xs H Q => ∃ i j, xs = [.int i, .int j] ∧ Q (.int (if j > i then j else i)) H) := by
  intro pins s σ H xs us Q I r h
  obtain ⟨i, j, rfl, q⟩ := h
  obtain ⟨u, w', rfl, ⟨t, rfl⟩, ⟨t', rfl⟩⟩ := vals2 r
  refine max_two_ints (I.ok.hd hc) fun h' tk k => ⟨_, H, I.kept k, ?_, q⟩
  by_cases hj : j > i
  · rw [if_pos hj, if_pos hj]; exact ⟨_, rfl⟩
  · rw [if_neg hj, if_neg hj]; exact ⟨_, rfl⟩
theorem call_min2 (hc : X.calm = true) : CallR X (.builtin "min") (fun xs H Q => ∃ i j, xs = [.int i, .int j] ∧ Q (.int (if j < i then j else i)) H) := by
  intro pins s σ H xs us Q I r h
  obtain ⟨i, j, rfl, q⟩ := h
  obtain ⟨u, w', rfl, ⟨t, rfl⟩, ⟨t', rfl⟩⟩ := vals2 r
  refine min_two_ints (I.ok.hd hc) fun h' tk k => ⟨_, H, I.kept k, ?_, q⟩
  by_cases hj : j < i
  · rw [if_pos hj, if_pos hj]; exact ⟨_, rfl⟩
  · rw [if_neg hj, if_neg hj]; exact ⟨_, rfl⟩
/-- len of a str, a bytes, a list, a tuple -/
def LenV (K : PySem.W.Frag) (x : V) (H : Hp) (n : Nat) : Prop :=
  match x with
  | .str y => y.length ≤ sizeLine ∧ n = y.length
  | .byt y => y.size ≤ sizeLine ∧ n = y.size
  | .ref p => (∃ xs, SqL K H p xs ∧ n = xs.length) ∨ ∃ xs, SqT K H p xs ∧ n = xs.length
  | _ => False
theorem call_len : CallR X (.builtin "len") (fun xs H Q => ∃ x n, xs = [x] ∧ LenV X.K x H n ∧ Q (.int n) H) := by
  intro pins s σ H xs us Q I r h
  obtain ⟨x, n, rfl, e, q⟩ := h
  obtain ⟨u, rfl, rx⟩ := vals1 r
  have hl := line63
  have hs : sizeLine = 16777216 := sizeLine_eq
  cases x with
  | str y =>
    obtain ⟨t, rfl⟩ := rx
    obtain ⟨hy, e'⟩ : y.length ≤ sizeLine ∧ n = y.length := e
    subst e'
    exact len_str (by omega) ⟨.int _, H, I.tok _, ⟨_, rfl⟩, q⟩
  | byt y =>
    obtain ⟨t, rfl⟩ := rx
    obtain ⟨hy, e'⟩ : y.size ≤ sizeLine ∧ n = y.size := e
    subst e'
    exact PySem.W.len_bytes (by omega) ⟨.int _, H, I.tok _, ⟨_, rfl⟩, q⟩
  | ref p =>
    cases rx
    have e' : (∃ xs, SqL X.K H p xs ∧ n = xs.length) ∨ ∃ xs, SqT X.K H p xs ∧ n = xs.length := e
    rcases e' with ⟨xs, hx, e'⟩ | ⟨xs, hx, e'⟩
    · subst e'
      obtain ⟨its, r', pl, hz⟩ := I.list hx
      have hlen := r'.length
      exact Calls.call_len_list pl.isList (by simp only [List.size_toArray]; omega) ⟨.int xs.length, H, I.tok _, ⟨_, by simp only [List.size_toArray]; rw [hlen]⟩, q⟩
    · subst e'
      obtain ⟨its, r', pl, hz⟩ := I.tuple hx
      have hlen := r'.length
      exact len_tuple pl (by simp only [List.size_toArray]; omega) ⟨.int xs.length, H, I.tok _, ⟨_, by simp only [List.size_toArray]; rw [hlen]⟩, q⟩
  | _ => exact (show False from e).elim
end
end L2

namespace L2
open PySem PySem.Spec PyProof.Rows

/-! ### an instance, its attributes a map -/
structure ObjM (h : Heap) (x dx C : Addr) (mA : Str → Option Value) : Prop where
  obj : h.get? x = some (PySem.W.instObj C dx)
  ns : h.Ns1 dx mA
  ne : dx ≠ x

theorem lookIn_ns {h : Heap} {dx : Addr} {mA : Str → Option Value} (n : h.Ns1 dx mA) : ∃ od, h.get? dx = some od ∧ ∀ name, PySem.W.lookIn name od = some (mA name) := by
  obtain ⟨o, es, ep, ho, hd, hk, _, hm⟩ := n
  refine ⟨o, ho, fun name => ?_⟩
  have e := hm name
  unfold nsFind findBy at e
  rw [← Array.find?_toList] at e
  unfold PySem.W.lookIn
  rw [hd]
  dsimp only
  split
  · rename_i y q
    rw [q] at e
    exact congrArg some e
  · rename_i q
    rw [q] at e
    have a : es.toList.any (·.refKey) = false := by
      rw [List.any_eq_false]
      intro y hy
      obtain ⟨z, t, hkey⟩ := hk y (Array.mem_toList_iff.mp hy)
      simp [DictEntry.refKey, hkey]
    have a' : ¬ es.toList.any (·.refKey) = true := by rw [a]; exact Bool.false_ne_true
    rw [if_neg a']
    exact congrArg some e

theorem ObjM.look {h : Heap} {x dx C : Addr} {mA : Str → Option Value} (I : ObjM h x dx C mA) : ∃ od, PySem.W.InstAt h x (PySem.W.instObj C dx) C (some od) ∧ ∀ name, PySem.W.lookIn name od = some (mA name) :=
  let ⟨od, ho, hl⟩ := lookIn_ns I.ns
  ⟨od, ⟨I.obj, rfl, rfl, ho⟩, hl⟩

section
variable {prog : Program} {w : World} {A : Around} {E : Value → Shared → Prop} {s : Shared} {K : PySem.W.Frag} {x dx C f : Addr} {mA : Str → Option Value} {name : Str} {v : Value}

end

/-! ### the attributes as a list of pairs -/
theorem RelO.some_of {v : V} {o : Option Value} (r : RelO (some v) o) : ∃ u, o = some u ∧ RelV v u := by
  cases o with
  | none => exact (show False from r).elim
  | some u => exact ⟨u, rfl, r⟩
section
variable {P : Program} {w : World} {H H' : Hp} {h h' : Heap} {a C dx : Addr} {fs fs' : List (Str × V)}
theorem ins_get (hok : HOk P w H h) (e : H a = some (.ins C dx fs)) : ∃ mA, ObjM h a dx C mA ∧ (∀ f, RelO (fs.lookup f) (mA f)) ∧ PySem.Within mA (fs.map (·.1)) ∧ fs.length ≤ 1000 ∧ H dx = some (.own a) := by
  obtain ⟨d, z, ne, ob, mA, n, r, q⟩ := (show ObjOk P w H h a (.ins C dx fs) from hok a _ e)
  exact ⟨mA, ⟨ob, n, ne⟩, r, q, z, d⟩
end

/-! ### what of the text a class must have -/
structure Cls (K : PySem.W.Frag) (C : Addr) : Prop where
  pg : PySem.W.plainGet K C Str.empty = true
  hd : PySem.W.hasDictIn K C = true
  po : PySem.W.plainOver K C = true
  sa : PySem.W.findIn K (.ref C) "__setattr__" = some (some (.builtin "object.__setattr__"))
theorem Cls.get {K : PySem.W.Frag} {C : Addr} (c : Cls K C) (f : Str) : PySem.W.plainGet K C f = true := c.pg
/-- a constant of the class -/
structure Con (K : PySem.W.Frag) (C : Addr) (f : Str) (v : V) (u : Value) : Prop where
  at_ : PySem.W.findIn K (.ref C) f = some (some u)
  rel : RelV v u
  get : PySem.W.specialIn K u "__get__" = some none
  cp : PySem.W.copiedNames.contains f = false
/-- a method: a plain def of the class or of one above it -/
structure Meth (K : PySem.W.Frag) (C : Addr) (m : Str) (f : Addr) : Prop where
  at_ : PySem.W.findIn K (.ref C) m = some (some (.ref f))
  fn : PySem.W.isFn K (.ref f) = true
  kp : PySem.W.keepIn K (.ref f) = true

section
variable {X : Cx} {pins : List (Addr × Obj)} {σ : St} {H : Hp} {s : Shared} {a C dx : Addr} {fs : List (Str × V)} {f : Str} {v : V} {A : Around} {E : Value → Shared → Prop}

/-- a new instance, tracked, without attributes -/
theorem Inv.made (I : Inv X pins σ H s) : Inv X pins σ (upd (upd H s.heap.objs.size (.own (s.heap.objs.size + 1))) (s.heap.objs.size + 1) (.ins C s.heap.objs.size []))
    { s with heap := (s.heap.push PySem.W.emptyDict).push (PySem.W.instObj C s.heap.objs.size) } := by
  have e1 : (s.heap.push PySem.W.emptyDict).get? s.heap.objs.size = some PySem.W.emptyDict := Heap.get?_push_size s.heap rfl
  have e2 : ((s.heap.push PySem.W.emptyDict).push (PySem.W.instObj C s.heap.objs.size)).get? (s.heap.objs.size + 1) = some (PySem.W.instObj C s.heap.objs.size) := by
    have := Heap.get?_push_size (s.heap.push PySem.W.emptyDict) (o := PySem.W.instObj C s.heap.objs.size) rfl
    rwa [Heap.size_push] at this
  have e3 : (s.heap.push PySem.W.emptyDict).Ns s.heap.objs.size (fun _ => none) := ⟨PySem.W.emptyDict, #[], _, e1, rfl, (fun e he => absurd he (by simp)), fun _ => rfl⟩
  have I1 := I.laid (a := s.heap.objs.size) (o := .own (s.heap.objs.size + 1)) (h' := s.heap.push PySem.W.emptyDict) (t' := s.toks) (fun b u q => Heap.get?_push_of_some _ q) (Nat.le_refl _) ⟨_, e1⟩
  refine I1.laid (a := s.heap.objs.size + 1) (o := .ins C s.heap.objs.size []) (t' := s.toks) (fun b u q => Heap.get?_push_of_some _ q) (Nat.le_of_eq (Heap.size_push _ _)) ?_
  have ne : s.heap.objs.size ≠ s.heap.objs.size + 1 := Nat.ne_of_lt (Nat.lt_succ_self _)
  refine ⟨by rw [upd_ne ne, upd_same], Nat.zero_le _, ne, e2, fun _ => none, (Heap.Ns1.of_empty e3).at fun o q => Heap.get?_push_of_some _ q, fun _ => True.intro, fun y hy => absurd rfl hy⟩

end

/-! ### readings and rules -/
section
variable {X : Cx} {o e value : Expr} {f : Str} {pos pos' tpos : Pos} {ta tv : TE}
end

/-! ### isinstance -/
section
variable {X : Cx} {pins : List (Addr × Obj)} {σ : St} {H : Hp} {s : Shared} {A : Around} {E : Value → Shared → Prop} {Q : Value → Shared → Prop} {c : Value} {b : Bool}
/-- the type of a value, as the fragment's deciders take it; for an instance its class -/
inductive TyOf (K : PySem.W.Frag) (H : Hp) : V → Value → Prop where
  | non : TyOf K H .non (.type "NoneType")
  | bl (x : Bool) : TyOf K H (.bl x) (.type "bool")
  | int (i : Int) : TyOf K H (.int i) (.type "int")
  | str (x : Str) : TyOf K H (.str x) (.type "str")
  | flt (x : UInt64) : TyOf K H (.flt x) (.type "float")
  | lst {a : Addr} {xs : List V} (e : H a = some (.lst xs)) : TyOf K H (.ref a) (.type "list")
  | frz {a : Addr} {o : Obj} {xs : List V} (e : H a = some (.frz o (.lst xs))) : TyOf K H (.ref a) (.type "list")
  | tup {a : Addr} {xs : List V} (e : H a = some (.tup xs)) : TyOf K H (.ref a) (.type "tuple")
  | dK {a : Addr} {kvs : List (Key × V)} (e : H a = some (.dK kvs)) : TyOf K H (.ref a) (.type "dict")
  | dT {a : Addr} {kvs : List (List Key × V)} (e : H a = some (.dT kvs)) : TyOf K H (.ref a) (.type "dict")
  | ins {a C dx : Addr} {fs : List (Str × V)} (e : H a = some (.ins C dx fs)) (cl : Cls K C) (ha : PySem.W.findIn K (.ref C) "__class__" = some (some (.builtin "object.__class__")))
      (hn : PySem.W.specialIn K (.builtin "object.__class__") "__get__" = some (some (.builtin "getset_descriptor.__get__"))) (htk : PySem.W.takesIn K (.builtin "object.__class__") = some true)
      (hm : PySem.W.mroIn K C (.type "object") = some true) : TyOf K H (.ref a) (.ref C)
/-- isinstance(x, c) for one class c, a built-in or an own one: kitOne's answer -/
theorem isinst_ok {x : V} {u t : Value} (I : Inv X pins σ H s) (rx : RelV x u) (ty : TyOf X.K H x t) (e : PySem.W.kitOne X.K t c = some b) (h : ∀ tk, Q (.bool b) { s with toks := tk }) :
    wpAny (model X.prog X.w) A (call (.builtin "isinstance") [u, c]) Q E s := by
  cases ty with
  | non => cases (show u = Value.none from rx); exact PySem.W.kia_one PySem.W.kitx_none I.kIn True.intro e (fun z => nomatch z) h
  | bl y => cases (show u = Value.bool y from rx); exact PySem.W.kia_one PySem.W.kitx_bool I.kIn True.intro e (fun z => nomatch z) h
  | int i => obtain ⟨t, q⟩ := (show ∃ t, u = Value.int i t from rx); cases q; exact PySem.W.kia_one PySem.W.kitx_int I.kIn True.intro e (fun z => nomatch z) h
  | str y => obtain ⟨t, q⟩ := (show ∃ t, u = Value.str y t from rx); cases q; exact PySem.W.kia_one PySem.W.kitx_str I.kIn True.intro e (fun z => nomatch z) h
  | flt y => obtain ⟨t, q⟩ := (show ∃ t, u = Value.float y t from rx); cases q; exact PySem.W.kia_one PySem.W.kitx_float I.kIn True.intro e (fun z => nomatch z) h
  | @lst a xs ea =>
    cases (show u = Value.ref a from rx)
    obtain ⟨_, _, n, _, h1⟩ := (show ObjOk X.prog X.w H s.heap a (.lst xs) from I.hok a _ ea)
    exact PySem.W.kia_one PySem.W.kitx_list I.kIn ⟨_, h1, rfl⟩ e (fun z => nomatch z) h
  | @frz a ob xs ea =>
    cases (show u = Value.ref a from rx)
    obtain ⟨_, _, _, n, _, h1⟩ := (show ObjOk X.prog X.w H s.heap a (.frz ob (.lst xs)) from I.hok a _ ea)
    exact PySem.W.kia_one PySem.W.kitx_list I.kIn ⟨_, h1, rfl⟩ e (fun z => nomatch z) h
  | @tup a xs ea =>
    cases (show u = Value.ref a from rx)
    obtain ⟨_, _, _, p⟩ := (show ObjOk X.prog X.w H s.heap a (.tup xs) from I.hok a _ ea)
    obtain ⟨o, h1, h2, _⟩ := p
    exact PySem.W.kia_one PySem.W.kitx_tuple I.kIn ⟨o, h1, h2⟩ e (fun z => nomatch z) h
  | @dK a kvs ea =>
    cases (show u = Value.ref a from rx)
    obtain ⟨_, _, vs, _, p⟩ := (show ObjOk X.prog X.w H s.heap a (.dK kvs) from I.hok a _ ea)
    obtain ⟨o, es, ep, h1, h2, _⟩ := p
    exact PySem.W.kia_one PySem.W.kitx_dict I.kIn ⟨o, h1, h2.1⟩ e (fun z => nomatch z) h
  | @dT a kvs ea =>
    cases (show u = Value.ref a from rx)
    obtain ⟨_, _, xs, _, o, es, ep, h1, h2, _⟩ := (show ObjOk X.prog X.w H s.heap a (.dT kvs) from I.hok a _ ea)
    exact PySem.W.kia_one PySem.W.kitx_dict I.kIn ⟨o, h1, h2.1⟩ e (fun z => nomatch z) h
  | @ins a C dx fs ea cl ha hn htk hm =>
    cases (show u = Value.ref a from rx)
    obtain ⟨mA, O, _⟩ := ins_get I.hok ea
    obtain ⟨od, J, _⟩ := O.look
    exact PySem.W.kia_one (PySem.W.kitx_own (cl.get _) cl.hd ha hn htk hm) I.kIn J e (fun z => nomatch z) h
end
end L2

namespace L2
open PySem PySem.Spec PyProof.Rows

/-! ### room -/
structure Room (k : Nat) (A : Around) : Prop where
  hd : A.handled = none
  dp : A.depth + 3 * k + 5 < recursionLimit
  un : A.units + 16 * k + 200 < cLine
  gd : A.guards = some []
theorem Room.mono {j k : Nat} {A : Around} (r : Room k A) (h : j ≤ k) : Room j A := ⟨r.hd, by have := r.dp; omega, by have := r.un; omega, r.gd⟩
theorem Room.deeper {k : Nat} {A : Around} (r : Room (k + 1) A) (env : Env) : Room k (A.deeper env) :=
  ⟨r.hd, by have := r.dp; show A.depth + 1 + 3 * k + 5 < _; omega, by have := r.un; show A.units + 3 + 16 * k + 200 < _; omega, r.gd⟩
theorem Room.in1 {k : Nat} {A : Around} (r : Room (k + 1) A) : Room k A.in1 :=
  ⟨r.hd, by have := r.dp; show A.depth + 3 * k + 5 < _; omega, by have := r.un; show A.units + 1 + 16 * k + 200 < _; omega, r.gd⟩
theorem Room.depth {k : Nat} {A : Around} (r : Room k A) : A.depth < recursionLimit := by have := r.dp; omega
theorem Room.units {k : Nat} {A : Around} (r : Room k A) : A.units + 64 < cLine := by have := r.un; omega
/-! ### argument lists and displays -/
def tNil : TA := fun _ H Q => Q [] H
def tCons (ta : TE) (tr : TA) : TA := fun σ H Q => ta σ H fun x H1 => tr σ H1 fun xs H2 => Q (x :: xs) H2
section
variable {X : Cx} {e : Expr} {es : List Expr} {te : TE} {t : TA} {pos : Pos}
theorem pa_nil : PA X [] tNil := fun _ _ _ _ H Q I h => Calls.spliced_nil ⟨[], H, I, .nil, h⟩
theorem pa_cons (ha : PE X e te) (hr : PA X es t) (hs : starEach (e :: es) X.env = (false, eval e X.env) :: starEach es X.env := by rfl) : PA X (e :: es) (tCons te t) := by
  intro pos pins s σ H Q I h
  rw [hs]
  show wpAny _ _ (spliced ((false, eval e X.env) :: backTo pos (starEach es X.env))) _ _ s
  refine Calls.spliced_cons (thn (ha pins s σ H _ I h) fun u s1 ⟨x, H1, I1, r1, q1⟩ => ?_)
  exact thn (hr pos pins s1 σ H1 _ I1 q1) fun us s2 ⟨xs, H2, I2, r2, q2⟩ => ⟨x :: xs, H2, I2, .cons r1 r2, q2⟩

/-- a tuple, a list of written items -/
def tTup (t : TA) : TE := fun σ H Q => t σ H fun xs H1 => xs.length ≤ sizeLine ∧ ∀ p, H1 p = none → Q (.ref p) (upd H1 p (.tup xs))
def tLst (t : TA) : TE := fun σ H Q => t σ H fun xs H1 => xs.length ≤ sizeLine ∧ ∀ p, H1 p = none → Q (.ref p) (upd H1 p (.lst xs))
theorem pe_tup {x1} (h : PA X es t) : PE X (.Tuple es x1 pos) (tTup t) := by
  intro pins s σ H Q I hq
  refine wpAny_Tuple_spliced (thn (h pos pins s σ H _ I hq) fun us s1 ⟨xs, H1, I1, r, z, q⟩ => ⟨by rw [← r.length]; exact z, ?_⟩)
  have hf : H1 s1.heap.objs.size = none := I1.hok.fresh (Nat.le_refl _)
  refine ⟨.ref s1.heap.objs.size, upd H1 s1.heap.objs.size (.tup xs), I1.laid (t' := s1.toks) (fun b u e => Heap.get?_push_of_some _ e) (Nat.le_refl _) ?_, rfl, q _ hf⟩
  exact ⟨z, us, r, ⟨_, Heap.get?_push_size _ rfl, rfl, _, rfl⟩⟩
theorem pe_lst (h : PA X es t) : PE X (.List es pos) (tLst t) := by
  intro pins s σ H Q I hq
  refine wpAny_List_spliced (thn (h pos pins s σ H _ I hq) fun us s1 ⟨xs, H1, I1, r, z, q⟩ => ⟨by rw [← r.length]; exact z, ?_⟩)
  have hf : H1 s1.heap.objs.size = none := I1.hok.fresh (Nat.le_refl _)
  refine ⟨.ref s1.heap.objs.size, upd H1 s1.heap.objs.size (.lst xs), I1.laid (t' := s1.toks) (fun b u e => Heap.get?_push_of_some _ e) (Nat.le_refl _) ?_, rfl, q _ hf⟩
  exact ⟨z, us, 0, r, Heap.get?_push_size _ rfl⟩
end

/-! ### what a def promises -/
/-- a def's promise: the bound arguments in the parameters' order, the heap, the wanted end, the wanted exception -/
abbrev Sp := List V → Hp → VK → XK → Prop
/-- how an exception lies behind a call (file 08 gives it): the callers' frames, abstract heap and state ahead of the call, the wish, the exception, the state -/
abbrev CXT := List Env → Hp → Shared → XK → Value → Shared → Prop

/-- the state at a call -/
structure Env0 (P : Program) (w : World) (K : PySem.W.Frag) (mg : Str → Option Value) (base : Heap) (A : Around) (outer : List Env) (s : Shared) (H : Hp) : Prop where
  frames : A.frames = some outer
  mod : Mod K mg base
  bs : ∀ b o, base.get? b = some o → s.heap.get? b = some o ∧ H b = none
  bsz : base.objs.size ≤ s.heap.objs.size
  funs : s.heap.FunFrames base outer
  frf : ∀ b ∈ frs outer, H b = none
  hok : HOk P w H s.heap
  bare : AllBare s.gens
/-- a call's end -/
def CE (outer : List Env) (P : Program) (w : World) (H : Hp) (s : Shared) (Q : VK) (u : Value) (s' : Shared) : Prop :=
  ∃ v H', s'.os = s.os ∧ AllBare s'.gens ∧ Un (frs outer) [] H H' s.heap s'.heap ∧ HOk P w H' s'.heap ∧ RelV v u ∧ Q v H'
def CR (CX : CXT) (outer : List Env) (P : Program) (w : World) (H : Hp) (s : Shared) (Q : VK) (E : XK) (r : Result) (s' : Shared) : Prop :=
  match r with
  | .ok (.ret u) => CE outer P w H s Q u s'
  | .ok _ => False
  | .error e => CX outer H s E e s'
structure FnOk (P : Program) (w : World) (K : PySem.W.Frag) (mg : Str → Option Value) (base : Heap) (CX : CXT) (k : Nat) (f : Addr) (fd : FuncData) (ps : List Str) (sp : Sp) : Prop where
  len : ∀ vs H Q E, sp vs H Q E → vs.length = ps.length
  run : ∀ (A : Around) (outer : List Env) (s : Shared) (H : Hp) (args : Args) (us : List Value) (vs : List V) (Q : VK) (E : XK), Room k A → Env0 P w K mg base A outer s H → BindsTo s fd args (ps.zip us) → Vals vs us → sp vs H Q E →
    codeAny (model P w) A (.call (.ref f) args) (CR CX outer P w H s Q E) s
theorem FnOk.mono {P : Program} {w : World} {K : PySem.W.Frag} {mg : Str → Option Value} {base : Heap} {CX : CXT} {j k : Nat} {f : Addr} {fd : FuncData} {ps : List Str} {sp : Sp} (F : FnOk P w K mg base CX j f fd ps sp) (h : j ≤ k) :
    FnOk P w K mg base CX k f fd ps sp := ⟨F.len, fun A outer s H args us vs Q E hr => F.run A outer s H args us vs Q E (hr.mono h)⟩
/-- a weaker promise -/
theorem FnOk.imp {P : Program} {w : World} {K : PySem.W.Frag} {mg : Str → Option Value} {base : Heap} {CX : CXT} {k : Nat} {f : Addr} {fd : FuncData} {ps : List Str} {sp sp' : Sp} (F : FnOk P w K mg base CX k f fd ps sp)
    (h : ∀ vs H Q E, sp' vs H Q E → sp vs H Q E) : FnOk P w K mg base CX k f fd ps sp' :=
  ⟨fun vs H Q E q => F.len vs H Q E (h _ _ _ _ q), fun A outer s H args us vs Q E hr he hb hv hs => F.run A outer s H args us vs Q E hr he hb hv (h _ _ _ _ hs)⟩

theorem Env0.in1 {P : Program} {w : World} {K : PySem.W.Frag} {mg : Str → Option Value} {base : Heap} {A : Around} {outer : List Env} {s : Shared} {H : Hp} (e : Env0 P w K mg base A outer s H) :
    Env0 P w K mg base A.in1 outer s H := ⟨e.frames, e.mod, e.bs, e.bsz, e.funs, e.frf, e.hok, e.bare⟩

section
variable {X : Cx} {pins : List (Addr × Obj)} {σ : St} {H : Hp} {s s' : Shared}
/-- from a body: what a callee wants -/
theorem Inv.env0 (I : Inv X pins σ H s) : Env0 X.prog X.w X.K X.mg X.base X.A X.stack s H :=
  ⟨I.ok.frames, I.ok.mod, I.bs, Nat.le_trans I.ok.bsz I.sz, I.stack, I.stkFree, I.hok, I.bare⟩
/-- behind a call -/
theorem Inv.after {Q : VK} {u : Value} (I : Inv X pins σ H s) (h : CE X.stack X.prog X.w H s Q u s') : EP X pins σ Q u s' := by
  obtain ⟨v, H', os, bare, un, hok, r, q⟩ := h
  obtain ⟨hh, g, d, t, os'⟩ := s'
  obtain rfl : os' = s.os := os
  exact ⟨v, H', I.call (h' := hh) (g' := g) (d' := d) (t' := t) (ch := []) un hok bare (fun b z => absurd z (by simp)), r, q⟩
end

/-! ### calls -/
/-- f(..): the written arguments, then the defaults dvs; E: what is wanted of an exception -/
def tCall (sp : Sp) (dvs : List V) (E : XK) (t : TA) : TE := fun σ H Q => t σ H fun vs H1 => sp (vs ++ dvs) H1 Q E
/-- how the parameters are bound: us the positional arguments, kw the keywords' values by name, ds the defaults that fill up -/
def Binds (K : PySem.W.Frag) (fd : FuncData) (ps : List Str) (ds : List Value) : Prop :=
  ∀ (s : Shared) (us : List Value), K.In s.heap → (us ++ ds).length = ps.length → BindsTo s fd ⟨us, []⟩ (ps.zip (us ++ ds))
/-- every parameter is given -/
theorem Binds.all {K : PySem.W.Frag} {fd : FuncData} {ps : List Str} (h : ∀ us : List Value, us.length = ps.length → bindArgs fd ⟨us, []⟩ = pure (ps.zip us)) : Binds K fd ps [] := fun s us _ hl => by
  rw [List.append_nil] at hl ⊢
  exact .of_eq (h us hl)

/-- an exception of a callee reaches what this body wants of exceptions -/
def Passes (CX : CXT) (X : Cx) (E : XK) : Prop := ∀ (pins : List (Addr × Obj)) (σ : St) (H : Hp) (s : Shared) (e : Value) (s' : Shared), Inv X pins σ H s → CX X.stack H s E e s' → X.xe e s'

section
variable {X : Cx} {CX : CXT} {k : Nat} {f C : Addr} {fd : FuncData} {ps : List Str} {sp : Sp} {dvs : List V} {ds : List Value} {E : XK} {x m : Str} {p pos apos : Pos} {e o : Expr} {es : List Expr} {ta : TE} {t : TA}

/-- the callee runs -/
theorem run_fn {pins : List (Addr × Obj)} {σ : St} {H : Hp} {s : Shared} {Q : VK} {us : List Value} {vs : List V} (F : FnOk X.prog X.w X.K X.mg X.base CX k f fd ps sp) (hr : Room k X.A) (hb : Binds X.K fd ps ds) (hd : Vals dvs ds) (hx : Passes CX X E)
    (I : Inv X pins σ H s) (r : Vals vs us) (h : sp (vs ++ dvs) H Q E) : wpAny (model X.prog X.w) X.A (call (.ref f) us) (EP X pins σ Q) X.xe s := by
  have r2 : Vals (vs ++ dvs) (us ++ ds) := r.append hd
  have hl : (us ++ ds).length = ps.length := by rw [← r2.length]; exact F.len _ _ _ _ h
  refine wpAny_call (codeAny_mono (F.run X.A X.stack s H ⟨us, []⟩ (us ++ ds) (vs ++ dvs) Q E hr I.env0 (hb s us I.kIn hl) r2 h) fun r s' hq => ?_)
  cases r with
  | error e => exact hx pins σ H s e s' I hq
  | ok fl =>
    cases fl with
    | ret u => exact I.after hq
    | next => exact False.elim hq
    | brk => exact False.elim hq
    | cont => exact False.elim hq

theorem pe_call (F : FnOk X.prog X.w X.K X.mg X.base CX k f fd ps sp) (hr : Room k X.A) (hg : Gl X x) (hm : X.mg x = some (.ref f)) (hk : PySem.W.keepIn X.K (.ref f) = true) (hb : Binds X.K fd ps ds) (hd : Vals dvs ds) (hx : Passes CX X E)
    (ha : PA X (e :: es) t) (hdb : (x == ("__debug__" : Str)) = false := by decide) (he : starEach (e :: es) X.env = (false, eval e X.env) :: starEach es X.env := by rfl) (hpl : (backTo pos (starEach es X.env)).any (·.1) = false := by rfl) :
    PE X (.Call (.Name x p) (e :: es) [] pos) (tCall sp dvs E t) := by
  intro pins s σ H Q I h
  refine wpAny_Call_Name_kw (ld_glob I hg hm ?_ hdb)
  refine PySem.W.callWith_K (h₀ := X.base) I.ok.mod.kin hk (thn (ha pos pins s σ H _ I h) fun us s1 ⟨vs, H1, I1, r, q⟩ => ⟨I1.kIn, ?_⟩) he hpl
  exact run_fn F hr hb hd hx I1 r q
/-- what a class must have to be made -/
structure Mk (K : PySem.W.Frag) (C f : Addr) : Prop where
  makes : PySem.W.makesIn K C = true
  init : PySem.W.findIn K (.ref C) "__init__" = some (some (.ref f))
  fn : PySem.W.isFn K (.ref f) = true
  kp : PySem.W.keepIn K (.ref C) = true

end

/-! ### keywords -/
section
variable {X : Cx} {CX : CXT} {k : Nat} {f C : Addr} {fd : FuncData} {ps ks : List Str} {sp : Sp} {E : XK} {x m : Str} {p pos apos kpos : Pos} {e o : Expr} {es : List Expr} {kws : List Keyword} {te ta : TE} {t tk : TA} {nm : Option Str}
/-- how a call with keywords binds: g puts the positional values us and the keywords' values ws (names ks) in the parameters' order, defaults among them -/
structure KBinds (K : PySem.W.Frag) (fd : FuncData) (ps ks : List Str) (g : List Value → List Value → List Value) (gV : List V → List V → List V) : Prop where
  to : ∀ (s : Shared) (us ws : List Value), K.In s.heap → (g us ws).length = ps.length → BindsTo s fd ⟨us, ks.zip ws⟩ (ps.zip (g us ws))
  rel : ∀ {vs : List V} {us : List Value} {zs : List V} {ws : List Value}, Vals vs us → Vals zs ws → Vals (gV vs zs) (g us ws)
variable {g : List Value → List Value → List Value} {gV : List V → List V → List V}
end

/-! ### a def's body keeps its promise -/
/-- names: the parameters first -/
structure FnScope (N P : List Str) (sc : Scope) : Prop where
  kind : sc.kind = .function
  co : sc.isCoroutine = false
  gen : sc.isGenerator = false
  nd : N.Nodup
  pre : N.take P.length = P
  par : ∀ x ∈ P, sc.names.lookup x = some .local ∨ sc.names.lookup x = some .cell
  nofree : ∀ y ∈ sc.names, y.2 ≠ .free

theorem bindL_out {kindOf : Str → Option NameKind} {x : Str} : ∀ {binds : List (Str × Value)} {m : Str → Option Value}, (∀ v, (x, v) ∉ binds) → bindL kindOf binds m x = m x
  | [], _, _ => rfl
  | (n, v) :: r, m, h => by
    unfold bindL
    rw [bindL_out fun w hw => h w (List.mem_cons_of_mem _ hw)]
    split
    · have : x ≠ n := by rintro rfl; exact h v List.mem_cons_self
      simp [this]
    · rfl
theorem bindC_out {kindOf : Str → Option NameKind} {x : Str} : ∀ {binds : List (Str × Value)} {m : Str → Option Value}, (∀ v, (x, v) ∉ binds) → bindC kindOf binds m x = m x
  | [], _, _ => rfl
  | (n, v) :: r, m, h => by
    unfold bindC
    rw [bindC_out fun w hw => h w (List.mem_cons_of_mem _ hw)]
    split
    · rfl
    · have : x ≠ n := by rintro rfl; exact h v List.mem_cons_self
      simp [this]
theorem bindL_get {kindOf : Str → Option NameKind} {x : Str} {v : Value} : ∀ {P : List Str} {vs : List Value} {i : Nat} {m : Str → Option Value}, P.Nodup → P[i]? = some x → vs[i]? = some v → kindOf x = some .local →
    bindL kindOf (P.zip vs) m x = some v
  | [], _, _, _, _, h, _, _ => by simp at h
  | _ :: _, [], _, _, _, _, h, _ => by simp at h
  | p :: P, w :: vs, 0, m, nd, h1, h2, hk => by
    simp at h1 h2; subst h1; subst h2
    show bindL kindOf ((p, w) :: P.zip vs) m p = _
    unfold bindL
    rw [bindL_out fun v hv => (List.nodup_cons.mp nd).1 (List.of_mem_zip hv).1, if_pos hk]
    simp
  | p :: P, w :: vs, i + 1, m, nd, h1, h2, hk => by
    show bindL kindOf ((p, w) :: P.zip vs) m x = _
    unfold bindL
    exact bindL_get (i := i) (List.nodup_cons.mp nd).2 (by simpa using h1) (by simpa using h2) hk
theorem bindC_get {kindOf : Str → Option NameKind} {x : Str} {v : Value} : ∀ {P : List Str} {vs : List Value} {i : Nat} {m : Str → Option Value}, P.Nodup → P[i]? = some x → vs[i]? = some v → kindOf x ≠ some .local →
    bindC kindOf (P.zip vs) m x = some v
  | [], _, _, _, _, h, _, _ => by simp at h
  | _ :: _, [], _, _, _, _, h, _ => by simp at h
  | p :: P, w :: vs, 0, m, nd, h1, h2, hk => by
    simp at h1 h2; subst h1; subst h2
    show bindC kindOf ((p, w) :: P.zip vs) m p = _
    unfold bindC
    rw [bindC_out fun v hv => (List.nodup_cons.mp nd).1 (List.of_mem_zip hv).1, if_neg hk]
    simp
  | p :: P, w :: vs, i + 1, m, nd, h1, h2, hk => by
    show bindC kindOf ((p, w) :: P.zip vs) m x = _
    unfold bindC
    exact bindC_get (i := i) (List.nodup_cons.mp nd).2 (by simpa using h1) (by simpa using h2) hk

/-- the names' values at the entry -/
def start (N : List Str) (vs : List V) : St := vs.map some ++ List.replicate (N.length - vs.length) none

/-- the context of a def's body, at its entry; an exception leaves the frame, then lies as CX says -/
def cxOf (CX : CXT) (P : Program) (w : World) (K : PySem.W.Frag) (mg : Str → Option Value) (base : Heap) (N : List Str) (qual : Str) (scope : Scope) (f : Addr) (cd : Value) (A : Around) (outer : List Env) (s : Shared) (H : Hp) (E : XK) : Cx where
  prog := P
  w := w
  K := K
  mg := mg
  base := base
  A := A.deeper (envOfC qual scope s.heap.objs.size f cd)
  N := N
  s_0 := s
  H_0 := H
  env := envOfC qual scope s.heap.objs.size f cd
  outer := outer
  stack := envOfC qual scope s.heap.objs.size f cd :: outer
  ex := []
  calm := true
  fn := fun _ => true
  pn := []
  xe := fun e s' => wpAny (model P w) (A.deeper (envOfC qual scope s.heap.objs.size f cd)) (leaving (envOfC qual scope s.heap.objs.size f cd) e) (fun _ s'' => CX outer H s E e s'') (fun e' s'' => CX outer H s E e' s'') s'

theorem cell_has {sc : Scope} {n : Nat} {x : Str} (h : sc.names.lookup x = some .cell) : ∃ c, (cellsFrom n sc.names []).lookup x = some c := by
  have q := PySem.W.cellsFrom_some sc.names n [] (.inl h)
  exact Option.isSome_iff_exists.mp q

theorem inv_start {CX : CXT} {P : Program} {w : World} {K : PySem.W.Frag} {mg : Str → Option Value} {base : Heap} {N ps : List Str} {qual : Str} {scope : Scope} {f : Addr} {cd : Value} {A : Around} {outer : List Env} {s s1 : Shared} {H : Hp} {E : XK} {us : List Value} {vs : List V}
    (S : FnScope N ps scope) (hd : A.handled = none) (e0 : Env0 P w K mg base A outer s H) (hl : vs.length = ps.length) (r : Vals vs us)
    (x : InCallC s s.heap.objs.size (bindL (envOfC qual scope s.heap.objs.size f cd).kindOf (ps.zip us) fun _ => none) (cellsFrom (s.heap.objs.size + 1) scope.names []) (bindC (envOfC qual scope s.heap.objs.size f cd).kindOf (ps.zip us) fun _ => none) s1) :
    Inv (cxOf CX P w K mg base N qual scope f cd A outer s H E) [] (start N vs) H s1 := by
  have hpl : ps.length ≤ N.length := by have := congrArg List.length S.pre; rw [List.length_take] at this; omega
  obtain ⟨h1, tk, rfl, hk⟩ := x.done
  have noA : ∀ b : Addr, b ∉ (cxOf CX P w K mg base N qual scope f cd A outer s H E).ex := fun b z => absurd (show b ∈ ([] : List Addr) from z) (by simp)
  refine ⟨⟨e0.mod, S.kind, rfl, rfl, Nat.le_refl _, fun y z c h1 h2 => ?_, fun y hy => ?_, fun y c _ h => ?_, fun _ => hd, Around.frames_deeper e0.frames, .inr ⟨rfl, rfl⟩, fun b z => absurd z (noA b), e0.bs, e0.bsz, fun b _ _ => noA b, fun b z => absurd z (noA b), e0.funs, e0.frf⟩,
    rfl, e0.bare, Un.kept hk, ⟨_, x.toInCall.ns, fun i y v h1 h2 h3 => ?_⟩, fun y c h => ⟨_, x.cell y c h⟩, e0.hok.fresh (Nat.le_refl _), fun y c h => ?_, fun p hp => absurd (show p ∈ ([] : List (Addr × Obj)) from hp) (by simp), e0.hok.kept hk, ?_⟩
  · exact name_of_addr x.apart (PySem.mem_of_lookup h1) (PySem.mem_of_lookup h2)
  · have hy : scope.names.lookup y = some .cell ∨ scope.names.lookup y = some .free := hy
    rcases hy with hy | hy
    · exact cell_has hy
    · exact absurd rfl (S.nofree _ (PySem.mem_of_lookup hy))
  · exact Nat.le_of_lt (x.above y c (PySem.mem_of_lookup h))
  · have hi : i < vs.length := by
      unfold start at h2
      by_cases hi : i < vs.length
      · exact hi
      · rw [List.getElem?_append_right (by simpa using hi)] at h2
        rw [List.getElem?_replicate] at h2
        split at h2 <;> cases h2
    have ha : vs[i]? = some v := by
      unfold start at h2
      rw [List.getElem?_append_left (by simpa using hi), List.getElem?_map] at h2
      cases e : vs[i]? with
      | none => rw [e] at h2; cases h2
      | some a => rw [e] at h2; cases h2; rfl
    obtain ⟨u, hu, rv⟩ := r.get ha
    have hp : ps[i]? = some y := by
      rw [← S.pre, List.getElem?_take_of_lt (by omega)]; exact h1
    have ndP : ps.Nodup := by rw [← S.pre]; exact S.nd.sublist (List.take_sublist _ _)
    refine ⟨u, rv, ?_⟩
    rcases S.par y (List.mem_of_getElem? hp) with k | k
    · exact .inl ⟨k, bindL_get ndP hp hu k⟩
    · obtain ⟨c, e⟩ := cell_has (n := s.heap.objs.size + 1) k
      refine .inr ⟨.inl k, c, e, ?_⟩
      have q := x.cell y c e
      rw [bindC_get ndP hp hu (by show scope.names.lookup y ≠ _; rw [k]; decide)] at q
      exact q
  · exact e0.hok.fresh (Nat.le_of_lt (x.above y c (PySem.mem_of_lookup h)))
  · unfold start
    show _ = N.length
    rw [List.length_append, List.length_map, List.length_replicate]
    omega

/-- THE RULE: a def (or a method) of the text, by its body. The body's reading t is chosen for each entry; it is run at the parameters' values -/
theorem fn_of {CX : CXT} {P : Program} {w : World} {K : PySem.W.Frag} {mg : Str → Option Value} {base : Heap} {k : Nat} {f : Addr} {name qual : Str} {params : Arguments} {body : List Stmt} {scope : Scope} {dV kV doc pm cdv ct oc : Value} {an od : Option Addr}
    {osl : Array (Option Value)} {N ps : List Str} {sp : Sp} (lk : K.lookup f = some ⟨oc, od, .func (PySem.W.fnOf name qual params body scope dV kV doc pm an cdv ct), osl⟩) (hcd : PySem.W.codeIn K cdv qual = true) (S : FnScope N ps scope)
    (len : ∀ vs H Q E, sp vs H Q E → vs.length = ps.length)
    (hbody : ∀ (A : Around) (outer : List Env) (s : Shared) (H : Hp) (vs : List V) (Q : VK) (E : XK), Room k (A.deeper (envOfC qual scope s.heap.objs.size f cdv)) → sp vs H Q E →
      ∃ t, PSs (cxOf CX P w K mg base N qual scope f cdv A outer s H E) body t ∧ t { nx := fun _ H' => Q .non H', rt := Q } (start N vs) H) :
    FnOk P w K mg base CX (k + 1) f (PySem.W.fnOf name qual params body scope dV kV doc pm an cdv ct) ps sp := by
  refine ⟨len, fun A outer s H args us vs Q E hr e0 hb r hsp => ?_⟩
  have hl := len _ _ _ _ hsp
  have KX : K.In s.heap := e0.mod.kin.keeps fun b o e => (e0.bs b o e).1
  have lim : s.heap.NoLimit := e0.mod.nolimit.keeps fun b o e => (e0.bs b o e).1
  have hkind : ∀ y ∈ ps.zip us, scope.names.lookup y.1 = some .local ∨ (scope.names.lookup y.1 = some .cell ∧ ((cellsFrom (s.heap.objs.size + 1) scope.names []).lookup y.1).isSome = true) := fun ⟨n, v⟩ hy => by
    rcases S.par n (List.of_mem_zip hy).1 with q | q
    · exact .inl q
    · exact .inr ⟨q, PySem.W.cellsFrom_some _ _ _ (.inl q)⟩
  refine codeAny_call_function hr.depth (KX _ _ lk) rfl S.co S.gen rfl (PySem.W.codeRec_of KX hcd) (hb _ _ _ _ ?_)
  refine wpAny_newFunctionEnv_cells S.kind hkind fun env he s1 x => ?_
  subst he
  refine ⟨lim.keeps x.toInCall.keep, codeAny_func ?_⟩
  obtain ⟨t, ht, hq⟩ := hbody A outer s H vs Q E (hr.deeper _) hsp
  have I : Inv (cxOf CX P w K mg base N qual scope f cdv A outer s H E) [] (start N vs) H s1 := inv_start S hr.hd e0 hl r x
  refine wpAny_mono (ht [] s1 (start N vs) H _ I hq) (fun fl s' hs => ?_) fun e s' hs => hs
  have fin : ∀ {σ' : St} {H' : Hp} {v : V} {u : Value}, Inv (cxOf CX P w K mg base N qual scope f cdv A outer s H E) [] σ' H' s' → RelV v u → Q v H' → CE outer P w H s Q u s' :=
    fun {σ' H' v u} J rv q => ⟨v, H', J.os, J.bare, J.base, J.hok, rv, q⟩
  cases fl with
  | ret u =>
    obtain ⟨v, σ', H', J, rv, q⟩ := hs
    exact fin J rv q
  | next =>
    obtain ⟨σ', H', J, q⟩ := hs
    exact fin (v := V.non) (u := Value.none) J rfl q
  | brk =>
    obtain ⟨_, _, _, q⟩ := hs
    exact False.elim q
  | cont =>
    obtain ⟨_, _, _, q⟩ := hs
    exact False.elim q
end L2

namespace L2
open PySem PySem.Spec PyProof.Rows
section
variable {X : Cx} {x : Str} {p pos : Pos} {e : Expr} {es : List Expr} {t : TA} {id T : String} {r : List V → Hp → VK → Prop}

def tCB (r : List V → Hp → VK → Prop) (t : TA) : TE := fun σ H Q => t σ H fun vs H1 => r vs H1 Q
/-- f(e, ..), f a built-in function -/
theorem pe_callB (hc : CallR X (.builtin id) r) (hg : Gl X x) (hm : X.mg x = none) (hv : bootBuiltins x = some (.builtin id)) (ha : PA X (e :: es) t) (hn : x ≠ "__name__" := by decide) (hdb : (x == ("__debug__" : Str)) = false := by decide)
    (he : starEach (e :: es) X.env = (false, eval e X.env) :: starEach es X.env := by rfl) (hpl : (backTo pos (starEach es X.env)).any (·.1) = false := by rfl) : PE X (.Call (.Name x p) (e :: es) [] pos) (tCB r t) := by
  intro pins s σ H Q I h
  refine wpAny_Call_Name_kw (ld_blt I hg hm hv ?_ hn hdb)
  exact PyProof.Rows.callWith_builtin1 (thn (ha pos pins s σ H _ I h) fun us s1 ⟨vs, H1, I1, r1, q1⟩ => hc pins s1 σ H1 vs us Q I1 r1 q1) he hpl
end
end L2

namespace HT
open PySem PyProof.Rows

theorem rcLt_int (A : Around) (s : Shared) (a : Int) (t : Tok) (c : Int) (u : Tok) (prog : Program) (w : World) (E : Value → Shared → Prop) (Q : Value → Shared → Prop) (h : Q (.bool (decide (a < c))) s) :
    wpAny (model prog w) A (richCompare .Lt (.int a t) (.int c u)) Q E s :=
  (PyProof.Rows.lt_int h : wpAny (model prog w) A (compareOp .Lt (.int a t) (.int c u)) Q E s)

section
open PySem.SeqAt
open PySem.AutoSeq1 (wpAny_loadPart')
open PySem.MeetsSeq PySem.MeetsSeq2 PySem.MeetsSeq3

end

section
variable {prog : Program} {w : World} {A : Around} {E : Value → Shared → Prop} {s : Shared}

/-- t + u, t not empty -/
theorem cat_tup {t b : Addr} {vs ws : List Value} {Q : Value → Shared → Prop} (ht : IsTup s.heap t vs.toArray) (hb : IsTup s.heap b ws.toArray) (hv : vs ≠ [])
    (h1 : ws = [] → Q (.ref t) s) (h2 : ws ≠ [] → Q (.ref s.heap.objs.size) { s with heap := s.heap.push { cls := .type "tuple", data := .seq (vs ++ ws).toArray } })
    (hsz : vs.length + ws.length ≤ sizeLine) : wpAny (model prog w) A (binaryOp .Add (.ref t) (.ref b)) Q E s := by
  obtain ⟨⟨cls, dd, data, sl⟩, ho, hc, n, hd⟩ := id ht
  obtain ⟨⟨cls2, dd2, data2, sl2⟩, ho2, hc2, n2, hd2⟩ := id hb
  simp only at hc hd hc2 hd2
  subst hc hd hc2 hd2
  have e : vs.toArray ++ ws.toArray = (vs ++ ws).toArray := by simp
  by_cases hw : ws = []
  · exact concat_meets ⟨_, ho, rfl⟩ ⟨_, ho2, rfl⟩ noFill_tuple_add seq_tuple_add PySem.F.slot_tuple_add PySem.F.entry_tuple_add (PySem.F.args_tuple_add_2 _ _)
      (tuple_addW1 t b vs.toArray ws.toArray n n2 dd dd2 sl sl2 (by simpa using hv) (by simp [hw])) ⟨ho, ho2, h1 hw⟩
  · refine concat_meets ⟨_, ho, rfl⟩ ⟨_, ho2, rfl⟩ noFill_tuple_add seq_tuple_add PySem.F.slot_tuple_add PySem.F.entry_tuple_add (PySem.F.args_tuple_add_2 _ _)
      (tuple_addW2 t b vs.toArray ws.toArray n n2 dd dd2 sl sl2 (by simpa using hv) (by simpa using hw) (by rw [List.size_toArray, List.size_toArray]; exact hsz)) ⟨ho, ho2, ?_⟩
    rw [e]
    exact h2 hw

/-! ### t[a:b], not the whole -/
/-- a slice's bound as a place among n (d where it is left out) -/
def sIx (n d : Nat) : Option Int → Nat
  | none => d
  | some v => if v < 0 then (v + (n : Int)).toNat else min v.toNat n
end
end HT

namespace L2
open PySem PySem.Spec PyProof.Rows

/-! ### the parts of a slice -/
abbrev TO := St → Hp → (Option Int → Hp → Prop) → Prop
section
variable {X : Cx} {e : Expr} {te : TE} {lo hi : Option Expr} {tl th : TO} {pos p2 : Pos}

/-! ### t < u, t + u -/
/-- t + u, t not empty: u empty gives t itself -/
def rCatT (K : PySem.W.Frag) : R2 := fun x y H Q => ∃ a b xs ys, x = .ref a ∧ y = .ref b ∧ SqT K H a xs ∧ SqT K H b ys ∧ xs ≠ [] ∧ xs.length + ys.length ≤ sizeLine ∧
  (ys = [] → Q (.ref a) H) ∧ (ys ≠ [] → ∀ p, H p = none → Q (.ref p) (upd H p (.tup (xs ++ ys))))
theorem Vals.nil_iff {xs : List V} {us : List Value} (r : Vals xs us) : us = [] ↔ xs = [] := by
  cases r with
  | nil => simp
  | cons _ _ => simp
theorem op_catT : OpR X (binaryOp .Add) (rCatT X.K) := by
  intro pins s σ H x y v u Q I rx ry h
  obtain ⟨a, b, xs, ys, rfl, rfl, ha, hb, hx, hz, q1, q2⟩ := h
  cases rx
  cases ry
  obtain ⟨its, r1, p1, _⟩ := I.tuple ha
  obtain ⟨its2, r2, p2, _⟩ := I.tuple hb
  refine HT.cat_tup p1 p2 (fun z => hx (r1.nil_iff.mp z)) (fun z => ⟨.ref a, H, I, rfl, q1 (r2.nil_iff.mp z)⟩) (fun z => ?_) (by rw [← r1.length, ← r2.length]; exact hz)
  refine ⟨.ref s.heap.objs.size, _, I.laid (t' := s.toks) (o := .tup (xs ++ ys)) (fun b ob q => Heap.get?_push_of_some _ q) (Nat.le_refl _) ?_, rfl, q2 (fun w => z (r2.nil_iff.mpr w)) _ (I.hok.fresh (Nat.le_refl _))⟩
  exact ⟨by rw [List.length_append]; exact hz, _, r1.append r2, IsTup.new _ _⟩
end
end L2

namespace L2
open PySem PySem.Spec PyProof.Rows

/-! ### places -/
/-- the place that an index of any sign means -/
def ixN (n : Nat) (i : Int) : Option Nat := if 0 ≤ i then (if i < n then some i.toNat else none) else if -(n : Int) ≤ i then some (i + n).toNat else none
def atI {α : Type} (xs : List α) (i : Int) : Option α := (ixN xs.length i).bind fun j => xs[j]?
theorem ixN_seq {n : Nat} {i : Int} {j : Nat} (h : ixN n i = some j) : seqIndex? i n = some j ∧ j < n ∧ -(n : Int) ≤ i ∧ i < n := by
  unfold ixN at h
  by_cases h0 : 0 ≤ i
  · rw [if_pos h0] at h
    by_cases h1 : i < n
    · rw [if_pos h1] at h
      have e : i.toNat = j := Option.some.inj h
      exact ⟨by rw [seqIndex_of h0 h1, e], by omega, by omega, h1⟩
    · rw [if_neg h1] at h; cases h
  · rw [if_neg h0] at h
    by_cases h1 : -(n : Int) ≤ i
    · rw [if_pos h1] at h
      have e : (i + n).toNat = j := Option.some.inj h
      exact ⟨by rw [seqIndex_neg (by omega) h1, e], by omega, h1, by omega⟩
    · rw [if_neg h1] at h; cases h
theorem atI_get {α : Type} {xs : List α} {i : Int} {v : α} (h : atI xs i = some v) : ∃ j, seqIndex? i xs.length = some j ∧ xs[j]? = some v ∧ j < xs.length ∧ -(xs.length : Int) ≤ i ∧ i < xs.length := by
  unfold atI at h
  cases e : ixN xs.length i with
  | none => rw [e] at h; cases h
  | some j =>
    rw [e] at h
    obtain ⟨h1, h2, h3, h4⟩ := ixN_seq e
    exact ⟨j, h1, h, h2, h3, h4⟩
theorem atI_nat {α : Type} {xs : List α} {j : Nat} {v : α} (h : xs[j]? = some v) : atI xs (j : Int) = some v := by
  have hj : j < xs.length := (List.getElem?_eq_some_iff.mp h).1
  have e : ixN xs.length (j : Int) = some j := by
    unfold ixN
    rw [if_pos (by omega), if_pos (by omega)]; simp
  unfold atI; rw [e]; exact h
/-! ### what may be subscripted -/
/-- what stands as an index of a plain subscript -/
def PlainIx (b : Expr) : Prop := ∀ o i, subscripted b false o i = operate [o, i] (getItem o i)
/-- a subscript by values -/
def IxR (X : Cx) (r : R2) : Prop :=
  ∀ (value slice : Expr) (pins : List (Addr × Obj)) (s : Shared) (σ : St) (H : Hp) (x y : V) (v u : Value) (Q : VK), Inv X pins σ H s → RelV x v → RelV y u → r x y H Q →
    subscripted slice false v u = operate [v, u] (getItem v u) → wpAny (model X.prog X.w) X.A (subscriptTail value slice v u) (EP X pins σ Q) X.xe s
/-- a call of a builtin's method by values: the receiver, the arguments -/
def MtR (X : Cx) (id : String) (r : V → List V → Hp → VK → Prop) : Prop :=
  ∀ (pins : List (Addr × Obj)) (s : Shared) (σ : St) (H : Hp) (x : V) (xs : List V) (v : Value) (us : List Value) (Q : VK), Inv X pins σ H s → RelV x v → Vals xs us → r x xs H Q →
    wpAny (model X.prog X.w) X.A (call (.builtin id) (v :: us)) (EP X pins σ Q) X.xe s
section
variable {X : Cx} {a b : Expr} {ta tb : TE} {pos : Pos}
/-- a[b] -/
theorem pe_ix {r : R2} (hr : IxR X r) (ha : PE X a ta) (hb : PE X b tb) (hs : PlainIx b) : PE X (.Subscript a b pos) (tOp r ta tb) := by
  intro pins s σ H Q I h
  exact Subscript_ (binT ha hb I h fun v u s2 x y H2 I2 rx ry q => hr a b pins s2 σ H2 x y v u Q I2 rx ry q (hs _ _))

def rIxL (K : PySem.W.Frag) : R2 := fun x y H Q => ∃ p xs i v, x = .ref p ∧ y = .int i ∧ SqL K H p xs ∧ atI xs i = some v ∧ Q v H
def rIxT (K : PySem.W.Frag) : R2 := fun x y H Q => ∃ p xs i v, x = .ref p ∧ y = .int i ∧ SqT K H p xs ∧ atI xs i = some v ∧ Q v H
def rIxS : R2 := fun x y H Q => ∃ z i c, x = .str z ∧ y = .int i ∧ z.length ≤ sizeLine ∧ atI z.cps.toList i = some c ∧ Q (.str ⟨#[c]⟩) H
theorem ix_list : IxR X (rIxL X.K) := by
  intro value slice pins s σ H x y v u Q I rx ry h hs
  obtain ⟨p, xs, i, z, rfl, rfl, hq, he, q⟩ := h
  cases rx
  obtain ⟨t, rfl⟩ := ry
  obtain ⟨its, r, pl, hz⟩ := I.list hq
  obtain ⟨j, h1, h2, h3, h4, h5⟩ := atI_get he
  obtain ⟨w, ew, rw'⟩ := r.get h2
  have hl := r.length
  have hn := line63
  have fin : EP X pins σ Q w s := ⟨z, H, I, rw', q⟩
  by_cases h0 : 0 ≤ i
  · have hj : i.toNat = j := by
      rw [seqIndex_of h0 h5] at h1
      exact Option.some.inj h1
    exact item_listR pl.isList h0 (by omega) (by rw [hj]; simpa using ew) fin hs
  · have hj : (i + (its.toArray.size : Int)).toNat = j := by
      rw [seqIndex_neg (by omega) h4] at h1
      rw [List.size_toArray, ← hl]
      exact Option.some.inj h1
    exact subscriptTail_builtinR (x := w) pl.isList.typeIs slot_list_getitem.lookup
      (wpAny_getItem_list_neg (Q := fun r s' => r = w ∧ EP X pins σ Q r s') pl.isList (by omega) (by rw [List.size_toArray] <;> omega) (by omega) (by rw [hj]; simpa using ew) ⟨rfl, fin⟩) hs
theorem ix_tup : IxR X (rIxT X.K) := by
  intro value slice pins s σ H x y v u Q I rx ry h hs
  obtain ⟨p, xs, i, z, rfl, rfl, hq, he, q⟩ := h
  cases rx
  obtain ⟨t, rfl⟩ := ry
  obtain ⟨its, r, pl, hz⟩ := I.tuple hq
  obtain ⟨j, h1, h2, h3, h4, h5⟩ := atI_get he
  obtain ⟨w, ew, rw'⟩ := r.get h2
  have hl := r.length
  have hn := line63
  have fin : EP X pins σ Q w s := ⟨z, H, I, rw', q⟩
  exact subscriptTail_builtinR (x := w) pl.typeIs slot_tuple_getitem.lookup
    (getItem_tuple (j := j) (Q := fun r s' => r = w ∧ EP X pins σ Q r s') pl (by omega) (by omega) (by rw [List.size_toArray, ← hl]; exact h1) (by simpa using ew) ⟨rfl, fin⟩) hs
theorem ix_str : IxR X rIxS := by
  intro value slice pins s σ H x y v u Q I rx ry h hs
  obtain ⟨z, i, c, rfl, rfl, hz, he, q⟩ := h
  obtain ⟨t, rfl⟩ := rx
  obtain ⟨t', rfl⟩ := ry
  obtain ⟨j, h1, h2, h3, h4, h5⟩ := atI_get he
  have hl : z.cps.toList.length = z.length := by simp [Str.length]
  rw [hl] at h1 h4 h5
  have hn := line63
  exact tail_any (typeIs_str s z t) slot_str_getitem.lookup (getItem_str (c := c) (by
    have e1 : decide (i < -(2 ^ 63 : Int)) = false := decide_eq_false (by omega)
    have e2 : decide (i ≥ 2 ^ 63) = false := decide_eq_false (by omega)
    rw [e1, e2, Bool.or_false]) (by rw [h1]; simpa using h2) ⟨.str ⟨#[c]⟩, H, I.tok _, ⟨_, rfl⟩, q⟩) hs
/-! ### xs[i] = v, any sign -/
/-- the list's object behind a store -/
theorem mapSeq_set (its : List Value) (n j : Nat) (u : Value) : Obj.mapSeq (·.setIfInBounds j u) { cls := .type "list", data := .seq its.toArray n } = { cls := .type "list", data := .seq (its.set j u).toArray n } := by
  simp [Obj.mapSeq]
theorem Inv.lst {pins : List (Addr × Obj)} {σ : St} {H : Hp} {s : Shared} {p : Addr} {xs : List V} (I : Inv X pins σ H s) (h : H p = some (.lst xs)) :
    ∃ (its : List Value) (n : Nat), Vals xs its ∧ s.heap.get? p = some { cls := .type "list", data := .seq its.toArray n } ∧ xs.length ≤ sizeLine := by
  obtain ⟨z, its, n, r, e⟩ := I.hok p _ h
  exact ⟨its, n, r, e, z⟩
/-- the list at p is written by an update of its object -/
theorem Inv.lstUpd {pins : List (Addr × Obj)} {σ : St} {H : Hp} {s : Shared} {p : Addr} {xs ys : List V} {its its' : List Value} {n n' : Nat} {f : Obj → Obj} (I : Inv X pins σ H s) (h : H p = some (.lst xs))
    (ho : s.heap.get? p = some { cls := .type "list", data := .seq its.toArray n }) (hf : f { cls := .type "list", data := .seq its.toArray n } = { cls := .type "list", data := .seq its'.toArray n' }) (r : Vals ys its') (hz : ys.length ≤ sizeLine) (t : Nat) :
    Inv X pins σ (upd H p (.lst ys)) { s with heap := s.heap.update p f, toks := t } := by
  have e : (s.heap.update p f).get? p = some { cls := .type "list", data := .seq its'.toArray n' } := by
    rw [Heap.get?_update_self f ho (by rw [hf] <;> rfl), hf]
  refine I.write (x := p) (e := p) (by rw [h]; trivial) (.inl rfl) (fun b u hb q => (Heap.get?_update_other _ _ (Ne.symm hb)).trans q) ⟨_, e⟩ ?_
  exact ⟨hz, its', n', r, e⟩
def rSetL : V → V → V → Hp → (Hp → Prop) → Prop := fun o i v H Q => ∃ p xs k j, o = .ref p ∧ i = .int k ∧ H p = some (.lst xs) ∧ ixN xs.length k = some j ∧ Q (upd H p (.lst (xs.set j v)))
theorem set_list : PSet X rSetL := by
  intro pins s σ H o i v ov iv u Q I ro ri rv h
  obtain ⟨p, xs, k, j, rfl, rfl, hp, hj, q⟩ := h
  cases ro
  obtain ⟨t, rfl⟩ := ri
  obtain ⟨its, n, r, ho, hz⟩ := I.lst hp
  obtain ⟨h1, h2, h3, h4⟩ := ixN_seq hj
  have hl := r.length
  have hn := line63
  have I' : Inv X pins σ (upd H p (.lst (xs.set j v))) { s with heap := s.heap.update p (Obj.mapSeq (·.setIfInBounds j u)) } :=
    I.lstUpd hp ho (mapSeq_set its n j u) (r.set rv j) (by rw [List.length_set]; exact hz) s.toks
  by_cases h0 : 0 ≤ k
  · have hk : k.toNat = j := by
      rw [seqIndex_of h0 h4] at h1
      exact Option.some.inj h1
    exact PySem.W.ki_setAt ho h0 (by omega) (by rw [List.size_toArray, ← hl]; exact h4) (by rw [hk]; exact ⟨_, I', q⟩)
  · have hk : (k + (its.toArray.size : Int)).toNat = j := by
      rw [seqIndex_neg (by omega) h3] at h1
      rw [List.size_toArray, ← hl]
      exact Option.some.inj h1
    exact PySem.W.ki_setBack ho (by omega) (by rw [List.size_toArray, ← hl]; exact h3) (by omega) (by rw [hk]; exact ⟨_, I', q⟩)

/-! ### slices -/
/-! ### in, not in: flat items -/
def flatV : V → Bool
  | .non => true
  | .bl _ => true
  | .int _ => true
  | .str _ => true
  | _ => false
/-- == of flat values -/
def eqV : V → V → Bool
  | .non, .non => true
  | .bl a, .bl b => a == b
  | .bl a, .int b => (if a then 1 else 0) == b
  | .int a, .bl b => a == (if b then 1 else 0)
  | .int a, .int b => a == b
  | .str a, .str b => a == b
  | _, _ => false
theorem eqAt_V {A : Around} {s : Shared} {y x : V} {u v : Value} (ry : RelV y u) (rx : RelV x v) (fy : flatV y = true) (fx : flatV x = true) : SeqAt.EqAt A s u v (eqV y x) := by
  cases y with
  | non =>
    cases ry
    cases x with
    | non => cases rx; exact SeqAt.EqAt.same _
    | bl b => cases rx; exact SeqAt.EqAt.none_bool b
    | int b => obtain ⟨t, rfl⟩ := rx; exact SeqAt.EqAt.none_int b t
    | str b => obtain ⟨t, rfl⟩ := rx; exact SeqAt.EqAt.none_str b t
    | _ => exact absurd (show false = true from fx) Bool.false_ne_true
  | bl a =>
    cases ry
    cases x with
    | non => cases rx; exact SeqAt.EqAt.bool_none a
    | bl b => cases rx; exact SeqAt.EqAt.bool_bool a b
    | int b => obtain ⟨t, rfl⟩ := rx; exact SeqAt.EqAt.bool_int a b t
    | str b => obtain ⟨t, rfl⟩ := rx; exact SeqAt.EqAt.bool_str a b t
    | _ => exact absurd (show false = true from fx) Bool.false_ne_true
  | int a =>
    obtain ⟨t', rfl⟩ := ry
    cases x with
    | non => cases rx; exact SeqAt.EqAt.int_none a t'
    | bl b => cases rx; exact SeqAt.EqAt.int_bool a t' b
    | int b => obtain ⟨t, rfl⟩ := rx; exact SeqAt.EqAt.int_int a t' b t
    | str b => obtain ⟨t, rfl⟩ := rx; exact SeqAt.EqAt.int_str a t' b t
    | _ => exact absurd (show false = true from fx) Bool.false_ne_true
  | str a =>
    obtain ⟨t', rfl⟩ := ry
    cases x with
    | non => cases rx; exact SeqAt.EqAt.str_none a t'
    | bl b => cases rx; exact SeqAt.EqAt.str_bool a t' b
    | int b => obtain ⟨t, rfl⟩ := rx; exact SeqAt.EqAt.str_int a t' b t
    | str b => obtain ⟨t, rfl⟩ := rx; exact SeqAt.EqAt.str_str a t' b t
    | _ => exact absurd (show false = true from fx) Bool.false_ne_true
  | _ => exact absurd (show false = true from fy) Bool.false_ne_true
/-- the items' answers, read off the values (a value's own answer does not lean on its token) -/
def eqU (x : V) (u : Value) : Bool := match u with
  | .none => eqV .non x
  | .bool b => eqV (.bl b) x
  | .int i _ => eqV (.int i) x
  | .str z _ => eqV (.str z) x
  | _ => false
theorem eqU_of {x y : V} {u : Value} (r : RelV y u) (f : flatV y = true) : eqU x u = eqV y x := by
  cases y with
  | non => cases r; rfl
  | bl b => cases r; rfl
  | int i => obtain ⟨t, rfl⟩ := r; rfl
  | str z => obtain ⟨t, rfl⟩ := r; rfl
  | _ => exact absurd (show false = true from f) Bool.false_ne_true
theorem mem_eqAt {A : Around} {s : Shared} {x : V} {v : Value} (rx : RelV x v) (fx : flatV x = true) : ∀ {xs : List V} {us : List Value}, Vals xs us → xs.all flatV = true → ∀ u ∈ us, SeqAt.EqAt A s u v (eqU x u)
  | _, _, .nil, _ => fun u hu => by cases hu
  | y :: xs, u :: us, .cons r t, f => fun u' hu => by
    rw [List.all_cons, Bool.and_eq_true] at f
    rcases List.mem_cons.mp hu with rfl | hu
    · rw [eqU_of r f.1]; exact eqAt_V r rx f.1 fx
    · exact mem_eqAt rx fx t f.2 u' hu
/-! ### len, list(x), tuple(x) of any list or tuple that is read -/
/-! ### the call of a builtin's method: o.m(..) -/
/-- the value is of that builtin type -/
def tyV (K : PySem.W.Frag) (T : String) (x : V) (H : Hp) : Prop := match x with
  | .str _ => T = "str"
  | .int _ => T = "int"
  | .ref p => (T = "list" ∧ ∃ xs, SqL K H p xs) ∨ (T = "tuple" ∧ ∃ o, K.lookup p = some o ∧ o.cls = .type "tuple" ∧ o.dict = none) ∨
      (T = "dict" ∧ ((∃ kvs, H p = some (.dK kvs)) ∨ ∃ kvs, H p = some (.dT kvs))) ∨ (T = "set" ∧ ∃ S n, H p = some (.set S n))
  | _ => False
theorem tyV_is {pins : List (Addr × Obj)} {σ : St} {H : Hp} {s : Shared} {T : String} {x : V} {v : Value} (I : Inv X pins σ H s) (r : RelV x v) (ty : tyV X.K T x H) :
    s.TypeIs v T ∧ ∀ a, v = .ref a → ∃ ob, s.heap.get? a = some ob ∧ ob.dict = none := by
  cases x with
  | str z =>
    obtain ⟨t, rfl⟩ := r
    cases (show T = "str" from ty)
    exact ⟨typeIs_str s z t, fun _ e => nomatch e⟩
  | int i =>
    obtain ⟨t, rfl⟩ := r
    cases (show T = "int" from ty)
    exact ⟨typeIs_int s i t, fun _ e => nomatch e⟩
  | ref p =>
    cases r
    rcases ty with ⟨rfl, xs, hq⟩ | ⟨rfl, o, hk, hc, hd⟩ | ⟨rfl, hk⟩ | ⟨rfl, S, n, hk⟩
    · obtain ⟨its, _, pl, _⟩ := I.list hq
      refine ⟨pl.isList.typeIs, fun a e => ?_⟩
      cases e
      obtain ⟨o, n, e, c, hd, _⟩ := pl
      exact ⟨o, e, hd⟩
    · refine ⟨⟨o, I.kIn p o hk, hc⟩, fun a e => ?_⟩
      cases e
      exact ⟨o, I.kIn _ o hk, hd⟩
    · have z : ∃ o, s.heap.get? p = some o ∧ o.ExactDict := by
        rcases hk with ⟨kvs, hk⟩ | ⟨kvs, hk⟩
        · obtain ⟨_, _, _, _, o, _, _, e, ex, _⟩ := I.hok p _ hk
          exact ⟨o, e, ex⟩
        · obtain ⟨_, _, _, _, o, _, _, e, ex, _⟩ := I.hok p _ hk
          exact ⟨o, e, ex⟩
      obtain ⟨o, e, ex⟩ := z
      refine ⟨⟨o, e, ex.1⟩, fun a e2 => ?_⟩
      cases e2
      exact ⟨o, e, ex.2.1⟩
    · obtain ⟨o, _, _, _, e, ex, _⟩ := I.hok p _ hk
      refine ⟨⟨o, e, ex.1⟩, fun a e2 => ?_⟩
      cases e2
      exact ⟨o, e, ex.2.1⟩
  | _ => exact False.elim ty
def tBM (K : PySem.W.Frag) (T : String) (r : V → List V → Hp → VK → Prop) (to : TE) (t : TA) : TE := fun σ H Q => to σ H fun x H1 => tyV K T x H1 ∧ t σ H1 fun xs H2 => r x xs H2 Q
variable {o e : Expr} {es : List Expr} {to : TE} {t : TA} {name : Str} {apos cpos : Pos} {T id : String} {r : V → List V → Hp → VK → Prop}
theorem pe_bm (pa : PlainAttrs T) (slot : Slot T name id) (hty : typeOf (.builtin id) = pure (.type "method_descriptor")) (hm : MtR X id r) (ho : PE X o to) (ha : PA X (e :: es) t)
    (hbase : attributeBase o name X.env (eval o X.env) = eval o X.env := by rfl)
    (hfew : ((backTo cpos (starEach (e :: es) X.env)).all (fun x => !x.1) && (backToKw cpos (keywordEach [] X.env)).all (fun x => x.1.isSome)
      && decide ((e :: es).length + ([] : List Keyword).length + (if ([] : List Keyword).isEmpty then 0 else 1) < 30)) = true := by rfl)
    (hline : (apos.endLine == cpos.line) = true := by rfl) (hs : starEach (e :: es) X.env = (false, eval e X.env) :: starEach es X.env := by rfl) (hplain : (backTo cpos (starEach es X.env)).any (·.1) = false := by rfl) :
    PE X (.Call (.Attribute o name apos) (e :: es) [] cpos) (tBM X.K T r to t) := by
  intro pins s σ H Q I h
  refine wpAny_Call_method_late hbase hfew hline rfl (thn (ho pins s σ H _ I h) fun v s1 ⟨x, H1, I1, r1, ty, q1⟩ => ?_)
  obtain ⟨h1, h2⟩ := tyV_is I1 r1 ty
  refine ⟨T, id, pa, slot, hty, h1, h2, ?_⟩
  have hA := ha cpos pins s1 σ H1 _ I1 q1
  rw [hs] at hA ⊢
  refine Calls.callWith_builtin (by show (false || (backTo cpos (starEach es X.env)).any (·.1)) = false; rw [hplain] <;> rfl) (Calls.evalArgs_plain ?_)
  exact thn hA fun us s2 ⟨vs, H2, I2, r2, q2⟩ => hm pins s2 σ H2 x vs v us Q I2 r1 r2 q2
/- xs.append(e), list.index on a module's tuple .. are MtR facts of 06m -/
end
end L2

namespace L2
open PySem PySem.Spec PyProof.Rows

def MtM (X : Cx) (id : String) (r : V → List V → Hp → VK → Prop) : Prop :=
  ∀ (pins : List (Addr × Obj)) (s : Shared) (σ : St) (H : Hp) (x : V) (xs : List V) (v : Value) (us : List Value) (Q : VK), Inv X pins σ H s → RelV x v → Vals xs us → r x xs H Q →
    wpAny (model X.prog X.w) X.A (call (.builtin id) (v :: us)) (EP X pins σ Q) X.xe s

/-! ### lists of values -/
theorem Vals.one : ∀ {x : V} {us : List Value}, Vals [x] us → ∃ u, us = [u] ∧ RelV x u
  | _, _, .cons r .nil => ⟨_, rfl, r⟩
theorem Vals.zero : ∀ {us : List Value}, Vals [] us → us = []
  | _, .nil => rfl
theorem Vals.reverse {xs : List V} {us : List Value} (h : Vals xs us) : Vals xs.reverse us.reverse := by
  induction h with
  | nil => exact .nil
  | cons r t ih => rw [List.reverse_cons, List.reverse_cons]; exact Vals.append ih (.cons r .nil)
section
variable {X : Cx} {pins : List (Addr × Obj)} {σ : St} {H : Hp} {s : Shared} {l b : Addr} {xs ys zs : List V}

/-! ### the two steps: a tracked list is rewritten, a new list is laid -/
theorem Inv.lset {its its' : List Value} {n : Nat} {f : Array Value → Array Value} {t' : Nat} (I : Inv X pins σ H s) (hH : H l = some (.lst xs))
    (e : s.heap.get? l = some { cls := .type "list", data := .seq its.toArray n }) (hf : f its.toArray = its'.toArray) (hv : Vals ys its') (hz : ys.length ≤ sizeLine) :
    Inv X pins σ (upd H l (.lst ys)) { s with heap := s.heap.update l (Obj.mapSeq f), toks := t' } := by
  have q := PySem.IsL.update e f
  rw [hf] at q
  refine I.write (x := l) (e := l) (by rw [hH]; exact trivial) (.inl rfl) (fun b' u hb hu => (Heap.get?_update_other s.heap (Obj.mapSeq f) (Ne.symm hb)).trans hu) ⟨_, q⟩ ?_
  exact ⟨hz, its', _, hv, q⟩
theorem Inv.lnew {its : List Value} {t' : Nat} (I : Inv X pins σ H s) (hv : Vals ys its) (hz : ys.length ≤ sizeLine) :
    Inv X pins σ (upd H s.heap.objs.size (.lst ys)) { s with heap := s.heap.push { cls := .type "list", data := .seq its.toArray }, toks := t' } :=
  I.laid (fun _ _ q => Heap.get?_push_of_some _ q) (Nat.le_refl _) ⟨hz, its, 0, hv, Heap.get?_push_size _ rfl⟩
theorem Inv.fresh (I : Inv X pins σ H s) : H s.heap.objs.size = none := I.hok.fresh (Nat.le_refl _)
theorem Inv.lstM (I : Inv X pins σ H s) (hH : H l = some (.lst xs)) : xs.length ≤ sizeLine ∧ ∃ (its : List Value) (n : Nat), Vals xs its ∧ xs.length = its.length ∧ s.heap.get? l = some { cls := .type "list", data := .seq its.toArray n } := by
  obtain ⟨z, its, n, r, e⟩ := I.hok l _ hH
  exact ⟨z, its, n, r, r.length, e⟩

end

section
variable {X : Cx}

/-! ### methods -/
def rAppend : V → List V → Hp → VK → Prop := fun x vs H Q => ∃ l xs y, x = .ref l ∧ vs = [y] ∧ H l = some (.lst xs) ∧ xs.length < sizeLine ∧ Q .non (upd H l (.lst (xs ++ [y])))
theorem mt_append : MtM X "list.append" rAppend := by
  intro pins s σ H x vs v us Q I rx rv h
  obtain ⟨l, xs, y, rfl, rfl, hH, hz, q⟩ := h
  cases rx
  obtain ⟨u, rfl, ru⟩ := rv.one
  obtain ⟨z, its, n, r, hl, e⟩ := I.lstM hH
  refine call_meets F.slot_list_append ⟨_, e, rfl⟩ F.entry_list_append (F.args_list_append_2 _ _) (PySem.list_append l its.toArray n u (by rw [List.size_toArray]; omega)) ⟨e, ?_⟩
  refine ⟨.non, _, I.lset (its' := its ++ [u]) hH e (by simp) (r.append (.cons ru .nil)) ?_, rfl, q⟩
  rw [List.length_append, List.length_singleton]
  omega

/-! ### list + list, list += list, list * int -/
/-! ### del xs[i] -/
end

/-! ### xs[a:b] = ys -/
section
variable {prog : Program} {w : World} {A : Around} {E : Value → Shared → Prop} {s : Shared}
end

section
variable {X : Cx}
end
end L2

namespace L2
open PySem PySem.Spec PyProof.Rows

theorem Vals.strs : ∀ {xs : List Str} {us : List Value}, Vals (xs.map V.str) us → StrsAre us xs
  | [], us, h => by
    rw [List.map_nil] at h
    cases h
    exact StrsAre.nil
  | x :: xs, us, h => by
    rw [List.map_cons] at h
    cases h with
    | cons r t =>
      obtain ⟨k, rfl⟩ := r
      exact StrsAre.cons x k (Vals.strs t)
/-! ### the library's walks over a list of ints, kept objects alone -/
section
variable {prog : Program} {w : World} {A : Around} {E : Value → Shared → Prop} {s : Shared} {l : Addr} {its : List Value} {ns : List Int} {Q : Value → Shared → Prop}
end

/-! ### the calls, by values (CallR of 03t; MtR of 06l) -/
section
variable {X : Cx}
/-! sorted, sort (fewer than 64 items: the library's own bound) -/
end

/-! ### list.index, flat items -/
section
variable {X : Cx}
def rIndex (K : PySem.W.Frag) : V → List V → Hp → VK → Prop := fun x xs H Q => ∃ (a : Addr) (ys : List V) (y : V) (j : Nat) (z : V), x = V.ref a ∧ xs = [y] ∧ SqL K H a ys ∧ flatV y = true ∧ ys.all flatV = true ∧ ys[j]? = some z ∧ eqV z y = true ∧
  (∀ (m : Nat) (z' : V), m < j → ys[m]? = some z' → eqV z' y = false) ∧ Q (.int (j : Nat)) H
theorem flat_at {ys : List V} (f : ys.all flatV = true) {j : Nat} {z : V} (h : ys[j]? = some z) : flatV z = true := List.all_eq_true.mp f z (List.mem_of_getElem? h)
theorem mt_index : MtR X "list.index" (rIndex X.K) := by
  intro pins s σ H x xs v us Q I rx rxs h
  obtain ⟨a, ys, y, j, z, rfl, rfl, hs, fy, fys, hz, hzj, hno, q⟩ := h
  cases rx
  cases rxs with
  | cons ry rt =>
    rename_i uy ut
    cases rt
    obtain ⟨its, rv, ⟨⟨cls, dd, data, sl⟩, n, ho, hc, hdn, hd⟩, hlen⟩ := I.list hs
    simp only at hc hd
    subst hc hd
    obtain ⟨u, hu, ru⟩ := rv.get hz
    obtain ⟨hjl, hje⟩ := List.getElem?_eq_some_iff.mp hu
    have hvl := rv.length
    have hj : j < its.toArray.size := by simpa using hjl
    have hsl := sizeLine_eq
    refine call_meets PySem.F.slot_list_index ⟨_, ho, rfl⟩ PySem.F.entry_list_index (PySem.F.args_list_index_2 _ _)
      (SeqAt.list_indexAt a its.toArray n dd sl uy (eqU y) j hj (by omega) ?_ ?_) ⟨ho, fun u' hu' => mem_eqAt ry fy rv fys u' (by simpa using hu'), ?_⟩
    · have e1 : its.toArray[j] = u := by simpa using hje
      rw [e1, eqU_of ru (flat_at fys hz)]
      exact hzj
    · intro m hm hmj
      have hml : m < its.length := by simpa using hm
      have hmy : m < ys.length := by omega
      have hy' : ys[m]? = some ys[m] := List.getElem?_eq_getElem hmy
      obtain ⟨u2, hu2, ru2⟩ := rv.get hy'
      obtain ⟨_, hme⟩ := List.getElem?_eq_some_iff.mp hu2
      have e1 : its.toArray[m] = u2 := by simpa using hme
      rw [e1, eqU_of ru2 (flat_at fys hy')]
      exact hno m _ hmj hy'
    · exact ⟨.int (j : Nat), H, I.tok _, ⟨_, rfl⟩, q⟩
end

/-! ### type(x) of an own instance; is, is not of a module's class -/
section
variable {X : Cx}
end

/-! ### any(xs), all(xs) of a list of bools -/
section
variable {X : Cx}
end

/-! ### == and != of data at any depth: none, bools, ints, texts, lists, tuples -/
mutual
inductive Dp (K : PySem.W.Frag) (H : Hp) : V → PyData → Prop
  | non : Dp K H .non .none
  | bl (b : Bool) : Dp K H (.bl b) (.bool b)
  | int (i : Int) : Dp K H (.int i) (.int i)
  | str (x : Str) : Dp K H (.str x) (.str x)
  | lst {a : Addr} {xs : List V} {ds : List PyData} : SqL K H a xs → DpAll K H xs ds → Dp K H (.ref a) (.list ds)
  | tup {a : Addr} {xs : List V} {ds : List PyData} : SqT K H a xs → DpAll K H xs ds → Dp K H (.ref a) (.tuple ds)
inductive DpAll (K : PySem.W.Frag) (H : Hp) : List V → List PyData → Prop
  | nil : DpAll K H [] []
  | cons {v : V} {vs : List V} {d : PyData} {ds : List PyData} : Dp K H v d → DpAll K H vs ds → DpAll K H (v :: vs) (d :: ds)
end
section
variable {X : Cx} {pins : List (Addr × Obj)} {σ : St} {H : Hp} {s : Shared}
mutual
theorem Dp.reads (I : Inv X pins σ H s) : ∀ (d : PyData) (v : V) (u : Value), Dp X.K H v d → RelV v u → ∃ as, Reads s.heap u d as
  | .none, _, _, h, r => by
    cases h
    cases r
    exact ⟨_, Reads.none⟩
  | .bool b, _, _, h, r => by
    cases h
    cases r
    exact ⟨_, Reads.bool b⟩
  | .int i, _, _, h, r => by
    cases h
    obtain ⟨t, rfl⟩ := r
    exact ⟨_, Reads.int i t⟩
  | .str x, _, _, h, r => by
    cases h
    obtain ⟨t, rfl⟩ := r
    exact ⟨_, Reads.str x t⟩
  | .list ds, _, _, h, r => by
    cases h with
    | lst hs ha =>
      cases r
      obtain ⟨its, rv, ⟨o, n, ho, hc, _, hd⟩, _⟩ := I.list hs
      obtain ⟨as, hr⟩ := Dp.readsAll I ds _ its ha rv
      exact ⟨_, Reads.list ho hc hd hr⟩
  | .tuple ds, _, _, h, r => by
    cases h with
    | tup hs ha =>
      cases r
      obtain ⟨its, rv, ⟨o, ho, hc, n, hd⟩, _⟩ := I.tuple hs
      obtain ⟨as, hr⟩ := Dp.readsAll I ds _ its ha rv
      exact ⟨_, Reads.tuple ho hc hd hr⟩
  | .dict _, _, _, h, _ => by cases h
theorem Dp.readsAll (I : Inv X pins σ H s) : ∀ (ds : List PyData) (vs : List V) (us : List Value), DpAll X.K H vs ds → Vals vs us → ∃ as, ReadsAll s.heap us ds as
  | [], _, _, h, r => by
    cases h
    cases r
    exact ⟨_, ReadsAll.nil⟩
  | d :: ds, _, _, h, r => by
    cases h with
    | cons h1 h2 =>
      cases r with
      | cons r1 r2 =>
        obtain ⟨as, q1⟩ := Dp.reads I d _ _ h1 r1
        obtain ⟨bs, q2⟩ := Dp.readsAll I ds _ _ h2 r2
        exact ⟨_, ReadsAll.cons q1 q2⟩
end
end
section
variable {X : Cx}
def rEqD (K : PySem.W.Frag) : R2 := fun x y H Q => ∃ d e, Dp K H x d ∧ Dp K H y e ∧ SeqAt.shaped d = true ∧ SeqAt.shaped e = true ∧ Q (.bl (PyData.eqv d e)) H
def rNeD (K : PySem.W.Frag) : R2 := fun x y H Q => ∃ d e, Dp K H x d ∧ Dp K H y e ∧ SeqAt.shaped d = true ∧ SeqAt.shaped e = true ∧ Q (.bl (!PyData.eqv d e)) H
theorem op_eqD (hu : X.A.units + 64 < cLine) : OpR X (compareOp .Eq) (rEqD X.K) := by
  intro pins s σ H x y v u Q I rx ry h
  obtain ⟨d, e, hd, he, sd, se, q⟩ := h
  obtain ⟨as, r1⟩ := Dp.reads I d x v hd rx
  obtain ⟨bs, r2⟩ := Dp.reads I e y u he ry
  exact SeqAt.compareEq_shaped r1 r2 sd se hu ⟨.bl _, H, I, rfl, q⟩
theorem op_neD (hu : X.A.units + 64 < cLine) : OpR X (compareOp .NotEq) (rNeD X.K) := by
  intro pins s σ H x y v u Q I rx ry h
  obtain ⟨d, e, hd, he, sd, se, q⟩ := h
  obtain ⟨as, r1⟩ := Dp.reads I d x v hd rx
  obtain ⟨bs, r2⟩ := Dp.reads I e y u he ry
  exact SeqAt.compareNe_shaped r1 r2 sd se hu ⟨.bl _, H, I, rfl, q⟩
end
end L2

namespace L2
open PySem PySem.Spec PyProof.Rows
/-- the names of a comprehension's block: its own (with their places in N), or captured -/
structure BlkOk (N : List Str) (sc scope : Scope) (own : List (Str × Nat)) : Prop where
  kind : scope.kind = .function
  uniq : ∀ y ∈ scope.names, scope.names.lookup y.1 = some y.2
  ix : ∀ p ∈ own, N[p.2]? = some p.1
  free : ∀ y ∈ scope.names, y.2 = .free → sc.names.lookup y.1 = some .cell ∨ sc.names.lookup y.1 = some .free
  own : ∀ y ∈ scope.names, y.2 = .local ∨ y.2 = .cell → y.1 ∈ own.map (·.1) ∨ y.1 ∉ N
section
variable {X : Cx} {pins : List (Addr × Obj)} {σ : St} {H : Hp} {s : Shared}
end

section
variable {X : Cx}
end

/-! ### the forms one uses -/
end L2

namespace L2
open PySem PySem.Spec PyProof.Rows

section
variable {prog : Program} {w : World} {A : Around} {R : Result → Shared → Prop} {s : Shared} {elt t0 i0 t1 i1 : Expr} {ifs0 ifs1 : List Expr} {scope : Scope} {pos : Pos} {it acc : Value} {env : Env}
end

section
variable {X : Cx}
end
end L2

namespace L2
open PySem PySem.Spec PyProof.Rows

/-! ### lists of pairs as tables -/
section
variable {κ : Type} [DecidableEq κ]
def valV (kvs : List (κ × V)) (k : κ) : Option V := (kvs.find? fun kv => decide (kv.1 = k)).map (·.2)
/-- in its place, or at the end -/
def putK (kvs : List (κ × V)) (k : κ) (v : V) : List (κ × V) :=
  if (kvs.any fun kv => decide (kv.1 = k)) = true then kvs.map (fun kv => if kv.1 = k then (kv.1, v) else kv) else kvs ++ [(k, v)]
def dropK (kvs : List (κ × V)) (k : κ) : List (κ × V) := kvs.filter fun kv => decide (kv.1 ≠ k)

theorem valV_pos {p : κ × V} {r : List (κ × V)} {k : κ} (e : p.1 = k) : valV (p :: r) k = some p.2 := by simp [valV, List.find?_cons, e]
theorem valV_neg {p : κ × V} {r : List (κ × V)} {k : κ} (e : ¬ p.1 = k) : valV (p :: r) k = valV r k := by simp [valV, List.find?_cons, e]
theorem valV_any (k : κ) : ∀ kvs : List (κ × V), (kvs.any fun kv => decide (kv.1 = k)) = (valV kvs k).isSome
  | [] => rfl
  | p :: r => by
    rw [List.any_cons]
    by_cases e : p.1 = k
    · simp only [valV_pos e, decide_eq_true e, Bool.true_or, Option.isSome_some]
    · rw [valV_neg e, decide_eq_false e, Bool.false_or]; exact valV_any k r
theorem length_putK (kvs : List (κ × V)) (k : κ) (v : V) : (putK kvs k v).length ≤ kvs.length + 1 := by
  unfold putK
  split
  · rw [List.length_map]; omega
  · rw [List.length_append, List.length_cons, List.length_nil]; omega
theorem RelO.isSome_eq {o : Option V} {u : Option Value} (r : RelO o u) : o.isSome = u.isSome := by
  cases o with
  | none => cases u with
    | none => rfl
    | some _ => exact (show False from r).elim
  | some _ => cases u with
    | none => exact (show False from r).elim
    | some _ => rfl
theorem RelO.getD {o : Option V} {u : Option Value} {d : V} {d' : Value} (r : RelO o u) (rd : RelV d d') : RelV (o.getD d) (u.getD d') := by
  cases o with
  | none => cases u with
    | none => exact rd
    | some _ => exact (show False from r).elim
  | some _ => cases u with
    | none => exact (show False from r).elim
    | some _ => exact r

/-- raw tables of the same keys -/
theorem KV.val {kvs : List (κ × V)} {vs : List (κ × Value)} (r : KV kvs vs) (k : κ) : RelO (valV kvs k) (valueAt vs k) := by
  unfold KV at r
  induction r with
  | nil => exact True.intro
  | @cons p q ps qs h t ih =>
    obtain ⟨h1, h2⟩ := h
    by_cases e : p.1 = k
    · have e' : q.1 = k := h1.symm.trans e
      have b : valueAt (q :: qs) k = some q.2 := by simp [valueAt, List.find?_cons, e']
      rw [valV_pos e, b]; exact h2
    · have e' : ¬ q.1 = k := fun z => e (h1.trans z)
      have b : valueAt (q :: qs) k = valueAt qs k := by simp [valueAt, List.find?_cons, e']
      rw [valV_neg e, b]; exact ih
theorem KV.any {kvs : List (κ × V)} {vs : List (κ × Value)} (r : KV kvs vs) (k : κ) : (kvs.any fun kv => decide (kv.1 = k)) = vs.any fun kv => decide (kv.1 = k) := by
  unfold KV at r
  induction r with
  | nil => rfl
  | cons h t ih => rw [List.any_cons, List.any_cons, ih, h.1]
theorem KV.repl {kvs : List (κ × V)} {vs : List (κ × Value)} (r : KV kvs vs) (k : κ) {y : V} {u : Value} (ry : RelV y u) :
    KV (kvs.map fun kv => if kv.1 = k then (kv.1, y) else kv) (vs.map fun kv => if kv.1 = k then (kv.1, u) else kv) := by
  unfold KV at r ⊢
  induction r with
  | nil => exact .nil
  | @cons p q ps qs h t ih =>
    rw [List.map_cons, List.map_cons]
    refine .cons ?_ ih
    obtain ⟨h1, h2⟩ := h
    by_cases e : p.1 = k
    · rw [if_pos e, if_pos (h1.symm.trans e)]; exact ⟨h1, ry⟩
    · rw [if_neg e, if_neg (fun z => e (h1.trans z))]; exact ⟨h1, h2⟩
theorem KV.put {kvs : List (κ × V)} {vs : List (κ × Value)} (r : KV kvs vs) (k : κ) {y : V} {u : Value} (ry : RelV y u) : KV (putK kvs k y) (stored vs k u) := by
  unfold putK stored
  rw [r.any k]
  by_cases e : (vs.any fun kv => decide (kv.1 = k)) = true
  · rw [if_pos e, if_pos e]; exact r.repl k ry
  · rw [if_neg e, if_neg e]; exact Paired.snoc r ⟨rfl, ry⟩
theorem KV.drop {kvs : List (κ × V)} {vs : List (κ × Value)} (r : KV kvs vs) (k : κ) : KV (dropK kvs k) (without vs k) := by
  unfold KV at r ⊢
  unfold dropK without
  induction r with
  | nil => exact .nil
  | @cons p q ps qs h t ih =>
    obtain ⟨h1, h2⟩ := h
    rw [List.filter_cons, List.filter_cons]
    by_cases e : p.1 = k
    · have a : ¬ decide (p.1 ≠ k) = true := by simp [e]
      have b : ¬ decide (q.1 ≠ k) = true := by simp [h1.symm.trans e]
      rw [if_neg a, if_neg b]; exact ih
    · have e' : ¬ q.1 = k := fun z => e (h1.trans z)
      have a : decide (p.1 ≠ k) = true := by simp [e]
      have b : decide (q.1 ≠ k) = true := by simp [e']
      rw [if_pos a, if_pos b]; exact .cons ⟨h1, h2⟩ ih
theorem KV.keys {kvs : List (κ × V)} {vs : List (κ × Value)} (r : KV kvs vs) : kvs.map (·.1) = vs.map (·.1) := by
  unfold KV at r
  induction r with
  | nil => rfl
  | cons h t ih => rw [List.map_cons, List.map_cons, ih, h.1]
theorem KV.length {kvs : List (κ × V)} {vs : List (κ × Value)} (r : KV kvs vs) : kvs.length = vs.length := Paired.length r
end


/-! ### a tracked dict, its keys ints and texts or tuples of these -/
theorem kV_is {P : Program} {w : World} {k : Key} {u : Value} (r : RelV (kV k) u) : (mixKind P w).is k u = true := by
  cases k with
  | inl i => obtain ⟨t, e⟩ := (show ∃ t, u = Value.int i t from r); subst e; exact mixKind_int P w i t
  | inr x => obtain ⟨t, e⟩ := (show ∃ t, u = Value.str x t from r); subst e; exact mixKind_str P w x t
theorem items_are {P : Program} {w : World} : ∀ {ks : List Key} {us : List Value}, Vals (ks.map kV) us → ItemsAre (mixKind P w) ks us
  | [], _, r => by rw [List.map_nil] at r; cases r; exact .nil
  | k :: ks, _, r => by
    rw [List.map_cons] at r
    cases r with
    | cons h t => exact .cons (kV_is h) (items_are t)

/-- raw entries of a dict with tuple keys -/
abbrev KT (H : Hp) : List (List Key × V) → List (List Key × Addr × Value) → Prop := Paired fun p q => p.1 = q.1 ∧ H q.2.1 = some (.tup (p.1.map kV)) ∧ RelV p.2 q.2.2
theorem KT.val {H : Hp} {kvs : List (List Key × V)} {xs : List (List Key × Addr × Value)} (r : KT H kvs xs) (k : List Key) : RelO (valV kvs k) ((atKey xs k).map (·.2)) := by
  induction r with
  | nil => exact True.intro
  | @cons p q ps qs h t ih =>
    obtain ⟨h1, _, h2⟩ := h
    by_cases e : p.1 = k
    · have e' : q.1 = k := h1.symm.trans e
      have b : atKey (q :: qs) k = some q.2 := by simp [atKey, List.find?_cons, e']
      rw [valV_pos e, b]; exact h2
    · have e' : ¬ q.1 = k := fun z => e (h1.trans z)
      have b : atKey (q :: qs) k = atKey qs k := by simp [atKey, List.find?_cons, e']
      rw [valV_neg e, b]; exact ih
theorem KT.repl {H : Hp} {kvs : List (List Key × V)} {xs : List (List Key × Addr × Value)} (r : KT H kvs xs) (k : List Key) {y : V} {u : Value} (ry : RelV y u) :
    KT H (kvs.map fun kv => if kv.1 = k then (kv.1, y) else kv) (xs.map (putAt k u)) := by
  induction r with
  | nil => exact .nil
  | @cons p q ps qs h t ih =>
    rw [List.map_cons, List.map_cons]
    refine .cons ?_ ih
    obtain ⟨h1, h2, h3⟩ := h
    unfold putAt
    by_cases e : p.1 = k
    · rw [if_pos e, if_pos (h1.symm.trans e)]; exact ⟨h1, h2, ry⟩
    · rw [if_neg e, if_neg (fun z => e (h1.trans z))]; exact ⟨h1, h2, h3⟩
theorem KT.put {H : Hp} {kvs : List (List Key × V)} {xs : List (List Key × Addr × Value)} (r : KT H kvs xs) (k : List Key) {b : Addr} {y : V} {u : Value} (hb : H b = some (.tup (k.map kV))) (ry : RelV y u) :
    KT H (putK kvs k y) (storedH xs k b u) := by
  have e : (kvs.any fun kv => decide (kv.1 = k)) = (atKey xs k).isSome := by
    rw [valV_any, (r.val k).isSome_eq, Option.isSome_map]
  unfold putK storedH
  rw [e]
  by_cases q : (atKey xs k).isSome = true
  · rw [if_pos q, if_pos q]; exact r.repl k ry
  · rw [if_neg q, if_neg q]; exact Paired.snoc r ⟨rfl, hb, ry⟩
theorem KT.keeps {H H' : Hp} {kvs : List (List Key × V)} {xs : List (List Key × Addr × Value)} (r : KT H kvs xs) (ht : ∀ b ys, H b = some (.tup ys) → H' b = some (.tup ys)) : KT H' kvs xs :=
  Paired.mapP r fun _ _ z => ⟨z.1, ht _ _ z.2.1, z.2.2⟩

section
variable {P : Program} {w : World} {H : Hp} {h : Heap} {a : Addr}
theorem rd_of {u : HO} (ok : HOk P w H h) (e : Rd H a u) : ObjOk P w H h a u := e.ok ok
theorem dk_rd {kvs : List (Key × V)} (ok : HOk P w H h) (e : Rd H a (.dK kvs)) : kvs.length ≤ sizeLine ∧ (a == sysModules) = false ∧ ∃ vs, KV kvs vs ∧ h.DictOf (mixKind P w) a vs :=
  show ObjOk P w H h a (.dK kvs) from rd_of ok e
theorem dk_of {kvs : List (Key × V)} (ok : HOk P w H h) (e : H a = some (.dK kvs)) : kvs.length ≤ sizeLine ∧ (a == sysModules) = false ∧ ∃ vs, KV kvs vs ∧ h.DictOf (mixKind P w) a vs := dk_rd ok (.inl e)
/-- a tracked tuple of ints and texts is a key -/
theorem key_of {ks : List Key} (ok : HOk P w H h) (e : H a = some (.tup (ks.map kV))) : (tupleKind (mixKind P w)).is h ks a := by
  obtain ⟨_, its, r, o, h1, h2, n, h3⟩ := (show ObjOk P w H h a (.tup (ks.map kV)) from ok a _ e)
  exact ⟨o, its.toArray, n, h1, h2, h3, by simpa using items_are r⟩
theorem dt_rd {kvs : List (List Key × V)} (ok : HOk P w H h) (e : Rd H a (.dT kvs)) : kvs.length ≤ sizeLine ∧ (a == sysModules) = false ∧
    ∃ xs, KT H kvs xs ∧ h.DictOfH (tupleKind (mixKind P w)) a xs := by
  obtain ⟨z, y, xs, r, o, es, ep, h1, h2, h3, h4, h5⟩ := (show ObjOk P w H h a (.dT kvs) from rd_of ok e)
  refine ⟨z, y, xs, r, o, es, ep, h1, h2, h3, h4, fun x hx => ?_, h5⟩
  have all : ∀ {l : List (List Key × V)} {m : List (List Key × Addr × Value)}, KT H l m → ∀ x ∈ m, (tupleKind (mixKind P w)).is h x.1 x.2.1 := by
    intro l m q
    induction q with
    | nil => intro x hx; exact nomatch hx
    | @cons p q ps qs hq t ih =>
      intro x hx
      rcases List.mem_cons.mp hx with e | hx
      · subst e
        exact key_of ok (by rw [← hq.1]; exact hq.2.1)
      · exact ih x hx
  exact all r x hx
end

/-- what the dict at a holds at the key y -/
def DGet (H : Hp) (a : Addr) (y : V) (r : Option V) : Prop :=
  (∃ kvs k, Rd H a (.dK kvs) ∧ y = kV k ∧ r = valV kvs k) ∨ ∃ kvs k b, Rd H a (.dT kvs) ∧ y = .ref b ∧ H b = some (.tup (k.map kV)) ∧ r = valV kvs k
/-- the heap behind a[y] = v -/
def DPut (H : Hp) (a : Addr) (y v : V) (H' : Hp) : Prop :=
  (∃ kvs k, H a = some (.dK kvs) ∧ y = kV k ∧ kvs.length < sizeLine ∧ H' = upd H a (.dK (putK kvs k v))) ∨
  ∃ kvs k b, H a = some (.dT kvs) ∧ y = .ref b ∧ H b = some (.tup (k.map kV)) ∧ kvs.length < sizeLine ∧ H' = upd H a (.dT (putK kvs k v))
theorem DGet.k {H : Hp} {a : Addr} {kvs : List (Key × V)} {k : Key} (e : H a = some (.dK kvs)) : DGet H a (kV k) (valV kvs k) := .inl ⟨kvs, k, .inl e, rfl, rfl⟩
theorem DGet.t {H : Hp} {a b : Addr} {kvs : List (List Key × V)} {k : List Key} (e : H a = some (.dT kvs)) (eb : H b = some (.tup (k.map kV))) : DGet H a (.ref b) (valV kvs k) := .inr ⟨kvs, k, b, .inl e, rfl, eb, rfl⟩
theorem DPut.k {H : Hp} {a : Addr} {kvs : List (Key × V)} {k : Key} {v : V} (e : H a = some (.dK kvs)) (hl : kvs.length < sizeLine) : DPut H a (kV k) v (upd H a (.dK (putK kvs k v))) := .inl ⟨kvs, k, e, rfl, hl, rfl⟩
theorem DPut.t {H : Hp} {a b : Addr} {kvs : List (List Key × V)} {k : List Key} {v : V} (e : H a = some (.dT kvs)) (eb : H b = some (.tup (k.map kV))) (hl : kvs.length < sizeLine) :
    DPut H a (.ref b) v (upd H a (.dT (putK kvs k v))) := .inr ⟨kvs, k, b, e, rfl, eb, hl, rfl⟩


section
variable {X : Cx} {pins : List (Addr × Obj)} {σ : St} {H : Hp} {s : Shared} {a : Addr} {y v : V} {u r : Value} {o : Option V} {A : Around} {E : Value → Shared → Prop}

theorem Inv.big (I : Inv X pins σ H s) : sysModules < s.heap.objs.size := by
  have h : mainGlobals < s.heap.objs.size := (I.mod.glob.keeps I.bk).lt
  exact Nat.lt_trans (by decide) h

/-- d[y], there -/
theorem d_getItem {Q : Value → Shared → Prop} (hu : A.units + 1 < cLine) (I : Inv X pins σ H s) (g : DGet H a y (some v)) (ry : RelV y u) (h : ∀ w' s', Inv X pins σ H s' → RelV v w' → Q w' s') :
    wpAny (model X.prog X.w) A (getItem (.ref a) u) Q E s := by
  rcases g with ⟨kvs, k, e, ey, l⟩ | ⟨kvs, k, b, e, ey, eb, l⟩
  · subst ey
    obtain ⟨z, hd, vs, rel, dd⟩ := dk_rd I.hok e
    obtain ⟨w', hw, rw'⟩ := RelO.some_of (v := v) (o := valueAt vs k) (by rw [l]; exact rel.val k)
    exact wpAny_getItem_of (kV_is ry) dd.mapOf hw (h w' _ (I.tok _) rw')
  · subst ey
    cases (show u = Value.ref b from ry)
    obtain ⟨z, hd, xs, rel, dd⟩ := dt_rd I.hok e
    obtain ⟨w', hw, rw'⟩ := RelO.some_of (v := v) (o := (atKey xs k).map (·.2)) (by rw [l]; exact rel.val k)
    obtain ⟨p, hp, hp2⟩ := Option.map_eq_some_iff.mp hw
    refine wpAny_getItem_heap (tupleKind_room_in1 hu) (key_of I.hok eb) dd hp ?_
    rw [hp2]
    exact h w' _ (I.tok _) rw'
/-- a dict's object is replaced -/
theorem d_write {h' : Heap} {t' : Nat} {ob : HO} (I : Inv X pins σ H s) (mu : Mut (H a)) (hs : Heap.SameBut a s.heap h') (he : ∃ q, h'.get? a = some q) (new : ObjOk X.prog X.w (upd H a ob) h' a ob) :
    Inv X pins σ (upd H a ob) { s with heap := h', toks := t' } :=
  I.write (x := a) (e := a) mu (.inl rfl) (fun b q hb z => (hs.2 b hb).trans z) he new
theorem dk_new {P : Program} {w : World} {H' : Hp} {h' : Heap} {kvs : List (Key × V)} {vs : List (Key × Value)} (z : kvs.length ≤ sizeLine) (hd : (a == sysModules) = false) (rel : KV kvs vs) (dd : h'.DictOf (mixKind P w) a vs) :
    ObjOk P w H' h' a (.dK kvs) := ⟨z, hd, vs, rel, dd⟩
end

section
variable {X : Cx} {pins : List (Addr × Obj)} {σ : St} {H : Hp} {s : Shared} {a : Addr} {kvs : List (Key × V)} {k : Key} {u : Value} {A : Around} {E : Value → Shared → Prop}
end


/-! ### readings and rules -/
theorem dict_typeIs {X : Cx} {pins : List (Addr × Obj)} {σ : St} {H : Hp} {s : Shared} {a : Addr} {y : V} {o : Option V} (I : Inv X pins σ H s) (g : DGet H a y o) : s.TypeIs (.ref a) "dict" := by
  rcases g with ⟨kvs, k, e, _, _⟩ | ⟨kvs, k, b, e, _, _, _⟩
  · obtain ⟨_, _, vs, _, dd⟩ := dk_rd I.hok e
    exact dd.typeIs
  · obtain ⟨_, _, xs, _, dd⟩ := dt_rd I.hok e
    exact dd.typeIs
section
variable {X : Cx} {o i e value : Expr} {pos pos' tpos : Pos} {td ty tv : TE}
end


/-! ### displays -/
theorem dk_empty {P : Program} {w : World} {H : Hp} (h : Heap) (hb : sysModules < h.objs.size) : ObjOk P w H (h.push { cls := .type "dict", data := .dict #[] }) h.objs.size (.dK []) :=
  ⟨Nat.zero_le _, beq_eq_false_iff_ne.mpr (Ne.symm (Nat.ne_of_lt hb)), [], .nil, Heap.DictOf.new h⟩
/-- {}, to be a dict of the kind that is wanted -/
def tDNewK : TE := fun _ H Q => ∀ p, H p = none → Q (.ref p) (upd H p (.dK []))
section
variable {X : Cx} {pos : Pos}
theorem pe_dnewK : PE X (.Dict [] [] pos) tDNewK := fun pins s σ H Q I h =>
  wpAny_Dict_empty ⟨.ref s.heap.objs.size, _, I.laid (a := s.heap.objs.size) (o := .dK []) (t' := s.toks) (fun _ _ q => Heap.get?_push_of_some _ q) (Nat.le_refl _) (dk_empty s.heap I.big), rfl, h _ (I.hok.fresh (Nat.le_refl _))⟩
end

/-- the pairs of a display, from the left -/
def tPairs : List (TE × TE) → St → Hp → (List (V × V) → Hp → Prop) → Prop
  | [], _, H, Q => Q [] H
  | (tk, tv) :: r, σ, H, Q => tk σ H fun x H1 => tv σ H1 fun y H2 => tPairs r σ H2 fun ps H3 => Q ((x, y) :: ps) H3
abbrev VV : List (V × V) → List (Value × Value) → Prop := Paired fun p q => RelV p.1 q.1 ∧ RelV p.2 q.2
def PPs (X : Cx) (pos : Pos) (keys : List (Option Expr)) (values : List Expr) (trs : List (TE × TE)) : Prop :=
  ∀ (pins : List (Addr × Obj)) (s : Shared) (σ : St) (H : Hp) (Q : List (V × V) → Hp → Prop), Inv X pins σ H s → tPairs trs σ H Q →
    wpAny (model X.prog X.w) X.A (evalPairs (pairTrees keys values X.env pos)) (fun vs s' => ∃ ps H', Inv X pins σ H' s' ∧ VV ps vs ∧ Q ps H') X.xe s
theorem pps_nil {X : Cx} {pos : Pos} : PPs X pos [] [] [] := fun pins s σ H Q I h => pairTrees_nil_walk ⟨[], H, I, .nil, h⟩
theorem pps_cons {X : Cx} {pos : Pos} {k v : Expr} {ks : List (Option Expr)} {vs : List Expr} {tk tv : TE} {trs : List (TE × TE)} (hk : PE X k tk) (hv : PE X v tv) (hr : PPs X pos ks vs trs) :
    PPs X pos (some k :: ks) (v :: vs) ((tk, tv) :: trs) := fun pins s σ H Q I h =>
  pairTrees_cons_walk (thn (hk pins s σ H _ I h) fun u s1 ⟨x, H1, I1, rx, q1⟩ => thn (hv pins s1 σ H1 _ I1 q1) fun w2 s2 ⟨y, H2, I2, ry, q2⟩ =>
    thn (hr pins s2 σ H2 _ I2 q2) fun ws s3 ⟨ps, H3, I3, rel, q3⟩ => ⟨(x, y) :: ps, H3, I3, .cons ⟨rx, ry⟩ rel, q3⟩)

def mergeK (kvs more : List (Key × V)) : List (Key × V) := more.foldl (fun acc kv => putK acc kv.1 kv.2) kvs
theorem KV.merge : ∀ {more : List (Key × V)} {rs : List (Key × Value)} {kvs : List (Key × V)} {vs : List (Key × Value)}, KV more rs → KV kvs vs → KV (mergeK kvs more) (merged vs rs) := by
  intro more rs kvs vs r
  unfold KV at r
  induction r generalizing kvs vs with
  | nil => intro q; exact q
  | @cons p q ps qs h t ih =>
    intro r0
    have e : KV (putK kvs p.1 p.2) (stored vs q.1 q.2) := by
      have := r0.put p.1 h.2
      rw [← h.1]; exact this
    exact ih e
theorem length_mergeK : ∀ (more kvs : List (Key × V)), (mergeK kvs more).length ≤ kvs.length + more.length
  | [], kvs => by show kvs.length ≤ kvs.length + 0; omega
  | p :: r, kvs => by
    have h1 := length_mergeK r (putK kvs p.1 p.2)
    have h2 := length_putK kvs p.1 p.2
    show (mergeK (putK kvs p.1 p.2) r).length ≤ _
    rw [List.length_cons]; omega
theorem carries_of {P : Program} {w : World} : ∀ {kvs : List (Key × V)} {ws : List (Value × Value)}, VV (kvs.map fun kv => (kV kv.1, kv.2)) ws → ∃ rs, Carries (mixKind P w) ws rs ∧ KV kvs rs
  | [], _, r => by rw [List.map_nil] at r; cases r; exact ⟨[], True.intro, .nil⟩
  | p :: kvs, _, r => by
    rw [List.map_cons] at r
    cases r with
    | @cons a b as bs h t =>
      obtain ⟨rs, c, q⟩ := carries_of (P := P) (w := w) t
      obtain ⟨b1, b2⟩ := b
      exact ⟨(p.1, b2) :: rs, ⟨kV_is h.1, rfl, c⟩, .cons ⟨rfl, h.2⟩ q⟩
/-- {k: v, ..} with keys ints and texts; the new dict stands empty while the pairs are made -/
def tDisp (trs : List (TE × TE)) : TE := fun σ H Q => ∀ p, H p = none → tPairs trs σ (upd H p (.dK [])) fun ps H2 => H2 p = some (.dK []) ∧ ∃ kvs : List (Key × V), ps = kvs.map (fun kv => (kV kv.1, kv.2)) ∧ kvs.length ≤ 15 ∧ Q (.ref p) (upd H2 p (.dK (mergeK [] kvs)))
theorem pe_disp {X : Cx} {pos : Pos} {keys : List (Option Expr)} {values : List Expr} {trs : List (TE × TE)} (h : PPs X pos keys values trs) (hall : keys.all (·.isSome) = true) (hl : keys.length = values.length) (h0 : keys ≠ [])
    (h15 : keys.length ≤ 15) : PE X (.Dict keys values pos) (tDisp trs) := by
  intro pins s σ H Q I q
  have hn := I.hok.fresh (Nat.le_refl s.heap.objs.size)
  have I1 := I.laid (a := s.heap.objs.size) (o := .dK []) (h' := s.heap.push { cls := .type "dict", data := .dict #[] }) (t' := s.toks) (fun _ _ q => Heap.get?_push_of_some _ q) (Nat.le_refl _) (dk_empty s.heap I.big)
  refine wpAny_Dict_walk (knd := mixKind X.prog X.w) hall hl h0 h15 (thn (h pins _ σ _ _ I1 (q _ hn)) fun ws s2 ⟨ps, H2, I2, rel, e, kvs, ep, lk, q2⟩ => ?_)
  subst ep
  obtain ⟨rs, c, rk⟩ := carries_of (P := X.prog) (w := X.w) rel
  obtain ⟨z, hd, vs0, r0, dd⟩ := dk_of I2.hok e
  cases r0
  refine ⟨rs, c, dd, fun h' dd' hs => ⟨.ref s.heap.objs.size, _, ?_, rfl, q2⟩⟩
  have hz : (mergeK [] kvs).length ≤ sizeLine := by
    have h1 := length_mergeK kvs []
    rw [List.length_nil] at h1
    rw [sizeLine_eq]; omega
  have he : ∃ q, h'.get? s.heap.objs.size = some q := let ⟨q, _, _, hq, _⟩ := dd'; ⟨q, hq⟩
  exact d_write I2 (by rw [e]; exact True.intro) hs he (dk_new hz hd (rk.merge .nil) dd')


/-! ### methods -/
/-- a method call o.m(e) of a built-in, with one argument: what must be seen of the text -/
structure M1 (X : Cx) (o : Expr) (m : Str) (apos : Pos) (e : Expr) (cpos : Pos) : Prop where
  base : attributeBase o m X.env (eval o X.env) = eval o X.env
  few : ((backTo cpos (starEach [e] X.env)).all (fun x => !x.1) && (backToKw cpos (keywordEach [] X.env)).all (fun x => x.1.isSome)
    && decide (([e] : List Expr).length + ([] : List Keyword).length + (if ([] : List Keyword).isEmpty then 0 else 1) < 30)) = true
  line : (apos.endLine == cpos.line) = true
  trees : backTo cpos (starEach [e] X.env) = [(false, eval e X.env)]
structure M2 (X : Cx) (o : Expr) (m : Str) (apos : Pos) (e f : Expr) (cpos : Pos) : Prop where
  base : attributeBase o m X.env (eval o X.env) = eval o X.env
  few : ((backTo cpos (starEach [e, f] X.env)).all (fun x => !x.1) && (backToKw cpos (keywordEach [] X.env)).all (fun x => x.1.isSome)
    && decide (([e, f] : List Expr).length + ([] : List Keyword).length + (if ([] : List Keyword).isEmpty then 0 else 1) < 30)) = true
  line : (apos.endLine == cpos.line) = true
  trees : backTo cpos (starEach [e, f] X.env) = [(false, eval e X.env), (false, eval f X.env)]

section
variable {X : Cx} {pins : List (Addr × Obj)} {σ : St} {H : Hp} {s : Shared} {a : Addr} {y d : V} {u r : Value} {o : Option V} {A : Around} {E : Value → Shared → Prop}
end

section
variable {X : Cx} {o e f : Expr} {apos cpos : Pos} {td ty tx : TE}
end

/-! ### dict(d): a copy -/
section
variable {X : Cx} {pins : List (Addr × Obj)} {σ : St} {H : Hp} {s : Shared} {a : Addr} {kvs : List (Key × V)} {A : Around} {E : Value → Shared → Prop}
end


section
variable {X : Cx} {pins : List (Addr × Obj)} {σ : St} {H : Hp} {s : Shared} {a : Addr} {y : V} {u : Value} {A : Around} {E : Value → Shared → Prop}
end
end L2

namespace L2
open PySem PySem.Spec PyProof.Rows

section
variable {prog : Program} {w : World} {A : Around} {E : Value → Shared → Prop}
end

section
variable {X : Cx}
end
end L2

namespace L2
open PySem PySem.Spec PyProof.Rows

section
variable {X : Cx} {pins : List (Addr × Obj)} {σ : St} {H : Hp} {s : Shared} {h' : Heap}
/-! ### locking a thing while a statement runs -/
end
section
variable {X : Cx}
/-! ### one iterator just laid -/
theorem pi_one {tg : Expr} {pins : List (Addr × Obj)} {σ : St} {H : Hp} {s : Shared} {R : It → Hp → Prop} {J : It} {tn : Nat → Heap → Prop} {tk : Nat} (I : Inv X pins σ H s) (o : Obj)
    (T : Turn X.prog X.w X.K tg J [s.heap.objs.size] s.heap.objs.size tn) (st : tn 0 (s.heap.push o)) (q : R J H) : PIE X pins σ tg R (.ref s.heap.objs.size) { s with heap := s.heap.push o, toks := tk } := by
  refine ⟨s.heap.objs.size, [s.heap.objs.size], tn, J, H, rfl, I.kept fun b ob e => Heap.get?_push_of_some _ e, T, st, fun b hb => ?_, q⟩
  have e : b = s.heap.objs.size := by simpa using hb
  subst e
  exact I.fpOk (Nat.le_refl _) (I.hok.fresh (Nat.le_refl _))
end

/-! ### range with a step -/
/-- range(i, j, c): small bounds, n items -/
def RgC (i j c : Int) (n : Nat) : Prop := c ≠ 0 ∧ c.natAbs < 1073741824 ∧ Builtin.Range.small i j c = true ∧ Builtin.Range.rangeSize i j c = n
theorem RgC.neg {i j : Int} (ha : -(2 ^ 62) ≤ i) (ha' : i < 2 ^ 62) (hb : -(2 ^ 62) ≤ j) (hb' : j < 2 ^ 62) : RgC i j (-1) (i - j).toNat :=
  ⟨by decide, by decide, PySem.W.small_down ha ha' hb hb', PySem.W.rangeSize_downNat i j⟩
section
variable {X : Cx} {tg : Expr}
end
/-! ### reversed(list) -/
section
variable {X : Cx} {tg : Expr}
end

/-! ### a str -/
def Its (x : Str) : It := ⟨fun i _ => i < x.cps.size, fun i H v H' => H' = H ∧ ∃ c, x.cps[i]? = some c ∧ v = .str ⟨#[c]⟩, fun i _ => x.cps.size ≤ i⟩
theorem turn_str {P : Program} {w : World} {K : PySem.W.Frag} {tg : Expr} (it : Addr) (x : Str) (t : Tok) (ty : String) (hty : ty = "str_ascii_iterator" ∨ ty = "str_iterator") :
    Turn P w K tg (Its x) [it] it (fun i h => h.IsStrIter it ty x t i) where
  mem := by simp
  obj := fun i h st b hb => by
    have e : b = it := by simpa using hb
    subst e
    obtain ⟨o, e, c, d⟩ := st
    exact ⟨o, e, fun v z => by rw [d] at z; cases z⟩
  keep := fun i h h' st k => let ⟨o, ho, r⟩ := st; ⟨o, k it (by simp) o ho, r⟩
  item := by
    intro X hP hw hK hc i pins s σ H E I hf st hg
    subst hP hw hK
    obtain ⟨f0, f1, f2, f3, f4, f5⟩ := hf it (by simp)
    have W : Walks X.prog X.w X.A it [it] [it] x.cps.size (SignAt x) (fun i h => h.IsStrIter it ty x t i) := by
      rcases hty with e | e
      · rw [e]; exact Walks.strAscii (I.ok.hd hc) it x t
      · rw [e]; exact Walks.strWide (I.ok.hd hc) it x t
    have hno : ["enumerate", "zip", "dict_itemiterator", "dict_reverseitemiterator", "odict_iterator", "itertools.zip_longest", "itertools.pairwise"].contains ty = false := by
      rcases hty with e | e
      · rw [e]; decide
      · rw [e]; decide
    refine W.item i s _ _ hg st fun v h' tk hv st' kk => ?_
    obtain ⟨c, u, hcx, rfl⟩ := hv
    have I1 : Inv X pins σ H { s with heap := h', toks := tk } := I.turned (fun b o hb e => kk b o (by simpa using hb) e) f0 f1 f3 f4 f5
    obtain ⟨oi, e, cc, dd⟩ := id st'
    exact ⟨_, rfl, go_of (s := { s with heap := h', toks := tk }) e cc dd hno ⟨.str ⟨#[c]⟩, H, I1, ⟨u, rfl⟩, ⟨rfl, c, hcx, rfl⟩, st', fun b hb => (hf b hb).1⟩⟩
  done := by
    intro X hP hw hK hc i pins s σ H E I hf st hg
    subst hP hw hK
    obtain ⟨f0, f1, f2, f3, f4, f5⟩ := hf it (by simp)
    have hx : x.cps[i]? = none := Array.getElem?_eq_none hg
    rcases hty with e | e
    · rw [e] at st
      exact wpAny_pyNext_ascii_end (I.ok.hd hc) st hx fun h' eb => ⟨rfl, I.turned (t' := s.toks) (fun b o hb e => eb b o hb e) f0 f1 f3 f4 f5⟩
    · rw [e] at st
      exact wpAny_pyNext_wide_end (I.ok.hd hc) st hx fun h' eb => ⟨rfl, I.turned (t' := s.toks) (fun b o hb e => eb b o hb e) f0 f1 f3 f4 f5⟩
  self := fun A i s Q E st h => by
    rcases hty with e | e
    · rw [e] at st; exact wpAny_pyIter_striter_ascii st h
    · rw [e] at st; exact wpAny_pyIter_striter_wide st h
def iStr (te : TE) : TI := fun σ H R => te σ H fun v H1 => ∃ x, v = .str x ∧ R (Its x) H1
theorem pi_str {X : Cx} {tg e : Expr} {te : TE} (he : PE X e te) : PI X tg e (iStr te) := by
  intro pins s σ H R I h
  refine thn (he pins s σ H _ I h) fun v s1 ⟨y, H1, I1, r1, x, ex, q⟩ => ?_
  subst ex
  obtain ⟨t, rfl⟩ := r1
  cases ha : x.cps.all (· < 128)
  · exact wpAny_pyIter_wide ha (pi_one (tk := s1.toks) I1 _ (turn_str _ x t "str_iterator" (.inr rfl)) ⟨_, Heap.get?_push_size _ rfl, rfl, rfl⟩ q)
  · exact wpAny_pyIter_ascii ha (pi_one (tk := s1.toks) I1 _ (turn_str _ x t "str_ascii_iterator" (.inl rfl)) ⟨_, Heap.get?_push_size _ rfl, rfl, rfl⟩ q)

/-! ### a dict's keys: any dict's entries -/
section
variable {prog : Program} {w : World} {A : Around} {E : Value → Shared → Prop} {s : Shared}
end

/-! ### a locked dict -/
section
variable {X : Cx} {pins : List (Addr × Obj)} {σ : St} {H : Hp} {s : Shared} {d : Addr} {o : Obj}
end

section
variable {P : Program} {w : World} {K : PySem.W.Frag} {tg : Expr} {d : Addr} {o : Obj} {es : Array DictEntry} {ep : Nat}
end

/-! ### for k in d, d.keys(), d.values(), d.items() -/
section
variable {X : Cx} {tg e : Expr} {td : TE} {apos cpos : Pos}
end

/-! ### enumerate(list) -/
/-! ### zip(list, list) -/
end L2

section 
namespace Bits
open PySem PyProof.Rows

end Bits
end 

section 
namespace TL
open PySem PySem.Builtin PySem.Builtin.Str PySem.StrLaws

abbrev tl (x : Str) : List Nat := x.cps.toList
/-! ### the list functions -/
/-- S stands at the head of l -/
def pre (S l : List Nat) : Bool := l.take S.length == S
/-- what stands before the first S, and behind it -/
def par (S : List Nat) : List Nat → List Nat → Option (List Nat × List Nat)
  | _, [] => none
  | acc, c :: r => if pre S (c :: r) = true then some (acc, (c :: r).drop S.length) else par S (acc ++ [c]) r

/-! ### the model's split and partition are these -/
/-! ### computing spl and par -/
/-! ### digits -/
/-! ### words: x.split() -/
end TL
end 

namespace L2
open PySem PySem.Spec PyProof.Rows

section
variable {X : Cx} {pins : List (Addr × Obj)} {σ : St} {H : Hp} {s : Shared} {Q : VK}
end

section
variable {X : Cx}

/-! ### of a text alone -/
/-! ### of a text and a text -/
end

section
variable {X : Cx} {o e : Expr} {to te : TE}
end
end L2

namespace L2
open PySem PySem.Spec PyProof.Rows

section
variable {X : Cx}
theorem op_le_str : OpR X (compareOp .LtE) (fun x y H Q => ∃ i j, x = .str i ∧ y = .str j ∧ Q (.bl (!decide (j.cps.toList < i.cps.toList))) H) := by
  intro pins s σ H x y v u Q I rx ry h
  obtain ⟨i, j, rfl, rfl, q⟩ := h
  obtain ⟨t, rfl⟩ := rx
  obtain ⟨t', rfl⟩ := ry
  exact PySem.P.le_str (fin_bl I q rfl)
theorem op_ge_str : OpR X (compareOp .GtE) (fun x y H Q => ∃ i j, x = .str i ∧ y = .str j ∧ Q (.bl (!decide (i.cps.toList < j.cps.toList))) H) := by
  intro pins s σ H x y v u Q I rx ry h
  obtain ⟨i, j, rfl, rfl, q⟩ := h
  obtain ⟨t, rfl⟩ := rx
  obtain ⟨t', rfl⟩ := ry
  exact PySem.P.ge_str (fin_bl I q rfl)
end

/-! ### slices of a text -/
theorem IsPart.raw {v : Value} {o : Option Int} (p : IsPart v o) : ∃ l : Option (Int × Tok), v = partValue l ∧ l.map (·.1) = o := by
  cases p with
  | none => exact ⟨none, rfl, rfl⟩
  | int i t => exact ⟨some (i, t), rfl, rfl⟩

end L2

namespace Att
open PySem PySem.W PySem.Calls PyProof.Rows

/-! ### the script -/
theorem ints_of_wellAll {P : Params} {h : Heap} : ∀ (ns : List Int) (vs : List Value), WellAll P h vs (ns.map WData.int) → IntsAre vs ns := by
  intro ns
  induction ns with
  | nil =>
    intro vs w
    rw [List.map_nil] at w
    cases w
    exact .nil
  | cons n ns ih =>
    intro vs w
    rw [List.map_cons] at w
    cases w with
    | cons a b =>
      cases a
      exact .cons _ _ (ih _ b)

theorem script_of {l : OpenLaw} {n : Nat} (hn : l.most = some n) {P : Params} {h : Heap} {args : List WData} {vals : List Value}
    (hpre : l.row.toRowW.claim.pre args = true) (hwl : WellAll P h vals args) :
    ∃ a vs ns, vals = [Value.ref a] ∧ args = [WData.list (ns.map WData.int)] ∧ h.get? a = some { cls := .type "list", data := .seq vs.toArray } ∧ IntsAre vs ns ∧ ns.length ≤ n := by
  have hsh : WShape.hasAll [] args [.list .int] = true := (pre_splitW hpre).1
  have hc : l.pre.holds [] { args := args } = true := (pre_splitW hpre).2
  obtain ⟨d, r, rfl, h1, h2⟩ := hasAllW_cons hsh
  obtain rfl := hasAllW_nil h2
  obtain ⟨xs, rfl, h3⟩ := hasW_list h1
  obtain ⟨ns, rfl⟩ := items_int h3
  have hlen : ns.length ≤ n := by
    unfold OpenLaw.pre at hc
    have h4 : (WTm.not (.lt (.lit (.int (n : Int))) (.len (.arg 0)))).holds [] { args := [.list (ns.map .int)] } = true := by
      have h4 := (holds_andW hc).1
      rw [hn] at h4
      exact h4
    have h5 := condW_of h4 (w_not (w_lt w_lit (w_len_list (w_arg rfl))))
    rw [List.length_map] at h5
    refine Nat.le_of_not_lt fun q => ?_
    have q' : (n : Int) < ((ns.length : Nat) : Int) := by omega
    first
      | (rw [decide_eq_true q'] at h5; exact absurd h5 (by decide))
      | (simp at h5; omega)
  cases hwl with
  | cons w1 w2 =>
    cases w2
    cases w1 with
    | list ho hall => exact ⟨_, _, ns, rfl, rfl, ho, ints_of_wellAll ns _ hall, hlen⟩

theorem post_true (l : OpenLaw) (args : List WData) : l.row.toRowW.claim.post args (.bool true) args = true :=
  postW_of (r := l.row.toRowW) (X := (true == true))
    (show WShape.has [] (.bool true) .bool = true by first | rfl | decide | simp [WShape.has, WShape.arms, WShape.armsAll])
    (show (WTm.eq .res (.lit (.bool true))).value [] { args := args, res := some (.bool true), after := args } = some (.bool (true == true)) from w_eq_bool (w_res rfl) w_lit) rfl

/-! ### the attachment: holds_open's last premise (the goal 'hc' behind k_head) from a wpAny of the law's body -/
/-- the same from a codeAny of the CALL (for a layer whose function contracts speak of calls) -/
theorem attach_call {l : OpenLaw} {n : Nat} {q : Program} {loose : List Str} {XP : (Str → Option Value) → Heap → Prop} {YP : World → Heap → Prop} {d : DefRec}
    (hn : l.most = some n) (hdf : d.params.defaults = [])
    (call : ∀ (w : World) (s₀ s₁ : Shared) (mg mb : Str → Option Value) (fa : Addr) (o : Obj) (pm cd doc : Value) (a : Addr) (vs : List Value) (ns : List Int),
      Ground q loose [] XP w s₀ mg mb s₁.heap → YP w s₁.heap →
      s₁.heap.get? fa = some o → o.data = .func (docDef d.name d.params d.body d.scope pm cd doc) → s₁.heap.CodeRec cd d.name → mg d.name = some (.ref fa) →
      s₁.heap.get? a = some { cls := .type "list", data := .seq vs.toArray } → IntsAre vs ns → ns.length ≤ n → s₁.gens = #[] →
      codeAny (model l.prog w) callerA (.call (.ref fa) ⟨[.ref a], []⟩) (fun r s' => r = .ok (.ret (.bool true)) ∧ OldK s₁.heap s'.heap ∧ s'.os = s₁.os ∧ AllBare s'.gens) s₁) :
    WalkO q loose XP YP l.row.toRowW d [] (fun f vs => PySem.call f vs) := by
  intro w s₀ s₁ mg mb G Y fa o pm cd doc dV kV ho hd hcd hD hmg hg args vals as hpre hlay hrd hwl hlo
  obtain rfl : dV = .none := Dflts.none hD hdf
  obtain rfl : kV = .none := Dflts.noKw hD
  obtain ⟨a, vs, ns, rfl, rfl, hobj, hints, hlen⟩ := script_of hn hpre hwl
  refine enter_call (codeAny_mono (call w s₀ s₁ mg mb fa o pm cd doc a vs ns G Y ho (fd_plain hd) hcd hmg hobj hints hlen hg) fun r s' hq => ?_)
  obtain ⟨rfl, h2, h3, h4⟩ := hq
  exact ⟨.inl ⟨.bool true, .bool true, [], rfl, fun _ => rfl, .bool true, post_true l _, fun _ => ⟨List.Pairwise.nil, fun _ hm => (nomatch hm)⟩⟩, h2, h3, h4⟩

/-! ### rules over ANY heap (no ledger) from facts about the written part K: the library's own take a ledger (News) for what they write -/
section
variable {prog : Program} {w : World} {A : Around} {E : Value → Shared → Prop} {s : Shared} {K : Frag}

/-! the whole heap as the ledger: makes every rule that writes through a ledger a rule over any heap -/
end
end Att

namespace L2
open PySem PySem.Spec PyProof.Rows

theorem vals_ints : ∀ {vs : List Value} {ns : List Int}, IntsAre vs ns → Vals (ns.map V.int) vs
  | _, _, .nil => .nil
  | _, _, .cons n t h => .cons ⟨t, rfl⟩ (vals_ints h)

end L2

namespace L2
open PySem PySem.Spec PyProof.Rows

end L2

/- THE LAST THEOREM (shape; LID, My.* are yours):
   My.Adr: a structure of the addresses that your layer names (classes, functions); My.Txt K t: a structure (Prop) of the equations over K;
   My.txt_mk : {K} {implicit addresses ..} (e1 : nsIn K mainGlobals "law" = some (some (.ref f))) (e2 : K.lookup f = some ⟨oc, od, .func (fnOf "law" "law" params body scope dV kV doc pm an cdv ct), sl⟩) (e3 : codeIn K cdv "law" = true) .. : ∃ t, My.Txt K t

set_option maxRecDepth 100000 in
set_option maxHeartbeats 0 in
theorem PySem.Challenge.cw_LID_holds : PySem.Challenge.rw_LID.Holds := by
  w_on; o_law; k_head; (case hw => w_witness2)
  k_fill
  refine L2.walk_of (l := PySem.Challenge.rw_LID) (n := 63) (k := 40) (x := "script") (CX := fun w => ..) (sp := fun _ => My.sp_law) rfl (by decide) rfl ⟨rfl, by decide, by decide⟩ (fun w h Y => PySem.W.kIn_of Y) ?F ?S ?C
  case F =>
    intro w mg fa h KX G hmg
    have T : ∃ t, My.Txt (L2.KOf KX) t := by
      dsimp only [L2.KOf]                          -- K must stand as «<heap const> w.params» for k_is
      refine' My.txt_mk ?e1 ?e2 ?e3 ..
      (case e1 => PySem.W.k_is)                    -- in the order: a name -> its address -> its object -> its parts
      (case e2 => PySem.W.k_is)
      ..
    obtain ⟨t, T⟩ := T
    have e0 := hmg.symm.trans (PySem.W.mg_of KX G T.law)
    cases e0                                       -- fa is the law's own address
    exact ⟨_, fun s u => .of_eq rfl, fun base kb nb => My.law_fn T kb nb⟩     -- if «.of_eq rfl» comes too early: refine' ⟨_, ?b, fun base kb nb => My.law_fn T kb nb⟩; exact fun s u => .of_eq rfl
  case S => exact fun w H a ns hl hO hS => ..
  case C => exact ..
(the tactic k_is has no namespace: write k_is) -/

/-! SHORT WORDS over the layer: a def of the text, its body, what a loop and a test want. -/
namespace L2
open PySem PySem.Spec PyProof.Rows

/-! ### the text by places -/
def defArgs (s : Stmt) : Arguments := match s with
  | .FunctionDef _ a _ _ _ _ _ _ _ _ => a
  | _ => { posonlyargs := [], args := [], vararg := none, kwonlyargs := [], kw_defaults := [], kwarg := none, defaults := [] }
def defBody (s : Stmt) : List Stmt := match s with
  | .FunctionDef _ _ b _ _ _ _ _ _ _ => b
  | _ => []
def defScope (s : Stmt) : Scope := match s with
  | .FunctionDef _ _ _ _ _ _ sc _ _ _ => sc
  | _ => { kind := .function, names := [], isGenerator := false, isCoroutine := false }

/-! ### no exception leaves a def -/
abbrev CX0 : CXT := fun _ _ _ _ _ _ => False
abbrev E0 : XK := fun _ _ _ => False
theorem pass0 {X : Cx} : Passes CX0 X E0 := fun _ _ _ _ _ _ _ h => h.elim

/-! ### a def (or method) of the text as it stands behind the top -/
structure Fun (K : PySem.W.Frag) (x qual : Str) (st : Stmt) (f : Addr) (fd : FuncData) : Prop where
  ex : ∃ (oc : Value) (od : Option Addr) (kV doc pm : Value) (an : Option Addr) (cdv ct : Value) (osl : Array (Option Value)),
    fd = PySem.W.fnOf x qual (defArgs st) (defBody st) (defScope st) .none kV doc pm an cdv ct ∧ K.lookup f = some ⟨oc, od, .func fd, osl⟩ ∧ PySem.W.codeIn K cdv qual = true
  kp : PySem.W.keepIn K (.ref f) = true
section
variable {P : Program} {w : World} {K : PySem.W.Frag} {mg : Str → Option Value} {base : Heap}
/-- THE RULE for a def: its body as a term of rules, and the reading of that term -/
theorem Fun.ok {x qual : Str} {st : Stmt} {f : Addr} {fd : FuncData} {N ps : List Str} {k : Nat} {sp : Sp} (F : Fun K x qual st f fd) (S : FnScope N ps (defScope st)) (len : ∀ vs H Q E, sp vs H Q E → vs.length = ps.length)
    (hbody : ∀ (cdv : Value) (A : Around) (outer : List Env) (s : Shared) (H : Hp) (vs : List V) (Q : VK) (E : XK), Room k (A.deeper (envOfC qual (defScope st) s.heap.objs.size f cdv)) → sp vs H Q E →
      ∃ t, PSs (cxOf CX0 P w K mg base N qual (defScope st) f cdv A outer s H E).nox (defBody st) t ∧ t { nx := fun _ H' => Q .non H', rt := Q } (start N vs) H) : FnOk P w K mg base CX0 (k + 1) f fd ps sp := by
  obtain ⟨oc, od, kV, doc, pm, an, cdv, ct, osl, rfl, lk, hcd⟩ := F.ex
  refine fn_of lk hcd S len fun A outer s H vs Q E hr hsp => ?_
  obtain ⟨t, h, q⟩ := hbody cdv A outer s H vs Q E hr hsp
  exact ⟨t, h.nox, q⟩
/-- how its arguments bind (no defaults): h is «fun _ _ _ _ _ _ us hl => match us, hl with | [_, _], _ => rfl», one _ a parameter -/
theorem Fun.binds {x qual : Str} {st : Stmt} {f : Addr} {fd : FuncData} {ps : List Str} (F : Fun K x qual st f fd)
    (h : ∀ (kV doc pm : Value) (an : Option Addr) (cdv ct : Value) (us : List Value), us.length = ps.length → bindArgs (PySem.W.fnOf x qual (defArgs st) (defBody st) (defScope st) .none kV doc pm an cdv ct) ⟨us, []⟩ = pure (ps.zip us)) : Binds K fd ps [] := by
  obtain ⟨oc, od, kV, doc, pm, an, cdv, ct, osl, rfl, lk, hcd⟩ := F.ex
  exact .all (h kV doc pm an cdv ct)
theorem fun_mk {x qual : Str} {st : Stmt} {f : Addr} {oc : Value} {od an : Option Addr} {osl : Array (Option Value)} {kV doc pm cdv ct : Value} (l : K.lookup f = some ⟨oc, od, .func (PySem.W.fnOf x qual (defArgs st) (defBody st) (defScope st) .none kV doc pm an cdv ct), osl⟩)
    (c : PySem.W.codeIn K cdv qual = true) (k : PySem.W.keepIn K (.ref f) = true) : Fun K x qual st f (PySem.W.fnOf x qual (defArgs st) (defBody st) (defScope st) .none kV doc pm an cdv ct) := ⟨⟨oc, od, kV, doc, pm, an, cdv, ct, osl, rfl, l, c⟩, k⟩
end
theorem hu_of {A : Around} {k : Nat} (hr : Room k A) : A.units + 1 < cLine := Nat.lt_of_le_of_lt (Nat.add_le_add_left (by decide : 1 ≤ 64) _) hr.units
/-! ### expressions in short: the name that stands in the i-th slot -/
section
variable {X : Cx}
theorem pv (i : Nat) {x : Str} {pos : Pos} (hN : X.N[i]? = some x := by rfl) (hv : Vis X.env.scope x := by first | exact Or.inl rfl | exact Or.inr (Or.inl rfl) | exact Or.inr (Or.inr rfl)) (hd : (x == ("__debug__" : Str)) = false := by decide)
    (hcd : (x == ("__classdict__" : Str)) = false := by decide) : PE X (.Name x pos) (tVar i) := pe_var hN hv hd hcd
end

/-! ### tests -/
/-! ### heaps -/
/-- all that was tracked is as it was -/
def Same (H H' : Hp) : Prop := ∀ b o, H b = some o → H' b = some o
theorem Same.refl (H : Hp) : Same H H := fun _ _ h => h
theorem Same.trans {H H1 H2 : Hp} (a : Same H H1) (b : Same H1 H2) : Same H H2 := fun c o h => b c o (a c o h)
theorem Same.free {H H' : Hp} (e : Same H H') {l : Addr} (h : H' l = Option.none) : H l = Option.none := by
  cases q : H l with
  | none => rfl
  | some o =>
    rw [e l o q] at h
    cases h
theorem Same.seq {K : PySem.W.Frag} {H H' : Hp} {a : Addr} {xs : List V} (e : Same H H') (h : SqL K H a xs) : SqL K H' a xs := by
  rcases h with (h | ⟨o, h⟩) | h
  · exact .inl (.inl (e _ _ h))
  · exact .inl (.inr ⟨o, e _ _ h⟩)
  · exact .inr h

/-! ### a dict's pairs: keys that differ -/
section
variable {κ : Type} [DecidableEq κ]
end
/-! ### lists -/
/-- a new instance and its __init__ leave all that was tracked as it was -/
theorem Same.made {H H1 : Hp} {x dx C : Addr} (nx : H x = Option.none) (nd : H dx = Option.none) (k : ∀ b o, (upd (upd H dx (.own x)) x (.ins C dx [])) b = some o → b ≠ x → H1 b = some o) : Same H H1 := fun b o e =>
  k b o (by rw [upd_ne (ne_of_none e nx), upd_ne (ne_of_none e nd)]; exact e) (ne_of_none e nx)
end L2
set_option Elab.async false
set_option linter.all false
set_option maxRecDepth 100000
namespace L2
open PySem PySem.Spec PyProof.Rows

/-! ### more operators: factors and divisors of any size within four thousand bits -/
def Big (i : Int) : Prop := i.natAbs < 2 ^ 4000
instance (i : Int) : Decidable (Big i) := inferInstanceAs (Decidable (_ < _))
theorem Big.bits {i : Int} (h : Big i) : Builtin.Int.intBits i ≤ 2 ^ 20 :=
  Nat.le_trans (PySem.intBits_le_iff.mpr h) (by decide)
theorem Big.log {i : Int} (h : Big i) : i.natAbs.log2 < 9000 := by
  by_cases h0 : i.natAbs = 0
  · rw [h0]; decide +kernel
  · have : i.natAbs.log2 < 4000 := (Nat.log2_lt h0).mpr h
    omega
theorem Big.of {i : Int} (h1 : -(2 ^ 4000) < i) (h2 : i < 2 ^ 4000) : Big i := by
  unfold Big
  have e : ((2 : Int) ^ 4000) = ((2 ^ 4000 : Nat) : Int) := by rw [Int.natCast_pow]; rfl
  rw [e] at h1 h2
  omega
section
variable {X : Cx}
theorem op_mulB : OpR X (binaryOp .Mult) (rI (fun i j => Big i ∧ Big j) fun i j => .int (i * j)) := opI fun _ _ _ _ _ _ _ hc q => mul_int q (IntMulOk.of_bits hc.1.bits hc.2.bits)
theorem op_fdivB : OpR X (binaryOp .FloorDiv) (rI (fun _ j => 0 < j ∧ Big j) fun i j => .int (i / j)) := opI fun i j _ _ _ _ _ hc q => by
  refine floordiv_int (by omega) ?_ (.inl (PyProof.noPylong_of_log2 hc.2.log))
  rw [Int.fdiv_eq_ediv_of_nonneg i (by omega)]; exact q
theorem call_divmodB : CallR X (.builtin "divmod") (fun xs H Q => ∃ i j, xs = [.int i, .int j] ∧ (0 < j ∧ Big j) ∧ ∀ p, H p = none → Q (.ref p) (upd H p (.tup [.int (i / j), .int (i % j)]))) := by
  intro pins s σ H xs us Q I r h
  obtain ⟨i, j, rfl, ⟨h1, h2⟩, q⟩ := h
  obtain ⟨u, w', rfl, ⟨t, rfl⟩, ⟨t', rfl⟩⟩ := vals2 r
  refine divmod_int (by omega) ?_ (.inl (PyProof.noPylong_of_log2 h2.log))
  rw [Int.fdiv_eq_ediv_of_nonneg i (by omega), Int.fmod_eq_emod_of_nonneg i (by omega)]
  have hn : H s.heap.objs.size = none := I.hok.fresh (Nat.le_refl _)
  refine ⟨.ref s.heap.objs.size, _, ?_, rfl, q _ hn⟩
  refine I.laid (fun b o e => Heap.get?_push_of_some _ e) (Nat.le_refl _) ⟨by simp only [List.length_cons, List.length_nil]; rw [sizeLine_eq]; decide, [.int (i / j) s.toks, .int (i % j) (s.toks + 1)], .cons ⟨_, rfl⟩ (.cons ⟨_, rfl⟩ .nil), ?_⟩
  exact ⟨_, Heap.get?_push_size s.heap rfl, rfl, 0, rfl⟩

/-! ### isinstance by a built-in class -/
/-! ### a def of the text: all that a caller wants of it -/
def FP (P : Program) (w : World) (K : PySem.W.Frag) (mg : Str → Option Value) (base : Heap) (k : Nat) (x : Str) (ps : List Str) (sp : Sp) : Prop :=
  ∃ f fd, mg x = some (.ref f) ∧ PySem.W.keepIn K (.ref f) = true ∧ Binds K fd ps [] ∧ FnOk P w K mg base CX0 k f fd ps sp
/-- a def of the text as it stands behind the top -/
def FD (K : PySem.W.Frag) (mg : Str → Option Value) (x : Str) (st : Stmt) (ps : List Str) : Prop :=
  ∃ f fd, mg x = some (.ref f) ∧ Fun K x x st f fd ∧ Binds K fd ps []
theorem FP.mono {P w K mg base j k x ps sp} (F : FP P w K mg base j x ps sp) (h : j ≤ k) : FP P w K mg base k x ps sp := by
  obtain ⟨f, fd, a, b, c, d⟩ := F
  exact ⟨f, fd, a, b, c, d.mono h⟩
variable {k : Nat} {x : Str} {ps : List Str} {sp : Sp} {p pos : Pos} {e : Expr} {es : List Expr} {t : TA}
theorem pe_callF (F : FP X.prog X.w X.K X.mg X.base k x ps sp) (hr : Room k X.A) (hg : Gl X x) (ha : PA X (e :: es) t)
    (hdb : (x == ("__debug__" : Str)) = false := by decide) (he : starEach (e :: es) X.env = (false, eval e X.env) :: starEach es X.env := by rfl) (hpl : (backTo pos (starEach es X.env)).any (·.1) = false := by rfl) :
    PE X (.Call (.Name x p) (e :: es) [] pos) (tCall sp [] E0 t) := by
  obtain ⟨f, fd, a, b, c, d⟩ := F
  exact pe_call d hr hg a b c .nil pass0 ha hdb he hpl
end
theorem FD.ok {P w K mg base} {x : Str} {st : Stmt} {N ps : List Str} {k : Nat} {sp : Sp} (F : FD K mg x st ps) (S : FnScope N ps (defScope st)) (len : ∀ vs H Q E, sp vs H Q E → vs.length = ps.length)
    (hbody : ∀ (f : Addr) (cdv : Value) (A : Around) (outer : List Env) (s : Shared) (H : Hp) (vs : List V) (Q : VK) (E : XK), Room k (A.deeper (envOfC x (defScope st) s.heap.objs.size f cdv)) → sp vs H Q E →
      ∃ t, PSs (cxOf CX0 P w K mg base N x (defScope st) f cdv A outer s H E).nox (defBody st) t ∧ t { nx := fun _ H' => Q .non H', rt := Q } (start N vs) H) : FP P w K mg base (k + 1) x ps sp := by
  obtain ⟨f, fd, a, b, c⟩ := F
  exact ⟨f, fd, a, b.kp, c, b.ok S len fun cdv A outer s H vs Q E hr h => hbody f cdv A outer s H vs Q E hr h⟩

/-! ### all that was tracked but one thing is as it was -/
def But (a : Addr) (H H' : Hp) : Prop := ∀ b o, H b = some o → b ≠ a → H' b = some o
theorem But.refl (a : Addr) (H : Hp) : But a H H := fun _ _ h _ => h
theorem But.trans {a : Addr} {H H1 H2 : Hp} (x : But a H H1) (y : But a H1 H2) : But a H H2 := fun b o h n => y b o (x b o h n) n
theorem But.of {a : Addr} {H H' : Hp} (s : Same H H') : But a H H' := fun b o h _ => s b o h
theorem But.upd {a : Addr} {H H' : Hp} (x : But a H H') (o : HO) : But a H (upd H' a o) := fun b u h n => by rw [upd_ne n]; exact x b u h n
theorem But.new {a p : Addr} {H H' : Hp} (x : But a H H') (o : HO) (hp : H' p = none) : But a H (L2.upd H' p o) := fun b u h n => by
  have := x b u h n
  rw [upd_ne (ne_of_none this hp)]; exact this
theorem Same.new {p : Addr} {H H' : Hp} (x : Same H H') (o : HO) (hp : H' p = none) : Same H (L2.upd H' p o) := fun b u h => by
  have := x b u h
  rw [upd_ne (ne_of_none this hp)]; exact this
theorem Same.tup {K : PySem.W.Frag} {H H' : Hp} {a : Addr} {xs : List V} (e : Same H H') (h : SqT K H a xs) : SqT K H' a xs := by
  rcases h with (h | ⟨o, h⟩) | h
  · exact .inl (.inl (e _ _ h))
  · exact .inl (.inr ⟨o, e _ _ h⟩)
  · exact .inr h
section
variable {X : Cx}
theorem pe_globC {x : Str} {i : Int} {pos : Pos} (hg : Gl X x) (hm : ∃ t, X.mg x = some (.int i t)) (hd : (x == ("__debug__" : Str)) = false := by decide) : PE X (.Name x pos) (tC (.int i)) := by
  obtain ⟨t, h⟩ := hm
  exact pe_glob hg h ⟨t, rfl⟩ hd
end
section
variable {X : Cx}
/-! ### a list's, a tuple's item where the thing stands in H by itself -/
/-! ### the kind of a value -/
def subTy (t n : String) : Bool := t == n || (t == "bool" && n == "int")
theorem kit_tys {K : PySem.W.Frag} {t n : String} (ht : t ∈ ["NoneType", "bool", "int", "str", "list", "tuple", "dict"]) (hn : n ∈ ["bool", "int", "str", "list", "tuple", "dict"]) : PySem.W.kitOne K (.type t) (.type n) = some (subTy t n) := by
  simp only [List.mem_cons, List.not_mem_nil, or_false] at ht hn
  rcases ht with rfl | rfl | rfl | rfl | rfl | rfl | rfl <;> rcases hn with rfl | rfl | rfl | rfl | rfl | rfl <;> rfl
end
/-! ### small facts for simp -/
theorem at0 {α : Type} (x : α) (r : List α) : atI (x :: r) 0 = some x := atI_nat (xs := x :: r) (j := 0) rfl
theorem at1 {α : Type} (x y : α) (r : List α) : atI (x :: y :: r) 1 = some y := atI_nat (xs := x :: y :: r) (j := 1) rfl
theorem at2 {α : Type} (x y z : α) (r : List α) : atI (x :: y :: z :: r) 2 = some z := atI_nat (xs := x :: y :: z :: r) (j := 2) rfl
/-! ### isinstance, reckoned -/
def isinK (t n : String) : Option Bool := if n ∈ ["bool", "int", "str", "list", "tuple", "dict"] then some (subTy t n) else none
theorem ik_NoneType_str : isinK "NoneType" "str" = some false := by decide
theorem ik_NoneType_tuple : isinK "NoneType" "tuple" = some false := by decide
theorem ik_bool_str : isinK "bool" "str" = some false := by decide
theorem ik_bool_tuple : isinK "bool" "tuple" = some false := by decide
theorem ik_int_str : isinK "int" "str" = some false := by decide
theorem ik_int_tuple : isinK "int" "tuple" = some false := by decide
theorem ik_str_str : isinK "str" "str" = some true := by decide
theorem ik_str_tuple : isinK "str" "tuple" = some false := by decide
theorem ik_list_str : isinK "list" "str" = some false := by decide
theorem ik_list_tuple : isinK "list" "tuple" = some false := by decide
theorem ik_tuple_str : isinK "tuple" "str" = some false := by decide
theorem ik_tuple_tuple : isinK "tuple" "tuple" = some true := by decide
theorem ik_dict_str : isinK "dict" "str" = some false := by decide
theorem ik_dict_tuple : isinK "dict" "tuple" = some false := by decide
section
variable {H : Hp} {n : String} {a : Addr}
end
section
variable {X : Cx}
end
theorem dec_i {i j : Int} : decide (V.int i = V.int j) = decide (i = j) := by simp only [V.int.injEq]
theorem dec_s {i j : Str} : decide (V.str i = V.str j) = decide (i = j) := by simp only [V.str.injEq]
/-! ### what is made anew: the heap behind is only told by what it keeps -/
section
variable {X : Cx} {es : List Expr} {t : TA} {pos : Pos}
def Anew (H : Hp) (o : HO) (Q : VK) : Prop := ∀ p H', H p = none → Same H H' → H' p = some o → Q (.ref p) H'
theorem Anew.all {H : Hp} {o : HO} {Q : VK} (h : Anew H o Q) : ∀ p, H p = none → Q (.ref p) (upd H p o) := fun p hp => h p _ hp ((Same.refl H).new _ hp) upd_same
def tTupA (t : TA) : TE := fun σ H Q => t σ H fun xs H1 => xs.length ≤ sizeLine ∧ Anew H1 (.tup xs) Q
def tLstA (t : TA) : TE := fun σ H Q => t σ H fun xs H1 => xs.length ≤ sizeLine ∧ Anew H1 (.lst xs) Q
theorem PA.imp {t t' : TA} (h : PA X es t) (hi : ∀ σ H Q, t' σ H Q → t σ H Q) : PA X es t' := fun pos pins s σ H Q I q => h pos pins s σ H Q I (hi _ _ _ q)
theorem PA.tr (h : PA X es t) : ∀ (pos : Pos) (pins : List (Addr × Obj)) (s : Shared) (σ : St) (H : Hp) (Q Q' : List V → Hp → Prop), Inv X pins σ H s → t σ H Q → (∀ vs H, Q vs H → Q' vs H) → wpAny (model X.prog X.w) X.A (spliced (backTo pos (starEach es X.env))) (AP X pins σ Q') X.xe s :=
  fun pos pins s σ H Q Q' I q hi => thn (h pos pins s σ H Q I q) fun us s1 ⟨vs, H1, I1, r, z⟩ => ⟨vs, H1, I1, r, hi _ _ z⟩
theorem pe_tupA {x1} (h : PA X es t) : PE X (.Tuple es x1 pos) (tTupA t) := by
  intro pins s σ H Q I hq
  refine wpAny_Tuple_spliced (thn (h pos pins s σ H _ I hq) fun us s1 ⟨xs, H1, I1, r, z, q⟩ => ⟨by rw [← r.length]; exact z, ?_⟩)
  have hf : H1 s1.heap.objs.size = none := I1.hok.fresh (Nat.le_refl _)
  refine ⟨.ref s1.heap.objs.size, upd H1 s1.heap.objs.size (.tup xs), I1.laid (t' := s1.toks) (fun b u e => Heap.get?_push_of_some _ e) (Nat.le_refl _) ?_, rfl, q.all _ hf⟩
  exact ⟨z, us, r, ⟨_, Heap.get?_push_size _ rfl, rfl, _, rfl⟩⟩
theorem pe_lstA (h : PA X es t) : PE X (.List es pos) (tLstA t) := by
  intro pins s σ H Q I hq
  refine wpAny_List_spliced (thn (h pos pins s σ H _ I hq) fun us s1 ⟨xs, H1, I1, r, z, q⟩ => ⟨by rw [← r.length]; exact z, ?_⟩)
  have hf : H1 s1.heap.objs.size = none := I1.hok.fresh (Nat.le_refl _)
  refine ⟨.ref s1.heap.objs.size, upd H1 s1.heap.objs.size (.lst xs), I1.laid (t' := s1.toks) (fun b u e => Heap.get?_push_of_some _ e) (Nat.le_refl _) ?_, rfl, q.all _ hf⟩
  exact ⟨z, us, 0, r, Heap.get?_push_size _ rfl⟩
end

/-! ### data at any depth, an empty dict among them -/
mutual
inductive Dq (K : PySem.W.Frag) (H : Hp) : V → PyData → Prop
  | non : Dq K H .non .none
  | bl (b : Bool) : Dq K H (.bl b) (.bool b)
  | int (i : Int) : Dq K H (.int i) (.int i)
  | str (x : Str) : Dq K H (.str x) (.str x)
  | lst {a : Addr} {xs : List V} {ds : List PyData} : H a = some (.lst xs) → DqAll K H xs ds → Dq K H (.ref a) (.list ds)
  | tup {a : Addr} {xs : List V} {ds : List PyData} : H a = some (.tup xs) → DqAll K H xs ds → Dq K H (.ref a) (.tuple ds)
  | dk0 {a : Addr} : H a = some (.dK []) → Dq K H (.ref a) (.dict [])
  | dk1 {a : Addr} {i j : Int} : H a = some (.dK [(.inl i, .int j)]) → Dq K H (.ref a) (.dict [(.int i, .int j)])
inductive DqAll (K : PySem.W.Frag) (H : Hp) : List V → List PyData → Prop
  | nil : DqAll K H [] []
  | cons {v : V} {vs : List V} {d : PyData} {ds : List PyData} : Dq K H v d → DqAll K H vs ds → DqAll K H (v :: vs) (d :: ds)
end
mutual
theorem Dq.same {K : PySem.W.Frag} {H H' : Hp} (s : Same H H') : ∀ {d : PyData} {v : V}, Dq K H v d → Dq K H' v d
  | .none, _, h => by cases h; exact .non
  | .bool _, _, h => by cases h; exact .bl _
  | .int _, _, h => by cases h; exact .int _
  | .str _, _, h => by cases h; exact .str _
  | .list ds, _, h => by
    cases h with
    | lst e r => exact .lst (s _ _ e) (DqAll.same s r)
  | .tuple ds, _, h => by
    cases h with
    | tup e r => exact .tup (s _ _ e) (DqAll.same s r)
  | .dict _, _, h => by
    cases h with
    | dk0 e => exact .dk0 (s _ _ e)
    | dk1 e => exact .dk1 (s _ _ e)
theorem DqAll.same {K : PySem.W.Frag} {H H' : Hp} (s : Same H H') : ∀ {ds : List PyData} {vs : List V}, DqAll K H vs ds → DqAll K H' vs ds
  | [], _, h => by cases h; exact .nil
  | d :: ds, _, h => by
    cases h with
    | cons a b => exact .cons (Dq.same s a) (DqAll.same s b)
end
mutual
theorem Dq.dp {K : PySem.W.Frag} {H : Hp} : ∀ {d : PyData} {v : V}, Dq K H v d → d.hasDict = false → Dp K H v d
  | .none, _, h, _ => by cases h; exact .non
  | .bool _, _, h, _ => by cases h; exact .bl _
  | .int _, _, h, _ => by cases h; exact .int _
  | .str _, _, h, _ => by cases h; exact .str _
  | .list ds, _, h, n => by
    cases h with
    | lst e r => exact .lst (SqL.of e) (DqAll.dp r (by simpa only [PyData.hasDict] using n))
  | .tuple ds, _, h, n => by
    cases h with
    | tup e r => exact .tup (SqT.of e) (DqAll.dp r (by simpa only [PyData.hasDict] using n))
  | .dict _, _, h, n => by simp [PyData.hasDict] at n
theorem DqAll.dp {K : PySem.W.Frag} {H : Hp} : ∀ {ds : List PyData} {vs : List V}, DqAll K H vs ds → PyData.hasDictAll ds = false → DpAll K H vs ds
  | [], _, h, _ => by cases h; exact .nil
  | d :: ds, _, h, n => by
    cases h with
    | cons a b =>
      simp only [PyData.hasDictAll, Bool.or_eq_false_iff] at n
      exact .cons (Dq.dp a n.1) (DqAll.dp b n.2)
end
def cleanD (d : PyData) : Prop := d.hasDict = false ∨ d = .dict []
section
variable {X : Cx} {pins : List (Addr × Obj)} {σ : St} {H : Hp} {s : Shared}
theorem Dq.reads (I : Inv X pins σ H s) (d : PyData) (v : V) (u : Value) (h : Dq X.K H v d) (c : cleanD d) (r : RelV v u) : ∃ as, Reads s.heap u d as ∧ (d.hasDict = true → sysModules ∉ as) := by
  rcases c with c | rfl
  · obtain ⟨as, q⟩ := Dp.reads I d v u (h.dp c) r
    exact ⟨as, q, fun z => by rw [c] at z; cases z⟩
  · cases h with
    | dk0 e =>
      rename_i a
      cases r
      obtain ⟨_, hne, vs, kv, o, es, ep, ho, hx, hd, hl, hp, _⟩ := (show ObjOk X.prog X.w H s.heap a (.dK []) from I.hok a _ e)
      cases kv
      have hes : es.toList = [] := by
        generalize es.toList = l at hp
        cases hp
        rfl
      refine ⟨_, Reads.dict (kvs := []) ho hx.1 hd (by rw [hes]; exact .nil) (by rw [hes]; exact .nil), fun _ => ?_⟩
      simpa using fun z => (beq_eq_false_iff_ne.mp hne) z.symm
end

/-! ### how large a thing's text is -/
structure Fine (n w : Nat) (d : PyData) : Prop where
  sh : d.showable = true
  dp : d.depth ≤ n
  lv : d.leavesShort 1000 = true
  wt : d.weight ≤ w
structure FineAll (n w : Nat) (ds : List PyData) : Prop where
  sh : PyData.showableAll ds = true
  dp : PyData.depthAll ds ≤ n
  lv : PyData.leavesShortAll 1000 ds = true
  wt : PyData.weightAll ds ≤ w
theorem Fine.mono {n w n' w' : Nat} {d : PyData} (f : Fine n w d) (h1 : n ≤ n') (h2 : w ≤ w') : Fine n' w' d := ⟨f.sh, Nat.le_trans f.dp h1, f.lv, Nat.le_trans f.wt h2⟩
theorem Fine.shown {n w : Nat} {d : PyData} (f : Fine n w d) (h : w ≤ 10000) : d.shown.length ≤ sizeLine := by
  have a := PyData.shown_le 1000 (by decide) d f.lv
  have b := f.wt
  have c : (1000 + 2) * d.weight ≤ 1002 * 10000 := Nat.mul_le_mul (Nat.le_refl _) (by omega)
  rw [sizeLine_eq]
  omega
theorem Fine.non {n w : Nat} : Fine n w .none := ⟨rfl, Nat.zero_le _, rfl, Nat.zero_le _⟩
theorem Fine.bl {n w : Nat} {b : Bool} : Fine n w (.bool b) := ⟨rfl, Nat.zero_le _, rfl, Nat.zero_le _⟩
theorem log_of {i : Int} {m : Nat} (h : i.natAbs < 2 ^ m) : i.natAbs = 0 ∨ i.natAbs.log2 < m := by
  by_cases h0 : i.natAbs = 0
  · exact .inl h0
  · exact .inr ((Nat.log2_lt h0).mpr h)
theorem shown_int_len {i : Int} (h : i.natAbs < 2 ^ 900) : (PyData.shown (.int i)).length ≤ 1000 := by
  have e : (PyData.shown (.int i)).length = (toString i).length := by
    show (Str.ofString (toString i)).length = _
    exact PySem.ofString_length _
  rw [e]
  rcases log_of h with z | z
  · rw [show i = 0 by omega]; decide
  · exact Nat.le_trans (int_text_length_le (by decide) z) (by decide)
theorem Fine.int {n w : Nat} {i : Int} {m : Nat} (h : i.natAbs < 2 ^ m) (hm : m ≤ w := by decide) (h9 : m ≤ 900 := by decide) : Fine n w (.int i) := by
  have h' : i.natAbs < 2 ^ 900 := Nat.lt_of_lt_of_le h (Nat.pow_le_pow_right (by decide) h9)
  refine ⟨?_, Nat.zero_le _, decide_eq_true (shown_int_len h'), ?_⟩
  · refine decide_eq_true ?_
    rcases log_of h' with e | e
    · rw [e]; decide +kernel
    · omega
  · show (if i == 0 then 0 else i.natAbs.log2 + 1) ≤ w
    split
    · omega
    · rename_i hi
      rcases log_of h with e | e
      · exact absurd (by simpa using e) (by simpa using hi)
      · omega
theorem FineAll.nil {n w : Nat} : FineAll n w [] := ⟨rfl, Nat.zero_le _, rfl, Nat.zero_le _⟩
theorem FineAll.cons {n w w1 w2 : Nat} {d : PyData} {ds : List PyData} (a : Fine n w1 d) (b : FineAll n w2 ds) (h : w1 + 1 + w2 ≤ w := by decide) : FineAll n w (d :: ds) := by
  refine ⟨?_, ?_, ?_, ?_⟩
  · simp only [PyData.showableAll, a.sh, b.sh, Bool.and_self]
  · simp only [PyData.depthAll]; exact Nat.max_le.mpr ⟨a.dp, b.dp⟩
  · simp only [PyData.leavesShortAll, a.lv, b.lv, Bool.and_self]
  · simp only [PyData.weightAll]; have := a.wt; have := b.wt; omega
theorem Fine.list {n w : Nat} {ds : List PyData} (a : FineAll n w ds) : Fine (n + 1) w (.list ds) := by
  refine ⟨by simpa only [PyData.showable] using a.sh, ?_, by simpa only [PyData.leavesShort] using a.lv, by simpa only [PyData.weight] using a.wt⟩
  simp only [PyData.depth]; have := a.dp; omega
theorem Fine.tuple {n w : Nat} {ds : List PyData} (a : FineAll n w ds) : Fine (n + 1) w (.tuple ds) := by
  refine ⟨by simpa only [PyData.showable] using a.sh, ?_, by simpa only [PyData.leavesShort] using a.lv, by simpa only [PyData.weight] using a.wt⟩
  simp only [PyData.depth]; have := a.dp; omega
theorem Fine.lit {n w : Nat} {d : PyData} (h : (d.showable && decide (d.depth ≤ n) && d.leavesShort 1000 && decide (d.weight ≤ w)) = true) : Fine n w d := by
  simp only [Bool.and_eq_true, decide_eq_true_eq] at h
  exact ⟨h.1.1.1, h.1.1.2, h.1.2, h.2⟩

/-! ### repr -/
section
variable {X : Cx} {k : Nat}
end

/-! ### picks -/
theorem DqAll.mem {K : PySem.W.Frag} {H : Hp} : ∀ {ds : List PyData} {vs : List V} {v : V}, DqAll K H vs ds → v ∈ vs → ∃ d, d ∈ ds ∧ Dq K H v d
  | [], _, _, h, m => by cases h; cases m
  | d :: ds, _, _, h, m => by
    cases h with
    | cons a b =>
      rcases List.mem_cons.mp m with rfl | m
      · exact ⟨_, List.mem_cons_self, a⟩
      · obtain ⟨e, he, q⟩ := DqAll.mem b m
        exact ⟨e, List.mem_cons_of_mem _ he, q⟩
theorem But.same {a : Addr} {H H0 H' : Hp} (s : Same H0 H) (k : But a H H') (n : H0 a = none) : Same H0 H' := fun b o e => k b o (s b o e) (ne_of_none e n)

/-! ### rules by weaker wishes -/
section
variable {X : Cx}
theorem CallR.imp {f : Value} {r r' : List V → Hp → VK → Prop} (h : CallR X f r) (hi : ∀ xs H Q, r' xs H Q → r xs H Q) : CallR X f r' := fun pins s σ H xs us Q I rv q => h pins s σ H xs us Q I rv (hi _ _ _ q)
theorem OpR.imp {f : Value → Value → Sem Value} {r r' : R2} (h : OpR X f r) (hi : ∀ x y H Q, r' x y H Q → r x y H Q) : OpR X f r' := fun pins s σ H x y v u Q I rx ry q => h pins s σ H x y v u Q I rx ry (hi _ _ _ _ q)
end
/-! ### heaps told by what they keep -/
/-! ### the kind of data -/
def tyD : PyData → String
  | .none => "NoneType" | .bool _ => "bool" | .int _ => "int" | .str _ => "str" | .list _ => "list" | .tuple _ => "tuple" | .dict _ => "dict"
theorem DqAll.length {K : PySem.W.Frag} {H : Hp} : ∀ {ds : List PyData} {vs : List V}, DqAll K H vs ds → vs.length = ds.length
  | [], _, h => by cases h; rfl
  | d :: ds, _, h => by
    cases h with
    | cons a b => simp only [List.length_cons, DqAll.length b]
def wholeD : PyData → Bool
  | .int _ => true
  | _ => false
def tupD (d : PyData) (lo hi : Int) : Bool := match d with
  | .tuple ds => decide (lo ≤ ds.length ∧ ds.length ≤ hi)
  | _ => false
theorem FineAll.lit {n w : Nat} {ds : List PyData} (h : (PyData.showableAll ds && decide (PyData.depthAll ds ≤ n) && PyData.leavesShortAll 1000 ds && decide (PyData.weightAll ds ≤ w)) = true) : FineAll n w ds := by
  simp only [Bool.and_eq_true, decide_eq_true_eq] at h
  exact ⟨h.1.1.1, h.1.1.2, h.1.2, h.2⟩
theorem FineAll.mem {n w : Nat} : ∀ {ds : List PyData} {d : PyData}, FineAll n w ds → d ∈ ds → Fine n w d
  | [], _, _, m => by cases m
  | e :: ds, d, f, m => by
    have h1 : Fine n w e ∧ FineAll n w ds := by
      obtain ⟨a, b, c, g⟩ := f
      simp only [PyData.showableAll, Bool.and_eq_true] at a
      simp only [PyData.depthAll] at b
      simp only [PyData.leavesShortAll, Bool.and_eq_true] at c
      simp only [PyData.weightAll] at g
      exact ⟨⟨a.1, by have := Nat.le_max_left e.depth (PyData.depthAll ds); omega, c.1, by omega⟩, ⟨a.2, by have := Nat.le_max_right e.depth (PyData.depthAll ds); omega, c.2, by omega⟩⟩
    rcases List.mem_cons.mp m with rfl | m
    · exact h1.1
    · exact FineAll.mem h1.2 m
section
variable {X : Cx} {pos : Pos}
def tDNewA : TE := fun _ H Q => Anew H (.dK []) Q
theorem pe_dnewA : PE X (.Dict [] [] pos) tDNewA := fun pins s σ H Q I h => pe_dnewK pins s σ H Q I h.all
end

/-! ### long displays -/
def plainE : Expr → Bool
  | .Starred .. => false
  | _ => true
theorem starEach_plain {e : Expr} {es : List Expr} {env : Env} (h : plainE e = true) : starEach (e :: es) env = (false, eval e env) :: starEach es env := by
  cases e <;> first | rfl | cases h
theorem pa_c {X : Cx} {e : Expr} {es : List Expr} {te : TE} {t : TA} (ha : PE X e te) (hr : PA X es t) (h : plainE e = true := by rfl) : PA X (e :: es) (tCons te t) := pa_cons ha hr (starEach_plain h)

/-! ### what is new since a heap -/
def Nw (H0 H : Hp) : Hp := fun b => match H0 b with
  | none => H b
  | some _ => none
theorem Nw.at {H0 H : Hp} {p : Addr} {o : HO} (n : H0 p = none) (h : H p = some o) : Nw H0 H p = some o := by unfold Nw; rw [n]; exact h
theorem Nw.sub {H0 H : Hp} : Same (Nw H0 H) H := fun b o e => by
  unfold Nw at e
  split at e
  · exact e
  · cases e
theorem Nw.mono {H0 H H' : Hp} (s : Same H H') : Same (Nw H0 H) (Nw H0 H') := fun b o e => by
  unfold Nw at e ⊢
  split at e
  · exact s b o e
  · cases e
theorem Nw.back {H0 H1 H : Hp} (s : Same H0 H1) : Same (Nw H1 H) (Nw H0 H) := fun b o e => by
  unfold Nw at e
  split at e
  · rename_i n; exact Nw.at (s.free n) e
  · cases e
theorem Nw.but {a : Addr} {H0 H H' : Hp} {u : HO} (h0 : H0 a = some u) (s : But a H H') : Same (Nw H0 H) (Nw H0 H') := fun b o e => by
  unfold Nw at e ⊢
  split at e
  · rename_i n; exact s b o e (ne_of_none h0 n).symm
  · cases e

/-! ### written data -/
mutual
def litD : Nat → Expr → Option PyData
  | 0, _ => none
  | n + 1, e => match e with
    | .Constant .none _ _ => some .none
    | .Constant (.bool b) _ _ => some (.bool b)
    | .Constant (.int i) _ _ => some (.int i)
    | .Constant (.str x) _ _ => some (.str x)
    | .Tuple es _ _ => match litDs n es with
      | some ds => if ds.length ≤ 1000 then some (.tuple ds) else none
      | none => none
    | .List es _ => match litDs n es with
      | some ds => if ds.length ≤ 1000 then some (.list ds) else none
      | none => none
    | .Dict [] [] _ => some (.dict [])
    | .Dict [some (.Constant (.int i) _ _)] [.Constant (.int j) _ _] _ => some (.dict [(.int i, .int j)])
    | .UnaryOp .USub (.Constant (.int i) _ _) _ => some (.int (-i))
    | .BinOp (.Constant (.int i) _ _) .Pow (.Constant (.int j) _ _) _ => if 0 ≤ j ∧ j ≤ 1000000 ∧ i.natAbs < 2 ^ 64 then some (.int (i ^ j.toNat)) else none
    | _ => none
def litDs : Nat → List Expr → Option (List PyData)
  | 0, _ => none
  | _ + 1, [] => some []
  | n + 1, e :: es => match litD n e with
    | some d => match litDs n es with
      | some ds => some (d :: ds)
      | none => none
    | none => none
end
section
variable {X : Cx}
theorem PE.imp {e : Expr} {t t' : TE} (h : PE X e t) (hi : ∀ σ H Q, t' σ H Q → t σ H Q) : PE X e t' := fun pins s σ H Q I q => h pins s σ H Q I (hi _ _ _ q)
def tLit (K : PySem.W.Frag) (d : PyData) : TE := fun _ H Q => ∀ v H', Same H H' → Dq K (Nw H H') v d → Q v H'
def tLits (K : PySem.W.Frag) (ds : List PyData) : TA := fun _ H Q => ∀ vs H', Same H H' → DqAll K (Nw H H') vs ds → Q vs H'
theorem small_line {n : Nat} (h : n ≤ 1000) : n ≤ sizeLine := by rw [sizeLine_eq]; omega
theorem pe_d1 {i j : Int} {a1 a2 b1 b2 pos} : PE X (.Dict [some (.Constant (.int i) a1 a2)] [.Constant (.int j) b1 b2] pos) (tLit X.K (.dict [(.int i, .int j)])) := by
  have h := pe_disp (X := X) (pos := pos) (pps_cons (pe_int (i := i) (j := a1) (pos := a2)) (pe_int (i := j) (j := b1) (pos := b2)) pps_nil) rfl rfl (by intro z; cases z) (by simp)
  refine h.imp fun σ H Q q => ?_
  intro p hp
  refine ⟨upd_same, [(.inl i, .int j)], rfl, by simp, ?_⟩
  have e : mergeK [] [((.inl i : Key), V.int j)] = [(.inl i, .int j)] := rfl
  rw [e]
  refine q (.ref p) _ ?_ (.dk1 (Nw.at hp upd_same))
  intro b o e
  by_cases c : b = p
  · subst c; rw [hp] at e; cases e
  · rw [upd_ne c, upd_ne c]; exact e
mutual
theorem lit_ok : ∀ (n : Nat) (e : Expr) (d : PyData), litD n e = some d → PE X e (tLit X.K d) ∧ plainE e = true
  | 0, _, _, h => by simp [litD] at h
  | n + 1, e, d, h => by
    unfold litD at h
    split at h
    · cases h; exact ⟨pe_non.imp fun σ H Q q => q _ _ (Same.refl _) .non, rfl⟩
    · cases h; exact ⟨pe_bl.imp fun σ H Q q => q _ _ (Same.refl _) (.bl _), rfl⟩
    · cases h; exact ⟨pe_int.imp fun σ H Q q => q _ _ (Same.refl _) (.int _), rfl⟩
    · cases h; exact ⟨pe_str.imp fun σ H Q q => q _ _ (Same.refl _) (.str _), rfl⟩
    · split at h
      · rename_i ds hds
        split at h
        · rename_i hc
          cases h
          refine ⟨(pe_tupA (lits_ok n _ ds hds)).imp fun σ H Q q vs H1 s1 a1 => ⟨small_line (by rw [a1.length]; exact hc), fun p H2 n2 s2 h2 => q _ _ (s1.trans s2) (.tup (Nw.at (s1.free n2) h2) (a1.same (Nw.mono s2)))⟩, rfl⟩
        · cases h
      · cases h
    · split at h
      · rename_i ds hds
        split at h
        · rename_i hc
          cases h
          refine ⟨(pe_lstA (lits_ok n _ ds hds)).imp fun σ H Q q vs H1 s1 a1 => ⟨small_line (by rw [a1.length]; exact hc), fun p H2 n2 s2 h2 => q _ _ (s1.trans s2) (.lst (Nw.at (s1.free n2) h2) (a1.same (Nw.mono s2)))⟩, rfl⟩
        · cases h
      · cases h
    · cases h; exact ⟨pe_dnewA.imp fun σ H Q q p H2 n2 s2 h2 => q _ _ s2 (.dk0 (Nw.at n2 h2)), rfl⟩
    · cases h; exact ⟨pe_d1, rfl⟩
    · cases h; exact ⟨(pe_un un_neg pe_int).imp fun σ H Q q => ⟨_, rfl, q _ _ (Same.refl _) (.int _)⟩, rfl⟩
    · split at h
      · rename_i hc
        cases h
        exact ⟨(pe_op op_pow pe_int pe_int).imp fun σ H Q q => ⟨_, _, rfl, rfl, hc, q _ _ (Same.refl _) (.int _)⟩, rfl⟩
      · cases h
    · cases h
theorem lits_ok : ∀ (n : Nat) (es : List Expr) (ds : List PyData), litDs n es = some ds → PA X es (tLits X.K ds)
  | 0, _, _, h => by simp [litDs] at h
  | n + 1, [], _, h => by
    simp only [litDs] at h
    cases h
    exact pa_nil.imp fun σ H Q q => q _ _ (Same.refl _) .nil
  | n + 1, e :: es, _, h => by
    unfold litDs at h
    split at h
    · rename_i d hd
      split at h
      · rename_i ds hds
        cases h
        obtain ⟨a, b⟩ := lit_ok n e d hd
        exact (pa_c a (lits_ok n es ds hds) b).imp fun σ H Q q v H1 s1 d1 vs H2 s2 d2 => q _ _ (s1.trans s2) (.cons (d1.same (Nw.mono s2)) (d2.same (Nw.back s1)))
      · cases h
    · cases h
end
theorem pe_lit {n : Nat} {e : Expr} {d : PyData} (h : litD n e = some d) : PE X e (tLit X.K d) := (lit_ok n e d h).1
end

/-! ### a heap behind another one, but for one list that changes -/
structure Aft (a : Addr) (H0 H : Hp) : Prop where
  but : But a H0 H
  at0 : ∃ o, H0 a = some o
  at1 : ∃ o, H a = some o
theorem Aft.same {a : Addr} {H0 H H' : Hp} (x : Aft a H0 H) (s : Same H H') : Aft a H0 H' := ⟨x.but.trans (But.of s), x.at0, let ⟨o, e⟩ := x.at1; ⟨o, s _ _ e⟩⟩
theorem Aft.free {a p : Addr} {H0 H : Hp} (x : Aft a H0 H) (h : H p = none) : H0 p = none := by
  cases e : H0 p with
  | none => rfl
  | some o =>
    by_cases q : p = a
    · subst q
      obtain ⟨u, hu⟩ := x.at1
      rw [hu] at h; cases h
    · rw [x.but p o e q] at h; cases h
theorem Aft.mono {a : Addr} {H0 H H' : Hp} (x : Aft a H0 H) (s : But a H H') : Same (Nw H0 H) (Nw H0 H') := let ⟨_, e⟩ := x.at0; Nw.but e s
theorem Aft.back {a : Addr} {H0 H1 H : Hp} (x : Aft a H0 H1) : Same (Nw H1 H) (Nw H0 H) := fun b o e => by
  unfold Nw at e
  split at e
  · rename_i n; exact Nw.at (x.free n) e
  · cases e
theorem Aft.refl {a : Addr} {H : Hp} (h : ∃ o, H a = some o) : Aft a H H := ⟨But.refl _ _, h, h⟩
/-- a new tuple, list of data -/
theorem Aft.tup {K : PySem.W.Frag} {a : Addr} {H0 H : Hp} {xs : List V} {ds : List PyData} {Q : VK} (x : Aft a H0 H) (d : DqAll K (Nw H0 H) xs ds)
    (q : ∀ p H', Same H H' → Aft a H0 H' → H' p = some (.tup xs) → Dq K (Nw H0 H') (.ref p) (.tuple ds) → Q (.ref p) H') : Anew H (.tup xs) Q := fun p H' n s h =>
  q p H' s (x.same s) h (.tup (Nw.at (x.free n) h) (d.same (Nw.mono s)))
theorem Aft.lst {K : PySem.W.Frag} {a : Addr} {H0 H : Hp} {xs : List V} {ds : List PyData} {Q : VK} (x : Aft a H0 H) (d : DqAll K (Nw H0 H) xs ds)
    (q : ∀ p H', Same H H' → Aft a H0 H' → H' p = some (.lst xs) → Dq K (Nw H0 H') (.ref p) (.list ds) → Q (.ref p) H') : Anew H (.lst xs) Q := fun p H' n s h =>
  q p H' s (x.same s) h (.lst (Nw.at (x.free n) h) (d.same (Nw.mono s)))
theorem Aft.lit {K : PySem.W.Frag} {a : Addr} {H0 H : Hp} {d : PyData} {σ : St} {Q : VK} (x : Aft a H0 H)
    (q : ∀ v H', Same H H' → Aft a H0 H' → Dq K (Nw H0 H') v d → Q v H') : tLit K d σ H Q := fun v H' s h => q v H' s (x.same s) (h.same x.back)
/-! ### comprehensions whose test and element only look -/
/-! ### things that may be compared -/
def Shp (n : Nat) (d : PyData) : Prop := d.canLay0 = true ∧ d.depth ≤ n
def ShpAll (n : Nat) (ds : List PyData) : Prop := PyData.canLayAll0 ds = true ∧ PyData.depthAll ds ≤ n
theorem Shp.shaped {n : Nat} {d : PyData} (h : Shp n d) (hn : n ≤ 64 := by decide) : SeqAt.shaped d = true := by
  unfold SeqAt.shaped
  rw [h.1, Bool.true_and]
  exact decide_eq_true (Nat.le_trans h.2 hn)
theorem ShpAll.nil {n : Nat} : ShpAll n [] := ⟨rfl, Nat.zero_le _⟩
theorem ShpAll.cons {n : Nat} {d : PyData} {ds : List PyData} (a : Shp n d) (b : ShpAll n ds) : ShpAll n (d :: ds) := by
  refine ⟨by simp only [PyData.canLayAll0, a.1, b.1, Bool.and_self], ?_⟩
  simp only [PyData.depthAll]; exact Nat.max_le.mpr ⟨a.2, b.2⟩
theorem Shp.list {n : Nat} {ds : List PyData} (h : ShpAll n ds) : Shp (n + 1) (.list ds) := by
  refine ⟨by simpa only [PyData.canLay0] using h.1, ?_⟩
  simp only [PyData.depth]; have := h.2; omega
theorem Shp.tuple {n : Nat} {ds : List PyData} (h : ShpAll n ds) : Shp (n + 1) (.tuple ds) := by
  refine ⟨by simpa only [PyData.canLay0] using h.1, ?_⟩
  simp only [PyData.depth]; have := h.2; omega
theorem Shp.int {n : Nat} {i : Int} : Shp n (.int i) := ⟨rfl, Nat.zero_le _⟩
theorem Shp.lit {n : Nat} {d : PyData} (h : (d.canLay0 && decide (d.depth ≤ n)) = true) : Shp n d := by
  simp only [Bool.and_eq_true, decide_eq_true_eq] at h
  exact h
end L2
set_option Elab.async false
set_option linter.all false
set_option maxRecDepth 100000
namespace L2
open PySem PySem.Spec PyProof.Rows
/-! ### a dict of the module's own top -/
def KD (P : Program) (w : World) (K : PySem.W.Frag) (a : Addr) (kvs : List (Key × V)) : Prop :=
  (a == sysModules) = false ∧ ∃ vs, KV kvs vs ∧ ∀ h : Heap, K.In h → h.DictOf (mixKind P w) a vs
section
variable {X : Cx} {a : Addr} {kvs : List (Key × V)}
/-! ### a def that stands in a name -/
def FV (P : Program) (w : World) (K : PySem.W.Frag) (mg : Str → Option Value) (base : Heap) (k : Nat) (f : Addr) (ps : List Str) (sp : Sp) : Prop :=
  PySem.W.keepIn K (.ref f) = true ∧ ∃ fd, Binds K fd ps [] ∧ FnOk P w K mg base CX0 k f fd ps sp
theorem FP.fv {P w K mg base k x ps sp} {f : Addr} (F : FP P w K mg base k x ps sp) (h : mg x = some (.ref f)) : FV P w K mg base k f ps sp := by
  obtain ⟨g, fd, a, b, c, d⟩ := F
  rw [a] at h; cases h
  exact ⟨b, fd, c, d⟩
/-! ### keywords -/
def gk {α : Type} (m n : Nat) (us ws : List α) : List α := if us.length = m ∧ ws.length = n then us ++ ws else []
def FDK (K : PySem.W.Frag) (mg : Str → Option Value) (x : Str) (st : Stmt) (ps ks : List Str) : Prop :=
  ∃ f fd, mg x = some (.ref f) ∧ Fun K x x st f fd ∧ KBinds K fd ps ks (gk (ps.length - ks.length) ks.length) (gk (ps.length - ks.length) ks.length)
def FPK (P : Program) (w : World) (K : PySem.W.Frag) (mg : Str → Option Value) (base : Heap) (k : Nat) (x : Str) (ps ks : List Str) (sp : Sp) : Prop :=
  ∃ f fd, mg x = some (.ref f) ∧ PySem.W.keepIn K (.ref f) = true ∧ KBinds K fd ps ks (gk (ps.length - ks.length) ks.length) (gk (ps.length - ks.length) ks.length) ∧ FnOk P w K mg base CX0 k f fd ps sp
end
theorem FDK.ok {P w K mg base} {x : Str} {st : Stmt} {N ps ks : List Str} {k : Nat} {sp : Sp} (F : FDK K mg x st ps ks) (S : FnScope N ps (defScope st)) (len : ∀ vs H Q E, sp vs H Q E → vs.length = ps.length)
    (hbody : ∀ (f : Addr) (cdv : Value) (A : Around) (outer : List Env) (s : Shared) (H : Hp) (vs : List V) (Q : VK) (E : XK), Room k (A.deeper (envOfC x (defScope st) s.heap.objs.size f cdv)) → sp vs H Q E →
      ∃ t, PSs (cxOf CX0 P w K mg base N x (defScope st) f cdv A outer s H E).nox (defBody st) t ∧ t { nx := fun _ H' => Q .non H', rt := Q } (start N vs) H) : FPK P w K mg base (k + 1) x ps ks sp := by
  obtain ⟨f, fd, a, b, c⟩ := F
  exact ⟨f, fd, a, b.kp, c, b.ok S len fun cdv A outer s H vs Q E hr h => hbody f cdv A outer s H vs Q E hr h⟩
/-! ### a parameter behind the star that is left out -/
def FDKD (K : PySem.W.Frag) (mg : Str → Option Value) (x : Str) (st : Stmt) (ps ks : List Str) (dvs : List V) : Prop :=
  ∃ f fd, mg x = some (.ref f) ∧ Fun K x x st f fd ∧ KBinds K fd ps ks (gk (ps.length - ks.length) ks.length) (gk (ps.length - ks.length) ks.length) ∧ ∃ ds, Vals dvs ds ∧ Binds K fd ps ds
def FPKD (P : Program) (w : World) (K : PySem.W.Frag) (mg : Str → Option Value) (base : Heap) (k : Nat) (x : Str) (ps ks : List Str) (dvs : List V) (sp : Sp) : Prop :=
  ∃ f fd, mg x = some (.ref f) ∧ PySem.W.keepIn K (.ref f) = true ∧ KBinds K fd ps ks (gk (ps.length - ks.length) ks.length) (gk (ps.length - ks.length) ks.length) ∧ (∃ ds, Vals dvs ds ∧ Binds K fd ps ds) ∧ FnOk P w K mg base CX0 k f fd ps sp
theorem FPKD.k {P w K mg base k x ps ks dvs sp} (F : FPKD P w K mg base k x ps ks dvs sp) : FPK P w K mg base k x ps ks sp := let ⟨f, fd, a, b, c, _, d⟩ := F; ⟨f, fd, a, b, c, d⟩
theorem FDKD.ok {P w K mg base} {x : Str} {st : Stmt} {N ps ks : List Str} {dvs : List V} {k : Nat} {sp : Sp} (F : FDKD K mg x st ps ks dvs) (S : FnScope N ps (defScope st)) (len : ∀ vs H Q E, sp vs H Q E → vs.length = ps.length)
    (hbody : ∀ (f : Addr) (cdv : Value) (A : Around) (outer : List Env) (s : Shared) (H : Hp) (vs : List V) (Q : VK) (E : XK), Room k (A.deeper (envOfC x (defScope st) s.heap.objs.size f cdv)) → sp vs H Q E →
      ∃ t, PSs (cxOf CX0 P w K mg base N x (defScope st) f cdv A outer s H E).nox (defBody st) t ∧ t { nx := fun _ H' => Q .non H', rt := Q } (start N vs) H) : FPKD P w K mg base (k + 1) x ps ks dvs sp := by
  obtain ⟨f, fd, a, b, c, d⟩ := F
  exact ⟨f, fd, a, b.kp, c, d, b.ok S len fun cdv A outer s H vs Q E hr h => hbody f cdv A outer s H vs Q E hr h⟩
/-! ### a dict that stands in H: read and stored by a key -/
section
variable {X : Cx}
def rIxDH : R2 := fun x y H Q => ∃ a kvs k v, x = .ref a ∧ y = kV k ∧ H a = some (.dK kvs) ∧ valV kvs k = some v ∧ Q v H
theorem ix_dH (hu : X.A.units + 1 < cLine) : IxR X rIxDH := by
  intro value slice pins s σ H x y v u Q I rx ry h hs
  obtain ⟨a, kvs, k, z, rfl, rfl, hd, hz, q⟩ := h
  cases rx
  have g : DGet H a (kV k) (some z) := by rw [← hz]; exact DGet.k hd
  exact PyProof.Rows.tail_any (dict_typeIs I g) PySem.F.slot_dict_getitem.lookup (d_getItem hu I g ry fun w' s' I' rw' => ⟨z, H, I', rw', q⟩) hs
end
end L2
set_option Elab.async false
set_option linter.all false
set_option maxRecDepth 100000
namespace L2.Dm
open PySem PySem.Spec PyProof.Rows

/-! ### values and things of the machine of data -/
inductive AV where
  | d (x : PyData)
  | ref (i : Nat)
  | fn (n : Str)
  | ty (n : String)
  | raw (a : Addr)
  | exc (c : Str)
inductive AO where
  | lst (xs : List AV)
  | dk (kvs : List (Key × AV))
  | dt (kvs : List (List Key × AV))
  | gone
  | tab (x : Str)
abbrev AE := List (Option AV)
abbrev AH := List AO

/-! ### data that stand in a heap: lists, tuples at any depth, the empty dict -/
mutual
inductive DP (K : PySem.W.Frag) (H : Hp) : V → PyData → Prop
  | non : DP K H .non .none
  | bl (b : Bool) : DP K H (.bl b) (.bool b)
  | int (i : Int) : DP K H (.int i) (.int i)
  | str (x : Str) : DP K H (.str x) (.str x)
  | lst {a : Addr} {xs : List V} {ds : List PyData} : SqL K H a xs → DPs K H xs ds → DP K H (.ref a) (.list ds)
  | tup {a : Addr} {xs : List V} {ds : List PyData} : H a = some (.tup xs) → DPs K H xs ds → DP K H (.ref a) (.tuple ds)
  | dk0 {a : Addr} : H a = some (.dK []) → DP K H (.ref a) (.dict [])
  | dk1 {a : Addr} {i j : Int} : H a = some (.dK [(.inl i, .int j)]) → DP K H (.ref a) (.dict [(.int i, .int j)])
inductive DPs (K : PySem.W.Frag) (H : Hp) : List V → List PyData → Prop
  | nil : DPs K H [] []
  | cons {v : V} {vs : List V} {d : PyData} {ds : List PyData} : DP K H v d → DPs K H vs ds → DPs K H (v :: vs) (d :: ds)
end
theorem sameL {K : PySem.W.Frag} {H H' : Hp} {a : Addr} {xs : List V} (e : Same H H') (h : SqL K H a xs) : SqL K H' a xs := by
  rcases h with (h | ⟨o, h⟩) | h
  · exact .inl (.inl (e _ _ h))
  · exact .inl (.inr ⟨o, e _ _ h⟩)
  · exact .inr h
mutual
theorem DP.same {K : PySem.W.Frag} {H H' : Hp} (s : Same H H') : ∀ {d : PyData} {v : V}, DP K H v d → DP K H' v d
  | .none, _, h => by cases h; exact .non
  | .bool _, _, h => by cases h; exact .bl _
  | .int _, _, h => by cases h; exact .int _
  | .str _, _, h => by cases h; exact .str _
  | .list ds, _, h => by
    cases h with
    | lst e r => exact .lst (sameL s e) (DPs.same s r)
  | .tuple ds, _, h => by
    cases h with
    | tup e r => exact .tup (s _ _ e) (DPs.same s r)
  | .dict _, _, h => by
    cases h with
    | dk0 e => exact .dk0 (s _ _ e)
    | dk1 e => exact .dk1 (s _ _ e)
theorem DPs.same {K : PySem.W.Frag} {H H' : Hp} (s : Same H H') : ∀ {ds : List PyData} {vs : List V}, DPs K H vs ds → DPs K H' vs ds
  | [], _, h => by cases h; exact .nil
  | d :: ds, _, h => by
    cases h with
    | cons a b => exact .cons (DP.same s a) (DPs.same s b)
end
mutual
theorem DP.dp {K : PySem.W.Frag} {H : Hp} : ∀ {d : PyData} {v : V}, DP K H v d → d.hasDict = false → Dp K H v d
  | .none, _, h, _ => by cases h; exact .non
  | .bool _, _, h, _ => by cases h; exact .bl _
  | .int _, _, h, _ => by cases h; exact .int _
  | .str _, _, h, _ => by cases h; exact .str _
  | .list ds, _, h, n => by
    cases h with
    | lst e r => exact .lst e (DPs.dp r (by simpa only [PyData.hasDict] using n))
  | .tuple ds, _, h, n => by
    cases h with
    | tup e r => exact .tup (SqT.of e) (DPs.dp r (by simpa only [PyData.hasDict] using n))
  | .dict _, _, h, n => by simp [PyData.hasDict] at n
theorem DPs.dp {K : PySem.W.Frag} {H : Hp} : ∀ {ds : List PyData} {vs : List V}, DPs K H vs ds → PyData.hasDictAll ds = false → DpAll K H vs ds
  | [], _, h, _ => by cases h; exact .nil
  | d :: ds, _, h, n => by
    cases h with
    | cons a b =>
      simp only [PyData.hasDictAll, Bool.or_eq_false_iff] at n
      exact .cons (DP.dp a n.1) (DPs.dp b n.2)
end
theorem DPs.get {K : PySem.W.Frag} {H : Hp} : ∀ {ds : List PyData} {vs : List V} {i : Nat} {d : PyData}, DPs K H vs ds → ds[i]? = some d → ∃ v, vs[i]? = some v ∧ DP K H v d
  | [], _, _, _, h, e => by simp at e
  | _ :: _, _, 0, d, .cons a b, e => by simp at e; subst e; exact ⟨_, rfl, a⟩
  | _ :: _, _, i + 1, d, .cons a b, e => by
    obtain ⟨v, h1, h2⟩ := DPs.get (i := i) b (by simpa using e)
    exact ⟨v, by simpa using h1, h2⟩
theorem DPs.length {K : PySem.W.Frag} {H : Hp} : ∀ {ds : List PyData} {vs : List V}, DPs K H vs ds → vs.length = ds.length
  | [], _, .nil => rfl
  | _ :: _, _, .cons a b => by simp [DPs.length b]
theorem DPs.append {K : PySem.W.Frag} {H : Hp} : ∀ {ds es : List PyData} {vs ws : List V}, DPs K H vs ds → DPs K H ws es → DPs K H (vs ++ ws) (ds ++ es)
  | _, _, _, _, .nil, s => s
  | _, _, _, _, .cons r t, s => .cons r (DPs.append t s)
theorem DPs.take {K : PySem.W.Frag} {H : Hp} : ∀ {ds : List PyData} {vs : List V} (n : Nat), DPs K H vs ds → DPs K H (vs.take n) (ds.take n)
  | _, _, 0, _ => .nil
  | _, _, _ + 1, .nil => .nil
  | _, _, n + 1, .cons r t => .cons r (DPs.take n t)
theorem DPs.drop {K : PySem.W.Frag} {H : Hp} : ∀ {ds : List PyData} {vs : List V} (n : Nat), DPs K H vs ds → DPs K H (vs.drop n) (ds.drop n)
  | _, _, 0, r => r
  | _, _, _ + 1, .nil => .nil
  | _, _, n + 1, .cons _ t => DPs.drop n t
theorem DP.ref_inv {K : PySem.W.Frag} {H : Hp} {v : V} {xs : List PyData} (h : DP K H v (.tuple xs)) : ∃ a vs, v = .ref a ∧ SqT K H a vs ∧ DPs K H vs xs := by
  cases h with | tup e r => exact ⟨_, _, rfl, SqT.of e, r⟩
theorem DP.lst_inv {K : PySem.W.Frag} {H : Hp} {v : V} {xs : List PyData} (h : DP K H v (.list xs)) : ∃ a vs, v = .ref a ∧ SqL K H a vs ∧ DPs K H vs xs := by
  cases h with | lst e r => exact ⟨_, _, rfl, e, r⟩
section
variable {X : Cx} {pins : List (Addr × Obj)} {σ : St} {H : Hp} {s : Shared}
theorem DP.reads (I : Inv X pins σ H s) (d : PyData) (v : V) (u : Value) (h : DP X.K H v d) (c : cleanD d) (r : RelV v u) : ∃ as, Reads s.heap u d as ∧ (d.hasDict = true → sysModules ∉ as) := by
  rcases c with c | rfl
  · obtain ⟨as, q⟩ := Dp.reads I d v u (h.dp c) r
    exact ⟨as, q, fun z => by rw [c] at z; cases z⟩
  · cases h with
    | dk0 e => exact Dq.reads I _ _ _ (.dk0 e) (.inr rfl) r
end

/-! ### what is hidden, what follows on what -/
def hid (m z : List Addr) (H : Hp) : Hp := fun a => if a ∈ m ∨ a ∈ z then none else H a
theorem hid_some {m z : List Addr} {H : Hp} {a : Addr} {o : HO} : hid m z H a = some o ↔ a ∉ m ∧ a ∉ z ∧ H a = some o := by
  unfold hid
  constructor
  · intro h
    split at h
    · cases h
    · rename_i n
      exact ⟨fun x => n (.inl x), fun x => n (.inr x), h⟩
  · rintro ⟨h1, h2, h3⟩
    rw [if_neg (by rintro (x | x); exact h1 x; exact h2 x)]
    exact h3
theorem hid_sub (m z : List Addr) (H : Hp) : Same (hid m z H) H := fun a o h => (hid_some.mp h).2.2
structure Aft (m : List Addr) (H : Hp) (m' : List Addr) (H' : Hp) : Prop where
  pre : m <+: m'
  new : ∀ a ∈ m', a ∈ m ∨ H a = none
  kp : ∀ a o, H a = some o → a ∉ m → H' a = some o
  fz : ∀ a od u, H a = some (.frz od u) → H' a = some (.frz od u)
theorem Aft.refl (m : List Addr) (H : Hp) : Aft m H m H := ⟨List.prefix_refl _, fun _ h => .inl h, fun _ _ h _ => h, fun _ _ _ h => h⟩
theorem Aft.of {m : List Addr} {H H' : Hp} (s : Same H H') : Aft m H m H' := ⟨List.prefix_refl _, fun _ h => .inl h, fun _ _ h _ => s _ _ h, fun _ _ _ h => s _ _ h⟩
theorem Aft.trans {m m1 m2 : List Addr} {H H1 H2 : Hp} (x : Aft m H m1 H1) (y : Aft m1 H1 m2 H2) : Aft m H m2 H2 where
  pre := x.pre.trans y.pre
  new := fun a h => by
    rcases y.new a h with h1 | h1
    · exact x.new a h1
    · by_cases hm : a ∈ m
      · exact .inl hm
      · cases e : H a with
        | none => exact .inr rfl
        | some o => rw [x.kp a o e hm] at h1; cases h1
  kp := fun a o h n => by
    have h1 := x.kp a o h n
    refine y.kp a o h1 fun z => ?_
    rcases x.new a z with q | q
    · exact n q
    · rw [q] at h; cases h
  fz := fun a od u h => y.fz a od u (x.fz a od u h)
theorem Aft.hid {m m' z : List Addr} {H H' : Hp} (x : Aft m H m' H') : Same (hid m z H) (hid m' z H') := fun a o h => by
  obtain ⟨h1, h2, h3⟩ := hid_some.mp h
  refine hid_some.mpr ⟨fun q => ?_, h2, x.kp a o h3 h1⟩
  rcases x.new a q with q | q
  · exact h1 q
  · rw [q] at h3; cases h3
theorem Aft.get {m m' : List Addr} {H H' : Hp} (x : Aft m H m' H') {i : Nat} {a : Addr} (h : m[i]? = some a) : m'[i]? = some a := by
  obtain ⟨t, rfl⟩ := x.pre
  rw [List.getElem?_append_left (List.getElem?_eq_some_iff.mp h).1]
  exact h

/-! ### the table of a def's lambdas -/
def lamQ (x : Str) : Str := x ++ (".<locals>.<lambda>" : Str)
/-- the table at a, of the def x: what was made so far is known code -/
def TabOk (K : PySem.W.Frag) (G H : Hp) (x : Str) (a : Addr) : Prop := ∃ c ps, PySem.W.tabIn K x = some (c, a) ∧ H a = some (.tbl ps) ∧ TriplesOk ps.toList ∧
  ∀ pos cv, codeAmong pos ps.toList = some cv → ∃ b o u vs t, cv = .ref b ∧ G b = some (.frz o u) ∧ o.data = .fields vs ∧ vs[1]? = some (.str (lamQ x) t)
theorem TabOk.of {K : PySem.W.Frag} {G G' H H' : Hp} {x : Str} {a : Addr} (t : TabOk K G H x a) (s : Same G G') (e : ∀ ps, H a = some (.tbl ps) → H' a = some (.tbl ps)) : TabOk K G' H' x a := by
  obtain ⟨c, ps, h1, h2, h3, h4⟩ := t
  exact ⟨c, ps, h1, e _ h2, h3, fun pos cv h => let ⟨b, o, u, vs, t, q1, q2, q3⟩ := h4 pos cv h; ⟨b, o, u, vs, t, q1, s _ _ q2, q3⟩⟩
section
variable (K : PySem.W.Frag) (mg : Str → Option Value)
def RA (m z : List Addr) (H : Hp) (v : V) : AV → Prop
  | .d x => DP K (hid m z H) v x
  | .ref i => ∃ a, m[i]? = some a ∧ v = .ref a
  | .fn n => ∃ f, mg n = some (.ref f) ∧ v = .ref f
  | .ty n => v = .ty n
  | .raw a => v = .ref a
  | .exc c => ∃ a C o u, v = .ref a ∧ hid m z H a = some (.frz o u) ∧ o.cls = .ref C ∧ mg c = some (.ref C)
abbrev RAs (m z : List Addr) (H : Hp) : List V → List AV → Prop := Paired (RA K mg m z H)
def OR (m z : List Addr) (H : Hp) (a : Addr) : AO → Prop
  | .lst xs => ∃ vs, H a = some (.lst vs) ∧ RAs K mg m z H vs xs
  | .gone => ∃ od u, H a = some (.frz od u)
  | .tab x => TabOk K (hid m z H) H x a
  | .dk kvs => ∃ ws, H a = some (.dK ws) ∧ Paired (fun (p : Key × V) (q : Key × AV) => p.1 = q.1 ∧ RA K mg m z H p.2 q.2) ws kvs
  | .dt kvs => ∃ ws, H a = some (.dT ws) ∧ Paired (fun (p : List Key × V) (q : List Key × AV) => p.1 = q.1 ∧ RA K mg m z H p.2 q.2) ws kvs
/-- what may be hidden: no tuple -/
def NZ : Option HO → Prop
  | none => False
  | some (.tup _) => False
  | _ => True
theorem NZ.ne {o : Option HO} (h : NZ o) : o ≠ none := fun e => by rw [e] at h; exact h
theorem NZ.same {H H' : Hp} {a : Addr} (s : Same H H') (h : NZ (H a)) : NZ (H' a) := by
  cases q : H a with
  | none => rw [q] at h; exact h.elim
  | some o => rw [q] at h; rw [s _ _ q]; exact h
structure HR (m z : List Addr) (H : Hp) (h : AH) : Prop where
  len : m.length = h.length
  nd : m.Nodup
  out : ∀ a ∈ z, a ∉ m ∧ NZ (H a)
  at_ : ∀ (i : Nat) (a : Addr) (o : AO), m[i]? = some a → h[i]? = some o → OR K mg m z H a o
def RS (m z : List Addr) (H : Hp) (σ : St) (a : AE) : Prop := a.length = σ.length ∧ ∀ (i : Nat) (x : AV), a[i]? = some (some x) → ∃ v, σ[i]? = some (some v) ∧ RA K mg m z H v x
end
section
variable {K : PySem.W.Frag} {mg : Str → Option Value} {m m' z : List Addr} {H H' : Hp}
theorem RA.mono {v : V} : ∀ {x : AV}, RA K mg m z H v x → Aft m H m' H' → RA K mg m' z H' v x
  | .d x, h, f => DP.same f.hid h
  | .ref i, ⟨a, h1, h2⟩, f => ⟨a, f.get h1, h2⟩
  | .fn n, h, _ => h
  | .ty n, h, _ => h
  | .raw n, h, _ => h
  | .exc c, ⟨a, C, o, u, e1, e2, e3, e4⟩, f => ⟨a, C, o, u, e1, f.hid _ _ e2, e3, e4⟩
theorem RAs.mono {vs : List V} {xs : List AV} (h : RAs K mg m z H vs xs) (f : Aft m H m' H') : RAs K mg m' z H' vs xs := Paired.mapP h fun _ _ q => RA.mono q f
theorem RS.mono {σ : St} {a : AE} (h : RS K mg m z H σ a) (f : Aft m H m' H') : RS K mg m' z H' σ a := ⟨h.1, fun i x e => let ⟨v, h1, h2⟩ := h.2 i x e; ⟨v, h1, h2.mono f⟩⟩
theorem HR.has {hh : AH} (h : HR K mg m z H hh) {a : Addr} (ha : a ∈ m) : ∃ o, H a = some o := by
  obtain ⟨i, hi, e⟩ := List.getElem_of_mem ha
  have h2 : i < hh.length := h.len ▸ hi
  have := h.at_ i a hh[i] (by rw [List.getElem?_eq_getElem hi, e]) (List.getElem?_eq_getElem h2)
  cases q : hh[i] with
  | lst xs => rw [q] at this; obtain ⟨vs, e, _⟩ := this; exact ⟨_, e⟩
  | dk xs => rw [q] at this; obtain ⟨vs, e, _⟩ := this; exact ⟨_, e⟩
  | dt xs => rw [q] at this; obtain ⟨vs, e, _⟩ := this; exact ⟨_, e⟩
  | gone => rw [q] at this; obtain ⟨_, _, e⟩ := this; exact ⟨_, e⟩
  | tab x => rw [q] at this; obtain ⟨_, _, _, e, _⟩ := this; exact ⟨_, e⟩
/-- all that was tracked is kept -/
theorem HR.grow {h : AH} (r : HR K mg m z H h) (s : Same H H') : HR K mg m z H' h where
  len := r.len
  nd := r.nd
  out := fun a ha => ⟨(r.out a ha).1, NZ.same s (r.out a ha).2⟩
  at_ := fun i a o h1 h2 => by
    have := r.at_ i a o h1 h2
    have f : Aft m H m H' := .of s
    cases o with
    | lst xs => obtain ⟨vs, e, q⟩ := this; exact ⟨vs, s _ _ e, q.mono f⟩
    | dk xs => obtain ⟨vs, e, q⟩ := this; exact ⟨vs, s _ _ e, Paired.mapP q fun _ _ y => ⟨y.1, y.2.mono f⟩⟩
    | dt xs => obtain ⟨vs, e, q⟩ := this; exact ⟨vs, s _ _ e, Paired.mapP q fun _ _ y => ⟨y.1, y.2.mono f⟩⟩
    | gone => obtain ⟨od, u, e⟩ := this; exact ⟨od, u, s _ _ e⟩
    | tab x => exact TabOk.of this f.hid fun ps e => s _ _ e
end

/-! ### readings -/
section
variable (K : PySem.W.Frag) (mg : Str → Option Value)
def LF {α β : Type} (R : List Addr → List Addr → Hp → α → β → Prop) (f : AE → AH → Option (β × AH)) : St → Hp → (α → Hp → Prop) → Prop := fun σ H Q =>
  ∃ m z a h x h', HR K mg m z H h ∧ RS K mg m z H σ a ∧ f a h = some (x, h') ∧ ∀ v H' m', Aft m H m' H' → HR K mg m' z H' h' → R m' z H' v x → Q v H'
end
abbrev XE := AE → AH → Option (AV × AH)
abbrev XA := AE → AH → Option (List AV × AH)
abbrev XT := AE → AH → Option (Bool × AH)
def DE (X : Cx) (e : Expr) (f : XE) : Prop := PE X e (LF X.K X.mg (RA X.K X.mg) f)
def DA (X : Cx) (es : List Expr) (f : XA) : Prop := PA X es (LF X.K X.mg (RAs X.K X.mg) f)
def DT (X : Cx) (e : Expr) (f : XT) : Prop := PT X e (LF X.K X.mg (fun _ _ _ b c => b = c) f)

section
variable {X : Cx}
def xC (x : AV) : XE := fun _ h => some (x, h)
theorem de_c {e : Expr} {v : V} {x : AV} (p : PE X e (tC v)) (r : ∀ m z H, RA X.K X.mg m z H v x) : DE X e (xC x) := by
  intro pins s σ H Q I h
  obtain ⟨m, z, a, h, y, h', hr, rs, e, q⟩ := h
  cases e
  exact p pins s σ H Q I (q v H m (.refl _ _) hr (r _ _ _))
theorem de_int {i j pos} : DE X (.Constant (.int i) j pos) (xC (.d (.int i))) := de_c pe_int fun _ _ _ => DP.int i
theorem de_str {x j pos} : DE X (.Constant (.str x) j pos) (xC (.d (.str x))) := de_c pe_str fun _ _ _ => DP.str x
theorem de_bl {b j pos} : DE X (.Constant (.bool b) j pos) (xC (.d (.bool b))) := de_c pe_bl fun _ _ _ => DP.bl b
def xV (i : Nat) : XE := fun a h => match a[i]? with | some (some x) => some (x, h) | _ => none
theorem de_v {e : Expr} {i : Nat} (p : PE X e (tVar i)) : DE X e (xV i) := by
  intro pins s σ H Q I h
  obtain ⟨m, z, a, h, y, h', hr, rs, e, q⟩ := h
  unfold xV at e
  split at e
  · rename_i x he
    cases e
    obtain ⟨v, h1, h2⟩ := rs.2 i _ he
    exact p pins s σ H Q I ⟨v, h1, q v H m (.refl _ _) hr h2⟩
  · cases e
theorem de_fn {x : Str} {pos : Pos} (hg : Gl X x) (hm : ∃ f, X.mg x = some (.ref f)) (hd : (x == ("__debug__" : Str)) = false := by decide) : DE X (.Name x pos) (xC (.fn x)) := by
  obtain ⟨f, hf⟩ := hm
  exact de_c (pe_glob hg hf (show RelV (.ref f) (.ref f) from rfl) hd) fun _ _ _ => ⟨f, hf, rfl⟩
theorem de_gi {x : Str} {i : Int} {pos : Pos} (hg : Gl X x) (hm : ∃ t, X.mg x = some (.int i t)) (hd : (x == ("__debug__" : Str)) = false := by decide) : DE X (.Name x pos) (xC (.d (.int i))) :=
  de_c (pe_globC hg hm hd) fun _ _ _ => DP.int i
theorem de_ty {x : Str} {n : String} {pos : Pos} (hg : Gl X x) (hm : X.mg x = none) (hv : bootBuiltins x = some (.type n)) (hn : x ≠ "__name__" := by decide) (hd : (x == ("__debug__" : Str)) = false := by decide) : DE X (.Name x pos) (xC (.ty n)) :=
  de_c (pe_bltn (v := .ty n) hg hm hv rfl hn hd) fun _ _ _ => rfl

/-! ### two in a row -/
def x2 (f g : XE) (k : AV → AV → AH → Option (AV × AH)) : XE := fun a h => match f a h with
  | some (x, h1) => (match g a h1 with | some (y, h2) => k x y h2 | none => none)
  | none => none
/-- what a two-place operation gives of data -/
def r2 (K : PySem.W.Frag) (mg : Str → Option Value) (k : AV → AV → AH → Option (AV × AH)) : R2 := fun v u H Q => ∃ m z h x y w h', HR K mg m z H h ∧ RA K mg m z H v x ∧ RA K mg m z H u y ∧ k x y h = some (w, h') ∧
  ∀ v' H' m', Aft m H m' H' → HR K mg m' z H' h' → RA K mg m' z H' v' w → Q v' H'
theorem lf_x2 {f g : XE} {k : AV → AV → AH → Option (AV × AH)} {K : PySem.W.Frag} {mg : Str → Option Value} {σ : St} {H : Hp} {Q : VK} (h : LF K mg (RA K mg) (x2 f g k) σ H Q) :
    LF K mg (RA K mg) f σ H fun v H1 => LF K mg (RA K mg) g σ H1 fun u H2 => r2 K mg k v u H2 Q := by
  obtain ⟨m, z, a, h, x, h', hr, rs, e, q⟩ := h
  unfold x2 at e
  split at e
  · rename_i y h1 e1
    split at e
    · rename_i w h2 e2
      refine ⟨m, z, a, h, y, h1, hr, rs, e1, fun v H1 m1 f1 hr1 ra1 => ⟨m1, z, a, h1, w, h2, hr1, rs.mono f1, e2, fun u H2 m2 f2 hr2 ra2 => ⟨m2, z, h2, y, w, x, h', hr2, ra1.mono f2, ra2, e, fun v' H' m' f3 hr3 ra3 => q v' H' m' ((f1.trans f2).trans f3) hr3 ra3⟩⟩⟩
    · cases e
  · cases e
theorem de_op {a b : Expr} {op : Operator} {pos : Pos} {f g : XE} {k : AV → AV → AH → Option (AV × AH)} (o : OpR X (binaryOp op) (r2 X.K X.mg k)) (ha : DE X a f) (hb : DE X b g) : DE X (.BinOp a op b pos) (x2 f g k) :=
  fun pins s σ H Q I h => pe_op o ha hb pins s σ H Q I (lf_x2 h)
theorem de_cmp {a b : Expr} {op : CmpOp} {pos : Pos} {f g : XE} {k : AV → AV → AH → Option (AV × AH)} (o : OpR X (compareOp op) (r2 X.K X.mg k)) (ha : DE X a f) (hb : DE X b g) (hm : behindInMarks op b = false) : DE X (.Compare a [op] [b] pos) (x2 f g k) :=
  fun pins s σ H Q I h => pe_cmpR o ha hb hm pins s σ H Q I (lf_x2 h)
end
end L2.Dm
set_option Elab.async false
set_option linter.all false
set_option maxRecDepth 100000
namespace L2.Dm
open PySem PySem.Spec PyProof.Rows

/-! ### a thing looked at -/
def toD : AV → Option PyData
  | .d x => some x
  | _ => none
def allD : List AV → Option (List PyData)
  | [] => some []
  | x :: r => match toD x, allD r with
    | some d, some ds => some (d :: ds)
    | _, _ => none
def view (h : AH) : AV → Option PyData
  | .d x => some x
  | .ref i => match h[i]? with
    | some (.lst xs) => (allD xs).map PyData.list
    | _ => none
  | _ => none
@[simp] theorem view_d {h : AH} {x : PyData} : view h (.d x) = some x := rfl
section
variable {K : PySem.W.Frag} {mg : Str → Option Value} {m z : List Addr} {H : Hp} {h : AH}
theorem allD_dp : ∀ {xs : List AV} {ds : List PyData} {vs : List V}, allD xs = some ds → RAs K mg m z H vs xs → DPs K (hid m z H) vs ds
  | [], _, _, e, r => by cases e; cases r; exact .nil
  | x :: xs, ds, _, e, .cons a b => by
    unfold allD at e
    split at e
    · rename_i d ds' h1 h2
      cases e
      cases x with
      | d y => cases h1; exact .cons a (allD_dp h2 b)
      | ref i => cases h1
      | fn n => cases h1
      | ty n => cases h1
      | raw n => cases h1
      | exc n => cases h1
    · cases e
theorem view_list {v : V} {x : AV} {ds : List PyData} (hr : HR K mg m z H h) (r : RA K mg m z H v x) (e : view h x = some (.list ds)) : ∃ a vs, v = .ref a ∧ SqL K H a vs ∧ DPs K (hid m z H) vs ds := by
  cases x with
  | d y =>
    cases e
    obtain ⟨a, vs, h1, h2, h3⟩ := DP.lst_inv r
    exact ⟨a, vs, h1, sameL (hid_sub _ _ _) h2, h3⟩
  | ref i =>
    obtain ⟨a, h1, rfl⟩ := r
    simp only [view] at e
    split at e
    · rename_i xs hx
      cases q : allD xs with
      | none => rw [q] at e; cases e
      | some ds' =>
        rw [q] at e
        cases e
        obtain ⟨vs, h2, h3⟩ := hr.at_ i a _ h1 hx
        exact ⟨a, vs, rfl, SqL.of h2, allD_dp q h3⟩
    · cases e
  | fn n => cases e
  | ty n => cases e
  | raw n => cases e
  | exc n => cases e
theorem view_not {v : V} {x : AV} {d : PyData} (r : RA K mg m z H v x) (e : view h x = some d) (n : ∀ ds, d ≠ .list ds) : DP K (hid m z H) v d := by
  cases x with
  | d y => cases e; exact r
  | ref i =>
    simp only [view] at e
    split at e
    · rename_i xs hx
      cases q : allD xs with
      | none => rw [q] at e; cases e
      | some ds' => rw [q] at e; cases e; exact absurd rfl (n _)
    · cases e
  | fn n => cases e
  | ty n => cases e
  | raw n => cases e
  | exc n => cases e
theorem view_tuple {v : V} {x : AV} {ds : List PyData} (r : RA K mg m z H v x) (e : view h x = some (.tuple ds)) : ∃ a vs, v = .ref a ∧ SqT K H a vs ∧ DPs K (hid m z H) vs ds := by
  obtain ⟨a, vs, h1, h2, h3⟩ := DP.ref_inv (view_not r e (by intro ds z; cases z))
  exact ⟨a, vs, h1, Same.tup (hid_sub _ _ _) h2, h3⟩
theorem view_int {v : V} {x : AV} {i : Int} (r : RA K mg m z H v x) (e : view h x = some (.int i)) : v = .int i := by
  have := view_not r e (by intro ds z; cases z)
  cases this; rfl
theorem view_str {v : V} {x : AV} {i : Str} (r : RA K mg m z H v x) (e : view h x = some (.str i)) : v = .str i := by
  have := view_not r e (by intro ds z; cases z)
  cases this; rfl
theorem view_bool {v : V} {x : AV} {i : Bool} (r : RA K mg m z H v x) (e : view h x = some (.bool i)) : v = .bl i := by
  have := view_not r e (by intro ds z; cases z)
  cases this; rfl
theorem view_dp {v : V} {x : AV} {d : PyData} (hr : HR K mg m z H h) (r : RA K mg m z H v x) (e : view h x = some d) : DP K H v d := by
  by_cases n : ∃ ds, d = .list ds
  · obtain ⟨ds, rfl⟩ := n
    obtain ⟨a, vs, rfl, h2, h3⟩ := view_list hr r e
    exact .lst h2 (h3.same (hid_sub _ _ _))
  · exact (view_not r e fun ds q => n ⟨ds, q⟩).same (hid_sub _ _ _)
/-- a new tuple, a new list -/
theorem free_m (hr : HR K mg m z H h) {p : Addr} (hp : H p = none) : p ∉ m ∧ p ∉ z := by
  constructor
  · intro q
    obtain ⟨o, e⟩ := hr.has q
    rw [hp] at e; cases e
  · intro q
    exact NZ.ne (hr.out p q).2 hp
theorem hid_at (hr : HR K mg m z H h) {p : Addr} (hp : H p = none) (o : HO) : hid m z (upd H p o) p = some o := hid_some.mpr ⟨(free_m hr hp).1, (free_m hr hp).2, upd_same⟩
theorem same_new {p : Addr} (hp : H p = none) (o : HO) : Same H (upd H p o) := (Same.refl H).new o hp
theorem new_tup (hr : HR K mg m z H h) {p : Addr} (hp : H p = none) {vs : List V} {ds : List PyData} (d : DPs K (hid m z H) vs ds) : DP K (hid m z (upd H p (.tup vs))) (.ref p) (.tuple ds) :=
  .tup (hid_at hr hp _) (d.same (Aft.hid (.of (same_new hp _))))
theorem new_lst (hr : HR K mg m z H h) {p : Addr} (hp : H p = none) {vs : List V} {ds : List PyData} (d : DPs K (hid m z H) vs ds) : DP K (hid m z (upd H p (.lst vs))) (.ref p) (.list ds) :=
  .lst (SqL.of (hid_at hr hp _)) (d.same (Aft.hid (.of (same_new hp _))))
end

/-! ### operators on data -/
def op2 (g : PyData → PyData → Option PyData) : AV → AV → AH → Option (AV × AH) := fun x y h => match view h x, view h y with
  | some a, some b => (match g a b with | some d => some (.d d, h) | none => none)
  | _, _ => none
theorem op2_inv {g : PyData → PyData → Option PyData} {x y w : AV} {h h' : AH} (e : op2 g x y h = some (w, h')) : ∃ a b d, view h x = some a ∧ view h y = some b ∧ g a b = some d ∧ w = .d d ∧ h' = h := by
  unfold op2 at e
  split at e
  · rename_i a b h1 h2
    split at e
    · rename_i d hd
      cases e
      exact ⟨a, b, d, h1, h2, hd, rfl, rfl⟩
    · cases e
  · cases e
/-- g's answer is what the operation gives -/
theorem opr_of {X : Cx} {f : Value → Value → Sem Value} {g : PyData → PyData → Option PyData}
    (hh : ∀ (pins : List (Addr × Obj)) (s : Shared) (σ : St) (H : Hp) (x y : V) (v u : Value) (Q : VK) (m z : List Addr) (h : AH) (ax ay : AV) (a b d : PyData), Inv X pins σ H s → RelV x v → RelV y u →
      HR X.K X.mg m z H h → RA X.K X.mg m z H x ax → RA X.K X.mg m z H y ay → view h ax = some a → view h ay = some b → g a b = some d →
      (∀ v' H', Same H H' → DP X.K (hid m z H') v' d → Q v' H') → wpAny (model X.prog X.w) X.A (f v u) (EP X pins σ Q) X.xe s) : OpR X f (r2 X.K X.mg (op2 g)) := by
  intro pins s σ H x y v u Q I rx ry hq
  obtain ⟨m, z, h, ax, ay, w, h', hr, ra, rb, e, q⟩ := hq
  obtain ⟨a, b, d, h1, h2, h3, rfl, rfl⟩ := op2_inv e
  exact hh pins s σ H x y v u Q m z h' ax ay a b d I rx ry hr ra rb h1 h2 h3 fun v' H' sm dd => q v' H' m (.of sm) (hr.grow sm) dd
def addD : PyData → PyData → Option PyData
  | .int i, .int j => some (.int (i + j))
  | .str a, .str b => if a.length + b.length ≤ sizeLine then some (.str (a ++ b)) else none
  | .tuple xs, .tuple ys => if xs.length + ys.length ≤ sizeLine then some (.tuple (xs ++ ys)) else none
  | .list xs, .list ys => if xs.length + ys.length ≤ sizeLine then some (.list (xs ++ ys)) else none
  | _, _ => none
section
variable {X : Cx}
theorem catT_all {pins : List (Addr × Obj)} {s : Shared} {σ : St} {H : Hp} {Q : VK} {a b : Addr} {xs ys : List V} (I : Inv X pins σ H s) (ha : SqT X.K H a xs) (hb : SqT X.K H b ys) (hz : xs.length + ys.length ≤ sizeLine)
    (q0 : xs = [] → Q (.ref b) H) (q1 : ys = [] → Q (.ref a) H) (q2 : ∀ p, H p = none → Q (.ref p) (upd H p (.tup (xs ++ ys)))) : wpAny (model X.prog X.w) X.A (binaryOp .Add (.ref a) (.ref b)) (EP X pins σ Q) X.xe s := by
  by_cases hx : xs = []
  · obtain ⟨its, r1, p1, _⟩ := I.tuple ha
    obtain ⟨its2, r2, p2, _⟩ := I.tuple hb
    obtain ⟨⟨cls, dd, data, sl⟩, ho, hc, n, hd⟩ := id p1
    obtain ⟨⟨cls2, dd2, data2, sl2⟩, ho2, hc2, n2, hd2⟩ := id p2
    simp only at hc hd hc2 hd2
    subst hc hd hc2 hd2
    have hv : its = [] := r1.nil_iff.mpr hx
    exact concat_meets ⟨_, ho, rfl⟩ ⟨_, ho2, rfl⟩ noFill_tuple_add seq_tuple_add PySem.F.slot_tuple_add PySem.F.entry_tuple_add (PySem.F.args_tuple_add_2 _ _)
      (tuple_addW0 a b its.toArray its2.toArray n n2 dd dd2 sl sl2 (by simp [hv])) ⟨ho, ho2, ⟨.ref b, H, I, rfl, q0 hx⟩⟩
  · exact op_catT pins s σ H (.ref a) (.ref b) _ _ Q I rfl rfl ⟨a, b, xs, ys, rfl, rfl, ha, hb, hx, hz, q1, fun _ => q2⟩
theorem catL_all {pins : List (Addr × Obj)} {s : Shared} {σ : St} {H : Hp} {Q : VK} {a b : Addr} {xs ys : List V} (I : Inv X pins σ H s) (ha : SqL X.K H a xs) (hb : SqL X.K H b ys) (hz : xs.length + ys.length ≤ sizeLine)
    (q2 : ∀ p, H p = none → Q (.ref p) (upd H p (.lst (xs ++ ys)))) : wpAny (model X.prog X.w) X.A (binaryOp .Add (.ref a) (.ref b)) (EP X pins σ Q) X.xe s := by
  obtain ⟨its, r1, ⟨⟨cls, dd, data, sl⟩, n, e1, c1, d1, g1⟩, _⟩ := I.list ha
  obtain ⟨its2, r2, ⟨⟨cls2, dd2, data2, sl2⟩, n2, e2, c2, d2, g2⟩, _⟩ := I.list hb
  simp only at c1 d1 g1 c2 d2 g2
  subst c1 d1 g1 c2 d2 g2
  have l1 := r1.length
  have l2 := r2.length
  refine concat_meets ⟨_, e1, rfl⟩ ⟨_, e2, rfl⟩ noFill_list_add seq_list_add PySem.F.slot_list_add PySem.F.entry_list_add (PySem.F.args_list_add_2 _ _) (list_addW a b its.toArray its2.toArray n n2 none none sl sl2 (by rw [List.size_toArray, List.size_toArray]; omega)) ⟨e1, e2, ?_⟩
  have ea : its.toArray ++ its2.toArray = (its ++ its2).toArray := by simp
  rw [ea]
  exact ⟨.ref _, _, I.lnew (t' := s.toks) (r1.append r2) (by rw [List.length_append]; omega), rfl, q2 _ I.fresh⟩
end
end L2.Dm
set_option Elab.async false
set_option linter.all false
set_option maxRecDepth 100000
namespace L2.Dm
open PySem PySem.Spec PyProof.Rows
section
variable {X : Cx}
theorem o_add : OpR X (binaryOp .Add) (r2 X.K X.mg (op2 addD)) := opr_of fun pins s σ H x y v u Q m z h ax ay a b d I rx ry hr ra rb h1 h2 h3 q => by
  unfold addD at h3
  split at h3
  · cases h3
    cases view_int ra h1; cases view_int rb h2
    exact op_add pins s σ H _ _ v u Q I rx ry ⟨_, _, rfl, rfl, q _ H (Same.refl _) (.int _)⟩
  · split at h3
    · cases h3
      cases view_str ra h1; cases view_str rb h2
      exact op_add_str pins s σ H _ _ v u Q I rx ry ⟨_, _, rfl, rfl, by assumption, q _ H (Same.refl _) (.str _)⟩
    · cases h3
  · split at h3
    · rename_i xs ys hz
      cases h3
      obtain ⟨p, vs, rfl, t1, d1⟩ := view_tuple ra h1
      obtain ⟨p2, ws, rfl, t2, d2⟩ := view_tuple rb h2
      cases rx; cases ry
      have l1 := d1.length
      have l2 := d2.length
      refine catT_all I t1 t2 (by omega) (fun e => ?_) (fun e => ?_) fun p hp => ?_
      · subst e
        have e1 : xs = [] := List.eq_nil_of_length_eq_zero (by simpa using l1.symm)
        subst e1
        exact q _ H (Same.refl _) (view_not rb h2 (by intro ds z; cases z))
      · subst e
        have e1 : ys = [] := List.eq_nil_of_length_eq_zero (by simpa using l2.symm)
        subst e1
        rw [List.append_nil] at q
        exact q _ H (Same.refl _) (view_not ra h1 (by intro ds z; cases z))
      · exact q _ _ (same_new hp _) (new_tup hr hp (d1.append d2))
    · cases h3
  · split at h3
    · cases h3
      obtain ⟨p, vs, rfl, t1, d1⟩ := view_list hr ra h1
      obtain ⟨p2, ws, rfl, t2, d2⟩ := view_list hr rb h2
      cases rx; cases ry
      have l1 := d1.length
      have l2 := d2.length
      exact catL_all I t1 t2 (by omega) fun p hp => q _ _ (same_new hp _) (new_lst hr hp (d1.append d2))
    · cases h3
  · cases h3
def subD : PyData → PyData → Option PyData
  | .int i, .int j => some (.int (i - j))
  | _, _ => none
theorem o_sub : OpR X (binaryOp .Sub) (r2 X.K X.mg (op2 subD)) := opr_of fun pins s σ H x y v u Q m z h ax ay a b d I rx ry hr ra rb h1 h2 h3 q => by
  unfold subD at h3
  split at h3
  · cases h3
    cases view_int ra h1; cases view_int rb h2
    exact op_sub pins s σ H _ _ v u Q I rx ry ⟨_, _, rfl, rfl, q _ H (Same.refl _) (.int _)⟩
  · cases h3
def mulD : PyData → PyData → Option PyData
  | .int i, .int j => if Big i ∧ Big j then some (.int (i * j)) else none
  | _, _ => none
theorem o_mul : OpR X (binaryOp .Mult) (r2 X.K X.mg (op2 mulD)) := opr_of fun pins s σ H x y v u Q m z h ax ay a b d I rx ry hr ra rb h1 h2 h3 q => by
  unfold mulD at h3
  split at h3
  · split at h3
    · rename_i hc
      cases h3
      cases view_int ra h1; cases view_int rb h2
      exact op_mulB pins s σ H _ _ v u Q I rx ry ⟨_, _, rfl, rfl, hc, q _ H (Same.refl _) (.int _)⟩
    · cases h3
  · cases h3
def fdivD : PyData → PyData → Option PyData
  | .int i, .int j => if 0 < j ∧ Big j then some (.int (i / j)) else none
  | _, _ => none
theorem o_fdiv : OpR X (binaryOp .FloorDiv) (r2 X.K X.mg (op2 fdivD)) := opr_of fun pins s σ H x y v u Q m z h ax ay a b d I rx ry hr ra rb h1 h2 h3 q => by
  unfold fdivD at h3
  split at h3
  · split at h3
    · rename_i hc
      cases h3
      cases view_int ra h1; cases view_int rb h2
      exact op_fdivB pins s σ H _ _ v u Q I rx ry ⟨_, _, rfl, rfl, hc, q _ H (Same.refl _) (.int _)⟩
    · cases h3
  · cases h3
def modD : PyData → PyData → Option PyData
  | .int i, .int j => if 0 < j then some (.int (i % j)) else none
  | _, _ => none
theorem o_mod : OpR X (binaryOp .Mod) (r2 X.K X.mg (op2 modD)) := opr_of fun pins s σ H x y v u Q m z h ax ay a b d I rx ry hr ra rb h1 h2 h3 q => by
  unfold modD at h3
  split at h3
  · split at h3
    · rename_i hc
      cases h3
      cases view_int ra h1; cases view_int rb h2
      exact op_mod pins s σ H _ _ v u Q I rx ry ⟨_, _, rfl, rfl, hc, q _ H (Same.refl _) (.int _)⟩
    · cases h3
  · cases h3
def powD : PyData → PyData → Option PyData
  | .int i, .int j => if 0 ≤ j ∧ j ≤ 1000000 ∧ i.natAbs < 2 ^ 64 then some (.int (i ^ j.toNat)) else none
  | _, _ => none
/-! ### comparisons -/
def ltD : PyData → PyData → Option PyData
  | .int i, .int j => some (.bool (decide (i < j)))
  | .str i, .str j => some (.bool (decide (i.cps.toList < j.cps.toList)))
  | _, _ => none
def leD : PyData → PyData → Option PyData
  | .int i, .int j => some (.bool (decide (i ≤ j)))
  | .str i, .str j => some (.bool (!decide (j.cps.toList < i.cps.toList)))
  | _, _ => none
theorem o_le : OpR X (compareOp .LtE) (r2 X.K X.mg (op2 leD)) := opr_of fun pins s σ H x y v u Q m z h ax ay a b d I rx ry hr ra rb h1 h2 h3 q => by
  unfold leD at h3
  split at h3
  · cases h3
    cases view_int ra h1; cases view_int rb h2
    exact op_le pins s σ H _ _ v u Q I rx ry ⟨_, _, rfl, rfl, q _ H (Same.refl _) (.bl _)⟩
  · cases h3
    cases view_str ra h1; cases view_str rb h2
    exact op_le_str pins s σ H _ _ v u Q I rx ry ⟨_, _, rfl, rfl, q _ H (Same.refl _) (.bl _)⟩
  · cases h3
def gtD : PyData → PyData → Option PyData
  | .int i, .int j => some (.bool (decide (j < i)))
  | .str i, .str j => some (.bool (decide (j.cps.toList < i.cps.toList)))
  | _, _ => none
def geD : PyData → PyData → Option PyData
  | .int i, .int j => some (.bool (decide (j ≤ i)))
  | .str i, .str j => some (.bool (!decide (i.cps.toList < j.cps.toList)))
  | _, _ => none
theorem o_ge : OpR X (compareOp .GtE) (r2 X.K X.mg (op2 geD)) := opr_of fun pins s σ H x y v u Q m z h ax ay a b d I rx ry hr ra rb h1 h2 h3 q => by
  unfold geD at h3
  split at h3
  · cases h3
    cases view_int ra h1; cases view_int rb h2
    exact op_ge pins s σ H _ _ v u Q I rx ry ⟨_, _, rfl, rfl, q _ H (Same.refl _) (.bl _)⟩
  · cases h3
    cases view_str ra h1; cases view_str rb h2
    exact op_ge_str pins s σ H _ _ v u Q I rx ry ⟨_, _, rfl, rfl, q _ H (Same.refl _) (.bl _)⟩
  · cases h3
theorem hd_of_shaped {d : PyData} (h : SeqAt.shaped d = true) : d.hasDict = false := PyData.hasDict_of_canLay d (SeqAt.canLay_of_shaped h)
/-- a == b -/
def eqD (a b : PyData) : Option Bool := match a, b with
  | .int i, .int j => some (decide (i = j))
  | .str i, .str j => some (decide (i = j))
  | .bool i, .bool j => some (decide (i = j))
  | a, b => if SeqAt.shaped a = true ∧ SeqAt.shaped b = true then some (PyData.eqv a b) else none
def eqB (a b : PyData) : Option PyData := match eqD a b with | some k => some (.bool k) | none => none
def neB (a b : PyData) : Option PyData := match eqD a b with | some k => some (.bool (!k)) | none => none
theorem eqD_cases {a b : PyData} {k : Bool} (e : eqD a b = some k) : (∃ i j, a = .int i ∧ b = .int j ∧ k = decide (i = j)) ∨ (∃ i j, a = .str i ∧ b = .str j ∧ k = decide (i = j)) ∨ (∃ i j, a = .bool i ∧ b = .bool j ∧ k = decide (i = j)) ∨
    (SeqAt.shaped a = true ∧ SeqAt.shaped b = true ∧ k = PyData.eqv a b) := by
  unfold eqD at e
  split at e
  · cases e; exact .inl ⟨_, _, rfl, rfl, rfl⟩
  · cases e; exact .inr (.inl ⟨_, _, rfl, rfl, rfl⟩)
  · cases e; exact .inr (.inr (.inl ⟨_, _, rfl, rfl, rfl⟩))
  · split at e
    · rename_i hc
      cases e; exact .inr (.inr (.inr ⟨hc.1, hc.2, rfl⟩))
    · cases e
theorem o_eq (hu : X.A.units + 64 < cLine) : OpR X (compareOp .Eq) (r2 X.K X.mg (op2 eqB)) := opr_of fun pins s σ H x y v u Q m z h ax ay a b d I rx ry hr ra rb h1 h2 h3 q => by
  unfold eqB at h3
  split at h3
  · rename_i k hk
    cases h3
    rcases eqD_cases hk with ⟨i, j, rfl, rfl, rfl⟩ | ⟨i, j, rfl, rfl, rfl⟩ | ⟨i, j, rfl, rfl, rfl⟩ | ⟨s1, s2, rfl⟩
    · cases view_int ra h1; cases view_int rb h2
      exact op_eq pins s σ H _ _ v u Q I rx ry ⟨rfl, by rw [dec_i]; exact q _ H (Same.refl _) (.bl _)⟩
    · cases view_str ra h1; cases view_str rb h2
      exact op_eq pins s σ H _ _ v u Q I rx ry ⟨rfl, by rw [dec_s]; exact q _ H (Same.refl _) (.bl _)⟩
    · cases view_bool ra h1; cases view_bool rb h2
      exact op_eq pins s σ H _ _ v u Q I rx ry ⟨rfl, by rw [show decide (V.bl i = V.bl j) = decide (i = j) by simp only [V.bl.injEq]]; exact q _ H (Same.refl _) (.bl _)⟩
    · exact op_eqD hu pins s σ H x y v u Q I rx ry ⟨a, b, (view_dp hr ra h1).dp (hd_of_shaped s1), (view_dp hr rb h2).dp (hd_of_shaped s2), s1, s2, q _ H (Same.refl _) (.bl _)⟩
  · cases h3
theorem o_ne (hu : X.A.units + 64 < cLine) : OpR X (compareOp .NotEq) (r2 X.K X.mg (op2 neB)) := opr_of fun pins s σ H x y v u Q m z h ax ay a b d I rx ry hr ra rb h1 h2 h3 q => by
  unfold neB at h3
  split at h3
  · rename_i k hk
    cases h3
    rcases eqD_cases hk with ⟨i, j, rfl, rfl, rfl⟩ | ⟨i, j, rfl, rfl, rfl⟩ | ⟨i, j, rfl, rfl, rfl⟩ | ⟨s1, s2, rfl⟩
    · cases view_int ra h1; cases view_int rb h2
      exact op_ne pins s σ H _ _ v u Q I rx ry ⟨rfl, by rw [dec_i]; exact q _ H (Same.refl _) (.bl _)⟩
    · cases view_str ra h1; cases view_str rb h2
      exact op_ne pins s σ H _ _ v u Q I rx ry ⟨rfl, by rw [dec_s]; exact q _ H (Same.refl _) (.bl _)⟩
    · cases view_bool ra h1; cases view_bool rb h2
      exact op_ne pins s σ H _ _ v u Q I rx ry ⟨rfl, by rw [show decide (V.bl i = V.bl j) = decide (i = j) by simp only [V.bl.injEq]]; exact q _ H (Same.refl _) (.bl _)⟩
    · exact op_neD hu pins s σ H x y v u Q I rx ry ⟨a, b, (view_dp hr ra h1).dp (hd_of_shaped s1), (view_dp hr rb h2).dp (hd_of_shaped s2), s1, s2, q _ H (Same.refl _) (.bl _)⟩
  · cases h3
/-! ### is None -/
def isNone : PyData → Bool
  | .none => true
  | _ => false
def isB (a b : PyData) : Option PyData := match b with | .none => some (.bool (isNone a)) | _ => none
def isnB (a b : PyData) : Option PyData := match b with | .none => some (.bool (!isNone a)) | _ => none
/-! ### in -/
def inD (a b : PyData) : Option Bool := match b with
  | .list xs => if SeqAt.shaped a = true ∧ SeqAt.shaped (.list xs) = true then some (xs.any fun y => PyData.eqv y a) else none
  | .tuple xs => if SeqAt.shaped a = true ∧ SeqAt.shaped (.tuple xs) = true then some (xs.any fun y => PyData.eqv y a) else none
  | .str t => (match a with | .str i => some (!(Builtin.Str.occurrences t i 0 t.length 1).isEmpty) | _ => none)
  | _ => none
def inB (a b : PyData) : Option PyData := match inD a b with | some k => some (.bool k) | none => none
def ninB (a b : PyData) : Option PyData := match inD a b with | some k => some (.bool (!k)) | none => none
theorem o_in (hu : X.A.units + 66 < cLine) : OpR X (compareOp .In) (r2 X.K X.mg (op2 inB)) := opr_of fun pins s σ H x y v u Q m z h ax ay a b d I rx ry hr ra rb h1 h2 h3 q => by
  unfold inB at h3
  split at h3
  · rename_i k hk
    cases h3
    unfold inD at hk
    split at hk
    · split at hk
      · rename_i xs hc
        cases hk
        have dx := (view_dp hr ra h1).dp (hd_of_shaped hc.1)
        have dy := (view_dp hr rb h2).dp (hd_of_shaped hc.2)
        obtain ⟨as, q1⟩ := Dp.reads I _ _ _ dx rx
        obtain ⟨bs, q2⟩ := Dp.reads I _ _ _ dy ry
        have c := SeqAt.canLay_of_shaped hc.2
        have dd := SeqAt.depth_of_shaped hc.1
        exact SeqAt.in_list_reads q2 q1 (by simpa only [PyData.canLay0] using c) (SeqAt.canLay_of_shaped hc.1) (by have := Nat.min_le_right (PyData.depthAll xs) a.depth; omega) ⟨.bl _, H, I, rfl, q _ H (Same.refl _) (.bl _)⟩
      · cases hk
    · split at hk
      · rename_i xs hc
        cases hk
        have dx := (view_dp hr ra h1).dp (hd_of_shaped hc.1)
        have dy := (view_dp hr rb h2).dp (hd_of_shaped hc.2)
        obtain ⟨as, q1⟩ := Dp.reads I _ _ _ dx rx
        obtain ⟨bs, q2⟩ := Dp.reads I _ _ _ dy ry
        have c := SeqAt.canLay_of_shaped hc.2
        have dd := SeqAt.depth_of_shaped hc.1
        exact SeqAt.in_tuple_reads q2 q1 (by simpa only [PyData.canLay0] using c) (SeqAt.canLay_of_shaped hc.1) (by have := Nat.min_le_right (PyData.depthAll xs) a.depth; omega) ⟨.bl _, H, I, rfl, q _ H (Same.refl _) (.bl _)⟩
      · cases hk
    · split at hk
      · cases hk
        cases view_str ra h1; cases view_str rb h2
        exact op_in_str pins s σ H _ _ v u Q I rx ry ⟨_, _, rfl, rfl, q _ H (Same.refl _) (.bl _)⟩
      · cases hk
    · cases hk
  · cases h3
end
end L2.Dm
set_option Elab.async false
set_option linter.all false
set_option maxRecDepth 100000
namespace L2.Dm
open PySem PySem.Spec PyProof.Rows
section
variable {X : Cx} {a b c : Expr} {f g k : XE} {t u : XT} {pos : Pos}
/-! ### one -/
def x1 (f : XE) (k : AV → AH → Option (AV × AH)) : XE := fun a h => match f a h with
  | some (x, h1) => k x h1
  | none => none
def r1 (K : PySem.W.Frag) (mg : Str → Option Value) (k : AV → AH → Option (AV × AH)) : V → Hp → VK → Prop := fun v H Q => ∃ m z h x w h', HR K mg m z H h ∧ RA K mg m z H v x ∧ k x h = some (w, h') ∧
  ∀ v' H' m', Aft m H m' H' → HR K mg m' z H' h' → RA K mg m' z H' v' w → Q v' H'
def negA : AV → AH → Option (AV × AH) := fun x h => match view h x with
  | some (.int i) => some (.d (.int (-i)), h)
  | _ => none
/-! ### truth -/
def truD : PyData → Option Bool
  | .none => some false
  | .bool b => some b
  | .int i => some (decide (i ≠ 0))
  | .str y => if y.length ≤ sizeLine then some (decide (y.length ≠ 0)) else none
  | .list xs => some (!xs.isEmpty)
  | .tuple xs => some (!xs.isEmpty)
  | .dict kvs => some (!kvs.isEmpty)
theorem tru_v {K : PySem.W.Frag} {H : Hp} {v : V} {d : PyData} {b : Bool} (h : DP K H v d) (e : truD d = some b) : TruV K v H b := by
  cases h with
  | non => cases e; rfl
  | bl b => cases e; rfl
  | int i => cases e; show _ = (i != 0); rw [Bool.eq_iff_iff]; simp
  | str x =>
    simp only [truD] at e
    split at e
    · cases e
      refine ⟨by assumption, ?_⟩
      rw [Bool.eq_iff_iff]; simp
    · cases e
  | lst h1 h2 =>
    cases e
    refine .inl ⟨_, h1, ?_⟩
    cases h2 <;> rfl
  | tup h1 h2 =>
    cases e
    refine .inr (.inl ⟨_, SqT.of h1, ?_⟩)
    cases h2 <;> rfl
  | dk0 h1 => cases e; exact .inr (.inr ⟨_, h1, rfl⟩)
  | dk1 h1 => cases e; exact .inr (.inr ⟨_, h1, rfl⟩)
def xT (f : XE) : XT := fun a h => match f a h with
  | some (x, h1) => (match view h1 x with
    | some d => (match truD d with | some b => some (b, h1) | none => none)
    | none => none)
  | none => none
theorem dt_val (ha : DE X a f) (he : ∀ whole, isTrue a X.env whole = (do let v ← whole; standAt a.pos; holding [v] (truthy v)) := by intro _; rfl) : DT X a (xT f) := by
  intro pins s σ H Q I h
  obtain ⟨m, z, a', h, x, h', hr, rs, e, q⟩ := h
  unfold xT at e
  split at e
  · rename_i y h1 e1
    split at e
    · rename_i d hd
      split at e
      · rename_i k hk
        cases e
        refine pt_truth ha he pins s σ H Q I ⟨m, z, a', h, y, _, hr, rs, e1, fun v H1 m1 f1 hr1 ra1 => ⟨x, tru_v (view_dp hr1 ra1 hd) hk, q x H1 m1 f1 hr1 rfl⟩⟩
      · cases e
    · cases e
  · cases e
/-- a comparison as a test -/
def xB (f : XE) : XT := fun a h => match f a h with
  | some (.d (.bool b), h1) => some (b, h1)
  | _ => none
theorem lf_xB {K : PySem.W.Frag} {mg : Str → Option Value} {f : XE} {σ : St} {H : Hp} {Q : Bool → Hp → Prop} (h : LF K mg (fun _ _ _ b c => b = c) (xB f) σ H Q) : LF K mg (RA K mg) f σ H fun v H' => ∃ k, v = .bl k ∧ Q k H' := by
  obtain ⟨m, z, a', h, x, h', hr, rs, e, q⟩ := h
  unfold xB at e
  split at e
  · rename_i b h1 e1
    cases e
    exact ⟨m, z, a', h, _, _, hr, rs, e1, fun v H1 m1 f1 hr1 ra1 => ⟨x, (by cases ra1; rfl), q x H1 m1 f1 hr1 rfl⟩⟩
  · cases e
theorem dt_cmp {op : CmpOp} {k : AV → AV → AH → Option (AV × AH)} (o : OpR X (compareOp op) (r2 X.K X.mg k)) (ha : DE X a f) (hb : DE X b g) (hm : behindInMarks op b = false) : DT X (.Compare a [op] [b] pos) (xB (x2 f g k)) :=
  fun pins s σ H Q I h => pt_cmpR o ha hb hm pins s σ H Q I (lf_x2 (lf_xB h))
/-! ### a < b < c -/
def xCh (f g l : XE) (k k' : AV → AV → AH → Option (AV × AH)) : XE := fun a h => match f a h with
  | some (x, h1) => (match g a h1 with
    | some (y, h2) => (match k x y h2 with
      | some (.d (.bool true), h3) => (match l a h3 with | some (w, h4) => k' y w h4 | none => none)
      | some (.d (.bool false), h3) => some (.d (.bool false), h3)
      | _ => none)
    | none => none)
  | none => none
theorem lf_xCh {f g l : XE} {k k' : AV → AV → AH → Option (AV × AH)} {K : PySem.W.Frag} {mg : Str → Option Value} {σ : St} {H : Hp} {Q : VK} (h : LF K mg (RA K mg) (xCh f g l k k') σ H Q) :
    tChain (r2 K mg k) (r2 K mg k') (LF K mg (RA K mg) f) (LF K mg (RA K mg) g) (LF K mg (RA K mg) l) σ H Q := by
  obtain ⟨m, z, a, h, x, h', hr, rs, e, q⟩ := h
  unfold xCh at e
  split at e
  · rename_i y h1 e1
    split at e
    · rename_i w h2 e2
      refine ⟨m, z, a, h, y, h1, hr, rs, e1, fun v H1 m1 f1 hr1 ra1 => ⟨m1, z, a, h1, w, h2, hr1, rs.mono f1, e2, fun u H2 m2 f2 hr2 ra2 => ?_⟩⟩
      split at e
      · rename_i h3 e3
        split at e
        · rename_i w' h4 e4
          refine ⟨m2, z, h2, y, w, _, h3, hr2, ra1.mono f2, ra2, e3, fun v3 H3 m3 f3 hr3 ra3 => ⟨true, (by cases ra3; rfl), ?_⟩⟩
          rw [if_pos rfl]
          exact ⟨m3, z, a, h3, w', h4, hr3, (rs.mono (f1.trans f2)).mono f3, e4, fun v4 H4 m4 f4 hr4 ra4 => ⟨m4, z, h4, w, w', x, h', hr4, (ra2.mono f3).mono f4, ra4, e, fun v5 H5 m5 f5 hr5 ra5 => q v5 H5 m5 ((((f1.trans f2).trans f3).trans f4).trans f5) hr5 ra5⟩⟩
        · cases e
      · rename_i h3 e3
        cases e
        refine ⟨m2, z, h2, y, w, _, _, hr2, ra1.mono f2, ra2, e3, fun v3 H3 m3 f3 hr3 ra3 => ⟨false, (by cases ra3; rfl), ?_⟩⟩
        rw [if_neg Bool.false_ne_true]
        exact q _ H3 m3 ((f1.trans f2).trans f3) hr3 (.bl _)
      · cases e
    · cases e
  · cases e
theorem de_chain {op op' : CmpOp} {f g l : XE} {k k' : AV → AV → AH → Option (AV × AH)} (o : OpR X (compareOp op) (r2 X.K X.mg k)) (o' : OpR X (compareOp op') (r2 X.K X.mg k')) (ha : DE X a f) (hb : DE X b g) (hc : DE X c l)
    (hm : lastMarks [op, op'] [b, c] = false := by with_unfolding_all rfl) : DE X (.Compare a [op, op'] [b, c] pos) (xCh f g l k k') := fun pins s σ H Q I h => pe_chain o o' ha hb hc hm pins s σ H Q I (lf_xCh h)
theorem dt_chain {op op' : CmpOp} {f g l : XE} {k k' : AV → AV → AH → Option (AV × AH)} (o : OpR X (compareOp op) (r2 X.K X.mg k)) (o' : OpR X (compareOp op') (r2 X.K X.mg k')) (ha : DE X a f) (hb : DE X b g) (hc : DE X c l)
    (hm : lastMarks [op, op'] [b, c] = false := by with_unfolding_all rfl) : DT X (.Compare a [op, op'] [b, c] pos) (xB (xCh f g l k k')) := fun pins s σ H Q I h => pt_chain o o' ha hb hc hm pins s σ H Q I (lf_xCh (lf_xB h))
/-! ### and, or, not, if else -/
def DW (X : Cx) (e : Expr) (f : XT) : Prop := PW X e (LF X.K X.mg (fun _ _ _ b c => b = c) f)
theorem DW.dt (h : DW X a t) : DT X a t := h.pt
def xAnd (t u : XT) : XT := fun a h => match t a h with
  | some (true, h1) => u a h1
  | some (false, h1) => some (false, h1)
  | none => none
def xOr (t u : XT) : XT := fun a h => match t a h with
  | some (true, h1) => some (true, h1)
  | some (false, h1) => u a h1
  | none => none
def xNot (t : XT) : XT := fun a h => match t a h with
  | some (b, h1) => some (!b, h1)
  | none => none
theorem dw_or1 (ha : DT X a t) : DW X (.BoolOp .Or [a] pos) t := pw_or1 ha
theorem dw_or {rest : List Expr} (ha : DT X a t) (hb : DW X (.BoolOp .Or (b :: rest) pos) u) : DW X (.BoolOp .Or (a :: b :: rest) pos) (xOr t u) := by
  intro whole pins s σ H Q I h
  refine pw_or ha hb whole pins s σ H Q I ?_
  obtain ⟨m, z, a', h, x, h', hr, rs, e, q⟩ := h
  unfold xOr at e
  split at e
  · rename_i h1 e1
    cases e
    refine ⟨m, z, a', h, true, _, hr, rs, e1, fun v H1 m1 f1 hr1 ra1 => ?_⟩
    subst ra1
    rw [if_pos rfl]
    exact q _ H1 m1 f1 hr1 rfl
  · rename_i h1 e1
    refine ⟨m, z, a', h, false, h1, hr, rs, e1, fun v H1 m1 f1 hr1 ra1 => ?_⟩
    subst ra1
    rw [if_neg Bool.false_ne_true]
    exact ⟨m1, z, a', h1, x, h', hr1, rs.mono f1, e, fun v2 H2 m2 f2 hr2 ra2 => q v2 H2 m2 (f1.trans f2) hr2 ra2⟩
  · cases e
theorem dt_not (ha : DT X a t) : DT X (.UnaryOp .Not a pos) (xNot t) := by
  intro pins s σ H Q I h
  refine pt_not ha pins s σ H Q I ?_
  obtain ⟨m, z, a', h, x, h', hr, rs, e, q⟩ := h
  unfold xNot at e
  split at e
  · rename_i b h1 e1
    cases e
    exact ⟨m, z, a', h, b, _, hr, rs, e1, fun v H1 m1 f1 hr1 ra1 => q _ H1 m1 f1 hr1 (by rw [ra1])⟩
  · cases e
/-- not e as a value -/
def xNotV (f : XE) : XE := fun a h => match xT f a h with
  | some (b, h1) => some (.d (.bool (!b)), h1)
  | none => none
theorem de_not (ha : DE X a f) : DE X (.UnaryOp .Not a pos) (xNotV f) := by
  intro pins s σ H Q I h
  obtain ⟨m, z, a', h, x, h', hr, rs, e, q⟩ := h
  unfold xNotV xT at e
  split at e
  · rename_i b h1 e0
    cases e
    split at e0
    · rename_i y h2 e1
      split at e0
      · rename_i d hd
        split at e0
        · rename_i k hk
          cases e0
          refine UnaryOp_ (thn (ha pins s σ H (fun v H1 => ∃ k', TruV X.K v H1 k' ∧ Q (.bl (!k')) H1) I ⟨m, z, a', h, y, _, hr, rs, e1, fun v H1 m1 f1 hr1 ra1 => ⟨b, tru_v (view_dp hr1 ra1 hd) hk, q _ H1 m1 f1 hr1 (.bl _)⟩⟩) fun v s1 ⟨x, H1, I1, r1, k', tk, q1⟩ => ?_)
          exact not_of (thn (tru_ok pins s1 σ H1 x v (fun b' H2 => Q (.bl (!b')) H2) I1 r1 ⟨k', tk, q1⟩) fun b' s2 ⟨H2, I2, q2⟩ => ⟨.bl (!b'), H2, I2, rfl, q2⟩)
        · cases e0
      · cases e0
    · cases e0
  · cases e
def xIf (t : XT) (f g : XE) : XE := fun a h => match t a h with
  | some (true, h1) => f a h1
  | some (false, h1) => g a h1
  | none => none
/-- a and b, a or b as values: all but the last one True or False -/
def xAndV (f g : XE) : XE := fun a h => match f a h with
  | some (.d (.bool true), h1) => g a h1
  | some (.d (.bool false), h1) => some (.d (.bool false), h1)
  | _ => none
def xOrV (f g : XE) : XE := fun a h => match f a h with
  | some (.d (.bool true), h1) => some (.d (.bool true), h1)
  | some (.d (.bool false), h1) => g a h1
  | _ => none
theorem de_one {op} (ha : DE X a f) : DE X (.BoolOp op [a] pos) f := pe_one ha
theorem de_and {rest : List Expr} (ha : DE X a f) (hb : DE X (.BoolOp .And (b :: rest) pos) g) : DE X (.BoolOp .And (a :: b :: rest) pos) (xAndV f g) := by
  intro pins s σ H Q I h
  refine pe_and ha hb pins s σ H Q I ?_
  obtain ⟨m, z, a', h, x, h', hr, rs, e, q⟩ := h
  unfold xAndV at e
  split at e
  · rename_i h1 e1
    refine ⟨m, z, a', h, _, h1, hr, rs, e1, fun v H1 m1 f1 hr1 ra1 => ⟨true, (by cases ra1; rfl), ?_⟩⟩
    rw [if_pos rfl]
    exact ⟨m1, z, a', h1, x, h', hr1, rs.mono f1, e, fun v2 H2 m2 f2 hr2 ra2 => q v2 H2 m2 (f1.trans f2) hr2 ra2⟩
  · rename_i h1 e1
    cases e
    refine ⟨m, z, a', h, _, _, hr, rs, e1, fun v H1 m1 f1 hr1 ra1 => ⟨false, (by cases ra1; rfl), ?_⟩⟩
    rw [if_neg Bool.false_ne_true]
    exact q _ H1 m1 f1 hr1 (.bl _)
  · cases e
end
end L2.Dm
set_option Elab.async false
set_option linter.all false
set_option maxRecDepth 100000
namespace L2.Dm
open PySem PySem.Spec PyProof.Rows
section
variable {X : Cx} {e : Expr} {es : List Expr} {f g : XE} {t : XA} {pos : Pos}
/-! ### arguments, displays -/
def xNil : XA := fun _ h => some ([], h)
def xCons (f : XE) (t : XA) : XA := fun a h => match f a h with
  | some (x, h1) => (match t a h1 with | some (xs, h2) => some (x :: xs, h2) | none => none)
  | none => none
theorem da_nil : DA X [] xNil := by
  intro p pins s σ H Q I h
  obtain ⟨m, z, a, h, x, h', hr, rs, e, q⟩ := h
  cases e
  exact pa_nil p pins s σ H Q I (q [] H m (.refl _ _) hr .nil)
theorem da_c (ha : DE X e f) (hr : DA X es t) (h : plainE e = true := by rfl) : DA X (e :: es) (xCons f t) := by
  intro p pins s σ H Q I hq
  refine pa_c ha hr h p pins s σ H Q I ?_
  obtain ⟨m, z, a, h, x, h', hr, rs, e, q⟩ := hq
  unfold xCons at e
  split at e
  · rename_i y h1 e1
    split at e
    · rename_i ys h2 e2
      cases e
      exact ⟨m, z, a, h, y, h1, hr, rs, e1, fun v H1 m1 f1 hr1 ra1 => ⟨m1, z, a, h1, ys, _, hr1, rs.mono f1, e2, fun vs H2 m2 f2 hr2 ra2 => q _ H2 m2 (f1.trans f2) hr2 (.cons (ra1.mono f2) ra2)⟩⟩
    · cases e
  · cases e
def xTup (t : XA) : XE := fun a h => match t a h with
  | some (xs, h1) => (match allD xs with | some ds => if ds.length ≤ sizeLine then some (.d (.tuple ds), h1) else none | none => none)
  | none => none
def xLst (t : XA) : XE := fun a h => match t a h with
  | some (xs, h1) => (match allD xs with | some ds => if ds.length ≤ sizeLine then some (.d (.list ds), h1) else none | none => none)
  | none => none
theorem de_tup {x1} (ht : DA X es t) : DE X (.Tuple es x1 pos) (xTup t) := by
  intro pins s σ H Q I h
  refine pe_tup ht pins s σ H Q I ?_
  obtain ⟨m, z, a, h, x, h', hr, rs, e, q⟩ := h
  unfold xTup at e
  split at e
  · rename_i xs h1 e1
    split at e
    · rename_i ds hd
      split at e
      · rename_i hl
        cases e
        refine ⟨m, z, a, h, xs, _, hr, rs, e1, fun vs H1 m1 f1 hr1 ra1 => ?_⟩
        have d := allD_dp hd ra1
        exact ⟨by rw [d.length]; exact hl, fun p hp => q _ _ m1 (f1.trans (.of (same_new hp _))) (hr1.grow (same_new hp _)) (new_tup hr1 hp d)⟩
      · cases e
    · cases e
  · cases e
theorem de_lst (ht : DA X es t) : DE X (.List es pos) (xLst t) := by
  intro pins s σ H Q I h
  refine pe_lst ht pins s σ H Q I ?_
  obtain ⟨m, z, a, h, x, h', hr, rs, e, q⟩ := h
  unfold xLst at e
  split at e
  · rename_i xs h1 e1
    split at e
    · rename_i ds hd
      split at e
      · rename_i hl
        cases e
        refine ⟨m, z, a, h, xs, _, hr, rs, e1, fun vs H1 m1 f1 hr1 ra1 => ?_⟩
        have d := allD_dp hd ra1
        exact ⟨by rw [d.length]; exact hl, fun p hp => q _ _ m1 (f1.trans (.of (same_new hp _))) (hr1.grow (same_new hp _)) (new_lst hr1 hp d)⟩
      · cases e
    · cases e
  · cases e
/-- a new thing of the machine's heap -/
theorem Aft.add {m : List Addr} {H : Hp} {p : Addr} (hp : H p = none) (o : HO) : Aft m H (m ++ [p]) (upd H p o) where
  pre := List.prefix_append _ _
  new := fun a h => by
    rcases List.mem_append.mp h with h | h
    · exact .inl h
    · rcases List.mem_singleton.mp h with rfl; exact .inr hp
  kp := fun a o' h n => same_new hp o a o' h
  fz := fun a od u h => same_new hp o a _ h
theorem HR.add {K : PySem.W.Frag} {mg : Str → Option Value} {m z : List Addr} {H : Hp} {h : AH} (r : HR K mg m z H h) {p : Addr} (hp : H p = none) {o : HO} {ao : AO} (ho : OR K mg (m ++ [p]) z (upd H p o) p ao) : HR K mg (m ++ [p]) z (upd H p o) (h ++ [ao]) where
  len := by rw [List.length_append, List.length_append, r.len]; rfl
  nd := by
    rw [List.nodup_append]
    refine ⟨r.nd, List.nodup_cons.mpr ⟨List.not_mem_nil, List.nodup_nil⟩, fun a ha b hb e => ?_⟩
    rcases List.mem_singleton.mp hb with rfl
    subst e
    exact (free_m r hp).1 ha
  out := fun a ha => by
    refine ⟨fun q => ?_, NZ.same (same_new hp o) (r.out a ha).2⟩
    · rcases List.mem_append.mp q with q | q
      · exact (r.out a ha).1 q
      · rcases List.mem_singleton.mp q with rfl
        exact NZ.ne (r.out a ha).2 hp
  at_ := fun i a o' h1 h2 => by
    by_cases hi : i < m.length
    · rw [List.getElem?_append_left hi] at h1
      rw [List.getElem?_append_left (by rw [← r.len]; exact hi)] at h2
      have := r.at_ i a o' h1 h2
      have fA : Aft m H (m ++ [p]) (upd H p o) := .add hp o
      cases o' with
      | lst xs => obtain ⟨vs, e, q⟩ := this; exact ⟨vs, same_new hp o _ _ e, q.mono fA⟩
      | dk xs => obtain ⟨vs, e, q⟩ := this; exact ⟨vs, same_new hp o _ _ e, Paired.mapP q fun _ _ y => ⟨y.1, y.2.mono fA⟩⟩
      | dt xs => obtain ⟨vs, e, q⟩ := this; exact ⟨vs, same_new hp o _ _ e, Paired.mapP q fun _ _ y => ⟨y.1, y.2.mono fA⟩⟩
      | gone => obtain ⟨od, u, e⟩ := this; exact ⟨od, u, same_new hp o _ _ e⟩
      | tab x => exact TabOk.of this fA.hid fun ps e => same_new hp o _ _ e
    · have hi' : i = m.length := by
        have := (List.getElem?_eq_some_iff.mp h1).1
        rw [List.length_append] at this
        simp at this; omega
      subst hi'
      rw [List.getElem?_append_right (Nat.le_refl _)] at h1
      rw [List.getElem?_append_right (by rw [r.len]; exact Nat.le_refl _), r.len] at h2
      simp at h1 h2
      subst h1; subst h2
      exact ho
def xLstM (t : XA) : XE := fun a h => match t a h with
  | some (xs, h1) => if xs.length ≤ sizeLine then some (.ref h1.length, h1 ++ [.lst xs]) else none
  | none => none
theorem RAs.length {K : PySem.W.Frag} {mg : Str → Option Value} {m z : List Addr} {H : Hp} {vs : List V} {xs : List AV} (r : RAs K mg m z H vs xs) : vs.length = xs.length := Paired.length r
theorem de_lstM (ht : DA X es t) : DE X (.List es pos) (xLstM t) := by
  intro pins s σ H Q I h
  refine pe_lst ht pins s σ H Q I ?_
  obtain ⟨m, z, a, h, x, h', hr, rs, e, q⟩ := h
  unfold xLstM at e
  split at e
  · rename_i xs h1 e1
    split at e
    · rename_i hl
      cases e
      refine ⟨m, z, a, h, xs, h1, hr, rs, e1, fun vs H1 m1 f1 hr1 ra1 => ⟨by rw [RAs.length ra1]; exact hl, fun p hp => ?_⟩⟩
      have fA : Aft m1 H1 (m1 ++ [p]) (upd H1 p (.lst vs)) := .add hp _
      refine q (.ref p) _ (m1 ++ [p]) (f1.trans fA) (hr1.add hp ⟨vs, upd_same, ra1.mono fA⟩) ⟨p, ?_, rfl⟩
      rw [← hr1.len, List.getElem?_append_right (Nat.le_refl _)]
      simp
    · cases e
  · cases e
/-! ### calls of built-ins -/
def xCall (t : XA) (k : List AV → AH → Option (AV × AH)) : XE := fun a h => match t a h with
  | some (xs, h1) => k xs h1
  | none => none
def rc (K : PySem.W.Frag) (mg : Str → Option Value) (k : List AV → AH → Option (AV × AH)) : List V → Hp → VK → Prop := fun vs H Q => ∃ m z h xs w h', HR K mg m z H h ∧ RAs K mg m z H vs xs ∧ k xs h = some (w, h') ∧
  ∀ v' H' m', Aft m H m' H' → HR K mg m' z H' h' → RA K mg m' z H' v' w → Q v' H'
theorem lf_call {k : List AV → AH → Option (AV × AH)} {K : PySem.W.Frag} {mg : Str → Option Value} {σ : St} {H : Hp} {Q : VK} (h : LF K mg (RA K mg) (xCall t k) σ H Q) :
    LF K mg (RAs K mg) t σ H fun vs H1 => rc K mg k vs H1 Q := by
  obtain ⟨m, z, a, h, x, h', hr, rs, e, q⟩ := h
  unfold xCall at e
  split at e
  · rename_i xs h1 e1
    exact ⟨m, z, a, h, xs, h1, hr, rs, e1, fun vs H1 m1 f1 hr1 ra1 => ⟨m1, z, h1, xs, x, h', hr1, ra1, e, fun v' H' m' f3 hr3 ra3 => q v' H' m' (f1.trans f3) hr3 ra3⟩⟩
  · cases e
theorem de_callB {x : Str} {p : Pos} {id : String} {k : List AV → AH → Option (AV × AH)} (hc : CallR X (.builtin id) (rc X.K X.mg k)) (hg : Gl X x) (hm : X.mg x = none) (hv : bootBuiltins x = some (.builtin id)) (ha : DA X (e :: es) t) (hn : x ≠ "__name__" := by decide)
    (hdb : (x == ("__debug__" : Str)) = false := by decide) (he : starEach (e :: es) X.env = (false, eval e X.env) :: starEach es X.env := by rfl) (hpl : (backTo pos (starEach es X.env)).any (·.1) = false := by rfl) : DE X (.Call (.Name x p) (e :: es) [] pos) (xCall t k) :=
  fun pins s σ H Q I h => pe_callB hc hg hm hv ha hn hdb he hpl pins s σ H Q I (lf_call h)
/-- one argument, looked at -/
def c1 (g : PyData → Option PyData) : List AV → AH → Option (AV × AH) := fun xs h => match xs with
  | [x] => (match view h x with
    | some a => (match g a with | some d => some (.d d, h) | none => none)
    | none => none)
  | _ => none
def c2 (g : PyData → PyData → Option PyData) : List AV → AH → Option (AV × AH) := fun xs h => match xs with
  | [x, y] => op2 g x y h
  | _ => none
theorem c1_of {fv : Value} {g : PyData → Option PyData}
    (hh : ∀ (pins : List (Addr × Obj)) (s : Shared) (σ : St) (H : Hp) (x : V) (v : Value) (Q : VK) (m z : List Addr) (h : AH) (ax : AV) (a d : PyData), Inv X pins σ H s → RelV x v →
      HR X.K X.mg m z H h → RA X.K X.mg m z H x ax → view h ax = some a → g a = some d →
      (∀ v' H', Same H H' → DP X.K (hid m z H') v' d → Q v' H') → wpAny (model X.prog X.w) X.A (call fv [v]) (EP X pins σ Q) X.xe s) : CallR X fv (rc X.K X.mg (c1 g)) := by
  intro pins s σ H vs us Q I r hq
  obtain ⟨m, z, h, xs, w, h', hr, ra, e, q⟩ := hq
  unfold c1 at e
  split at e
  · rename_i x
    split at e
    · rename_i a ha
      split at e
      · rename_i d hd
        cases e
        cases ra with
        | cons r1 r2 =>
          cases r2
          obtain ⟨u, rfl, ru⟩ := vals1 r
          exact hh pins s σ H _ u Q m z _ x a d I ru hr r1 ha hd fun v' H' sm dd => q v' H' m (.of sm) (hr.grow sm) dd
      · cases e
    · cases e
  · cases e
theorem c2_of {fv : Value} {g : PyData → PyData → Option PyData}
    (hh : ∀ (pins : List (Addr × Obj)) (s : Shared) (σ : St) (H : Hp) (x y : V) (v u : Value) (Q : VK) (m z : List Addr) (h : AH) (ax ay : AV) (a b d : PyData), Inv X pins σ H s → RelV x v → RelV y u →
      HR X.K X.mg m z H h → RA X.K X.mg m z H x ax → RA X.K X.mg m z H y ay → view h ax = some a → view h ay = some b → g a b = some d →
      (∀ v' H', Same H H' → DP X.K (hid m z H') v' d → Q v' H') → wpAny (model X.prog X.w) X.A (call fv [v, u]) (EP X pins σ Q) X.xe s) : CallR X fv (rc X.K X.mg (c2 g)) := by
  intro pins s σ H vs us Q I r hq
  obtain ⟨m, z, h, xs, w, h', hr, ra, e, q⟩ := hq
  unfold c2 at e
  split at e
  · rename_i x y
    obtain ⟨a, b, d, h1, h2, h3, rfl, rfl⟩ := op2_inv e
    cases ra with
    | cons r1 r2 =>
      cases r2 with
      | cons r3 r4 =>
        cases r4
        obtain ⟨u, w', rfl, ru, rw'⟩ := vals2 r
        exact hh pins s σ H _ _ u w' Q m z _ x y a b d I ru rw' hr r1 r3 h1 h2 h3 fun v' H' sm dd => q v' H' m (.of sm) (hr.grow sm) dd
  · cases e
def lenD : PyData → Option PyData
  | .list xs => some (.int xs.length)
  | .tuple xs => some (.int xs.length)
  | .str s => if s.length ≤ sizeLine then some (.int s.length) else none
  | _ => none
theorem b_len : CallR X (.builtin "len") (rc X.K X.mg (c1 lenD)) := c1_of fun pins s σ H x v Q m z h ax a d I rx hr ra h1 h2 q => by
  unfold lenD at h2
  split at h2
  · cases h2
    obtain ⟨p, vs, rfl, t1, d1⟩ := view_list hr ra h1
    exact call_len pins s σ H _ _ Q I (.cons rx .nil) ⟨_, _, rfl, .inl ⟨vs, t1, rfl⟩, by rw [d1.length]; exact q _ H (Same.refl _) (.int _)⟩
  · cases h2
    obtain ⟨p, vs, rfl, t1, d1⟩ := view_tuple ra h1
    exact call_len pins s σ H _ _ Q I (.cons rx .nil) ⟨_, _, rfl, .inr ⟨vs, t1, rfl⟩, by rw [d1.length]; exact q _ H (Same.refl _) (.int _)⟩
  · split at h2
    · rename_i hl
      cases h2
      cases view_str ra h1
      exact call_len pins s σ H _ _ Q I (.cons rx .nil) ⟨_, _, rfl, ⟨hl, rfl⟩, q _ H (Same.refl _) (.int _)⟩
    · cases h2
  · cases h2
def absD : PyData → Option PyData
  | .int i => some (.int (i.natAbs))
  | _ => none
theorem b_abs : CallR X (.builtin "abs") (rc X.K X.mg (c1 absD)) := c1_of fun pins s σ H x v Q m z h ax a d I rx hr ra h1 h2 q => by
  unfold absD at h2
  split at h2
  · rename_i i
    cases h2
    cases view_int ra h1
    have e : (if i < 0 then -i else i) = (i.natAbs : Int) := by split <;> omega
    exact call_abs pins s σ H _ _ Q I (.cons rx .nil) ⟨_, rfl, by rw [e]; exact q _ H (Same.refl _) (.int _)⟩
  · cases h2
def maxD : PyData → PyData → Option PyData
  | .int i, .int j => some (.int (if j > i then j else i))
  | _, _ => none
def minD : PyData → PyData → Option PyData
  | .int i, .int j => some (.int (if j < i then j else i))
  | _, _ => none
theorem b_max2 (hc : X.calm = true) : CallR X (.builtin "max") (rc X.K X.mg (c2 maxD)) := c2_of fun pins s σ H x y v u Q m z h ax ay a b d I rx ry hr ra rb h1 h2 h3 q => by
  unfold maxD at h3
  split at h3
  · cases h3
    cases view_int ra h1; cases view_int rb h2
    exact call_max2 hc pins s σ H _ _ Q I (.cons rx (.cons ry .nil)) ⟨_, _, rfl, q _ H (Same.refl _) (.int _)⟩
  · cases h3
theorem b_min2 (hc : X.calm = true) : CallR X (.builtin "min") (rc X.K X.mg (c2 minD)) := c2_of fun pins s σ H x y v u Q m z h ax ay a b d I rx ry hr ra rb h1 h2 h3 q => by
  unfold minD at h3
  split at h3
  · cases h3
    cases view_int ra h1; cases view_int rb h2
    exact call_min2 hc pins s σ H _ _ Q I (.cons rx (.cons ry .nil)) ⟨_, _, rfl, q _ H (Same.refl _) (.int _)⟩
  · cases h3
def divmodD : PyData → PyData → Option PyData
  | .int i, .int j => if 0 < j ∧ Big j then some (.tuple [.int (i / j), .int (i % j)]) else none
  | _, _ => none
theorem b_divmod : CallR X (.builtin "divmod") (rc X.K X.mg (c2 divmodD)) := c2_of fun pins s σ H x y v u Q m z h ax ay a b d I rx ry hr ra rb h1 h2 h3 q => by
  unfold divmodD at h3
  split at h3
  · split at h3
    · rename_i hc
      cases h3
      cases view_int ra h1; cases view_int rb h2
      exact call_divmodB pins s σ H _ _ Q I (.cons rx (.cons ry .nil)) ⟨_, _, rfl, hc, fun p hp => q _ _ (same_new hp _) (new_tup hr hp (.cons (.int _) (.cons (.int _) .nil)))⟩
    · cases h3
  · cases h3
def intD : PyData → Option PyData
  | .int i => some (.int i)
  | .bool b => some (.int (if b then 1 else 0))
  | _ => none
def listD : PyData → Option PyData
  | .list xs => some (.list xs)
  | .tuple xs => some (.list xs)
  | _ => none
def tupleD : PyData → Option PyData
  | .list xs => some (.tuple xs)
  | .tuple xs => some (.tuple xs)
  | _ => none
/-! ### repr -/
def fineB (d : PyData) : Bool := d.showable && decide (d.depth ≤ 60) && d.leavesShort 1000 && decide (d.weight ≤ 10000)
def cleanB : PyData → Bool
  | .dict [] => true
  | d => !d.hasDict
theorem clean_of {d : PyData} (h : cleanB d = true) : cleanD d := by
  unfold cleanB at h
  split at h
  · exact .inr rfl
  · exact .inl (by simpa using h)
def reprD (d : PyData) : Option PyData := if fineB d = true ∧ cleanB d = true then some (.str d.shown) else none
theorem b_repr {k : Nat} (hroom : Room k X.A) : CallR X (.builtin "repr") (rc X.K X.mg (c1 reprD)) := c1_of fun pins s σ H x v Q m z h ax a d I rx hr ra h1 h2 q => by
  unfold reprD at h2
  split at h2
  · rename_i hc
    cases h2
    have hf : Fine 60 10000 a := Fine.lit hc.1
    have hcl := clean_of hc.2
    have hz := hf.shown (by decide)
    have hd := view_dp hr ra h1
    have q' := q (.str a.shown) H (Same.refl _) (.str _)
    cases a with
    | none => cases hd; cases rx; exact PySem.P.repr_of_none ⟨.str _, H, I.tok _, ⟨_, rfl⟩, q'⟩
    | bool b => cases hd; cases rx; exact PySem.P.repr_of_bool ⟨.str _, H, I.tok _, ⟨_, rfl⟩, q'⟩
    | int i => cases hd; obtain ⟨t, rfl⟩ := rx; exact PySem.P.repr_of_int (of_decide_eq_true hf.sh) ⟨.str _, H, I.tok _, ⟨_, rfl⟩, q'⟩
    | str y => cases hd; obtain ⟨t, rfl⟩ := rx; exact PySem.P.repr_of_str ⟨.str _, H, I.tok _, ⟨_, rfl⟩, q'⟩ hz
    | list ds =>
      obtain ⟨as, hR, hm⟩ := DP.reads I _ x v hd hcl rx
      cases hd
      cases rx
      exact repr_of_reads' hR hf.sh hm hroom.gd (by have := hroom.un; have := hf.dp; omega) (fun _ _ e => e) (fun h' u tk hk => ⟨.str _, H, I.kept hk, ⟨_, rfl⟩, q'⟩) hz
    | tuple ds =>
      obtain ⟨as, hR, hm⟩ := DP.reads I _ x v hd hcl rx
      cases hd
      cases rx
      exact repr_of_reads' hR hf.sh hm hroom.gd (by have := hroom.un; have := hf.dp; omega) (fun _ _ e => e) (fun h' u tk hk => ⟨.str _, H, I.kept hk, ⟨_, rfl⟩, q'⟩) hz
    | dict ds =>
      obtain ⟨as, hR, hm⟩ := DP.reads I _ x v hd hcl rx
      cases hd <;> cases rx <;>
      exact repr_of_reads' hR hf.sh hm hroom.gd (by have := hroom.un; have := hf.dp; omega) (fun _ _ e => e) (fun h' u tk hk => ⟨.str _, H, I.kept hk, ⟨_, rfl⟩, q'⟩) hz
  · cases h2
end
end L2.Dm
set_option Elab.async false
set_option linter.all false
set_option maxRecDepth 100000
namespace L2.Dm
open PySem PySem.Spec PyProof.Rows
/-! ### whole numbers, truths in a row -/
def intsOf : List PyData → Option (List Int)
  | [] => some []
  | .int i :: r => (match intsOf r with | some ns => some (i :: ns) | none => none)
  | _ => none
def boolsOf : List PyData → Option (List Bool)
  | [] => some []
  | .bool i :: r => (match boolsOf r with | some ns => some (i :: ns) | none => none)
  | _ => none
@[simp] theorem intsOf_map : ∀ ns : List Int, intsOf (ns.map PyData.int) = some ns
  | [] => rfl
  | i :: r => by simp [intsOf, intsOf_map r]
@[simp] theorem boolsOf_map : ∀ ns : List Bool, boolsOf (ns.map PyData.bool) = some ns
  | [] => rfl
  | i :: r => by simp [boolsOf, boolsOf_map r]
theorem boolsOf_inv : ∀ {ds : List PyData} {ns : List Bool}, boolsOf ds = some ns → ds = ns.map PyData.bool
  | [], _, e => by cases e; rfl
  | .bool i :: r, ns, e => by
    simp only [boolsOf] at e
    split at e
    · rename_i ms h; cases e; rw [boolsOf_inv h]; rfl
    · cases e
  | .none :: _, _, e => by cases e
  | .int _ :: _, _, e => by cases e
  | .str _ :: _, _, e => by cases e
  | .list _ :: _, _, e => by cases e
  | .tuple _ :: _, _, e => by cases e
  | .dict _ :: _, _, e => by cases e
theorem DPs.of_ints {K : PySem.W.Frag} {H : Hp} : ∀ (ns : List Int), DPs K H (ns.map V.int) (ns.map PyData.int)
  | [] => .nil
  | i :: r => .cons (.int i) (DPs.of_ints r)
section
variable {X : Cx}
def sumD : PyData → Option PyData
  | .list xs => (match intsOf xs with | some ns => some (.int ns.sum) | none => none)
  | .tuple xs => (match intsOf xs with | some ns => some (.int ns.sum) | none => none)
  | _ => none
def allB : PyData → Option PyData
  | .list xs => (match boolsOf xs with | some ns => some (.bool (ns.all id)) | none => none)
  | _ => none
def anyB : PyData → Option PyData
  | .list xs => (match boolsOf xs with | some ns => some (.bool (ns.any id)) | none => none)
  | _ => none
def maxL : PyData → Option PyData
  | .list xs => (match intsOf xs with | some ns => (match ns.max? with | some m => some (.int m) | none => none) | none => none)
  | _ => none
def minL : PyData → Option PyData
  | .list xs => (match intsOf xs with | some ns => (match ns.min? with | some m => some (.int m) | none => none) | none => none)
  | _ => none
/-! ### isinstance -/
def tyD : PyData → String
  | .none => "NoneType" | .bool _ => "bool" | .int _ => "int" | .str _ => "str" | .list _ => "list" | .tuple _ => "tuple" | .dict _ => "dict"
theorem tyD_mem (d : PyData) : tyD d ∈ ["NoneType", "bool", "int", "str", "list", "tuple", "dict"] := by cases d <;> simp [tyD]
def isinA : List AV → AH → Option (AV × AH) := fun xs h => match xs with
  | [x, .ty n] => (match view h x with
    | some d => (match isinK (tyD d) n with | some b => some (.d (.bool b), h) | none => none)
    | none => none)
  | _ => none
theorem b_isin : CallR X (.builtin "isinstance") (rc X.K X.mg isinA) := by
  intro pins s σ H vs us Q I r hq
  obtain ⟨m, z, h, xs, w, h', hr, ra, e, q⟩ := hq
  unfold isinA at e
  split at e
  · rename_i x n
    split at e
    · rename_i d hd
      split at e
      · rename_i b hb
        cases e
        cases ra with
        | cons r1 r2 =>
          cases r2 with
          | cons r3 r4 =>
            cases r4
            obtain ⟨u, w', rfl, ru, rw'⟩ := vals2 r
            cases r3
            obtain rfl : w' = Value.type n := rw'
            have hk : PySem.W.kitOne X.K (.type (tyD d)) (.type n) = some b := by
              unfold isinK at hb
              split at hb
              · rename_i hn
                cases hb
                exact kit_tys (tyD_mem d) hn
              · cases hb
            have dp := view_dp hr r1 hd
            have q' := q (.bl b) H m (.refl _ _) hr (.bl _)
            cases dp with
            | non => cases ru; exact PySem.W.kia_one PySem.W.kitx_none I.kIn True.intro hk (fun z => nomatch z) fun tk => ⟨.bl b, H, I.tok _, rfl, q'⟩
            | bl y => cases ru; exact PySem.W.kia_one PySem.W.kitx_bool I.kIn True.intro hk (fun z => nomatch z) fun tk => ⟨.bl b, H, I.tok _, rfl, q'⟩
            | int y => obtain ⟨t, rfl⟩ := ru; exact PySem.W.kia_one PySem.W.kitx_int I.kIn True.intro hk (fun z => nomatch z) fun tk => ⟨.bl b, H, I.tok _, rfl, q'⟩
            | str y => obtain ⟨t, rfl⟩ := ru; exact PySem.W.kia_one PySem.W.kitx_str I.kIn True.intro hk (fun z => nomatch z) fun tk => ⟨.bl b, H, I.tok _, rfl, q'⟩
            | lst h1 h2 =>
              cases ru
              obtain ⟨its, rv, ⟨o, n, e1, e2, _⟩, _⟩ := I.list h1
              exact PySem.W.kia_one PySem.W.kitx_list I.kIn ⟨o, e1, e2⟩ hk (fun z => nomatch z) fun tk => ⟨.bl b, H, I.tok _, rfl, q'⟩
            | tup h1 h2 =>
              cases ru
              obtain ⟨its, rv, ⟨o, e1, e2, _⟩, _⟩ := I.tuple (SqT.of h1)
              exact PySem.W.kia_one PySem.W.kitx_tuple I.kIn ⟨o, e1, e2⟩ hk (fun z => nomatch z) fun tk => ⟨.bl b, H, I.tok _, rfl, q'⟩
            | dk0 h1 =>
              exact isinst_ok I ru (.dK h1) hk fun tk => ⟨.bl b, H, I.tok _, rfl, q'⟩
            | dk1 h1 =>
              exact isinst_ok I ru (.dK h1) hk fun tk => ⟨.bl b, H, I.tok _, rfl, q'⟩
      · cases e
    · cases e
  · cases e
/-! ### xs[i] -/
def valA (kvs : List (Key × AV)) (k : Key) : Option AV := (kvs.find? fun kv => decide (kv.1 = k)).map (·.2)
def keyD : PyData → Option Key
  | .int i => some (.inl i)
  | .str s => some (.inr s)
  | _ => none
def ixA : AV → AV → AH → Option (AV × AH) := fun x y h => match view h y with
  | some k => (match x with
    | .d (.tuple xs) => (match k with | .int i => (match atI xs i with | some w => some (.d w, h) | none => none) | _ => none)
    | .d (.list xs) => (match k with | .int i => (match atI xs i with | some w => some (.d w, h) | none => none) | _ => none)
    | .d (.str s) => (match k with | .int i => if s.length ≤ sizeLine then (match atI s.cps.toList i with | some c => some (.d (.str ⟨#[c]⟩), h) | none => none) else none | _ => none)
    | .ref r => (match h[r]? with
      | some (.lst xs) => (match k with | .int i => (match atI xs i with | some w => some (w, h) | none => none) | _ => none)
      | some (.dk kvs) => (match keyD k with | some kk => (match valA kvs kk with | some w => some (w, h) | none => none) | none => none)
      | _ => none)
    | _ => none)
  | none => none
theorem atI_dp {K : PySem.W.Frag} {H : Hp} {ds : List PyData} {vs : List V} {i : Int} {d : PyData} (h : DPs K H vs ds) (e : atI ds i = some d) : ∃ v, atI vs i = some v ∧ DP K H v d := by
  unfold atI at e ⊢
  rw [← h.length] at e
  cases q : ixN vs.length i with
  | none => rw [q] at e; cases e
  | some j => rw [q] at e; exact h.get e
theorem RAs.get {K : PySem.W.Frag} {mg : Str → Option Value} {m z : List Addr} {H : Hp} : ∀ {xs : List AV} {vs : List V} {i : Nat} {x : AV}, RAs K mg m z H vs xs → xs[i]? = some x → ∃ v, vs[i]? = some v ∧ RA K mg m z H v x
  | [], _, _, _, _, e => by simp at e
  | _ :: _, _, 0, d, .cons a b, e => by simp at e; subst e; exact ⟨_, rfl, a⟩
  | _ :: _, _, i + 1, d, .cons a b, e => by
    obtain ⟨v, h1, h2⟩ := RAs.get (i := i) b (by simpa using e)
    exact ⟨v, by simpa using h1, h2⟩
theorem atI_ra {K : PySem.W.Frag} {mg : Str → Option Value} {m z : List Addr} {H : Hp} {xs : List AV} {vs : List V} {i : Int} {d : AV} (h : RAs K mg m z H vs xs) (e : atI xs i = some d) : ∃ v, atI vs i = some v ∧ RA K mg m z H v d := by
  unfold atI at e ⊢
  rw [← RAs.length h] at e
  cases q : ixN vs.length i with
  | none => rw [q] at e; cases e
  | some j => rw [q] at e; exact RAs.get h e
theorem valA_ra {K : PySem.W.Frag} {mg : Str → Option Value} {m z : List Addr} {H : Hp} {k : Key} : ∀ {kvs : List (Key × AV)} {ws : List (Key × V)}, Paired (fun (p : Key × V) (q : Key × AV) => p.1 = q.1 ∧ RA K mg m z H p.2 q.2) ws kvs →
    (∀ w, valA kvs k = some w → ∃ v, valV ws k = some v ∧ RA K mg m z H v w) ∧ (valA kvs k = none → valV ws k = none)
  | _, _, .nil => ⟨fun w e => (by simp [valA] at e), fun _ => rfl⟩
  | (k', x) :: kvs, (k2, v) :: ws, .cons a b => by
    obtain ⟨e, r⟩ := a
    simp only at e r
    subst e
    obtain ⟨i1, i2⟩ := valA_ra (k := k) b
    by_cases hk : k2 = k
    · subst hk
      refine ⟨fun w e => ?_, fun e => ?_⟩
      · simp [valA] at e
        subst e
        exact ⟨v, by simp [valV], r⟩
      · simp [valA] at e
    · have e1 : valA ((k2, x) :: kvs) k = valA kvs k := by simp [valA, List.find?_cons, hk]
      have e2 : valV ((k2, v) :: ws) k = valV ws k := by simp [valV, List.find?_cons, hk]
      rw [e1, e2]
      exact ⟨i1, i2⟩
theorem keyD_v {K : PySem.W.Frag} {mg : Str → Option Value} {m z : List Addr} {H : Hp} {h : AH} {v : V} {x : AV} {d : PyData} {k : Key} (r : RA K mg m z H v x) (e : view h x = some d) (ek : keyD d = some k) : v = kV k := by
  cases d with
  | int i => cases ek; exact view_int r e
  | str i => cases ek; exact view_str r e
  | _ => cases ek
theorem i_ix (hu : X.A.units + 1 < cLine) : IxR X (r2 X.K X.mg ixA) := by
  intro value slice pins s σ H x y v u Q I rx ry hq hs
  obtain ⟨m, z, h, ax, ay, w, h', hr, ra, rb, e, q⟩ := hq
  unfold ixA at e
  split at e
  · rename_i k hk
    split at e
    · split at e
      · split at e
        · rename_i xs i w' hw
          cases e
          obtain ⟨p, vs, rfl, t1, d1⟩ := view_tuple (h := h) ra rfl
          cases view_int rb hk
          obtain ⟨v', h1, h2⟩ := atI_dp d1 hw
          exact ix_tup value slice pins s σ H _ _ v u Q I rx ry ⟨p, vs, _, v', rfl, rfl, t1, h1, q _ H m (.refl _ _) hr h2⟩ hs
        · cases e
      · cases e
    · split at e
      · split at e
        · rename_i xs i w' hw
          cases e
          obtain ⟨p, vs, rfl, t1, d1⟩ := view_list (h := h) hr ra rfl
          cases view_int rb hk
          obtain ⟨v', h1, h2⟩ := atI_dp d1 hw
          exact ix_list value slice pins s σ H _ _ v u Q I rx ry ⟨p, vs, _, v', rfl, rfl, t1, h1, q _ H m (.refl _ _) hr h2⟩ hs
        · cases e
      · cases e
    · split at e
      · split at e
        · rename_i hl
          split at e
          · rename_i c hc
            cases e
            cases view_str (h := h) ra rfl
            cases view_int rb hk
            exact ix_str value slice pins s σ H _ _ v u Q I rx ry ⟨_, _, c, rfl, rfl, hl, hc, q _ H m (.refl _ _) hr (.str _)⟩ hs
          · cases e
        · cases e
      · cases e
    · rename_i r
      obtain ⟨a, ha, rfl⟩ := ra
      split at e
      · rename_i xs hx
        split at e
        · split at e
          · rename_i i w' hw
            cases e
            cases view_int rb hk
            obtain ⟨vs, e1, e2⟩ := hr.at_ r a _ ha hx
            obtain ⟨v', h1, h2⟩ := atI_ra e2 hw
            exact ix_list value slice pins s σ H _ _ v u Q I rx ry ⟨a, vs, _, v', rfl, rfl, SqL.of e1, h1, q _ H m (.refl _ _) hr h2⟩ hs
          · cases e
        · cases e
      · rename_i kvs hx
        split at e
        · rename_i kk hkk
          split at e
          · rename_i w' hw
            cases e
            cases keyD_v rb hk hkk
            obtain ⟨ws, e1, e2⟩ := hr.at_ r a _ ha hx
            obtain ⟨v', h1, h2⟩ := (valA_ra e2).1 _ hw
            exact ix_dH hu value slice pins s σ H _ _ v u Q I rx ry ⟨a, ws, kk, v', rfl, rfl, e1, h1, q _ H m (.refl _ _) hr h2⟩ hs
          · cases e
        · cases e
      · cases e
    · cases e
  · cases e
theorem de_ix {a b : Expr} {pos : Pos} {f g : XE} (hu : X.A.units + 1 < cLine) (ha : DE X a f) (hb : DE X b g) (hs : PlainIx b) : DE X (.Subscript a b pos) (x2 f g ixA) :=
  fun pins s σ H Q I h => pe_ix (i_ix hu) ha hb hs pins s σ H Q I (lf_x2 h)
/-! ### slices -/
abbrev XO := AE → AH → Option (Option Int × AH)
def xO0 : XO := fun _ h => some (none, h)
def xO1 (f : XE) : XO := fun a h => match f a h with
  | some (.d (.int i), h1) => some (some i, h1)
  | _ => none
def cutD (xs : List PyData) (lo hi : Option Int) : List PyData := (xs.drop (HT.sIx xs.length 0 lo)).take (HT.sIx xs.length xs.length hi - HT.sIx xs.length 0 lo)
def slD (d : PyData) (lo hi : Option Int) : Option PyData := match d with
  | .list xs => some (.list (cutD xs lo hi))
  | .tuple xs => some (.tuple (cutD xs lo hi))
  | _ => none
def xSl (f : XE) (l u : XO) : XE := fun a h => match f a h with
  | some (x, h1) => (match l a h1 with
    | some (lo, h2) => (match u a h2 with
      | some (hi, h3) => (match view h3 x with
        | some d => (match slD d lo hi with | some w => some (.d w, h3) | none => none)
        | none => none)
      | none => none)
    | none => none)
  | none => none
end
end L2.Dm
set_option Elab.async false
set_option linter.all false
set_option maxRecDepth 100000
namespace HT
open PySem PySem.Spec PyProof.Rows L2
section
variable {prog : Program} {w : World} {A : Around} {E : Value → Shared → Prop} {s : Shared}
end
end HT

namespace L2.Dm
open PySem PySem.Spec PyProof.Rows
section
variable {X : Cx}
end
end L2.Dm
set_option Elab.async false
set_option linter.all false
set_option maxRecDepth 100000
namespace L2.Dm
open PySem PySem.Spec PyProof.Rows
/-! ### statements -/
inductive Fl where
  | nx | bk | ct | rt (x : AV)
abbrev XS := AE → AH → Option (Fl × AE × AH)
def fin (K : PySem.W.Frag) (mg : Str → Option Value) (m z : List Addr) (D : Ends) (σ : St) (H : Hp) : Fl → Prop
  | .nx => D.nx σ H
  | .bk => D.bk σ H
  | .ct => D.ct σ H
  | .rt x => ∀ v, RA K mg m z H v x → D.rt v H
def LS (K : PySem.W.Frag) (mg : Str → Option Value) (f : XS) : TS := fun D σ H => ∃ m z a h fl a' h', HR K mg m z H h ∧ RS K mg m z H σ a ∧ f a h = some (fl, a', h') ∧
  ∀ σ' H' m', Aft m H m' H' → HR K mg m' z H' h' → RS K mg m' z H' σ' a' → fin K mg m' z D σ' H' fl
def DS (X : Cx) (st : Stmt) (f : XS) : Prop := PS X st (LS X.K X.mg f)
def DSs (X : Cx) (st : List Stmt) (f : XS) : Prop := PSs X st (LS X.K X.mg f)
theorem RS.set {K : PySem.W.Frag} {mg : Str → Option Value} {m z : List Addr} {H : Hp} {σ : St} {a : AE} (r : RS K mg m z H σ a) (i : Nat) {v : V} {x : AV} (q : RA K mg m z H v x) : RS K mg m z H (σ.set i (some v)) (a.set i (some x)) := by
  refine ⟨by rw [List.length_set, List.length_set]; exact r.1, fun j y e => ?_⟩
  rw [List.getElem?_set] at e
  split at e
  · rename_i hij
    subst hij
    split at e
    · rename_i hl
      cases e
      exact ⟨v, by rw [List.getElem?_set_self (by rw [← r.1]; exact hl)], q⟩
    · cases e
  · rename_i hij
    obtain ⟨u, h1, h2⟩ := r.2 j y e
    exact ⟨u, by rw [List.getElem?_set_ne hij]; exact h1, h2⟩
section
variable {X : Cx} {st : Stmt} {rest : List Stmt} {f g : XS} {k : XE} {e : Expr} {pos : Pos}
def sSeq (f g : XS) : XS := fun a h => match f a h with
  | some (.nx, a1, h1) => g a1 h1
  | some r => some r
  | none => none
def sNil : XS := fun a h => some (.nx, a, h)
theorem lf_seq {K : PySem.W.Frag} {mg : Str → Option Value} {D : Ends} {σ : St} {H : Hp} (h : LS K mg (sSeq f g) D σ H) : tSeq (LS K mg f) (LS K mg g) D σ H := by
  obtain ⟨m, z, a, h, fl, a', h', hr, rs, e, q⟩ := h
  unfold sSeq at e
  split at e
  · rename_i a1 h1 e1
    exact ⟨m, z, a, h, .nx, a1, h1, hr, rs, e1, fun σ1 H1 m1 f1 hr1 rs1 => ⟨m1, z, a1, h1, fl, a', h', hr1, rs1, e, fun σ2 H2 m2 f2 hr2 rs2 => q σ2 H2 m2 (f1.trans f2) hr2 rs2⟩⟩
  · rename_i r hn e1
    cases e
    refine ⟨m, z, a, h, fl, a', h', hr, rs, e1, fun σ1 H1 m1 f1 hr1 rs1 => ?_⟩
    have := q σ1 H1 m1 f1 hr1 rs1
    cases fl with
    | nx => exact (hn a' h' rfl).elim
    | bk => exact this
    | ct => exact this
    | rt x => exact this
  · cases e
theorem dss_nil : DSs X [] sNil := by
  intro pins s σ H D I h
  obtain ⟨m, z, a, h, fl, a', h', hr, rs, e, q⟩ := h
  cases e
  exact pss_nil pins s σ H D I (q σ H m (.refl _ _) hr rs)
theorem dss_cons (h1 : DS X st f) (h2 : DSs X rest g) : DSs X (st :: rest) (sSeq f g) := fun pins s σ H D I h => pss_cons h1 h2 pins s σ H D I (lf_seq h)
theorem dss_one (h1 : DS X st f) : DSs X [st] f := fun pins s σ H D I h => pss_one h1 pins s σ H D I h
def sPass : XS := fun a h => some (.nx, a, h)
def sBreak : XS := fun a h => some (.bk, a, h)
def sCont : XS := fun a h => some (.ct, a, h)
def sNever : XS := fun _ _ => none
theorem ds_never : DS X st sNever := by
  intro pins s σ H D I h
  obtain ⟨m, z, a, h, fl, a', h', hr, rs, e, q⟩ := h
  cases e
def sRet (k : XE) : XS := fun a h => match k a h with
  | some (x, h1) => some (.rt x, a, h1)
  | none => none
theorem ds_ret (he : DE X e k) : DS X (.Return (some e) pos) (sRet k) := by
  intro pins s σ H D I h
  refine ps_ret he pins s σ H D I ?_
  obtain ⟨m, z, a, h, fl, a', h', hr, rs, e, q⟩ := h
  unfold sRet at e
  split at e
  · rename_i x h1 e1
    cases e
    exact ⟨m, z, a, h, x, _, hr, rs, e1, fun v H1 m1 f1 hr1 ra1 => q σ H1 m1 f1 hr1 (rs.mono f1) v ra1⟩
  · cases e
def sRetN : XS := fun a h => some (.rt (.d .none), a, h)
def sExpr (k : XE) : XS := fun a h => match k a h with
  | some (_, h1) => some (.nx, a, h1)
  | none => none
theorem ds_expr (he : DE X e k) (hs : swapsWith e none pos.line X.env = pure false := by rfl) : DS X (.Expr e pos) (sExpr k) := by
  intro pins s σ H D I h
  refine ps_expr he hs pins s σ H D I ?_
  obtain ⟨m, z, a, h, fl, a', h', hr, rs, e, q⟩ := h
  unfold sExpr at e
  split at e
  · rename_i x h1 e1
    cases e
    exact ⟨m, z, _, h, x, _, hr, rs, e1, fun v H1 m1 f1 hr1 ra1 => q σ H1 m1 f1 hr1 (rs.mono f1)⟩
  · cases e
def sIf (t : XT) (f g : XS) : XS := fun a h => match t a h with
  | some (true, h1) => f a h1
  | some (false, h1) => g a h1
  | none => none
theorem ds_if {c : Expr} {a b : List Stmt} {t : XT} (hc : DT X c t) (ha : DSs X a f) (hb : DSs X b g) : DS X (.If c a b pos) (sIf t f g) := by
  intro pins s σ H D I h
  refine ps_if hc ha hb pins s σ H D I ?_
  obtain ⟨m, z, a, h, fl, a', h', hr, rs, e, q⟩ := h
  unfold sIf at e
  split at e
  · rename_i h1 e1
    refine ⟨m, z, a, h, true, h1, hr, rs, e1, fun v H1 m1 f1 hr1 ra1 => ?_⟩
    subst ra1
    rw [if_pos rfl]
    exact ⟨m1, z, a, h1, fl, a', h', hr1, rs.mono f1, e, fun σ2 H2 m2 f2 hr2 rs2 => q σ2 H2 m2 (f1.trans f2) hr2 rs2⟩
  · rename_i h1 e1
    refine ⟨m, z, a, h, false, h1, hr, rs, e1, fun v H1 m1 f1 hr1 ra1 => ?_⟩
    subst ra1
    rw [if_neg Bool.false_ne_true]
    exact ⟨m1, z, a, h1, fl, a', h', hr1, rs.mono f1, e, fun σ2 H2 m2 f2 hr2 rs2 => q σ2 H2 m2 (f1.trans f2) hr2 rs2⟩
  · cases e
/-! ### targets -/
abbrev XG := AV → AE → AH → Option (AE × AH)
abbrev XGs := List AV → AE → AH → Option (AE × AH)
def LG (K : PySem.W.Frag) (mg : Str → Option Value) (g : XG) : TG := fun v σ H Q => ∃ m z a h x a' h', HR K mg m z H h ∧ RS K mg m z H σ a ∧ RA K mg m z H v x ∧ g x a h = some (a', h') ∧
  ∀ σ' H' m', Aft m H m' H' → HR K mg m' z H' h' → RS K mg m' z H' σ' a' → Q σ' H'
def LGs (K : PySem.W.Frag) (mg : Str → Option Value) (g : XGs) : TGs := fun vs σ H Q => ∃ m z a h xs a' h', HR K mg m z H h ∧ RS K mg m z H σ a ∧ RAs K mg m z H vs xs ∧ g xs a h = some (a', h') ∧
  ∀ σ' H' m', Aft m H m' H' → HR K mg m' z H' h' → RS K mg m' z H' σ' a' → Q σ' H'
def DG (X : Cx) (tg : Expr) (g : XG) : Prop := PG X tg (LG X.K X.mg g)
def DGs (X : Cx) (ts : List Expr) (g : XGs) : Prop := PGs X ts (LGs X.K X.mg g)
def gN (i : Nat) : XG := fun x a h => some (a.set i (some x), h)
theorem dg_name {i : Nat} {x : Str} (hN : X.N.Nodup) (hi : X.N[i]? = some x) (hx : Loc X.env.scope x) (hf : X.fn x = true ∨ X.env.scope.names.lookup x = some .local := by first | exact .inl rfl | exact .inr rfl | assumption) : DG X (.Name x pos) (gN i) := by
  intro pins s σ H v u Q I r h
  obtain ⟨m, z, a, h, x, a', h', hr, rs, ra, e, q⟩ := h
  cases e
  exact pg_name hN hi hx hf pins s σ H v u Q I r (q _ H m (.refl _ _) hr (rs.set i ra))
def gsNil : XGs := fun xs a h => match xs with | [] => some (a, h) | _ => none
def gsCons (g : XG) (r : XGs) : XGs := fun xs a h => match xs with
  | x :: ys => (match g x a h with | some (a1, h1) => r ys a1 h1 | none => none)
  | [] => none
theorem dgs_nil : DGs X [] gsNil := by
  intro pins s σ H v u Q I r h
  obtain ⟨m, z, a, h, xs, a', h', hr, rs, ra, e, q⟩ := h
  cases ra with
  | nil =>
    cases e
    exact pgs_nil pins s σ H _ u Q I r ⟨rfl, q _ H m (.refl _ _) hr rs⟩
  | cons _ _ => cases e
theorem dgs_cons {tg : Expr} {tgs : List Expr} {g : XG} {r : XGs} (h1 : DG X tg g) (h2 : DGs X tgs r)
    (hst : (assignEach (tg :: tgs) X.env).map (·.2) = assign tg X.env :: (assignEach tgs X.env).map (·.2) := by rfl) : DGs X (tg :: tgs) (gsCons g r) := by
  intro pins s σ H v u Q I rr h
  refine pgs_cons h1 h2 hst pins s σ H v u Q I rr ?_
  obtain ⟨m, z, a, h, xs, a', h', hr, rs, ra, e, q⟩ := h
  cases ra with
  | nil => cases e
  | cons r1 r2 =>
    rename_i v1 x1 vs xs
    simp only [gsCons] at e
    split at e
    · rename_i a1 h1' e1
      exact ⟨_, _, rfl, m, z, a, h, _, a1, h1', hr, rs, r1, e1, fun σ1 H1 m1 f1 hr1 rs1 => ⟨m1, z, a1, h1', _, a', h', hr1, rs1, RAs.mono r2 f1, e, fun σ2 H2 m2 f2 hr2 rs2 => q σ2 H2 m2 (f1.trans f2) hr2 rs2⟩⟩
    · cases e
def gT (n : Nat) (r : XGs) : XG := fun x a h => match view h x with
  | some (.tuple ds) => if ds.length = n then r (ds.map AV.d) a h else none
  | _ => none
theorem RAs.of_dp {K : PySem.W.Frag} {mg : Str → Option Value} {m z : List Addr} {H : Hp} : ∀ {ds : List PyData} {vs : List V}, DPs K (hid m z H) vs ds → RAs K mg m z H vs (ds.map AV.d)
  | _, _, .nil => .nil
  | _, _, .cons a b => .cons a (RAs.of_dp b)
theorem dg_tup {tgs : List Expr} {kk : Nat} {r : XGs} {n : Nat} (hc : X.calm = true) (hg : DGs X tgs r) (hn : (assignEach tgs X.env).length = n := by rfl) (hst : (assignEach tgs X.env).findIdx? (·.1) = none := by rfl) : DG X (.Tuple tgs kk pos) (gT n r) := by
  intro pins s σ H v u Q I rr h
  refine pg_tup hc hg hn hst pins s σ H v u Q I rr ?_
  obtain ⟨m, z, a, h, x, a', h', hr, rs, ra, e, q⟩ := h
  unfold gT at e
  split at e
  · rename_i ds hd
    split at e
    · rename_i hl
      obtain ⟨p, vs, rfl, t1, d1⟩ := view_tuple ra hd
      exact ⟨p, vs, rfl, t1, by rw [d1.length]; exact hl, m, z, a, h, _, a', h', hr, rs, RAs.of_dp d1, e, q⟩
    · cases e
  · cases e
/-! ### target = value -/
def sAsg (k : XE) (g : XG) : XS := fun a h => match k a h with
  | some (x, h1) => (match g x a h1 with | some (a2, h2) => some (.nx, a2, h2) | none => none)
  | none => none
theorem lf_asg {K : PySem.W.Frag} {mg : Str → Option Value} {g : XG} {D : Ends} {σ : St} {H : Hp} (h : LS K mg (sAsg k g) D σ H) : tAsg (LF K mg (RA K mg) k) (LG K mg g) D σ H := by
  obtain ⟨m, z, a, h, fl, a', h', hr, rs, e, q⟩ := h
  unfold sAsg at e
  split at e
  · rename_i x h1 e1
    split at e
    · rename_i a2 h2 e2
      cases e
      exact ⟨m, z, a, h, x, h1, hr, rs, e1, fun v H1 m1 f1 hr1 ra1 => ⟨m1, z, a, h1, x, _, _, hr1, rs.mono f1, ra1, e2, fun σ2 H2 m2 f2 hr2 rs2 => q σ2 H2 m2 (f1.trans f2) hr2 rs2⟩⟩
    · cases e
  · cases e
theorem ds_asg {tg : Expr} {g : XG} (he : DE X e k) (hg : DG X tg g) (hs : swapsWithSole [tg] e pos.line X.env = pure false := by rfl) (hw : swappedStores [tg] e X.env = pure none := by rfl)
    (h1 : (assignEach [tg] X.env).map (·.2) = [assign tg X.env] := by rfl) : DS X (.Assign [tg] e pos) (sAsg k g) := fun pins s σ H D I h => ps_asg he hg hs hw h1 pins s σ H D I (lf_asg h)
def sSet (i : Nat) (k : XE) : XS := fun a h => match k a h with
  | some (x, h1) => some (.nx, a.set i (some x), h1)
  | none => none
theorem ds_set {i : Nat} {x : Str} {pos' : Pos} (hN : X.N.Nodup) (hi : X.N[i]? = some x) (hx : Loc X.env.scope x) (he : DE X e k) (hs : swapsWith e (some (.Name x pos')) pos.line X.env = pure false := by rfl)
    (hf : X.fn x = true ∨ X.env.scope.names.lookup x = some .local := by first | exact .inl rfl | exact .inr rfl | assumption) : DS X (.Assign [.Name x pos'] e pos) (sSet i k) := by
  intro pins s σ H D I h
  refine ps_set hN hi hx he hs hf pins s σ H D I ?_
  obtain ⟨m, z, a, h, fl, a', h', hr, rs, e, q⟩ := h
  unfold sSet at e
  split at e
  · rename_i x h1 e1
    cases e
    exact ⟨m, z, a, h, x, _, hr, rs, e1, fun v H1 m1 f1 hr1 ra1 => q _ H1 m1 f1 hr1 ((rs.mono f1).set i ra1)⟩
  · cases e
def sPar (i j : Nat) (t : XA) : XS := fun a h => match t a h with
  | some ([x, y], h1) => some (.nx, (a.set i (some x)).set j (some y), h1)
  | _ => none
theorem ds_par {i j : Nat} {x y : Str} {a b : Expr} {t : XA} {px py pt : Pos} {kt k2 pt2} (hc : X.calm = true) (hN : X.N.Nodup) (hi : X.N[i]? = some x) (hj : X.N[j]? = some y) (hij : i ≠ j)
    (hx : X.env.scope.names.lookup x = some .local) (hy : X.env.scope.names.lookup y = some .local) (ha : DA X [a, b] t)
    (hw : swappedStores [.Tuple [.Name x px, .Name y py] kt pt] (.Tuple [a, b] k2 pt2) X.env = pure (some [x, y]))
    (hs : swapsWithSole [.Tuple [.Name x px, .Name y py] kt pt] (.Tuple [a, b] k2 pt2) pos.line X.env = pure false := by rfl) :
    DS X (.Assign [.Tuple [.Name x px, .Name y py] kt pt] (.Tuple [a, b] k2 pt2) pos) (sPar i j t) := by
  intro pins s σ H D I h
  refine ps_par hc hN hi hj hij hx hy ha hw hs pins s σ H D I ?_
  obtain ⟨m, z, a, h, fl, a', h', hr, rs, e, q⟩ := h
  unfold sPar at e
  split at e
  · rename_i x y h1 e1
    cases e
    refine ⟨m, z, a, h, _, _, hr, rs, e1, fun vs H1 m1 f1 hr1 ra1 => ?_⟩
    cases ra1 with
    | cons r1 r2 =>
      cases r2 with
      | cons r3 r4 =>
        cases r4
        exact ⟨_, _, rfl, q _ H1 m1 f1 hr1 (((rs.mono f1).set i r1).set j r3)⟩
  · cases e
end
end L2.Dm
set_option Elab.async false
set_option linter.all false
set_option maxRecDepth 100000
namespace L2.Dm
open PySem PySem.Spec PyProof.Rows
section
variable {K : PySem.W.Frag} {mg : Str → Option Value} {m z : List Addr} {H : Hp} {h : AH}
/-- a thing of the machine's heap is changed -/
theorem Aft.put (r : HR K mg m z H h) {i : Nat} {a : Addr} (ha : m[i]? = some a) (hn : ∀ od u, H a ≠ some (.frz od u)) (o : HO) : Aft m H m (upd H a o) where
  pre := List.prefix_refl _
  new := fun _ q => .inl q
  kp := fun b o' e n => by
    have hne : b ≠ a := fun q => n (q ▸ List.mem_of_getElem? ha)
    rw [upd_ne hne]; exact e
  fz := fun b od u e => by
    have hne : b ≠ a := fun q => hn od u (q ▸ e)
    rw [upd_ne hne]; exact e
theorem HR.put (r : HR K mg m z H h) {i : Nat} {a : Addr} (ha : m[i]? = some a) (hn : ∀ od u, H a ≠ some (.frz od u)) {o : HO} {ao : AO} (ho : OR K mg m z (upd H a o) a ao) : HR K mg m z (upd H a o) (h.set i ao) where
  len := by rw [List.length_set]; exact r.len
  nd := r.nd
  out := fun b hb => by
    have hne : b ≠ a := fun q => (r.out b hb).1 (q ▸ List.mem_of_getElem? ha)
    exact ⟨(r.out b hb).1, by rw [upd_ne hne]; exact (r.out b hb).2⟩
  at_ := fun j b o' h1 h2 => by
    rw [List.getElem?_set] at h2
    split at h2
    · rename_i hij
      subst hij
      rw [ha] at h1; cases h1
      split at h2
      · cases h2; exact ho
      · cases h2
    · rename_i hij
      have hne : b ≠ a := fun q => by
        subst q
        have l1 := (List.getElem?_eq_some_iff.mp ha)
        have l2 := (List.getElem?_eq_some_iff.mp h1)
        obtain ⟨l1, e1⟩ := l1
        obtain ⟨l2, e2⟩ := l2
        have pw := List.pairwise_iff_getElem.mp r.nd
        rcases Nat.lt_or_gt_of_ne hij with l | l
        · exact pw i j l1 l2 l (e1.trans e2.symm)
        · exact pw j i l2 l1 l (e2.trans e1.symm)
      have f : Aft m H m (upd H a o) := .put r ha hn o
      have := r.at_ j b o' h1 h2
      cases o' with
      | lst xs => obtain ⟨vs, e, q⟩ := this; exact ⟨vs, by rw [upd_ne hne]; exact e, RAs.mono q f⟩
      | dk xs => obtain ⟨vs, e, q⟩ := this; exact ⟨vs, by rw [upd_ne hne]; exact e, Paired.mapP q fun _ _ y => ⟨y.1, y.2.mono f⟩⟩
      | dt xs => obtain ⟨vs, e, q⟩ := this; exact ⟨vs, by rw [upd_ne hne]; exact e, Paired.mapP q fun _ _ y => ⟨y.1, y.2.mono f⟩⟩
      | gone => obtain ⟨od, u, e⟩ := this; exact ⟨od, u, by rw [upd_ne hne]; exact e⟩
      | tab x => exact TabOk.of this f.hid fun ps e => by rw [upd_ne hne]; exact e
theorem RAs.set : ∀ {vs : List V} {xs : List AV} {v : V} {x : AV} (j : Nat), RAs K mg m z H vs xs → RA K mg m z H v x → RAs K mg m z H (vs.set j v) (xs.set j x)
  | _, _, _, _, _, .nil, _ => .nil
  | _, _, _, _, 0, .cons a b, q => .cons q b
  | _, _, _, _, j + 1, .cons a b, q => .cons a (RAs.set j b q)
theorem RAs.append : ∀ {vs ws : List V} {xs ys : List AV}, RAs K mg m z H vs xs → RAs K mg m z H ws ys → RAs K mg m z H (vs ++ ws) (xs ++ ys)
  | _, _, _, _, .nil, q => q
  | _, _, _, _, .cons a b, q => .cons a (RAs.append b q)
end
/-! ### o[i] = v -/
def setA : AV → AV → AV → AH → Option AH := fun o i v h => match o with
  | .ref r => (match h[r]? with
    | some (.lst xs) => (match view h i with
      | some (.int k) => (match ixN xs.length k with | some j => some (h.set r (.lst (xs.set j v))) | none => none)
      | _ => none)
    | _ => none)
  | _ => none
def rset (K : PySem.W.Frag) (mg : Str → Option Value) : V → V → V → Hp → (Hp → Prop) → Prop := fun o i v H Q => ∃ m z h ao ai av h', HR K mg m z H h ∧ RA K mg m z H o ao ∧ RA K mg m z H i ai ∧ RA K mg m z H v av ∧ setA ao ai av h = some h' ∧
  ∀ H', Aft m H m H' → HR K mg m z H' h' → Q H'
section
variable {X : Cx} {pos : Pos}
theorem s_set : PSet X (rset X.K X.mg) := by
  intro pins s σ H o i v ov iv u Q I ro ri rv hq
  obtain ⟨m, z, h, ao, ai, av, h', hr, r1, r2, r3, e, q⟩ := hq
  unfold setA at e
  split at e
  · rename_i r
    obtain ⟨a, ha, rfl⟩ := r1
    split at e
    · rename_i xs hx
      split at e
      · rename_i k hk
        split at e
        · rename_i j hj
          cases e
          cases view_int r2 hk
          obtain ⟨vs, e1, e2⟩ := hr.at_ r a _ ha hx
          have f : Aft m H m (upd H a (.lst (vs.set j v))) := .put hr ha (fun _ _ q => by rw [e1] at q; cases q) _
          refine set_list pins s σ H _ _ v ov iv u Q I ro ri rv ⟨a, vs, k, j, rfl, rfl, e1, by rw [RAs.length e2]; exact hj, q _ f (hr.put ha (fun _ _ q => by rw [e1] at q; cases q) ⟨_, upd_same, RAs.mono (RAs.set j e2 r3) f⟩)⟩
        · cases e
      · cases e
    · cases e
  · cases e
def gS (f g : XE) : XG := fun x a h => match f a h with
  | some (o, h1) => (match g a h1 with
    | some (i, h2) => (match setA o i x h2 with | some h3 => some (a, h3) | none => none)
    | none => none)
  | none => none
theorem dg_sub {o i : Expr} {f g : XE} (ho : DE X o f) (hi : DE X i g)
    (ha : ∀ v, assign (.Subscript o i pos) X.env v = (do
      let ov ← holding [v] (eval o X.env)
      let iv ← holding [v, ov] (eval i X.env)
      standAt pos
      holding [v, ov, iv] (setItem ov iv v)
      release [v, ov, iv] []) := by intro _; rfl) : DG X (.Subscript o i pos) (gS f g) := by
  intro pins s σ H v u Q I r h
  refine pg_sub ho hi s_set ha pins s σ H v u Q I r ?_
  obtain ⟨m, z, a, h, x, a', h', hr, rs, ra, e, q⟩ := h
  unfold gS at e
  split at e
  · rename_i o' h1 e1
    split at e
    · rename_i i' h2 e2
      split at e
      · rename_i h3 e3
        cases e
        exact ⟨m, z, _, h, o', h1, hr, rs, e1, fun w H1 m1 f1 hr1 ra1 => ⟨m1, z, _, h1, i', h2, hr1, rs.mono f1, e2, fun w2 H2 m2 f2 hr2 ra2 => ⟨m2, z, h2, o', i', x, _, hr2, ra1.mono f2, ra2, (ra.mono f1).mono f2, e3, fun H3 f3 hr3 => q σ H3 m2 ((f1.trans f2).trans f3) hr3 (((rs.mono f1).mono f2).mono f3)⟩⟩⟩
      · cases e
    · cases e
  · cases e
/-! ### x op= e -/
def addI : PyData → PyData → Option PyData
  | .int i, .int j => some (.int (i + j))
  | _, _ => none
def sAug (i : Nat) (k : XE) (o : AV → AV → AH → Option (AV × AH)) : XS := fun a h => match a[i]? with
  | some (some x) => (match k a h with
    | some (y, h1) => (match o x y h1 with | some (w, h2) => some (.nx, a.set i (some w), h2) | none => none)
    | none => none)
  | _ => none
/-! ### while -/
def wh (t : XT) (b : XS) : Nat → XS
  | 0, _, _ => none
  | n + 1, a, h => match t a h with
    | some (true, h1) => (match b a h1 with
      | some (.nx, a', h') => wh t b n a' h'
      | some (.ct, a', h') => wh t b n a' h'
      | some (.bk, a', h') => some (.nx, a', h')
      | some (.rt x, a', h') => some (.rt x, a', h')
      | none => none)
    | some (false, h1) => some (.nx, a, h1)
    | none => none
def fuelW : Nat := 2 ^ 5000
def sWhile (t : XT) (b : XS) : XS := wh t b fuelW
theorem wh_sound {K : PySem.W.Frag} {mg : Str → Option Value} {t : XT} {b : XS} {n : Nat} {D : Ends} {σ : St} {H : Hp} (hq : LS K mg (wh t b n) D σ H) : tWhile (LF K mg (fun _ _ _ b c => b = c) t) (LS K mg b) D σ H := by
  obtain ⟨m, z, a, h, fl, a', h', hr, rs, e, q⟩ := hq
  refine ⟨fun n σ1 H1 => ∃ m1 a1 h1, Aft m H m1 H1 ∧ HR K mg m1 z H1 h1 ∧ RS K mg m1 z H1 σ1 a1 ∧ wh t b n a1 h1 = some (fl, a', h'), ⟨n, m, a, h, .refl _ _, hr, rs, e⟩, ?_⟩
  rintro n σ1 H1 ⟨m1, a1, h1, f1, hr1, rs1, e1⟩
  cases n with
  | zero => cases e1
  | succ n =>
    simp only [wh] at e1
    split at e1
    · rename_i h2 et
      refine ⟨m1, z, a1, h1, true, h2, hr1, rs1, et, fun bb H2 m2 f2 hr2 eb => ?_⟩
      subst eb
      rw [if_pos rfl]
      refine ⟨fun σ3 H3 => ∃ m3 a3 h3, Aft m H m3 H3 ∧ HR K mg m3 z H3 h3 ∧ RS K mg m3 z H3 σ3 a3 ∧ wh t b n a3 h3 = some (fl, a', h'), fun σ3 H3 w3 => ⟨n, Nat.lt_succ_self _, w3⟩, ?_⟩
      split at e1
      · rename_i a3 h3 eb
        exact ⟨m2, z, a1, h2, .nx, a3, h3, hr2, rs1.mono f2, eb, fun σ4 H4 m4 f4 hr4 rs4 => ⟨m4, a3, h3, (f1.trans f2).trans f4, hr4, rs4, e1⟩⟩
      · rename_i a3 h3 eb
        exact ⟨m2, z, a1, h2, .ct, a3, h3, hr2, rs1.mono f2, eb, fun σ4 H4 m4 f4 hr4 rs4 => ⟨m4, a3, h3, (f1.trans f2).trans f4, hr4, rs4, e1⟩⟩
      · rename_i a3 h3 eb
        cases e1
        exact ⟨m2, z, a1, h2, .bk, _, _, hr2, rs1.mono f2, eb, fun σ4 H4 m4 f4 hr4 rs4 => q σ4 H4 m4 ((f1.trans f2).trans f4) hr4 rs4⟩
      · rename_i x a3 h3 eb
        cases e1
        exact ⟨m2, z, a1, h2, .rt x, _, _, hr2, rs1.mono f2, eb, fun σ4 H4 m4 f4 hr4 rs4 => q σ4 H4 m4 ((f1.trans f2).trans f4) hr4 rs4⟩
      · cases e1
    · rename_i h2 et
      cases e1
      refine ⟨m1, z, _, h1, false, _, hr1, rs1, et, fun bb H2 m2 f2 hr2 eb => ?_⟩
      subst eb
      rw [if_neg Bool.false_ne_true]
      exact q σ1 H2 m2 (f1.trans f2) hr2 (rs1.mono f2)
    · cases e1
theorem ds_while {c : Expr} {body : List Stmt} {t : XT} {b : XS} (hp : PassesOwn (model X.prog X.w) X.A X.env X.xe) (hc : DT X c t) (hb : DSs X body b) : DS X (.While c body [] pos) (sWhile t b) :=
  fun pins s σ H D I h => ps_while hp hc hb pins s σ H D I (wh_sound h)
theorem wh_mono {t : XT} {b : XS} : ∀ {n n' : Nat} {a : AE} {h : AH} {r : Fl × AE × AH}, wh t b n a h = some r → n ≤ n' → wh t b n' a h = some r
  | 0, _, _, _, _, e, _ => by cases e
  | n + 1, 0, _, _, _, _, l => by omega
  | n + 1, n' + 1, a, h, r, e, l => by
    simp only [wh] at e ⊢
    cases et : t a h with
    | none => rw [et] at e; cases e
    | some p =>
      obtain ⟨bb, h1⟩ := p
      rw [et] at e
      cases bb with
      | false => exact e
      | true =>
        simp only at e ⊢
        cases eb : b a h1 with
        | none => rw [eb] at e; cases e
        | some p2 =>
          obtain ⟨fl, a', h'⟩ := p2
          rw [eb] at e
          cases fl with
          | nx => exact wh_mono (show wh t b n a' h' = some r from e) (by omega)
          | ct => exact wh_mono (show wh t b n a' h' = some r from e) (by omega)
          | bk => exact e
          | rt x => exact e
end
end L2.Dm
set_option Elab.async false
set_option linter.all false
set_option maxRecDepth 100000
namespace L2.Dm
open PySem PySem.Spec PyProof.Rows
/-! ### the same data -/
mutual
def sameD : PyData → PyData → Bool
  | .none, .none => true
  | .bool a, .bool b => a == b
  | .int a, .int b => a == b
  | .str a, .str b => a == b
  | .list a, .list b => sameDs a b
  | .tuple a, .tuple b => sameDs a b
  | .dict a, .dict b => sameKs a b
  | _, _ => false
def sameDs : List PyData → List PyData → Bool
  | [], [] => true
  | a :: r, b :: s => sameD a b && sameDs r s
  | _, _ => false
def sameKs : List (PyData × PyData) → List (PyData × PyData) → Bool
  | [], [] => true
  | (a, x) :: r, (b, y) :: s => sameD a b && sameD x y && sameKs r s
  | _, _ => false
end
mutual
theorem sameD_eq : ∀ {a b : PyData}, sameD a b = true → a = b
  | .none, b, h => by cases b <;> simp_all [sameD]
  | .bool a, b, h => by cases b <;> simp_all [sameD]
  | .int a, b, h => by cases b <;> simp_all [sameD]
  | .str a, b, h => by cases b <;> simp_all [sameD]
  | .list a, b, h => by
    cases b with
    | list c => rw [sameDs_eq (a := a) (b := c) (by simpa only [sameD] using h)]
    | _ => simp [sameD] at h
  | .tuple a, b, h => by
    cases b with
    | tuple c => rw [sameDs_eq (a := a) (b := c) (by simpa only [sameD] using h)]
    | _ => simp [sameD] at h
  | .dict a, b, h => by
    cases b with
    | dict c => rw [sameKs_eq (a := a) (b := c) (by simpa only [sameD] using h)]
    | _ => simp [sameD] at h
theorem sameDs_eq : ∀ {a b : List PyData}, sameDs a b = true → a = b
  | [], b, h => by cases b <;> simp_all [sameDs]
  | x :: r, b, h => by
    cases b with
    | nil => simp [sameDs] at h
    | cons y s =>
      simp only [sameDs, Bool.and_eq_true] at h
      rw [sameD_eq h.1, sameDs_eq h.2]
theorem sameKs_eq : ∀ {a b : List (PyData × PyData)}, sameKs a b = true → a = b
  | [], b, h => by cases b <;> simp_all [sameKs]
  | (x, u) :: r, b, h => by
    cases b with
    | nil => simp [sameKs] at h
    | cons y s =>
      obtain ⟨y, v⟩ := y
      simp only [sameKs, Bool.and_eq_true] at h
      rw [sameD_eq h.1.1, sameD_eq h.1.2, sameKs_eq h.2]
end
def sameA : AV → AV → Bool
  | .d a, .d b => sameD a b
  | .ref i, .ref j => i == j
  | .fn a, .fn b => a == b
  | .ty a, .ty b => a == b
  | .raw a, .raw b => a == b
  | .exc a, .exc b => a == b
  | _, _ => false
theorem sameA_eq {a b : AV} (h : sameA a b = true) : a = b := by
  cases a <;> cases b <;> simp_all [sameA]
  exact sameD_eq h
def sameAs : List AV → List AV → Bool
  | [], [] => true
  | a :: r, b :: s => sameA a b && sameAs r s
  | _, _ => false
theorem sameAs_eq : ∀ {a b : List AV}, sameAs a b = true → a = b
  | [], b, h => by cases b <;> simp_all [sameAs]
  | x :: r, b, h => by
    cases b with
    | nil => simp [sameAs] at h
    | cons y s =>
      simp only [sameAs, Bool.and_eq_true] at h
      rw [sameA_eq h.1, sameAs_eq h.2]
def stillL (i : Nat) (xs : List AV) (h : AH) : Bool := match h[i]? with
  | some (.lst ys) => sameAs ys xs
  | _ => false
theorem stillL_eq {i : Nat} {xs : List AV} {h : AH} (e : stillL i xs h = true) : h[i]? = some (.lst xs) := by
  unfold stillL at e
  split at e
  · rename_i ys hy
    rw [hy, sameAs_eq e]
  · cases e
/-! ### what a loop walks: the items, and what must stand still meanwhile -/
abbrev XI := AE → AH → Option (List AV × (AH → Bool) × AH)
def WK (K : PySem.W.Frag) (mg : Str → Option Value) (J : It) (m z : List Addr) (H : Hp) (xs : List AV) (c : AH → Bool) : Prop :=
  ∀ (i : Nat) (m1 : List Addr) (z1 : List Addr) (H1 : Hp) (h1 : AH), Aft m H m1 H1 → (∀ a ∈ z1, a ∈ z ∨ H a = none) → HR K mg m1 z1 H1 h1 → c h1 = true →
    (∀ x, xs[i]? = some x → J.go i H1 ∧ ∀ v H2, J.yld i H1 v H2 → Same H1 H2 ∧ RA K mg m1 z1 H2 v x) ∧ (xs.length = i → J.stop i H1)
def LI (K : PySem.W.Frag) (mg : Str → Option Value) (f : XI) : TI := fun σ H R => ∃ m z a h xs c h', HR K mg m z H h ∧ RS K mg m z H σ a ∧ f a h = some (xs, c, h') ∧
  ∀ J H' m', Aft m H m' H' → HR K mg m' z H' h' → WK K mg J m' z H' xs c → R J H'
def DI (X : Cx) (tg iter : Expr) (f : XI) : Prop := PI X tg iter (LI X.K X.mg f)
def forL (c : AH → Bool) (g : XG) (b : XS) : List AV → XS
  | [], a, h => if c h then some (.nx, a, h) else none
  | x :: r, a, h => if c h then (match g x a h with
     | some (a1, h1) => (match b a1 h1 with
        | some (.nx, a2, h2) => forL c g b r a2 h2
        | some (.ct, a2, h2) => forL c g b r a2 h2
        | some (.bk, a2, h2) => some (.nx, a2, h2)
        | some (.rt y, a2, h2) => some (.rt y, a2, h2)
        | none => none)
     | none => none) else none
def sFor (w : XI) (g : XG) (b : XS) : XS := fun a h => match w a h with
  | some (xs, c, h1) => forL c g b xs a h1
  | none => none
theorem drop_cases {α : Type} (xs : List α) (i : Nat) : (xs.drop i = [] ∧ xs.length ≤ i) ∨ ∃ x, xs[i]? = some x ∧ xs.drop i = x :: xs.drop (i + 1) := by
  by_cases h : i < xs.length
  · exact .inr ⟨xs[i], List.getElem?_eq_getElem h, List.drop_eq_getElem_cons h⟩
  · exact .inl ⟨List.drop_eq_nil_of_le (by omega), by omega⟩
theorem for_sound {K : PySem.W.Frag} {mg : Str → Option Value} {w : XI} {g : XG} {b : XS} {D : Ends} {σ : St} {H : Hp} (hq : LS K mg (sFor w g b) D σ H) : tFor (LI K mg w) (LG K mg g) (LS K mg b) D σ H := by
  obtain ⟨m, z, a, h, fl, a', h', hr, rs, e, q⟩ := hq
  unfold sFor at e
  split at e
  · rename_i xs c h0 ew
    refine ⟨m, z, a, h, xs, c, h0, hr, rs, ew, fun J H1 m1 f1 hr1 wk => ?_⟩
    refine ⟨fun i n σ2 H2 => (n = xs.length - i ∧ i ≤ xs.length) ∧ ∃ m2 a2 h2, Aft m1 H1 m2 H2 ∧ HR K mg m2 z H2 h2 ∧ RS K mg m2 z H2 σ2 a2 ∧ forL c g b (xs.drop i) a2 h2 = some (fl, a', h'), ⟨_, ⟨rfl, Nat.zero_le _⟩, m1, a, h0, .refl _ _, hr1, rs.mono f1, e⟩, ?_⟩
    rintro i n σ2 H2 ⟨⟨rfl, ile⟩, m2, a2, h2, f2, hr2, rs2, e2⟩
    rcases drop_cases xs i with ⟨hx, hl⟩ | ⟨x, hx, hd⟩
    · rw [hx, forL] at e2
      split at e2
      · rename_i hc
        cases e2
        exact .inl ⟨(wk i m2 z H2 _ f2 (fun _ z => .inl z) hr2 hc).2 (by omega), q σ2 H2 m2 (f1.trans f2) hr2 rs2⟩
      · cases e2
    · rw [hd, forL] at e2
      split at e2
      · rename_i hc
        obtain ⟨go, yl⟩ := (wk i m2 z H2 h2 f2 (fun _ z => .inl z) hr2 hc).1 x hx
        split at e2
        · rename_i a3 h3 eg
          have il : i < xs.length := (List.getElem?_eq_some_iff.mp hx).1
          refine .inr ⟨go, fun σ5 H5 => ∃ m5 a5 h5, Aft m1 H1 m5 H5 ∧ HR K mg m5 z H5 h5 ∧ RS K mg m5 z H5 σ5 a5 ∧ forL c g b (xs.drop (i + 1)) a5 h5 = some (fl, a', h'), fun σ5 H5 w5 => ⟨xs.length - (i + 1), by omega, ⟨rfl, by omega⟩, w5⟩, fun v H3 y => ?_⟩
          obtain ⟨sm, ra⟩ := yl v H3 y
          have fS : Aft m2 H2 m2 H3 := .of sm
          refine ⟨m2, z, a2, h2, x, a3, h3, hr2.grow sm, rs2.mono fS, ra, eg, fun σ4 H4 m4 f4 hr4 rs4 => ?_⟩
          split at e2
          · rename_i a5 h5 eb
            exact ⟨m4, z, a3, h3, .nx, a5, h5, hr4, rs4, eb, fun σ5 H5 m5 f5 hr5 rs5 => ⟨m5, a5, h5, ((f2.trans fS).trans f4).trans f5, hr5, rs5, e2⟩⟩
          · rename_i a5 h5 eb
            exact ⟨m4, z, a3, h3, .ct, a5, h5, hr4, rs4, eb, fun σ5 H5 m5 f5 hr5 rs5 => ⟨m5, a5, h5, ((f2.trans fS).trans f4).trans f5, hr5, rs5, e2⟩⟩
          · rename_i a5 h5 eb
            cases e2
            exact ⟨m4, z, a3, h3, .bk, _, _, hr4, rs4, eb, fun σ5 H5 m5 f5 hr5 rs5 => q σ5 H5 m5 (f1.trans (((f2.trans fS).trans f4).trans f5)) hr5 rs5⟩
          · rename_i y5 a5 h5 eb
            cases e2
            exact ⟨m4, z, a3, h3, .rt y5, _, _, hr4, rs4, eb, fun σ5 H5 m5 f5 hr5 rs5 => q σ5 H5 m5 (f1.trans (((f2.trans fS).trans f4).trans f5)) hr5 rs5⟩
          · cases e2
        · cases e2
      · cases e2
  · cases e
section
variable {X : Cx} {tg : Expr} {pos : Pos}
theorem ds_for {iter : Expr} {body : List Stmt} {w : XI} {g : XG} {b : XS} (hp : PassesOwn (model X.prog X.w) X.A X.env X.xe) (hc : X.calm = true) (hi : DI X tg iter w) (hg : DG X tg g) (hb : DSs X body b)
    (hs : ∀ x, foldedSetIterable iter X.env x = pure x := by intro _; rfl) : DS X (.For tg iter body [] pos) (sFor w g b) :=
  fun pins s σ H D I h => ps_for hp hc hi hg hb hs pins s σ H D I (for_sound h)
/-! ### over a list, a tuple, a text -/
def charsD (x : Str) : List PyData := x.cps.toList.map fun c => .str ⟨#[c]⟩
def srcA (x : AV) (h : AH) : Option (List AV × (AH → Bool)) := match x with
  | .d (.list ds) => some (ds.map AV.d, fun _ => true)
  | .d (.tuple ds) => some (ds.map AV.d, fun _ => true)
  | .d (.str t) => some ((charsD t).map AV.d, fun _ => true)
  | .ref i => (match h[i]? with
    | some (.lst xs) => some (xs, stillL i xs)
    | _ => none)
  | _ => none
def xSeq (f : XE) : XI := fun a h => match f a h with
  | some (x, h1) => (match srcA x h1 with | some (xs, c) => some (xs, c, h1) | none => none)
  | none => none
section
variable {K : PySem.W.Frag} {mg : Str → Option Value} {m z : List Addr} {H : Hp}
theorem hid_z {m m' z z' : List Addr} {H H' : Hp} (x : Aft m H m' H') (hz : ∀ a ∈ z', a ∈ z ∨ H a = none) : Same (hid m z H) (hid m' z' H') := fun a o h => by
  obtain ⟨h1, h2, h3⟩ := hid_some.mp h
  refine hid_some.mpr ⟨fun q => ?_, fun q => ?_, x.kp a o h3 h1⟩
  · rcases x.new a q with q | q
    · exact h1 q
    · rw [q] at h3; cases h3
  · rcases hz a q with q | q
    · exact h2 q
    · rw [q] at h3; cases h3
theorem wk_list {a : Addr} {ds : List PyData} {c : AH → Bool} (d : DP K (hid m z H) (.ref a) (.list ds)) : WK K mg (Itl K a) m z H (ds.map AV.d) c := by
  intro i m1 z1 H1 h1 f hz hr hc
  obtain ⟨a', vs, e, s1, d1⟩ := DP.lst_inv (d.same (hid_z f hz))
  cases e
  have s2 := sameL (hid_sub _ _ _) s1
  refine ⟨fun x hx => ?_, fun hl => ⟨vs, s2, by rw [d1.length]; simpa using Nat.le_of_eq hl⟩⟩
  rw [List.getElem?_map] at hx
  cases hd : ds[i]? with
  | none => rw [hd] at hx; cases hx
  | some y =>
    rw [hd] at hx; cases hx
    obtain ⟨v, hv, dv⟩ := d1.get hd
    refine ⟨⟨vs, v, s2, hv⟩, fun v' H2 y' => ?_⟩
    obtain ⟨rfl, hy⟩ := y'
    have := hy vs s2
    rw [hv] at this; cases this
    exact ⟨Same.refl _, dv⟩
theorem wk_tup {a : Addr} {ds : List PyData} {c : AH → Bool} (d : DP K (hid m z H) (.ref a) (.tuple ds)) : WK K mg (Itt K a) m z H (ds.map AV.d) c := by
  intro i m1 z1 H1 h1 f hz hr hc
  obtain ⟨a', vs, e, s1, d1⟩ := DP.ref_inv (d.same (hid_z f hz))
  cases e
  have s2 := Same.tup (hid_sub _ _ _) s1
  refine ⟨fun x hx => ?_, fun hl => ⟨vs, s2, by rw [d1.length]; simpa using Nat.le_of_eq hl⟩⟩
  rw [List.getElem?_map] at hx
  cases hd : ds[i]? with
  | none => rw [hd] at hx; cases hx
  | some y =>
    rw [hd] at hx; cases hx
    obtain ⟨v, hv, dv⟩ := d1.get hd
    refine ⟨⟨vs, v, s2, hv⟩, fun v' H2 y' => ?_⟩
    obtain ⟨rfl, hy⟩ := y'
    have := hy vs s2
    rw [hv] at this; cases this
    exact ⟨Same.refl _, dv⟩
theorem wk_str {x : Str} {c : AH → Bool} : WK K mg (Its x) m z H ((charsD x).map AV.d) c := by
  intro i m1 z1 H1 h1 f hz hr hc
  refine ⟨fun y hy => ?_, fun hl => ?_⟩
  · simp only [charsD, List.map_map, List.getElem?_map] at hy
    cases hd : x.cps.toList[i]? with
    | none => rw [hd] at hy; cases hy
    | some n =>
      rw [hd] at hy; cases hy
      have hl := (List.getElem?_eq_some_iff.mp hd).1
      refine ⟨by simpa [Its] using hl, fun v H2 y' => ?_⟩
      obtain ⟨rfl, n', e1, rfl⟩ := y'
      have : x.cps[i]? = some n := by rw [← hd]; simp
      rw [this] at e1; cases e1
      exact ⟨Same.refl _, .str _⟩
  · simpa [Its, charsD] using Nat.le_of_eq hl
theorem wk_ref {j : Nat} {a : Addr} {xs : List AV} (ha : m[j]? = some a) : WK K mg (Itl K a) m z H xs (stillL j xs) := by
  intro i m1 z1 H1 h1 f hz hr hc
  obtain ⟨vs, e1, r1⟩ := hr.at_ j a _ (f.get ha) (stillL_eq hc)
  have s2 : SqL K H1 a vs := SqL.of e1
  refine ⟨fun x hx => ?_, fun hl => ⟨vs, s2, by rw [RAs.length r1]; exact Nat.le_of_eq hl⟩⟩
  obtain ⟨v, hv, dv⟩ := RAs.get r1 hx
  refine ⟨⟨vs, v, s2, hv⟩, fun v' H2 y' => ?_⟩
  obtain ⟨rfl, hy⟩ := y'
  have := hy vs s2
  rw [hv] at this; cases this
  exact ⟨Same.refl _, dv⟩
end
theorem di_seq {l : Expr} {f : XE} (hl : DE X l f) : DI X tg l (xSeq f) := by
  intro pins s σ H R I hq
  obtain ⟨m, z, a, h, xs, c, h', hr, rs, e, q⟩ := hq
  unfold xSeq at e
  split at e
  · rename_i x h1 e1
    split at e
    · rename_i ys c' es
      cases e
      unfold srcA at es
      split at es
      · cases es
        refine pi_list hl pins s σ H R I ⟨m, z, a, h, _, _, hr, rs, e1, fun v H1 m1 f1 hr1 ra1 => ?_⟩
        obtain ⟨p, vs, rfl, s1, d1⟩ := DP.lst_inv ra1
        exact ⟨p, rfl, ⟨vs, sameL (hid_sub _ _ _) s1⟩, q _ H1 m1 f1 hr1 (wk_list ra1)⟩
      · cases es
        refine pi_tup hl pins s σ H R I ⟨m, z, a, h, _, _, hr, rs, e1, fun v H1 m1 f1 hr1 ra1 => ?_⟩
        obtain ⟨p, vs, rfl, s1, d1⟩ := DP.ref_inv ra1
        exact ⟨p, rfl, ⟨vs, Same.tup (hid_sub _ _ _) s1⟩, q _ H1 m1 f1 hr1 (wk_tup ra1)⟩
      · cases es
        refine pi_str hl pins s σ H R I ⟨m, z, a, h, _, _, hr, rs, e1, fun v H1 m1 f1 hr1 ra1 => ?_⟩
        cases ra1
        exact ⟨_, rfl, q _ H1 m1 f1 hr1 wk_str⟩
      · split at es
        · rename_i j zs hj
          cases es
          refine pi_list hl pins s σ H R I ⟨m, z, a, h, _, _, hr, rs, e1, fun v H1 m1 f1 hr1 ra1 => ?_⟩
          obtain ⟨p, hp, rfl⟩ := ra1
          obtain ⟨vs, e2, r2⟩ := hr1.at_ _ _ _ hp hj
          exact ⟨p, rfl, ⟨vs, SqL.of e2⟩, q _ H1 m1 f1 hr1 (wk_ref hp)⟩
        · cases es
      · cases es
    · cases e
  · cases e
/-! ### ranges -/
def rangeD (lo : Int) (n : Nat) : List AV := (List.range n).map fun i => AV.d (.int (lo + (i : Nat)))
theorem wk_rng {K : PySem.W.Frag} {mg : Str → Option Value} {m z : List Addr} {H : Hp} {lo : Int} {n : Nat} {c : AH → Bool} : WK K mg (Itr lo n) m z H (rangeD lo n) c := by
  intro i m1 z1 H1 h1 f hz hr hc
  unfold rangeD
  refine ⟨fun y hy => ?_, fun hl => ?_⟩
  · rw [List.getElem?_map] at hy
    cases hd : (List.range n)[i]? with
    | none => rw [hd] at hy; cases hy
    | some k =>
      rw [hd] at hy; cases hy
      obtain ⟨hl, he⟩ := List.getElem?_eq_some_iff.mp hd
      rw [List.getElem_range] at he
      subst he
      rw [List.length_range] at hl
      refine ⟨hl, fun v H2 y' => ?_⟩
      obtain ⟨rfl, rfl⟩ := y'
      exact ⟨Same.refl _, .int _⟩
  · simpa [Itr] using Nat.le_of_eq hl
def smR (i : Int) : Prop := -(2 ^ 62) ≤ i ∧ i < 2 ^ 62
instance (i : Int) : Decidable (smR i) := inferInstanceAs (Decidable (_ ∧ _))
def xRng1 (t : XA) : XI := fun a h => match t a h with
  | some ([.d (.int j)], h1) => if smR j then some (rangeD 0 j.toNat, fun _ => true, h1) else none
  | _ => none
def xRng2 (t : XA) : XI := fun a h => match t a h with
  | some ([.d (.int i), .d (.int j)], h1) => if smR i ∧ smR j then some (rangeD i (j - i).toNat, fun _ => true, h1) else none
  | _ => none
theorem di_range1 {a : Expr} {t : XA} {p pos : Pos} (hg : Gl X "range") (hm : X.mg "range" = none) (ha : DA X [a] t) (hs : starEach [a] X.env = [(false, eval a X.env)] := by rfl) : DI X tg (.Call (.Name "range" p) [a] [] pos) (xRng1 t) := by
  intro pins s σ H R I hq
  refine pi_range1 hg hm ha hs pins s σ H R I ?_
  obtain ⟨m, z, a, h, xs, c, h', hr, rs, e, q⟩ := hq
  unfold xRng1 at e
  split at e
  · rename_i j h1 e1
    split at e
    · rename_i hj
      cases e
      refine ⟨m, z, a, h, _, _, hr, rs, e1, fun vs H1 m1 f1 hr1 ra1 => ?_⟩
      cases ra1 with
      | cons r1 r2 =>
        cases r2
        cases r1
        exact ⟨j, rfl, hj.1, hj.2, q _ H1 m1 f1 hr1 wk_rng⟩
    · cases e
  · cases e
end
end L2.Dm
set_option Elab.async false
set_option linter.all false
set_option maxRecDepth 100000
namespace L2.Dm
open PySem PySem.Spec PyProof.Rows
/-! ### a comprehension's targets: names alone -/
def wipeA (a : AE) : List Nat → AE
  | [] => a
  | v :: vs => (wipeA a vs).set v none
section
variable {X : Cx} {pos : Pos} {vs : List Nat}
/-! ### a comprehension's tests -/
def xYes : XT := fun _ h => some (true, h)
end
/-! ### a comprehension -/
theorem DPs.snoc {K : PySem.W.Frag} {H : Hp} {vs : List V} {ds : List PyData} {v : V} {d : PyData} (a : DPs K H vs ds) (b : DP K H v d) : DPs K H (vs ++ [v]) (ds ++ [d]) := a.append (.cons b .nil)
section
variable {X : Cx} {pos : Pos}
end
end L2.Dm
set_option Elab.async false
set_option linter.all false
set_option maxRecDepth 100000
namespace L2.Dm
open PySem PySem.Spec PyProof.Rows
/-! ### a def by its function of data -/
abbrev XF := List AV → AH → Option (AV × AH)
def spF (K : PySem.W.Frag) (mg : Str → Option Value) (n : Nat) (F : XF) : Sp := fun vs H Q _ => vs.length = n ∧ rc K mg F vs H Q
def fnF (nN : Nat) (f : XS) : XF := fun xs h => match f (xs.map some ++ List.replicate (nN - xs.length) none) h with
  | some (.rt x, _, h') => some (x, h')
  | some (.nx, _, h') => some (.d .none, h')
  | _ => none
theorem RS.start {K : PySem.W.Frag} {mg : Str → Option Value} {m z : List Addr} {H : Hp} {N : List Str} {vs : List V} {xs : List AV} (r : RAs K mg m z H vs xs) : RS K mg m z H (start N vs) (xs.map some ++ List.replicate (N.length - xs.length) none) := by
  have hl := RAs.length r
  refine ⟨by simp [L2.start, hl], fun i x e => ?_⟩
  by_cases hi : i < xs.length
  · rw [List.getElem?_append_left (by simpa using hi), List.getElem?_map] at e
    cases hx : xs[i]? with
    | none => rw [hx] at e; cases e
    | some y =>
      rw [hx] at e; cases e
      obtain ⟨v, h1, h2⟩ := RAs.get r hx
      refine ⟨v, ?_, h2⟩
      unfold L2.start
      rw [List.getElem?_append_left (by simp [hl]; exact hi), List.getElem?_map, h1]; rfl
  · rw [List.getElem?_append_right (by simpa using hi)] at e
    have := List.mem_of_getElem? e
    rw [List.mem_replicate] at this
    cases this.2
section
variable {P : Program} {w : World} {K : PySem.W.Frag} {mg : Str → Option Value} {base : Heap} {x : Str} {st : Stmt} {N ps ks : List Str} {dvs : List V} {k n nN : Nat} {g : XS}
theorem body_of {vs : List V} {H : Hp} {Q : VK} {E : XK} (hN : N.length = nN) (h : spF K mg n (fnF nN g) vs H Q E) : LS K mg g { nx := fun _ H' => Q .non H', rt := Q } (start N vs) H := by
  obtain ⟨_, m, z, h, xs, w, h', hr, ra, e, q⟩ := h
  unfold fnF at e
  split at e
  · rename_i x a1 h1 e1
    cases e
    subst hN
    exact ⟨m, z, _, h, _, a1, _, hr, RS.start ra, e1, fun σ' H' m' f' hr' rs' v r => q v H' m' f' hr' r⟩
  · rename_i a1 h1 e1
    cases e
    subst hN
    exact ⟨m, z, _, h, _, a1, _, hr, RS.start ra, e1, fun σ' H' m' f' hr' rs' => q .non H' m' f' hr' .non⟩
  · cases e
theorem fd_ok (F : FD K mg x st ps) (S : FnScope N ps (defScope st)) (hn : ps.length = n) (hN : N.length = nN)
    (hb : ∀ (f : Addr) (cdv : Value) (A : Around) (outer : List Env) (s : Shared) (H : Hp) (E : XK), Room k (A.deeper (envOfC x (defScope st) s.heap.objs.size f cdv)) → DSs (cxOf CX0 P w K mg base N x (defScope st) f cdv A outer s H E).nox (defBody st) g) :
    FP P w K mg base (k + 1) x ps (spF K mg n (fnF nN g)) :=
  F.ok S (fun vs H Q E h => by rw [hn]; exact h.1) fun f cdv A outer s H vs Q E hr h => ⟨_, hb f cdv A outer s H E hr, body_of hN h⟩
end
section
variable {X : Cx} {k n : Nat} {x : Str} {ps ks : List Str} {p pos : Pos} {e : Expr} {es : List Expr} {t tk : XA} {F : XF}
/-- f(..): as many as it has -/
def xFn (n : Nat) (t : XA) (F : XF) : XE := fun a h => match t a h with
  | some (xs, h1) => if xs.length = n then F xs h1 else none
  | none => none
theorem lf_fn {K : PySem.W.Frag} {mg : Str → Option Value} {σ : St} {H : Hp} {Q : VK} (h : LF K mg (RA K mg) (xFn n t F) σ H Q) : LF K mg (RAs K mg) t σ H fun vs H1 => vs.length = n ∧ rc K mg F vs H1 Q := by
  obtain ⟨m, z, a, h, x, h', hr, rs, e, q⟩ := h
  unfold xFn at e
  split at e
  · rename_i xs h1 e1
    split at e
    · rename_i hl
      exact ⟨m, z, a, h, xs, h1, hr, rs, e1, fun vs H1 m1 f1 hr1 ra1 => ⟨by rw [RAs.length ra1]; exact hl, m1, z, h1, xs, x, h', hr1, ra1, e, fun v' H' m' f' hr' ra' => q v' H' m' (f1.trans f') hr' ra'⟩⟩
    · cases e
  · cases e
theorem de_fnF (G : FP X.prog X.w X.K X.mg X.base k x ps (spF X.K X.mg n F)) (hr : Room k X.A) (hg : Gl X x) (ha : DA X (e :: es) t)
    (hdb : (x == ("__debug__" : Str)) = false := by decide) (he : starEach (e :: es) X.env = (false, eval e X.env) :: starEach es X.env := by rfl) (hpl : (backTo pos (starEach es X.env)).any (·.1) = false := by rfl) :
    DE X (.Call (.Name x p) (e :: es) [] pos) (xFn n t F) := by
  intro pins s σ H Q I h
  refine pe_callF G hr hg ha hdb he hpl pins s σ H Q I ?_
  obtain ⟨m, z, a, h, xs, h1, hr, rs, e1, q⟩ := lf_fn h
  exact ⟨m, z, a, h, xs, h1, hr, rs, e1, fun vs H1 m1 f1 hr1 ra1 => by show spF X.K X.mg n F (vs ++ []) H1 Q E0; rw [List.append_nil]; exact q vs H1 m1 f1 hr1 ra1⟩
/-- with a parameter behind the star left out -/
def xFnD (n : Nat) (t : XA) (ds : List AV) (F : XF) : XE := fun a h => match t a h with
  | some (xs, h1) => if xs.length + ds.length = n then F (xs ++ ds) h1 else none
  | none => none
/-! ### keywords -/
/-- f(.., k=..): n in all, m of them by place -/
def xFnK (m n : Nat) (t tk : XA) (F : XF) : XE := fun a h => match t a h with
  | some (xs, h1) => (match tk a h1 with
    | some (ys, h2) => if xs.length = m ∧ ys.length = n then F (xs ++ ys) h2 else none
    | none => none)
  | none => none
/-! ### a def that stands in a local name -/
def xFnV (i n : Nat) (t : XA) (tab : Str → Option XF) : XE := fun a h => match a[i]? with
  | some (some (.fn g)) => (match tab g with
    | some F => xFn n t F a h
    | none => none)
  | _ => none
end
end L2.Dm
set_option Elab.async false
set_option linter.all false
set_option maxRecDepth 100000
namespace L2.Dm
open PySem PySem.Spec PyProof.Rows
open AutoSeq1 (wpAny_loadPart')
/-! ### iterators of lists and tuples alike (k: of a tuple) -/
def itN (k : Bool) : String := if k then "tuple_iterator" else "list_iterator"
def ItA (k : Bool) (h : Heap) (it l : Addr) (i : Nat) : Prop := ∃ o, h.get? it = some o ∧ o.cls = .type (itN k) ∧ o.data = .fields #[.ref l, .int i 0]
def SqA (k : Bool) (h : Heap) (l : Addr) (its : Array Value) : Prop := if k then h.IsTuple l its else h.IsList l its
theorem ItA.tup {h : Heap} {it l : Addr} {i : Nat} (x : ItA true h it l i) : h.IsTupleIter it l i := x
theorem ItA.lst {h : Heap} {it l : Addr} {i : Nat} (x : ItA false h it l i) : h.IsListIter it l i := x
theorem ItA.at {k : Bool} {h h' : Heap} {it l : Addr} {i : Nat} (x : ItA k h it l i) (q : ∀ o, h.get? it = some o → h'.get? it = some o) : ItA k h' it l i := let ⟨o, a, b⟩ := x; ⟨o, q o a, b⟩
theorem SqA.ext {k : Bool} {h h' : Heap} {l b : Addr} {its : Array Value} (x : SqA k h l its) (e : Heap.ExtBut b h h') (n : l ≠ b) : SqA k h' l its := by
  cases k
  · exact Heap.IsList.extBut (show h.IsList l its from x) e n
  · exact Heap.IsTuple.extBut (show h.IsTuple l its from x) e n
section
variable {prog : Program} {w : World} {A : Around} {E : Value → Shared → Prop} {s : Shared}
end
/-! ### the list or tuple at a -/
def SqE (k : Bool) (K : PySem.W.Frag) (H : Hp) (a : Addr) (xs : List V) : Prop := if k then SqT K H a xs else SqL K H a xs
section
variable {X : Cx} {pins : List (Addr × Obj)} {σ : St} {H : Hp} {s : Shared}
theorem SqE.inj {k : Bool} {a : Addr} {xs ys : List V} (I : Inv X pins σ H s) (h : SqE k X.K H a xs) (g : SqE k X.K H a ys) : xs = ys := by
  cases k
  · exact I.list_inj h g
  · exact I.tuple_inj h g
end
/-! ### enumerate -/
end L2.Dm
set_option Elab.async false
set_option linter.all false
set_option maxRecDepth 100000
namespace L2.Dm
open PySem PySem.Spec PyProof.Rows
/-! ### zip of two, each a list or a tuple -/
section
variable {prog : Program} {w : World} {A : Around} {E : Value → Shared → Prop} {s : Shared}
/-! making it -/
abbrev zP (k : Bool) (l : Addr) : Obj := { cls := .type (itN k), data := .fields #[.ref l, .int 0 0] }
end
section
variable {prog : Program} {w : World} {A : Around} {E : Value → Shared → Prop} {s : Shared}
end
end L2.Dm
set_option Elab.async false
set_option linter.all false
set_option maxRecDepth 100000
namespace L2.Dm
open PySem PySem.Spec PyProof.Rows
/-! ### enumerate and zip over data -/
def srcB (x : AV) (h : AH) : Option (List PyData × (AH → Bool)) := match x with
  | .d (.list ds) => some (ds, fun _ => true)
  | .d (.tuple ds) => some (ds, fun _ => true)
  | .ref i => (match h[i]? with
    | some (.lst xs) => (match allD xs with | some ds => some (ds, stillL i xs) | none => none)
    | _ => none)
  | _ => none
section
variable {K : PySem.W.Frag} {mg : Str → Option Value} {m z : List Addr} {H : Hp}
def enumD (ds : List PyData) : List PyData := ds.mapIdx fun i d => .tuple [.int (i : Nat), d]
def zipD (xs ys : List PyData) : List PyData := List.zipWith (fun a b => .tuple [a, b]) xs ys
end
def xEnum (t : XA) : XI := fun a h => match t a h with
  | some ([x], h1) => (match srcB x h1 with | some (ds, c) => some ((enumD ds).map AV.d, c, h1) | none => none)
  | _ => none
def xZip (t : XA) : XI := fun a h => match t a h with
  | some ([x, y], h1) => (match srcB x h1, srcB y h1 with | some (ds, c), some (es, c') => some ((zipD ds es).map AV.d, (fun h => c h && c' h), h1) | _, _ => none)
  | _ => none
section
variable {X : Cx} {e e2 : Expr} {t : XA} {p pos tp : Pos} {elts : List Expr} {kk : Nat}
end
end L2.Dm
set_option Elab.async false
set_option linter.all false
set_option maxRecDepth 100000
namespace L2.Dm
open PySem PySem.Spec PyProof.Rows
section
variable {X : Cx} {pos apos cpos : Pos} {o e i : Expr} {es : List Expr} {f g k : XE} {t : XA}
/-! ### methods of a tracked list -/
def xMt (f : XE) (t : XA) (r : Nat → List AV → List AV → AH → Option (AV × AH)) : XE := fun a h => match f a h with
  | some (.ref j, h1) => (match t a h1 with
    | some (xs, h2) => (match h1[j]?, h2[j]? with
      | some (.lst _), some (.lst ys) => r j ys xs h2
      | _, _ => none)
    | none => none)
  | _ => none
def appendR : Nat → List AV → List AV → AH → Option (AV × AH) := fun j ys xs h => match xs with
  | [x] => if ys.length < sizeLine then some (.d .none, h.set j (.lst (ys ++ [x]))) else none
  | _ => none
theorem lf_mt {K : PySem.W.Frag} {mg : Str → Option Value} {σ : St} {H : Hp} {Q : VK} {r : Nat → List AV → List AV → AH → Option (AV × AH)} (h : LF K mg (RA K mg) (xMt f t r) σ H Q) :
    LF K mg (RA K mg) f σ H fun v H1 => (∃ p vs, v = .ref p ∧ H1 p = some (.lst vs)) ∧ LF K mg (RAs K mg) t σ H1 fun us H2 => ∃ m z j p vs ys xs h2 w h3, v = .ref p ∧ HR K mg m z H2 h2 ∧ m[j]? = some p ∧ h2[j]? = some (.lst ys) ∧ H2 p = some (.lst vs) ∧ RAs K mg m z H2 vs ys ∧ RAs K mg m z H2 us xs ∧ r j ys xs h2 = some (w, h3) ∧
      ∀ v' H' m', Aft m H2 m' H' → HR K mg m' z H' h3 → RA K mg m' z H' v' w → Q v' H' := by
  obtain ⟨m, z, a, h, x, h', hr, rs, e, q⟩ := h
  unfold xMt at e
  split at e
  · rename_i j h1 e1
    split at e
    · rename_i xs h2 e2
      split at e
      · rename_i zs ys ez ey
        refine ⟨m, z, a, h, _, h1, hr, rs, e1, fun v H1 m1 f1 hr1 ra1 => ?_⟩
        obtain ⟨p, hp, rfl⟩ := ra1
        obtain ⟨vs0, e0, _⟩ := hr1.at_ _ _ _ hp ez
        refine ⟨⟨p, vs0, rfl, e0⟩, m1, z, a, h1, xs, h2, hr1, rs.mono f1, e2, fun us H2 m2 f2 hr2 ra2 => ?_⟩
        obtain ⟨vs, e3, r3⟩ := hr2.at_ _ _ _ (f2.get hp) ey
        exact ⟨m2, z, j, p, vs, ys, xs, h2, x, h', rfl, hr2, f2.get hp, ey, e3, r3, ra2, e, fun v' H' m' f' hr' ra' => q v' H' m' ((f1.trans f2).trans f') hr' ra'⟩
      · cases e
    · cases e
  · cases e
theorem m_append : MtR X "list.append" (fun x us H Q => ∃ m z j p vs ys xs h w h', x = .ref p ∧ HR X.K X.mg m z H h ∧ m[j]? = some p ∧ h[j]? = some (.lst ys) ∧ H p = some (.lst vs) ∧ RAs X.K X.mg m z H vs ys ∧ RAs X.K X.mg m z H us xs ∧ appendR j ys xs h = some (w, h') ∧
      ∀ v' H' m', Aft m H m' H' → HR X.K X.mg m' z H' h' → RA X.K X.mg m' z H' v' w → Q v' H') := by
  intro pins s σ H x us v uv Q I rx rv hq
  obtain ⟨m, z, j, p, vs, ys, xs, h, w, h', rfl, hr, hp, hy, e1, r1, ra, e, q⟩ := hq
  unfold appendR at e
  split at e
  · split at e
    · rename_i y hl
      cases e
      cases ra with
      | cons r2 r3 =>
        cases r3
        rename_i u
        refine mt_append pins s σ H _ _ v uv Q I rx rv ⟨p, vs, u, rfl, rfl, e1, by rw [RAs.length r1]; exact hl, ?_⟩
        have fP : Aft m H m (upd H p (.lst (vs ++ [u]))) := .put hr hp (fun _ _ q => by rw [e1] at q; cases q) _
        exact q _ _ m fP (hr.put hp (fun _ _ q => by rw [e1] at q; cases q) ⟨_, upd_same, RAs.mono (RAs.append r1 (.cons r2 .nil)) fP⟩) .non
    · cases e
  · cases e
theorem de_append (ho : DE X o f) (ha : DA X (e :: es) t) (hbase : attributeBase o "append" X.env (eval o X.env) = eval o X.env := by rfl)
    (hfew : ((backTo cpos (starEach (e :: es) X.env)).all (fun x => !x.1) && (backToKw cpos (keywordEach [] X.env)).all (fun x => x.1.isSome) && decide ((e :: es).length + ([] : List Keyword).length + (if ([] : List Keyword).isEmpty then 0 else 1) < 30)) = true := by rfl)
    (hline : (apos.endLine == cpos.line) = true := by rfl) (hs : starEach (e :: es) X.env = (false, eval e X.env) :: starEach es X.env := by rfl) (hplain : (backTo cpos (starEach es X.env)).any (·.1) = false := by rfl) :
    DE X (.Call (.Attribute o "append" apos) (e :: es) [] cpos) (xMt f t appendR) := by
  intro pins s σ H Q I h
  refine pe_bm PySem.F.plainAttrs_list PySem.F.slot_list_append PySem.F.type_list_append m_append ho ha hbase hfew hline hs hplain pins s σ H Q I ?_
  obtain ⟨m, z, a, h, x, h1, hr, rs, e1, q⟩ := lf_mt h
  refine ⟨m, z, a, h, x, h1, hr, rs, e1, fun v H1 m1 f1 hr1 ra1 => ?_⟩
  obtain ⟨⟨p, vs, rfl, ep⟩, m2, z2, a2, h2, xs, h3, hr2, rs2, e2, q2⟩ := q v H1 m1 f1 hr1 ra1
  refine ⟨.inl ⟨rfl, vs, SqL.of ep⟩, m2, z2, a2, h2, xs, h3, hr2, rs2, e2, fun us H2 m3 f3 hr3 ra3 => ?_⟩
  exact q2 us H2 m3 f3 hr3 ra3
/-! ### o[i] op= e, o a tracked list -/
def getA : AV → AV → AH → Option (AV × AH) := fun x y h => match x, view h y with
  | .ref r, some (.int j) => (match h[r]? with
    | some (.lst xs) => if 0 ≤ j ∧ j < 2 ^ 62 then (match xs[j.toNat]? with | some w => some (w, h) | none => none) else none
    | _ => none)
  | _, _ => none
def sAugS (f g k : XE) (op : AV → AV → AH → Option (AV × AH)) : XS := fun a h => match f a h with
  | some (x, h1) => (match g a h1 with
    | some (y, h2) => (match getA x y h2 with
      | some (w, h3) => (match k a h3 with
        | some (u, h4) => (match op w u h4 with
          | some (r, h5) => (match setA x y r h5 with | some h6 => some (.nx, a, h6) | none => none)
          | none => none)
        | none => none)
      | none => none)
    | none => none)
  | none => none
/-! ### a table of defs at the top -/
def tabIx (tab : List (Str × Str)) (g : XE) : XE := fun a h => match g a h with
  | some (x, h1) => (match view h1 x with
    | some (.str s) => (match tab.lookup s with | some n => some (.fn n, h1) | none => none)
    | _ => none)
  | none => none
def tabIn (neg : Bool) (tab : List (Str × Str)) (g : XE) : XE := fun a h => match g a h with
  | some (x, h1) => (match view h1 x with
    | some (.str s) => some (.d (.bool (if neg then !(tab.lookup s).isSome else (tab.lookup s).isSome)), h1)
    | _ => none)
  | none => none
/-- the table stands at D: each word with its def -/
structure TabAt (X : Cx) (nm : Str) (tab : List (Str × Str)) : Prop where
  ex : ∃ (D : Addr) (kvs : List (Key × V)), X.mg nm = some (.ref D) ∧ KD X.prog X.w X.K D kvs ∧ (∀ s, valV kvs (Sum.inr s) = none ↔ tab.lookup s = none) ∧ ∀ s n, tab.lookup s = some n → ∃ f, valV kvs (Sum.inr s) = some (.ref f) ∧ X.mg n = some (.ref f)
end
end L2.Dm
set_option Elab.async false
set_option linter.all false
set_option maxRecDepth 100000
namespace L2.Dm
open PySem PySem.Spec PyProof.Rows
mutual
theorem Dq.toDP {K : PySem.W.Frag} {H : Hp} : ∀ {d : PyData} {v : V}, Dq K H v d → DP K H v d
  | .none, _, h => by cases h; exact .non
  | .bool _, _, h => by cases h; exact .bl _
  | .int _, _, h => by cases h; exact .int _
  | .str _, _, h => by cases h; exact .str _
  | .list ds, _, h => by
    cases h with
    | lst e r => exact .lst (SqL.of e) (DqAll.toDPs r)
  | .tuple ds, _, h => by
    cases h with
    | tup e r => exact .tup e (DqAll.toDPs r)
  | .dict _, _, h => by
    cases h with
    | dk0 e => exact .dk0 e
    | dk1 e => exact .dk1 e
theorem DqAll.toDPs {K : PySem.W.Frag} {H : Hp} : ∀ {ds : List PyData} {vs : List V}, DqAll K H vs ds → DPs K H vs ds
  | [], _, h => by cases h; exact .nil
  | d :: ds, _, h => by
    cases h with
    | cons a b => exact .cons (Dq.toDP a) (DqAll.toDPs b)
end
section
variable {X : Cx}
/-- written data -/
theorem de_lit {n : Nat} {e : Expr} {d : PyData} (h : litD n e = some d) : DE X e (xC (.d d)) := by
  intro pins s σ H Q I hq
  refine pe_lit h pins s σ H Q I ?_
  obtain ⟨m, z, a, h, y, h', hr, rs, e, q⟩ := hq
  cases e
  intro v H' sm dd
  refine q v H' m (.of sm) (hr.grow sm) ?_
  refine (Dq.toDP dd).same fun b o eb => ?_
  have e1 := Nw.sub b o eb
  have nb : H b = none := by
    cases hb : H b with
    | none => rfl
    | some u => unfold Nw at eb; rw [hb] at eb; cases eb
  exact hid_some.mpr ⟨(free_m hr nb).1, (free_m hr nb).2, e1⟩
theorem fn_of {K : PySem.W.Frag} {mg : Str → Option Value} {x : Str} {st : Stmt} {ps : List Str} (F : FD K mg x st ps) : ∃ f, mg x = some (.ref f) := let ⟨f, _, h, _⟩ := F; ⟨f, h⟩
theorem hu66 {A : Around} {k : Nat} (hr : Room k A) : A.units + 66 < cLine := by have := hr.un; omega
theorem hu64 {A : Around} {k : Nat} (hr : Room k A) : A.units + 64 < cLine := by have := hr.un; omega
end
inductive Tb (mg : Str → Option Value) : List (Str × Str) → List (Key × V) → Prop
  | nil : Tb mg [] []
  | cons {s n : Str} {f : Addr} {r : List (Str × Str)} {k : List (Key × V)} : mg n = some (.ref f) → Tb mg r k → Tb mg ((s, n) :: r) ((Sum.inr s, .ref f) :: k)
theorem Tb.no {mg : Str → Option Value} (x : Str) : ∀ {r : List (Str × Str)} {k : List (Key × V)}, Tb mg r k → (valV k (Sum.inr x) = none ↔ r.lookup x = none)
  | _, _, .nil => by simp [valV]
  | _, _, .cons (s := s) (n := n) (f := f) (r := r) (k := k) m h => by
    have ih := Tb.no x h
    by_cases e : x = s
    · subst e; simp [valV]
    · have e1 : valV ((Sum.inr s, V.ref f) :: k) (Sum.inr x) = valV k (Sum.inr x) := by
        unfold valV; rw [List.find?_cons_of_neg (by simpa using fun q => e q.symm)]
      rw [e1, ih, List.lookup_cons, show (x == s) = false by simpa using e]
theorem at3 {α : Type} (a b c d : α) (r : List α) : atI (a :: b :: c :: d :: r) 3 = some d := atI_nat (xs := a :: b :: c :: d :: r) (j := 3) rfl
theorem at4 {α : Type} (a b c d e : α) (r : List α) : atI (a :: b :: c :: d :: e :: r) 4 = some e := atI_nat (xs := a :: b :: c :: d :: e :: r) (j := 4) rfl
/-! ### the law itself -/
end L2.Dm
set_option Elab.async false
set_option linter.all false
set_option maxRecDepth 100000
namespace L2.Dm
open PySem PySem.Spec PyProof.Rows
/-! ### (t1, .., tn) = (e1, .., en): the parts may be things of the heap -/
def sPars (n : Nat) (t : XA) (g : XGs) : XS := fun a h => match t a h with
  | some (xs, h1) => if xs.length = n ∧ n ≤ 1000 then (match g xs a h1 with | some (a2, h2) => some (.nx, a2, h2) | none => none) else none
  | none => none
section
variable {X : Cx} {pos : Pos}
/-! three names at once -/
def sPar3 (i j k : Nat) (t : XA) : XS := fun a h => match t a h with
  | some ([x, y, z], h1) => some (.nx, ((a.set i (some x)).set j (some y)).set k (some z), h1)
  | _ => none
theorem ps_par3 {i j k : Nat} {x y z : Str} {a b c : Expr} {ta : TA} {px py pz pt : Pos} {kt k2 pt2} (hc : X.calm = true) (hN : X.N.Nodup) (hi : X.N[i]? = some x) (hj : X.N[j]? = some y) (hk : X.N[k]? = some z) (hij : i ≠ j) (hik : i ≠ k) (hjk : j ≠ k)
    (hx : X.env.scope.names.lookup x = some .local) (hy : X.env.scope.names.lookup y = some .local) (hz : X.env.scope.names.lookup z = some .local) (ha : PA X [a, b, c] ta)
    (hw : swappedStores [.Tuple [.Name x px, .Name y py, .Name z pz] kt pt] (.Tuple [a, b, c] k2 pt2) X.env = pure (some [x, y, z]))
    (hs : swapsWithSole [.Tuple [.Name x px, .Name y py, .Name z pz] kt pt] (.Tuple [a, b, c] k2 pt2) pos.line X.env = pure false := by rfl) :
    PS X (.Assign [.Tuple [.Name x px, .Name y py, .Name z pz] kt pt] (.Tuple [a, b, c] k2 pt2) pos) (fun D σ H => ta σ H fun vs H1 => ∃ u v w, vs = [u, v, w] ∧ D.nx (((σ.set i (some u)).set j (some v)).set k (some w)) H1) := by
  intro pins s σ H D I h
  rw [exec_Assign_arm]
  refine wpAny_bind (wpAny_standAt ?_)
  rw [hs]
  refine wpAny_bind (wpAny_pure ?_)
  rw [if_neg (by decide)]
  refine wpAny_bind (Tuple_ (thn (ha _ pins s σ H _ I h) fun us s1 ⟨vs, H1, I1, r1, q1⟩ => ?_))
  obtain ⟨v, w, u, e1, q1⟩ := q1
  subst e1
  obtain ⟨u1, u2, u3, rfl, rv, rw', ru⟩ : ∃ u1 u2 u3, us = [u1, u2, u3] ∧ RelV v u1 ∧ RelV w u2 ∧ RelV u u3 := by
    cases r1 with
    | cons p q =>
      cases q with
      | cons p' q' =>
        cases q' with
        | cons p2 q2 => cases q2; exact ⟨_, _, _, rfl, p, p', p2⟩
  refine wpAny_newObj_type ?_ (by show 3 ≤ sizeLine; decide)
  have I2 : Inv X pins σ H1 { s1 with heap := s1.heap.push { cls := .type "tuple", data := .seq [u1, u2, u3].toArray } } := I1.kept (t' := s1.toks) fun b o e => Heap.get?_push_of_some _ e
  rw [hw]
  refine wpAny_bind (wpAny_pure ?_)
  show wpAny (model X.prog X.w) X.A (do rule "assign.swapped-stores"; let items ← unpackItems (.ref s1.heap.objs.size) 3 none; assignInOrder [fun v => bindName X.env z v, fun v => bindName X.env y v, fun v => bindName X.env x v] items.reverse; pure Flow.next) _ _ _
  refine wpAny_bind (wpAny_rule (wpAny_bind (unpackItems_tuple (items := #[u1, u2, u3]) (I.ok.hd hc) (IsTup.new s1.heap _) fun h' hx' => ?_)))
  have I3 := I2.kept (h' := h') (t' := s1.toks) fun b o e => hx' b o (Nat.ne_of_lt (Heap.lt_size e)) e
  show wpAny _ _ (assignInOrder [fun v => bindName X.env z v, fun v => bindName X.env y v, fun v => bindName X.env x v] [u3, u2, u1] >>= fun _ => pure Flow.next) _ _ _
  refine wpAny_bind (assignInOrder_cons (wpAny_bindName (store_ok I3 hN hk (.inl hz) ru (fun s2 I4 => ?_) (.inr hz))))
  refine assignInOrder_cons (wpAny_bindName (store_ok I4 hN hj (.inl hy) rw' (fun s3 I5 => ?_) (.inr hy)))
  refine assignInOrder_cons (wpAny_bindName (store_ok I5 hN hi (.inl hx) rv (fun s4 I6 => assignInOrder_nil (wpAny_pure ?_)) (.inr hx)))
  have e3 : ((σ.set k (some u)).set j (some w)).set i (some v) = ((σ.set i (some v)).set j (some w)).set k (some u) := by
    rw [List.set_comm _ _ (Ne.symm hjk), List.set_comm _ _ (Ne.symm hik), List.set_comm _ _ (Ne.symm hij)]
  rw [e3] at I6
  exact ⟨_, H1, I6, q1⟩
theorem ds_par3 {i j k : Nat} {x y z : Str} {a b c : Expr} {t : XA} {px py pz pt : Pos} {kt k2 pt2} (hc : X.calm = true) (hN : X.N.Nodup) (hi : X.N[i]? = some x) (hj : X.N[j]? = some y) (hk : X.N[k]? = some z) (hij : i ≠ j) (hik : i ≠ k) (hjk : j ≠ k)
    (hx : X.env.scope.names.lookup x = some .local) (hy : X.env.scope.names.lookup y = some .local) (hz : X.env.scope.names.lookup z = some .local) (ha : DA X [a, b, c] t)
    (hw : swappedStores [.Tuple [.Name x px, .Name y py, .Name z pz] kt pt] (.Tuple [a, b, c] k2 pt2) X.env = pure (some [x, y, z]))
    (hs : swapsWithSole [.Tuple [.Name x px, .Name y py, .Name z pz] kt pt] (.Tuple [a, b, c] k2 pt2) pos.line X.env = pure false := by rfl) :
    DS X (.Assign [.Tuple [.Name x px, .Name y py, .Name z pz] kt pt] (.Tuple [a, b, c] k2 pt2) pos) (sPar3 i j k t) := by
  intro pins s σ H D I h
  refine ps_par3 hc hN hi hj hk hij hik hjk hx hy hz ha hw hs pins s σ H D I ?_
  obtain ⟨m, zz, a, h, fl, a', h', hr, rs, e, q⟩ := h
  unfold sPar3 at e
  split at e
  · rename_i x y z h1 e1
    cases e
    refine ⟨m, zz, a, h, _, _, hr, rs, e1, fun vs H1 m1 f1 hr1 ra1 => ?_⟩
    cases ra1 with
    | cons r1 r2 =>
      cases r2 with
      | cons r3 r4 =>
        cases r4 with
        | cons r5 r6 =>
          cases r6
          exact ⟨_, _, _, rfl, q _ H1 m1 f1 hr1 ((((rs.mono f1).set i r1).set j r3).set k r5)⟩
  · cases e
end
/-! ### a dict that is written out, keys texts -/
def putB (kvs : List (Key × AV)) (k : Key) (v : AV) : List (Key × AV) := if (kvs.any fun kv => decide (kv.1 = k)) = true then kvs.map (fun kv => if kv.1 = k then (kv.1, v) else kv) else kvs ++ [(k, v)]
def mergeA (kvs more : List (Key × AV)) : List (Key × AV) := more.foldl (fun acc kv => putB acc kv.1 kv.2) kvs
section
variable {K : PySem.W.Frag} {mg : Str → Option Value}
abbrev RKs (K : PySem.W.Frag) (mg : Str → Option Value) (m z : List Addr) (H : Hp) : List (Key × V) → List (Key × AV) → Prop := Paired fun (p : Key × V) (q : Key × AV) => p.1 = q.1 ∧ RA K mg m z H p.2 q.2
theorem RKs.mono {m m' z : List Addr} {H H' : Hp} {ws : List (Key × V)} {kvs : List (Key × AV)} (r : RKs K mg m z H ws kvs) (f : Aft m H m' H') : RKs K mg m' z H' ws kvs := Paired.mapP r fun _ _ y => ⟨y.1, y.2.mono f⟩
theorem RKs.length {m z : List Addr} {H : Hp} {ws : List (Key × V)} {kvs : List (Key × AV)} (r : RKs K mg m z H ws kvs) : ws.length = kvs.length := Paired.length r
theorem RKs.any {m z : List Addr} {H : Hp} {k : Key} : ∀ {ws : List (Key × V)} {kvs : List (Key × AV)}, RKs K mg m z H ws kvs → (ws.any fun kv => decide (kv.1 = k)) = (kvs.any fun kv => decide (kv.1 = k))
  | _, _, .nil => rfl
  | _, _, .cons a b => by simp only [List.any_cons, a.1, RKs.any b]
theorem RKs.repl {m z : List Addr} {H : Hp} {k : Key} {v : V} {x : AV} (rv : RA K mg m z H v x) : ∀ {ws : List (Key × V)} {kvs : List (Key × AV)}, RKs K mg m z H ws kvs → RKs K mg m z H (ws.map fun kv => if kv.1 = k then (kv.1, v) else kv) (kvs.map fun kv => if kv.1 = k then (kv.1, x) else kv)
  | _, _, .nil => .nil
  | p :: ws, q :: kvs, .cons a b => by
    simp only [List.map_cons]
    refine .cons ?_ (RKs.repl rv b)
    rw [a.1]
    split
    · exact ⟨rfl, rv⟩
    · exact a
theorem RKs.append {m z : List Addr} {H : Hp} : ∀ {ws vs : List (Key × V)} {kvs xs : List (Key × AV)}, RKs K mg m z H ws kvs → RKs K mg m z H vs xs → RKs K mg m z H (ws ++ vs) (kvs ++ xs)
  | _, _, _, _, .nil, q => q
  | _, _, _, _, .cons a b, q => .cons a (RKs.append b q)
theorem RKs.put {m z : List Addr} {H : Hp} {k : Key} {v : V} {x : AV} (rv : RA K mg m z H v x) {ws : List (Key × V)} {kvs : List (Key × AV)} (r : RKs K mg m z H ws kvs) : RKs K mg m z H (putK ws k v) (putB kvs k x) := by
  unfold putK putB
  rw [r.any]
  split
  · exact r.repl rv
  · exact r.append (.cons ⟨rfl, rv⟩ .nil)
theorem RKs.merge {m z : List Addr} {H : Hp} : ∀ {vs ws : List (Key × V)} {xs kvs : List (Key × AV)}, RKs K mg m z H vs xs → RKs K mg m z H ws kvs → RKs K mg m z H (mergeK ws vs) (mergeA kvs xs)
  | _, _, _, _, .nil, q => q
  | p :: vs, ws, x :: xs, kvs, .cons a b, q => by
    show RKs K mg m z H (mergeK (putK ws p.1 p.2) vs) (mergeA (putB kvs x.1 x.2) xs)
    rw [a.1]
    exact RKs.merge b (q.put a.2)
end
section
variable {X : Cx} {pos : Pos}
/-- what a display's values are -/
inductive DPp (X : Cx) : List (Option Expr) → List Expr → List (Str × XE) → Prop
  | nil : DPp X [] [] []
  | cons {k : Str} {v : Expr} {f : XE} {ks : List (Option Expr)} {vs : List Expr} {fs : List (Str × XE)} {j : Nat} {p : Pos} : DE X v f → DPp X ks vs fs → DPp X (some (.Constant (.str k) j p) :: ks) (v :: vs) ((k, f) :: fs)
/-! ### d.get(k, x) -/
end
end L2.Dm
set_option Elab.async false
set_option linter.all false
set_option maxRecDepth 100000
namespace HT
open PySem PySem.Spec PyProof.Rows L2
section
variable {prog : Program} {w : World} {A : Around} {E : Value → Shared → Prop} {s : Shared}
end
end HT
namespace L2.Dm
open PySem PySem.Spec PyProof.Rows
theorem DPs.reverse {K : PySem.W.Frag} {H : Hp} : ∀ {ds : List PyData} {vs : List V}, DPs K H vs ds → DPs K H vs.reverse ds.reverse
  | _, _, .nil => .nil
  | _, _, .cons a b => by
    rw [List.reverse_cons, List.reverse_cons]
    exact (DPs.reverse b).append (.cons a .nil)
section
variable {X : Cx} {pos p2 p3 p4 : Pos} {e : Expr} {f : XE} {j : Nat}
end
end L2.Dm
set_option Elab.async false
set_option linter.all false
set_option maxRecDepth 100000
namespace L2.Dm
open PySem PySem.Spec PyProof.Rows L2 HT
variable {X : Cx}
/-! ### is, is not of two truth values -/
end L2.Dm
set_option Elab.async false
set_option linter.all false
set_option maxRecDepth 100000
namespace HT
open PySem PySem.Spec PyProof.Rows L2
open Sem (wp)
open Builtin
end HT
namespace L2.Dm
open PySem PySem.Spec PyProof.Rows L2 HT
variable {X : Cx}
/-! ### a tuple so many times -/
end L2.Dm
set_option Elab.async false
set_option linter.all false
set_option maxRecDepth 100000
namespace L2.Dm
open PySem PySem.Spec PyProof.Rows L2 HT
variable {X : Cx}
/-! ### sorted(list of ints) -/
end L2.Dm
set_option Elab.async false
set_option linter.all false
set_option maxRecDepth 100000
namespace HT
open PySem PySem.Spec PyProof.Rows L2
open Sem (wp)
open Builtin
end HT
namespace L2.Dm
open PySem PySem.Spec PyProof.Rows L2 HT
variable {X : Cx}
/-! ### a list so many times -/
end L2.Dm
set_option Elab.async false
set_option linter.all false
set_option maxRecDepth 100000
namespace L2.Dm
open PySem PySem.Spec PyProof.Rows L2
/-! ### sorted(list of tuples of ints) -/
section
variable {X : Cx}
end
end L2.Dm
set_option Elab.async false
set_option linter.all false
set_option maxRecDepth 100000
namespace L2.Dm
open PySem PySem.Spec PyProof.Rows L2
/-! ### l.index(i): ints -/
section
variable {X : Cx} {pos apos cpos : Pos} {o e i : Expr} {es : List Expr} {f g k : XE} {t : XA}
end
end L2.Dm
set_option Elab.async false
set_option linter.all false
set_option maxRecDepth 100000
namespace L2.Dm
open PySem PySem.Spec PyProof.Rows
/-! ### a dict that is filled later: {}, d[k] = v, for x in d.values() -/
section
variable {X : Cx} {pos : Pos}
end
/-! what is hidden changes: a thing of the machine's heap -/
section
variable {K : PySem.W.Frag} {mg : Str → Option Value} {m z : List Addr} {H : Hp} {h : AH}
end
section
variable {X : Cx} {tg e : Expr} {pos apos cpos : Pos}
end
end L2.Dm
set_option Elab.async false
set_option linter.all false
set_option maxRecDepth 100000
namespace L2.Dm
open PySem PySem.Spec PyProof.Rows
/-! ### zip of three tuples -/
abbrev IsTri (h : Heap) (T : Addr) (a b c : Value) : Prop := h.get? T = some { cls := .type "tuple", data := .seq #[a, b, c] }
section
variable {prog : Program} {w : World} {A : Around} {E : Value → Shared → Prop} {s : Shared}
/-- the zip at z: its parts stand in a row -/
structure ZT (h : Heap) (n : Nat) (f0 : Value) (l1 l2 l3 : Nat) (i : Nat) : Prop where
  z : IsZip h (n + 5) (n + 3) (n + 4) f0
  I : IsTri h (n + 3) (.ref n) (.ref (n + 1)) (.ref (n + 2))
  O : ∃ u v x, IsTri h (n + 4) u v x
  j1 : ItA true h n l1 i
  j2 : ItA true h (n + 1) l2 i
  j3 : ItA true h (n + 2) l3 i
/-! making it -/
abbrev y1 (h : Heap) (l1 : Addr) : Heap := h.push (zP true l1)
abbrev y2 (h : Heap) (l1 l2 : Addr) : Heap := (y1 h l1).push (zP true l2)
abbrev y3 (h : Heap) (l1 l2 l3 : Addr) : Heap := (y2 h l1 l2).push (zP true l3)
abbrev y4 (h : Heap) (l1 l2 l3 : Addr) : Heap := (y3 h l1 l2 l3).push { cls := .type "tuple", data := .seq #[.ref h.objs.size, .ref (y1 h l1).objs.size, .ref (y2 h l1 l2).objs.size] }
abbrev y5 (h : Heap) (l1 l2 l3 : Addr) : Heap := (y4 h l1 l2 l3).push { cls := .type "tuple", data := .seq #[.none, .none, .none] }
abbrev y6 (h : Heap) (l1 l2 l3 : Addr) : Heap := (y5 h l1 l2 l3).push { cls := .type "zip", data := .fields #[.none, .bool false, .bool false, .ref (y3 h l1 l2 l3).objs.size, .ref (y4 h l1 l2 l3).objs.size] }
end
section
variable {prog : Program} {w : World} {A : Around} {E : Value → Shared → Prop} {s : Shared}
end
theorem ZT.keep {h h' : Heap} {n l1 l2 l3 i : Nat} {f0 : Value} (st : ZT h n f0 l1 l2 l3 i) (k : ∀ c ∈ [n + 5, n + 3, n + 4, n, n + 1, n + 2], ∀ o, h.get? c = some o → h'.get? c = some o) : ZT h' n f0 l1 l2 l3 i := by
  obtain ⟨hz, hI, ⟨u, v, r, hO⟩, j1, j2, j3⟩ := st
  exact ⟨k _ (by simp) _ hz, k _ (by simp) _ hI, ⟨u, v, r, k _ (by simp) _ hO⟩, j1.at fun o q => k _ (by simp) o q, j2.at fun o q => k _ (by simp) o q, j3.at fun o q => k _ (by simp) o q⟩
theorem ZT.lt {h : Heap} {n l1 l2 l3 i : Nat} {f0 : Value} (st : ZT h n f0 l1 l2 l3 i) {c : Nat} (hc : c ∈ [n + 5, n + 3, n + 4, n, n + 1, n + 2]) : c < h.objs.size := by
  have : n + 5 < h.objs.size := Heap.lt_size st.z
  simp only [List.mem_cons, List.not_mem_nil, or_false] at hc
  omega
/-! over data -/
section
variable {K : PySem.W.Frag} {mg : Str → Option Value} {m z : List Addr} {H : Hp}
end
section
variable {X : Cx} {e e2 e3 : Expr} {t : XA} {p pos tp : Pos} {elts : List Expr} {kk : Nat}
end
end L2.Dm
set_option Elab.async false
set_option linter.all false
set_option maxRecDepth 100000
namespace L2.Dm
open PySem PySem.Spec PyProof.Rows
/-! ### max of a tuple of ints -/
section
variable {prog : Program} {w : World} {A : Around} {E : Value → Shared → Prop} {s : Shared} {l : Addr}
end
def maxT : PyData → Option PyData
  | .tuple xs => (match intsOf xs with | some ns => (match ns.max? with | some m => some (.int m) | none => none) | none => none)
  | _ => none
section
variable {X : Cx}
def maxA (d : PyData) : Option PyData := match maxL d with | some r => some r | none => maxT d
end
end L2.Dm
set_option Elab.async false
set_option linter.all false
set_option maxRecDepth 100000
namespace L2.Dm
open PySem PySem.Spec PyProof.Rows
/-! ### list(x) that is changed later -/
section
variable {X : Cx}
theorem ras_dp {K : PySem.W.Frag} {mg : Str → Option Value} {m z : List Addr} {H : Hp} : ∀ {vs : List V} {ds : List PyData}, DPs K (hid m z H) vs ds → RAs K mg m z H vs (ds.map AV.d)
  | _, _, .nil => .nil
  | _, _, .cons a b => .cons a (ras_dp b)
/-! ### repr of data in which an empty dict lies, no list -/
end
section
variable {X : Cx} {pins : List (Addr × Obj)} {σ : St} {H : Hp} {s : Shared}
end
section
variable {X : Cx}
end
end L2.Dm
set_option Elab.async false
set_option linter.all false
set_option maxRecDepth 100000
namespace L2.Dm
open PySem PySem.Spec PyProof.Rows
/-! ### xs + ys that is changed later -/
def addM : AV → AV → AH → Option (AV × AH) := fun x y h => match view h x, view h y with
  | some (.list xs), some (.list ys) => if xs.length + ys.length ≤ sizeLine then some (.ref h.length, h ++ [.lst ((xs ++ ys).map AV.d)]) else none
  | _, _ => none
section
variable {X : Cx}
theorem o_addM : OpR X (binaryOp .Add) (r2 X.K X.mg addM) := by
  intro pins s σ H x y v u Q I rx ry hq
  obtain ⟨m, z, h, ax, ay, w, h', hr, ra, rb, e, q⟩ := hq
  unfold addM at e
  split at e
  · rename_i xs ys h1 h2
    split at e
    · rename_i hz
      cases e
      obtain ⟨p, vs, rfl, t1, d1⟩ := view_list hr ra h1
      obtain ⟨p2, ws, rfl, t2, d2⟩ := view_list hr rb h2
      cases rx; cases ry
      have l1 := d1.length
      have l2 := d2.length
      refine catL_all I t1 t2 (by omega) fun p hp => ?_
      have fA : Aft m H (m ++ [p]) (upd H p (.lst (vs ++ ws))) := .add hp _
      refine q (.ref p) _ (m ++ [p]) fA (hr.add hp ⟨vs ++ ws, upd_same, RAs.mono (ras_dp (d1.append d2)) fA⟩) ⟨p, ?_, rfl⟩
      rw [← hr.len, List.getElem?_append_right (Nat.le_refl _)]
      simp
    · cases e
  · cases e
end
end L2.Dm
set_option Elab.async false
set_option linter.all false
set_option maxRecDepth 100000
namespace L2.Dm
open PySem PySem.Spec PyProof.Rows L2
/-! ### t < u of tuples of ints and texts -/
def lt1 : Key → Key → Option Bool
  | .inl a, .inl b => some (decide (a < b))
  | .inr a, .inr b => some (decide (a.cps.toList < b.cps.toList))
  | _, _ => none
def ltK : List Key → List Key → Option Bool
  | [], [] => some false
  | [], _ :: _ => some true
  | _ :: _, [] => some false
  | x :: xs, y :: ys => if x = y then ltK xs ys else lt1 x y
def kData : Key → PyData
  | .inl i => .int i
  | .inr x => .str x
def keysD : List PyData → Option (List Key)
  | [] => some []
  | d :: r => match keyD d, keysD r with | some k, some ks => some (k :: ks) | _, _ => none
abbrev KA : List Value → List Key → Prop := Paired fun v k => keyIs k v = true
theorem ltK_step {x y : Value} {kx ky : Key} {ks ms : List Key} {r : Bool} (hx : keyIs kx x = true) (hy : keyIs ky y = true) (h : ltK (kx :: ks) (ky :: ms) = some r) :
    ((∀ A s, SeqAt.EqAt A s x y true) ∧ ltK ks ms = some r) ∨
    ((∀ A s, SeqAt.EqAt A s x y false) ∧ ∀ (prog : Program) (w : World) (A : Around) (E : Value → Shared → Prop) (Q : Value → Shared → Prop) (s : Shared), Q (.bool r) s → wpAny (model prog w) A (richCompare .Lt x y) Q E s) := by
  simp only [ltK] at h
  rcases keyIs_shape hx with ⟨i, t, rfl, rfl⟩ | ⟨i, t, rfl, rfl⟩ <;> rcases keyIs_shape hy with ⟨j, u, rfl, rfl⟩ | ⟨j, u, rfl, rfl⟩
  · by_cases e : i = j
    · subst e
      simp only [if_true] at h
      exact .inl ⟨fun A s => by have := SeqAt.EqAt.int_int (A := A) (s := s) i t i u; simpa using this, h⟩
    · rw [if_neg (by simpa using e)] at h
      simp only [lt1, Option.some.injEq] at h
      subst h
      exact .inr ⟨fun A s => by have := SeqAt.EqAt.int_int (A := A) (s := s) i t j u; rwa [show (i == j) = false by simpa using e] at this, fun prog w A E Q s q => HT.rcLt_int A s i t j u prog w E Q q⟩
  · simp [lt1] at h
  · simp [lt1] at h
  · by_cases e : i = j
    · subst e
      simp only [if_true] at h
      exact .inl ⟨fun A s => by have := SeqAt.EqAt.str_str (A := A) (s := s) i t i u; simpa using this, h⟩
    · rw [if_neg (by simpa using e)] at h
      simp only [lt1, Option.some.injEq] at h
      subst h
      exact .inr ⟨fun A s => by have := SeqAt.EqAt.str_str (A := A) (s := s) i t j u; rwa [show (i == j) = false by simpa using e] at this, fun prog w A E Q s q =>
        (PyProof.Rows.lt_str q : wpAny (model prog w) A (compareOp .Lt (.str i t) (.str j u)) Q E s)⟩
theorem ltK_nil {ks ms : List Key} {r : Bool} (h : ltK ks ms = some r) (e : ks = [] ∨ ms = []) : r = decide (ks.length < ms.length) := by
  cases ks with
  | nil => cases ms with
    | nil => cases h; rfl
    | cons y ms => cases h; simp
  | cons x ks => cases ms with
    | nil => cases h; simp
    | cons y ms => rcases e with e | e <;> cases e
section
open PySem.SeqAt
open PySem.AutoSeq1 (wpAny_loadPart')
open PySem.MeetsSeq PySem.MeetsSeq2 PySem.MeetsSeq3
theorem tuple_lt_keys (l b : Addr) (items items2 : Array Value) (n n2 : Nat) (dd dd2 : Option Addr) (sl sl2 : Array (Option Value)) (ns ms : List Key) (v : Bool) (hi : KA items.toList ns) (hj : KA items2.toList ms) (hv : ltK ns ms = some v) :
    Meets (Builtin.«tuple.__lt__» ⟨[.ref l, .ref b], []⟩)
      (fun _ R s => s.heap.get? l = some { cls := .type "tuple", dict := dd, data := .seq items n, slots := sl } ∧ s.heap.get? b = some { cls := .type "tuple", dict := dd2, data := .seq items2 n2, slots := sl2 } ∧
        R (.ok (.ret (.bool v))) s) :=
  .of_wp fun prog w A R s h => by
    obtain ⟨hp, g, d, tk, os⟩ := s; obtain ⟨hl, hb, h⟩ := h
    have f2 := AutoSeq1.sub_tuple_tuple
    have z1 : items.size = ns.length := by rw [← Paired.length hi]; simp
    have z2 : items2.size = ms.length := by rw [← Paired.length hj]; simp
    wp_walk using wpAny_loadPart' hl, wpAny_loadPart' hb, wpAny_forIn_list _ (fun rest b s' => b.1 = none ∧ s' = ⟨hp, g, d, tk, os⟩ ∧ ∃ (vs ws : List Value) (ns' ms' : List Key), rest = vs.zip ws ∧
      KA vs ns' ∧ KA ws ms' ∧ ns'.length + items2.size = ms'.length + items.size ∧ ltK ns' ms' = some v ∧ R (.ok (.ret (.bool v))) ⟨hp, g, d, tk, os⟩) _
    case turn =>
      rintro ⟨y, x⟩ rest b s' ⟨hb', rfl, vs, ws, ns', ms', hz, hvi, hwi, hlen, hk, hR⟩
      cases hvi with
      | nil => rw [List.zip_nil_left] at hz; cases hz
      | cons a hvi' =>
        cases hwi with
        | nil => rw [List.zip_nil_right] at hz; cases hz
        | cons c hwi' =>
          rw [List.zip_cons_cons] at hz
          injection hz with hyx hrest
          injection hyx with hy hx
          subst hy hx
          simp only [List.length_cons] at hlen
          rcases ltK_step a c hk with ⟨he, hk'⟩ | ⟨he, hri⟩
          · refine wpAny_bind (he A.in1 ⟨hp, g, d, tk, os⟩ prog w _ _ ?_)
            wp_walk
            exact ⟨rfl, rfl, _, _, _, _, hrest, hvi', hwi', by omega, hk', hR⟩
          · refine wpAny_bind (he A.in1 ⟨hp, g, d, tk, os⟩ prog w _ _ ?_)
            have hri := fun E Q => hri prog w A.in1 E Q ⟨hp, g, d, tk, os⟩
            wp_walk using hri
            exact ⟨_, rfl, by simpa using hR⟩
    case fin =>
      rintro ⟨b1, b2⟩ s' ⟨hb', rfl, vs, ws, ns', ms', hz, hvi, hwi, hlen, hk, hR⟩
      simp only at hb'
      subst hb'
      have hv : v = decide (items.size < items2.size) := by
        have hq : ns' = [] ∨ ms' = [] := by
          cases hvi with
          | nil => exact .inl rfl
          | cons a hv =>
            cases hwi with
            | nil => exact .inr rfl
            | cons c hw => rw [List.zip_cons_cons] at hz; cases hz
        rw [ltK_nil hk hq]
        congr 1
        exact propext ⟨fun _ => by omega, fun _ => by omega⟩
      rw [hv] at hR
      wp_walk
      exact ⟨_, rfl, by simpa [Builtin.Tuple.tupleCompareSizes] using hR⟩
    case h =>
      exact ⟨rfl, rfl, items.toList, items2.toList, ns, ms, rfl, hi, hj, by omega, hv, h⟩
end
section
variable {prog : Program} {w : World} {A : Around} {E : Value → Shared → Prop} {s : Shared}
theorem lt_tupKeys {l b : Addr} {items items2 : Array Value} {ns ms : List Key} {v : Bool} {Q : Value → Shared → Prop} (hl : IsTup s.heap l items) (hb : IsTup s.heap b items2) (hi : KA items.toList ns) (hj : KA items2.toList ms)
    (hv : ltK ns ms = some v) (hu : A.units < cLine) (h : Q (.bool v) s) : wpAny (model prog w) A (compareOp .Lt (.ref l) (.ref b)) Q E s := by
  obtain ⟨⟨cls, dd, data, sl⟩, ho, hc, n, hd⟩ := id hl
  obtain ⟨⟨cls2, dd2, data2, sl2⟩, ho2, hc2, n2, hd2⟩ := id hb
  simp only at hc hd hc2 hd2
  subst hc hd hc2 hd2
  exact richCompare_meets_room (op := .Lt) ⟨_, ho, rfl⟩ ⟨_, ho2, rfl⟩ PySem.F.slot_tuple_lt PySem.F.entry_tuple_lt (PySem.F.args_tuple_lt_2 _ _) (tuple_lt_keys l b items items2 n n2 dd dd2 sl sl2 ns ms v hi hj hv)
    ⟨ho, ho2, show Value.bool v ≠ Value.notImplemented ∧ Q (.bool v) s from ⟨(fun x => nomatch x), h⟩⟩ hu
end
/-- keys of data -/
theorem keyD_data {d : PyData} {k : Key} (e : keyD d = some k) : d = kData k := by
  cases d <;> simp [keyD] at e <;> subst e <;> rfl
theorem keysD_data : ∀ {ds : List PyData} {ks : List Key}, keysD ds = some ks → ds = ks.map kData
  | [], _, e => by cases e; rfl
  | d :: r, ks, e => by
    unfold keysD at e
    split at e
    · rename_i k ks' h1 h2
      cases e
      rw [keyD_data h1, keysD_data h2]; rfl
    · cases e
theorem dps_kV {K : PySem.W.Frag} {H : Hp} : ∀ {ks : List Key} {vs : List V}, DPs K H vs (ks.map kData) → vs = ks.map kV
  | [], _, .nil => rfl
  | .inl i :: ks, _, .cons a b => by cases a; rw [dps_kV b]; rfl
  | .inr i :: ks, _, .cons a b => by cases a; rw [dps_kV b]; rfl
theorem ka_of : ∀ {ks : List Key} {us : List Value}, Vals (ks.map kV) us → KA us ks
  | [], _, .nil => .nil
  | .inl i :: ks, _, .cons a b => .cons (by obtain ⟨t, rfl⟩ := a; exact keyIs_int i t) (ka_of b)
  | .inr i :: ks, _, .cons a b => .cons (by obtain ⟨t, rfl⟩ := a; exact keyIs_str i t) (ka_of b)
def ltT : PyData → PyData → Option PyData
  | .tuple xs, .tuple ys => match keysD xs, keysD ys with
    | some ks, some ms => (match ltK ks ms with | some b => some (.bool b) | none => none)
    | _, _ => none
  | a, b => ltD a b
theorem o_ltT {X : Cx} (hu : X.A.units < cLine) : OpR X (compareOp .Lt) (r2 X.K X.mg (op2 ltT)) := opr_of fun pins s σ H x y v u Q m z h ax ay a b d I rx ry hr ra rb h1 h2 h3 q => by
  unfold ltT at h3
  split at h3
  · split at h3
    · rename_i ks ms e1 e2
      split at h3
      · rename_i c hc
        cases h3
        cases keysD_data e1; cases keysD_data e2
        obtain ⟨p, vs, rfl, t1, d1⟩ := view_tuple ra h1
        obtain ⟨p2, ws, rfl, t2, d2⟩ := view_tuple rb h2
        cases rx; cases ry
        cases dps_kV d1; cases dps_kV d2
        obtain ⟨its, r1, p1, _⟩ := I.tuple t1
        obtain ⟨its2, r2, p2, _⟩ := I.tuple t2
        exact lt_tupKeys p1 p2 (by simpa using ka_of r1) (by simpa using ka_of r2) hc hu ⟨.bl c, H, I, rfl, q _ H (Same.refl _) (.bl _)⟩
      · cases h3
    · cases h3
  · unfold ltD at h3
    split at h3
    · cases h3
      cases view_int ra h1; cases view_int rb h2
      exact op_lt pins s σ H _ _ v u Q I rx ry ⟨_, _, rfl, rfl, q _ H (Same.refl _) (.bl _)⟩
    · cases h3
      cases view_str ra h1; cases view_str rb h2
      exact op_lt_str pins s σ H _ _ v u Q I rx ry ⟨_, _, rfl, rfl, q _ H (Same.refl _) (.bl _)⟩
    · cases h3
end L2.Dm
set_option Elab.async false
set_option linter.all false
set_option maxRecDepth 100000
namespace L2.Dm
open PySem PySem.Spec PyProof.Rows L2
/-! ### sorted(tuples of ints and texts) -/
/-! #### of a list -/
section
variable {X : Cx}
end
end L2.Dm
set_option Elab.async false
set_option linter.all false
set_option maxRecDepth 100000
namespace L2.Dm
open PySem PySem.Spec PyProof.Rows L2
/-! ### either of two -/
abbrev XC := List AV → AH → Option (AV × AH)
def orC (k1 k2 : XC) : XC := fun xs h => match k1 xs h with | some r => some r | none => k2 xs h
theorem cr_or {X : Cx} {f : Value} {k1 k2 : XC} (a : CallR X f (rc X.K X.mg k1)) (b : CallR X f (rc X.K X.mg k2)) : CallR X f (rc X.K X.mg (orC k1 k2)) := by
  intro pins s σ H vs us Q I r hq
  obtain ⟨m, z, h, xs, w, h', hr, ra, e, q⟩ := hq
  unfold orC at e
  split at e
  · rename_i r' h1
    cases e
    exact a pins s σ H vs us Q I r ⟨m, z, h, xs, w, h', hr, ra, h1, q⟩
  · exact b pins s σ H vs us Q I r ⟨m, z, h, xs, w, h', hr, ra, e, q⟩
/-! ### what a dict is walked as -/
section
variable {P : Program} {w : World} {d : Addr} {o : Obj} {es : Array DictEntry} {ep : Nat}
end
open PySem.Calls PySem.W in
section
variable {X : Cx}
end
end L2.Dm
set_option Elab.async false
set_option linter.all false
set_option maxRecDepth 100000
namespace L2.Dm
open PySem PySem.Spec PyProof.Rows L2
/-! ### a dict of tuple keys: {}, {(..): v}, d[a, b] = v, d[t] -/
def putT (kvs : List (List Key × AV)) (k : List Key) (v : AV) : List (List Key × AV) := if (kvs.any fun kv => decide (kv.1 = k)) = true then kvs.map (fun kv => if kv.1 = k then (kv.1, v) else kv) else kvs ++ [(k, v)]
section
variable {K : PySem.W.Frag} {mg : Str → Option Value} {m z : List Addr} {H : Hp} {h : AH}
abbrev RTs (K : PySem.W.Frag) (mg : Str → Option Value) (m z : List Addr) (H : Hp) : List (List Key × V) → List (List Key × AV) → Prop := Paired fun (p : List Key × V) (q : List Key × AV) => p.1 = q.1 ∧ RA K mg m z H p.2 q.2
theorem RTs.mono {m' : List Addr} {H' : Hp} {ws : List (List Key × V)} {kvs : List (List Key × AV)} (r : RTs K mg m z H ws kvs) (f : Aft m H m' H') : RTs K mg m' z H' ws kvs := Paired.mapP r fun _ _ y => ⟨y.1, y.2.mono f⟩
theorem RTs.length {ws : List (List Key × V)} {kvs : List (List Key × AV)} (r : RTs K mg m z H ws kvs) : ws.length = kvs.length := Paired.length r
theorem RTs.any {k : List Key} : ∀ {ws : List (List Key × V)} {kvs : List (List Key × AV)}, RTs K mg m z H ws kvs → (ws.any fun kv => decide (kv.1 = k)) = (kvs.any fun kv => decide (kv.1 = k))
  | _, _, .nil => rfl
  | _, _, .cons a b => by simp only [List.any_cons, a.1, RTs.any b]
theorem RTs.repl {k : List Key} {v : V} {x : AV} (rv : RA K mg m z H v x) : ∀ {ws : List (List Key × V)} {kvs : List (List Key × AV)}, RTs K mg m z H ws kvs → RTs K mg m z H (ws.map fun kv => if kv.1 = k then (kv.1, v) else kv) (kvs.map fun kv => if kv.1 = k then (kv.1, x) else kv)
  | _, _, .nil => .nil
  | _, _, .cons a b => by
    rw [List.map_cons, List.map_cons]
    refine .cons ?_ (RTs.repl rv b)
    rw [a.1]
    split
    · exact ⟨rfl, rv⟩
    · exact a
theorem RTs.append : ∀ {ws vs : List (List Key × V)} {kvs xs : List (List Key × AV)}, RTs K mg m z H ws kvs → RTs K mg m z H vs xs → RTs K mg m z H (ws ++ vs) (kvs ++ xs)
  | _, _, _, _, .nil, q => q
  | _, _, _, _, .cons a b, q => .cons a (RTs.append b q)
theorem RTs.put {k : List Key} {v : V} {x : AV} (rv : RA K mg m z H v x) {ws : List (List Key × V)} {kvs : List (List Key × AV)} (r : RTs K mg m z H ws kvs) : RTs K mg m z H (putK ws k v) (putT kvs k x) := by
  unfold putK putT
  rw [r.any]
  split
  · exact r.repl rv
  · exact r.append (.cons ⟨rfl, rv⟩ .nil)
def valT : List (List Key × AV) → List Key → Option AV
  | [], _ => none
  | kv :: r, k => if kv.1 = k then some kv.2 else valT r k
theorem RTs.val {k : List Key} {x : AV} : ∀ {ws : List (List Key × V)} {kvs : List (List Key × AV)}, RTs K mg m z H ws kvs → valT kvs k = some x → ∃ v, valV ws k = some v ∧ RA K mg m z H v x
  | _, _, .nil, e => by cases e
  | p :: ws, q :: kvs, .cons a b, e => by
    unfold valT at e
    split at e
    · rename_i hk
      cases e
      refine ⟨p.2, ?_, a.2⟩
      simp [valV, a.1, hk]
    · rename_i hk
      obtain ⟨v, h1, h2⟩ := RTs.val b e
      refine ⟨v, ?_, h2⟩
      unfold valV at h1 ⊢
      rw [List.find?_cons_of_neg (by simp [a.1, hk])]
      exact h1
end
section
variable {X : Cx} {pos tp : Pos}
end
end L2.Dm
set_option Elab.async false
set_option linter.all false
set_option maxRecDepth 100000
namespace L2.Dm
open PySem PySem.Spec PyProof.Rows L2
/-! ### several new things at once -/
section
variable {X : Cx} {pins : List (Addr × Obj)} {σ : St} {H H' : Hp} {s : Shared} {h' : Heap}
end
/-! ### d.items(), list(d.items()) -/
section
variable {X : Cx} {e : Expr} {te : TE} {apos cpos pos p : Pos}
/-! ### d != {} -/
end
end L2.Dm
set_option Elab.async false
set_option linter.all false
set_option maxRecDepth 100000
namespace L2.Dm
open PySem PySem.Spec PyProof.Rows L2
/-! ### {(a, b): v} -/
section
variable {X : Cx} {pos kp : Pos} {es : List Expr} {kk : Nat} {key v : Expr}
end
end L2.Dm
set_option Elab.async false
set_option linter.all false
set_option maxRecDepth 100000
namespace L2.Dm
open PySem PySem.Spec PyProof.Rows L2
/-! ### f(k = v, ..): all by their names, in any order -/
def permL {α : Type} (ix : List Nat) (ws : List α) : List α := ix.filterMap fun i => ws[i]?
def ga {α : Type} (n : Nat) (ix : List Nat) (us ws : List α) : List α := if us.length = 0 ∧ ws.length = n then permL ix ws else []
section
variable {P : Program} {w : World} {K : PySem.W.Frag} {mg : Str → Option Value} {base : Heap} {x : Str} {st : Stmt} {N ps ks : List Str} {ix : List Nat} {k n nN : Nat} {g : XS}
end
section
variable {X : Cx} {k n : Nat} {x : Str} {ps ks : List Str} {ix : List Nat} {p pos : Pos} {tk : XA} {F : XF}
end
/-! ### sorted, of all that is known -/
end L2.Dm
namespace L2.Dm
open L2
theorem hu0 {A : PySem.Around} {k : Nat} (hr : Room k A) : A.units < PySem.cLine := by have := hr.un; omega
end L2.Dm
set_option Elab.async false
set_option linter.all false
set_option maxRecDepth 100000
namespace L2.Dm
open PySem PySem.Spec PyProof.Rows L2
/-! ### l.pop(i) -/
section
variable {X : Cx} {pos apos cpos : Pos} {o e i : Expr} {es : List Expr} {f g k : XE} {t : XA}
end
end L2.Dm
namespace L2.Dm
open PySem
theorem ltT_i (a b : Int) : ltT (.int a) (.int b) = some (.bool (decide (a < b))) := rfl
theorem ltT_s (a b : Str) : ltT (.str a) (.str b) = some (.bool (decide (a.cps.toList < b.cps.toList))) := rfl
end L2.Dm
set_option Elab.async false
set_option linter.all false
set_option maxRecDepth 100000
namespace L2.Dm
open PySem PySem.Spec PyProof.Rows L2
/-! ### tables of sets: places rise -/
def Ri (xs : Array Nat) : Prop := xs.toList.Pairwise (· < ·)
theorem Ri.get {xs : Array Nat} (r : Ri xs) {i j : Nat} (hi : i < xs.size) (hj : j < xs.size) (h : i < j) : xs[i] < xs[j] := by
  have := List.pairwise_iff_getElem.mp r i j (by simpa using hi) (by simpa using hj) h
  simpa using this
theorem below_go {xs : Array Nat} (r : Ri xs) (j : Nat) : ∀ (fuel lo hi : Nat), lo ≤ hi → hi ≤ xs.size → hi - lo ≤ fuel → (∀ i (h : i < xs.size), i < lo → xs[i] < j) → (∀ i (h : i < xs.size), hi ≤ i → j ≤ xs[i]) →
    let p := SetTable.below.go xs j fuel lo hi
    p ≤ xs.size ∧ (∀ i (h : i < xs.size), i < p → xs[i] < j) ∧ ∀ i (h : i < xs.size), p ≤ i → j ≤ xs[i]
  | 0, lo, hi, h1, h2, h3, ha, hb => by
    have : lo = hi := by omega
    subst this
    unfold SetTable.below.go
    exact ⟨h2, ha, hb⟩
  | fuel + 1, lo, hi, h1, h2, h3, ha, hb => by
    unfold SetTable.below.go
    by_cases c : lo < hi
    · simp only [c, if_true]
      have hm : (lo + hi) / 2 < xs.size := by omega
      have ed : xs.getD ((lo + hi) / 2) j = xs[(lo + hi) / 2] := by simp [Array.getD, hm]
      rw [ed]
      by_cases q : xs[(lo + hi) / 2] < j
      · rw [if_pos q]
        refine below_go r j fuel _ _ (by omega) h2 (by omega) (fun i h hi' => ?_) hb
        by_cases e : i = (lo + hi) / 2
        · subst e; exact q
        · exact Nat.lt_trans (r.get h hm (by omega)) q
      · rw [if_neg q]
        refine below_go r j fuel _ _ (by omega) (by omega) (by omega) ha (fun i h hi' => ?_)
        by_cases e : i = (lo + hi) / 2
        · subst e; omega
        · have := r.get hm h (by omega)
          omega
    · simp only [c, if_false]
      have : lo = hi := by omega
      subst this
      exact ⟨h2, ha, hb⟩
theorem below_at {xs : Array Nat} (r : Ri xs) (j : Nat) : SetTable.below xs j ≤ xs.size ∧ (∀ i (h : i < xs.size), i < SetTable.below xs j → xs[i] < j) ∧ ∀ i (h : i < xs.size), SetTable.below xs j ≤ i → j ≤ xs[i] :=
  below_go r j xs.size 0 xs.size (Nat.zero_le _) (Nat.le_refl _) (by omega) (fun _ _ h => by omega) (fun _ _ h => by omega)
theorem Ri.ins {xs : Array Nat} (r : Ri xs) {j : Nat} (hn : ¬ xs[SetTable.below xs j]? = some j) : Ri (SetTable.insertAt xs (SetTable.below xs j) j) := by
  obtain ⟨h1, h2, h3⟩ := below_at r j
  generalize SetTable.below xs j = p at h1 h2 h3 hn
  have e : (SetTable.insertAt xs p j).toList = xs.toList.take p ++ j :: xs.toList.drop p := by
    unfold SetTable.insertAt
    simp [Array.toList_append, Array.toList_extract, List.extract_eq_take_drop]
    exact List.take_of_length_le (by simp)
  unfold Ri
  rw [e, List.pairwise_append]
  refine ⟨r.sublist (List.take_sublist ..), ?_, ?_⟩
  · rw [List.pairwise_cons]
    refine ⟨fun x hx => ?_, r.sublist (List.drop_sublist ..)⟩
    obtain ⟨k, hk, rfl⟩ := List.getElem_of_mem hx
    rw [List.length_drop] at hk
    simp only [List.getElem_drop, Array.getElem_toList]
    have lk : p + k < xs.size := by simp at hk; omega
    have h4 := h3 (p + k) lk (by omega)
    by_cases q : k = 0
    · subst q
      have lp : p < xs.size := by omega
      have : xs[p] ≠ j := fun z => hn (by rw [Array.getElem?_eq_getElem lp, z])
      have h5 := h3 p lp (Nat.le_refl _)
      simp only [Nat.add_zero]
      omega
    · have lp : p < xs.size := by omega
      have := r.get lp lk (by omega)
      have h5 := h3 p lp (Nat.le_refl _)
      omega
  · intro x hx y hy
    have hxj : x < j := by
      obtain ⟨k, hk, rfl⟩ := List.getElem_of_mem hx
      rw [List.length_take] at hk
      simp only [List.getElem_take, Array.getElem_toList]
      exact h2 k (by simp at hk; omega) (by omega)
    rcases List.mem_cons.mp hy with rfl | hy
    · exact hxj
    · obtain ⟨k, hk, rfl⟩ := List.getElem_of_mem hy
      rw [List.length_drop] at hk
      simp only [List.getElem_drop, Array.getElem_toList]
      exact Nat.lt_of_lt_of_le hxj (h3 (p + k) (by simp at hk; omega) (by omega))
structure TG (b : Bool) (t : SetTable) : Prop where
  led : t.led = b
  pl : t.plain = true → Ri t.place ∧ t.dummies = #[]
theorem TG.new (b : Bool) : TG b (.fresh 0 0 b) := ⟨rfl, fun _ => ⟨by simp [Ri, SetTable.fresh], rfl⟩⟩
end L2.Dm
set_option Elab.async false
set_option linter.all false
set_option maxRecDepth 100000
namespace L2.Dm
open PySem PySem.Spec PyProof.Rows L2
/-! ### a set, by its members in some order -/
section
variable {P : Program} {w : World} {K : Type} [DecidableEq K] (knd : PySem.KeyKind P w K)
/-- the set at a has just the members ks (unlike ones), in some order; b: its maker is led -/
structure SG (b : Bool) (h : Heap) (a : Addr) (ks : List K) : Prop where
  ex : ∃ (o : Obj) (es : Array (Int × Value)) (ep : Nat) (t : SetTable) (l : List K), h.get? a = some o ∧ o.ExactSet ∧ o.data = .set es ep t ∧ ElemsOf knd es.toList ∧ Paired (fun (e : Int × Value) k => knd.is k e.2 = true) es.toList l ∧ l.Perm ks ∧ es.size < scanBound ∧ t.fits es.size = true ∧ TG b t
  nd : ks.Nodup
end
section
variable {P : Program} {w : World} {K : Type} [DecidableEq K] {knd : PySem.KeyKind P w K} {A : Around} {E : Value → Shared → Prop} {s : Shared} {b : Bool} {a : Addr} {ks : List K} {k : K} {x : Value}
theorem SG.at {h h' : Heap} (g : SG knd b h a ks) (e : ∀ o, h.get? a = some o → h'.get? a = some o) : SG knd b h' a ks := by
  obtain ⟨⟨o, es, ep, t, l, h1, r⟩, nd⟩ := g
  exact ⟨⟨o, es, ep, t, l, e o h1, r⟩, nd⟩
end
end L2.Dm
set_option Elab.async false
set_option linter.all false
set_option maxRecDepth 100000
namespace L2.Dm
open PySem PySem.Spec PyProof.Rows L2
/-! ### set(a list) -/
section
variable {P : Program} {w : World} {K : Type} [DecidableEq K] {knd : PySem.KeyKind P w K} {A : Around} {E : Value → Shared → Prop} {s : Shared} {b : Bool} {R : Result → Shared → Prop} {I : Addr} {fp wr : List Addr} {G : Array GenState → Array GenState → Prop} {n : Nat} {Pr : Nat → Value → Prop} {St : Nat → Shared → Prop}
open PySem.F in
set_option maxHeartbeats 2000000 in
open PySem.F in
end
end L2.Dm
set_option Elab.async false
set_option linter.all false
set_option maxRecDepth 100000
namespace L2.Dm
open PySem PySem.Spec PyProof.Rows L2
/-! ### a walk over a set -/
section
variable {P : Program} {w : World} {A : Around} {E : Value → Shared → Prop}
def SetIt (h : Heap) (it a : Addr) (f : Value) (i n ep : Nat) : Prop := ∃ o, h.get? it = some o ∧ o.cls = .type "set_iterator" ∧ o.data = .fields #[f, .int i 0, .ref a, .int n 0, .int ep 0]
theorem SetIt.at {h h' : Heap} {it a : Addr} {f : Value} {i n ep : Nat} (g : SetIt h it a f i n ep) (k : ∀ o, h.get? it = some o → h'.get? it = some o) : SetIt h' it a f i n ep := by
  obtain ⟨o, h1, r⟩ := g; exact ⟨o, k o h1, r⟩
theorem SetIt.ty {s : Shared} {it a : Addr} {f : Value} {i n ep : Nat} (g : SetIt s.heap it a f i n ep) : s.TypeIs (.ref it) "set_iterator" := by
  obtain ⟨o, h1, h2, _⟩ := g; exact ⟨o, h1, h2⟩
variable {s : Shared} {it a : Addr} {o : Obj} {es : Array (Int × Value)} {ep i n : Nat} {t : SetTable} {x : Value} {Q : Option Value → Shared → Prop}
end
end L2.Dm
set_option Elab.async false
set_option linter.all false
set_option maxRecDepth 100000
namespace L2.Dm
open PySem PySem.Spec PyProof.Rows L2
section
variable {P : Program} {w : World} {A : Around} {E : Value → Shared → Prop} {s : Shared} {it a T : Addr} {o oT : Obj} {es : Array (Int × Value)} {ep i n p k : Nat} {t : SetTable} {x : Value} {hs : Int} {ps : Array Value} {Q : Option Value → Shared → Prop}
end
end L2.Dm
set_option Elab.async false
set_option linter.all false
set_option maxRecDepth 100000
namespace L2.Dm
open PySem PySem.Spec PyProof.Rows L2
section
variable {P : Program} {w : World} {A : Around} {E : Value → Shared → Prop} {s : Shared} {it a T : Addr} {o oT : Obj} {es : Array (Int × Value)} {ep i n p k slot : Nat} {t : SetTable} {ps : Array Value}
end
end L2.Dm
set_option Elab.async false
set_option linter.all false
set_option maxRecDepth 100000
namespace L2.Dm
open PySem PySem.Spec PyProof.Rows L2
section
variable {P : Program} {w : World} {K : Type} [DecidableEq K] {knd : PySem.KeyKind P w K} {A : Around} {E : Value → Shared → Prop} {s : Shared} {a : Addr} {ks : List K}
end
end L2.Dm
set_option Elab.async false
set_option linter.all false
set_option maxRecDepth 100000
namespace L2.Dm
open PySem PySem.Spec PyProof.Rows L2
section
variable {P : Program} {w : World} {K : Type} [DecidableEq K] {knd : PySem.KeyKind P w K} {A : Around} {E : Value → Shared → Prop} {s : Shared} {a : Addr} {ks : List K}
theorem SG.ty {b : Bool} (g : SG knd b s.heap a ks) : s.TypeIs (.ref a) "set" := by
  obtain ⟨⟨o, es, ep, t, l0, ho, hex, _⟩, _⟩ := g
  exact ⟨o, ho, hex.1⟩
theorem SG.lt {b : Bool} (g : SG knd b s.heap a ks) : a < s.heap.objs.size := by
  obtain ⟨⟨o, es, ep, t, l0, ho, _⟩, _⟩ := g
  exact Heap.lt_size ho
open PySem.Calls PySem.W in
end
end L2.Dm
set_option Elab.async false
set_option linter.all false
set_option maxRecDepth 100000
namespace L2.Dm
open PySem PySem.Spec PyProof.Rows L2
/-! ### sets as things of a heap -/
section
variable {X : Cx}
variable {e : Expr} {p p2 pos pos2 : Pos} {f : XE}
end
end L2.Dm
set_option Elab.async false
set_option linter.all false
set_option maxRecDepth 100000
namespace L2.Dm
open PySem PySem.Spec PyProof.Rows L2
/-! ### a body that is not looked at (a def that calls itself, at the last depth) -/
end L2.Dm
set_option Elab.async false
set_option linter.all false
set_option maxRecDepth 100000
namespace L2.Dm
open PySem PySem.Spec PyProof.Rows L2
/-! ### sorted(set(texts)) -/
section
variable {X : Cx}
variable {e : Expr} {p p2 pos pos2 : Pos} {f : XE}
end
/-! ### all by their names, one of them behind the star -/
section
variable {P : Program} {w : World} {K : PySem.W.Frag} {mg : Str → Option Value} {base : Heap} {x : Str} {st : Stmt} {N ps ks k0 : List Str} {dvs : List V} {ix : List Nat} {k n nN : Nat} {g : XS}
end
end L2.Dm
set_option Elab.async false
set_option linter.all false
set_option maxRecDepth 100000
namespace L2.Dm
open PySem PySem.Spec PyProof.Rows L2
/-! ### list(zip(a, b)) -/
section
variable {prog : Program} {w : World} {A : Around} {E : Value → Shared → Prop} {s : Shared}
abbrev ZF (h : Heap) (z TI TO a : Addr) (f : Bool) : Prop := h.get? z = some { cls := .type "zip", data := .fields #[rawInt a, .bool f, .bool false, .ref TI, .ref TO] }
def ZSt (h : Heap) (z TI TO i1 i2 l1 l2 : Addr) (b1 b2 : Bool) (S : Addr) (i : Nat) : Prop :=
  IsPair h TI (.ref i1) (.ref i2) ∧ ItA b1 h i1 l1 i ∧ ItA b2 h i2 l2 i ∧ ((IsZip h z TI TO .none ∧ ∃ u v, IsPair h TO u v) ∨ ∃ a f oa, ZF h z TI TO a f ∧ h.get? a = some oa ∧ a ≠ z ∧ a ≠ TO ∧ a ≠ i1 ∧ a ≠ i2 ∧ a ≠ S)
theorem ZSt.ty {z TI TO i1 i2 l1 l2 S : Addr} {b1 b2 : Bool} {i : Nat} (x : ZSt s.heap z TI TO i1 i2 l1 l2 b1 b2 S i) : s.TypeIs (.ref z) "zip" := by
  obtain ⟨_, _, _, ⟨e, _⟩ | ⟨_, _, _, e, _⟩⟩ := x
  · exact ⟨_, e, rfl⟩
  · exact ⟨_, e, rfl⟩
theorem ZSt.keep {h h' : Heap} {z TI TO i1 i2 l1 l2 S : Addr} {b1 b2 : Bool} {i : Nat} (x : ZSt h z TI TO i1 i2 l1 l2 b1 b2 S i) (hk : ∀ b o, b ≠ S → h.get? b = some o → h'.get? b = some o) (nz : z ≠ S) (nTI : TI ≠ S) (nTO : TO ≠ S) (n1 : i1 ≠ S) (n2 : i2 ≠ S) : ZSt h' z TI TO i1 i2 l1 l2 b1 b2 S i := by
  obtain ⟨p, j1, j2, c⟩ := x
  refine ⟨hk _ _ nTI p, j1.at fun o e => hk _ _ n1 e, j2.at fun o e => hk _ _ n2 e, ?_⟩
  rcases c with ⟨e, u, v, q⟩ | ⟨a, f, oa, e, ha, c1, c2, c3, c4, c5⟩
  · exact .inl ⟨hk _ _ nz e, u, v, hk _ _ nTO q⟩
  · exact .inr ⟨a, f, oa, hk _ _ nz e, hk _ _ c5 ha, c1, c2, c3, c4, c5⟩
theorem SqA.keep {k : Bool} {h h' : Heap} {l : Addr} {its : Array Value} (x : SqA k h l its) (q : ∀ o, h.get? l = some o → h'.get? l = some o) : SqA k h' l its := by
  cases k
  · obtain ⟨o, a, b⟩ := (show h.IsList l its from x)
    exact (show h'.IsList l its from ⟨o, q o a, b⟩)
  · obtain ⟨o, a, b⟩ := (show h.IsTuple l its from x)
    exact (show h'.IsTuple l its from ⟨o, q o a, b⟩)
structure ZG (xs ys : Array Value) (lo : Addr) (h : Heap) (as : List Addr) : Prop where
  rise : as.Pairwise (· < ·)
  above : ∀ a ∈ as, lo < a
  pairs : ∀ (j : Nat) (a : Addr), as[j]? = some a → ∃ x y, xs[j]? = some x ∧ ys[j]? = some y ∧ IsPair h a x y
theorem ZG.there {xs ys : Array Value} {lo : Addr} {h : Heap} {as : List Addr} (g : ZG xs ys lo h as) {a : Addr} (ha : a ∈ as) : a < h.objs.size := by
  obtain ⟨j, hj⟩ := List.mem_iff_getElem?.mp ha
  obtain ⟨_, _, _, _, e⟩ := g.pairs j a hj
  exact Heap.lt_size e
end
section
variable {X : Cx} {e e2 : Expr} {t : XA} {p p2 pos pos2 : Pos}
theorem SqE.fits {pins : List (Addr × Obj)} {σ : St} {H : Hp} {s : Shared} {b : Bool} {a : Addr} {xs : List V} (I : Inv X pins σ H s) (h : SqE b X.K H a xs) : xs.length ≤ sizeLine := by
  cases b
  · obtain ⟨_, _, _, q⟩ := I.list h; exact q
  · obtain ⟨_, _, _, q⟩ := I.tuple h; exact q
end
def xListZip (t : XA) : XE := fun a h => match t a h with
  | some ([x, y], h1) => (match srcB x h1, srcB y h1 with | some (ds, c), some (es, c') => if c h1 = true ∧ c' h1 = true then some (.d (.list (zipD ds es)), h1) else none | _, _ => none)
  | _ => none
section
variable {X : Cx} {e e2 : Expr} {t : XA} {p p2 pos pos2 : Pos}
end
end L2.Dm
set_option Elab.async false
set_option linter.all false
set_option maxRecDepth 100000
namespace L2.Dm
open PySem PySem.Spec PyProof.Rows L2
/-! ### a def under another name of the top -/
section
variable {P : Program} {w : World} {K : PySem.W.Frag} {mg : Str → Option Value} {base : Heap} {x y : Str} {st : Stmt} {N ps : List Str} {k n nN : Nat} {g : XS}
end
end L2.Dm
set_option Elab.async false
set_option linter.all false
set_option maxRecDepth 100000
namespace L2.Dm
open PySem PySem.Spec PyProof.Rows L2
/-! ### repr is one-to-one -/
def cp (s : Str) : List Nat := s.cps.toList
def tl : List PyData → List Nat
  | [] => []
  | x :: xs => 44 :: 32 :: (cp x.shown ++ tl xs)
end L2.Dm
set_option Elab.async false
set_option linter.all false
set_option maxRecDepth 100000
namespace L2.Dm
open PySem PySem.Spec PyProof.Rows L2 PySem.Sem
section
open PySem.W PyProof.Rows PySem.SeqAt
variable {A : Around} {s : Shared}
end
end L2.Dm
set_option Elab.async false
set_option linter.all false
set_option maxRecDepth 100000
namespace L2.Dm
open PySem PySem.Spec PyProof.Rows L2
/-! ### a dict equals no int and no text -/
def eqB2 (a b : PyData) : Option PyData := match eqB a b with
  | some r => some r
  | none => (match a, b with | .dict _, .int _ => some (.bool false) | .dict _, .str _ => some (.bool false) | _, _ => none)
section
variable {X : Cx}
end
end L2.Dm
set_option Elab.async false
set_option linter.all false
set_option maxRecDepth 100000
namespace L2.Dm
open PySem PySem.Spec PyProof.Rows L2
/-! ### sorted of a dict of whole numbers -/
section
variable {P : Program} {w : World}
end
section
variable {X : Cx}
end
/-! ### a dict that is written out, keys whole numbers or texts -/
section
variable {K : PySem.W.Frag} {mg : Str → Option Value}
end
section
variable {X : Cx} {pos : Pos}
/-- what a display's values are -/
inductive DPk (X : Cx) : List (Option Expr) → List Expr → List (Key × XE) → Prop
  | nil : DPk X [] [] []
  | str {k : Str} {v : Expr} {f : XE} {ks : List (Option Expr)} {vs : List Expr} {fs : List (Key × XE)} {j : Nat} {p : Pos} : DE X v f → DPk X ks vs fs → DPk X (some (.Constant (.str k) j p) :: ks) (v :: vs) ((.inr k, f) :: fs)
  | int {k : Int} {v : Expr} {f : XE} {ks : List (Option Expr)} {vs : List Expr} {fs : List (Key × XE)} {j : Nat} {p : Pos} : DE X v f → DPk X ks vs fs → DPk X (some (.Constant (.int k) j p) :: ks) (v :: vs) ((.inl k, f) :: fs)
end
/-! ### d[t] = v, t a tuple that stands in a name -/
section
variable {X : Cx} {pos : Pos}
end
end L2.Dm
set_option Elab.async false
set_option linter.all false
set_option maxRecDepth 100000
namespace L2.Dm
open PySem PySem.Spec PyProof.Rows L2
/-! ### exceptions: how one lies behind a call -/
theorem obj_there {P : Program} {w : World} {H : Hp} {h : Heap} {a : Addr} {o : HO} (x : ObjOk P w H h a o) : ∃ ob, h.get? a = some ob := by
  cases o with
  | lst xs => obtain ⟨_, _, _, _, e⟩ := x; exact ⟨_, e⟩
  | tup xs => obtain ⟨_, _, _, o, e, _⟩ := x; exact ⟨_, e⟩
  | dK kvs => obtain ⟨_, _, _, _, o, _, _, e, _⟩ := x; exact ⟨_, e⟩
  | dT kvs => obtain ⟨_, _, _, _, o, _, _, e, _⟩ := x; exact ⟨_, e⟩
  | set S n => obtain ⟨o, _, _, _, e, _⟩ := x; exact ⟨_, e⟩
  | ins C dx fs => obtain ⟨_, _, _, e, _⟩ := x; exact ⟨_, e⟩
  | own y => obtain ⟨_, e⟩ := x; exact ⟨_, e⟩
  | xd fs => obtain ⟨_, ⟨_, _, _, e, _⟩, _⟩ := x; exact ⟨_, e⟩
  | rng lo hi => obtain ⟨_, _, _, e⟩ := x; exact ⟨_, e⟩
  | frz ob u => obtain ⟨e, _⟩ := x; exact ⟨_, e⟩
  | tbl ps => exact ⟨_, x⟩
  | met f y => exact ⟨_, x⟩
  | ext φ => obtain ⟨_, ⟨_, e⟩, _⟩ := x; exact ⟨_, e⟩
/-- from the state (s, H) on; B: all that stayed as it was -/
structure Fly0 (P : Program) (w : World) (outer : List Env) (H : Hp) (s : Shared) (H' : Hp) (B : Heap) (s' : Shared) : Prop where
  os : s'.os = s.os
  bare : AllBare s'.gens
  un : Un (frs outer) [] H H' s.heap s'.heap
  hok : HOk P w H' s'.heap
  k : B.StaysIn s'.heap
  ff : s'.heap.FunFrames B outer
  cov : ∀ b, ((∃ o, s.heap.get? b = some o) ∨ ∃ u, H' b = some u) → b ∈ frs outer ∨ ∃ o, B.get? b = some o
  frn : ∀ b ∈ frs outer, H' b = none
/-- behind a call: the exception at e, of the class at C -/
structure Fly (P : Program) (w : World) (outer : List Env) (H : Hp) (s : Shared) (H' : Hp) (B : Heap) (e C : Addr) (s' : Shared) : Prop extends Fly0 P w outer H s H' B s' where
  fl : ∃ a0, Heap.FlyingW B outer e (.ref C) a0 s'.heap
abbrev CXW (P : Program) (w : World) : CXT := fun outer H s E e s' => ∃ a C H' B, e = .ref a ∧ Fly P w outer H s H' B a C s' ∧ E (.ref C) none H'
section
variable {P : Program} {w : World} {outer : List Env} {H H' : Hp} {s s' : Shared} {B h2 : Heap} {e C : Addr}
/-- the heap goes on: what stayed stays -/
theorem Fly0.on (F : Fly0 P w outer H s H' B s') (k : B.StaysIn h2) (up : s'.heap.UpToSlots h2) : Un (frs outer) [] H H' s.heap h2 ∧ HOk P w H' h2 := by
  have f1 := F.k
  have f3 := F.ff
  have exact_ : ∀ b o, b ∉ frs outer → ((∃ o, s.heap.get? b = some o) ∨ ∃ u, H' b = some u) → s'.heap.get? b = some o → h2.get? b = some o := fun b o hb hc q => by
    rcases F.cov b hc with z | ⟨o', z⟩
    · exact absurd z hb
    · have := f1 b o' z
      rw [q] at this; cases this
      exact k b _ z
  refine ⟨⟨fun b o q n hb hx => ?_, fun b o q n hb hx => ?_, F.un.free, fun b o q hx => ?_, F.un.tups, F.un.frzs, F.un.tbls⟩, fun a o q => ?_⟩
  · exact exact_ b o hb (.inl ⟨o, q⟩) (F.un.keep b o q n hb hx)
  · obtain ⟨sl, q1⟩ := F.un.slot b o q n hb hx
    obtain ⟨_, o2, q2, q3⟩ := f3.mem hb
    rw [q1] at q2; cases q2
    obtain ⟨sl2, q4⟩ := up b _ q1 q3
    exact ⟨sl2, q4⟩
  · obtain ⟨o', q1⟩ := F.un.there b o q hx
    by_cases hb : b ∈ frs outer
    · obtain ⟨_, o2, q2, q3⟩ := f3.mem hb
      obtain ⟨sl2, q4⟩ := up b _ q2 q3
      exact ⟨_, q4⟩
    · exact ⟨o', exact_ b o' hb (.inl ⟨o, q⟩) q1⟩
  · refine (F.hok a o q).stay (fun b u hb hg => ?_) (fun _ z => z) fun _ _ z => z
    have tr : ∃ u, H' b = some u := by
      rcases hb with rfl | hb
      · exact ⟨_, q⟩
      · exact ⟨_, hb⟩
    refine exact_ b u (fun z => ?_) (.inr tr) hg
    obtain ⟨u', hu⟩ := tr
    rw [F.frn b z] at hu; cases hu
theorem Fly.enone (F : Fly P w outer H s H' B e C s') : s.heap.get? e = none ∧ H' e = none := by
  obtain ⟨a0, f1, f2, f3, f4⟩ := F.fl
  obtain ⟨oe, vs, T, oT, ts, he, hc, hd, _⟩ := f4
  have no : e ∉ frs outer := fun z => by
    obtain ⟨_, o, q1, q2⟩ := f3.mem z
    rw [he] at q1; cases q1
    exact q2 vs hd
  constructor
  · cases q : s.heap.get? e with
    | none => rfl
    | some o =>
      rcases F.cov e (.inl ⟨o, q⟩) with z | ⟨o', z⟩
      · exact absurd z no
      · rw [f2] at z; cases z
  · cases q : H' e with
    | none => rfl
    | some o =>
      rcases F.cov e (.inr ⟨o, q⟩) with z | ⟨o', z⟩
      · exact absurd z no
      · rw [f2] at z; cases z
end
section
variable {X : Cx} {pins : List (Addr × Obj)} {σ : St} {H1 : Hp} {sA : Shared} {B h2 : Heap} {e C : Addr} {a0 : Value}
/-- behind the leaving of X's frame -/
theorem fly_leave (I : Inv X pins σ H1 sA) (hex : X.ex = []) (hst : X.stack = X.env :: X.outer)
    (cov : ∀ b, ((∃ o, X.s_0.heap.get? b = some o) ∨ ∃ u, H1 b = some u) → b ∈ frs X.stack ∨ ∃ o, B.get? b = some o)
    (k1 : B.StaysIn sA.heap) (k2 : B.StaysIn h2) (up : sA.heap.UpToSlots h2) (fl : Heap.FlyingW B X.outer e (.ref C) a0 h2) :
    Fly X.prog X.w X.outer X.H_0 X.s_0 H1 B e C { sA with heap := h2 } := by
  have nl : ∀ b o, X.s_0.heap.get? b = some o → b ≠ X.env.locals := fun b o q z => by
    have h1 := Heap.lt_size q
    have h3 := I.ok.above
    rw [z] at h1
    exact absurd (Nat.lt_of_lt_of_le h1 h3) (Nat.lt_irrefl _)
  have noex : ∀ b, b ∉ X.ex := fun b z => by rw [hex] at z; cases z
  have fsS : ∀ b ∈ X.fs, b ∈ frs X.stack := fun b hb => by
    have hb' : b ∈ frs X.outer := hb
    rw [hst]
    unfold frs at hb' ⊢
    rw [List.filterMap_cons]
    cases X.env.frame with
    | none => exact hb'
    | some L => exact List.mem_cons_of_mem _ hb'
  have frn : ∀ b ∈ X.fs, H1 b = none := fun b hb => I.stkFree b (fsS b hb)
  have cov2 : ∀ b, ((∃ o, X.s_0.heap.get? b = some o) ∨ ∃ u, H1 b = some u) → b ∈ X.fs ∨ ∃ o, B.get? b = some o := fun b hc => by
    rcases cov b hc with z | z
    · rcases List.mem_cons.mp (I.stkSub b z) with q | q
      · rcases hc with ⟨o, hc⟩ | ⟨u, hc⟩
        · exact absurd q (nl b o hc)
        · rw [q, I.free] at hc; cases hc
      · exact .inl q
    · exact .inr z
  have exact_ : ∀ b o, b ∉ X.fs → ((∃ o, X.s_0.heap.get? b = some o) ∨ ∃ u, H1 b = some u) → sA.heap.get? b = some o → h2.get? b = some o := fun b o hb hc q => by
    rcases cov2 b hc with z | ⟨o', z⟩
    · exact absurd z hb
    · have := k1 b o' z
      rw [q] at this; cases this
      exact k2 b _ z
  have fun_ : ∀ b ∈ X.fs, ∃ o, sA.heap.get? b = some o ∧ ∀ vs, o.data ≠ .fields vs := fun b hb => (I.funs.mem hb).2
  refine ⟨⟨I.os, I.bare, ⟨fun b o q n hb hx => ?_, fun b o q n hb hx => ?_, fun b o q n hx => I.base.free b o q n (noex b), fun b o q hx => ?_, I.base.tups, I.base.frzs, I.base.tbls⟩, fun a o q => ?_, k2, fl.2.2.1, cov2, frn⟩, ⟨a0, fl⟩⟩
  · exact exact_ b o hb (.inl ⟨o, q⟩) (I.base.keep b o q n hb (noex b))
  · obtain ⟨sl, q1⟩ := I.base.slot b o q n hb (noex b)
    obtain ⟨o2, q2, q3⟩ := fun_ b hb
    rw [q1] at q2; cases q2
    obtain ⟨sl2, q4⟩ := up b _ q1 q3
    exact ⟨sl2, q4⟩
  · obtain ⟨o', q1⟩ := I.base.there b o q (noex b)
    by_cases hb : b ∈ X.fs
    · obtain ⟨o2, q2, q3⟩ := fun_ b hb
      obtain ⟨sl2, q4⟩ := up b _ q2 q3
      exact ⟨_, q4⟩
    · exact ⟨o', exact_ b o' hb (.inl ⟨o, q⟩) q1⟩
  · refine (I.hok a o q).stay (fun b u hb hg => ?_) (fun _ z => z) fun _ _ z => z
    have tr : ∃ u, H1 b = some u := by
      rcases hb with rfl | hb
      · exact ⟨_, q⟩
      · exact ⟨_, hb⟩
    refine exact_ b u (fun z => ?_) (.inr tr) hg
    obtain ⟨u', hu⟩ := tr
    rw [frn b z] at hu; cases hu
end
section
variable {X : Cx} {pins : List (Addr × Obj)} {σ : St} {H1 : Hp} {s1 : Shared} {h1 : Heap} {e : Addr} {cls : Value} {args : List Value}
theorem hide_frames (I : Inv X pins σ H1 s1) : s1.heap.FunFrames (PySem.W.hideAll s1.heap (frs X.stack)) X.stack := by
  have all : ∀ (l : List Env), (∀ b ∈ frs l, b ∈ frs X.stack) → s1.heap.FunFrames X.base l → s1.heap.FunFrames (PySem.W.hideAll s1.heap (frs X.stack)) l := by
    intro l
    induction l with
    | nil => intro _ _; trivial
    | cons env r ih =>
      intro hs hl
      obtain ⟨hk, ⟨L, o, hf, hn, ho, hd⟩, hr⟩ := hl
      have hL : L ∈ frs X.stack := hs L (by unfold frs; rw [List.filterMap_cons, hf]; exact List.mem_cons_self)
      exact ⟨hk, ⟨L, o, hf, PySem.W.hideAll_none _ hL, ho, hd⟩, ih (fun b hb => hs b (by unfold frs at hb ⊢; rw [List.filterMap_cons, hf]; exact List.mem_cons_of_mem _ hb)) hr⟩
  exact all X.stack (fun _ h => h) I.stack
/-- just made -/
theorem fly0_made (I : Inv X pins σ H1 s1) (hx : Heap.MadeExcOf s1.heap h1 e cls args) : Fly0 X.prog X.w X.stack H1 s1 H1 (PySem.W.hideAll s1.heap (frs X.stack)) { s1 with heap := h1 } := by
  have ff := hide_frames I
  refine ⟨rfl, I.bare, Un.kept hx.keeps, I.hok.kept hx.keeps, fun b o q => hx.keeps _ _ (PySem.W.of_hideAll _ q), ff.of_keeps fun b o hb _ => ⟨o, hx.keeps b o hb, rfl⟩, fun b hc => ?_, I.stkFree⟩
  by_cases hb : b ∈ frs X.stack
  · exact .inl hb
  · have ex : ∃ o, s1.heap.get? b = some o := by
      rcases hc with hc | ⟨u, hc⟩
      · exact hc
      · exact obj_there (I.hok b u hc)
    obtain ⟨o, ho⟩ := ex
    exact .inr ⟨o, PySem.W.hideAll_get _ ho hb⟩
end
/-- what X makes of an exception: W C H1 tells which are wanted -/
structure Leaves (X : Cx) (W : Addr → Hp → Prop) : Prop where
  made : ∀ (pins : List (Addr × Obj)) (σ : St) (H1 : Hp) (s1 : Shared) (e C : Addr) (h1 : Heap) (args : List Value), Inv X pins σ H1 s1 → W C H1 → Heap.MadeExcOf s1.heap h1 e (.ref C) args → X.xe (.ref e) { s1 with heap := h1 }
  pass : ∀ (pins : List (Addr × Obj)) (σ : St) (H0 : Hp) (s0 : Shared) (H1 : Hp) (B : Heap) (e C : Addr) (s' : Shared), Inv X pins σ H0 s0 → Fly X.prog X.w X.stack H0 s0 H1 B e C s' → W C H1 → X.xe (.ref e) s'
section
variable {P : Program} {w : World} {K : PySem.W.Frag} {mg : Str → Option Value} {base : Heap} {N : List Str} {q : Str} {sc : Scope} {f : Addr} {cd : Value} {A : Around} {outer : List Env} {s : Shared} {H : Hp} {E : XK}
/-- a def that exceptions may leave -/
theorem leaves_def : Leaves (cxOf (CXW P w) P w K mg base N q sc f cd A outer s H E) (fun C H1 => E (.ref C) none H1) := by
  constructor
  · intro pins σ H1 s1 e C h1 args I hE hx
    have I2 : Inv (cxOf (CXW P w) P w K mg base N q sc f cd A outer s H E) pins σ H1 { s1 with heap := h1 } := I.kept (t' := s1.toks) hx.keeps
    have fr := I.stack
    refine wpAny_leaves_madeW (base := PySem.W.hideAll s1.heap (frs (cxOf (CXW P w) P w K mg base N q sc f cd A outer s H E).stack)) (h := s1.heap) I.ok.frames rfl (fun b o q => PySem.W.of_hideAll _ q) (PySem.W.funFrames_hide fr fun env he a ha => List.mem_filterMap.mpr ⟨env, he, ha⟩) hx fun h' t fl tup tn up => ?_
    refine ⟨e, C, H1, _, rfl, fly_leave I2 rfl rfl (fun b hc => ?_) (fun b o q => hx.keeps _ _ (PySem.W.of_hideAll _ q)) fl.1 up fl, hE⟩
    by_cases hb : b ∈ frs (cxOf (CXW P w) P w K mg base N q sc f cd A outer s H E).stack
    · exact .inl hb
    · have ex : ∃ o, s1.heap.get? b = some o := by
        rcases hc with ⟨o, hc⟩ | ⟨u, hc⟩
        · exact I.base.there b o hc (fun z => by cases z)
        · exact obj_there (I.hok b u hc)
      obtain ⟨o, ho⟩ := ex
      exact .inr ⟨o, PySem.W.hideAll_get _ ho hb⟩
  · intro pins σ H0 s0 H1 B e C s' I F hE
    have I' := I.call' F.os F.un F.hok F.bare (fun b z => by cases z)
    obtain ⟨a0, fl⟩ := F.fl
    refine wpAny_leaves_onW I'.ok.frames rfl fl fun h2 fl2 up => ?_
    refine ⟨e, C, H1, B, rfl, fly_leave I' rfl rfl (fun b hc => ?_) fl.1 fl2.1 up fl2, hE⟩
    refine F.cov b ?_
    rcases hc with ⟨o, hc⟩ | hc
    · exact .inl (I.base.there b o hc (fun z => by cases z))
    · exact .inr hc
end
end L2.Dm
set_option Elab.async false
set_option linter.all false
set_option maxRecDepth 100000
namespace L2.Dm
open PySem PySem.Spec PyProof.Rows L2
/-! ### what raises, in the machine of data -/
abbrev XR := AE → AH → Option (Str × AH)
abbrev XFR := List AV → AH → Option (Str × AH)
def LR (X : Cx) (r : XR) (σ : St) (H : Hp) : Prop := ∃ m z a h c h', HR X.K X.mg m z H h ∧ RS X.K X.mg m z H σ a ∧ r a h = some (c, h') ∧
  ∃ W, Leaves X W ∧ ∀ C H1 m1, X.mg c = some (.ref C) → Aft m H m1 H1 → HR X.K X.mg m1 z H1 h' → W C H1
def RE (X : Cx) (e : Expr) (r : XR) : Prop := PE X e (fun σ H _ => LR X r σ H)
def RSt (X : Cx) (st : Stmt) (r : XR) : Prop := PS X st (fun _ σ H => LR X r σ H)
def RSs (X : Cx) (sts : List Stmt) (r : XR) : Prop := PSs X sts (fun _ σ H => LR X r σ H)
def eW (W : Addr → Hp → Prop) : XK := fun cls _ H1 => ∃ C, cls = .ref C ∧ W C H1
theorem Leaves.passes {X : Cx} {W : Addr → Hp → Prop} (L : Leaves X W) : Passes (CXW X.prog X.w) X (eW W) := fun pins σ H s e s' I h => by
  obtain ⟨a, C, H', B, rfl, F, C', hC, hW⟩ := h
  cases hC
  exact L.pass pins σ H s H' B a C s' I F hW
def rcR (K : PySem.W.Frag) (mg : Str → Option Value) (R : XFR) (vs : List V) (H : Hp) (E : XK) : Prop := ∃ m z h xs c h', HR K mg m z H h ∧ RAs K mg m z H vs xs ∧ R xs h = some (c, h') ∧
  ∀ C H1 m1, mg c = some (.ref C) → Aft m H m1 H1 → HR K mg m1 z H1 h' → E (.ref C) none H1
def spR (K : PySem.W.Frag) (mg : Str → Option Value) (n : Nat) (R : XFR) : Sp := fun vs H _ E => vs.length = n ∧ rcR K mg R vs H E
def fnR (nN : Nat) (r : XR) : XFR := fun xs h => r (xs.map some ++ List.replicate (nN - xs.length) none) h
def FPR (P : Program) (w : World) (K : PySem.W.Frag) (mg : Str → Option Value) (base : Heap) (k : Nat) (x : Str) (ps : List Str) (sp : Sp) : Prop :=
  ∃ f fd, mg x = some (.ref f) ∧ PySem.W.keepIn K (.ref f) = true ∧ Binds K fd ps [] ∧ FnOk P w K mg base (CXW P w) k f fd ps sp
section
variable {P : Program} {w : World} {K : PySem.W.Frag} {mg : Str → Option Value} {base : Heap} {x : Str} {st : Stmt} {N ps ks : List Str} {dvs : List V} {k n nN : Nat} {r : XR}
theorem body_R {f : Addr} {cdv : Value} {A : Around} {outer : List Env} {s : Shared} {H : Hp} {E : XK} {q : Str} {sc : Scope} {vs : List V} {Q : VK} (hN : N.length = nN) (h : spR K mg n (fnR nN r) vs H Q E) : LR (cxOf (CXW P w) P w K mg base N q sc f cdv A outer s H E) r (start N vs) H := by
  obtain ⟨_, m, z, h, xs, c, h', hr, ra, e, q⟩ := h
  subst hN
  exact ⟨m, z, _, h, c, h', hr, RS.start ra, e, _, leaves_def, q⟩
theorem fd_okR (F : FD K mg x st ps) (S : FnScope N ps (defScope st)) (hn : ps.length = n) (hN : N.length = nN)
    (hb : ∀ (f : Addr) (cdv : Value) (A : Around) (outer : List Env) (s : Shared) (H : Hp) (E : XK), Room k (A.deeper (envOfC x (defScope st) s.heap.objs.size f cdv)) → RSs (cxOf (CXW P w) P w K mg base N x (defScope st) f cdv A outer s H E) (defBody st) r) :
    FPR P w K mg base (k + 1) x ps (spR K mg n (fnR nN r)) := by
  obtain ⟨f, fd, a, b, c⟩ := F
  refine ⟨f, fd, a, b.kp, c, ?_⟩
  obtain ⟨oc, od, kV, doc, pm, an, cdv, ct, osl, rfl, lk, hcd⟩ := b.ex
  exact L2.fn_of lk hcd S (fun vs H Q E h => by rw [hn]; exact h.1) fun A outer s H vs Q E hr h => ⟨_, hb f cdv A outer s H E hr, body_R hN h⟩
end
section
variable {X : Cx} {k n : Nat} {x : Str} {ps ks : List Str} {p pos : Pos} {e : Expr} {es : List Expr} {t tk : XA} {R : XFR} {r r' : XR} {st : Stmt} {rest : List Stmt} {f : XS}
/-- f(..) raises -/
def rFn (n : Nat) (t : XA) (R : XFR) : XR := fun a h => match t a h with
  | some (xs, h1) => if xs.length = n then R xs h1 else none
  | none => none
theorem re_call (G : FPR X.prog X.w X.K X.mg X.base k x ps (spR X.K X.mg n R)) (hr : Room k X.A) (hg : Gl X x) (ha : DA X (e :: es) t)
    (hdb : (x == ("__debug__" : Str)) = false := by decide) (he : starEach (e :: es) X.env = (false, eval e X.env) :: starEach es X.env := by rfl) (hpl : (backTo pos (starEach es X.env)).any (·.1) = false := by rfl) :
    RE X (.Call (.Name x p) (e :: es) [] pos) (rFn n t R) := by
  intro pins s σ H Q I h
  obtain ⟨m, z, a, h, c, h', hr', rs, e1, W, hL, hW⟩ := h
  obtain ⟨g, fd, g1, g2, g3, d⟩ := G
  refine pe_call d hr hg g1 g2 g3 .nil hL.passes ha hdb he hpl pins s σ H Q I ?_
  unfold rFn at e1
  split at e1
  · rename_i xs h1 e2
    split at e1
    · rename_i hl
      refine ⟨m, z, a, h, xs, h1, hr', rs, e2, fun vs H1 m1 f1 hr1 ra1 => ?_⟩
      show spR X.K X.mg n R (vs ++ []) H1 Q _
      rw [List.append_nil]
      exact ⟨by rw [RAs.length ra1]; exact hl, m1, z, h1, xs, c, h', hr1, ra1, e1, fun C H2 m2 hC f2 hr2 => ⟨C, rfl, hW C H2 m2 hC (f1.trans f2) hr2⟩⟩
    · cases e1
  · cases e1
/-! ### statements that raise -/
def rNo : XR := fun _ _ => none
theorem rs_no : RSt X st rNo := fun pins s σ H D I h => by
  obtain ⟨m, z, a, h, c, h', hr', rs, e1, _⟩ := h
  cases e1
theorem rss_no {sts : List Stmt} : RSs X sts rNo := fun pins s σ H D I h => by
  obtain ⟨m, z, a, h, c, h', hr', rs, e1, _⟩ := h
  cases e1
theorem rs_expr (he : RE X e r) (hs : swapsWith e none pos.line X.env = pure false := by rfl) : RSt X (.Expr e pos) r := fun pins s σ H D I h => ps_expr he hs pins s σ H D I h
def rIf (t : XT) (r1 r2 : XR) : XR := fun a h => match t a h with
  | some (true, h1) => r1 a h1
  | some (false, h1) => r2 a h1
  | none => none
theorem rs_if {c : Expr} {a b : List Stmt} {t : XT} (hc : DT X c t) (ha : RSs X a r) (hb : RSs X b r') : RSt X (.If c a b pos) (rIf t r r') := by
  intro pins s σ H D I h
  refine ps_if hc ha hb pins s σ H D I ?_
  obtain ⟨m, z, a, h, c, h', hr', rs, e, W, hL, hW⟩ := h
  unfold rIf at e
  split at e
  · rename_i h1 e1
    refine ⟨m, z, a, h, true, h1, hr', rs, e1, fun v H1 m1 f1 hr1 ra1 => ?_⟩
    subst ra1
    rw [if_pos rfl]
    exact ⟨m1, z, a, h1, c, h', hr1, rs.mono f1, e, W, hL, fun C H2 m2 hC f2 hr2 => hW C H2 m2 hC (f1.trans f2) hr2⟩
  · rename_i h1 e1
    refine ⟨m, z, a, h, false, h1, hr', rs, e1, fun v H1 m1 f1 hr1 ra1 => ?_⟩
    subst ra1
    rw [if_neg Bool.false_ne_true]
    exact ⟨m1, z, a, h1, c, h', hr1, rs.mono f1, e, W, hL, fun C H2 m2 hC f2 hr2 => hW C H2 m2 hC (f1.trans f2) hr2⟩
  · cases e
def rSeq (r : XR) (f : XS) (r' : XR) : XR := fun a h => match r a h with
  | some x => some x
  | none => (match f a h with | some (.nx, a1, h1) => r' a1 h1 | _ => none)
theorem rss_cons (h1 : DS X st f) (h2 : RSt X st r) (h3 : RSs X rest r') : RSs X (st :: rest) (rSeq r f r') := by
  intro pins s σ H D I h
  obtain ⟨m, z, a, h, c, h', hr', rs, e, W, hL, hW⟩ := h
  unfold rSeq at e
  split at e
  · rename_i x e1
    cases e
    exact pss_cons h2 (pss_never (sts := rest)) pins s σ H D I ⟨m, z, a, h, c, h', hr', rs, e1, W, hL, hW⟩
  · split at e
    · rename_i a1 h1' e1
      refine pss_cons h1 h3 pins s σ H D I ?_
      exact ⟨m, z, a, h, .nx, a1, h1', hr', rs, e1, fun σ' H' m' f' hr1 rs1 => ⟨m', z, a1, h1', c, h', hr1, rs1, e, W, hL, fun C H2 m2 hC f2 hr2 => hW C H2 m2 hC (f'.trans f2) hr2⟩⟩
    · cases e
theorem rss_one (h2 : RSt X st r) : RSs X [st] r := fun pins s σ H D I h => pss_one h2 pins s σ H D I h
/-- the last one that may raise -/
theorem rss_last (h2 : RSt X st r) : RSs X (st :: rest) r := fun pins s σ H D I h => pss_cons h2 (pss_never (sts := rest)) pins s σ H D I h
end
/-! ### raise C(text) -/
def mroVE : List Value := [.type "ValueError", .type "Exception", .type "BaseException", .type "object"]
/-- an own class of exceptions: its name, its address -/
def ExcK (K : PySem.W.Frag) (mg : Str → Option Value) (x : Str) (C : Addr) : Prop := mg x = some (.ref C) ∧ PySem.W.excIn K C mroVE "ValueError.__new__" = true
theorem exc_own {K : PySem.W.Frag} {mg : Str → Option Value} {x : Str} {C : Addr} {h : Heap} (k : ExcK K mg x C) (Y : K.In h) : OwnCls x C mroVE "ValueError.__new__" mg h := by
  obtain ⟨hm, q⟩ := k
  refine ⟨hm, ?_⟩
  unfold PySem.W.excIn at q
  split at q
  · rename_i dd cd sl ho
    split at q
    · rename_i C' bm k0 k1 k2 k3 n k5 hm hs
      simp only [Bool.and_eq_true, beq_iff_eq, Bool.not_eq_true'] at q
      obtain ⟨⟨⟨⟨⟨rfl, rfl⟩, hdel⟩, ht⟩, hok⟩, hni⟩ := q
      obtain ⟨nm, bs, mro, ns, qn, hd, sn, sub, ab, col, del⟩ := cd
      dsimp only at hm hdel hok hni
      subst hm hdel
      have hsl : sl = #[k0, k1, k2, k3, some (.builtin "ValueError.__new__"), k5] := by
        obtain ⟨l⟩ := sl
        simp only at hs
        rw [hs]
      subst hsl
      exact ⟨bm, ns, nm, qn, bs, hd, sn, sub, ab, col, dd, k0, k1, k2, k3, k5, _, Y _ _ ho, .of_isNs (PySem.W.isNs_of_in Y hok), PySem.W.nsMap_none_of_in Y hok hni, PySem.W.tail_of_in Y ht⟩
    · cases q
  · cases q
def rRaise (c : Str) : XR := fun _ h => some (c, h)
section
variable {X : Cx} {x : Str} {np cpos pos p : Pos} {j : Nat} {msg : Str}
theorem rs_raise (hc : X.calm = true) (k : ∃ C, ExcK X.K X.mg x C) (hg : Gl X x) (hdb : (x == ("__debug__" : Str)) = false := by decide)
    (he : starEach [.Constant (.str msg) j p] X.env = (false, eval (.Constant (.str msg) j p) X.env) :: starEach [] X.env := by rfl) (hplain : (backTo cpos (starEach [] X.env)).any (·.1) = false := by rfl) :
    RSt X (.Raise (some (.Call (.Name x np) [.Constant (.str msg) j p] [] cpos)) none pos) (rRaise x) := by
  intro pins s σ H D I h
  obtain ⟨m, z, a, h, c, h', hr', rs, e, W, hL, hW⟩ := h
  cases e
  obtain ⟨C, k⟩ := k
  obtain ⟨tl, N, nm, q, bs, hdct, sn, sub, ab, col, dd, k0, k1, k2, k3, k5, mN, hC, hN, hni, T⟩ := (exc_own k I.ok.mod.kin).obj
  refine wpAny_Raise_call_subT (C := C) (nm := nm) (q := q) (N := N) (bs := bs) (bm := tl) (hdct := hdct) (sn := sn) (sub := sub) (ab := ab) (col := col) (dd := dd) (k0 := k0) (k1 := k1) (k2 := k2) (k3 := k3) (k5 := k5)
    PySem.F.excBase_ValueError (mN := mN) (T.hasType PySem.F.excBase_ValueError.hasBase) (I.ok.hd hc) (by rw [he]; show (false || (backTo cpos (starEach [] X.env)).any (·.1)) = false; rw [hplain]; rfl) hni (ld_glob I hg k.1 ⟨rfl, ?_⟩ hdb)
  have P : PA X [.Constant (.str msg) j p] (tCons (tC (.str msg)) tNil) := pa_cons pe_str pa_nil he
  rw [he]
  refine Calls.evalArgs_plain ?_
  have P1 := P cpos pins s σ H (fun vs H1 => vs.length = 1 ∧ H1 = H) I ⟨rfl, rfl⟩
  rw [he] at P1
  refine thn P1 fun us s2 ⟨vs, H2, I2, r2, e1, e2⟩ => ?_
  subst e2
  refine ⟨rfl, ?_, I2.bk _ _ hC, hN.keeps I2.bk, T.keeps I2.bk, fun h1 e hx => ?_⟩
  · show us.length ≤ sizeLine
    rw [← r2.length, e1]; decide
  · exact hL.made pins σ H2 s2 e C h1 us I2 (hW C H2 m k.1 (.refl _ _) hr') hx
end
end L2.Dm
set_option Elab.async false
set_option linter.all false
set_option maxRecDepth 100000
namespace L2.Dm
open PySem PySem.Spec PyProof.Rows L2
/-! ### caught -/
section
variable {M : Model} {A : Around} {E : Value → Shared → Prop} {s : Shared}
/-- a new exception is noted in the frame that made it -/
theorem looks_madeW {base h : Heap} {env : Env} {outer : List Env} {L e : Addr} {cls : Value} {args : List Value} {Q : Unit → Shared → Prop}
    (hfr : A.frames = some (env :: outer)) (hf : env.frame = some L) (hkb : base.StaysIn h) (hl : h.FunFrames base (env :: outer)) (hx : Heap.MadeExcOf h s.heap e cls args)
    (hQ : ∀ h' t, Heap.HeldW base (env :: outer) e cls (.ref t) L h' → s.heap.UpToSlots h' → Q () { s with heap := h' }) : wpAny M A (noteFrame (.ref e) env) Q E s := by
  obtain ⟨t, he, htn, ht⟩ := hx.there
  have fresh : ∀ b, h.get? b = none → base.get? b = none := fun b hb => by
    cases hq : base.get? b with
    | none => rfl
    | some o' => have := hkb b o' hq; rw [hb] at this; cases this
  unfold noteFrame
  simp only [hf]
  refine wpAny_bind (wpAny_field he rfl (x := .none) rfl ?_)
  rw [if_neg (by decide)]
  refine wpAny_entryW (a0 := .ref t) hfr (hl.of_keeps fun b o hb _ => ⟨o, hx.keeps b o hb, rfl⟩) hf he (fun b o hb => hx.keeps b o (hkb b o hb)) (fresh e hx.new) rfl (by simp) rfl fun h' hN => ?_
  obtain ⟨k1, k2, k3, k4⟩ := hN
  exact hQ h' t ⟨k1, fresh e hx.new, k2, k3⟩ k4
end
/-- the classes above a class of K -/
def mroHas (K : PySem.W.Frag) (C : Addr) (v : Value) : Bool := match K.lookup C with
  | some ⟨_, _, .cls cd, _⟩ => cd.mro.contains v
  | _ => false
theorem exc_obj {K : PySem.W.Frag} {mg : Str → Option Value} {x : Str} {C : Addr} {h : Heap} (k : ExcK K mg x C) (Y : K.In h) :
    ∃ bm N nm q bs hdct sn sub ab col dd k0 k1 k2 k3 k5 mN, h.get? C = some (excClassObj nm q C N bs bm hdct sn sub ab col dd k0 k1 k2 k3 k5 "ValueError.__new__") ∧ h.Ns N mN ∧ mN "__init__" = none ∧ OwnTail h mroVE bm ∧ ∀ v, mroHas K C v = (Value.ref C :: bm).contains v := by
  obtain ⟨hm, q⟩ := k
  unfold PySem.W.excIn at q
  split at q
  · rename_i dd cd sl ho
    split at q
    · rename_i C' bm k0 k1 k2 k3 n k5 hm hs
      simp only [Bool.and_eq_true, beq_iff_eq, Bool.not_eq_true'] at q
      obtain ⟨⟨⟨⟨⟨rfl, rfl⟩, hdel⟩, ht⟩, hok⟩, hni⟩ := q
      obtain ⟨nm, bs, mro, ns, qn, hd, sn, sub, ab, col, del⟩ := cd
      dsimp only at hm hdel hok hni
      subst hm hdel
      have hsl : sl = #[k0, k1, k2, k3, some (.builtin "ValueError.__new__"), k5] := by
        obtain ⟨l⟩ := sl
        simp only at hs
        rw [hs]
      subst hsl
      exact ⟨bm, ns, nm, qn, bs, hd, sn, sub, ab, col, dd, k0, k1, k2, k3, k5, _, Y _ _ ho, .of_isNs (PySem.W.isNs_of_in Y hok), PySem.W.nsMap_none_of_in Y hok hni, PySem.W.tail_of_in Y ht, fun v => by unfold mroHas; rw [ho]⟩
    · cases q
  · cases q
section
variable {M : Model} {A : Around} {E : Value → Shared → Prop}
variable {nm q : Str} {C N : Addr} {bs bm : List Value} {hdct : Bool} {sn : List Str} {sub : List Value} {ab : Bool} {col : Option Bool} {dd : Option Addr} {k0 k1 k2 k3 k5 : Option Value} {newId : String}
variable {nm' q' : Str} {C' N' : Addr} {bs' bm' : List Value} {hdct' : Bool} {sn' : List Str} {sub' : List Value} {ab' : Bool} {col' : Option Bool} {dd' : Option Addr} {k0' k1' k2' k3' k5' : Option Value} {newId' : String}
/-- an exception of the class at C is one of the own class at C' above it -/
theorem excMatches_own {h : Heap} {g : Array GenState} {d : Drawn} {t : Nat} {os : OsState} {e : Addr} {oe : Obj} {Q : Bool → Shared → Prop}
    (hC : h.get? C = some (excClassObj nm q C N bs bm hdct sn sub ab col dd k0 k1 k2 k3 k5 newId)) (hC' : h.get? C' = some (excClassObj nm' q' C' N' bs' bm' hdct' sn' sub' ab' col' dd' k0' k1' k2' k3' k5' newId'))
    (he : h.get? e = some oe) (hcls : oe.cls = .ref C) (hbase : bm'.contains (.type "BaseException") = true) (hsup : (Value.ref C :: bm).contains (.ref C') = true)
    (hq : Q true ⟨h, g, d, t, os⟩) : wpAny M A (excMatches (.ref e) (.ref C')) Q E ⟨h, g, d, t, os⟩ := by
  have hcB : (Value.ref C' :: bm').contains (.type "BaseException") = true := by rw [List.contains_cons, hbase, Bool.or_true]
  have f := tc_notTuple
  unfold excMatches
  repeat (first | (with_reducible refine wpAny_loadPart_at he ?_; rw [hcls]) | with_reducible refine wpAny_loadPart_at hC' ?_ | (with_reducible refine wpAny_isSubtype_exc hC' ?_; rw [hcB]) | (with_reducible refine wpAny_isSubtype_exc hC ?_; rw [hsup]) | wp_step)
  exact hq
end
/-! ### within an except suite -/
abbrev _root_.L2.Cx.mark (X : Cx) (e : Value) : Cx := { X with A := X.A.mark (some e), calm := false }
section
variable {X : Cx} {pins : List (Addr × Obj)} {σ : St} {H : Hp} {s : Shared} {e : Addr}
theorem _root_.L2.Cx.Ok.mark (ok : X.Ok) (e : Value) : (Cx.mark X e).Ok :=
  ⟨ok.mod, ok.kind, ok.glob, ok.blt, ok.above, ok.inj, ok.has, ok.cab, fun z => (nomatch z), ok.frames, ok.stk, ok.exf, ok.bs, ok.bsz, ok.noex, ok.exfs, ok.funs, ok.frf⟩
theorem _root_.L2.Inv.mark (I : Inv X pins σ H s) (e : Value) : Inv (Cx.mark X e) pins σ H s := ⟨Cx.Ok.mark I.ok e, I.os, I.bare, I.base, I.loc, I.cell, I.free, I.freeC, I.pin, I.hok, I.len⟩
theorem _root_.L2.Inv.unmark {e : Value} {E : Value → Shared → Prop} (ok : X.Ok) (I : Inv ((Cx.mark X e).wish E) pins σ H s) : Inv X pins σ H s := ⟨ok, I.os, I.bare, I.base, I.loc, I.cell, I.free, I.freeC, I.pin, I.hok, I.len⟩
/-- a new object, not tracked so far, is known to stand still -/
theorem _root_.L2.Inv.track {oe : Obj} (I : Inv X pins σ H s) (he : s.heap.get? e = some oe) (hn : H e = none) (h0 : X.s_0.heap.get? e = none) (hd : ∃ vs, oe.data = .fields vs) (hp : ∀ p ∈ X.pn ++ pins, p.1 ≠ e) :
    Inv X pins σ (upd H e (.frz oe (.own 0))) s := by
  have nl : X.env.locals ≠ e := fun z => by
    obtain ⟨_, ⟨o', es, ep, ho', hd', _⟩, _⟩ := I.loc
    obtain ⟨vs, hv⟩ := hd
    rw [z, he] at ho'; cases ho'
    rw [hv] at hd'; cases hd'
  have nc : ∀ x c, X.env.cells.lookup x = some c → c ≠ e := fun x c hx z => by
    obtain ⟨v, o, ho, hv⟩ := I.cell x c hx
    obtain ⟨vs, hv'⟩ := hd
    rw [z, he] at ho; cases ho
    rw [hv'] at hv; cases hv
  have keep : ∀ b u, H b = some u → (upd H e (.frz oe (.own 0))) b = some u := fun b u q => by
    rw [upd_ne (ne_of_none q hn)]; exact q
  refine ⟨I.ok, I.os, I.bare, ⟨I.base.keep, I.base.slot, fun b o q n hx => ?_, I.base.there, fun b xs q => keep _ _ (I.base.tups b xs q), fun b o u q => keep _ _ (I.base.frzs b o u q), fun b ps q => ?_⟩, I.loc, I.cell, by rw [upd_ne nl]; exact I.free, fun x c q => by rw [upd_ne (nc x c q)]; exact I.freeC x c q, fun p hpp => ?_, fun b u q => ?_, I.len⟩
  · have ne : b ≠ e := fun z => by rw [z, h0] at q; cases q
    rw [upd_ne ne]; exact I.base.free b o q n hx
  · obtain ⟨more, q2⟩ := I.base.tbls b ps q
    exact ⟨more, keep _ _ q2⟩
  · obtain ⟨q1, q2, q3⟩ := I.pin p hpp
    exact ⟨q1, by rw [upd_ne (hp p hpp)]; exact q2, q3⟩
  · by_cases hb : b = e
    · subst hb
      rw [upd_same] at q; cases q
      exact ⟨he, ⟨oe, he⟩⟩
    · rw [upd_ne hb] at q
      exact (I.hok b u q).stay (fun c w _ z => z) (fun c z => keep _ _ z) fun c xs z => keep _ _ z
/-- a name goes: nothing is known of the names -/
theorem _root_.L2.Inv.gone {h' : Heap} {m' : Str → Option Value} {t' : Nat} (I : Inv X pins σ H s) (hn' : h'.Ns X.env.locals m') (hs : Heap.SameBut X.env.locals s.heap h') : Inv X pins (List.replicate X.N.length none) H { s with heap := h', toks := t' } := by
  obtain ⟨m, hn, hl⟩ := id I.loc
  obtain ⟨oL, _, _, hoL, _⟩ := id hn
  have low : ∀ b o, X.s_0.heap.get? b = some o → b ≠ X.env.locals := fun b o e => Nat.ne_of_lt (Nat.lt_of_lt_of_le (Heap.lt_size e) I.ok.above)
  refine ⟨I.ok, I.os, I.bare, ⟨fun b o e n hb hx => ?_, fun b o e n hb hx => ?_, I.base.free, fun b o e hx => ?_, I.base.tups, I.base.frzs, I.base.tbls⟩, ⟨_, hn', fun j y v' e1 e2 e3 => ?_⟩, fun y c e => ?_, I.free, I.freeC, fun p hp => ?_, fun b ob e => ?_, by simp⟩
  · exact (hs.2 b (low b o e)).trans (I.base.keep b o e n hb hx)
  · obtain ⟨sl, e1⟩ := I.base.slot b o e n hb hx
    exact ⟨sl, (hs.2 b (low b o e)).trans e1⟩
  · obtain ⟨o', e1⟩ := I.base.there b o e hx
    exact ⟨o', (hs.2 b (low b o e)).trans e1⟩
  · rw [List.getElem?_replicate] at e2
    split at e2 <;> cases e2
  · obtain ⟨w', z⟩ := I.cell y c e
    exact ⟨w', z.sameBut hs (I.cne y c e)⟩
  · obtain ⟨e, n, ne, nf, d⟩ := I.pin p hp
    exact ⟨(hs.2 p.1 ne).trans e, n, ne, nf, d⟩
  · refine (I.hok b ob e).stay (fun c w' hc q => (hs.2 c ?_).trans q) (fun _ q => q) fun _ _ q => q
    rintro rfl
    rcases hc with rfl | hc
    · rw [I.free] at e; cases e
    · rw [I.free] at hc; cases hc
end
end L2.Dm
set_option Elab.async false
set_option linter.all false
set_option maxRecDepth 100000
namespace L2.Dm
open PySem PySem.Spec PyProof.Rows L2
/-! ### try: .. except S as n: .. -/
/-- another wish about exceptions, and pins that every state bears -/
abbrev _root_.L2.Cx.wishP (X : Cx) (E : Value → Shared → Prop) (pn : List (Addr × Obj)) : Cx := { X with xe := E, pn := pn }
section
variable {X : Cx} {pins pins' : List (Addr × Obj)} {σ : St} {H : Hp} {s : Shared} {E : Value → Shared → Prop} {pn : List (Addr × Obj)}
theorem _root_.L2.Cx.Ok.wishP (ok : X.Ok) (E : Value → Shared → Prop) (pn : List (Addr × Obj)) : (Cx.wishP X E pn).Ok :=
  ⟨ok.mod, ok.kind, ok.glob, ok.blt, ok.above, ok.inj, ok.has, ok.cab, ok.hd, ok.frames, ok.stk, ok.exf, ok.bs, ok.bsz, ok.noex, ok.exfs, ok.funs, ok.frf⟩
theorem _root_.L2.Inv.wishP (I : Inv X pins σ H s) (E : Value → Shared → Prop) : Inv (Cx.wishP X E (X.pn ++ pins)) [] σ H s :=
  ⟨Cx.Ok.wishP I.ok E _, I.os, I.bare, I.base, I.loc, I.cell, I.free, I.freeC, fun p hp => I.pin p (by simpa using hp), I.hok, I.len⟩
theorem _root_.L2.Inv.unwishP (ok : X.Ok) (I : Inv (Cx.wishP X E (X.pn ++ pins)) pins' σ H s) : Inv X pins σ H s :=
  ⟨ok, I.os, I.bare, I.base, I.loc, I.cell, I.free, I.freeC, fun p hp => I.pin p (List.mem_append_left _ hp), I.hok, I.len⟩
theorem SP.unwishP {D : Ends} {f : Flow} {s' : Shared} (ok : X.Ok) (h : SP (Cx.wishP X E (X.pn ++ pins)) [] D f s') : SP X pins D f s' := by
  cases f with
  | next => obtain ⟨σ', H', I, q⟩ := h; exact ⟨σ', H', I.unwishP ok, q⟩
  | brk => obtain ⟨σ', H', I, q⟩ := h; exact ⟨σ', H', I.unwishP ok, q⟩
  | cont => obtain ⟨σ', H', I, q⟩ := h; exact ⟨σ', H', I.unwishP ok, q⟩
  | ret u => obtain ⟨v, σ', H', I, r, q⟩ := h; exact ⟨v, σ', H', I.unwishP ok, r, q⟩
end
theorem Fly0.enone {P : Program} {w : World} {outer : List Env} {H H' : Hp} {s s' : Shared} {B h2 : Heap} {e : Addr} {cls a0 : Value} (F : Fly0 P w outer H s H' B s') (fl : Heap.FlyingW B outer e cls a0 h2) : s.heap.get? e = none ∧ H' e = none := by
  obtain ⟨f1, f2, f3, f4⟩ := fl
  obtain ⟨oe, vs, T, oT, ts, he, hc, hd, _⟩ := f4
  have no : e ∉ frs outer := fun z => by
    obtain ⟨_, o, q1, q2⟩ := f3.mem z
    rw [he] at q1; cases q1
    exact q2 vs hd
  constructor
  · cases q : s.heap.get? e with
    | none => rfl
    | some o =>
      rcases F.cov e (.inl ⟨o, q⟩) with z | ⟨o', z⟩
      · exact absurd z no
      · rw [f2] at z; cases z
  · cases q : H' e with
    | none => rfl
    | some o =>
      rcases F.cov e (.inr ⟨o, q⟩) with z | ⟨o', z⟩
      · exact absurd z no
      · rw [f2] at z; cases z
/-- what lands in the except -/
abbrev ETry (X : Cx) (S n : Str) (np hpos : Pos) (b₀ : Stmt) (suite : List Stmt) (pins : List (Addr × Obj)) (D : Ends) : Value → Shared → Prop := fun e s₁ =>
  wpAny (model X.prog X.w) X.A (noteFrame e X.env) (fun _ s₂ => wpAny (model X.prog X.w) X.A (setFlight e none) (fun _ s₃ =>
    wpAny (model X.prog X.w) X.A (handleBy e X.env [.ExceptHandler (some (.Name S np)) (some n) (b₀ :: suite) hpos]) (SP X pins D) X.xe s₃) X.xe s₂) X.xe s₁
section
variable {X : Cx} {body : List Stmt} {b₀ : Stmt} {suite : List Stmt} {S n : Str} {np hpos pos : Pos} {i : Nat} {f g : XS} {r : XR} {subs : Str → Bool}
/-- the subclasses that are caught -/
def SubOk (X : Cx) (S : Str) (subs : Str → Bool) : Prop := (∃ CS, ExcK X.K X.mg S CS) ∧ ∀ c, subs c = true → ∀ C, X.mg c = some (.ref C) → ExcK X.K X.mg c C ∧ ∀ CS, X.mg S = some (.ref CS) → mroHas X.K C (.ref CS) = true
theorem caught {pins : List (Addr × Obj)} {D : Ends} {σ : St} {H H0 H1 : Hp} {s0 s' : Shared} {B h4 : Heap} {e C : Addr} {a0 : Value} {m m1 z : List Addr} {h1 h2 : AH} {c : Str} {y : AV} {a2 : AE}
    (hex : X.ex = []) (hs : ∀ e : Value, DSs (Cx.mark X e).nox (b₀ :: suite) g) (hN : X.N.Nodup) (hi : X.N[i]? = some n) (hn : X.env.scope.names.lookup n = some .local) (hS : SubOk X S subs) (hg : Gl X S)
    (I0 : Inv X pins σ H0 s0) (F : Fly0 X.prog X.w X.stack H0 s0 H1 B s') (held : Heap.HeldW B X.stack e (.ref C) a0 X.env.locals h4) (up : s'.heap.UpToSlots h4)
    (hC : X.mg c = some (.ref C)) (hsc : subs c = true) (f1 : Aft m H m1 H1) (hr1 : HR X.K X.mg m1 z H1 h1) (eg : g ((List.replicate X.N.length none).set i (some (.exc c))) h1 = some (.rt y, a2, h2))
    (q : ∀ H' m', Aft m H m' H' → HR X.K X.mg m' z H' h2 → ∀ v, RA X.K X.mg m' z H' v y → D.rt v H') (hdb : (S == ("__debug__" : Str)) = false) :
    wpAny (model X.prog X.w) X.A (setFlight (.ref e) none) (fun _ s₃ => wpAny (model X.prog X.w) X.A (handleBy (.ref e) X.env [.ExceptHandler (some (.Name S np)) (some n) (b₀ :: suite) hpos]) (SP X pins D) X.xe s₃) X.xe { s' with heap := h4 } := by
  refine wpAny_landsW held fun h5 fl5 up5 => ?_
  have up45 := up.trans up5
  obtain ⟨un5, hok5⟩ := F.on fl5.1 up45
  have I5 : Inv X pins σ H1 { s' with heap := h5 } := I0.call' (s' := { s' with heap := h5 }) F.os un5 hok5 F.bare (fun b z => by cases z)
  obtain ⟨⟨CS, kS⟩, hsub⟩ := hS
  obtain ⟨kC, hm⟩ := hsub c hsc C hC
  obtain ⟨oe, vs, hoe, hoc, hod, _⟩ := fl5.first
  refine wpAny_handleBy_cons (codeAny_handlers_test (ld_glob (X := Cx.mark X (.ref e)) (I5.mark _) hg kS.1 ?_ hdb)) (by intro q; cases q)
  obtain ⟨bm, N, nm, qn, bs, hdct, sn, sub, ab, col, dd, k0, k1, k2, k3, k5, mN, hC5, _, _, _, hmro⟩ := exc_obj kC I5.kIn
  obtain ⟨bm', N', nm', qn', bs', hdct', sn', sub', ab', col', dd', k0', k1', k2', k3', k5', mN', hS5, _, _, TS, _⟩ := exc_obj kS I5.kIn
  refine excMatches_own hC5 hS5 hoe hoc (TS.hasType PySem.F.excBase_ValueError.hasBase) (by rw [← hmro]; exact hm CS kS.1) (codeAny_handlers_suite_as ?_)
  refine lands_againW fl5 fun h6 fl6 up6 => ?_
  obtain ⟨un6, hok6⟩ := F.on fl6.1 (up45.trans up6)
  have I6 : Inv X pins σ H1 { s' with heap := h6 } := I0.call' (s' := { s' with heap := h6 }) F.os un6 hok6 F.bare (fun b z => by cases z)
  obtain ⟨oe6, vs6, hoe6, hoc6, hod6, _⟩ := fl6.first
  obtain ⟨se, He⟩ := F.enone fl6
  have h0e : X.s_0.heap.get? e = none := by
    cases q0 : X.s_0.heap.get? e with
    | none => rfl
    | some o =>
      obtain ⟨o', q1⟩ := I0.base.there e o q0 (by rw [hex]; exact List.not_mem_nil)
      rw [se] at q1; cases q1
  have I7 := I6.track hoe6 He h0e ⟨vs6, hod6⟩ fun p hp z => by
    have := (I0.pin p hp).1
    rw [z, se] at this; cases this
  refine store_ok I7 hN hi (.inl hn) (show RelV (.ref e) (.ref e) from rfl) (fun s7 I8 => ?_) (.inr hn)
  have sm := same_new He (HO.frz oe6 (.own 0))
  obtain ⟨em, ez⟩ := free_m hr1 He
  have il : i < X.N.length := (List.getElem?_eq_some_iff.mp hi).1
  have ls : LS X.K X.mg g { nx := fun _ _ => False, rt := D.rt } (σ.set i (some (.ref e))) (upd H1 e (.frz oe6 (.own 0))) := by
    refine ⟨m1, z, _, h1, .rt y, a2, h2, hr1.grow sm, ⟨by rw [List.length_set, List.length_set, List.length_replicate, I0.len], fun j x ej => ?_⟩, eg, fun σ' H' m' f' hr' rs' v ra => q H' m' ((f1.trans (.of sm)).trans f') hr' v ra⟩
    rw [List.getElem?_set] at ej
    split at ej
    · rename_i hij
      subst hij
      split at ej
      · cases ej
        exact ⟨.ref e, by rw [List.getElem?_set_self (by rw [I0.len]; exact il)], e, C, oe6, _, rfl, hid_some.mpr ⟨em, ez, upd_same⟩, hoc6, hC⟩
      · cases ej
    · rw [List.getElem?_replicate] at ej
      split at ej <;> cases ej
  refine wpAny_mono (hs (.ref e) pins s7 _ _ { nx := fun _ _ => False, rt := D.rt } ((I8.mark _).wish _) ls) (fun fl' s9 hsp => ?_) (fun _ _ z => z.elim)
  cases fl' with
  | next => obtain ⟨_, _, _, z⟩ := hsp; exact z.elim
  | brk => obtain ⟨_, _, _, z⟩ := hsp; exact z.elim
  | cont => obtain ⟨_, _, _, z⟩ := hsp; exact z.elim
  | ret u =>
    obtain ⟨v, σ9, H9, I9, rv, qd⟩ := hsp
    have I9' : Inv X pins σ9 H9 s9 := I9.unmark I0.ok
    obtain ⟨m9, hn9, _⟩ := id I9'.loc
    refine wpAny_nameGoes hn hn9 (by rw [I0.ok.kind]; rfl) fun h10 m10 hn10 hs10 => ?_
    exact ⟨v, _, H9, I9'.gone hn10 hs10, rv, qd⟩
end
end L2.Dm
set_option Elab.async false
set_option linter.all false
set_option maxRecDepth 100000
namespace L2.Dm
open PySem PySem.Spec PyProof.Rows L2
/-! ### defs that are called where an exception is at hand -/
abbrev unm (A : Around) : Around := { A with handled := none }
/-- the context of such a def's body -/
abbrev cxN (P : Program) (w : World) (K : PySem.W.Frag) (mg : Str → Option Value) (base : Heap) (N : List Str) (qual : Str) (scope : Scope) (f : Addr) (cd : Value) (A : Around) (outer : List Env) (s : Shared) (H : Hp) : Cx :=
  { (cxOf CX0 P w K mg base N qual scope f cd A outer s H E0).nox with calm := false }
structure FnOkN (P : Program) (w : World) (K : PySem.W.Frag) (mg : Str → Option Value) (base : Heap) (k : Nat) (f : Addr) (fd : FuncData) (ps : List Str) (sp : Sp) : Prop where
  len : ∀ vs H Q E, sp vs H Q E → vs.length = ps.length
  run : ∀ (A : Around) (outer : List Env) (s : Shared) (H : Hp) (args : Args) (us : List Value) (vs : List V) (Q : VK), Room k (unm A) → Env0 P w K mg base A outer s H → BindsTo s fd args (ps.zip us) → Vals vs us → sp vs H Q E0 →
    codeAny (model P w) A (.call (.ref f) args) (CR CX0 outer P w H s Q E0) s
theorem inv_startN {P : Program} {w : World} {K : PySem.W.Frag} {mg : Str → Option Value} {base : Heap} {N ps : List Str} {qual : Str} {scope : Scope} {f : Addr} {cd : Value} {A : Around} {outer : List Env} {s s1 : Shared} {H : Hp} {us : List Value} {vs : List V}
    (S : FnScope N ps scope) (e0 : Env0 P w K mg base A outer s H) (hl : vs.length = ps.length) (r : Vals vs us)
    (x : InCallC s s.heap.objs.size (bindL (envOfC qual scope s.heap.objs.size f cd).kindOf (ps.zip us) fun _ => none) (cellsFrom (s.heap.objs.size + 1) scope.names []) (bindC (envOfC qual scope s.heap.objs.size f cd).kindOf (ps.zip us) fun _ => none) s1) :
    Inv (cxN P w K mg base N qual scope f cd A outer s H) [] (start N vs) H s1 := by
  have e1 : Env0 P w K mg base (unm A) outer s H := ⟨e0.frames, e0.mod, e0.bs, e0.bsz, e0.funs, e0.frf, e0.hok, e0.bare⟩
  have I := inv_start (CX := CX0) (E := E0) S (A := unm A) rfl e1 hl r x
  obtain ⟨ok, os, bare, base', loc, cell, free, freeC, pin, hok, len⟩ := I
  exact ⟨⟨ok.mod, ok.kind, ok.glob, ok.blt, ok.above, ok.inj, ok.has, ok.cab, (fun z => nomatch z), ok.frames, ok.stk, ok.exf, ok.bs, ok.bsz, ok.noex, ok.exfs, ok.funs, ok.frf⟩, os, bare, base', loc, cell, free, freeC, pin, hok, len⟩
theorem fn_ofN {P : Program} {w : World} {K : PySem.W.Frag} {mg : Str → Option Value} {base : Heap} {k : Nat} {f : Addr} {name qual : Str} {params : Arguments} {body : List Stmt} {scope : Scope} {dV kV doc pm cdv ct oc : Value} {an od : Option Addr}
    {osl : Array (Option Value)} {N ps : List Str} {sp : Sp} (lk : K.lookup f = some ⟨oc, od, .func (PySem.W.fnOf name qual params body scope dV kV doc pm an cdv ct), osl⟩) (hcd : PySem.W.codeIn K cdv qual = true) (S : FnScope N ps scope)
    (len : ∀ vs H Q E, sp vs H Q E → vs.length = ps.length)
    (hbody : ∀ (A : Around) (outer : List Env) (s : Shared) (H : Hp) (vs : List V) (Q : VK), Room k (unm (A.deeper (envOfC qual scope s.heap.objs.size f cdv))) → sp vs H Q E0 →
      ∃ t, PSs (cxN P w K mg base N qual scope f cdv A outer s H) body t ∧ t { nx := fun _ H' => Q .non H', rt := Q } (start N vs) H) :
    FnOkN P w K mg base (k + 1) f (PySem.W.fnOf name qual params body scope dV kV doc pm an cdv ct) ps sp := by
  refine ⟨len, fun A outer s H args us vs Q hr e0 hb r hsp => ?_⟩
  have hl := len _ _ _ _ hsp
  have KX : K.In s.heap := e0.mod.kin.keeps fun b o e => (e0.bs b o e).1
  have lim : s.heap.NoLimit := e0.mod.nolimit.keeps fun b o e => (e0.bs b o e).1
  have hkind : ∀ y ∈ ps.zip us, scope.names.lookup y.1 = some .local ∨ (scope.names.lookup y.1 = some .cell ∧ ((cellsFrom (s.heap.objs.size + 1) scope.names []).lookup y.1).isSome = true) := fun ⟨n, v⟩ hy => by
    rcases S.par n (List.of_mem_zip hy).1 with q | q
    · exact .inl q
    · exact .inr ⟨q, PySem.W.cellsFrom_some _ _ _ (.inl q)⟩
  refine codeAny_call_function (show A.depth < recursionLimit from hr.depth) (KX _ _ lk) rfl S.co S.gen rfl (PySem.W.codeRec_of KX hcd) (hb _ _ _ _ ?_)
  refine wpAny_newFunctionEnv_cells S.kind hkind fun env he s1 x => ?_
  subst he
  refine ⟨lim.keeps x.toInCall.keep, codeAny_func ?_⟩
  obtain ⟨t, ht, hq⟩ := hbody A outer s H vs Q (hr.deeper (envOfC qual scope s.heap.objs.size f cdv)) hsp
  have I := inv_startN S e0 hl r x
  refine wpAny_mono (ht [] s1 (start N vs) H _ I hq) (fun fl s' hs => ?_) fun e s' hs => hs.elim
  have fin : ∀ {σ' : St} {H' : Hp} {v : V} {u : Value}, Inv (cxN P w K mg base N qual scope f cdv A outer s H) [] σ' H' s' → RelV v u → Q v H' → CE outer P w H s Q u s' :=
    fun {σ' H' v u} J rv q => ⟨v, H', J.os, J.bare, J.base, J.hok, rv, q⟩
  cases fl with
  | ret u =>
    obtain ⟨v, σ', H', J, rv, q⟩ := hs
    exact fin J rv q
  | next =>
    obtain ⟨σ', H', J, q⟩ := hs
    exact fin (v := V.non) (u := Value.none) J rfl q
  | brk =>
    obtain ⟨_, _, _, q⟩ := hs
    exact False.elim q
  | cont =>
    obtain ⟨_, _, _, q⟩ := hs
    exact False.elim q
def FPN (P : Program) (w : World) (K : PySem.W.Frag) (mg : Str → Option Value) (base : Heap) (k : Nat) (x : Str) (ps : List Str) (sp : Sp) : Prop :=
  ∃ f fd, mg x = some (.ref f) ∧ PySem.W.keepIn K (.ref f) = true ∧ Binds K fd ps [] ∧ FnOkN P w K mg base k f fd ps sp
theorem fd_okN {P : Program} {w : World} {K : PySem.W.Frag} {mg : Str → Option Value} {base : Heap} {x : Str} {st : Stmt} {N ps : List Str} {k n nN : Nat} {g : XS} (F : FD K mg x st ps) (S : FnScope N ps (defScope st)) (hn : ps.length = n) (hN : N.length = nN)
    (hb : ∀ (f : Addr) (cdv : Value) (A : Around) (outer : List Env) (s : Shared) (H : Hp), Room k (unm (A.deeper (envOfC x (defScope st) s.heap.objs.size f cdv))) → DSs (cxN P w K mg base N x (defScope st) f cdv A outer s H) (defBody st) g) :
    FPN P w K mg base (k + 1) x ps (spF K mg n (fnF nN g)) := by
  obtain ⟨f, fd, a, b, c⟩ := F
  refine ⟨f, fd, a, b.kp, c, ?_⟩
  obtain ⟨oc, od, kV, doc, pm, an, cdv, ct, osl, rfl, lk, hcd⟩ := b.ex
  exact fn_ofN lk hcd S (fun vs H Q E h => by rw [hn]; exact h.1) fun A outer s H vs Q hr h => ⟨_, hb f cdv A outer s H hr, body_of hN h⟩
section
variable {X : Cx} {k n : Nat} {x : Str} {ps : List Str} {p pos : Pos} {e : Expr} {es : List Expr} {t : XA} {F : XF}
theorem de_fnN (G : FPN X.prog X.w X.K X.mg X.base k x ps (spF X.K X.mg n F)) (hr : Room k (unm X.A)) (hg : Gl X x) (ha : DA X (e :: es) t)
    (hdb : (x == ("__debug__" : Str)) = false := by decide) (he : starEach (e :: es) X.env = (false, eval e X.env) :: starEach es X.env := by rfl) (hpl : (backTo pos (starEach es X.env)).any (·.1) = false := by rfl) :
    DE X (.Call (.Name x p) (e :: es) [] pos) (xFn n t F) := by
  intro pins s σ H Q I h
  obtain ⟨f, fd, hm, hk, hb, G⟩ := G
  refine wpAny_Call_Name_kw (ld_glob I hg hm ?_ hdb)
  refine PySem.W.callWith_K (h₀ := X.base) I.ok.mod.kin hk (thn (ha pos pins s σ H _ I (lf_fn h)) fun us s1 ⟨vs, H1, I1, r, hv, q⟩ => ⟨I1.kIn, ?_⟩) he hpl
  have sp : spF X.K X.mg n F vs H1 Q E0 := ⟨hv, q⟩
  have hl : (us ++ []).length = ps.length := by rw [List.append_nil, ← r.length]; exact G.len _ _ _ _ sp
  have hb1 := hb s1 us I1.kIn hl
  rw [List.append_nil] at hb1
  refine wpAny_call (codeAny_mono (G.run X.A X.stack s1 H1 ⟨us, []⟩ us vs Q hr I1.env0 hb1 r sp) fun r s' hq => ?_)
  cases r with
  | error e => exact False.elim hq
  | ok fl =>
    cases fl with
    | ret u => exact I1.after hq
    | next => exact False.elim hq
    | brk => exact False.elim hq
    | cont => exact False.elim hq
end
end L2.Dm
set_option Elab.async false
set_option linter.all false
set_option maxRecDepth 100000
namespace L2.Dm
open PySem PySem.Spec PySem.Calls PyProof.Rows L2 PySem.W PySem.Builtin PySem.Builtin.ObjectAttr PySem.Builtin.Getset_descriptor
section
variable {prog : Program} {w : World} {A : Around} {E : Value → Shared → Prop} {s : Shared} {K : Frag} {x D : Addr} {ox : Obj}
/-- at x stands ox, of the class at D -/
structure Inst0 (h : Heap) (x : Addr) (ox : Obj) (D : Addr) : Prop where
  at_ : h.get? x = some ox
  cls : ox.cls = .ref D
theorem Inst0.type {M : Model} {h : Heap} (I : Inst0 h x ox D) : Looks M h (typeOf (.ref x)) (.ref D) := I.cls ▸ (Looks.ld I.at_).andThen .now
structure ExcLook (K : Frag) (D : Addr) : Prop where
  cl0 : (clsIn K D).isSome = true
  ga : findIn K (.ref D) "__getattribute__" = some (some (.builtin "BaseException.__getattribute__"))
  gt : findIn K (.ref D) "__getattr__" = some none
  cl : findIn K (.ref D) "__class__" = some (some (.builtin "object.__class__"))
  sp : specialIn K (.builtin "object.__class__") "__get__" = some (some (.builtin "getset_descriptor.__get__"))
  tk : takesIn K (.builtin "object.__class__") = some true
  b : mroIn K D (.type "BaseException") = some true
  o : mroIn K D (.type "object") = some true
theorem ExcLook.find {M : Model} {h : Heap} (L : ExcLook K D) (X : K.In h) : Looks M h (ObjectAttr.find (.ref x) (.ref D) "__class__") (.bind (.builtin "getset_descriptor.__get__") (.builtin "object.__class__")) := by
  have L1 := looks_findIn (M := M) X L.cl
  have L2 : Looks M h (ObjectAttr.getOf (some (.builtin "object.__class__"))) (some (.builtin "getset_descriptor.__get__")) := looks_specialIn X L.sp
  have L3 : Looks M h (ObjectAttr.dataDescriptor? (some (.builtin "object.__class__")) (some (.builtin "getset_descriptor.__get__"))) (some (.builtin "getset_descriptor.__get__", .builtin "object.__class__")) := (looks_takesIn X L.tk).andThen .now
  exact L1.andThen (L2.andThen (L3.andThen (Looks.tag .now)))
theorem class_get0 {R : Result → Shared → Prop} {tp : Value} (X : K.In s.heap) (I : Inst0 s.heap x ox D) (hm : mroIn K D (.type "object") = some true)
    (h : R (.ok (.ret (.ref D))) s) : codeAny (model prog w) A (.call (.builtin "getset_descriptor.__get__") ⟨[.builtin "object.__class__", .ref x, tp], []⟩) R s := by
  obtain ⟨hh, g, dr, t, os⟩ := s
  have L0 := I.type (M := model prog w)
  have L1 := looks_mroIn (M := model prog w) X hm
  refine codeAny_call_builtin KF.slot_gs.plain KF.entry_gs (KF.slot_gs.check _ _ _ _ _ _ _ _ KF.type_class (KF.args_gs _ _ _) ?_)
  unfold Builtin.«getset_descriptor.__get__» descrGet
  rw [dga_obj]
  refine wpAny_bind (wpAny_pure ?_)
  unfold descrGetter descrCheckInstance descrNameAndClass isInstance
  simp only [KF.owner_class]
  repeat lk
  refine ⟨Code.quiet_builtin _ (by decide +kernel), codeAny_builtin KF.entry_class ?_⟩
  unfold Builtin.«object.__class__» shownTypeOf
  repeat lk
  exact h
theorem exc_entry {tk : Tok} {Q : Fin → Shared → Prop} (L : ExcLook K D) (X : K.In s.heap) (I : Inst0 s.heap x ox D) (h : Q (.done (.ret (.ref D))) s) :
    wpAny (model prog w) A (Builtin.«object.__getattribute__» ⟨[.ref x, .str "__class__" tk], []⟩) Q E s := by
  have L0 := I.type (M := model prog w)
  have L1 := L.find (M := model prog w) (x := x) X
  unfold Builtin.«object.__getattribute__»
  refine wpAny_bind (wpAny_pure (wpAny_bind (wpAny_pure (wpAny_bind (L0.at (wpAny_bind (L1.at ?_)))))))
  show wpAny _ _ (holding [Value.builtin "object.__class__"] (call (.builtin "getset_descriptor.__get__") [.builtin "object.__class__", .ref x, .ref D]) >>= ret) _ _ _
  exact wpAny_bind (wpAny_holding (wpAny_call (class_get0 X I L.o (wpAny_pure h))))
theorem exc_check {M : Model} {nameV : Value} {Q : Unit → Shared → Prop} (L : ExcLook K D) (X : K.In s.heap) (I : Inst0 s.heap x ox D) (hq : Q () s) : wpAny M A (checkBuiltinCall "BaseException.__getattribute__" ⟨[.ref x, nameV], []⟩) Q E s := by
  have hk : builtinKind "BaseException.__getattribute__" = some .slot := by decide +kernel
  have hsplit : splitId "BaseException.__getattribute__" = some ("BaseException", "__getattribute__") := by decide +kernel
  have ha := F.args_bexc_ga (.ref x) nameV
  have L0 := I.type (M := M)
  have L1 := looks_mroIn (M := M) X L.b
  obtain ⟨hh, g, d, t, os⟩ := s
  simp only [checkBuiltinCall, hk, hsplit]
  refine wpAny_bind ?_
  unfold isInstance
  refine wpAny_bind (L0.at (L1.at ?_))
  repeat wp_step
  exact hq
theorem exc_class {Q : Option Value → Shared → Prop} (L : ExcLook K D) (X : K.In s.heap) (I : Inst0 s.heap x ox D) (h : Q (some (.ref D)) { s with toks := s.toks + 1 }) :
    wpAny (model prog w) A (getAttr? (.ref x) "__class__") Q E s := by
  obtain ⟨hh, g, d, t, os⟩ := s
  have L0 := I.type (M := model prog w)
  have L1 := looks_findIn (M := model prog w) X L.ga
  have L2 := looks_findIn (M := model prog w) X L.gt
  unfold getAttr? getAttrBy? getAttrBy
  refine wpAny_bind (wpAny_mkText (wpAny_bind (wpAny_attempt (wpAny_holding (wpAny_bind (L0.at (wpAny_bind (L1.at ?_))))))))
  have hx2 : (Value.builtin "BaseException.__getattribute__" == Value.builtin "object.__getattribute__") = false := by decide +kernel
  have hx1 : (onTheHeap (Value.ref D) && Value.builtin "BaseException.__getattribute__" == Value.builtin "object.__getattribute__") = false := by rw [hx2]; rfl
  show wpAny _ _ (if (onTheHeap (Value.ref D) && Value.builtin "BaseException.__getattribute__" == Value.builtin "object.__getattribute__") = true then _ else _) _ _ _
  rw [hx1, if_neg Bool.false_ne_true]
  unfold getAttrByItsOwn
  have f3 := PySem.F.excAttr_ValueError.ga.bind (.ref x)
  repeat (any_goals (first | assumption | (with_reducible refine wpAny_bind (L0.at ?_)) | (with_reducible refine wpAny_bind (L2.at ?_)) | (with_reducible refine (L2.at ?_)) | wp_step))
  refine codeAny_call_builtin PySem.F.excAttr_ValueError.ga.plain PySem.F.entry_bexc_ga (exc_check L X I (exc_entry L X I ?_))
  repeat (any_goals (first | assumption | wp_step))
end
section
variable {K : Frag} {x D : Addr} {ox : Obj}
theorem kitx_exc (L : ExcLook K D) : KitX K (.ref x) (.ref D) (fun h => Inst0 h x ox D) where
  ty := fun _ _ _ I => I.type
  it := fun _ _ X _ => by
    obtain ⟨cdD, hcD⟩ := Option.isSome_iff_exists.mp L.cl0
    unfold clsIn at hcD
    split at hcD
    · rename_i c' d' cd' sl' ho
      intro A' Q' E' s' k q
      unfold isType loadHead
      exact wpAny_bind (wpAny_loadPart (k _ _ (X _ _ ho)) (wpAny_pure q))
    · cases hcD
  ne := fun h tp dd its n sl X htp => by
    obtain ⟨cdD, hcD⟩ := Option.isSome_iff_exists.mp L.cl0
    refine Bool.eq_false_iff.mpr fun q => ?_
    have e : D = tp := Value.ref.inj (beq_iff_eq.mp q)
    subst e
    unfold clsIn at hcD
    split at hcD
    · rename_i c' d' cd' sl' ho
      have z := (X _ _ ho).symm.trans htp
      cases z
    · cases hcD
  ca := fun X I k => exc_class L X I k
end
end L2.Dm
set_option Elab.async false
set_option linter.all false
set_option maxRecDepth 100000
namespace L2.Dm
open PySem PySem.Spec PyProof.Rows L2
open PySem.W (tabObj)
/-! ### lambdas: the making -/
/-- what the making of lambdas in a def of the code at c wants of the base -/
structure LamB (mg : Str → Option Value) (base : Heap) (c P : Addr) : Prop where
  hd : PySem.W.CodeHd base c P
  out : base.get? P = none
  blt : base.BuiltinsAt mg P
/-! a table is extended -/
section
variable {P : Program} {w : World} {fs : List Addr} {H : Hp} {h h' : Heap} {T : Addr} {ps ps' : Array Value}
theorem Un.tab (hP : H T = some (.tbl ps)) (hx : Heap.ExtBut T h h') (ht : h'.get? T = some (tabObj (ps ++ ps'))) : Un fs [] H (upd H T (.tbl (ps ++ ps'))) h h' := by
  have ne : ∀ b, H b = none → b ≠ T := fun b n z => by rw [z, hP] at n; cases n
  refine ⟨fun b o q n _ _ => hx b o (ne b n) q, fun b o q n _ _ => ⟨o.slots, hx b o (ne b n) q⟩, fun b o q n _ => by rw [upd_ne (ne b n)]; exact n, fun b o q _ => ?_, fun b xs q => ?_, fun b o u q => ?_, fun b qs q => ?_⟩
  · by_cases hb : b = T
    · subst hb; exact ⟨_, ht⟩
    · exact ⟨o, hx b o hb q⟩
  · rw [upd_ne (fun z => by rw [z, hP] at q; cases q)]; exact q
  · rw [upd_ne (fun z => by rw [z, hP] at q; cases q)]; exact q
  · by_cases hb : b = T
    · subst hb
      rw [hP] at q; cases q
      exact ⟨ps', upd_same⟩
    · rw [upd_ne hb]; exact ⟨#[], by rw [q]; simp⟩
theorem HOk.tab (x : HOk P w H h) (hP : H T = some (.tbl ps)) (hx : Heap.ExtBut T h h') (ht : h'.get? T = some (tabObj (ps ++ ps'))) : HOk P w (upd H T (.tbl (ps ++ ps'))) h' := fun b o q => by
  by_cases hb : b = T
  · subst hb
    rw [upd_same] at q; cases q
    exact ht
  · rw [upd_ne hb] at q
    refine (x b o q).stay (fun c u hc g => hx c u (fun z => ?_) g) (fun c z => ?_) fun c xs z => ?_
    · subst z
      rcases hc with z | z
      · exact hb z.symm
      · rw [hP] at z; cases z
    · rw [upd_ne (fun y => by rw [y, hP] at z; cases z)]; exact z
    · rw [upd_ne (fun y => by rw [y, hP] at z; cases z)]; exact z
end
/-- the code of a lambda is known at a place of H -/
def CodeK (G : Hp) (cv : Value) (q : Str) : Prop := ∃ b o u vs t, cv = .ref b ∧ G b = some (.frz o u) ∧ o.data = .fields vs ∧ vs[1]? = some (.str q t)
theorem CodeK.rec {P : Program} {w : World} {H : Hp} {h : Heap} {cv : Value} {q : Str} (k : CodeK H cv q) (ok : HOk P w H h) : h.CodeRec cv q := by
  obtain ⟨b, o, u, vs, t, rfl, g, d, e⟩ := k
  obtain ⟨z, _⟩ := ok b _ g
  exact ⟨b, o, vs, t, rfl, z, d, e⟩
theorem triples_snoc {a b : Nat} {c : Value} : ∀ {l : List Value}, TriplesOk l → TriplesOk (l ++ [rawInt a, rawInt b, c])
  | [], _ => by simp [TriplesOk, rawInt]
  | .int _ _ :: .int _ _ :: _ :: r, h => triples_snoc (l := r) h
theorem among_snoc {a b : Nat} {c cv : Value} {pos : Pos} : ∀ {l : List Value}, TriplesOk l → codeAmong pos (l ++ [rawInt a, rawInt b, c]) = some cv → codeAmong pos l = some cv ∨ cv = c
  | [], _, e => by
    right
    simp only [List.nil_append, rawInt, codeAmong] at e
    split at e
    · exact (Option.some.inj e).symm
    · cases e
  | .int x _ :: .int y _ :: d :: r, h, e => by
    simp only [List.cons_append, codeAmong] at e ⊢
    split at e
    · rename_i q
      rw [if_pos q]; exact .inl e
    · rename_i q
      rw [if_neg q]
      exact among_snoc (l := r) h e
section
variable {X : Cx} {pins : List (Addr × Obj)} {σ : St} {H : Hp} {s : Shared} {c P : Addr} {ps : Array Value} {qual : Str} {params : Arguments} {body : Expr} {scope : Scope} {pos : Pos} {clos : List (Str × Addr)} {Q : Value → Shared → Prop}
theorem lam_made (I : Inv X pins σ H s) (B : LamB X.mg X.base c P) (hcode : X.env.code = .ref c) (hP : H P = some (.tbl ps)) (ht : TriplesOk ps.toList)
    (hk : ∀ cv, codeAmong pos ps.toList = some cv → CodeK H cv qual) (hcl : closureFor scope X.env = pure clos) (hdef : defaultsOf params X.env = ([], [])) (hq : X.env.qual ++ ("<lambda>" : Str) = qual)
    (hpp : ∀ p ∈ X.pn ++ pins, p.1 < s.heap.objs.size)
    (h : ∀ (f : Addr) (pm cv ctv : Value) (H' : Hp) (s' : Shared), Inv X pins σ H' s' → s.heap.objs.size ≤ f → s'.heap.get? f = some { cls := .type "function", data := .func (PySem.W.kla_fn "<lambda>" qual params body scope clos pm cv ctv) } → H' f = none →
      CodeK H' cv qual → (∀ b o, b ≠ P → H b = some o → H' b = some o) → (∀ b o, H b = none → H' b = some o → ∃ ob u, o = .frz ob u) →
      (∃ ps', H' P = some (.tbl ps') ∧ TriplesOk ps'.toList ∧ ∀ pos' cv', codeAmong pos' ps'.toList = some cv' → codeAmong pos' ps.toList = some cv' ∨ ∃ b o u vs t, cv' = .ref b ∧ H b = none ∧ H' b = some (.frz o u) ∧ o.data = .fields vs ∧ vs[1]? = some (.str qual t)) → Q (.ref f) s') :
    wpAny (model X.prog X.w) X.A (eval (.Lambda params body scope pos) X.env) Q X.xe s := by
  refine PySem.W.kla_eval hdef ?_
  rw [hq]
  have hgs : s.heap.Ns mainGlobals X.mg := I.ok.mod.glob.keeps I.bk
  have C := B.hd.keeps I.bk
  have hPo : s.heap.get? P = some (tabObj ps) := I.hok P _ hP
  obtain ⟨bm, ob, b1, b2, b3, b4, b5, b6⟩ := B.blt
  have hb : s.heap.BuiltinsAt X.mg P := ⟨bm, ob, b1, b2, b3, b4, I.bk _ _ b5, b6⟩
  have hgP : mainGlobals ≠ P := fun q => by
    obtain ⟨o, es, ep, e, _⟩ := I.ok.mod.glob
    rw [q, B.out] at e; cases e
  cases hca : codeAmong pos ps.toList with
  | some cv =>
    refine PySem.W.kla_makeFunctionHit hcl I.ok.glob hgs hcode C hPo ht hca hb fun ctv h' tk hk1 hsz => ?_
    have kp : ∀ b u, s.heap.get? b = some u → (h'.push { cls := .type "function", data := .func (PySem.W.kla_fn "<lambda>" qual params body scope clos ((X.mg "__name__").getD .none) cv ctv) }).get? b = some u := fun b u e => Heap.get?_push_of_some _ (hk1 b u e)
    refine h _ ((X.mg "__name__").getD .none) cv ctv H _ (I.kept (t' := tk) kp) hsz (Heap.get?_push_size _ rfl) ?_ (hk cv hca) (fun _ _ _ e => e) (fun b o n e => by rw [n] at e; cases e) ⟨ps, hP, ht, fun _ _ e => .inl e⟩
    exact I.hok.fresh hsz
  | none =>
    refine PySem.W.kla_makeFunction hcl I.ok.glob hgs hcode C hPo ht hca hgP hb fun c' ctv h' tk hx hge hlt hrec htb => ?_
    obtain ⟨c₂, oc, vs, t, e2, hoc, hd, hv⟩ := hrec
    cases e2
    have I1 : Inv X pins σ (upd H P (.tbl (ps ++ #[rawInt pos.line, rawInt pos.col, .ref c']))) { s with heap := h', toks := tk } := I.un (Un.tab hP hx htb) (HOk.tab I.hok hP hx htb)
    have kp : ∀ b u, h'.get? b = some u → (h'.push (PySem.W.kla_obj "<lambda>" qual params body scope clos ((X.mg "__name__").getD .none) c' ctv)).get? b = some u := fun b u e => Heap.get?_push_of_some _ e
    have I2 := I1.kept (t' := tk) kp
    have Hc : H c' = none := I.hok.fresh hge
    have cP : c' ≠ P := fun z => by
      have := I.hok.lt hP
      rw [← z] at this
      exact absurd (Nat.lt_of_lt_of_le this hge) (Nat.lt_irrefl _)
    have H1c : (upd H P (.tbl (ps ++ #[rawInt pos.line, rawInt pos.col, .ref c']))) c' = none := by rw [upd_ne cP]; exact Hc
    have I3 := Inv.track I2 (e := c') (oe := oc) (kp _ _ hoc) H1c (Heap.get?_none_of_le (Nat.le_trans I.sz hge)) ⟨vs, hd⟩ (fun p hp z => by
      have := hpp p hp
      rw [z] at this
      exact absurd (Nat.lt_of_lt_of_le this hge) (Nat.lt_irrefl _))
    have ck : CodeK (upd (upd H P (.tbl (ps ++ #[rawInt pos.line, rawInt pos.col, .ref c']))) c' (.frz oc (.own 0))) (.ref c') qual := ⟨c', oc, _, vs, t, rfl, upd_same, hd, hv⟩
    have cf : c' ≠ h'.objs.size := Nat.ne_of_lt hlt
    have Pf : P ≠ h'.objs.size := Nat.ne_of_lt (Heap.lt_size htb)
    have old : s.heap.objs.size ≤ h'.objs.size := Nat.le_trans hge (Nat.le_of_lt hlt)
    refine h _ ((X.mg "__name__").getD .none) (.ref c') ctv _ _ I3 old (Heap.get?_push_size _ rfl) ?_ ck (fun b o hb e => ?_) (fun b o n e => ?_) ⟨_, by rw [upd_ne (Ne.symm cP)]; exact upd_same, ?_, fun pos' cv' e => ?_⟩
    · rw [upd_ne (Ne.symm cf), upd_ne (Ne.symm Pf)]
      exact I.hok.fresh old
    · rw [upd_ne (ne_of_none e Hc), upd_ne hb]; exact e
    · by_cases hb : b = c'
      · subst hb
        rw [upd_same] at e; cases e
        exact ⟨_, _, rfl⟩
      · rw [upd_ne hb, upd_ne (fun z => by rw [z, hP] at n; cases n), n] at e
        cases e
    · rw [Array.toList_append]
      exact triples_snoc ht
    · rw [Array.toList_append] at e
      rcases among_snoc ht e with q | rfl
      · exact .inl q
      · exact .inr ⟨c', oc, _, vs, t, rfl, Hc, upd_same, hd, hv⟩
end
end L2.Dm
set_option Elab.async false
set_option linter.all false
set_option maxRecDepth 100000
namespace L2.Dm
open PySem PySem.Spec PyProof.Rows L2
open PySem.W (tabObj envX kla_fn)
/-! ### lambdas: the running -/
/-- the context of a lambda's body -/
def cxLam (CX : CXT) (P : Program) (w : World) (K : PySem.W.Frag) (mg : Str → Option Value) (base : Heap) (F2 : List Str) (qual : Str) (scope : Scope) (f : Addr) (cv : Value) (cl : List (Str × Addr)) (A : Around) (outer : List Env) (s : Shared) (H : Hp) (E : XK) : Cx where
  prog := P
  w := w
  K := K
  mg := mg
  base := base
  A := A.deeper (envX qual scope s.heap.objs.size f cv cl)
  N := F2
  s_0 := s
  H_0 := H
  env := envX qual scope s.heap.objs.size f cv cl
  outer := outer
  stack := envX qual scope s.heap.objs.size f cv cl :: outer
  ex := []
  calm := true
  fn := fun _ => false
  pn := []
  xe := fun e s' => wpAny (model P w) (A.deeper (envX qual scope s.heap.objs.size f cv cl)) (leaving (envX qual scope s.heap.objs.size f cv cl) e) (fun _ s'' => CX outer H s E e s'') (fun e' s'' => CX outer H s E e' s'') s'
structure LamScope (scope : Scope) (F2 : List Str) : Prop where
  kind : scope.kind = .function
  co : scope.isCoroutine = false
  gen : scope.isGenerator = false
  nocell : ∀ x ∈ scope.names, x.2 ≠ .cell
  free : ∀ y ∈ F2, scope.names.lookup y = some .free
  nd : F2.Nodup
/-- at f lies a lambda whose captured names have the values σ2 -/
structure Clo (fs : List Addr) (h : Heap) (H : Hp) (f : Addr) (qual : Str) (params : Arguments) (body : Expr) (scope : Scope) (F2 : List Str) (σ2 : St) (pm cv ctv : Value) (cl : List (Str × Addr)) : Prop where
  obj : h.get? f = some { cls := .type "function", data := .func (kla_fn "<lambda>" qual params body scope cl pm cv ctv) }
  fH : H f = none
  ffs : f ∉ fs
  code : CodeK H cv qual
  cel : ∀ y c, cl.lookup y = some c → (∃ v, h.IsCell c v) ∧ H c = none ∧ c ∉ fs
  inj : ∀ x y c, cl.lookup x = some c → cl.lookup y = some c → x = y
  has : ∀ x, scope.names.lookup x = some .free → ∃ c, cl.lookup x = some c
  vals : ∀ (j : Nat) (y : Str) (v : V), F2[j]? = some y → σ2[j]? = some (some v) → ∃ u c, RelV v u ∧ cl.lookup y = some c ∧ h.IsCell c (some u)
  len : σ2.length = F2.length
section
variable {P : Program} {w : World} {K : PySem.W.Frag} {mg : Str → Option Value} {base : Heap} {k : Nat} {f : Addr} {qual : Str} {params : Arguments} {body : Expr} {scope : Scope} {F2 : List Str} {σ2 : St} {pm cv ctv : Value} {cl : List (Str × Addr)}
  {A : Around} {outer : List Env} {s : Shared} {H : Hp}
/-- later, from within a body -/
theorem Clo.later {X : Cx} {pins : List (Addr × Obj)} {σ : St} (C : Clo X.fs X.s_0.heap X.H_0 f qual params body scope F2 σ2 pm cv ctv cl) (hex : X.ex = []) (I : Inv X pins σ H s) : Clo (frs X.stack) s.heap H f qual params body scope F2 σ2 pm cv ctv cl := by
  have nex : ∀ b, b ∉ X.ex := fun b z => by rw [hex] at z; cases z
  have out : ∀ b o, X.s_0.heap.get? b = some o → b ∉ X.fs → b ∉ frs X.stack := fun b o e n z => by
    rcases List.mem_cons.mp (I.stkSub b z) with q | q
    · have h1 := Heap.lt_size e
      have h3 := I.ok.above
      rw [q] at h1
      exact absurd (Nat.lt_of_lt_of_le h1 h3) (Nat.lt_irrefl _)
    · exact n q
  have keep : ∀ c v, X.s_0.heap.IsCell c v → X.H_0 c = none → c ∉ X.fs → s.heap.IsCell c v ∧ H c = none ∧ c ∉ frs X.stack := fun c v ⟨o, e, d⟩ n z =>
    ⟨⟨o, I.base.keep c o e n z (nex c), d⟩, I.base.free c o e n (nex c), out c o e z⟩
  refine ⟨I.base.keep f _ C.obj C.fH C.ffs (nex f), I.base.free f _ C.obj C.fH (nex f), out f _ C.obj C.ffs, ?_, fun y c e => ?_, C.inj, C.has, fun j y v e1 e2 => ?_, C.len⟩
  · obtain ⟨b, o, u, vs, t, e1, e2, e3⟩ := C.code
    exact ⟨b, o, u, vs, t, e1, I.base.frzs _ _ _ e2, e3⟩
  · obtain ⟨⟨v, a⟩, b, d⟩ := C.cel y c e
    obtain ⟨q1, q2, q3⟩ := keep c v a b d
    exact ⟨⟨v, q1⟩, q2, q3⟩
  · obtain ⟨u, c, r, l, i⟩ := C.vals j y v e1 e2
    obtain ⟨_, b, d⟩ := C.cel y c l
    exact ⟨u, c, r, l, (keep c _ i b d).1⟩
theorem inv_lam {CX : CXT} {E : XK} {h1 : Heap} {t1 : Nat} {m : Str → Option Value} {fo : Obj} (S : LamScope scope F2) (hd : A.handled = none) (e0 : Env0 P w K mg base A outer s H) (C : Clo (frs outer) s.heap H f qual params body scope F2 σ2 pm cv ctv cl)
    (hns : h1.Ns s.heap.objs.size m) (hsb : Heap.SameBut s.heap.objs.size (s.heap.push fo) h1) :
    Inv (cxLam CX P w K mg base F2 qual scope f cv cl A outer s H E) [] σ2 H { s with heap := h1, toks := t1 } := by
  have hk : ∀ b o, s.heap.get? b = some o → h1.get? b = some o := fun b o e => hsb.extBut b o (Nat.ne_of_lt (Heap.lt_size e)) (Heap.get?_push_of_some _ e)
  have noA : ∀ b : Addr, b ∉ (cxLam CX P w K mg base F2 qual scope f cv cl A outer s H E).ex := fun b z => absurd (show b ∈ ([] : List Addr) from z) (by simp)
  have kc : ∀ c v, s.heap.IsCell c v → h1.IsCell c v := fun c v ⟨o, e, d⟩ => ⟨o, hk c o e, d⟩
  refine ⟨⟨e0.mod, S.kind, rfl, rfl, Nat.le_refl _, C.inj, fun y hy => ?_, fun y c z => (nomatch z), fun _ => hd, Around.frames_deeper e0.frames, .inr ⟨rfl, rfl⟩, fun b z => absurd z (noA b), e0.bs, e0.bsz, fun b _ _ => noA b, fun b z => absurd z (noA b), e0.funs, e0.frf⟩,
    rfl, e0.bare, Un.kept hk, ⟨_, hns, fun i y v h1 h2 h3 => ?_⟩, fun y c h => ?_, e0.hok.fresh (Nat.le_refl _), fun y c h => (C.cel y c h).2.1, fun p hp => absurd (show p ∈ ([] : List (Addr × Obj)) from hp) (by simp), e0.hok.kept hk, C.len⟩
  · have hy : scope.names.lookup y = some .cell ∨ scope.names.lookup y = some .free := hy
    rcases hy with hy | hy
    · exact absurd rfl (S.nocell _ (PySem.mem_of_lookup hy))
    · exact C.has y hy
  · obtain ⟨u, c, r, l, ic⟩ := C.vals i y v h1 h2
    exact ⟨u, r, .inr ⟨.inr (S.free y (List.mem_of_getElem? h1)), c, l, kc _ _ ic⟩⟩
  · obtain ⟨⟨v, a⟩, _⟩ := C.cel y c h
    exact ⟨v, kc _ _ a⟩
/-- a lambda of no parameter runs -/
theorem lam_run {CX : CXT} {E : XK} {Q : VK} {t : TE} (S : LamScope scope F2) (hr : Room (k + 1) A) (e0 : Env0 P w K mg base A outer s H) (C : Clo (frs outer) s.heap H f qual params body scope F2 σ2 pm cv ctv cl)
    (hbind : bindArgs (kla_fn "<lambda>" qual params body scope cl pm cv ctv) ⟨[], []⟩ = pure [])
    (hb : PE (cxLam CX P w K mg base F2 qual scope f cv cl A outer s H E) body t) (hq : t σ2 H Q) :
    codeAny (model P w) A (.call (.ref f) ⟨[], []⟩) (CR CX outer P w H s Q E) s := by
  refine PySem.W.kla_callFunE hr.depth C.obj rfl S.co S.gen rfl (C.code.rec e0.hok) ?_
  rw [hbind]
  refine wpAny_pure (wpAny_newFunctionEnv S.nocell (fun x z => absurd z List.not_mem_nil) (fun h1 hns hsb => ⟨(e0.mod.nolimit.keeps fun b o e => (e0.bs b o e).1).fresh _ hsb, ?_⟩) S.kind)
  have I := inv_lam (CX := CX) (E := E) (t1 := s.toks + ([] : List (Str × Value)).length) S hr.hd e0 C hns hsb
  exact PySem.W.kla_codeExpr (wpAny_mono (hb [] _ σ2 H Q I hq) (fun u s' ⟨v, H', J, rv, q⟩ => ⟨v, H', J.os, J.bare, J.base, J.hok, rv, q⟩) fun e s' hx => hx)
end
section
variable {X : Cx} {k i : Nat} {f : Addr} {qual y : Str} {params : Arguments} {body : Expr} {scope : Scope} {F2 : List Str} {σ2 : St} {pm cv ctv : Value} {cl : List (Str × Addr)} {p pos : Pos} {CX : CXT} {t : TE}
/-- the call of a lambda that stands in a name -/
def tLam (i : Nat) (f : Addr) (σ2 : St) (t : TE) : TE := fun σ H Q => σ[i]? = some (some (.ref f)) ∧ t σ2 H Q
theorem pe_lam {E : XK} (S : LamScope scope F2) (hr : Room (k + 1) X.A) (hex : X.ex = []) (hx : Passes CX X E) (C : Clo X.fs X.s_0.heap X.H_0 f qual params body scope F2 σ2 pm cv ctv cl)
    (hbind : ∀ pm cv ctv cl, bindArgs (kla_fn "<lambda>" qual params body scope cl pm cv ctv) ⟨[], []⟩ = pure [])
    (hb : ∀ (s : Shared) (H : Hp), PE (cxLam CX X.prog X.w X.K X.mg X.base F2 qual scope f cv cl X.A X.stack s H E) body t) (hf : PE X (.Name y p) (tVar i)) :
    PE X (.Call (.Name y p) [] [] pos) (tLam i f σ2 t) := by
  intro pins s σ H Q I h
  obtain ⟨h1, h2⟩ := h
  refine wpAny_Call_Name_kw (thn (hf pins s σ H (fun v H' => v = .ref f ∧ H' = H) I ⟨_, h1, rfl, rfl⟩) fun u s1 ⟨v, H1, I1, r, e1, e2⟩ => ?_)
  subst e1; subst e2
  cases r
  have C1 := C.later hex I1
  refine PySem.W.callWith_F0 ⟨_, _, _, _, C1.obj⟩ ?_
  refine wpAny_call (codeAny_mono (lam_run (Q := Q) S hr I1.env0 C1 (hbind _ _ _ _) (hb s1 H1) h2) fun r s' hq => ?_)
  cases r with
  | error e => exact hx pins σ H1 s1 e s' I1 hq
  | ok fl =>
    cases fl with
    | ret u => exact I1.after hq
    | next => exact False.elim hq
    | brk => exact False.elim hq
    | cont => exact False.elim hq
end
end L2.Dm
set_option Elab.async false
set_option linter.all false
set_option maxRecDepth 100000
namespace L2.Dm
open PySem PySem.Spec PyProof.Rows L2
open PySem.W (tabObj envX kla_fn)
/-! ### defs that call a lambda within a try -/
section
variable {P : Program} {w : World} {K : PySem.W.Frag} {mg : Str → Option Value} {base : Heap} {F2 : List Str} {qual : Str} {scope : Scope} {f : Addr} {cv : Value} {cl : List (Str × Addr)} {A : Around} {outer : List Env} {s : Shared} {H : Hp} {E : XK}
/-- a lambda that exceptions may leave -/
theorem leaves_lam : Leaves (cxLam (CXW P w) P w K mg base F2 qual scope f cv cl A outer s H E) (fun C H1 => E (.ref C) none H1) := by
  constructor
  · intro pins σ H1 s1 e C h1 args I hE hx
    have fr := I.stack
    refine wpAny_leaves_madeW (base := PySem.W.hideAll s1.heap (frs (cxLam (CXW P w) P w K mg base F2 qual scope f cv cl A outer s H E).stack)) (h := s1.heap) I.ok.frames rfl (fun b o q => PySem.W.of_hideAll _ q) (PySem.W.funFrames_hide fr fun env he a ha => List.mem_filterMap.mpr ⟨env, he, ha⟩) hx fun h' t fl tup tn up => ?_
    have I2 : Inv (cxLam (CXW P w) P w K mg base F2 qual scope f cv cl A outer s H E) pins σ H1 { s1 with heap := h1 } := I.kept (t' := s1.toks) hx.keeps
    refine ⟨e, C, H1, _, rfl, fly_leave I2 rfl rfl (fun b hc => ?_) (fun b o q => hx.keeps _ _ (PySem.W.of_hideAll _ q)) fl.1 up fl, hE⟩
    by_cases hb : b ∈ frs (cxLam (CXW P w) P w K mg base F2 qual scope f cv cl A outer s H E).stack
    · exact .inl hb
    · have ex : ∃ o, s1.heap.get? b = some o := by
        rcases hc with ⟨o, hc⟩ | ⟨u, hc⟩
        · exact I.base.there b o hc (fun z => by cases z)
        · exact obj_there (I.hok b u hc)
      obtain ⟨o, ho⟩ := ex
      exact .inr ⟨o, PySem.W.hideAll_get _ ho hb⟩
  · intro pins σ H0 s0 H1 B e C s' I F hE
    have I' := I.call' F.os F.un F.hok F.bare (fun b z => by cases z)
    obtain ⟨a0, fl⟩ := F.fl
    refine wpAny_leaves_onW I'.ok.frames rfl fl fun h2 fl2 up => ?_
    refine ⟨e, C, H1, B, rfl, fly_leave I' rfl rfl (fun b hc => ?_) fl.1 fl2.1 up fl2, hE⟩
    refine F.cov b ?_
    rcases hc with ⟨o, hc⟩ | hc
    · exact .inl (I.base.there b o hc (fun z => by cases z))
    · exact .inr hc
end
section
variable {X : Cx} {body : List Stmt} {b₀ : Stmt} {suite : List Stmt} {S n : Str} {np hpos pos : Pos} {i : Nat} {g : XS} {subs : Str → Bool}
/-- the wanted, where one of the class c flies at the heap h1 -/
def Wc (X : Cx) (c : Str) (m z : List Addr) (H : Hp) (h1 : AH) : Addr → Hp → Prop := fun C H1 => X.mg c = some (.ref C) ∧ ∃ m1, Aft m H m1 H1 ∧ HR X.K X.mg m1 z H1 h1
theorem back_try {pins : List (Addr × Obj)} {D : Ends} : ∀ (fl' : Flow) (s1 : Shared), SP X pins D fl' s1 → (match fl' with | .next => wpAny (model X.prog X.w) X.A (execs [] X.env) (SP X pins D) X.xe s1 | f => SP X pins D f s1) := fun fl' s1 h => by
  cases fl' with
  | next => exact wpAny_execs_nil h
  | brk => exact h
  | cont => exact h
  | ret u => exact h
/-- nothing flies -/
theorem try_ok {tb : TS} (hb : ∀ E pn, PSs (Cx.wishP X E pn) body tb) {pins : List (Addr × Obj)} {s : Shared} {σ : St} {H : Hp} {D : Ends} (I : Inv X pins σ H s) (hq : tb D σ H) :
    wpAny (model X.prog X.w) X.A (exec (.Try body [.ExceptHandler (some (.Name S np)) (some n) (b₀ :: suite) hpos] [] [] pos) X.env) (SP X pins D) X.xe s := by
  refine wpAny_Try_except ?_
  exact wpAny_mono (hb (ETry X S n np hpos b₀ suite pins D) (X.pn ++ pins) [] s σ H D (I.wishP _) hq) (fun fl' s1 hsp => back_try fl' s1 (SP.unwishP I.ok hsp)) (fun _ _ hx => hx)
/-- one flies and is caught -/
theorem try_raise {tb : (Addr → Hp → Prop) → TS} (hex : X.ex = []) (hst : X.stack = X.env :: X.outer) (hfr : X.env.frame = some X.env.locals) (hr : ∀ E pn W, Leaves (Cx.wishP X E pn) W → PSs (Cx.wishP X E pn) body (tb W))
    (hs : ∀ e : Value, DSs (Cx.mark X e).nox (b₀ :: suite) g) (hN : X.N.Nodup) (hi : X.N[i]? = some n) (hn : X.env.scope.names.lookup n = some .local) (hS : SubOk X S subs) (hg : Gl X S) (hdb : (S == ("__debug__" : Str)) = false)
    {pins : List (Addr × Obj)} {s : Shared} {σ : St} {H : Hp} {D : Ends} (I : Inv X pins σ H s) {m z : List Addr} {c : Str} {h1 h2 : AH} {y : AV} {a2 : AE} (hsc : subs c = true) (eg : g ((List.replicate X.N.length none).set i (some (.exc c))) h1 = some (.rt y, a2, h2))
    (hq : tb (Wc X c m z H h1) D σ H) (qq : ∀ H' m', Aft m H m' H' → HR X.K X.mg m' z H' h2 → ∀ v, RA X.K X.mg m' z H' v y → D.rt v H') :
    wpAny (model X.prog X.w) X.A (exec (.Try body [.ExceptHandler (some (.Name S np)) (some n) (b₀ :: suite) hpos] [] [] pos) X.env) (SP X pins D) X.xe s := by
  refine wpAny_Try_except ?_
  refine wpAny_mono (hr (ETry X S n np hpos b₀ suite pins D) (X.pn ++ pins) (Wc X c m z H h1) ⟨?_, ?_⟩ [] s σ H D (I.wishP _) hq) (fun fl' s1 hsp => back_try fl' s1 (SP.unwishP I.ok hsp)) (fun _ _ hx => hx)
  · intro pins' σ' H1 s1 e C h1' args I1 hw hx
    obtain ⟨hC, m1, f1, hr1⟩ := hw
    have I1' : Inv X pins σ' H1 s1 := I1.unwishP I.ok
    have F0 := fly0_made I1' hx
    have fr := hide_frames I1'
    show wpAny _ _ (noteFrame _ _) _ _ _
    refine looks_madeW (base := PySem.W.hideAll s1.heap (frs X.stack)) (h := s1.heap) (outer := X.outer) (by rw [I.ok.frames, hst]) hfr (fun b o q => PySem.W.of_hideAll _ q) (by rw [← hst]; exact fr) hx fun h4 t held up => ?_
    rw [← hst] at held
    exact caught hex hs hN hi hn hS hg I1' F0 held up hC hsc f1 hr1 eg qq hdb
  · intro pins' σ' H0 s0 H1 B e C s' I1 F hw
    obtain ⟨hC, m1, f1, hr1⟩ := hw
    have I1' : Inv X pins σ' H0 s0 := I1.unwishP I.ok
    obtain ⟨a0, fl⟩ := F.fl
    have fl' : Heap.FlyingW B (X.env :: X.outer) e (.ref C) a0 s'.heap := by rw [← hst]; exact fl
    show wpAny _ _ (noteFrame _ _) _ _ _
    refine wpAny_looks_onW (by rw [I.ok.frames, hst]) hfr fl' fun h4 held up => ?_
    rw [← hst] at held
    exact caught hex hs hN hi hn hS hg I1' F.toFly0 held up hC hsc f1 hr1 eg qq hdb
end
/-- a lambda of the text -/
structure LamT (P : Program) (w : World) (K : PySem.W.Frag) (mg : Str → Option Value) (base : Heap) (k : Nat) (qual : Str) (params : Arguments) (body : Expr) (scope : Scope) (F2 : List Str) (c : XE) (r : XR) : Prop where
  S : LamScope scope F2
  bind : ∀ pm cv ctv cl, bindArgs (kla_fn "<lambda>" qual params body scope cl pm cv ctv) ⟨[], []⟩ = pure []
  de : ∀ (f : Addr) (cv : Value) (cl : List (Str × Addr)) (A : Around) (outer : List Env) (s : Shared) (H : Hp), Room k (A.deeper (envX qual scope s.heap.objs.size f cv cl)) → DE (cxLam CX0 P w K mg base F2 qual scope f cv cl A outer s H E0).nox body c
  re : ∀ (f : Addr) (cv : Value) (cl : List (Str × Addr)) (A : Around) (outer : List Env) (s : Shared) (H : Hp) (E : XK), Room k (A.deeper (envX qual scope s.heap.objs.size f cv cl)) → RE (cxLam (CXW P w) P w K mg base F2 qual scope f cv cl A outer s H E) body r
/-- what a lambda that raises wants -/
def tRa (K : PySem.W.Frag) (mg : Str → Option Value) (r : XR) (E : XK) : TE := fun σ H _ => ∃ m z a h c h', HR K mg m z H h ∧ RS K mg m z H σ a ∧ r a h = some (c, h') ∧
  ∀ C H1 m1, mg c = some (.ref C) → Aft m H m1 H1 → HR K mg m1 z H1 h' → E (.ref C) none H1
section
variable {X : Cx} {k i : Nat} {f : Addr} {qual y : Str} {params : Arguments} {body : Expr} {scope : Scope} {F2 : List Str} {σ2 : St} {pm cv ctv : Value} {cl : List (Str × Addr)} {p pos : Pos} {c : XE} {r : XR}
theorem lam_tells (L : LamT X.prog X.w X.K X.mg X.base k qual params body scope F2 c r) (hr : Room (k + 1) X.A) (hex : X.ex = []) (C : Clo X.fs X.s_0.heap X.H_0 f qual params body scope F2 σ2 pm cv ctv cl) (hf : PE X (.Name y p) (tVar i)) :
    PE X (.Call (.Name y p) [] [] pos) (tLam i f σ2 (LF X.K X.mg (RA X.K X.mg) c)) :=
  pe_lam (CX := CX0) (E := E0) L.S hr hex pass0 C L.bind (fun s H => PE.nox (L.de f cv cl X.A X.stack s H (hr.deeper _))) hf
theorem lam_raises {W : Addr → Hp → Prop} (L : LamT X.prog X.w X.K X.mg X.base k qual params body scope F2 c r) (hr : Room (k + 1) X.A) (hex : X.ex = []) (C : Clo X.fs X.s_0.heap X.H_0 f qual params body scope F2 σ2 pm cv ctv cl) (hf : PE X (.Name y p) (tVar i)) (lv : Leaves X W) :
    PE X (.Call (.Name y p) [] [] pos) (tLam i f σ2 (tRa X.K X.mg r (eW W))) :=
  pe_lam (CX := CXW X.prog X.w) (E := eW W) L.S hr hex lv.passes C L.bind (fun s H pins s1 σ H1 Q I ⟨m, z, a, h, c, h', h1, h2, h3, h4⟩ =>
    L.re f cv cl X.A X.stack s H (eW W) (hr.deeper _) pins s1 σ H1 Q I ⟨m, z, a, h, c, h', h1, h2, h3, _, leaves_lam, h4⟩) hf
end
/-! ### the wrappings of the call -/
/-- e with a hole: its reading over the hole's -/
structure Wrap (X : Cx) (e0 e : Expr) (Kw : V → Hp → VK → Prop) : Prop where
  pe : ∀ t, PE X e0 t → PE X e (fun σ H Q => t σ H fun v H1 => Kw v H1 Q)
def KwL : V → Hp → VK → Prop := fun v H1 Q => [v].length ≤ sizeLine ∧ ∀ p, H1 p = none → Q (.ref p) (upd H1 p (.lst [v]))
abbrev WR := AV → AH → Option (AV × AH)
def wrL : WR := fun v h => some (.ref h.length, h ++ [.lst [v]])
def WrOk (K : PySem.W.Frag) (mg : Str → Option Value) (Kw : V → Hp → VK → Prop) (wr : WR) : Prop := ∀ m z H h v x y h2 (Q : VK), HR K mg m z H h → RA K mg m z H v x → wr x h = some (y, h2) →
  (∀ v' H' m', Aft m H m' H' → HR K mg m' z H' h2 → RA K mg m' z H' v' y → Q v' H') → Kw v H Q
section
variable {K : PySem.W.Frag} {mg : Str → Option Value}
theorem wrL_ok : WrOk K mg KwL wrL := fun m z H h v x y h2 Q hr ra e q => by
  cases e
  refine ⟨(by show (1 : Nat) ≤ sizeLine; decide), fun p hp => ?_⟩
  have fA : Aft m H (m ++ [p]) (upd H p (.lst [v])) := .add hp _
  have r1 : RAs K mg m z H [v] [x] := .cons ra .nil
  refine q (.ref p) _ (m ++ [p]) fA (hr.add hp ⟨[v], upd_same, r1.mono fA⟩) ⟨p, ?_, rfl⟩
  rw [← hr.len, List.getElem?_append_right (Nat.le_refl _)]
  simp
end
section
variable {X : Cx} {e0 : Expr} {pos p1 : Pos} {x1 j} {x : Str}
theorem wrapL (hs : starEach [e0] X.env = (false, eval e0 X.env) :: starEach [] X.env := by rfl) : Wrap X e0 (.List [e0] pos) KwL := ⟨fun t h => pe_lst (pa_cons h pa_nil hs)⟩
end
end L2.Dm
set_option Elab.async false
set_option linter.all false
set_option maxRecDepth 100000
namespace L2.Dm
open PySem PySem.Spec PyProof.Rows L2
open PySem.W (tabObj envX kla_fn)
/-! ### defs that are handed a lambda -/
abbrev SpS := List Env → Shared → List V → Hp → VK → Prop
structure FnOkS (P : Program) (w : World) (K : PySem.W.Frag) (mg : Str → Option Value) (base : Heap) (k : Nat) (f : Addr) (fd : FuncData) (ps : List Str) (sp : SpS) : Prop where
  run : ∀ (A : Around) (outer : List Env) (s : Shared) (H : Hp) (args : Args) (us : List Value) (vs : List V) (Q : VK), Room k A → Env0 P w K mg base A outer s H → BindsTo s fd args (ps.zip us) → Vals vs us → vs.length = ps.length → sp outer s vs H Q →
    codeAny (model P w) A (.call (.ref f) args) (CR CX0 outer P w H s Q E0) s
theorem fn_ofS {P : Program} {w : World} {K : PySem.W.Frag} {mg : Str → Option Value} {base : Heap} {k : Nat} {f : Addr} {name qual : Str} {params : Arguments} {body : List Stmt} {scope : Scope} {dV kV doc pm cdv ct oc : Value} {an od : Option Addr}
    {osl : Array (Option Value)} {N ps : List Str} {sp : SpS} (lk : K.lookup f = some ⟨oc, od, .func (PySem.W.fnOf name qual params body scope dV kV doc pm an cdv ct), osl⟩) (hcd : PySem.W.codeIn K cdv qual = true) (S : FnScope N ps scope)
    (hbody : ∀ (A : Around) (outer : List Env) (s : Shared) (H : Hp) (vs : List V) (Q : VK), Room k (A.deeper (envOfC qual scope s.heap.objs.size f cdv)) → sp outer s vs H Q →
      ∃ t, PSs (cxOf CX0 P w K mg base N qual scope f cdv A outer s H E0).nox body t ∧ t { nx := fun _ H' => Q .non H', rt := Q } (start N vs) H) :
    FnOkS P w K mg base (k + 1) f (PySem.W.fnOf name qual params body scope dV kV doc pm an cdv ct) ps sp := by
  refine ⟨fun A outer s H args us vs Q hr e0 hb r hl hsp => ?_⟩
  have KX : K.In s.heap := e0.mod.kin.keeps fun b o e => (e0.bs b o e).1
  have lim : s.heap.NoLimit := e0.mod.nolimit.keeps fun b o e => (e0.bs b o e).1
  have hkind : ∀ y ∈ ps.zip us, scope.names.lookup y.1 = some .local ∨ (scope.names.lookup y.1 = some .cell ∧ ((cellsFrom (s.heap.objs.size + 1) scope.names []).lookup y.1).isSome = true) := fun ⟨n, v⟩ hy => by
    rcases S.par n (List.of_mem_zip hy).1 with q | q
    · exact .inl q
    · exact .inr ⟨q, PySem.W.cellsFrom_some _ _ _ (.inl q)⟩
  refine codeAny_call_function hr.depth (KX _ _ lk) rfl S.co S.gen rfl (PySem.W.codeRec_of KX hcd) (hb _ _ _ _ ?_)
  refine wpAny_newFunctionEnv_cells S.kind hkind fun env he s1 x => ?_
  subst he
  refine ⟨lim.keeps x.toInCall.keep, codeAny_func ?_⟩
  obtain ⟨t, ht, hq⟩ := hbody A outer s H vs Q (hr.deeper _) hsp
  have I := inv_start (CX := CX0) (E := E0) S hr.hd e0 hl r x
  refine wpAny_mono (ht.nox [] s1 (start N vs) H _ I hq) (fun fl s' hs => ?_) fun e s' hs => hs
  have fin : ∀ {σ' : St} {H' : Hp} {v : V} {u : Value}, Inv (cxOf CX0 P w K mg base N qual scope f cdv A outer s H E0) [] σ' H' s' → RelV v u → Q v H' → CE outer P w H s Q u s' :=
    fun {σ' H' v u} J rv q => ⟨v, H', J.os, J.bare, J.base, J.hok, rv, q⟩
  cases fl with
  | ret u =>
    obtain ⟨v, σ', H', J, rv, q⟩ := hs
    exact fin J rv q
  | next =>
    obtain ⟨σ', H', J, q⟩ := hs
    exact fin (v := V.non) (u := Value.none) J rfl q
  | brk =>
    obtain ⟨_, _, _, q⟩ := hs
    exact False.elim q
  | cont =>
    obtain ⟨_, _, _, q⟩ := hs
    exact False.elim q
def FPS (P : Program) (w : World) (K : PySem.W.Frag) (mg : Str → Option Value) (base : Heap) (k : Nat) (x : Str) (ps : List Str) (sp : SpS) : Prop :=
  ∃ f fd, mg x = some (.ref f) ∧ PySem.W.keepIn K (.ref f) = true ∧ Binds K fd ps [] ∧ FnOkS P w K mg base k f fd ps sp
/-- what such a def promises: F the answer over the captured names -/
def spSd (K : PySem.W.Frag) (mg : Str → Option Value) (F : XE) (qual : Str) (params : Arguments) (body : Expr) (scope : Scope) (F2 : List Str) : SpS := fun outer s vs H Q => ∃ f σ2 pm cv ctv cl m z a2 h y h2, vs = [.ref f] ∧
  Clo (frs outer) s.heap H f qual params body scope F2 σ2 pm cv ctv cl ∧ HR K mg m z H h ∧ RS K mg m z H σ2 a2 ∧ F a2 h = some (y, h2) ∧ ∀ v' H' m', Aft m H m' H' → HR K mg m' z H' h2 → RA K mg m' z H' v' y → Q v' H'
/-- the caught end -/
def sdC (g : XS) (subs : Str → Bool) (nN i : Nat) (n : Str) (h1 : AH) : Option (AV × AH) := if subs n = true then (match g ((List.replicate nN none).set i (some (.exc n))) h1 with
  | some (.rt y, _, h2) => some (y, h2)
  | _ => none) else none
/-- try: return the call, wrapped; except: g -/
def sdR (c : XE) (r : XR) (wr : WR) (g : XS) (subs : Str → Bool) (nN i : Nat) : XE := fun a h => match c a h with
  | some (v, h1) => wr v h1
  | none => (match r a h with
    | some (n, h1) => sdC g subs nN i n h1
    | none => none)
theorem sdC_rt {g : XS} {subs : Str → Bool} {nN i : Nat} {n : Str} {h1 h2 : AH} {y : AV} (e : sdC g subs nN i n h1 = some (y, h2)) : subs n = true ∧ ∃ a2, g ((List.replicate nN none).set i (some (.exc n))) h1 = some (.rt y, a2, h2) := by
  unfold sdC at e
  split at e
  · rename_i hs
    split at e
    · rename_i y' a' h' eg
      cases e
      exact ⟨hs, a', eg⟩
    · cases e
  · cases e
section
variable {P : Program} {w : World} {K : PySem.W.Frag} {mg : Str → Option Value} {base : Heap} {k nN i : Nat} {x y S n : Str} {st : Stmt} {N : List Str} {qual : Str} {params : Arguments} {body : Expr} {scope : Scope} {F2 : List Str} {c : XE} {r : XR}
  {e : Expr} {p cpos rpos np hpos tpos : Pos} {b₀ : Stmt} {suite rest : List Stmt} {Kw : V → Hp → VK → Prop} {wr : WR} {g fr : XS} {subs : Str → Bool}
/-- the context of such a def's body -/
abbrev cxS (P : Program) (w : World) (K : PySem.W.Frag) (mg : Str → Option Value) (base : Heap) (N : List Str) (x : Str) (scope : Scope) (f : Addr) (cdv : Value) (A : Around) (outer : List Env) (s : Shared) (H : Hp) : Cx := (cxOf CX0 P w K mg base N x scope f cdv A outer s H E0).nox
theorem fd_okR1 (F : FD K mg x st [y]) (Sc : FnScope N [y] (defScope st)) (hN : N.length = nN) (L : LamT P w K mg base k qual params body scope F2 c r)
    (hbody : defBody st = [.Try [.Return (some e) rpos] [.ExceptHandler (some (.Name S np)) (some n) (b₀ :: suite) hpos] [] [] tpos])
    (hw : ∀ X : Cx, Wrap X (.Call (.Name y p) [] [] cpos) e Kw) (wo : WrOk K mg Kw wr)
    (hv : ∀ (f : Addr) (cdv : Value) (A : Around) (outer : List Env) (s : Shared) (H : Hp) (E : Value → Shared → Prop) (pn : List (Addr × Obj)), PE (Cx.wishP (cxS P w K mg base N x (defScope st) f cdv A outer s H) E pn) (.Name y p) (tVar 0))
    (hs : ∀ (f : Addr) (cdv : Value) (A : Around) (outer : List Env) (s : Shared) (H : Hp) (e : Value), Room (k + 1) (A.deeper (envOfC x (defScope st) s.heap.objs.size f cdv)) → DSs (Cx.mark (cxS P w K mg base N x (defScope st) f cdv A outer s H) e).nox (b₀ :: suite) g)
    (hi : N[i]? = some n) (hn : (defScope st).names.lookup n = some .local) (hS : ∀ X : Cx, X.K = K → X.mg = mg → SubOk X S subs)
    (hg : ∀ (f : Addr) (cdv : Value) (A : Around) (outer : List Env) (s : Shared) (H : Hp), Gl (cxS P w K mg base N x (defScope st) f cdv A outer s H) S) (hdb : (S == ("__debug__" : Str)) = false := by decide) :
    FPS P w K mg base (k + 2) x [y] (spSd K mg (sdR c r wr g subs nN i) qual params body scope F2) := by
  obtain ⟨f, fd, a, b, cc⟩ := F
  refine ⟨f, fd, a, b.kp, cc, ?_⟩
  obtain ⟨oc, od, kV, doc, pm, an, cdv, ct, osl, rfl, lk, hcd⟩ := b.ex
  refine fn_ofS lk hcd Sc fun A outer s H vs Q hr h => ⟨fun D σ H' => D = { nx := fun _ H' => Q .non H', rt := Q } ∧ σ = start N vs ∧ H' = H, ?_, rfl, rfl, rfl⟩
  rw [hbody]
  refine pss_one ?_
  rintro pins s1 σ H' D I ⟨rfl, rfl, rfl⟩
  obtain ⟨fl, σ2, pm, cv, ctv, cl, m, z, a2, h, yv, h2, rfl, C, hr0, rs, e1, q⟩ := h
  have h0 : (start N [V.ref fl])[0]? = some (some (.ref fl)) := rfl
  have C' : Clo (cxS P w K mg base N x (defScope st) f cdv A outer s H').fs s.heap H' fl qual params body scope F2 σ2 pm cv ctv cl := C
  unfold sdR at e1
  split at e1
  · rename_i v h1 ec
    refine try_ok (tb := tRet (fun σ H Q => tLam 0 fl σ2 (LF K mg (RA K mg) c) σ H fun v H1 => Kw v H1 Q)) (fun E pn => pss_one (ps_ret ((hw _).pe _ (lam_tells (X := Cx.wishP (cxS P w K mg base N x (defScope st) f cdv A outer s H') E pn) L hr rfl C' (hv f cdv A outer s H' E pn))))) I ?_
    exact ⟨h0, m, z, a2, h, v, h1, hr0, rs, ec, fun v' H1 m' f' hr' ra' => wo m' z H1 h1 v' v yv h2 _ hr' ra' e1 fun v'' H2 m2 f2 hr2 ra2 => q v'' H2 m2 (f'.trans f2) hr2 ra2⟩
  · rename_i ec
    split at e1
    · rename_i nm h1 er
      obtain ⟨hsc, a3, eg⟩ := sdC_rt e1
      refine try_raise (X := cxS P w K mg base N x (defScope st) f cdv A outer s H') (tb := fun W => tRet (fun σ H Q => tLam 0 fl σ2 (tRa K mg r (eW W)) σ H fun v H1 => Kw v H1 Q)) rfl rfl rfl
        (fun E pn W lv => pss_one (ps_ret ((hw _).pe _ (lam_raises (X := Cx.wishP (cxS P w K mg base N x (defScope st) f cdv A outer s H') E pn) L hr rfl C' (hv f cdv A outer s H' E pn) lv))))
        (fun e => hs f cdv A outer s H' e hr) Sc.nd hi hn (hS _ rfl rfl) (hg f cdv A outer s H') hdb I (m := m) (z := z) (h1 := h1) (h2 := h2) hsc (by show g ((List.replicate N.length none).set i _) h1 = _; rw [hN]; exact eg) ?_ (fun H1 m' f' hr' v ra => q v H1 m' f' hr' ra)
      exact ⟨h0, m, z, a2, h, nm, h1, hr0, rs, er, fun C2 H1 m1 hC f1 hr1 => ⟨C2, rfl, hC, m1, f1, hr1⟩⟩
    · cases e1
end
end L2.Dm
set_option Elab.async false
set_option linter.all false
set_option maxRecDepth 100000
namespace L2.Dm
open PySem PySem.Spec PyProof.Rows L2
open PySem.W (tabObj envX kla_fn)
/-! ### f(lambda: ..) -/
theorem HR.tabbed {K : PySem.W.Frag} {mg : Str → Option Value} {m z : List Addr} {H H' : Hp} {h : AH} {it : Nat} {P : Addr} {d : Str} (r : HR K mg m z H h) (hm : m[it]? = some P) (hh : h[it]? = some (.tab d))
    (kp : ∀ b o, b ≠ P → H b = some o → H' b = some o) (hP : ∃ ps, H P = some (.tbl ps)) (ok : TabOk K (hid m z H') H' d P) : HR K mg m z H' h ∧ Aft m H m H' := by
  have hPm : P ∈ m := List.mem_of_getElem? hm
  obtain ⟨ps, hP⟩ := hP
  have f : Aft m H m H' := by
    refine ⟨List.prefix_refl _, fun _ q => .inl q, fun a o e n => kp a o (fun z => n (z ▸ hPm)) e, fun a od u e => kp a _ (fun z => ?_) e⟩
    rw [z, hP] at e; cases e
  refine ⟨⟨r.len, r.nd, fun a ha => ⟨(r.out a ha).1, ?_⟩, fun i a o h1 h2 => ?_⟩, f⟩
  · have n := (r.out a ha).1
    have q := (r.out a ha).2
    cases e : H a with
    | none => exact absurd e q.ne
    | some o =>
      rw [kp a o (fun z => n (z ▸ hPm)) e, ← e]; exact q
  · by_cases hb : a = P
    · subst hb
      have hi : i = it := by
        have l1 := (List.getElem?_eq_some_iff.mp h1)
        have l2 := (List.getElem?_eq_some_iff.mp hm)
        obtain ⟨a1, a2⟩ := l1
        obtain ⟨b1, b2⟩ := l2
        have pw := List.pairwise_iff_getElem.mp r.nd
        rcases Nat.lt_trichotomy i it with q | q | q
        · exact absurd (a2.trans b2.symm) (pw i it a1 b1 q)
        · exact q
        · exact absurd (b2.trans a2.symm) (pw it i b1 a1 q)
      subst hi
      rw [hh] at h2; cases h2
      exact ok
    · have := r.at_ i a o h1 h2
      have k1 : ∀ o, H a = some o → H' a = some o := fun o e => kp a o hb e
      cases o with
      | lst xs => obtain ⟨vs, e, q⟩ := this; exact ⟨vs, k1 _ e, q.mono f⟩
      | dk xs => obtain ⟨vs, e, q⟩ := this; exact ⟨vs, k1 _ e, Paired.mapP q fun _ _ y => ⟨y.1, y.2.mono f⟩⟩
      | dt xs => obtain ⟨vs, e, q⟩ := this; exact ⟨vs, k1 _ e, Paired.mapP q fun _ _ y => ⟨y.1, y.2.mono f⟩⟩
      | gone => obtain ⟨od, u, e⟩ := this; exact ⟨od, u, k1 _ e⟩
      | tab x => exact TabOk.of this f.hid fun ps e => k1 _ e
/-- the cells that a lambda of env captures -/
def closOf (F2 : List Str) (env : Env) : List (Str × Addr) := F2.filterMap fun y => (env.cells.lookup y).map fun c => (y, c)
theorem closOf_lookup {env : Env} {y : Str} {c : Addr} : ∀ {F2 : List Str}, (closOf F2 env).lookup y = some c → y ∈ F2 ∧ env.cells.lookup y = some c
  | [], e => by cases e
  | x :: r, e => by
    unfold closOf at e
    rw [List.filterMap_cons] at e
    cases hx : env.cells.lookup x with
    | none =>
      rw [hx] at e
      obtain ⟨q1, q2⟩ := closOf_lookup (F2 := r) e
      exact ⟨List.mem_cons_of_mem _ q1, q2⟩
    | some cx =>
      rw [hx] at e
      simp only [Option.map_some, List.lookup_cons] at e
      split at e
      · rename_i hyx
        cases e
        have : y = x := by simpa using hyx
        subst this
        exact ⟨List.mem_cons_self, hx⟩
      · obtain ⟨q1, q2⟩ := closOf_lookup (F2 := r) e
        exact ⟨List.mem_cons_of_mem _ q1, q2⟩
theorem closOf_has {env : Env} {y : Str} {c : Addr} (hc : env.cells.lookup y = some c) : ∀ {F2 : List Str}, y ∈ F2 → (closOf F2 env).lookup y = some c
  | [], h => by cases h
  | x :: r, h => by
    unfold closOf
    rw [List.filterMap_cons]
    by_cases hyx : y = x
    · subst hyx
      rw [hc]
      simp
    · have hr : y ∈ r := (List.mem_cons.mp h).resolve_left hyx
      cases hx : env.cells.lookup x with
      | none => exact closOf_has hc hr
      | some cx =>
        simp only [Option.map_some, List.lookup_cons]
        rw [show (y == x) = false by simpa using hyx]
        exact closOf_has hc hr
def pick {α : Type} (ix : List Nat) (σ : List (Option α)) : List (Option α) := ix.map fun i => (σ[i]?).join
theorem RS.pick {K : PySem.W.Frag} {mg : Str → Option Value} {m z : List Addr} {H : Hp} {σ : St} {a : AE} (r : RS K mg m z H σ a) (ix : List Nat) : RS K mg m z H (Dm.pick ix σ) (Dm.pick ix a) := by
  refine ⟨by simp [Dm.pick], fun j x e => ?_⟩
  unfold Dm.pick at e ⊢
  rw [List.getElem?_map] at e ⊢
  cases hi : ix[j]? with
  | none => rw [hi] at e; cases e
  | some i =>
    rw [hi] at e
    simp only [Option.map_some, Option.some.injEq] at e ⊢
    cases ha : a[i]? with
    | none => rw [ha] at e; cases e
    | some o =>
      rw [ha] at e
      have e' : o = some x := e
      subst e'
      obtain ⟨v, h1, h2⟩ := r.2 i x ha
      exact ⟨v, by rw [h1]; rfl, h2⟩
/-- f(lambda: ..), of a def with the table at it -/
def xSaid (it : Nat) (d : Str) (ix : List Nat) (F : XE) : XE := fun a h => match h[it]? with
  | some (.tab d') => if d' = d then F (pick ix a) h else none
  | _ => none
section
variable {X : Cx} {k it : Nat} {x y d qual : Str} {params : Arguments} {body : Expr} {scope : Scope} {F2 : List Str} {ix : List Nat} {F : XE} {c P : Addr} {p pos lpos : Pos}
theorem de_said (G : FPS X.prog X.w X.K X.mg X.base k x [y] (spSd X.K X.mg F qual params body scope F2)) (hr : Room k X.A) (hg : Gl X x) (B : ∃ c P, PySem.W.tabIn X.K d = some (c, P) ∧ LamB X.mg X.base c P ∧ X.env.code = .ref c)
    (S : LamScope scope F2) (hcl : closureFor scope X.env = pure (closOf F2 X.env)) (hq : X.env.qual ++ ("<lambda>" : Str) = qual) (hqd : qual = lamQ d) (hix : ix.map (fun i => X.N[i]?) = F2.map some)
    (hck : ∀ y ∈ F2, X.env.scope.names.lookup y = some .cell) (hfr : ∀ q ∈ scope.names, q.2 = .free → q.1 ∈ F2) (hfn : ∀ y, X.fn y = true)
    (hdef : defaultsOf params X.env = ([], []) := by rfl) (hdb : (x == ("__debug__" : Str)) = false := by decide)
    (he : starEach [.Lambda params body scope lpos] X.env = (false, eval (.Lambda params body scope lpos) X.env) :: starEach [] X.env := by rfl) (hpl : (backTo pos (starEach [] X.env)).any (·.1) = false := by rfl) :
    DE X (.Call (.Name x p) [.Lambda params body scope lpos] [] pos) (xSaid it d ix F) := by
  intro pins s σ H Q I hq0
  obtain ⟨c, P, hti, B, hcode⟩ := B
  obtain ⟨g, fd, hm, hk, hb, G⟩ := G
  obtain ⟨m, z, a, h, yv, h2, hr0, rs, e, q⟩ := hq0
  unfold xSaid at e
  split at e
  · rename_i d' hh
    split at e
    · rename_i hd
      subst hd
      have hil : it < m.length := by rw [hr0.len]; exact (List.getElem?_eq_some_iff.mp hh).1
      have hmit : m[it]? = some m[it] := List.getElem?_eq_getElem hil
      obtain ⟨c', ps, t1, t2, t3, t4⟩ := hr0.at_ it _ _ hmit hh
      rw [hti] at t1
      have eP : P = m[it] := by have := Option.some.inj t1; exact (Prod.mk.inj this).2
      rw [← eP] at t2 hmit
      refine wpAny_Call_Name_kw (ld_glob I hg hm ?_ hdb)
      refine PySem.W.callWith_K (h₀ := X.base) I.ok.mod.kin hk ?_ he hpl
      rw [he]
      show wpAny _ _ (spliced ((false, eval (.Lambda params body scope lpos) X.env) :: backTo pos (starEach [] X.env))) _ _ s
      have ck : ∀ pos cv, codeAmong pos ps.toList = some cv → CodeK H cv qual := fun pos' cv e => by
        obtain ⟨b, o, u, vs, t, q1, q2, q3, q4⟩ := t4 pos' cv e
        exact ⟨b, o, u, vs, t, q1, (hid_some.mp q2).2.2, q3, by rw [hqd]; exact q4⟩
      refine Calls.spliced_cons (lam_made I B hcode t2 t3 (fun cv e => ck lpos cv e) hcl hdef hq (fun p hp => Heap.lt_size (I.pin p hp).1) fun f pm cv ctv H' s' I' hfs ho fH cK kp nw tb => ?_)
      refine Calls.spliced_nil ⟨I'.kIn, ?_⟩
      obtain ⟨ps', u1, u2, u3⟩ := tb
      have hPm : P ∈ m := List.mem_of_getElem? hmit
      have ok : TabOk X.K (hid m z H') H' d' P := ⟨c, ps', hti, u1, u2, fun pos' cv' e => by
        rcases u3 pos' cv' e with q | q
        · obtain ⟨b, o, u, vs, t, q1, q2, q3, q4⟩ := t4 pos' cv' q
          obtain ⟨w1, w2, w3⟩ := hid_some.mp q2
          exact ⟨b, o, u, vs, t, q1, hid_some.mpr ⟨w1, w2, kp _ _ (fun z => w1 (z ▸ hPm)) w3⟩, q3, q4⟩
        · obtain ⟨b, o, u, vs, t, q1, q0, q2, q3, q4⟩ := q
          obtain ⟨w1, w2⟩ := free_m hr0 q0
          exact ⟨b, o, u, vs, t, q1, hid_some.mpr ⟨w1, w2, q2⟩, q3, by rw [← hqd]; exact q4⟩⟩
      obtain ⟨hr1, fA⟩ := hr0.tabbed hmit hh kp ⟨ps, t2⟩ ok
      have frl : ∀ b ∈ frs X.stack, b < s.heap.objs.size := fun b hb' => by
        rcases List.mem_cons.mp (I.stkSub b hb') with q | q
        · rw [q]; exact I.lt
        · obtain ⟨_, o, ho, _⟩ := I.ok.funs.mem q
          exact Nat.lt_of_lt_of_le (Heap.lt_size ho) I.sz
      have C : Clo (frs X.stack) s'.heap H' f qual params body scope F2 (Dm.pick ix σ) pm cv ctv (closOf F2 X.env) := by
        refine ⟨ho, fH, fun z => absurd (Nat.lt_of_lt_of_le (frl f z) hfs) (Nat.lt_irrefl _), cK, fun y' c1 e' => ?_, fun x1 y1 c1 e1 e2 => I.ok.inj x1 y1 c1 (closOf_lookup e1).2 (closOf_lookup e2).2, fun x1 e' => ?_, fun j y1 v e1 e2 => ?_, ?_⟩
        · obtain ⟨w1, w2⟩ := closOf_lookup e'
          refine ⟨I'.cell y' c1 w2, I'.freeC y' c1 w2, fun z => ?_⟩
          rcases List.mem_cons.mp (I.stkSub c1 z) with q | q
          · exact I.cne y' c1 w2 q
          · obtain ⟨_, o, ho, _⟩ := I.ok.funs.mem q
            exact absurd (Nat.lt_of_lt_of_le (Heap.lt_size ho) (I.ok.cab y' c1 (hfn y') w2)) (Nat.lt_irrefl _)
        · have w1 := hfr _ (PySem.mem_of_lookup e') rfl
          obtain ⟨c1, w2⟩ := I.ok.has x1 (.inl (hck _ w1))
          exact ⟨c1, closOf_has w2 w1⟩
        · have hj : ix[j]?.map (fun i => X.N[i]?) = some (some y1) := by
            have := congrArg (fun l => l[j]?) hix
            simp only [List.getElem?_map] at this
            rw [this, e1]; rfl
          obtain ⟨i, hi, hn⟩ := Option.map_eq_some_iff.mp hj
          have hs : σ[i]? = some (some v) := by
            unfold Dm.pick at e2
            rw [List.getElem?_map, hi] at e2
            simp only [Option.map_some, Option.some.injEq] at e2
            cases hσ : σ[i]? with
            | none => rw [hσ] at e2; cases e2
            | some o => rw [hσ] at e2; have : o = some v := e2; rw [this]
          have w1 : y1 ∈ F2 := List.mem_of_getElem? e1
          have kc := hck _ w1
          obtain ⟨mm, hns, hl⟩ := I'.loc
          obtain ⟨u, rv, lk⟩ := hl i y1 v hn hs (.inr (.inl kc))
          rcases lk with ⟨k1, _⟩ | ⟨_, c1, w2, ic⟩
          · have : X.env.scope.names.lookup y1 = some .local := k1
            rw [kc] at this; cases this
          · exact ⟨u, c1, rv, closOf_has w2 w1, ic⟩
        · have := congrArg List.length hix
          simp only [List.length_map] at this
          simp [Dm.pick, this]
      have hl : ([Value.ref f] ++ []).length = [y].length := rfl
      have hb1 := hb s' [.ref f] I'.kIn hl
      refine wpAny_call (codeAny_mono (G.run X.A X.stack s' H' ⟨[.ref f], []⟩ [.ref f] [.ref f] Q hr I'.env0 hb1 (.cons rfl .nil) rfl ⟨f, Dm.pick ix σ, pm, cv, ctv, _, m, z, Dm.pick ix a, h, yv, h2, rfl, C, hr1, (rs.mono fA).pick ix, e, fun v' H1 m' f' hr' ra' => q v' H1 m' (fA.trans f') hr' ra'⟩) fun r s2 hq2 => ?_)
      cases r with
      | error e => exact False.elim hq2
      | ok fl =>
        cases fl with
        | ret u => exact I'.after hq2
        | next => exact False.elim hq2
        | brk => exact False.elim hq2
        | cont => exact False.elim hq2
    · cases e
  · cases e
end
end L2.Dm
set_option Elab.async false
set_option linter.all false
set_option maxRecDepth 100000
namespace L2.Dm
open PySem PySem.Spec PyProof.Rows L2
open PySem.W (tabObj envX kla_fn)
/-! ### isinstance of an exception -/
/-- T: of a raised class and a class, whether the one is below the other -/
def isinE (T : Str → AV → Option Bool) : List AV → AH → Option (AV × AH) := fun xs h => match xs with
  | [.exc c, k] => (match T c k with | some b => some (.d (.bool b), h) | none => none)
  | _ => none
def IsE (K : PySem.W.Frag) (mg : Str → Option Value) (T : Str → AV → Option Bool) : Prop := ∀ c k b, T c k = some b → ∀ C, mg c = some (.ref C) → ExcLook K C ∧ match k with
  | .fn n => ∀ C', mg n = some (.ref C') → PySem.W.kitOne K (.ref C) (.ref C') = some b
  | .ty n => PySem.W.kitOne K (.ref C) (.type n) = some b
  | _ => False
theorem b_isinE {X : Cx} {T : Str → AV → Option Bool} (hT : IsE X.K X.mg T) : CallR X (.builtin "isinstance") (rc X.K X.mg (isinE T)) := by
  intro pins s σ H vs us Q I r hq
  obtain ⟨m, z, h, xs, w, h', hr, ra, e, q⟩ := hq
  unfold isinE at e
  split at e
  · rename_i c k
    split at e
    · rename_i b hb
      cases e
      cases ra with
      | cons r1 r2 =>
        cases r2 with
        | cons r3 r4 =>
          cases r4
          obtain ⟨u, w', rfl, ru, rw'⟩ := vals2 r
          obtain ⟨a, C, o, uu, rfl, e2, e3, e4⟩ := r1
          obtain rfl : u = Value.ref a := ru
          obtain ⟨oh, _⟩ := I.hok a _ (hid_some.mp e2).2.2
          have I0 : Inst0 s.heap a o C := ⟨oh, e3⟩
          have q' := q (.bl b) H m (.refl _ _) hr (.bl _)
          obtain ⟨L, hk⟩ := hT c k b hb C e4
          cases k with
          | fn n =>
            obtain ⟨f, hf, rfl⟩ := r3
            obtain rfl : w' = Value.ref f := rw'
            exact PySem.W.kia_one (kitx_exc L) I.kIn I0 (hk f hf) (fun z => nomatch z) fun tk => ⟨.bl b, H, I.tok _, rfl, q'⟩
          | ty n =>
            cases r3
            obtain rfl : w' = Value.type n := rw'
            exact PySem.W.kia_one (kitx_exc L) I.kIn I0 hk (fun z => nomatch z) fun tk => ⟨.bl b, H, I.tok _, rfl, q'⟩
          | d _ => exact hk.elim
          | ref _ => exact hk.elim
          | raw _ => exact hk.elim
          | exc _ => exact hk.elim
    · cases e
  · cases e
/-- tab: the raised classes with all own classes above them; tested: the classes that are asked for -/
def excT (tab : List (Str × List Str)) (tested : List Str) : Str → AV → Option Bool := fun c k => match tab.lookup c with
  | some l => (match k with
    | .fn n => if tested.contains n then some (l.contains n) else none
    | .ty n => if n = "ValueError" then some true else none
    | _ => none)
  | none => none
theorem isE_of {K : PySem.W.Frag} {mg : Str → Option Value} {tab : List (Str × List Str)} {tested : List Str}
    (h : ∀ p ∈ tab, ∃ C, mg p.1 = some (.ref C) ∧ ExcLook K C ∧ PySem.W.kitOne K (.ref C) (.type "ValueError") = some true ∧ ∀ n ∈ tested, ∃ C', mg n = some (.ref C') ∧ PySem.W.kitOne K (.ref C) (.ref C') = some (p.2.contains n)) : IsE K mg (excT tab tested) := by
  intro c k b e C hC
  unfold excT at e
  split at e
  · rename_i l hl
    obtain ⟨C2, h1, h2, h3, h4⟩ := h (c, l) (PySem.mem_of_lookup hl)
    rw [hC] at h1
    cases h1
    refine ⟨h2, ?_⟩
    split at e
    · rename_i n
      split at e
      · rename_i hn
        cases e
        intro C' hC'
        obtain ⟨C3, q1, q2⟩ := h4 n (by simpa using hn)
        rw [hC'] at q1
        cases q1
        exact q2
      · cases e
    · rename_i n
      split at e
      · rename_i hn
        subst hn
        cases e
        exact h3
      · cases e
    · cases e
  · cases e
theorem room_unm {k : Nat} {A : Around} {e : Value} (r : Room k A) : Room k (unm (A.mark (some e))) := ⟨rfl, r.dp, r.un, r.gd⟩
theorem tabIn_of {K : PySem.W.Frag} {x : Str} {f c P : Addr} {oc occ : Value} {od ocd : Option Addr} {osl ocs : Array (Option Value)} {fd : FuncData} {vs : Array Value} (h1 : PySem.W.nsIn K mainGlobals x = some (some (.ref f))) (h2 : K.lookup f = some ⟨oc, od, .func fd, osl⟩) (h3 : fd.code = .ref c)
    (h4 : K.lookup c = some ⟨occ, ocd, .fields vs, ocs⟩) (h5 : vs[11]? = some (.ref P)) : PySem.W.tabIn K x = some (c, P) := by
  unfold PySem.W.tabIn
  simp only [h1, h2, h3, h4, h5]
theorem mroHas_of {K : PySem.W.Frag} {C : Addr} {v : Value} (e : PySem.W.mroIn K C v = some true) : mroHas K C v = true := by
  obtain ⟨cd, h1, h2⟩ := Option.bind_eq_some_iff.mp e
  split at h2
  · cases h2
  · have h3 := Option.some.inj h2
    unfold PySem.W.clsIn at h1
    unfold mroHas
    split at h1
    · rename_i ho
      have := Option.some.inj h1
      subst this
      rw [ho]; exact h3
    · cases h1
theorem subOk_of {K : PySem.W.Frag} {mg : Str → Option Value} {S : Str} {tab : List Str} (h : ∃ CS, ExcK K mg S CS ∧ ∀ c ∈ tab, ∃ C, ExcK K mg c C ∧ PySem.W.mroIn K C (.ref CS) = some true) : ∀ X : Cx, X.K = K → X.mg = mg → SubOk X S fun c => tab.contains c := by
  rintro X rfl rfl
  obtain ⟨CS, h1, h2⟩ := h
  refine ⟨⟨CS, h1⟩, fun c hc C hC => ?_⟩
  obtain ⟨C2, q1, q2⟩ := h2 c (by simpa using hc)
  have e := q1.1
  rw [hC] at e
  cases e
  refine ⟨q1, fun CS' hS => ?_⟩
  have e := h1.1
  rw [hS] at e
  cases e
  exact mroHas_of q2
/-- what a law with lambdas wants of the base -/
structure LamW (K : PySem.W.Frag) (mg : Str → Option Value) (base : Heap) (names : List Str) : Prop where
  kin : K.In base
  glob : base.Ns mainGlobals mg
  lam : ∀ x ∈ names, ∃ c P, PySem.W.tabIn K x = some (c, P) ∧ LamB mg base c P
theorem LamW.code {K : PySem.W.Frag} {mg : Str → Option Value} {base : Heap} {names : List Str} {x : Str} {f : Addr} {fd : FuncData} {oc : Value} {od : Option Addr} {osl : Array (Option Value)} (W : LamW K mg base names) (hx : x ∈ names) (hm : mg x = some (.ref f)) (lk : K.lookup f = some ⟨oc, od, .func fd, osl⟩) :
    ∃ c P, PySem.W.tabIn K x = some (c, P) ∧ LamB mg base c P ∧ fd.code = .ref c := by
  obtain ⟨c, P, h1, h2⟩ := W.lam x hx
  exact ⟨c, P, h1, h2, PySem.W.law_code W.kin W.glob h1 hm (W.kin _ _ lk) rfl⟩
/-! ### the law's own entry, over the tables of the defs with lambdas -/
def spLawT (K : PySem.W.Frag) (names : List Str) : Sp := fun vs H Q _ => ∃ (a : Addr) (ns : List Int) (Ps : List Addr), vs = [.ref a] ∧ SqL K H a (ns.map V.int) ∧ ns.length ≤ 63 ∧ Ps.Nodup ∧ Ps.length = names.length ∧ a ∉ Ps ∧
  (∀ (i : Nat) (x : Str) (P : Addr), names[i]? = some x → Ps[i]? = some P → ∃ c, PySem.W.tabIn K x = some (c, P) ∧ H P = some (.tbl #[])) ∧ ∀ H', Q (.bl true) H'
theorem sqL_hid {K : PySem.W.Frag} {H : Hp} {a : Addr} {xs : List V} {m z : List Addr} (s : SqL K H a xs) (h1 : a ∉ m) (h2 : a ∉ z) : SqL K (hid m z H) a xs := by
  rcases s with s | s
  · rcases s with s | ⟨o, s⟩
    · exact .inl (.inl (hid_some.mpr ⟨h1, h2, s⟩))
    · exact .inl (.inr ⟨o, hid_some.mpr ⟨h1, h2, s⟩⟩)
  · exact .inr s
theorem law_okT {P : Program} {w : World} {K : PySem.W.Frag} {mg : Str → Option Value} {base : Heap} {x : Str} {st : Stmt} {f : Addr} {fd : FuncData} {N ps : List Str} {k nN : Nat} {g : XS} {names : List Str} (F : Fun K x x st f fd) (S : FnScope N ps (defScope st)) (hn : ps.length = 1) (hN : N.length = nN)
    (hb : ∀ (cdv : Value) (A : Around) (outer : List Env) (s : Shared) (H : Hp) (E : XK), (∀ names', LamW K mg base names' → x ∈ names' → mg x = some (.ref f) → ∃ c P, PySem.W.tabIn K x = some (c, P) ∧ LamB mg base c P ∧ cdv = .ref c) → Room k (A.deeper (envOfC x (defScope st) s.heap.objs.size f cdv)) → DSs (cxOf CX0 P w K mg base N x (defScope st) f cdv A outer s H E).nox (defBody st) g)
    (hl : ∀ ns : List Int, ns.length ≤ 63 → ∃ h', fnF nN g [.d (.list (ns.map PyData.int))] (names.map AO.tab) = some (.d (.bool true), h')) : FnOk P w K mg base CX0 (k + 1) f fd ps (spLawT K names) := by
  obtain ⟨oc, od, kV, doc, pm, an, cdv, ct, osl, rfl, lk, hcd⟩ := F.ex
  refine L2.fn_of lk hcd S (fun vs H Q E h => ?_) fun A outer s H vs Q E hr h => ⟨_, (hb cdv A outer s H E (fun names' W hx hm => W.code hx hm lk) hr).nox, ?_⟩
  · obtain ⟨a, ns, _, rfl, _⟩ := h
    rw [hn]; rfl
  · obtain ⟨a, ns, Ps, rfl, hs, hlen, nd, pl, na, ht, q⟩ := h
    obtain ⟨h', e⟩ := hl ns hlen
    refine body_of (n := 1) (E := E) hN ⟨rfl, Ps, [], names.map AO.tab, [.d (.list (ns.map PyData.int))], _, h', ⟨by rw [pl, List.length_map], nd, fun _ z => absurd z List.not_mem_nil, fun i b o z1 z2 => ?_⟩, .cons ?_ .nil, e, fun v H' m' _ _ r => ?_⟩
    · rw [List.getElem?_map] at z2
      obtain ⟨x1, hx, rfl⟩ := Option.map_eq_some_iff.mp z2
      obtain ⟨c, t1, t2⟩ := ht i x1 b hx z1
      exact ⟨c, #[], t1, t2, trivial, fun pos cv e => by cases e⟩
    · show DP K (hid Ps [] H) (.ref a) _
      exact .lst (sqL_hid hs na List.not_mem_nil) (DPs.of_ints ns)
    · cases r
      exact q H'
/-- THE HEAD, for a law with lambdas -/
theorem law_callT {P : Program} {w : World} {K : PySem.W.Frag} {mg mb : Str → Option Value} {k : Nat} {fa a : Addr} {fd : FuncData} {x : Str} {s₁ : Shared} {vs : List Value} {ns : List Int} {names : List Str} {tabs : List (Addr × Addr)}
    (KX : K.In s₁.heap) (hns : s₁.heap.Ns mainGlobals mg) (hb : s₁.heap.Ns builtinsNs mb) (hbb : ∀ x : Str, x ≠ "__name__" → mb x = bootBuiltins x) (hlim : s₁.heap.NoLimit) (hg : s₁.gens = #[])
    (ha : s₁.heap.get? a = some { cls := .type "list", data := .seq vs.toArray }) (hi : IntsAre vs ns) (hl : ns.length ≤ 63) (hr : Room k callerA)
    (hT : PySem.W.TabsAt tabs s₁.heap) (hnK : PySem.W.noTabs K = true) (hti : names.map (PySem.W.tabIn K) = tabs.map some) (hnd : (tabs.map (·.2)).Nodup)
    (hbm : ∃ bm ob, mg "__builtins__" = some (.ref bm) ∧ bm ≠ builtinsNs ∧ s₁.heap.get? bm = some ob ∧ ob.cls = .type "module" ∧ ob.dict = some builtinsNs ∧ ob.data = .plain)
    (F : ∀ base : Heap, LamW K mg base names → FnOk P w K mg base CX0 k fa fd [x] (spLawT K names)) (hbind : ∀ (s : Shared) (u : Value), BindsTo s fd ⟨[u], []⟩ [(x, u)]) :
    codeAny (model P w) callerA (.call (.ref fa) ⟨[.ref a], []⟩) (fun r s' => r = .ok (.ret (.bool true)) ∧ OldK s₁.heap s'.heap ∧ s'.os = s₁.os ∧ AllBare s'.gens) s₁ := by
  have rv := vals_ints hi
  have lenV := hi.length
  have tabAt : ∀ b ∈ tabs.map (·.2), s₁.heap.get? b = some (tabObj #[]) := fun b hb => by
    obtain ⟨q, hq, rfl⟩ := List.mem_map.mp hb
    exact (hT q hq).2
  have naT : a ∉ tabs.map (·.2) := fun z => by
    have := tabAt a z
    rw [ha] at this; cases this
  have core : ∀ H : Hp, (∀ b, H b = none ∨ (b ∈ tabs.map (·.2) ∧ H b = some (.tbl #[])) ∨ (b = a ∧ ∃ o xs, H b = some (.frz o (.lst xs)))) → (∀ b ∈ tabs.map (·.2), H b = some (.tbl #[])) → SqL K H a (ns.map V.int) → HOk P w H s₁.heap → (H a ≠ none → K.lookup a = none) →
      codeAny (model P w) callerA (.call (.ref fa) ⟨[.ref a], []⟩) (fun r s' => r = .ok (.ret (.bool true)) ∧ OldK s₁.heap s'.heap ∧ s'.os = s₁.os ∧ AllBare s'.gens) s₁ := by
    intro H hO hTb hS hok hK
    have base_of : ∀ {b : Addr} {o : Obj}, s₁.heap.get? b = some o → H b = none → (hidT s₁.heap H).get? b = some o := fun e n => hidT_get e n
    have not_ : ∀ {b : Addr} {o : Obj}, s₁.heap.get? b = some o → o ≠ tabObj #[] → o ≠ { cls := .type "list", data := .seq vs.toArray } → H b = none := fun {b o} e n1 n2 => by
      rcases hO b with z | ⟨z, _⟩ | ⟨z, _⟩
      · exact z
      · rw [tabAt b z] at e
        exact absurd (Option.some.inj e).symm n1
      · rw [z, ha] at e
        exact absurd (Option.some.inj e).symm n2
    have nsK : ∀ {b : Addr} {m : Str → Option Value}, s₁.heap.Ns b m → (hidT s₁.heap H).Ns b m := fun {b m} ⟨o, es, ep, e, d, r⟩ => ⟨o, es, ep, base_of e (not_ e (fun z => by rw [z] at d; cases d) (fun z => by rw [z] at d; cases d)), d, r⟩
    have hKb : K.In (hidT s₁.heap H) := fun b o e => base_of (KX b o e) (by
      rcases hO b with z | ⟨z, _⟩ | ⟨z, o', xs, z2⟩
      · exact z
      · have e1 := KX b o e
        rw [tabAt b z] at e1
        have h2 := List.all_eq_true.mp hnK (b, o) (PySem.W.mem_of_lookupK e)
        rw [← Option.some.inj e1] at h2
        exact absurd (show false = true from h2) Bool.false_ne_true
      · subst z
        rw [hK (by rw [z2]; simp)] at e; cases e)
    have hM : Mod K mg (hidT s₁.heap H) := ⟨hKb, nsK hns, ⟨mb, nsK hb, hbb⟩, let ⟨mc, h1, h2⟩ := hlim; ⟨mc, nsK h1, h2⟩⟩
    have e0 : Env0 P w K mg (hidT s₁.heap H) callerA [] s₁ H := ⟨rfl, hM, fun b o e => of_hidT e, Nat.le_of_eq (hidT_size _ _), trivial, fun b hb => absurd (show b ∈ ([] : List Addr) from hb) (by simp), hok, .of_eq hg⟩
    have W : LamW K mg (hidT s₁.heap H) names := by
      refine ⟨hKb, nsK hns, fun x1 hx1 => ?_⟩
      have hm : PySem.W.tabIn K x1 ∈ names.map (PySem.W.tabIn K) := List.mem_map_of_mem hx1
      rw [hti] at hm
      obtain ⟨⟨c, T⟩, hq, e⟩ := List.mem_map.mp hm
      refine ⟨c, T, e.symm, ?_, ?_, ?_⟩
      · obtain ⟨o, ws, file, tf, flags, tg, inF, text, tt, e1, r1, r⟩ := (hT _ hq).1
        exact ⟨o, ws, file, tf, flags, tg, inF, text, tt, base_of e1 (not_ e1 (fun z => by rw [z] at r1; cases r1) (fun z => by rw [z] at r1; exact absurd (Value.type.inj r1) (by decide))), r1, r⟩
      · cases q : (hidT s₁.heap H).get? T with
        | none => rfl
        | some o =>
          have := (of_hidT q).2
          rw [hTb T (List.mem_map_of_mem hq)] at this; cases this
      · obtain ⟨bm, ob, b1, b2, b3, b4, b5, b6⟩ := hbm
        have bn := not_ b3 (fun z => by rw [z] at b4; cases b4) (fun z => by rw [z] at b4; exact absurd (Value.type.inj b4) (by decide))
        refine ⟨bm, ob, b1, b2, fun z => ?_, fun z => ?_, base_of b3 bn, b4, b5, b6⟩
        · obtain ⟨o, es, ep, e, d, _⟩ := hns
          rw [z, e] at b3; cases b3
          rw [d] at b6; cases b6
        · rw [z, hTb T (List.mem_map_of_mem hq)] at bn; cases bn
    have pl : (tabs.map (·.2)).length = names.length := by
      have := congrArg List.length hti
      simp only [List.length_map] at this ⊢
      exact this.symm
    refine codeAny_mono ((F _ W).run callerA [] s₁ H ⟨[.ref a], []⟩ [.ref a] [.ref a] (fun v _ => v = .bl true) (fun _ _ _ => False) hr e0 (hbind s₁ (.ref a)) (.cons rfl .nil) ⟨a, ns, tabs.map (·.2), rfl, hS, hl, hnd, pl, naT, fun i x1 T e1 e2 => ?_, fun _ => rfl⟩) fun r s' h => ?_
    · have h3 : (names.map (PySem.W.tabIn K))[i]? = (tabs.map some)[i]? := by rw [hti]
      rw [List.getElem?_map] at e2
      obtain ⟨⟨c, T'⟩, h4, rfl⟩ := Option.map_eq_some_iff.mp e2
      rw [List.getElem?_map, List.getElem?_map, e1, h4] at h3
      exact ⟨c, Option.some.inj h3, hTb _ (List.mem_map_of_mem (List.mem_of_getElem? h4))⟩
    · cases r with
      | error e => exact False.elim h
      | ok fl =>
        cases fl with
        | next => exact False.elim h
        | brk => exact False.elim h
        | cont => exact False.elim h
        | ret u =>
          obtain ⟨v, H', os, bare, un, hok', r', q⟩ := h
          have q' : v = .bl true := q
          subst q'
          obtain rfl : u = Value.bool true := r'
          have grown : ∀ b ∈ tabs.map (·.2), ∃ more, s'.heap.get? b = some (tabObj more) := fun b hb => by
            obtain ⟨more, z⟩ := un.tbls b _ (hTb b hb)
            exact ⟨_, hok' b _ z⟩
          have keep : ∀ b o, b ∉ tabs.map (·.2) → s₁.heap.get? b = some o → s'.heap.get? b = some o := fun b o hb e => by
            rcases hO b with z | ⟨z, _⟩ | ⟨_, ob, xs, z⟩
            · exact un.keep b o e z (by intro z; exact absurd (show b ∈ ([] : List Addr) from z) (by simp)) (by simp)
            · exact absurd z hb
            · have z2 := un.frzs b ob _ z
              obtain ⟨e1, _⟩ := hok b _ z
              obtain ⟨e2, _⟩ := hok' b _ z2
              rw [e] at e1; cases e1
              exact e2
          refine ⟨rfl, ⟨fun b o e => ?_, fun b o e => ?_⟩, os, bare⟩
          · by_cases hb : b ∈ tabs.map (·.2)
            · have e2 := tabAt b hb
              rw [e] at e2
              obtain rfl := Option.some.inj e2
              obtain ⟨q, hq, rfl⟩ := List.mem_map.mp hb
              obtain ⟨more, z⟩ := grown q.2 hb
              exact .inr (.inl ⟨((hT q hq).1.tab (hT q hq).2).isCodeTable, rfl, #[], more, rfl, by rw [Array.empty_append]; exact z⟩)
            · exact .inl (keep b o hb e)
          · by_cases hb : b ∈ tabs.map (·.2)
            · obtain ⟨more, z⟩ := grown b hb
              exact ⟨_, z⟩
            · exact ⟨o, keep b o hb e⟩
  have tOk : ∀ b ∈ tabs.map (·.2), ObjOk P w (fun _ => none) s₁.heap b (.tbl #[]) := fun b hb => tabAt b hb
  cases hk : K.lookup a with
  | some o =>
    have e := KX a o hk
    rw [ha] at e
    cases e
    refine core (fun b => if b ∈ tabs.map (·.2) then some (.tbl #[]) else none) (fun b => ?_) (fun b hb => if_pos hb) (.inr ⟨_, vs.toArray, _, hk, rfl, rfl, rfl, by rw [List.size_toArray, lenV]; exact Nat.le_trans hl (by decide), by simpa using rv⟩) (fun b u z => ?_) fun z => absurd (if_neg naT) z
    · by_cases hb : b ∈ tabs.map (·.2)
      · exact .inr (.inl ⟨hb, if_pos hb⟩)
      · exact .inl (if_neg hb)
    · by_cases hb : b ∈ tabs.map (·.2)
      · have z' := (if_pos hb).symm.trans z
        cases z'
        exact tabAt b hb
      · have z' := (if_neg hb).symm.trans z
        cases z'
  | none =>
    refine core (fun b => if b ∈ tabs.map (·.2) then some (.tbl #[]) else if b = a then some (.frz { cls := .type "list", data := .seq vs.toArray } (.lst (ns.map V.int))) else none) (fun b => ?_) (fun b hb => if_pos hb) (.inl (.inr ⟨{ cls := .type "list", data := .seq vs.toArray }, by show (if _ then _ else _) = _; rw [if_neg naT, if_pos rfl]⟩)) (fun b u z => ?_) fun _ => hk
    · by_cases hb : b ∈ tabs.map (·.2)
      · exact .inr (.inl ⟨hb, if_pos hb⟩)
      · by_cases hb2 : b = a
        · exact .inr (.inr ⟨hb2, _, _, by show (if _ then _ else _) = _; rw [if_neg hb, if_pos hb2]⟩)
        · exact .inl (by show (if _ then _ else _) = _; rw [if_neg hb, if_neg hb2])
    · by_cases hb : b ∈ tabs.map (·.2)
      · have z' := (if_pos hb).symm.trans z
        cases z'
        exact tabAt b hb
      · have z1 := (if_neg hb).symm.trans z
        by_cases hb2 : b = a
        · have z' := (if_pos hb2).symm.trans z1
          cases z'
          subst hb2
          exact ⟨ha, by rw [List.length_map]; exact Nat.le_trans hl (by decide), vs, _, rv, ha⟩
        · have z' := (if_neg hb2).symm.trans z1
          cases z'
/-- the goal that k_head leaves, for a law with lambdas in the defs names -/
theorem walk_ofT {l : PySem.W.OpenLaw} {k : Nat} {q : Program} {loose : List Str} {XP : (Str → Option Value) → Heap → Prop} {YP : World → Heap → Prop} {d : DefRec} {K : Params → PySem.W.Frag} {x : Str} {names : List Str}
    (hn : l.most = some 63) (hdf : d.params.defaults = []) (hr : Room k callerA)
    (hY : ∀ (w : World) (h : Heap), YP w h → (K w.params).In h) (hnK : ∀ w : World, PySem.W.noTabs (K w.params) = true) (hrec : ∀ x ∈ names, ((recsOf q).find? fun e => e.name == x).isSome = true)
    (F : ∀ (w : World) (mg : Str → Option Value) (fa : Addr) (h : Heap), (K w.params).In h → h.Ns mainGlobals mg → mg d.name = some (.ref fa) →
      ∃ (fd : FuncData) (tabs : List (Addr × Addr)), (∀ (s : Shared) (u : Value), BindsTo s fd ⟨[u], []⟩ [(x, u)]) ∧ names.map (PySem.W.tabIn (K w.params)) = tabs.map some ∧ (tabs.map (·.2)).Nodup ∧
        ∀ base : Heap, LamW (K w.params) mg base names → FnOk l.prog w (K w.params) mg base CX0 k fa fd [x] (spLawT (K w.params) names)) :
    PySem.W.WalkO q loose XP YP l.row.toRowW d [] (fun f vs => PySem.call f vs) := by
  refine Att.attach_call hn hdf fun w s₀ s₁ mg mb fa o pm cd doc a vs ns G Y ho hd hcd hmg hobj hints hlen hg => ?_
  have KX := hY w _ Y
  obtain ⟨fd, tabs, hb, hti, hnd, hF⟩ := F w mg fa _ KX G.T.g hmg
  have hT : PySem.W.TabsAt tabs s₁.heap := fun q1 hq => by
    have hm : some q1 ∈ tabs.map some := List.mem_map_of_mem hq
    rw [← hti] at hm
    obtain ⟨x1, hx1, e⟩ := List.mem_map.mp hm
    obtain ⟨dr, hd1⟩ := Option.isSome_iff_exists.mp (hrec x1 hx1)
    exact PySem.W.tab_of G.T KX hd1 e
  exact law_callT KX G.T.g G.T.b G.T.builtins G.T.nolimit hg hobj hints hlen hr hT (hnK w) hti hnd G.T.bmain hF hb
end L2.Dm
set_option Elab.async false
set_option linter.all false
set_option maxRecDepth 100000
namespace L2.Dm
open PySem PySem.Spec PyProof.Rows L2
/-! ### count, index of a truth in a list of truths -/
def cntB (bs : List Bool) (k : Bool) : Option Int := some ((bs.countP (fun b => b == k) : Nat) : Int)
def idxB (bs : List Bool) (k : Bool) : Option Int := (bs.findIdx? fun b => b == k).map fun (n : Nat) => (n : Int)
/-- l.m(k): l a list of truths, k a truth -/
def xMb (f : XE) (t : XA) (r : List Bool → Bool → Option Int) : XE := fun a h => match f a h with
  | some (x, h1) => (match t a h1 with
    | some ([.d (.bool k)], h2) => (match view h1 x, view h2 x with
      | some (.list _), some (.list ds) => (match boolsOf ds with
        | some bs => (match r bs k with | some n => some (.d (.int n), h2) | none => none)
        | none => none)
      | _, _ => none)
    | _ => none)
  | none => none
theorem dps_bools {K : PySem.W.Frag} {H : Hp} : ∀ {bs : List Bool} {vs : List V}, DPs K H vs (bs.map PyData.bool) → vs = bs.map V.bl
  | [], _, h => by cases h; rfl
  | b :: bs, _, h => by
    cases h with
    | cons a c => cases a; rw [dps_bools c]; rfl
theorem reads_bools (h : Heap) : ∀ {bs : List Bool} {us : List Value}, Vals (bs.map V.bl) us → ∃ as, ReadsAll h us (bs.map PyData.bool) as
  | [], _, r => by cases r; exact ⟨_, .nil⟩
  | b :: bs, _, r => by
    cases r with
    | cons a c =>
      obtain ⟨as, q⟩ := reads_bools h c
      cases a
      exact ⟨_, .cons (.bool b) q⟩
theorem countIn_bools (k : Bool) : ∀ bs : List Bool, Spec.countIn (.bool k) (bs.map PyData.bool) = ((bs.countP (fun b => b == k) : Nat) : Int)
  | [] => rfl
  | b :: bs => by
    rw [List.map_cons, List.countP_cons, Spec.countIn, countIn_bools k bs]
    simp only [Spec.same]
    rcases Bool.eq_false_or_eq_true (b == k) with hb | hb <;> simp only [hb, Bool.false_eq_true, if_true, if_false] <;> push_cast <;> omega
def rB (K : PySem.W.Frag) (r : List Bool → Bool → Option Int) : V → List V → Hp → VK → Prop := fun x us H Q => ∃ bs k n, DP K H x (.list (bs.map PyData.bool)) ∧ us = [.bl k] ∧ r bs k = some n ∧ Q (.int n) H
section
variable {X : Cx} {apos cpos : Pos} {o e : Expr} {es : List Expr} {f : XE} {t : XA}
theorem m_cntB : MtR X "list.count" (rB X.K cntB) := by
  intro pins s σ H x us v uv Q I rx rv ⟨bs, k, n, hd, e1, e2, q⟩
  subst e1
  cases hd with
  | lst hs dd =>
    obtain rfl := dps_bools dd
    cases rx
    cases rv with
    | cons r1 r2 =>
      cases r2
      cases r1
      obtain ⟨its, rv2, ⟨ob, nn, ho, hc, hdn, hdd⟩, hlen⟩ := I.list hs
      obtain ⟨as, ra⟩ := reads_bools s.heap rv2
      cases e2
      refine count_list_bools (vs := its) (k := k) ⟨ob, ho, hc, nn, hdd⟩ ra ?_ ?_
      · rw [List.all_eq_true]
        intro y hy
        obtain ⟨b, _, rfl⟩ := List.mem_map.mp hy
        rfl
      · rw [countIn_bools]
        exact ⟨.int _, H, I.tok _, ⟨_, rfl⟩, q⟩
theorem m_idxB : MtR X "list.index" (rB X.K idxB) := by
  intro pins s σ H x us v uv Q I rx rv ⟨bs, k, n, hd, e1, e2, q⟩
  subst e1
  cases hd with
  | lst hs dd =>
    obtain rfl := dps_bools dd
    unfold idxB at e2
    obtain ⟨i, hi, rfl⟩ := Option.map_eq_some_iff.mp e2
    obtain ⟨hlt, hp1, hp2⟩ := List.findIdx?_eq_some_iff_getElem.mp hi
    refine mt_index pins s σ H _ _ v uv Q I rx rv ⟨_, _, .bl k, i, .bl bs[i], rfl, rfl, hs, rfl, ?_, ?_, ?_, ?_, q⟩
    · rw [List.all_eq_true]
      intro y hy
      obtain ⟨n, _, rfl⟩ := List.mem_map.mp hy
      rfl
    · rw [List.getElem?_map, List.getElem?_eq_getElem hlt]; rfl
    · simpa [eqV] using hp1
    · intro t z' ht hz
      rw [List.getElem?_map] at hz
      rw [List.getElem?_eq_getElem (by omega)] at hz
      cases hz
      have := hp2 t ht
      simpa [eqV] using this
theorem lf_mb {σ : St} {H : Hp} {Q : VK} {r : List Bool → Bool → Option Int} (h : LF X.K X.mg (RA X.K X.mg) (xMb f t r) σ H Q) :
    LF X.K X.mg (RA X.K X.mg) f σ H fun v H1 => tyV X.K "list" v H1 ∧ LF X.K X.mg (RAs X.K X.mg) t σ H1 fun us H2 => rB X.K r v us H2 Q := by
  obtain ⟨m, z, a, h, x, h', hr, rs, e, q⟩ := h
  unfold xMb at e
  split at e
  · rename_i y h1 ef
    split at e
    · rename_i k h2 et
      split at e
      · rename_i d1 ds v1 v2
        split at e
        · rename_i bs hb
          split at e
          · rename_i n hn
            cases e
            refine ⟨m, z, a, h, y, h1, hr, rs, ef, fun v H1 m1 f1 hr1 ra1 => ⟨?_, m1, z, a, h1, _, _, hr1, rs.mono f1, et, fun us H2 m2 f2 hr2 ra2 => ?_⟩⟩
            · have dp := view_dp hr1 ra1 v1
              cases dp with
              | lst hs _ => exact .inl ⟨rfl, _, hs⟩
            · cases boolsOf_inv hb
              cases ra2 with
              | cons r1 r2 =>
                cases r2
                cases r1
                exact ⟨bs, k, n, view_dp hr2 (RA.mono ra1 f2) v2, rfl, hn, q _ _ m2 (f1.trans f2) hr2 (.int _)⟩
          · cases e
        · cases e
      · cases e
    · cases e
  · cases e
theorem de_cntB (ho : DE X o f) (ha : DA X (e :: es) t) (hbase : attributeBase o "count" X.env (eval o X.env) = eval o X.env := by rfl)
    (hfew : ((backTo cpos (starEach (e :: es) X.env)).all (fun x => !x.1) && (backToKw cpos (keywordEach [] X.env)).all (fun x => x.1.isSome) && decide ((e :: es).length + ([] : List Keyword).length + (if ([] : List Keyword).isEmpty then 0 else 1) < 30)) = true := by rfl)
    (hline : (apos.endLine == cpos.line) = true := by rfl) (hs : starEach (e :: es) X.env = (false, eval e X.env) :: starEach es X.env := by rfl) (hplain : (backTo cpos (starEach es X.env)).any (·.1) = false := by rfl) :
    DE X (.Call (.Attribute o "count" apos) (e :: es) [] cpos) (xMb f t cntB) := fun pins s σ H Q I h =>
  pe_bm PySem.F.plainAttrs_list PySem.F.slot_list_count PySem.F.type_list_count m_cntB ho ha hbase hfew hline hs hplain pins s σ H Q I (lf_mb h)
theorem de_idxB (ho : DE X o f) (ha : DA X (e :: es) t) (hbase : attributeBase o "index" X.env (eval o X.env) = eval o X.env := by rfl)
    (hfew : ((backTo cpos (starEach (e :: es) X.env)).all (fun x => !x.1) && (backToKw cpos (keywordEach [] X.env)).all (fun x => x.1.isSome) && decide ((e :: es).length + ([] : List Keyword).length + (if ([] : List Keyword).isEmpty then 0 else 1) < 30)) = true := by rfl)
    (hline : (apos.endLine == cpos.line) = true := by rfl) (hs : starEach (e :: es) X.env = (false, eval e X.env) :: starEach es X.env := by rfl) (hplain : (backTo cpos (starEach es X.env)).any (·.1) = false := by rfl) :
    DE X (.Call (.Attribute o "index" apos) (e :: es) [] cpos) (xMb f t idxB) := fun pins s σ H Q I h =>
  pe_bm PySem.F.plainAttrs_list PySem.F.slot_list_index PySem.F.type_list_index m_idxB ho ha hbase hfew hline hs hplain pins s σ H Q I (lf_mb h)
end
end L2.Dm

set_option Elab.async false
set_option linter.all false
set_option maxRecDepth 100000
set_option maxHeartbeats 4000000
namespace My
open PySem L2 L2.Dm
def raised_ : List Str := (("NoDate" : Str) :: ("NoDay" : Str) :: ([] : List Str))
def excT_ : Str → AV → Option Bool := excT [("NoDate", (("NoDate" : Str) :: ("NoThing" : Str) :: ("CoinError" : Str) :: ([] : List Str))), ("NoDay", (("NoDay" : Str) :: ("NoThing" : Str) :: ("CoinError" : Str) :: ([] : List Str)))] (("NoDay" : Str) :: ("NoDate" : Str) :: ("NoRules" : Str) :: ("NoNumber" : Str) :: ("NoLine" : Str) :: ("Open" : Str) :: ("Early" : Str) :: ("Short" : Str) :: ("Over" : Str) :: ("Nothing" : Str) :: ("NoCustom" : Str) :: ("NoStep" : Str) :: ("NoCoins" : Str) :: ("NoWeights" : Str) :: ("NoWay" : Str) :: ("NoTable" : Str) :: ("NoCode" : Str) :: ("NoRoad" : Str) :: ("NoBill" : Str) :: ("NoPer" : Str) :: ("NoBands" : Str) :: ("NoGoal" : Str) :: ("NoLoan" : Str) :: ("NoAccount" : Str) :: ("NoText" : Str) :: ("NoRows" : Str) :: ("NoBook" : Str) :: ("NoPart" : Str) :: ("NoDebts" : Str) :: ("NoPerson" : Str) :: ("NoMonths" : Str) :: ("NoDays" : Str) :: ("NoHouse" : Str) :: ("NoPostings" : Str) :: ("NoThing" : Str) :: ("NotNow" : Str) :: ([] : List Str))
def B_is_whole : XS :=
      (sRet (xAndV (xCall (xCons (xV 0) (xCons (xC (.ty "int")) xNil)) isinA) (xNotV (xCall (xCons (xV 0) (xCons (xC (.ty "bool")) xNil)) isinA))))
def F_is_whole : XF := fnF 1 B_is_whole
def B_is_within : XS :=
      (sRet (xAndV (xFn 1 (xCons (xV 0) xNil) F_is_whole) (xCh (xV 1) (xV 0) (xV 2) (op2 leD) (op2 leD))))
def F_is_within : XF := fnF 3 B_is_within
def B_is_tuple_of : XS :=
      (sRet (xAndV (xCall (xCons (xV 0) (xCons (xC (.ty "tuple")) xNil)) isinA) (xCh (xV 1) (xCall (xCons (xV 0) xNil) (c1 lenD)) (xV 2) (op2 leD) (op2 leD))))
def F_is_tuple_of : XF := fnF 3 B_is_tuple_of
def B_is_day : XS :=
      (sRet (xFn 3 (xCons (xV 0) (xCons (xC (.d (.int 0))) (xCons (xC (.d (.int 9999))) xNil))) F_is_within))
def F_is_day : XF := fnF 1 B_is_day
def R_refuse_no_day : XFR := fnR 1 (rIf (xNot (xT (xFn 1 (xCons (xV 0) xNil) F_is_day))) (rRaise "NoDay") rNo)
def B_refuse_no_day : XS :=
      (sIf (xNot (xT (xFn 1 (xCons (xV 0) xNil) F_is_day)))
      sNever
      sNil)
def F_refuse_no_day : XF := fnF 1 B_refuse_no_day
def R_date_of : XFR := fnR 5 (rFn 1 (xCons (xV 0) xNil) R_refuse_no_day)
def B_date_of : XS :=
      (sSeq (sExpr (xFn 1 (xCons (xV 0) xNil) F_refuse_no_day))
      (sSeq (sAsg (xCall (xCons (xV 0) (xCons (xC (.d (.int 30))) xNil)) (c2 divmodD)) (gT 2 (gsCons (gN 1) (gsCons (gN 2) gsNil))))
      (sSeq (sAsg (xCall (xCons (xV 1) (xCons (xC (.d (.int 12))) xNil)) (c2 divmodD)) (gT 2 (gsCons (gN 3) (gsCons (gN 4) gsNil))))
      (sRet (xTup (xCons (xV 3) (xCons (x2 (xV 4) (xC (.d (.int 1))) (op2 addD)) (xCons (x2 (xV 2) (xC (.d (.int 1))) (op2 addD)) xNil))))))))
def F_date_of : XF := fnF 5 B_date_of
def B_is_calendar_date : XS :=
      (sSeq (sIf (xNot (xT (xFn 3 (xCons (xV 0) (xCons (xC (.d (.int 3))) (xCons (xC (.d (.int 3))) xNil))) F_is_tuple_of)))
      (sRet (xC (.d (.bool false))))
      sNil)
      (sSeq (sAsg (xV 0) (gT 3 (gsCons (gN 1) (gsCons (gN 2) (gsCons (gN 3) gsNil)))))
      (sRet (xAndV (xFn 1 (xCons (xV 1) xNil) F_is_whole) (xAndV (xFn 3 (xCons (xV 2) (xCons (xC (.d (.int 1))) (xCons (xC (.d (.int 12))) xNil))) F_is_within) (xFn 3 (xCons (xV 3) (xCons (xC (.d (.int 1))) (xCons (xC (.d (.int 30))) xNil))) F_is_within))))))
def F_is_calendar_date : XF := fnF 4 B_is_calendar_date
def R_day_of : XFR := fnR 5 (rSeq (rIf (xNot (xT (xFn 1 (xCons (xV 0) xNil) F_is_calendar_date))) (rRaise "NoDate") rNo) (sIf (xNot (xT (xFn 1 (xCons (xV 0) xNil) F_is_calendar_date)))
      sNever
      sNil) (rSeq rNo (sAsg (xV 0) (gT 3 (gsCons (gN 1) (gsCons (gN 2) (gsCons (gN 3) gsNil))))) (rSeq rNo (sSet 4 (x2 (x2 (x2 (x2 (x2 (x2 (xV 1) (xC (.d (.int 12))) (op2 mulD)) (xV 2) (op2 addD)) (xC (.d (.int 1))) (op2 subD)) (xC (.d (.int 30))) (op2 mulD)) (xV 3) (op2 addD)) (xC (.d (.int 1))) (op2 subD))) (rIf (xNot (xT (xFn 1 (xCons (xV 4) xNil) F_is_day))) (rRaise "NoDate") rNo))))
def B_day_of : XS :=
      (sSeq (sIf (xNot (xT (xFn 1 (xCons (xV 0) xNil) F_is_calendar_date)))
      sNever
      sNil)
      (sSeq (sAsg (xV 0) (gT 3 (gsCons (gN 1) (gsCons (gN 2) (gsCons (gN 3) gsNil)))))
      (sSeq (sSet 4 (x2 (x2 (x2 (x2 (x2 (x2 (xV 1) (xC (.d (.int 12))) (op2 mulD)) (xV 2) (op2 addD)) (xC (.d (.int 1))) (op2 subD)) (xC (.d (.int 30))) (op2 mulD)) (xV 3) (op2 addD)) (xC (.d (.int 1))) (op2 subD)))
      (sSeq (sIf (xNot (xT (xFn 1 (xCons (xV 4) xNil) F_is_day)))
      sNever
      sNil)
      (sRet (xV 4))))))
def F_day_of : XF := fnF 5 B_day_of
def b1_law_box : XS :=
      (sSeq (sSet 5 (x2 (x2 (x2 (x2 (x2 (xV 2) (xC (.d (.int 2147483647))) (op2 modD)) (xC (.d (.int 48271))) (op2 mulD)) (x2 (xC (.d (.int 7919))) (xV 4) (op2 mulD)) (op2 addD)) (xC (.d (.int 1))) (op2 addD)) (xC (.d (.int 2147483647))) (op2 modD)))
      (sSeq (sSet 5 (x2 (x2 (xV 5) (xV 5) (op2 mulD)) (xC (.d (.int 2147483629))) (op2 modD)))
      (sSet 3 (x2 (x2 (xV 3) (xC (.d (.int 2147483647))) (op2 mulD)) (x2 (x2 (xV 5) (x2 (xV 5) (xC (.d (.int 13))) (op2 addD)) (op2 mulD)) (xC (.d (.int 2147483647))) (op2 modD)) (op2 addD)))))
def B_law_box : XS :=
      (sSeq (sSet 2 (x2 (x2 (xC (.d (.int 7919))) (xV 1) (op2 mulD)) (xC (.d (.int 13))) (op2 addD)))
      (sSeq (sIf (xB (x2 (xV 1) (xCall (xCons (xV 0) xNil) (c1 lenD)) (op2 ltT)))
      (sSet 2 (x2 (xV 0) (xV 1) ixA))
      sNil)
      (sSeq (sIf (xB (x2 (x2 (xV 2) (xC (.d (.int 2))) (op2 modD)) (xC (.d (.int 0))) (op2 eqB)))
      (sRet (xLstM (xCons (x2 (xV 2) (xC (.d (.int 2))) (op2 fdivD)) (xCons (x2 (xCall (xCons (xV 2) xNil) (c1 absD)) (xC (.d (.int 2147483647))) (op2 modD)) xNil))))
      sNil)
      (sSeq (sSet 3 (xC (.d (.int 0))))
      (sSeq (sFor (xRng1 (xCons (xC (.d (.int 16))) xNil)) (gN 4) b1_law_box)
      (sRet (xLstM (xCons (xV 3) (xCons (x2 (xCall (xCons (xV 2) xNil) (c1 absD)) (xC (.d (.int 2147483647))) (op2 modD)) xNil)))))))))
def F_law_box : XF := fnF 6 B_law_box
def b1_law_more : XS :=
      (sSeq (sAsg (x2 (x2 (x2 (x2 (xV 0) (xC (.d (.int 1))) ixA) (xC (.d (.int 48271))) (op2 mulD)) (xC (.d (.int 30269))) (op2 addD)) (xC (.d (.int 2147483647))) (op2 modD)) (gS (xV 0) (xC (.d (.int 1)))))
      (sSet 1 (x2 (x2 (xV 1) (xC (.d (.int 65521))) (op2 mulD)) (x2 (x2 (x2 (xV 0) (xC (.d (.int 1))) ixA) (xC (.d (.int 7))) (op2 fdivD)) (xC (.d (.int 65521))) (op2 modD)) (op2 addD))))
def B_law_more : XS :=
      (sSeq (sSet 1 (xC (.d (.int 0))))
      (sSeq (sFor (xRng1 (xCons (xC (.d (.int 12))) xNil)) (gN 2) b1_law_more)
      (sRet (xV 1))))
def F_law_more : XF := fnF 3 B_law_more
def B_law_take : XS :=
      (sSeq (sIf (xB (xCh (xC (.d (.int 0))) (x2 (xV 0) (xC (.d (.int 0))) ixA) (xV 1) (op2 leD) (op2 ltT)))
      (sAsg (x2 (x2 (xV 0) (xC (.d (.int 0))) ixA) (x2 (xV 1) (xFn 1 (xCons (xV 0) xNil) F_law_more) (op2 mulD)) (op2 addD)) (gS (xV 0) (xC (.d (.int 0)))))
      sNil)
      (sSeq (sAsg (xCall (xCons (x2 (xV 0) (xC (.d (.int 0))) ixA) (xCons (xV 1) xNil)) (c2 divmodD)) (gT 2 (gsCons (gN 2) (gsCons (gN 3) gsNil))))
      (sSeq (sAsg (xV 2) (gS (xV 0) (xC (.d (.int 0)))))
      (sRet (xV 3)))))
def F_law_take : XF := fnF 4 B_law_take
def B_law_word_of : XS :=
      (sSeq (sSet 1 (xLstM (xCons (xCall (xCons (xV 0) (xCons (xC (.fn "NoDay")) xNil)) (orC isinA (isinE excT_))) (xCons (xCall (xCons (xV 0) (xCons (xC (.fn "NoDate")) xNil)) (orC isinA (isinE excT_))) (xCons (xCall (xCons (xV 0) (xCons (xC (.fn "NoRules")) xNil)) (orC isinA (isinE excT_))) (xCons (xCall (xCons (xV 0) (xCons (xC (.fn "NoNumber")) xNil)) (orC isinA (isinE excT_))) xNil))))))
      (sSeq (sSet 1 (x2 (xV 1) (xLst (xCons (xCall (xCons (xV 0) (xCons (xC (.fn "NoCustom")) xNil)) (orC isinA (isinE excT_))) (xCons (xCall (xCons (xV 0) (xCons (xC (.fn "NoStep")) xNil)) (orC isinA (isinE excT_))) (xCons (xCall (xCons (xV 0) (xCons (xC (.fn "NoCoins")) xNil)) (orC isinA (isinE excT_))) (xCons (xCall (xCons (xV 0) (xCons (xC (.fn "NoWeights")) xNil)) (orC isinA (isinE excT_))) xNil))))) addM))
      (sSeq (sSet 1 (x2 (xV 1) (xLst (xCons (xCall (xCons (xV 0) (xCons (xC (.fn "NoWay")) xNil)) (orC isinA (isinE excT_))) (xCons (xCall (xCons (xV 0) (xCons (xC (.fn "NoTable")) xNil)) (orC isinA (isinE excT_))) (xCons (xCall (xCons (xV 0) (xCons (xC (.fn "NoCode")) xNil)) (orC isinA (isinE excT_))) (xCons (xCall (xCons (xV 0) (xCons (xC (.fn "NoRoad")) xNil)) (orC isinA (isinE excT_))) xNil))))) addM))
      (sSeq (sSet 1 (x2 (xV 1) (xLst (xCons (xCall (xCons (xV 0) (xCons (xC (.fn "NoBill")) xNil)) (orC isinA (isinE excT_))) (xCons (xCall (xCons (xV 0) (xCons (xC (.fn "NoPer")) xNil)) (orC isinA (isinE excT_))) (xCons (xCall (xCons (xV 0) (xCons (xC (.fn "NoBands")) xNil)) (orC isinA (isinE excT_))) (xCons (xCall (xCons (xV 0) (xCons (xC (.fn "NoGoal")) xNil)) (orC isinA (isinE excT_))) xNil))))) addM))
      (sSeq (sSet 1 (x2 (xV 1) (xLst (xCons (xCall (xCons (xV 0) (xCons (xC (.fn "NoLoan")) xNil)) (orC isinA (isinE excT_))) (xCons (xCall (xCons (xV 0) (xCons (xC (.fn "NoAccount")) xNil)) (orC isinA (isinE excT_))) (xCons (xCall (xCons (xV 0) (xCons (xC (.fn "NoText")) xNil)) (orC isinA (isinE excT_))) (xCons (xCall (xCons (xV 0) (xCons (xC (.fn "NoRows")) xNil)) (orC isinA (isinE excT_))) xNil))))) addM))
      (sSeq (sSet 1 (x2 (xV 1) (xLst (xCons (xCall (xCons (xV 0) (xCons (xC (.fn "NoBook")) xNil)) (orC isinA (isinE excT_))) (xCons (xCall (xCons (xV 0) (xCons (xC (.fn "NoPart")) xNil)) (orC isinA (isinE excT_))) (xCons (xCall (xCons (xV 0) (xCons (xC (.fn "NoDebts")) xNil)) (orC isinA (isinE excT_))) (xCons (xCall (xCons (xV 0) (xCons (xC (.fn "NoPerson")) xNil)) (orC isinA (isinE excT_))) xNil))))) addM))
      (sSeq (sSet 1 (x2 (xV 1) (xLst (xCons (xCall (xCons (xV 0) (xCons (xC (.fn "NoMonths")) xNil)) (orC isinA (isinE excT_))) (xCons (xCall (xCons (xV 0) (xCons (xC (.fn "NoDays")) xNil)) (orC isinA (isinE excT_))) (xCons (xCall (xCons (xV 0) (xCons (xC (.fn "NoHouse")) xNil)) (orC isinA (isinE excT_))) (xCons (xCall (xCons (xV 0) (xCons (xC (.fn "NoPostings")) xNil)) (orC isinA (isinE excT_))) xNil))))) addM))
      (sSeq (sExpr (xMt (xV 1) (xCons (xCall (xCons (xV 0) (xCons (xC (.fn "NoLine")) xNil)) (orC isinA (isinE excT_))) xNil) appendR))
      (sSeq (sSet 2 (xLstM (xCons (xCall (xCons (xV 0) (xCons (xC (.fn "Open")) xNil)) (orC isinA (isinE excT_))) (xCons (xCall (xCons (xV 0) (xCons (xC (.fn "Early")) xNil)) (orC isinA (isinE excT_))) (xCons (xCall (xCons (xV 0) (xCons (xC (.fn "Short")) xNil)) (orC isinA (isinE excT_))) (xCons (xCall (xCons (xV 0) (xCons (xC (.fn "Over")) xNil)) (orC isinA (isinE excT_))) xNil))))))
      (sSeq (sExpr (xMt (xV 2) (xCons (xCall (xCons (xV 0) (xCons (xC (.fn "Nothing")) xNil)) (orC isinA (isinE excT_))) xNil) appendR))
      (sSeq (sIf (xOr (xNot (xT (xCall (xCons (xV 0) (xCons (xC (.ty "ValueError")) xNil)) (orC isinA (isinE excT_))))) (xB (x2 (xMb (x2 (xV 1) (xV 2) (op2 addD)) (xCons (xC (.d (.bool true))) xNil) cntB) (xC (.d (.int 1))) (op2 neB))))
      (sRet (xC (.d (.str (Str.ofString "other")))))
      sNil)
      (sSeq (sIf (xOr (xB (x2 (xCall (xCons (xV 0) (xCons (xC (.fn "NoThing")) xNil)) (orC isinA (isinE excT_))) (x2 (xC (.d (.bool true))) (xV 1) (op2 inB)) (op2 neB))) (xB (x2 (xCall (xCons (xV 0) (xCons (xC (.fn "NotNow")) xNil)) (orC isinA (isinE excT_))) (x2 (xC (.d (.bool true))) (xV 2) (op2 inB)) (op2 neB))))
      (sRet (xC (.d (.str (Str.ofString "other")))))
      sNil)
      (sSeq (sSet 3 (xC (.d (.list [(.str (Str.ofString "day")), (.str (Str.ofString "date")), (.str (Str.ofString "rules")), (.str (Str.ofString "number")), (.str (Str.ofString "custom")), (.str (Str.ofString "step")), (.str (Str.ofString "coins")), (.str (Str.ofString "weights")), (.str (Str.ofString "way")), (.str (Str.ofString "table")), (.str (Str.ofString "code")), (.str (Str.ofString "road"))]))))
      (sSeq (sSet 3 (x2 (xV 3) (xC (.d (.list [(.str (Str.ofString "bill")), (.str (Str.ofString "per")), (.str (Str.ofString "bands")), (.str (Str.ofString "goal")), (.str (Str.ofString "loan")), (.str (Str.ofString "account")), (.str (Str.ofString "text")), (.str (Str.ofString "rows")), (.str (Str.ofString "book")), (.str (Str.ofString "part")), (.str (Str.ofString "debts"))]))) (op2 addD)))
      (sSeq (sSet 3 (x2 (xV 3) (xC (.d (.list [(.str (Str.ofString "person")), (.str (Str.ofString "months")), (.str (Str.ofString "days")), (.str (Str.ofString "house")), (.str (Str.ofString "postings")), (.str (Str.ofString "line")), (.str (Str.ofString "open")), (.str (Str.ofString "early")), (.str (Str.ofString "short")), (.str (Str.ofString "over"))]))) (op2 addD)))
      (sRet (x2 (x2 (xV 3) (xC (.d (.list [(.str (Str.ofString "nothing"))]))) (op2 addD)) (xMb (x2 (xV 1) (xV 2) (op2 addD)) (xCons (xC (.d (.bool true))) xNil) idxB) ixA)))))))))))))))))
def F_law_word_of : XF := fnF 4 B_law_word_of
def t1_law_date : XT := (xB (x2 (xV 3) (xC (.d (.int 30))) (op2 geD)))
def b1_law_date : XS :=
      (sPar 2 3 (xCons (x2 (xV 2) (xC (.d (.int 1))) (op2 addD)) (xCons (x2 (xV 3) (xC (.d (.int 30))) (op2 subD)) xNil)))
def t2_law_date : XT := (xB (x2 (xV 3) (xC (.d (.int 360))) (op2 geD)))
def b2_law_date : XS :=
      (sPar 1 3 (xCons (x2 (xV 1) (xC (.d (.int 1))) (op2 addD)) (xCons (x2 (xV 3) (xC (.d (.int 360))) (op2 subD)) xNil)))
def B_law_date : XS :=
      (sSeq (sPar3 1 2 3 (xCons (xC (.d (.int 0))) (xCons (xC (.d (.int 1))) (xCons (xV 0) xNil))))
      (sSeq (sWhile t2_law_date b2_law_date)
      (sSeq (sWhile t1_law_date b1_law_date)
      (sRet (xTup (xCons (xV 1) (xCons (xV 2) (xCons (x2 (xV 3) (xC (.d (.int 1))) (op2 addD)) xNil))))))))
def F_law_date : XF := fnF 4 B_law_date
def HB_law_said : XS :=
      (sRet (xFn 1 (xCons (xV 1) xNil) F_law_word_of))
def G_law_said (c : XE) (r : XR) : XE := sdR c r wrL HB_law_said (fun c => raised_.contains c) 2 1
def b1_law : XS :=
      (sSeq (sSet 8 (xCall (xCons (xV 6) xNil) (c1 reprD)))
      (sIf (xOr (xB (x2 (xSaid 0 "law" [6] (G_law_said (xFn 1 (xCons (xV 0) xNil) F_day_of) (rFn 1 (xCons (xV 0) xNil) R_day_of))) (xC (.d (.str (Str.ofString "date")))) (op2 neB))) (xB (x2 (xCall (xCons (xV 6) xNil) (c1 reprD)) (xV 8) (op2 neB))))
      (sRet (xC (.d (.bool false))))
      sNil))
def b2_law : XS :=
      (sIf (xB (x2 (xSaid 0 "law" [6] (G_law_said (xFn 1 (xCons (xV 0) xNil) F_date_of) (rFn 1 (xCons (xV 0) xNil) R_date_of))) (xC (.d (.str (Str.ofString "day")))) (op2 neB)))
      (sRet (xC (.d (.bool false))))
      sNil)
def b3_law : XS :=
      (sSeq (sSet 4 (x2 (xLst (xCons (xFn 2 (xCons (xV 2) (xCons (xC (.d (.int 10000))) xNil)) F_law_take) (xCons (xFn 2 (xCons (xV 2) (xCons (xC (.d (.int 400))) xNil)) F_law_take) (xCons (x2 (xC (.d (.int 9999))) (xFn 2 (xCons (xV 2) (xCons (xC (.d (.int 400))) xNil)) F_law_take) (op2 subD)) xNil)))) (xFn 2 (xCons (xV 2) (xCons (xC (.d (.int 3))) xNil)) F_law_take) ixA))
      (sSeq (sSet 5 (xFn 1 (xCons (xV 4) xNil) F_law_date))
      (sIf (xOr (xB (x2 (xCall (xCons (xLst (xCons (xFn 1 (xCons (xV 4) xNil) F_date_of) (xCons (xFn 1 (xCons (xV 4) xNil) F_date_of) xNil))) xNil) (c1 reprD)) (xCall (xCons (xLst (xCons (xV 5) (xCons (xV 5) xNil))) xNil) (c1 reprD)) (op2 neB))) (xB (x2 (xCall (xCons (xFn 1 (xCons (xV 5) xNil) F_day_of) xNil) (c1 reprD)) (xCall (xCons (xV 4) xNil) (c1 reprD)) (op2 neB))))
      (sRet (xC (.d (.bool false))))
      sNil)))
def b4_law : XS :=
      (sSeq (sSet 2 (xFn 2 (xCons (xV 0) (xCons (xV 1) xNil)) F_law_box))
      (sSeq (sFor (xRng1 (xCons (xC (.d (.int 10))) xNil)) (gN 3) b3_law)
      (sSeq (sFor (xSeq (xC (.d (.list [(.int (-1)), (.int 10000), .none, (.bool true), (.bool false), (.str (Str.ofString "0")), (.tuple [(.int 0)]), (.list [(.int 0)]), (.dict []), (.int (10 ^ (29 : Int).toNat))])))) (gN 6) b2_law)
      (sSeq (sSet 7 (xC (.d (.list [(.tuple [(.int 27), (.int 10), (.int 11)]), (.tuple [(.int 27), (.int 12), (.int 30)]), (.tuple [(.int 28), (.int 1), (.int 1)]), (.tuple [(.int (-1)), (.int 1), (.int 1)]), (.tuple [(.int 0), (.int 0), (.int 1)]), (.tuple [(.int 0), (.int 13), (.int 1)]), (.tuple [(.int 0), (.int 1), (.int 0)]), (.tuple [(.int 0), (.int 1), (.int 31)])]))))
      (sSeq (sSet 7 (x2 (xV 7) (xC (.d (.list [(.tuple [(.int 0), (.int 1)]), (.tuple [(.int 0), (.int 1), (.int 1), (.int 1)]), (.list [(.int 0), (.int 1), (.int 1)]), (.tuple [(.bool true), (.int 1), (.int 1)]), (.tuple [(.int 0), (.bool true), (.int 1)]), (.tuple [(.int 0), (.int 1), (.bool true)]), (.tuple [(.str (Str.ofString "0")), (.int 1), (.int 1)])]))) (op2 addD)))
      (sSeq (sSet 7 (x2 (xV 7) (xC (.d (.list [.none, (.int 0), (.dict [])]))) (op2 addD)))
      (sFor (xSeq (x2 (xV 7) (xC (.d (.list [(.tuple [(.int (10 ^ (29 : Int).toNat)), (.int 1), (.int 1)]), (.tuple [(.int 0), (.int (10 ^ (29 : Int).toNat)), (.int 1)]), (.tuple [(.int 0), (.int 1), (.int (10 ^ (29 : Int).toNat))]), (.tuple [(.tuple []), (.int 1), (.int 1)]), (.tuple [(.int 0), .none, (.int 1)]), (.tuple [(.int 0), (.int 1), (.list [(.int 1)])])]))) (op2 addD))) (gN 6) b1_law)))))))
def B_law : XS :=
      (sSeq (sIf (xB (x2 (xLst (xCons (xFn 1 (xCons (xC (.d (.int 0))) xNil) F_date_of) (xCons (xFn 1 (xCons (xC (.d (.int 399))) xNil) F_date_of) (xCons (xFn 1 (xCons (xC (.d (.int 9999))) xNil) F_date_of) (xCons (xFn 1 (xCons (xC (.d (.int 29))) xNil) F_date_of) (xCons (xFn 1 (xCons (xC (.d (.int 30))) xNil) F_date_of) xNil)))))) (xC (.d (.list [(.tuple [(.int 0), (.int 1), (.int 1)]), (.tuple [(.int 1), (.int 2), (.int 10)]), (.tuple [(.int 27), (.int 10), (.int 10)]), (.tuple [(.int 0), (.int 1), (.int 30)]), (.tuple [(.int 0), (.int 2), (.int 1)])]))) (op2 neB)))
      (sRet (xC (.d (.bool false))))
      sNil)
      (sSeq (sFor (xRng1 (xCons (xCall (xCons (xC (.d (.int 1))) (xCons (xCall (xCons (xCall (xCons (xV 0) xNil) (c1 lenD)) (xCons (xC (.d (.int 4))) xNil)) (c2 minD)) xNil)) (c2 maxD)) xNil)) (gN 1) b4_law)
      (sRet (xC (.d (.bool true))))))
def F_law : XF := fnF 9 B_law
end My
set_option linter.all false
set_option maxRecDepth 100000
namespace My
open PySem L2.Dm
open L2 (Big atI ixN isinK ik_NoneType_tuple ik_bool_tuple ik_int_tuple ik_str_tuple ik_list_tuple ik_tuple_tuple ik_dict_tuple ik_NoneType_str ik_bool_str ik_int_str ik_str_str ik_list_str ik_tuple_str ik_dict_str)
theorem while_of {t : XT} {b : XS} {n : Nat} {a : AE} {h : AH} {r : Fl × AE × AH} (e : wh t b n a h = some r) (hn : n ≤ fuelW) : sWhile t b a h = some r := wh_mono e hn
theorem big_le {a b : Int} (hb : Big b) (h : a.natAbs ≤ b.natAbs) : Big a := Nat.lt_of_le_of_lt h hb
/-! ### kinds -/
def wholeD : PyData → Bool
  | .int _ => true
  | _ => false
def withinD (d : PyData) (l m : Int) : Bool := match d with
  | .int i => decide (l ≤ i) && decide (i ≤ m)
  | _ => false
def tupD (d : PyData) (l m : Int) : Bool := match d with
  | .tuple xs => decide (l ≤ xs.length) && decide ((xs.length : Int) ≤ m)
  | _ => false
theorem f_whole (d : PyData) (h : AH) : F_is_whole [.d d] h = some (.d (.bool (wholeD d)), h) := by
  cases d <;> rfl
theorem f_within (d : PyData) (l m : Int) (h : AH) : F_is_within [.d d, .d (.int l), .d (.int m)] h = some (.d (.bool (withinD d l m)), h) := by
  unfold F_is_within B_is_within
  cases d <;> simp only [f_whole, wholeD, withinD, fnF, eqB2, sSeq, sNil, sPass, sBreak, sCont, sNever, sRet, sRetN, sExpr, sIf, sSet, sPar, sAsg, sAug, gN, gT, gsCons, gsNil, gS, setA, sAugS, getA, sFor, xSeq, srcA, xRng1, xRng2, xEnum, xZip, xListZip, srcB, xV, xC, L2.Dm.x1, L2.Dm.x2, op2, view, negA, xT, truD, xB, xCh, xAnd, xOr, xNot, xNotV, xIf, xAndV, xOrV, xNil, xCons, xTup, xLst, xLstM, allD, toD, xCall, L2.Dm.c1, L2.Dm.c2, xFn, xFnK, xFnD, xFnV, xMt, appendR, xSl, xO0, xO1, slD, L2.Dm.ltT_i, L2.Dm.ltT_s, addD, subD, mulD, fdivD, modD, powD, ltD, leD, gtD, geD, eqB, neB, isB, isnB, inB, ninB, addI, lenD, absD, maxD, minD, divmodD, intD, listD, tupleD, sumD, allB, anyB, maxL, maxA, maxT, minL, isinA, ixA, tabIx, tabIn, L2.at0, L2.at1, L2.at2, at3, at4, xYes, wipeA, List.map_cons, List.map_nil, List.length_cons, List.length_nil, List.replicate, List.cons_append, List.nil_append, List.append_nil, List.set_cons_zero, List.set_cons_succ, List.getElem?_cons_zero, List.getElem?_cons_succ, Nat.reduceAdd, Nat.reduceSub, Nat.reduceLeDiff, Nat.reduceLT, Nat.reduceEqDiff, if_true, if_false, Bool.not_true, Bool.not_false, Bool.false_eq_true, reduceIte, Option.map_some, Option.map_none, reduceCtorEq, decide_true, decide_false, Bool.and_true, Bool.true_and, Bool.and_false, Bool.false_and, Bool.or_true, Bool.true_or, Bool.or_false, Bool.false_or, and_self, and_true, true_and, Nat.zero_add]
  rename_i i
  by_cases h1 : l ≤ i <;> simp [h1]
theorem f_tuple (d : PyData) (l m : Int) (h : AH) : F_is_tuple_of [.d d, .d (.int l), .d (.int m)] h = some (.d (.bool (tupD d l m)), h) := by
  unfold F_is_tuple_of B_is_tuple_of
  cases d <;> simp only [tyD, ik_NoneType_tuple, ik_bool_tuple, ik_int_tuple, ik_str_tuple, ik_list_tuple, ik_tuple_tuple, ik_dict_tuple, tupD, fnF, eqB2, sSeq, sNil, sPass, sBreak, sCont, sNever, sRet, sRetN, sExpr, sIf, sSet, sPar, sAsg, sAug, gN, gT, gsCons, gsNil, gS, setA, sAugS, getA, sFor, xSeq, srcA, xRng1, xRng2, xEnum, xZip, xListZip, srcB, xV, xC, L2.Dm.x1, L2.Dm.x2, op2, view, negA, xT, truD, xB, xCh, xAnd, xOr, xNot, xNotV, xIf, xAndV, xOrV, xNil, xCons, xTup, xLst, xLstM, allD, toD, xCall, L2.Dm.c1, L2.Dm.c2, xFn, xFnK, xFnD, xFnV, xMt, appendR, xSl, xO0, xO1, slD, L2.Dm.ltT_i, L2.Dm.ltT_s, addD, subD, mulD, fdivD, modD, powD, ltD, leD, gtD, geD, eqB, neB, isB, isnB, inB, ninB, addI, lenD, absD, maxD, minD, divmodD, intD, listD, tupleD, sumD, allB, anyB, maxL, maxA, maxT, minL, isinA, ixA, tabIx, tabIn, L2.at0, L2.at1, L2.at2, at3, at4, xYes, wipeA, List.map_cons, List.map_nil, List.length_cons, List.length_nil, List.replicate, List.cons_append, List.nil_append, List.append_nil, List.set_cons_zero, List.set_cons_succ, List.getElem?_cons_zero, List.getElem?_cons_succ, Nat.reduceAdd, Nat.reduceSub, Nat.reduceLeDiff, Nat.reduceLT, Nat.reduceEqDiff, if_true, if_false, Bool.not_true, Bool.not_false, Bool.false_eq_true, reduceIte, Option.map_some, Option.map_none, reduceCtorEq, decide_true, decide_false, Bool.and_true, Bool.true_and, Bool.and_false, Bool.false_and, Bool.or_true, Bool.true_or, Bool.or_false, Bool.false_or, and_self, and_true, true_and, Nat.zero_add]
  rename_i xs
  by_cases h1 : l ≤ (xs.length : Int) <;> simp [h1]
/-! ### the box of two numbers that is drawn from -/
theorem set_get {α : Type} {l : List α} {j : Nat} {x y : α} (h : l[j]? = some x) : (l.set j y)[j]? = some y := by
  rw [List.getElem?_set_self (List.getElem?_eq_some_iff.mp h).1]
theorem at_mem {α : Type} {xs : List α} {v : Int} (h0 : 0 ≤ v) (h1 : v < xs.length) : ∃ x, atI xs v = some x ∧ x ∈ xs := by
  have hl : v.toNat < xs.length := by omega
  refine ⟨xs[v.toNat], ?_, List.getElem_mem _⟩
  unfold atI ixN
  rw [if_pos h0, if_pos h1]
  exact List.getElem?_eq_getElem hl
theorem atI_nat {α : Type} {xs : List α} {k : Nat} {x : α} (h : xs[k]? = some x) : atI xs (k : Int) = some x := by
  have hl : k < xs.length := (List.getElem?_eq_some_iff.mp h).1
  unfold atI ixN
  rw [if_pos (by omega), if_pos (by omega), Int.toNat_natCast]
  exact h
theorem ipow_add {b : Int} (hb : 1 ≤ b) (n : Nat) : ∀ k : Nat, b ^ n ≤ b ^ (n + k)
  | 0 => Int.le_refl _
  | k + 1 => by
    have ih := ipow_add hb n k
    have h0 : 0 ≤ b ^ (n + k) := Int.pow_nonneg (by omega)
    have h1 := Int.mul_le_mul_of_nonneg_left hb h0
    have e : b ^ (n + (k + 1)) = b ^ (n + k) * b := Int.pow_succ ..
    rw [e]
    omega
theorem ipow_le {b : Int} (hb : 1 ≤ b) {n m : Nat} (h : n ≤ m) : b ^ n ≤ b ^ m := by
  have := ipow_add hb n (m - n)
  rwa [Nat.add_sub_cancel' h] at this
def bx (x y : Int) : AO := .lst [.d (.int x), .d (.int y)]
def Box (o : AO) : Prop := ∃ x y : Int, o = bx x y ∧ 0 ≤ y ∧ y < 2147483647
theorem more_loop (i : Nat) : ∀ (xs : List AV) (h : AH) (x y z : Int) (n : Nat) (v2 : Option AV), h[i]? = some (bx x y) → 0 ≤ y → y < 2147483647 → 0 ≤ z → z < 65521 ^ n → n + xs.length ≤ 12 →
    ∃ (z' y' : Int) (w2 : Option AV), forL (fun _ => true) (gN 2) b1_law_more xs [some (.ref i), some (.d (.int z)), v2] h = some (.nx, [some (.ref i), some (.d (.int z')), w2], h.set i (bx x y')) ∧ 0 ≤ z' ∧ z' < 65521 ^ 12 ∧ 0 ≤ y' ∧ y' < 2147483647
  | [], h, x, y, z, n, v2, e, y0, y1, z0, z1, hn => by
    refine ⟨z, y, v2, ?_, z0, Int.lt_of_lt_of_le z1 ?_, y0, y1⟩
    · have : h.set i (bx x y) = h := by
        obtain ⟨hj, e'⟩ := List.getElem?_eq_some_iff.mp e
        rw [← e']; exact List.set_getElem_self hj
      simp only [forL, if_true, this]
    · simp at hn
      exact ipow_le (by decide) hn
  | a :: xs, h, x, y, z, n, v2, e, y0, y1, z0, z1, hn => by
    simp only [List.length_cons] at hn
    have by' : Big y := big_le (b := 2147483647) (by decide) (by omega)
    have bz : Big z := by
      have h2 : (65521 : Int) ^ n ≤ 65521 ^ 12 := ipow_le (by decide) (by omega)
      exact big_le (b := 65521 ^ 12) (by decide +kernel) (by omega)
    have B1 : Big 48271 := by decide
    have B2 : Big 65521 := by decide
    have B3 : Big 7 := by decide
    have p1 : (0 : Int) < 2147483647 := by decide
    have p2 : (0 : Int) < 7 := by decide
    have p3 : (0 : Int) < 65521 := by decide
    have e' : h[i]? = some (.lst [.d (.int x), .d (.int y)]) := e
    have es : (h.set i (.lst [.d (.int x), .d (.int ((y * 48271 + 30269) % 2147483647))]))[i]? = some (.lst [.d (.int x), .d (.int ((y * 48271 + 30269) % 2147483647))]) := set_get e
    have i1 : ixN 2 1 = some 1 := by decide
    have a1 : ∀ y : Int, atI [AV.d (.int x), .d (.int y)] 1 = some (.d (.int y)) := fun y => rfl
    have eb : b1_law_more [some (.ref i), some (.d (.int z)), some a] h = some (.nx, [some (.ref i), some (.d (.int (z * 65521 + (y * 48271 + 30269) % 2147483647 / 7 % 65521))), some a], h.set i (bx x ((y * 48271 + 30269) % 2147483647))) := by
      unfold b1_law_more bx
      simp only [e', es, by', bz, B1, B2, B3, p1, p2, p3, i1, a1, fnF, eqB2, sSeq, sNil, sPass, sBreak, sCont, sNever, sRet, sRetN, sExpr, sIf, sSet, sPar, sAsg, sAug, gN, gT, gsCons, gsNil, gS, setA, sAugS, getA, sFor, xSeq, srcA, xRng1, xRng2, xEnum, xZip, xListZip, srcB, xV, xC, L2.Dm.x1, L2.Dm.x2, op2, view, negA, xT, truD, xB, xCh, xAnd, xOr, xNot, xNotV, xIf, xAndV, xOrV, xNil, xCons, xTup, xLst, xLstM, allD, toD, xCall, L2.Dm.c1, L2.Dm.c2, xFn, xFnK, xFnD, xFnV, xMt, appendR, xSl, xO0, xO1, slD, L2.Dm.ltT_i, L2.Dm.ltT_s, addD, subD, mulD, fdivD, modD, powD, ltD, leD, gtD, geD, eqB, neB, isB, isnB, inB, ninB, addI, lenD, absD, maxD, minD, divmodD, intD, listD, tupleD, sumD, allB, anyB, maxL, maxA, maxT, minL, isinA, ixA, tabIx, tabIn, L2.at0, L2.at1, L2.at2, at3, at4, xYes, wipeA, List.map_cons, List.map_nil, List.length_cons, List.length_nil, List.replicate, List.cons_append, List.nil_append, List.append_nil, List.set_cons_zero, List.set_cons_succ, List.getElem?_cons_zero, List.getElem?_cons_succ, Nat.reduceAdd, Nat.reduceSub, Nat.reduceLeDiff, Nat.reduceLT, Nat.reduceEqDiff, if_true, if_false, Bool.not_true, Bool.not_false, Bool.false_eq_true, reduceIte, Option.map_some, Option.map_none, reduceCtorEq, decide_true, decide_false, Bool.and_true, Bool.true_and, Bool.and_false, Bool.false_and, Bool.or_true, Bool.true_or, Bool.or_false, Bool.false_or, and_self, and_true, true_and, Nat.zero_add]
    have z2 : z * 65521 + (y * 48271 + 30269) % 2147483647 / 7 % 65521 < 65521 ^ (n + 1) := by
      rw [Int.pow_succ]
      omega
    obtain ⟨z', y', w2, e2, q1, q2, q3, q4⟩ := more_loop i xs (h.set i (bx x ((y * 48271 + 30269) % 2147483647))) x ((y * 48271 + 30269) % 2147483647) (z * 65521 + (y * 48271 + 30269) % 2147483647 / 7 % 65521) (n + 1) (some a) (set_get e) (by omega) (by omega) (by omega) z2 (by omega)
    refine ⟨z', y', w2, ?_, q1, q2, q3, q4⟩
    rw [List.set_set] at e2
    simp only [forL, if_true, gN, List.set_cons_succ, List.set_cons_zero, eb]
    exact e2
theorem f_more {h : AH} {i : Nat} {x y : Int} (e : h[i]? = some (bx x y)) (y0 : 0 ≤ y) (y1 : y < 2147483647) : ∃ z y' : Int, F_law_more [.ref i] h = some (.d (.int z), h.set i (bx x y')) ∧ 0 ≤ z ∧ z < 65521 ^ 12 ∧ 0 ≤ y' ∧ y' < 2147483647 := by
  have sm : smR 12 := by decide
  obtain ⟨z, y', w2, e2, q1, q2, q3, q4⟩ := more_loop i (rangeD 0 (Int.toNat 12)) h x y 0 0 none e y0 y1 (by decide) (by decide) (by decide)
  refine ⟨z, y', ?_, q1, q2, q3, q4⟩
  unfold F_law_more B_law_more
  simp only [sm, e2, fnF, eqB2, sSeq, sNil, sPass, sBreak, sCont, sNever, sRet, sRetN, sExpr, sIf, sSet, sPar, sAsg, sAug, gN, gT, gsCons, gsNil, gS, setA, sAugS, getA, sFor, xSeq, srcA, xRng1, xRng2, xEnum, xZip, xListZip, srcB, xV, xC, L2.Dm.x1, L2.Dm.x2, op2, view, negA, xT, truD, xB, xCh, xAnd, xOr, xNot, xNotV, xIf, xAndV, xOrV, xNil, xCons, xTup, xLst, xLstM, allD, toD, xCall, L2.Dm.c1, L2.Dm.c2, xFn, xFnK, xFnD, xFnV, xMt, appendR, xSl, xO0, xO1, slD, L2.Dm.ltT_i, L2.Dm.ltT_s, addD, subD, mulD, fdivD, modD, powD, ltD, leD, gtD, geD, eqB, neB, isB, isnB, inB, ninB, addI, lenD, absD, maxD, minD, divmodD, intD, listD, tupleD, sumD, allB, anyB, maxL, maxA, maxT, minL, isinA, ixA, tabIx, tabIn, L2.at0, L2.at1, L2.at2, at3, at4, xYes, wipeA, List.map_cons, List.map_nil, List.length_cons, List.length_nil, List.replicate, List.cons_append, List.nil_append, List.append_nil, List.set_cons_zero, List.set_cons_succ, List.getElem?_cons_zero, List.getElem?_cons_succ, Nat.reduceAdd, Nat.reduceSub, Nat.reduceLeDiff, Nat.reduceLT, Nat.reduceEqDiff, if_true, if_false, Bool.not_true, Bool.not_false, Bool.false_eq_true, reduceIte, Option.map_some, Option.map_none, reduceCtorEq, decide_true, decide_false, Bool.and_true, Bool.true_and, Bool.and_false, Bool.false_and, Bool.or_true, Bool.true_or, Bool.or_false, Bool.false_or, and_self, and_true, true_and, Nat.zero_add]
theorem f_take {h : AH} {i : Nat} {o : AO} (e : h[i]? = some o) (p : Box o) (n : Int) (hn : 1 ≤ n) (hB : Big n) : ∃ (v : Int) (o' : AO), F_law_take [.ref i, .d (.int n)] h = some (.d (.int v), h.set i o') ∧ 0 ≤ v ∧ v < n ∧ Box o' := by
  obtain ⟨x, y, rfl, y0, y1⟩ := p
  have n0 : 0 < n := by omega
  have i0 : ixN 2 0 = some 0 := by decide
  have a0 : ∀ x y : Int, atI [AV.d (.int x), .d (.int y)] 0 = some (.d (.int x)) := fun x y => rfl
  have e' : h[i]? = some (.lst [.d (.int x), .d (.int y)]) := e
  by_cases c : 0 ≤ x ∧ x < n
  · obtain ⟨z, y', e2, q1, q2, q3, q4⟩ := f_more e y0 y1
    have bz : Big z := big_le (b := 65521 ^ 12) (by decide +kernel) (by omega)
    have es : ∀ w : Int, (h.set i (.lst [.d (.int w), .d (.int y')]))[i]? = some (.lst [.d (.int w), .d (.int y')]) := fun w => set_get e
    refine ⟨(x + n * z) % n, bx ((x + n * z) / n) y', ?_, Int.emod_nonneg _ (by omega), Int.emod_lt_of_pos _ n0, _, _, rfl, q3, q4⟩
    unfold bx at e2 ⊢
    unfold F_law_take B_law_take
    simp only [e', es, e2, a0, i0, c.1, c.2, hB, bz, n0, List.set_set, fnF, eqB2, sSeq, sNil, sPass, sBreak, sCont, sNever, sRet, sRetN, sExpr, sIf, sSet, sPar, sAsg, sAug, gN, gT, gsCons, gsNil, gS, setA, sAugS, getA, sFor, xSeq, srcA, xRng1, xRng2, xEnum, xZip, xListZip, srcB, xV, xC, L2.Dm.x1, L2.Dm.x2, op2, view, negA, xT, truD, xB, xCh, xAnd, xOr, xNot, xNotV, xIf, xAndV, xOrV, xNil, xCons, xTup, xLst, xLstM, allD, toD, xCall, L2.Dm.c1, L2.Dm.c2, xFn, xFnK, xFnD, xFnV, xMt, appendR, xSl, xO0, xO1, slD, L2.Dm.ltT_i, L2.Dm.ltT_s, addD, subD, mulD, fdivD, modD, powD, ltD, leD, gtD, geD, eqB, neB, isB, isnB, inB, ninB, addI, lenD, absD, maxD, minD, divmodD, intD, listD, tupleD, sumD, allB, anyB, maxL, maxA, maxT, minL, isinA, ixA, tabIx, tabIn, L2.at0, L2.at1, L2.at2, at3, at4, xYes, wipeA, List.map_cons, List.map_nil, List.length_cons, List.length_nil, List.replicate, List.cons_append, List.nil_append, List.append_nil, List.set_cons_zero, List.set_cons_succ, List.getElem?_cons_zero, List.getElem?_cons_succ, Nat.reduceAdd, Nat.reduceSub, Nat.reduceLeDiff, Nat.reduceLT, Nat.reduceEqDiff, if_true, if_false, Bool.not_true, Bool.not_false, Bool.false_eq_true, reduceIte, Option.map_some, Option.map_none, reduceCtorEq, decide_true, decide_false, Bool.and_true, Bool.true_and, Bool.and_false, Bool.false_and, Bool.or_true, Bool.true_or, Bool.or_false, Bool.false_or, and_self, and_true, true_and, Nat.zero_add]
  · have c' : ¬ (0 ≤ x) ∨ ¬ (x < n) := by omega
    refine ⟨x % n, bx (x / n) y, ?_, Int.emod_nonneg _ (by omega), Int.emod_lt_of_pos _ n0, _, _, rfl, y0, y1⟩
    unfold bx
    unfold F_law_take B_law_take
    by_cases c0 : 0 ≤ x
    · have c1 : ¬ x < n := by omega
      simp only [e', a0, i0, c0, c1, hB, n0, fnF, eqB2, sSeq, sNil, sPass, sBreak, sCont, sNever, sRet, sRetN, sExpr, sIf, sSet, sPar, sAsg, sAug, gN, gT, gsCons, gsNil, gS, setA, sAugS, getA, sFor, xSeq, srcA, xRng1, xRng2, xEnum, xZip, xListZip, srcB, xV, xC, L2.Dm.x1, L2.Dm.x2, op2, view, negA, xT, truD, xB, xCh, xAnd, xOr, xNot, xNotV, xIf, xAndV, xOrV, xNil, xCons, xTup, xLst, xLstM, allD, toD, xCall, L2.Dm.c1, L2.Dm.c2, xFn, xFnK, xFnD, xFnV, xMt, appendR, xSl, xO0, xO1, slD, L2.Dm.ltT_i, L2.Dm.ltT_s, addD, subD, mulD, fdivD, modD, powD, ltD, leD, gtD, geD, eqB, neB, isB, isnB, inB, ninB, addI, lenD, absD, maxD, minD, divmodD, intD, listD, tupleD, sumD, allB, anyB, maxL, maxA, maxT, minL, isinA, ixA, tabIx, tabIn, L2.at0, L2.at1, L2.at2, at3, at4, xYes, wipeA, List.map_cons, List.map_nil, List.length_cons, List.length_nil, List.replicate, List.cons_append, List.nil_append, List.append_nil, List.set_cons_zero, List.set_cons_succ, List.getElem?_cons_zero, List.getElem?_cons_succ, Nat.reduceAdd, Nat.reduceSub, Nat.reduceLeDiff, Nat.reduceLT, Nat.reduceEqDiff, if_true, if_false, Bool.not_true, Bool.not_false, Bool.false_eq_true, reduceIte, Option.map_some, Option.map_none, reduceCtorEq, decide_true, decide_false, Bool.and_true, Bool.true_and, Bool.and_false, Bool.false_and, Bool.or_true, Bool.true_or, Bool.or_false, Bool.false_or, and_self, and_true, true_and, Nat.zero_add]
    · simp only [e', a0, i0, c0, hB, n0, fnF, eqB2, sSeq, sNil, sPass, sBreak, sCont, sNever, sRet, sRetN, sExpr, sIf, sSet, sPar, sAsg, sAug, gN, gT, gsCons, gsNil, gS, setA, sAugS, getA, sFor, xSeq, srcA, xRng1, xRng2, xEnum, xZip, xListZip, srcB, xV, xC, L2.Dm.x1, L2.Dm.x2, op2, view, negA, xT, truD, xB, xCh, xAnd, xOr, xNot, xNotV, xIf, xAndV, xOrV, xNil, xCons, xTup, xLst, xLstM, allD, toD, xCall, L2.Dm.c1, L2.Dm.c2, xFn, xFnK, xFnD, xFnV, xMt, appendR, xSl, xO0, xO1, slD, L2.Dm.ltT_i, L2.Dm.ltT_s, addD, subD, mulD, fdivD, modD, powD, ltD, leD, gtD, geD, eqB, neB, isB, isnB, inB, ninB, addI, lenD, absD, maxD, minD, divmodD, intD, listD, tupleD, sumD, allB, anyB, maxL, maxA, maxT, minL, isinA, ixA, tabIx, tabIn, L2.at0, L2.at1, L2.at2, at3, at4, xYes, wipeA, List.map_cons, List.map_nil, List.length_cons, List.length_nil, List.replicate, List.cons_append, List.nil_append, List.append_nil, List.set_cons_zero, List.set_cons_succ, List.getElem?_cons_zero, List.getElem?_cons_succ, Nat.reduceAdd, Nat.reduceSub, Nat.reduceLeDiff, Nat.reduceLT, Nat.reduceEqDiff, if_true, if_false, Bool.not_true, Bool.not_false, Bool.false_eq_true, reduceIte, Option.map_some, Option.map_none, reduceCtorEq, decide_true, decide_false, Bool.and_true, Bool.true_and, Bool.and_false, Bool.false_and, Bool.or_true, Bool.true_or, Bool.or_false, Bool.false_or, and_self, and_true, true_and, Nat.zero_add]
theorem box_loop (s0 s1 : Option AV) (a : Int) : ∀ (ks : List Nat) (h : AH) (z : Int) (n : Nat) (v4 v5 : Option AV), 0 ≤ z → z < 2147483647 ^ n → n + ks.length ≤ 16 → (∀ k ∈ ks, k < 16) →
    ∃ (z' : Int) (w4 w5 : Option AV), forL (fun _ => true) (gN 4) b1_law_box (ks.map fun k => .d (.int (k : Nat))) [s0, s1, some (.d (.int a)), some (.d (.int z)), v4, v5] h = some (.nx, [s0, s1, some (.d (.int a)), some (.d (.int z')), w4, w5], h)
  | [], h, z, n, v4, v5, z0, z1, hn, hk => ⟨z, v4, v5, by simp [forL]⟩
  | k :: ks, h, z, n, v4, v5, z0, z1, hn, hk => by
    simp only [List.length_cons] at hn
    have k1 := hk k (List.mem_cons_self ..)
    have bz : Big z := by
      have h2 : (2147483647 : Int) ^ n ≤ 2147483647 ^ 16 := ipow_le (by decide) (by omega)
      exact big_le (b := 2147483647 ^ 16) (by decide +kernel) (by omega)
    have B1 : Big 48271 := by decide
    have B2 : Big 7919 := by decide
    have B3 : Big 2147483647 := by decide
    have bk : Big ((k : Nat) : Int) := big_le (b := 16) (by decide) (by omega)
    have p1 : (0 : Int) < 2147483647 := by decide
    have p2 : (0 : Int) < 2147483629 := by decide
    have m1 : ∀ t : Int, Big (t % 2147483647) := fun t => big_le (b := 2147483647) (by decide) (by omega)
    have m2 : ∀ t : Int, Big (t % 2147483629) := fun t => big_le (b := 2147483629) (by decide) (by omega)
    have m3 : ∀ t : Int, Big (t % 2147483629 + 13) := fun t => big_le (b := 2147483647) (by decide) (by omega)
    obtain ⟨z2, w5, eb, q1, q2⟩ : ∃ (z2 : Int) (w5 : Option AV), b1_law_box [s0, s1, some (.d (.int a)), some (.d (.int z)), some (.d (.int (k : Nat))), v5] h = some (.nx, [s0, s1, some (.d (.int a)), some (.d (.int z2)), some (.d (.int (k : Nat))), w5], h) ∧ 0 ≤ z2 ∧ z2 < 2147483647 ^ (n + 1) := by
      generalize hP : ((a % 2147483647 * 48271 + 7919 * ((k : Nat) : Int) + 1) % 2147483647) = P
      have mP : Big P := by rw [← hP]; exact m1 _
      refine ⟨z * 2147483647 + (P * P % 2147483629) * (P * P % 2147483629 + 13) % 2147483647, some (.d (.int (P * P % 2147483629))), ?_, ?_, ?_⟩
      · unfold b1_law_box
        simp only [m1, m2, m3, mP, hP, bz, bk, B1, B2, B3, p1, p2, fnF, eqB2, sSeq, sNil, sPass, sBreak, sCont, sNever, sRet, sRetN, sExpr, sIf, sSet, sPar, sAsg, sAug, gN, gT, gsCons, gsNil, gS, setA, sAugS, getA, sFor, xSeq, srcA, xRng1, xRng2, xEnum, xZip, xListZip, srcB, xV, xC, L2.Dm.x1, L2.Dm.x2, op2, view, negA, xT, truD, xB, xCh, xAnd, xOr, xNot, xNotV, xIf, xAndV, xOrV, xNil, xCons, xTup, xLst, xLstM, allD, toD, xCall, L2.Dm.c1, L2.Dm.c2, xFn, xFnK, xFnD, xFnV, xMt, appendR, xSl, xO0, xO1, slD, L2.Dm.ltT_i, L2.Dm.ltT_s, addD, subD, mulD, fdivD, modD, powD, ltD, leD, gtD, geD, eqB, neB, isB, isnB, inB, ninB, addI, lenD, absD, maxD, minD, divmodD, intD, listD, tupleD, sumD, allB, anyB, maxL, maxA, maxT, minL, isinA, ixA, tabIx, tabIn, L2.at0, L2.at1, L2.at2, at3, at4, xYes, wipeA, List.map_cons, List.map_nil, List.length_cons, List.length_nil, List.replicate, List.cons_append, List.nil_append, List.append_nil, List.set_cons_zero, List.set_cons_succ, List.getElem?_cons_zero, List.getElem?_cons_succ, Nat.reduceAdd, Nat.reduceSub, Nat.reduceLeDiff, Nat.reduceLT, Nat.reduceEqDiff, if_true, if_false, Bool.not_true, Bool.not_false, Bool.false_eq_true, reduceIte, Option.map_some, Option.map_none, reduceCtorEq, decide_true, decide_false, Bool.and_true, Bool.true_and, Bool.and_false, Bool.false_and, Bool.or_true, Bool.true_or, Bool.or_false, Bool.false_or, and_self, and_true, true_and, Nat.zero_add]
      · have := Int.emod_nonneg ((P * P % 2147483629) * (P * P % 2147483629 + 13)) (show (2147483647 : Int) ≠ 0 by decide)
        omega
      · have h1 := Int.emod_lt_of_pos ((P * P % 2147483629) * (P * P % 2147483629 + 13)) p1
        rw [Int.pow_succ]
        omega
    obtain ⟨z', w4, w5', e2⟩ := box_loop s0 s1 a ks h z2 (n + 1) (some (.d (.int (k : Nat)))) w5 q1 q2 (by omega) (fun x hx => hk x (List.mem_cons_of_mem _ hx))
    refine ⟨z', w4, w5', ?_⟩
    simp only [List.map_cons, forL, if_true, gN, List.set_cons_succ, List.set_cons_zero, eb]
    exact e2
theorem f_box (ns : List Int) (k : Nat) (hk : k < 1000) (h : AH) : ∃ o, F_law_box [.d (.list (ns.map PyData.int)), .d (.int (k : Nat))] h = some (.ref h.length, h ++ [o]) ∧ Box o := by
  obtain ⟨a, ha⟩ : ∃ a : Int, (if k < ns.length then atI (ns.map PyData.int) ((k : Nat) : Int) = some (.int a) else a = 7919 * ((k : Nat) : Int) + 13) := by
    by_cases q : k < ns.length
    · exact ⟨ns[k], by rw [if_pos q]; exact atI_nat (by rw [List.getElem?_map, List.getElem?_eq_getElem q]; rfl)⟩
    · exact ⟨_, by rw [if_neg q]⟩
  have s2 : (2 : Nat) ≤ sizeLine := by decide
  have p0 : (0 : Int) < 2 := by decide
  have p1 : (0 : Int) < 2147483647 := by decide
  have B2 : Big 2 := by decide
  have B3 : Big 7919 := by decide
  have bk : Big ((k : Nat) : Int) := big_le (b := 1000) (by decide) (by omega)
  have sm : smR 16 := by decide
  have er : rangeD 0 (Int.toNat 16) = (List.range 16).map fun k => .d (.int (k : Nat)) := by
    unfold rangeD
    exact List.map_congr_left fun k _ => by rw [Int.zero_add]
  have yb := fun z : Int => And.intro (Int.emod_nonneg ((z.natAbs : Int)) (show (2147483647 : Int) ≠ 0 by decide)) (Int.emod_lt_of_pos ((z.natAbs : Int)) p1)
  obtain ⟨z, w4, w5, eL⟩ := box_loop (some (.d (.list (ns.map PyData.int)))) (some (.d (.int (k : Nat)))) a (List.range 16) h 0 0 none none (by decide) (by decide) (by decide) (by simp)
  by_cases q : k < ns.length
  · have q1 : ((k : Nat) : Int) < (ns.length : Nat) := by omega
    rw [if_pos q] at ha
    by_cases c : a % 2 = 0
    · refine ⟨bx (a / 2) ((a.natAbs : Int) % 2147483647), ?_, _, _, rfl, (yb a).1, (yb a).2⟩
      unfold bx F_law_box B_law_box
      simp only [B3, bk, List.length_map, q1, ha, p0, p1, B2, eqD, c, s2, fnF, eqB2, sSeq, sNil, sPass, sBreak, sCont, sNever, sRet, sRetN, sExpr, sIf, sSet, sPar, sAsg, sAug, gN, gT, gsCons, gsNil, gS, setA, sAugS, getA, sFor, xSeq, srcA, xRng1, xRng2, xEnum, xZip, xListZip, srcB, xV, xC, L2.Dm.x1, L2.Dm.x2, op2, view, negA, xT, truD, xB, xCh, xAnd, xOr, xNot, xNotV, xIf, xAndV, xOrV, xNil, xCons, xTup, xLst, xLstM, allD, toD, xCall, L2.Dm.c1, L2.Dm.c2, xFn, xFnK, xFnD, xFnV, xMt, appendR, xSl, xO0, xO1, slD, L2.Dm.ltT_i, L2.Dm.ltT_s, addD, subD, mulD, fdivD, modD, powD, ltD, leD, gtD, geD, eqB, neB, isB, isnB, inB, ninB, addI, lenD, absD, maxD, minD, divmodD, intD, listD, tupleD, sumD, allB, anyB, maxL, maxA, maxT, minL, isinA, ixA, tabIx, tabIn, L2.at0, L2.at1, L2.at2, at3, at4, xYes, wipeA, List.map_cons, List.map_nil, List.length_cons, List.length_nil, List.replicate, List.cons_append, List.nil_append, List.append_nil, List.set_cons_zero, List.set_cons_succ, List.getElem?_cons_zero, List.getElem?_cons_succ, Nat.reduceAdd, Nat.reduceSub, Nat.reduceLeDiff, Nat.reduceLT, Nat.reduceEqDiff, if_true, if_false, Bool.not_true, Bool.not_false, Bool.false_eq_true, reduceIte, Option.map_some, Option.map_none, reduceCtorEq, decide_true, decide_false, Bool.and_true, Bool.true_and, Bool.and_false, Bool.false_and, Bool.or_true, Bool.true_or, Bool.or_false, Bool.false_or, and_self, and_true, true_and, Nat.zero_add]
    · refine ⟨bx z ((a.natAbs : Int) % 2147483647), ?_, _, _, rfl, (yb a).1, (yb a).2⟩
      unfold bx F_law_box B_law_box
      simp only [B3, bk, List.length_map, q1, ha, p0, p1, B2, eqD, c, s2, sm, er, eL, fnF, eqB2, sSeq, sNil, sPass, sBreak, sCont, sNever, sRet, sRetN, sExpr, sIf, sSet, sPar, sAsg, sAug, gN, gT, gsCons, gsNil, gS, setA, sAugS, getA, sFor, xSeq, srcA, xRng1, xRng2, xEnum, xZip, xListZip, srcB, xV, xC, L2.Dm.x1, L2.Dm.x2, op2, view, negA, xT, truD, xB, xCh, xAnd, xOr, xNot, xNotV, xIf, xAndV, xOrV, xNil, xCons, xTup, xLst, xLstM, allD, toD, xCall, L2.Dm.c1, L2.Dm.c2, xFn, xFnK, xFnD, xFnV, xMt, appendR, xSl, xO0, xO1, slD, L2.Dm.ltT_i, L2.Dm.ltT_s, addD, subD, mulD, fdivD, modD, powD, ltD, leD, gtD, geD, eqB, neB, isB, isnB, inB, ninB, addI, lenD, absD, maxD, minD, divmodD, intD, listD, tupleD, sumD, allB, anyB, maxL, maxA, maxT, minL, isinA, ixA, tabIx, tabIn, L2.at0, L2.at1, L2.at2, at3, at4, xYes, wipeA, List.map_cons, List.map_nil, List.length_cons, List.length_nil, List.replicate, List.cons_append, List.nil_append, List.append_nil, List.set_cons_zero, List.set_cons_succ, List.getElem?_cons_zero, List.getElem?_cons_succ, Nat.reduceAdd, Nat.reduceSub, Nat.reduceLeDiff, Nat.reduceLT, Nat.reduceEqDiff, if_true, if_false, Bool.not_true, Bool.not_false, Bool.false_eq_true, reduceIte, Option.map_some, Option.map_none, reduceCtorEq, decide_true, decide_false, Bool.and_true, Bool.true_and, Bool.and_false, Bool.false_and, Bool.or_true, Bool.true_or, Bool.or_false, Bool.false_or, and_self, and_true, true_and, Nat.zero_add]
  · have q1 : ¬ ((k : Nat) : Int) < (ns.length : Nat) := by omega
    rw [if_neg q] at ha
    by_cases c : a % 2 = 0
    · refine ⟨bx (a / 2) ((a.natAbs : Int) % 2147483647), ?_, _, _, rfl, (yb a).1, (yb a).2⟩
      unfold bx F_law_box B_law_box
      simp only [B3, bk, List.length_map, q1, ← ha, p0, p1, B2, eqD, c, s2, fnF, eqB2, sSeq, sNil, sPass, sBreak, sCont, sNever, sRet, sRetN, sExpr, sIf, sSet, sPar, sAsg, sAug, gN, gT, gsCons, gsNil, gS, setA, sAugS, getA, sFor, xSeq, srcA, xRng1, xRng2, xEnum, xZip, xListZip, srcB, xV, xC, L2.Dm.x1, L2.Dm.x2, op2, view, negA, xT, truD, xB, xCh, xAnd, xOr, xNot, xNotV, xIf, xAndV, xOrV, xNil, xCons, xTup, xLst, xLstM, allD, toD, xCall, L2.Dm.c1, L2.Dm.c2, xFn, xFnK, xFnD, xFnV, xMt, appendR, xSl, xO0, xO1, slD, L2.Dm.ltT_i, L2.Dm.ltT_s, addD, subD, mulD, fdivD, modD, powD, ltD, leD, gtD, geD, eqB, neB, isB, isnB, inB, ninB, addI, lenD, absD, maxD, minD, divmodD, intD, listD, tupleD, sumD, allB, anyB, maxL, maxA, maxT, minL, isinA, ixA, tabIx, tabIn, L2.at0, L2.at1, L2.at2, at3, at4, xYes, wipeA, List.map_cons, List.map_nil, List.length_cons, List.length_nil, List.replicate, List.cons_append, List.nil_append, List.append_nil, List.set_cons_zero, List.set_cons_succ, List.getElem?_cons_zero, List.getElem?_cons_succ, Nat.reduceAdd, Nat.reduceSub, Nat.reduceLeDiff, Nat.reduceLT, Nat.reduceEqDiff, if_true, if_false, Bool.not_true, Bool.not_false, Bool.false_eq_true, reduceIte, Option.map_some, Option.map_none, reduceCtorEq, decide_true, decide_false, Bool.and_true, Bool.true_and, Bool.and_false, Bool.false_and, Bool.or_true, Bool.true_or, Bool.or_false, Bool.false_or, and_self, and_true, true_and, Nat.zero_add]
    · refine ⟨bx z ((a.natAbs : Int) % 2147483647), ?_, _, _, rfl, (yb a).1, (yb a).2⟩
      unfold bx F_law_box B_law_box
      simp only [B3, bk, List.length_map, q1, ← ha, p0, p1, B2, eqD, c, s2, sm, er, eL, fnF, eqB2, sSeq, sNil, sPass, sBreak, sCont, sNever, sRet, sRetN, sExpr, sIf, sSet, sPar, sAsg, sAug, gN, gT, gsCons, gsNil, gS, setA, sAugS, getA, sFor, xSeq, srcA, xRng1, xRng2, xEnum, xZip, xListZip, srcB, xV, xC, L2.Dm.x1, L2.Dm.x2, op2, view, negA, xT, truD, xB, xCh, xAnd, xOr, xNot, xNotV, xIf, xAndV, xOrV, xNil, xCons, xTup, xLst, xLstM, allD, toD, xCall, L2.Dm.c1, L2.Dm.c2, xFn, xFnK, xFnD, xFnV, xMt, appendR, xSl, xO0, xO1, slD, L2.Dm.ltT_i, L2.Dm.ltT_s, addD, subD, mulD, fdivD, modD, powD, ltD, leD, gtD, geD, eqB, neB, isB, isnB, inB, ninB, addI, lenD, absD, maxD, minD, divmodD, intD, listD, tupleD, sumD, allB, anyB, maxL, maxA, maxT, minL, isinA, ixA, tabIx, tabIn, L2.at0, L2.at1, L2.at2, at3, at4, xYes, wipeA, List.map_cons, List.map_nil, List.length_cons, List.length_nil, List.replicate, List.cons_append, List.nil_append, List.append_nil, List.set_cons_zero, List.set_cons_succ, List.getElem?_cons_zero, List.getElem?_cons_succ, Nat.reduceAdd, Nat.reduceSub, Nat.reduceLeDiff, Nat.reduceLT, Nat.reduceEqDiff, if_true, if_false, Bool.not_true, Bool.not_false, Bool.false_eq_true, reduceIte, Option.map_some, Option.map_none, reduceCtorEq, decide_true, decide_false, Bool.and_true, Bool.true_and, Bool.and_false, Bool.false_and, Bool.or_true, Bool.true_or, Bool.or_false, Bool.false_or, and_self, and_true, true_and, Nat.zero_add]
end My
set_option linter.all false
set_option maxRecDepth 100000
namespace My
open PySem L2.Dm
open L2 (Big atI ixN isinK)
/-! ### days, dates -/
def dateD (d : Int) : PyData := .tuple [.int (d / 30 / 12), .int (d / 30 % 12 + 1), .int (d % 30 + 1)]
theorem f_is_day (x : PyData) (h : AH) : F_is_day [.d x] h = some (.d (.bool (withinD x 0 9999)), h) := by
  unfold F_is_day B_is_day
  simp only [f_within, fnF, eqB2, sSeq, sNil, sPass, sBreak, sCont, sNever, sRet, sRetN, sExpr, sIf, sSet, sPar, sAsg, sAug, gN, gT, gsCons, gsNil, gS, setA, sAugS, getA, sFor, xSeq, srcA, xRng1, xRng2, xEnum, xZip, xListZip, srcB, xV, xC, L2.Dm.x1, L2.Dm.x2, op2, view, negA, xT, truD, xB, xCh, xAnd, xOr, xNot, xNotV, xIf, xAndV, xOrV, xNil, xCons, xTup, xLst, xLstM, allD, toD, xCall, L2.Dm.c1, L2.Dm.c2, xFn, xFnK, xFnD, xFnV, xMt, appendR, xSl, xO0, xO1, slD, L2.Dm.ltT_i, L2.Dm.ltT_s, addD, subD, mulD, fdivD, modD, powD, ltD, leD, gtD, geD, eqB, neB, isB, isnB, inB, ninB, addI, lenD, absD, maxD, minD, divmodD, intD, listD, tupleD, sumD, allB, anyB, maxL, maxA, maxT, minL, isinA, ixA, tabIx, tabIn, L2.at0, L2.at1, L2.at2, at3, at4, xYes, wipeA, List.map_cons, List.map_nil, List.length_cons, List.length_nil, List.replicate, List.cons_append, List.nil_append, List.append_nil, List.set_cons_zero, List.set_cons_succ, List.getElem?_cons_zero, List.getElem?_cons_succ, Nat.reduceAdd, Nat.reduceSub, Nat.reduceLeDiff, Nat.reduceLT, Nat.reduceEqDiff, if_true, if_false, Bool.not_true, Bool.not_false, Bool.false_eq_true, reduceIte, Option.map_some, Option.map_none, reduceCtorEq, decide_true, decide_false, Bool.and_true, Bool.true_and, Bool.and_false, Bool.false_and, Bool.or_true, Bool.true_or, Bool.or_false, Bool.false_or, and_self, and_true, true_and, Nat.zero_add]
theorem f_date {d : Int} (d0 : 0 ≤ d) (d1 : d ≤ 9999) (h : AH) : F_date_of [.d (.int d)] h = some (.d (dateD d), h) := by
  have w : withinD (.int d) 0 9999 = true := by simp [withinD, d0, d1]
  have r : F_refuse_no_day [.d (.int d)] h = some (.d .none, h) := by
    unfold F_refuse_no_day B_refuse_no_day
    simp only [f_is_day, w, fnF, eqB2, sSeq, sNil, sPass, sBreak, sCont, sNever, sRet, sRetN, sExpr, sIf, sSet, sPar, sAsg, sAug, gN, gT, gsCons, gsNil, gS, setA, sAugS, getA, sFor, xSeq, srcA, xRng1, xRng2, xEnum, xZip, xListZip, srcB, xV, xC, L2.Dm.x1, L2.Dm.x2, op2, view, negA, xT, truD, xB, xCh, xAnd, xOr, xNot, xNotV, xIf, xAndV, xOrV, xNil, xCons, xTup, xLst, xLstM, allD, toD, xCall, L2.Dm.c1, L2.Dm.c2, xFn, xFnK, xFnD, xFnV, xMt, appendR, xSl, xO0, xO1, slD, L2.Dm.ltT_i, L2.Dm.ltT_s, addD, subD, mulD, fdivD, modD, powD, ltD, leD, gtD, geD, eqB, neB, isB, isnB, inB, ninB, addI, lenD, absD, maxD, minD, divmodD, intD, listD, tupleD, sumD, allB, anyB, maxL, maxA, maxT, minL, isinA, ixA, tabIx, tabIn, L2.at0, L2.at1, L2.at2, at3, at4, xYes, wipeA, List.map_cons, List.map_nil, List.length_cons, List.length_nil, List.replicate, List.cons_append, List.nil_append, List.append_nil, List.set_cons_zero, List.set_cons_succ, List.getElem?_cons_zero, List.getElem?_cons_succ, Nat.reduceAdd, Nat.reduceSub, Nat.reduceLeDiff, Nat.reduceLT, Nat.reduceEqDiff, if_true, if_false, Bool.not_true, Bool.not_false, Bool.false_eq_true, reduceIte, Option.map_some, Option.map_none, reduceCtorEq, decide_true, decide_false, Bool.and_true, Bool.true_and, Bool.and_false, Bool.false_and, Bool.or_true, Bool.true_or, Bool.or_false, Bool.false_or, and_self, and_true, true_and, Nat.zero_add]
  have s3 : (3 : Nat) ≤ sizeLine := by decide
  have b30 : Big 30 := by decide
  have b12 : Big 12 := by decide
  unfold F_date_of B_date_of
  simp only [r, s3, dateD, b30, b12, Int.reduceLT, and_self, true_and, fnF, eqB2, sSeq, sNil, sPass, sBreak, sCont, sNever, sRet, sRetN, sExpr, sIf, sSet, sPar, sAsg, sAug, gN, gT, gsCons, gsNil, gS, setA, sAugS, getA, sFor, xSeq, srcA, xRng1, xRng2, xEnum, xZip, xListZip, srcB, xV, xC, L2.Dm.x1, L2.Dm.x2, op2, view, negA, xT, truD, xB, xCh, xAnd, xOr, xNot, xNotV, xIf, xAndV, xOrV, xNil, xCons, xTup, xLst, xLstM, allD, toD, xCall, L2.Dm.c1, L2.Dm.c2, xFn, xFnK, xFnD, xFnV, xMt, appendR, xSl, xO0, xO1, slD, L2.Dm.ltT_i, L2.Dm.ltT_s, addD, subD, mulD, fdivD, modD, powD, ltD, leD, gtD, geD, eqB, neB, isB, isnB, inB, ninB, addI, lenD, absD, maxD, minD, divmodD, intD, listD, tupleD, sumD, allB, anyB, maxL, maxA, maxT, minL, isinA, ixA, tabIx, tabIn, L2.at0, L2.at1, L2.at2, at3, at4, xYes, wipeA, List.map_cons, List.map_nil, List.length_cons, List.length_nil, List.replicate, List.cons_append, List.nil_append, List.append_nil, List.set_cons_zero, List.set_cons_succ, List.getElem?_cons_zero, List.getElem?_cons_succ, Nat.reduceAdd, Nat.reduceSub, Nat.reduceLeDiff, Nat.reduceLT, Nat.reduceEqDiff, if_true, if_false, Bool.not_true, Bool.not_false, Bool.false_eq_true, reduceIte, Option.map_some, Option.map_none, reduceCtorEq, decide_true, decide_false, Bool.and_true, Bool.true_and, Bool.and_false, Bool.false_and, Bool.or_true, Bool.true_or, Bool.or_false, Bool.false_or, and_self, and_true, true_and, Nat.zero_add]
theorem f_cal (d : Int) (h : AH) (d0 : 0 ≤ d) : F_is_calendar_date [.d (dateD d)] h = some (.d (.bool true), h) := by
  have t : tupD (dateD d) 3 3 = true := rfl
  have a1 : 0 ≤ d / 30 % 12 := Int.emod_nonneg _ (by decide)
  have a2 : d / 30 % 12 < 12 := Int.emod_lt_of_pos _ (by decide)
  have b1 : 0 ≤ d % 30 := Int.emod_nonneg _ (by decide)
  have b2 : d % 30 < 30 := Int.emod_lt_of_pos _ (by decide)
  have w1 : withinD (.int (d / 30 % 12 + 1)) 1 12 = true := by simp only [withinD, Bool.and_eq_true, decide_eq_true_eq]; omega
  have w2 : withinD (.int (d % 30 + 1)) 1 30 = true := by simp only [withinD, Bool.and_eq_true, decide_eq_true_eq]; omega
  have f1 := f_tuple (dateD d) 3 3 h
  unfold dateD at t f1 ⊢
  unfold F_is_calendar_date B_is_calendar_date
  simp only [f1, t, f_whole, wholeD, f_within, w1, w2, fnF, eqB2, sSeq, sNil, sPass, sBreak, sCont, sNever, sRet, sRetN, sExpr, sIf, sSet, sPar, sAsg, sAug, gN, gT, gsCons, gsNil, gS, setA, sAugS, getA, sFor, xSeq, srcA, xRng1, xRng2, xEnum, xZip, xListZip, srcB, xV, xC, L2.Dm.x1, L2.Dm.x2, op2, view, negA, xT, truD, xB, xCh, xAnd, xOr, xNot, xNotV, xIf, xAndV, xOrV, xNil, xCons, xTup, xLst, xLstM, allD, toD, xCall, L2.Dm.c1, L2.Dm.c2, xFn, xFnK, xFnD, xFnV, xMt, appendR, xSl, xO0, xO1, slD, L2.Dm.ltT_i, L2.Dm.ltT_s, addD, subD, mulD, fdivD, modD, powD, ltD, leD, gtD, geD, eqB, neB, isB, isnB, inB, ninB, addI, lenD, absD, maxD, minD, divmodD, intD, listD, tupleD, sumD, allB, anyB, maxL, maxA, maxT, minL, isinA, ixA, tabIx, tabIn, L2.at0, L2.at1, L2.at2, at3, at4, xYes, wipeA, List.map_cons, List.map_nil, List.length_cons, List.length_nil, List.replicate, List.cons_append, List.nil_append, List.append_nil, List.set_cons_zero, List.set_cons_succ, List.getElem?_cons_zero, List.getElem?_cons_succ, Nat.reduceAdd, Nat.reduceSub, Nat.reduceLeDiff, Nat.reduceLT, Nat.reduceEqDiff, if_true, if_false, Bool.not_true, Bool.not_false, Bool.false_eq_true, reduceIte, Option.map_some, Option.map_none, reduceCtorEq, decide_true, decide_false, Bool.and_true, Bool.true_and, Bool.and_false, Bool.false_and, Bool.or_true, Bool.true_or, Bool.or_false, Bool.false_or, and_self, and_true, true_and, Nat.zero_add]
theorem f_day {d : Int} (d0 : 0 ≤ d) (d1 : d ≤ 9999) (h : AH) : F_day_of [.d (dateD d)] h = some (.d (.int d), h) := by
  have c := f_cal d h d0
  have e : ((d / 30 / 12 * 12 + (d / 30 % 12 + 1) - 1) * 30 + (d % 30 + 1) - 1) = d := by omega
  have w : withinD (.int d) 0 9999 = true := by simp [withinD, d0, d1]
  have q1 : Big (d / 30 / 12) := big_le (b := 10000) (by decide) (by omega)
  have q2 : Big (d / 30 / 12 * 12 + (d / 30 % 12 + 1) - 1) := big_le (b := 100000) (by decide) (by omega)
  have q3 : Big 12 := by decide
  have q4 : Big 30 := by decide
  unfold dateD at c ⊢
  unfold F_day_of B_day_of
  simp only [c, e, f_is_day, w, q1, q2, q3, q4, fnF, eqB2, sSeq, sNil, sPass, sBreak, sCont, sNever, sRet, sRetN, sExpr, sIf, sSet, sPar, sAsg, sAug, gN, gT, gsCons, gsNil, gS, setA, sAugS, getA, sFor, xSeq, srcA, xRng1, xRng2, xEnum, xZip, xListZip, srcB, xV, xC, L2.Dm.x1, L2.Dm.x2, op2, view, negA, xT, truD, xB, xCh, xAnd, xOr, xNot, xNotV, xIf, xAndV, xOrV, xNil, xCons, xTup, xLst, xLstM, allD, toD, xCall, L2.Dm.c1, L2.Dm.c2, xFn, xFnK, xFnD, xFnV, xMt, appendR, xSl, xO0, xO1, slD, L2.Dm.ltT_i, L2.Dm.ltT_s, addD, subD, mulD, fdivD, modD, powD, ltD, leD, gtD, geD, eqB, neB, isB, isnB, inB, ninB, addI, lenD, absD, maxD, minD, divmodD, intD, listD, tupleD, sumD, allB, anyB, maxL, maxA, maxT, minL, isinA, ixA, tabIx, tabIn, L2.at0, L2.at1, L2.at2, at3, at4, xYes, wipeA, List.map_cons, List.map_nil, List.length_cons, List.length_nil, List.replicate, List.cons_append, List.nil_append, List.append_nil, List.set_cons_zero, List.set_cons_succ, List.getElem?_cons_zero, List.getElem?_cons_succ, Nat.reduceAdd, Nat.reduceSub, Nat.reduceLeDiff, Nat.reduceLT, Nat.reduceEqDiff, if_true, if_false, Bool.not_true, Bool.not_false, Bool.false_eq_true, reduceIte, Option.map_some, Option.map_none, reduceCtorEq, decide_true, decide_false, Bool.and_true, Bool.true_and, Bool.and_false, Bool.false_and, Bool.or_true, Bool.true_or, Bool.or_false, Bool.false_or, and_self, and_true, true_and, Nat.zero_add]
theorem year_loop (v0 v2 : Option AV) (h : AH) : ∀ (n : Nat) (y d : Int), 0 ≤ d → (d / 360).toNat < n → wh t2_law_date b2_law_date n [v0, some (.d (.int y)), v2, some (.d (.int d))] h = some (.nx, [v0, some (.d (.int (y + d / 360))), v2, some (.d (.int (d % 360)))], h)
  | 0, y, d, _, hn => by omega
  | n + 1, y, d, d0, hn => by
    unfold wh
    have hT : t2_law_date [v0, some (.d (.int y)), v2, some (.d (.int d))] h = some (decide (360 ≤ d), h) := by
      unfold t2_law_date
      simp only [fnF, eqB2, sSeq, sNil, sPass, sBreak, sCont, sNever, sRet, sRetN, sExpr, sIf, sSet, sPar, sAsg, sAug, gN, gT, gsCons, gsNil, gS, setA, sAugS, getA, sFor, xSeq, srcA, xRng1, xRng2, xEnum, xZip, xListZip, srcB, xV, xC, L2.Dm.x1, L2.Dm.x2, op2, view, negA, xT, truD, xB, xCh, xAnd, xOr, xNot, xNotV, xIf, xAndV, xOrV, xNil, xCons, xTup, xLst, xLstM, allD, toD, xCall, L2.Dm.c1, L2.Dm.c2, xFn, xFnK, xFnD, xFnV, xMt, appendR, xSl, xO0, xO1, slD, L2.Dm.ltT_i, L2.Dm.ltT_s, addD, subD, mulD, fdivD, modD, powD, ltD, leD, gtD, geD, eqB, neB, isB, isnB, inB, ninB, addI, lenD, absD, maxD, minD, divmodD, intD, listD, tupleD, sumD, allB, anyB, maxL, maxA, maxT, minL, isinA, ixA, tabIx, tabIn, L2.at0, L2.at1, L2.at2, at3, at4, xYes, wipeA, List.map_cons, List.map_nil, List.length_cons, List.length_nil, List.replicate, List.cons_append, List.nil_append, List.append_nil, List.set_cons_zero, List.set_cons_succ, List.getElem?_cons_zero, List.getElem?_cons_succ, Nat.reduceAdd, Nat.reduceSub, Nat.reduceLeDiff, Nat.reduceLT, Nat.reduceEqDiff, if_true, if_false, Bool.not_true, Bool.not_false, Bool.false_eq_true, reduceIte, Option.map_some, Option.map_none, reduceCtorEq, decide_true, decide_false, Bool.and_true, Bool.true_and, Bool.and_false, Bool.false_and, Bool.or_true, Bool.true_or, Bool.or_false, Bool.false_or, and_self, and_true, true_and, Nat.zero_add]
    rw [hT]
    by_cases hd : 360 ≤ d
    · have hB : b2_law_date [v0, some (.d (.int y)), v2, some (.d (.int d))] h = some (.nx, [v0, some (.d (.int (y + 1))), v2, some (.d (.int (d - 360)))], h) := by
        unfold b2_law_date
        simp only [sPars, fnF, eqB2, sSeq, sNil, sPass, sBreak, sCont, sNever, sRet, sRetN, sExpr, sIf, sSet, sPar, sAsg, sAug, gN, gT, gsCons, gsNil, gS, setA, sAugS, getA, sFor, xSeq, srcA, xRng1, xRng2, xEnum, xZip, xListZip, srcB, xV, xC, L2.Dm.x1, L2.Dm.x2, op2, view, negA, xT, truD, xB, xCh, xAnd, xOr, xNot, xNotV, xIf, xAndV, xOrV, xNil, xCons, xTup, xLst, xLstM, allD, toD, xCall, L2.Dm.c1, L2.Dm.c2, xFn, xFnK, xFnD, xFnV, xMt, appendR, xSl, xO0, xO1, slD, L2.Dm.ltT_i, L2.Dm.ltT_s, addD, subD, mulD, fdivD, modD, powD, ltD, leD, gtD, geD, eqB, neB, isB, isnB, inB, ninB, addI, lenD, absD, maxD, minD, divmodD, intD, listD, tupleD, sumD, allB, anyB, maxL, maxA, maxT, minL, isinA, ixA, tabIx, tabIn, L2.at0, L2.at1, L2.at2, at3, at4, xYes, wipeA, List.map_cons, List.map_nil, List.length_cons, List.length_nil, List.replicate, List.cons_append, List.nil_append, List.append_nil, List.set_cons_zero, List.set_cons_succ, List.getElem?_cons_zero, List.getElem?_cons_succ, Nat.reduceAdd, Nat.reduceSub, Nat.reduceLeDiff, Nat.reduceLT, Nat.reduceEqDiff, if_true, if_false, Bool.not_true, Bool.not_false, Bool.false_eq_true, reduceIte, Option.map_some, Option.map_none, reduceCtorEq, decide_true, decide_false, Bool.and_true, Bool.true_and, Bool.and_false, Bool.false_and, Bool.or_true, Bool.true_or, Bool.or_false, Bool.false_or, and_self, and_true, true_and, Nat.zero_add]
      simp only [hd, decide_true, hB]
      rw [year_loop v0 v2 h n (y + 1) (d - 360) (by omega) (by omega)]
      have e1 : y + 1 + (d - 360) / 360 = y + d / 360 := by omega
      have e2 : (d - 360) % 360 = d % 360 := by omega
      rw [e1, e2]
    · simp only [hd, decide_false]
      have e1 : d / 360 = 0 := by omega
      have e2 : d % 360 = d := by omega
      rw [e1, e2, Int.add_zero]
theorem month_loop (v0 v1 : Option AV) (h : AH) : ∀ (n : Nat) (m d : Int), 0 ≤ d → (d / 30).toNat < n → wh t1_law_date b1_law_date n [v0, v1, some (.d (.int m)), some (.d (.int d))] h = some (.nx, [v0, v1, some (.d (.int (m + d / 30))), some (.d (.int (d % 30)))], h)
  | 0, m, d, _, hn => by omega
  | n + 1, m, d, d0, hn => by
    unfold wh
    have hT : t1_law_date [v0, v1, some (.d (.int m)), some (.d (.int d))] h = some (decide (30 ≤ d), h) := by
      unfold t1_law_date
      simp only [fnF, eqB2, sSeq, sNil, sPass, sBreak, sCont, sNever, sRet, sRetN, sExpr, sIf, sSet, sPar, sAsg, sAug, gN, gT, gsCons, gsNil, gS, setA, sAugS, getA, sFor, xSeq, srcA, xRng1, xRng2, xEnum, xZip, xListZip, srcB, xV, xC, L2.Dm.x1, L2.Dm.x2, op2, view, negA, xT, truD, xB, xCh, xAnd, xOr, xNot, xNotV, xIf, xAndV, xOrV, xNil, xCons, xTup, xLst, xLstM, allD, toD, xCall, L2.Dm.c1, L2.Dm.c2, xFn, xFnK, xFnD, xFnV, xMt, appendR, xSl, xO0, xO1, slD, L2.Dm.ltT_i, L2.Dm.ltT_s, addD, subD, mulD, fdivD, modD, powD, ltD, leD, gtD, geD, eqB, neB, isB, isnB, inB, ninB, addI, lenD, absD, maxD, minD, divmodD, intD, listD, tupleD, sumD, allB, anyB, maxL, maxA, maxT, minL, isinA, ixA, tabIx, tabIn, L2.at0, L2.at1, L2.at2, at3, at4, xYes, wipeA, List.map_cons, List.map_nil, List.length_cons, List.length_nil, List.replicate, List.cons_append, List.nil_append, List.append_nil, List.set_cons_zero, List.set_cons_succ, List.getElem?_cons_zero, List.getElem?_cons_succ, Nat.reduceAdd, Nat.reduceSub, Nat.reduceLeDiff, Nat.reduceLT, Nat.reduceEqDiff, if_true, if_false, Bool.not_true, Bool.not_false, Bool.false_eq_true, reduceIte, Option.map_some, Option.map_none, reduceCtorEq, decide_true, decide_false, Bool.and_true, Bool.true_and, Bool.and_false, Bool.false_and, Bool.or_true, Bool.true_or, Bool.or_false, Bool.false_or, and_self, and_true, true_and, Nat.zero_add]
    rw [hT]
    by_cases hd : 30 ≤ d
    · have hB : b1_law_date [v0, v1, some (.d (.int m)), some (.d (.int d))] h = some (.nx, [v0, v1, some (.d (.int (m + 1))), some (.d (.int (d - 30)))], h) := by
        unfold b1_law_date
        simp only [sPars, fnF, eqB2, sSeq, sNil, sPass, sBreak, sCont, sNever, sRet, sRetN, sExpr, sIf, sSet, sPar, sAsg, sAug, gN, gT, gsCons, gsNil, gS, setA, sAugS, getA, sFor, xSeq, srcA, xRng1, xRng2, xEnum, xZip, xListZip, srcB, xV, xC, L2.Dm.x1, L2.Dm.x2, op2, view, negA, xT, truD, xB, xCh, xAnd, xOr, xNot, xNotV, xIf, xAndV, xOrV, xNil, xCons, xTup, xLst, xLstM, allD, toD, xCall, L2.Dm.c1, L2.Dm.c2, xFn, xFnK, xFnD, xFnV, xMt, appendR, xSl, xO0, xO1, slD, L2.Dm.ltT_i, L2.Dm.ltT_s, addD, subD, mulD, fdivD, modD, powD, ltD, leD, gtD, geD, eqB, neB, isB, isnB, inB, ninB, addI, lenD, absD, maxD, minD, divmodD, intD, listD, tupleD, sumD, allB, anyB, maxL, maxA, maxT, minL, isinA, ixA, tabIx, tabIn, L2.at0, L2.at1, L2.at2, at3, at4, xYes, wipeA, List.map_cons, List.map_nil, List.length_cons, List.length_nil, List.replicate, List.cons_append, List.nil_append, List.append_nil, List.set_cons_zero, List.set_cons_succ, List.getElem?_cons_zero, List.getElem?_cons_succ, Nat.reduceAdd, Nat.reduceSub, Nat.reduceLeDiff, Nat.reduceLT, Nat.reduceEqDiff, if_true, if_false, Bool.not_true, Bool.not_false, Bool.false_eq_true, reduceIte, Option.map_some, Option.map_none, reduceCtorEq, decide_true, decide_false, Bool.and_true, Bool.true_and, Bool.and_false, Bool.false_and, Bool.or_true, Bool.true_or, Bool.or_false, Bool.false_or, and_self, and_true, true_and, Nat.zero_add]
      simp only [hd, decide_true, hB]
      rw [month_loop v0 v1 h n (m + 1) (d - 30) (by omega) (by omega)]
      have e1 : m + 1 + (d - 30) / 30 = m + d / 30 := by omega
      have e2 : (d - 30) % 30 = d % 30 := by omega
      rw [e1, e2]
    · simp only [hd, decide_false]
      have e1 : d / 30 = 0 := by omega
      have e2 : d % 30 = d := by omega
      rw [e1, e2, Int.add_zero]
theorem f_ldate {d : Int} (d0 : 0 ≤ d) (d1 : d ≤ 9999) (h : AH) : F_law_date [.d (.int d)] h = some (.d (dateD d), h) := by
  have fu : ∀ n : Nat, n < 1000 → n ≤ fuelW := fun n hn => Nat.le_trans (Nat.le_of_lt hn) (by unfold fuelW; exact Nat.le_trans (by decide : (1000 : Nat) ≤ 2 ^ 10) (Nat.pow_le_pow_right (by decide) (by decide)))
  have e1 := while_of (year_loop (some (.d (.int d))) (some (.d (.int 1))) h 100 0 d d0 (by omega)) (fu 100 (by decide))
  have e2 := while_of (month_loop (some (.d (.int d))) (some (.d (.int (0 + d / 360)))) h 100 1 (d % 360) (by omega) (by omega)) (fu 100 (by decide))
  have s3 : (3 : Nat) ≤ sizeLine := by decide
  have q1 : 0 + d / 360 = d / 30 / 12 := by omega
  have q2 : 1 + d % 360 / 30 = d / 30 % 12 + 1 := by omega
  have q3 : d % 360 % 30 = d % 30 := by omega
  rw [q1] at e1
  rw [q1, q2, q3] at e2
  unfold F_law_date B_law_date
  simp only [sPar3, e1, e2, s3, dateD, fnF, eqB2, sSeq, sNil, sPass, sBreak, sCont, sNever, sRet, sRetN, sExpr, sIf, sSet, sPar, sAsg, sAug, gN, gT, gsCons, gsNil, gS, setA, sAugS, getA, sFor, xSeq, srcA, xRng1, xRng2, xEnum, xZip, xListZip, srcB, xV, xC, L2.Dm.x1, L2.Dm.x2, op2, view, negA, xT, truD, xB, xCh, xAnd, xOr, xNot, xNotV, xIf, xAndV, xOrV, xNil, xCons, xTup, xLst, xLstM, allD, toD, xCall, L2.Dm.c1, L2.Dm.c2, xFn, xFnK, xFnD, xFnV, xMt, appendR, xSl, xO0, xO1, slD, L2.Dm.ltT_i, L2.Dm.ltT_s, addD, subD, mulD, fdivD, modD, powD, ltD, leD, gtD, geD, eqB, neB, isB, isnB, inB, ninB, addI, lenD, absD, maxD, minD, divmodD, intD, listD, tupleD, sumD, allB, anyB, maxL, maxA, maxT, minL, isinA, ixA, tabIx, tabIn, L2.at0, L2.at1, L2.at2, at3, at4, xYes, wipeA, List.map_cons, List.map_nil, List.length_cons, List.length_nil, List.replicate, List.cons_append, List.nil_append, List.append_nil, List.set_cons_zero, List.set_cons_succ, List.getElem?_cons_zero, List.getElem?_cons_succ, Nat.reduceAdd, Nat.reduceSub, Nat.reduceLeDiff, Nat.reduceLT, Nat.reduceEqDiff, if_true, if_false, Bool.not_true, Bool.not_false, Bool.false_eq_true, reduceIte, Option.map_some, Option.map_none, reduceCtorEq, decide_true, decide_false, Bool.and_true, Bool.true_and, Bool.and_false, Bool.false_and, Bool.or_true, Bool.true_or, Bool.or_false, Bool.false_or, and_self, and_true, true_and, Nat.zero_add]
end My
set_option linter.all false
set_option maxRecDepth 100000
namespace My
open PySem L2.Dm
open L2 (Big atI ixN isinK)
theorem ex_eq (c n : Str) (h : AH) : orC isinA (isinE excT_) [.exc c, .fn n] h = (match excT_ c (.fn n) with | some b => some (.d (.bool b), h) | none => none) := rfl
theorem ex_ty (c : Str) (n : String) (h : AH) : orC isinA (isinE excT_) [.exc c, .ty n] h = (match excT_ c (.ty n) with | some b => some (.d (.bool b), h) | none => none) := rfl
theorem mid_get {α : Type} (a : List α) (x : α) : (a ++ [x])[a.length]? = some x := by
  rw [List.getElem?_append_right (Nat.le_refl _)]; simp
theorem mid_set {α : Type} (a : List α) (x y : α) : (a ++ [x]).set a.length y = a ++ [y] := by
  rw [List.set_append_right _ _ (Nat.le_refl _)]; simp
theorem mid_get2 {α : Type} (a : List α) (x y : α) : (a ++ [x] ++ [y])[a.length]? = some x := by
  rw [List.append_assoc, List.getElem?_append_right (Nat.le_refl _)]; simp
theorem iL_ : inD (.bool true) (.list [.bool false, .bool false, .bool false, .bool false, .bool false]) = some false := by decide +kernel
theorem one_ : eqD (.int ((1 : Nat) : Int)) (.int 1) = some true := rfl
theorem tt_ : eqD (.bool true) (.bool true) = some true := rfl
theorem ff_ : eqD (.bool false) (.bool false) = some true := rfl
theorem z1 : (1 : Nat) ≤ sizeLine := by decide
theorem y1 : (1 : Nat) < sizeLine := by decide
theorem z2 : (2 : Nat) ≤ sizeLine := by decide
theorem y2 : (2 : Nat) < sizeLine := by decide
theorem z3 : (3 : Nat) ≤ sizeLine := by decide
theorem y3 : (3 : Nat) < sizeLine := by decide
theorem z4 : (4 : Nat) ≤ sizeLine := by decide
theorem y4 : (4 : Nat) < sizeLine := by decide
theorem z5 : (5 : Nat) ≤ sizeLine := by decide
theorem y5 : (5 : Nat) < sizeLine := by decide
theorem z6 : (6 : Nat) ≤ sizeLine := by decide
theorem y6 : (6 : Nat) < sizeLine := by decide
theorem z7 : (7 : Nat) ≤ sizeLine := by decide
theorem y7 : (7 : Nat) < sizeLine := by decide
theorem z8 : (8 : Nat) ≤ sizeLine := by decide
theorem y8 : (8 : Nat) < sizeLine := by decide
theorem z9 : (9 : Nat) ≤ sizeLine := by decide
theorem y9 : (9 : Nat) < sizeLine := by decide
theorem z10 : (10 : Nat) ≤ sizeLine := by decide
theorem y10 : (10 : Nat) < sizeLine := by decide
theorem z11 : (11 : Nat) ≤ sizeLine := by decide
theorem y11 : (11 : Nat) < sizeLine := by decide
theorem z12 : (12 : Nat) ≤ sizeLine := by decide
theorem y12 : (12 : Nat) < sizeLine := by decide
theorem z13 : (13 : Nat) ≤ sizeLine := by decide
theorem y13 : (13 : Nat) < sizeLine := by decide
theorem z14 : (14 : Nat) ≤ sizeLine := by decide
theorem y14 : (14 : Nat) < sizeLine := by decide
theorem z15 : (15 : Nat) ≤ sizeLine := by decide
theorem y15 : (15 : Nat) < sizeLine := by decide
theorem z16 : (16 : Nat) ≤ sizeLine := by decide
theorem y16 : (16 : Nat) < sizeLine := by decide
theorem z17 : (17 : Nat) ≤ sizeLine := by decide
theorem y17 : (17 : Nat) < sizeLine := by decide
theorem z18 : (18 : Nat) ≤ sizeLine := by decide
theorem y18 : (18 : Nat) < sizeLine := by decide
theorem z19 : (19 : Nat) ≤ sizeLine := by decide
theorem y19 : (19 : Nat) < sizeLine := by decide
theorem z20 : (20 : Nat) ≤ sizeLine := by decide
theorem y20 : (20 : Nat) < sizeLine := by decide
theorem z21 : (21 : Nat) ≤ sizeLine := by decide
theorem y21 : (21 : Nat) < sizeLine := by decide
theorem z22 : (22 : Nat) ≤ sizeLine := by decide
theorem y22 : (22 : Nat) < sizeLine := by decide
theorem z23 : (23 : Nat) ≤ sizeLine := by decide
theorem y23 : (23 : Nat) < sizeLine := by decide
theorem z24 : (24 : Nat) ≤ sizeLine := by decide
theorem y24 : (24 : Nat) < sizeLine := by decide
theorem z25 : (25 : Nat) ≤ sizeLine := by decide
theorem y25 : (25 : Nat) < sizeLine := by decide
theorem z26 : (26 : Nat) ≤ sizeLine := by decide
theorem y26 : (26 : Nat) < sizeLine := by decide
theorem z27 : (27 : Nat) ≤ sizeLine := by decide
theorem y27 : (27 : Nat) < sizeLine := by decide
theorem z28 : (28 : Nat) ≤ sizeLine := by decide
theorem y28 : (28 : Nat) < sizeLine := by decide
theorem z29 : (29 : Nat) ≤ sizeLine := by decide
theorem y29 : (29 : Nat) < sizeLine := by decide
theorem z30 : (30 : Nat) ≤ sizeLine := by decide
theorem y30 : (30 : Nat) < sizeLine := by decide
theorem z31 : (31 : Nat) ≤ sizeLine := by decide
theorem y31 : (31 : Nat) < sizeLine := by decide
theorem z32 : (32 : Nat) ≤ sizeLine := by decide
theorem y32 : (32 : Nat) < sizeLine := by decide
theorem z33 : (33 : Nat) ≤ sizeLine := by decide
theorem y33 : (33 : Nat) < sizeLine := by decide
theorem z34 : (34 : Nat) ≤ sizeLine := by decide
theorem y34 : (34 : Nat) < sizeLine := by decide
theorem z35 : (35 : Nat) ≤ sizeLine := by decide
theorem y35 : (35 : Nat) < sizeLine := by decide
theorem xNoDay_NoDay : excT_ "NoDay" (.fn "NoDay") = some true := rfl
theorem xNoDay_NoDate : excT_ "NoDay" (.fn "NoDate") = some false := rfl
theorem xNoDay_NoRules : excT_ "NoDay" (.fn "NoRules") = some false := rfl
theorem xNoDay_NoNumber : excT_ "NoDay" (.fn "NoNumber") = some false := rfl
theorem xNoDay_NoLine : excT_ "NoDay" (.fn "NoLine") = some false := rfl
theorem xNoDay_Open : excT_ "NoDay" (.fn "Open") = some false := rfl
theorem xNoDay_Early : excT_ "NoDay" (.fn "Early") = some false := rfl
theorem xNoDay_Short : excT_ "NoDay" (.fn "Short") = some false := rfl
theorem xNoDay_Over : excT_ "NoDay" (.fn "Over") = some false := rfl
theorem xNoDay_Nothing : excT_ "NoDay" (.fn "Nothing") = some false := rfl
theorem xNoDay_NoCustom : excT_ "NoDay" (.fn "NoCustom") = some false := rfl
theorem xNoDay_NoStep : excT_ "NoDay" (.fn "NoStep") = some false := rfl
theorem xNoDay_NoCoins : excT_ "NoDay" (.fn "NoCoins") = some false := rfl
theorem xNoDay_NoWeights : excT_ "NoDay" (.fn "NoWeights") = some false := rfl
theorem xNoDay_NoWay : excT_ "NoDay" (.fn "NoWay") = some false := rfl
theorem xNoDay_NoTable : excT_ "NoDay" (.fn "NoTable") = some false := rfl
theorem xNoDay_NoCode : excT_ "NoDay" (.fn "NoCode") = some false := rfl
theorem xNoDay_NoRoad : excT_ "NoDay" (.fn "NoRoad") = some false := rfl
theorem xNoDay_NoBill : excT_ "NoDay" (.fn "NoBill") = some false := rfl
theorem xNoDay_NoPer : excT_ "NoDay" (.fn "NoPer") = some false := rfl
theorem xNoDay_NoBands : excT_ "NoDay" (.fn "NoBands") = some false := rfl
theorem xNoDay_NoGoal : excT_ "NoDay" (.fn "NoGoal") = some false := rfl
theorem xNoDay_NoLoan : excT_ "NoDay" (.fn "NoLoan") = some false := rfl
theorem xNoDay_NoAccount : excT_ "NoDay" (.fn "NoAccount") = some false := rfl
theorem xNoDay_NoText : excT_ "NoDay" (.fn "NoText") = some false := rfl
theorem xNoDay_NoRows : excT_ "NoDay" (.fn "NoRows") = some false := rfl
theorem xNoDay_NoBook : excT_ "NoDay" (.fn "NoBook") = some false := rfl
theorem xNoDay_NoPart : excT_ "NoDay" (.fn "NoPart") = some false := rfl
theorem xNoDay_NoDebts : excT_ "NoDay" (.fn "NoDebts") = some false := rfl
theorem xNoDay_NoPerson : excT_ "NoDay" (.fn "NoPerson") = some false := rfl
theorem xNoDay_NoMonths : excT_ "NoDay" (.fn "NoMonths") = some false := rfl
theorem xNoDay_NoDays : excT_ "NoDay" (.fn "NoDays") = some false := rfl
theorem xNoDay_NoHouse : excT_ "NoDay" (.fn "NoHouse") = some false := rfl
theorem xNoDay_NoPostings : excT_ "NoDay" (.fn "NoPostings") = some false := rfl
theorem xNoDay_NoThing : excT_ "NoDay" (.fn "NoThing") = some true := rfl
theorem xNoDay_NotNow : excT_ "NoDay" (.fn "NotNow") = some false := rfl
theorem xNoDay_ty : excT_ "NoDay" (.ty "ValueError") = some true := rfl
theorem cPNoDay : List.countP (fun b => b == true) [true, false, false, false, false, false, false, false, false, false, false, false, false, false, false, false, false, false, false, false, false, false, false, false, false, false, false, false, false, false, false, false, false, false] = 1 := rfl
theorem fINoDay : List.findIdx? (fun b => b == true) [true, false, false, false, false, false, false, false, false, false, false, false, false, false, false, false, false, false, false, false, false, false, false, false, false, false, false, false, false, false, false, false, false, false] = some 0 := rfl
theorem iNNoDay : inD (.bool true) (.list [.bool true, .bool false, .bool false, .bool false, .bool false, .bool false, .bool false, .bool false, .bool false, .bool false, .bool false, .bool false, .bool false, .bool false, .bool false, .bool false, .bool false, .bool false, .bool false, .bool false, .bool false, .bool false, .bool false, .bool false, .bool false, .bool false, .bool false, .bool false, .bool false]) = some true := by decide +kernel
theorem aWNoDay : atI ([.str (Str.ofString "day"), .str (Str.ofString "date"), .str (Str.ofString "rules"), .str (Str.ofString "number"), .str (Str.ofString "custom"), .str (Str.ofString "step"), .str (Str.ofString "coins"), .str (Str.ofString "weights"), .str (Str.ofString "way"), .str (Str.ofString "table"), .str (Str.ofString "code"), .str (Str.ofString "road"), .str (Str.ofString "bill"), .str (Str.ofString "per"), .str (Str.ofString "bands"), .str (Str.ofString "goal"), .str (Str.ofString "loan"), .str (Str.ofString "account"), .str (Str.ofString "text"), .str (Str.ofString "rows"), .str (Str.ofString "book"), .str (Str.ofString "part"), .str (Str.ofString "debts"), .str (Str.ofString "person"), .str (Str.ofString "months"), .str (Str.ofString "days"), .str (Str.ofString "house"), .str (Str.ofString "postings"), .str (Str.ofString "line"), .str (Str.ofString "open"), .str (Str.ofString "early"), .str (Str.ofString "short"), .str (Str.ofString "over"), .str (Str.ofString "nothing")] : List PyData) ((0 : Nat) : Int) = some (.str (Str.ofString "day")) := rfl
theorem w_NoDay (h : AH) : ∃ g, F_law_word_of [.exc "NoDay"] h = some (.d (.str (Str.ofString "day")), h ++ g) := by
  unfold F_law_word_of B_law_word_of
  simp only [ex_eq, ex_ty, xNoDay_ty, xNoDay_NoDay, xNoDay_NoDate, xNoDay_NoRules, xNoDay_NoNumber, xNoDay_NoLine, xNoDay_Open, xNoDay_Early, xNoDay_Short, xNoDay_Over, xNoDay_Nothing, xNoDay_NoCustom, xNoDay_NoStep, xNoDay_NoCoins, xNoDay_NoWeights, xNoDay_NoWay, xNoDay_NoTable, xNoDay_NoCode, xNoDay_NoRoad, xNoDay_NoBill, xNoDay_NoPer, xNoDay_NoBands, xNoDay_NoGoal, xNoDay_NoLoan, xNoDay_NoAccount, xNoDay_NoText, xNoDay_NoRows, xNoDay_NoBook, xNoDay_NoPart, xNoDay_NoDebts, xNoDay_NoPerson, xNoDay_NoMonths, xNoDay_NoDays, xNoDay_NoHouse, xNoDay_NoPostings, xNoDay_NoThing, xNoDay_NotNow, appendR, mid_get, mid_get2, mid_set, addM, xMt, xMb, cntB, idxB, boolsOf, cPNoDay, fINoDay, iNNoDay, aWNoDay, iL_, one_, tt_, ff_, Option.map_some, z1, y1, z2, y2, z3, y3, z4, y4, z5, y5, z6, y6, z7, y7, z8, y8, z9, y9, z10, y10, z11, y11, z12, y12, z13, y13, z14, y14, z15, y15, z16, y16, z17, y17, z18, y18, z19, y19, z20, y20, z21, y21, z22, y22, z23, y23, z24, y24, z25, y25, z26, y26, z27, y27, z28, y28, z29, y29, z30, y30, z31, y31, z32, y32, z33, y33, z34, y34, z35, y35, fnF, eqB2, sSeq, sNil, sPass, sBreak, sCont, sNever, sRet, sRetN, sExpr, sIf, sSet, sPar, sAsg, sAug, gN, gT, gsCons, gsNil, gS, setA, sAugS, getA, sFor, xSeq, srcA, xRng1, xRng2, xEnum, xZip, xListZip, srcB, xV, xC, L2.Dm.x1, L2.Dm.x2, op2, view, negA, xT, truD, xB, xCh, xAnd, xOr, xNot, xNotV, xIf, xAndV, xOrV, xNil, xCons, xTup, xLst, xLstM, allD, toD, xCall, L2.Dm.c1, L2.Dm.c2, xFn, xFnK, xFnD, xFnV, xMt, appendR, xSl, xO0, xO1, slD, L2.Dm.ltT_i, L2.Dm.ltT_s, addD, subD, mulD, fdivD, modD, powD, ltD, leD, gtD, geD, eqB, neB, isB, isnB, inB, ninB, addI, lenD, absD, maxD, minD, divmodD, intD, listD, tupleD, sumD, allB, anyB, maxL, maxA, maxT, minL, isinA, ixA, tabIx, tabIn, L2.at0, L2.at1, L2.at2, at3, at4, xYes, wipeA, List.map_cons, List.map_nil, List.length_cons, List.length_nil, List.replicate, List.cons_append, List.nil_append, List.append_nil, List.set_cons_zero, List.set_cons_succ, List.getElem?_cons_zero, List.getElem?_cons_succ, Nat.reduceAdd, Nat.reduceSub, Nat.reduceLeDiff, Nat.reduceLT, Nat.reduceEqDiff, if_true, if_false, Bool.not_true, Bool.not_false, Bool.false_eq_true, reduceIte, Option.map_some, Option.map_none, reduceCtorEq, decide_true, decide_false, Bool.and_true, Bool.true_and, Bool.and_false, Bool.false_and, Bool.or_true, Bool.true_or, Bool.or_false, Bool.false_or, and_self, and_true, true_and, Nat.zero_add]
  simp only [List.append_assoc]
  exact ⟨_, rfl⟩
theorem xNoDate_NoDay : excT_ "NoDate" (.fn "NoDay") = some false := rfl
theorem xNoDate_NoDate : excT_ "NoDate" (.fn "NoDate") = some true := rfl
theorem xNoDate_NoRules : excT_ "NoDate" (.fn "NoRules") = some false := rfl
theorem xNoDate_NoNumber : excT_ "NoDate" (.fn "NoNumber") = some false := rfl
theorem xNoDate_NoLine : excT_ "NoDate" (.fn "NoLine") = some false := rfl
theorem xNoDate_Open : excT_ "NoDate" (.fn "Open") = some false := rfl
theorem xNoDate_Early : excT_ "NoDate" (.fn "Early") = some false := rfl
theorem xNoDate_Short : excT_ "NoDate" (.fn "Short") = some false := rfl
theorem xNoDate_Over : excT_ "NoDate" (.fn "Over") = some false := rfl
theorem xNoDate_Nothing : excT_ "NoDate" (.fn "Nothing") = some false := rfl
theorem xNoDate_NoCustom : excT_ "NoDate" (.fn "NoCustom") = some false := rfl
theorem xNoDate_NoStep : excT_ "NoDate" (.fn "NoStep") = some false := rfl
theorem xNoDate_NoCoins : excT_ "NoDate" (.fn "NoCoins") = some false := rfl
theorem xNoDate_NoWeights : excT_ "NoDate" (.fn "NoWeights") = some false := rfl
theorem xNoDate_NoWay : excT_ "NoDate" (.fn "NoWay") = some false := rfl
theorem xNoDate_NoTable : excT_ "NoDate" (.fn "NoTable") = some false := rfl
theorem xNoDate_NoCode : excT_ "NoDate" (.fn "NoCode") = some false := rfl
theorem xNoDate_NoRoad : excT_ "NoDate" (.fn "NoRoad") = some false := rfl
theorem xNoDate_NoBill : excT_ "NoDate" (.fn "NoBill") = some false := rfl
theorem xNoDate_NoPer : excT_ "NoDate" (.fn "NoPer") = some false := rfl
theorem xNoDate_NoBands : excT_ "NoDate" (.fn "NoBands") = some false := rfl
theorem xNoDate_NoGoal : excT_ "NoDate" (.fn "NoGoal") = some false := rfl
theorem xNoDate_NoLoan : excT_ "NoDate" (.fn "NoLoan") = some false := rfl
theorem xNoDate_NoAccount : excT_ "NoDate" (.fn "NoAccount") = some false := rfl
theorem xNoDate_NoText : excT_ "NoDate" (.fn "NoText") = some false := rfl
theorem xNoDate_NoRows : excT_ "NoDate" (.fn "NoRows") = some false := rfl
theorem xNoDate_NoBook : excT_ "NoDate" (.fn "NoBook") = some false := rfl
theorem xNoDate_NoPart : excT_ "NoDate" (.fn "NoPart") = some false := rfl
theorem xNoDate_NoDebts : excT_ "NoDate" (.fn "NoDebts") = some false := rfl
theorem xNoDate_NoPerson : excT_ "NoDate" (.fn "NoPerson") = some false := rfl
theorem xNoDate_NoMonths : excT_ "NoDate" (.fn "NoMonths") = some false := rfl
theorem xNoDate_NoDays : excT_ "NoDate" (.fn "NoDays") = some false := rfl
theorem xNoDate_NoHouse : excT_ "NoDate" (.fn "NoHouse") = some false := rfl
theorem xNoDate_NoPostings : excT_ "NoDate" (.fn "NoPostings") = some false := rfl
theorem xNoDate_NoThing : excT_ "NoDate" (.fn "NoThing") = some true := rfl
theorem xNoDate_NotNow : excT_ "NoDate" (.fn "NotNow") = some false := rfl
theorem xNoDate_ty : excT_ "NoDate" (.ty "ValueError") = some true := rfl
theorem cPNoDate : List.countP (fun b => b == true) [false, true, false, false, false, false, false, false, false, false, false, false, false, false, false, false, false, false, false, false, false, false, false, false, false, false, false, false, false, false, false, false, false, false] = 1 := rfl
theorem fINoDate : List.findIdx? (fun b => b == true) [false, true, false, false, false, false, false, false, false, false, false, false, false, false, false, false, false, false, false, false, false, false, false, false, false, false, false, false, false, false, false, false, false, false] = some 1 := rfl
theorem iNNoDate : inD (.bool true) (.list [.bool false, .bool true, .bool false, .bool false, .bool false, .bool false, .bool false, .bool false, .bool false, .bool false, .bool false, .bool false, .bool false, .bool false, .bool false, .bool false, .bool false, .bool false, .bool false, .bool false, .bool false, .bool false, .bool false, .bool false, .bool false, .bool false, .bool false, .bool false, .bool false]) = some true := by decide +kernel
theorem aWNoDate : atI ([.str (Str.ofString "day"), .str (Str.ofString "date"), .str (Str.ofString "rules"), .str (Str.ofString "number"), .str (Str.ofString "custom"), .str (Str.ofString "step"), .str (Str.ofString "coins"), .str (Str.ofString "weights"), .str (Str.ofString "way"), .str (Str.ofString "table"), .str (Str.ofString "code"), .str (Str.ofString "road"), .str (Str.ofString "bill"), .str (Str.ofString "per"), .str (Str.ofString "bands"), .str (Str.ofString "goal"), .str (Str.ofString "loan"), .str (Str.ofString "account"), .str (Str.ofString "text"), .str (Str.ofString "rows"), .str (Str.ofString "book"), .str (Str.ofString "part"), .str (Str.ofString "debts"), .str (Str.ofString "person"), .str (Str.ofString "months"), .str (Str.ofString "days"), .str (Str.ofString "house"), .str (Str.ofString "postings"), .str (Str.ofString "line"), .str (Str.ofString "open"), .str (Str.ofString "early"), .str (Str.ofString "short"), .str (Str.ofString "over"), .str (Str.ofString "nothing")] : List PyData) ((1 : Nat) : Int) = some (.str (Str.ofString "date")) := rfl
theorem w_NoDate (h : AH) : ∃ g, F_law_word_of [.exc "NoDate"] h = some (.d (.str (Str.ofString "date")), h ++ g) := by
  unfold F_law_word_of B_law_word_of
  simp only [ex_eq, ex_ty, xNoDate_ty, xNoDate_NoDay, xNoDate_NoDate, xNoDate_NoRules, xNoDate_NoNumber, xNoDate_NoLine, xNoDate_Open, xNoDate_Early, xNoDate_Short, xNoDate_Over, xNoDate_Nothing, xNoDate_NoCustom, xNoDate_NoStep, xNoDate_NoCoins, xNoDate_NoWeights, xNoDate_NoWay, xNoDate_NoTable, xNoDate_NoCode, xNoDate_NoRoad, xNoDate_NoBill, xNoDate_NoPer, xNoDate_NoBands, xNoDate_NoGoal, xNoDate_NoLoan, xNoDate_NoAccount, xNoDate_NoText, xNoDate_NoRows, xNoDate_NoBook, xNoDate_NoPart, xNoDate_NoDebts, xNoDate_NoPerson, xNoDate_NoMonths, xNoDate_NoDays, xNoDate_NoHouse, xNoDate_NoPostings, xNoDate_NoThing, xNoDate_NotNow, appendR, mid_get, mid_get2, mid_set, addM, xMt, xMb, cntB, idxB, boolsOf, cPNoDate, fINoDate, iNNoDate, aWNoDate, iL_, one_, tt_, ff_, Option.map_some, z1, y1, z2, y2, z3, y3, z4, y4, z5, y5, z6, y6, z7, y7, z8, y8, z9, y9, z10, y10, z11, y11, z12, y12, z13, y13, z14, y14, z15, y15, z16, y16, z17, y17, z18, y18, z19, y19, z20, y20, z21, y21, z22, y22, z23, y23, z24, y24, z25, y25, z26, y26, z27, y27, z28, y28, z29, y29, z30, y30, z31, y31, z32, y32, z33, y33, z34, y34, z35, y35, fnF, eqB2, sSeq, sNil, sPass, sBreak, sCont, sNever, sRet, sRetN, sExpr, sIf, sSet, sPar, sAsg, sAug, gN, gT, gsCons, gsNil, gS, setA, sAugS, getA, sFor, xSeq, srcA, xRng1, xRng2, xEnum, xZip, xListZip, srcB, xV, xC, L2.Dm.x1, L2.Dm.x2, op2, view, negA, xT, truD, xB, xCh, xAnd, xOr, xNot, xNotV, xIf, xAndV, xOrV, xNil, xCons, xTup, xLst, xLstM, allD, toD, xCall, L2.Dm.c1, L2.Dm.c2, xFn, xFnK, xFnD, xFnV, xMt, appendR, xSl, xO0, xO1, slD, L2.Dm.ltT_i, L2.Dm.ltT_s, addD, subD, mulD, fdivD, modD, powD, ltD, leD, gtD, geD, eqB, neB, isB, isnB, inB, ninB, addI, lenD, absD, maxD, minD, divmodD, intD, listD, tupleD, sumD, allB, anyB, maxL, maxA, maxT, minL, isinA, ixA, tabIx, tabIn, L2.at0, L2.at1, L2.at2, at3, at4, xYes, wipeA, List.map_cons, List.map_nil, List.length_cons, List.length_nil, List.replicate, List.cons_append, List.nil_append, List.append_nil, List.set_cons_zero, List.set_cons_succ, List.getElem?_cons_zero, List.getElem?_cons_succ, Nat.reduceAdd, Nat.reduceSub, Nat.reduceLeDiff, Nat.reduceLT, Nat.reduceEqDiff, if_true, if_false, Bool.not_true, Bool.not_false, Bool.false_eq_true, reduceIte, Option.map_some, Option.map_none, reduceCtorEq, decide_true, decide_false, Bool.and_true, Bool.true_and, Bool.and_false, Bool.false_and, Bool.or_true, Bool.true_or, Bool.or_false, Bool.false_or, and_self, and_true, true_and, Nat.zero_add]
  simp only [List.append_assoc]
  exact ⟨_, rfl⟩
end My
set_option linter.all false
set_option maxRecDepth 100000
namespace My
open PySem L2.Dm
open L2 (Big atI ixN isinK)
/-! ### refused -/
theorem said_no {c : XE} {r : XR} {a : AE} {h : AH} {k w : Str} (h1 : c a h = none) (h2 : r a h = some (k, h)) (hk : raised_.contains k = true) (hw : ∃ g, F_law_word_of [.exc k] h = some (.d (.str w), h ++ g)) :
    ∃ g, G_law_said c r a h = some (.d (.str w), h ++ g) := by
  obtain ⟨g, e⟩ := hw
  refine ⟨g, ?_⟩
  have hb : HB_law_said ((List.replicate 2 none).set 1 (some (.exc k))) h = some (.rt (.d (.str w)), [none, some (.exc k)], h ++ g) := by
    unfold HB_law_said
    show sRet (xFn 1 (xCons (xV 1) xNil) F_law_word_of) [none, some (.exc k)] h = _
    simp only [e, fnF, eqB2, sSeq, sNil, sPass, sBreak, sCont, sNever, sRet, sRetN, sExpr, sIf, sSet, sPar, sAsg, sAug, gN, gT, gsCons, gsNil, gS, setA, sAugS, getA, sFor, xSeq, srcA, xRng1, xRng2, xEnum, xZip, xListZip, srcB, xV, xC, L2.Dm.x1, L2.Dm.x2, op2, view, negA, xT, truD, xB, xCh, xAnd, xOr, xNot, xNotV, xIf, xAndV, xOrV, xNil, xCons, xTup, xLst, xLstM, allD, toD, xCall, L2.Dm.c1, L2.Dm.c2, xFn, xFnK, xFnD, xFnV, xMt, appendR, xSl, xO0, xO1, slD, L2.Dm.ltT_i, L2.Dm.ltT_s, addD, subD, mulD, fdivD, modD, powD, ltD, leD, gtD, geD, eqB, neB, isB, isnB, inB, ninB, addI, lenD, absD, maxD, minD, divmodD, intD, listD, tupleD, sumD, allB, anyB, maxL, maxA, maxT, minL, isinA, ixA, tabIx, tabIn, L2.at0, L2.at1, L2.at2, at3, at4, xYes, wipeA, List.map_cons, List.map_nil, List.length_cons, List.length_nil, List.replicate, List.cons_append, List.nil_append, List.append_nil, List.set_cons_zero, List.set_cons_succ, List.getElem?_cons_zero, List.getElem?_cons_succ, Nat.reduceAdd, Nat.reduceSub, Nat.reduceLeDiff, Nat.reduceLT, Nat.reduceEqDiff, if_true, if_false, Bool.not_true, Bool.not_false, Bool.false_eq_true, reduceIte, Option.map_some, Option.map_none, reduceCtorEq, decide_true, decide_false, Bool.and_true, Bool.true_and, Bool.and_false, Bool.false_and, Bool.or_true, Bool.true_or, Bool.or_false, Bool.false_or, and_self, and_true, true_and, Nat.zero_add]
  unfold G_law_said sdR
  rw [h1, h2]
  unfold sdC
  dsimp only
  rw [if_pos hk, hb]
theorem date_no {x : PyData} (hx : withinD x 0 9999 = false) (h : AH) : F_date_of [.d x] h = none ∧ R_date_of [.d x] h = some (("NoDay" : Str), h) := by
  have r1 : F_refuse_no_day [.d x] h = none := by
    unfold F_refuse_no_day B_refuse_no_day
    simp only [f_is_day, hx, fnF, eqB2, sSeq, sNil, sPass, sBreak, sCont, sNever, sRet, sRetN, sExpr, sIf, sSet, sPar, sAsg, sAug, gN, gT, gsCons, gsNil, gS, setA, sAugS, getA, sFor, xSeq, srcA, xRng1, xRng2, xEnum, xZip, xListZip, srcB, xV, xC, L2.Dm.x1, L2.Dm.x2, op2, view, negA, xT, truD, xB, xCh, xAnd, xOr, xNot, xNotV, xIf, xAndV, xOrV, xNil, xCons, xTup, xLst, xLstM, allD, toD, xCall, L2.Dm.c1, L2.Dm.c2, xFn, xFnK, xFnD, xFnV, xMt, appendR, xSl, xO0, xO1, slD, L2.Dm.ltT_i, L2.Dm.ltT_s, addD, subD, mulD, fdivD, modD, powD, ltD, leD, gtD, geD, eqB, neB, isB, isnB, inB, ninB, addI, lenD, absD, maxD, minD, divmodD, intD, listD, tupleD, sumD, allB, anyB, maxL, maxA, maxT, minL, isinA, ixA, tabIx, tabIn, L2.at0, L2.at1, L2.at2, at3, at4, xYes, wipeA, List.map_cons, List.map_nil, List.length_cons, List.length_nil, List.replicate, List.cons_append, List.nil_append, List.append_nil, List.set_cons_zero, List.set_cons_succ, List.getElem?_cons_zero, List.getElem?_cons_succ, Nat.reduceAdd, Nat.reduceSub, Nat.reduceLeDiff, Nat.reduceLT, Nat.reduceEqDiff, if_true, if_false, Bool.not_true, Bool.not_false, Bool.false_eq_true, reduceIte, Option.map_some, Option.map_none, reduceCtorEq, decide_true, decide_false, Bool.and_true, Bool.true_and, Bool.and_false, Bool.false_and, Bool.or_true, Bool.true_or, Bool.or_false, Bool.false_or, and_self, and_true, true_and, Nat.zero_add]
  have r2 : R_refuse_no_day [.d x] h = some (("NoDay" : Str), h) := by
    unfold R_refuse_no_day fnR rIf rRaise
    simp only [f_is_day, hx, fnF, eqB2, sSeq, sNil, sPass, sBreak, sCont, sNever, sRet, sRetN, sExpr, sIf, sSet, sPar, sAsg, sAug, gN, gT, gsCons, gsNil, gS, setA, sAugS, getA, sFor, xSeq, srcA, xRng1, xRng2, xEnum, xZip, xListZip, srcB, xV, xC, L2.Dm.x1, L2.Dm.x2, op2, view, negA, xT, truD, xB, xCh, xAnd, xOr, xNot, xNotV, xIf, xAndV, xOrV, xNil, xCons, xTup, xLst, xLstM, allD, toD, xCall, L2.Dm.c1, L2.Dm.c2, xFn, xFnK, xFnD, xFnV, xMt, appendR, xSl, xO0, xO1, slD, L2.Dm.ltT_i, L2.Dm.ltT_s, addD, subD, mulD, fdivD, modD, powD, ltD, leD, gtD, geD, eqB, neB, isB, isnB, inB, ninB, addI, lenD, absD, maxD, minD, divmodD, intD, listD, tupleD, sumD, allB, anyB, maxL, maxA, maxT, minL, isinA, ixA, tabIx, tabIn, L2.at0, L2.at1, L2.at2, at3, at4, xYes, wipeA, List.map_cons, List.map_nil, List.length_cons, List.length_nil, List.replicate, List.cons_append, List.nil_append, List.append_nil, List.set_cons_zero, List.set_cons_succ, List.getElem?_cons_zero, List.getElem?_cons_succ, Nat.reduceAdd, Nat.reduceSub, Nat.reduceLeDiff, Nat.reduceLT, Nat.reduceEqDiff, if_true, if_false, Bool.not_true, Bool.not_false, Bool.false_eq_true, reduceIte, Option.map_some, Option.map_none, reduceCtorEq, decide_true, decide_false, Bool.and_true, Bool.true_and, Bool.and_false, Bool.false_and, Bool.or_true, Bool.true_or, Bool.or_false, Bool.false_or, and_self, and_true, true_and, Nat.zero_add]
  constructor
  · unfold F_date_of B_date_of
    simp only [r1, fnF, eqB2, sSeq, sNil, sPass, sBreak, sCont, sNever, sRet, sRetN, sExpr, sIf, sSet, sPar, sAsg, sAug, gN, gT, gsCons, gsNil, gS, setA, sAugS, getA, sFor, xSeq, srcA, xRng1, xRng2, xEnum, xZip, xListZip, srcB, xV, xC, L2.Dm.x1, L2.Dm.x2, op2, view, negA, xT, truD, xB, xCh, xAnd, xOr, xNot, xNotV, xIf, xAndV, xOrV, xNil, xCons, xTup, xLst, xLstM, allD, toD, xCall, L2.Dm.c1, L2.Dm.c2, xFn, xFnK, xFnD, xFnV, xMt, appendR, xSl, xO0, xO1, slD, L2.Dm.ltT_i, L2.Dm.ltT_s, addD, subD, mulD, fdivD, modD, powD, ltD, leD, gtD, geD, eqB, neB, isB, isnB, inB, ninB, addI, lenD, absD, maxD, minD, divmodD, intD, listD, tupleD, sumD, allB, anyB, maxL, maxA, maxT, minL, isinA, ixA, tabIx, tabIn, L2.at0, L2.at1, L2.at2, at3, at4, xYes, wipeA, List.map_cons, List.map_nil, List.length_cons, List.length_nil, List.replicate, List.cons_append, List.nil_append, List.append_nil, List.set_cons_zero, List.set_cons_succ, List.getElem?_cons_zero, List.getElem?_cons_succ, Nat.reduceAdd, Nat.reduceSub, Nat.reduceLeDiff, Nat.reduceLT, Nat.reduceEqDiff, if_true, if_false, Bool.not_true, Bool.not_false, Bool.false_eq_true, reduceIte, Option.map_some, Option.map_none, reduceCtorEq, decide_true, decide_false, Bool.and_true, Bool.true_and, Bool.and_false, Bool.false_and, Bool.or_true, Bool.true_or, Bool.or_false, Bool.false_or, and_self, and_true, true_and, Nat.zero_add]
  · unfold R_date_of fnR rFn
    simp only [r2, fnF, eqB2, sSeq, sNil, sPass, sBreak, sCont, sNever, sRet, sRetN, sExpr, sIf, sSet, sPar, sAsg, sAug, gN, gT, gsCons, gsNil, gS, setA, sAugS, getA, sFor, xSeq, srcA, xRng1, xRng2, xEnum, xZip, xListZip, srcB, xV, xC, L2.Dm.x1, L2.Dm.x2, op2, view, negA, xT, truD, xB, xCh, xAnd, xOr, xNot, xNotV, xIf, xAndV, xOrV, xNil, xCons, xTup, xLst, xLstM, allD, toD, xCall, L2.Dm.c1, L2.Dm.c2, xFn, xFnK, xFnD, xFnV, xMt, appendR, xSl, xO0, xO1, slD, L2.Dm.ltT_i, L2.Dm.ltT_s, addD, subD, mulD, fdivD, modD, powD, ltD, leD, gtD, geD, eqB, neB, isB, isnB, inB, ninB, addI, lenD, absD, maxD, minD, divmodD, intD, listD, tupleD, sumD, allB, anyB, maxL, maxA, maxT, minL, isinA, ixA, tabIx, tabIn, L2.at0, L2.at1, L2.at2, at3, at4, xYes, wipeA, List.map_cons, List.map_nil, List.length_cons, List.length_nil, List.replicate, List.cons_append, List.nil_append, List.append_nil, List.set_cons_zero, List.set_cons_succ, List.getElem?_cons_zero, List.getElem?_cons_succ, Nat.reduceAdd, Nat.reduceSub, Nat.reduceLeDiff, Nat.reduceLT, Nat.reduceEqDiff, if_true, if_false, Bool.not_true, Bool.not_false, Bool.false_eq_true, reduceIte, Option.map_some, Option.map_none, reduceCtorEq, decide_true, decide_false, Bool.and_true, Bool.true_and, Bool.and_false, Bool.false_and, Bool.or_true, Bool.true_or, Bool.or_false, Bool.false_or, and_self, and_true, true_and, Nat.zero_add]
def badD : List PyData := [.int (-1), .int 10000, .none, .bool true, .bool false, .str (Str.ofString "0"), .tuple [.int 0], .list [.int 0], .dict [], .int (10 ^ (29 : Int).toNat)]
theorem badD_no {x : PyData} (hx : x ∈ badD) : withinD x 0 9999 = false := by
  simp only [badD, List.mem_cons, List.not_mem_nil, or_false] at hx
  rcases hx with rfl | rfl | rfl | rfl | rfl | rfl | rfl | rfl | rfl | rfl <;> decide
theorem said_day {x : PyData} (hx : x ∈ badD) (h : AH) : ∃ g, G_law_said (xFn 1 (xCons (xV 0) xNil) F_date_of) (rFn 1 (xCons (xV 0) xNil) R_date_of) [some (.d x)] h = some (.d (.str (Str.ofString "day")), h ++ g) := by
  obtain ⟨q1, q2⟩ := date_no (badD_no hx) h
  refine said_no (k := "NoDay") ?_ ?_ (by decide) (w_NoDay h)
  · simp only [q1, fnF, eqB2, sSeq, sNil, sPass, sBreak, sCont, sNever, sRet, sRetN, sExpr, sIf, sSet, sPar, sAsg, sAug, gN, gT, gsCons, gsNil, gS, setA, sAugS, getA, sFor, xSeq, srcA, xRng1, xRng2, xEnum, xZip, xListZip, srcB, xV, xC, L2.Dm.x1, L2.Dm.x2, op2, view, negA, xT, truD, xB, xCh, xAnd, xOr, xNot, xNotV, xIf, xAndV, xOrV, xNil, xCons, xTup, xLst, xLstM, allD, toD, xCall, L2.Dm.c1, L2.Dm.c2, xFn, xFnK, xFnD, xFnV, xMt, appendR, xSl, xO0, xO1, slD, L2.Dm.ltT_i, L2.Dm.ltT_s, addD, subD, mulD, fdivD, modD, powD, ltD, leD, gtD, geD, eqB, neB, isB, isnB, inB, ninB, addI, lenD, absD, maxD, minD, divmodD, intD, listD, tupleD, sumD, allB, anyB, maxL, maxA, maxT, minL, isinA, ixA, tabIx, tabIn, L2.at0, L2.at1, L2.at2, at3, at4, xYes, wipeA, List.map_cons, List.map_nil, List.length_cons, List.length_nil, List.replicate, List.cons_append, List.nil_append, List.append_nil, List.set_cons_zero, List.set_cons_succ, List.getElem?_cons_zero, List.getElem?_cons_succ, Nat.reduceAdd, Nat.reduceSub, Nat.reduceLeDiff, Nat.reduceLT, Nat.reduceEqDiff, if_true, if_false, Bool.not_true, Bool.not_false, Bool.false_eq_true, reduceIte, Option.map_some, Option.map_none, reduceCtorEq, decide_true, decide_false, Bool.and_true, Bool.true_and, Bool.and_false, Bool.false_and, Bool.or_true, Bool.true_or, Bool.or_false, Bool.false_or, and_self, and_true, true_and, Nat.zero_add]
  · unfold rFn
    simp only [q2, fnF, eqB2, sSeq, sNil, sPass, sBreak, sCont, sNever, sRet, sRetN, sExpr, sIf, sSet, sPar, sAsg, sAug, gN, gT, gsCons, gsNil, gS, setA, sAugS, getA, sFor, xSeq, srcA, xRng1, xRng2, xEnum, xZip, xListZip, srcB, xV, xC, L2.Dm.x1, L2.Dm.x2, op2, view, negA, xT, truD, xB, xCh, xAnd, xOr, xNot, xNotV, xIf, xAndV, xOrV, xNil, xCons, xTup, xLst, xLstM, allD, toD, xCall, L2.Dm.c1, L2.Dm.c2, xFn, xFnK, xFnD, xFnV, xMt, appendR, xSl, xO0, xO1, slD, L2.Dm.ltT_i, L2.Dm.ltT_s, addD, subD, mulD, fdivD, modD, powD, ltD, leD, gtD, geD, eqB, neB, isB, isnB, inB, ninB, addI, lenD, absD, maxD, minD, divmodD, intD, listD, tupleD, sumD, allB, anyB, maxL, maxA, maxT, minL, isinA, ixA, tabIx, tabIn, L2.at0, L2.at1, L2.at2, at3, at4, xYes, wipeA, List.map_cons, List.map_nil, List.length_cons, List.length_nil, List.replicate, List.cons_append, List.nil_append, List.append_nil, List.set_cons_zero, List.set_cons_succ, List.getElem?_cons_zero, List.getElem?_cons_succ, Nat.reduceAdd, Nat.reduceSub, Nat.reduceLeDiff, Nat.reduceLT, Nat.reduceEqDiff, if_true, if_false, Bool.not_true, Bool.not_false, Bool.false_eq_true, reduceIte, Option.map_some, Option.map_none, reduceCtorEq, decide_true, decide_false, Bool.and_true, Bool.true_and, Bool.and_false, Bool.false_and, Bool.or_true, Bool.true_or, Bool.or_false, Bool.false_or, and_self, and_true, true_and, Nat.zero_add]
def calD (x : PyData) : Bool := match x with
  | .tuple [a, b, c] => wholeD a && (withinD b 1 12 && withinD c 1 30)
  | _ => false
theorem tup3_no {d : PyData} (h : ∀ a b c, d ≠ .tuple [a, b, c]) : tupD d 3 3 = false := by
  cases d with
  | tuple xs =>
    match xs, h with
    | [], _ => rfl
    | [_], _ => rfl
    | [_, _], _ => rfl
    | [a, b, c], h => exact absurd rfl (h a b c)
    | a :: b :: c :: m :: r, _ =>
      unfold tupD
      simp only [List.length_cons]
      simp
      omega
  | _ => rfl
theorem f_calG (d : PyData) (h : AH) : F_is_calendar_date [.d d] h = some (.d (.bool (calD d)), h) := by
  by_cases hd : ∃ a b c, d = .tuple [a, b, c]
  · obtain ⟨a, b, c, rfl⟩ := hd
    have ht : tupD (.tuple [a, b, c]) 3 3 = true := rfl
    show F_is_calendar_date [.d (.tuple [a, b, c])] h = some (.d (.bool (wholeD a && (withinD b 1 12 && withinD c 1 30))), h)
    unfold F_is_calendar_date B_is_calendar_date
    cases h1 : wholeD a
    · simp only [f_tuple, ht, f_whole, f_within, h1, fnF, eqB2, sSeq, sNil, sPass, sBreak, sCont, sNever, sRet, sRetN, sExpr, sIf, sSet, sPar, sAsg, sAug, gN, gT, gsCons, gsNil, gS, setA, sAugS, getA, sFor, xSeq, srcA, xRng1, xRng2, xEnum, xZip, xListZip, srcB, xV, xC, L2.Dm.x1, L2.Dm.x2, op2, view, negA, xT, truD, xB, xCh, xAnd, xOr, xNot, xNotV, xIf, xAndV, xOrV, xNil, xCons, xTup, xLst, xLstM, allD, toD, xCall, L2.Dm.c1, L2.Dm.c2, xFn, xFnK, xFnD, xFnV, xMt, appendR, xSl, xO0, xO1, slD, L2.Dm.ltT_i, L2.Dm.ltT_s, addD, subD, mulD, fdivD, modD, powD, ltD, leD, gtD, geD, eqB, neB, isB, isnB, inB, ninB, addI, lenD, absD, maxD, minD, divmodD, intD, listD, tupleD, sumD, allB, anyB, maxL, maxA, maxT, minL, isinA, ixA, tabIx, tabIn, L2.at0, L2.at1, L2.at2, at3, at4, xYes, wipeA, List.map_cons, List.map_nil, List.length_cons, List.length_nil, List.replicate, List.cons_append, List.nil_append, List.append_nil, List.set_cons_zero, List.set_cons_succ, List.getElem?_cons_zero, List.getElem?_cons_succ, Nat.reduceAdd, Nat.reduceSub, Nat.reduceLeDiff, Nat.reduceLT, Nat.reduceEqDiff, if_true, if_false, Bool.not_true, Bool.not_false, Bool.false_eq_true, reduceIte, Option.map_some, Option.map_none, reduceCtorEq, decide_true, decide_false, Bool.and_true, Bool.true_and, Bool.and_false, Bool.false_and, Bool.or_true, Bool.true_or, Bool.or_false, Bool.false_or, and_self, and_true, true_and, Nat.zero_add]
    cases h2 : withinD b 1 12
    · simp only [f_tuple, ht, f_whole, f_within, h1, h2, fnF, eqB2, sSeq, sNil, sPass, sBreak, sCont, sNever, sRet, sRetN, sExpr, sIf, sSet, sPar, sAsg, sAug, gN, gT, gsCons, gsNil, gS, setA, sAugS, getA, sFor, xSeq, srcA, xRng1, xRng2, xEnum, xZip, xListZip, srcB, xV, xC, L2.Dm.x1, L2.Dm.x2, op2, view, negA, xT, truD, xB, xCh, xAnd, xOr, xNot, xNotV, xIf, xAndV, xOrV, xNil, xCons, xTup, xLst, xLstM, allD, toD, xCall, L2.Dm.c1, L2.Dm.c2, xFn, xFnK, xFnD, xFnV, xMt, appendR, xSl, xO0, xO1, slD, L2.Dm.ltT_i, L2.Dm.ltT_s, addD, subD, mulD, fdivD, modD, powD, ltD, leD, gtD, geD, eqB, neB, isB, isnB, inB, ninB, addI, lenD, absD, maxD, minD, divmodD, intD, listD, tupleD, sumD, allB, anyB, maxL, maxA, maxT, minL, isinA, ixA, tabIx, tabIn, L2.at0, L2.at1, L2.at2, at3, at4, xYes, wipeA, List.map_cons, List.map_nil, List.length_cons, List.length_nil, List.replicate, List.cons_append, List.nil_append, List.append_nil, List.set_cons_zero, List.set_cons_succ, List.getElem?_cons_zero, List.getElem?_cons_succ, Nat.reduceAdd, Nat.reduceSub, Nat.reduceLeDiff, Nat.reduceLT, Nat.reduceEqDiff, if_true, if_false, Bool.not_true, Bool.not_false, Bool.false_eq_true, reduceIte, Option.map_some, Option.map_none, reduceCtorEq, decide_true, decide_false, Bool.and_true, Bool.true_and, Bool.and_false, Bool.false_and, Bool.or_true, Bool.true_or, Bool.or_false, Bool.false_or, and_self, and_true, true_and, Nat.zero_add]
    · simp only [f_tuple, ht, f_whole, f_within, h1, h2, fnF, eqB2, sSeq, sNil, sPass, sBreak, sCont, sNever, sRet, sRetN, sExpr, sIf, sSet, sPar, sAsg, sAug, gN, gT, gsCons, gsNil, gS, setA, sAugS, getA, sFor, xSeq, srcA, xRng1, xRng2, xEnum, xZip, xListZip, srcB, xV, xC, L2.Dm.x1, L2.Dm.x2, op2, view, negA, xT, truD, xB, xCh, xAnd, xOr, xNot, xNotV, xIf, xAndV, xOrV, xNil, xCons, xTup, xLst, xLstM, allD, toD, xCall, L2.Dm.c1, L2.Dm.c2, xFn, xFnK, xFnD, xFnV, xMt, appendR, xSl, xO0, xO1, slD, L2.Dm.ltT_i, L2.Dm.ltT_s, addD, subD, mulD, fdivD, modD, powD, ltD, leD, gtD, geD, eqB, neB, isB, isnB, inB, ninB, addI, lenD, absD, maxD, minD, divmodD, intD, listD, tupleD, sumD, allB, anyB, maxL, maxA, maxT, minL, isinA, ixA, tabIx, tabIn, L2.at0, L2.at1, L2.at2, at3, at4, xYes, wipeA, List.map_cons, List.map_nil, List.length_cons, List.length_nil, List.replicate, List.cons_append, List.nil_append, List.append_nil, List.set_cons_zero, List.set_cons_succ, List.getElem?_cons_zero, List.getElem?_cons_succ, Nat.reduceAdd, Nat.reduceSub, Nat.reduceLeDiff, Nat.reduceLT, Nat.reduceEqDiff, if_true, if_false, Bool.not_true, Bool.not_false, Bool.false_eq_true, reduceIte, Option.map_some, Option.map_none, reduceCtorEq, decide_true, decide_false, Bool.and_true, Bool.true_and, Bool.and_false, Bool.false_and, Bool.or_true, Bool.true_or, Bool.or_false, Bool.false_or, and_self, and_true, true_and, Nat.zero_add]
  · have hn : ∀ a b c, d ≠ .tuple [a, b, c] := fun a b c e => hd ⟨a, b, c, e⟩
    have hc : calD d = false := by
      unfold calD
      split
      · rename_i a b c
        exact absurd rfl (hn a b c)
      · rfl
    rw [hc]
    have ht := tup3_no hn
    unfold F_is_calendar_date B_is_calendar_date
    simp only [f_tuple, ht, fnF, eqB2, sSeq, sNil, sPass, sBreak, sCont, sNever, sRet, sRetN, sExpr, sIf, sSet, sPar, sAsg, sAug, gN, gT, gsCons, gsNil, gS, setA, sAugS, getA, sFor, xSeq, srcA, xRng1, xRng2, xEnum, xZip, xListZip, srcB, xV, xC, L2.Dm.x1, L2.Dm.x2, op2, view, negA, xT, truD, xB, xCh, xAnd, xOr, xNot, xNotV, xIf, xAndV, xOrV, xNil, xCons, xTup, xLst, xLstM, allD, toD, xCall, L2.Dm.c1, L2.Dm.c2, xFn, xFnK, xFnD, xFnV, xMt, appendR, xSl, xO0, xO1, slD, L2.Dm.ltT_i, L2.Dm.ltT_s, addD, subD, mulD, fdivD, modD, powD, ltD, leD, gtD, geD, eqB, neB, isB, isnB, inB, ninB, addI, lenD, absD, maxD, minD, divmodD, intD, listD, tupleD, sumD, allB, anyB, maxL, maxA, maxT, minL, isinA, ixA, tabIx, tabIn, L2.at0, L2.at1, L2.at2, at3, at4, xYes, wipeA, List.map_cons, List.map_nil, List.length_cons, List.length_nil, List.replicate, List.cons_append, List.nil_append, List.append_nil, List.set_cons_zero, List.set_cons_succ, List.getElem?_cons_zero, List.getElem?_cons_succ, Nat.reduceAdd, Nat.reduceSub, Nat.reduceLeDiff, Nat.reduceLT, Nat.reduceEqDiff, if_true, if_false, Bool.not_true, Bool.not_false, Bool.false_eq_true, reduceIte, Option.map_some, Option.map_none, reduceCtorEq, decide_true, decide_false, Bool.and_true, Bool.true_and, Bool.and_false, Bool.false_and, Bool.or_true, Bool.true_or, Bool.or_false, Bool.false_or, and_self, and_true, true_and, Nat.zero_add]
theorem day_no {x : PyData} (hx : calD x = false) (h : AH) : F_day_of [.d x] h = none ∧ R_day_of [.d x] h = some (("NoDate" : Str), h) := by
  constructor
  · unfold F_day_of B_day_of
    simp only [f_calG, hx, fnF, eqB2, sSeq, sNil, sPass, sBreak, sCont, sNever, sRet, sRetN, sExpr, sIf, sSet, sPar, sAsg, sAug, gN, gT, gsCons, gsNil, gS, setA, sAugS, getA, sFor, xSeq, srcA, xRng1, xRng2, xEnum, xZip, xListZip, srcB, xV, xC, L2.Dm.x1, L2.Dm.x2, op2, view, negA, xT, truD, xB, xCh, xAnd, xOr, xNot, xNotV, xIf, xAndV, xOrV, xNil, xCons, xTup, xLst, xLstM, allD, toD, xCall, L2.Dm.c1, L2.Dm.c2, xFn, xFnK, xFnD, xFnV, xMt, appendR, xSl, xO0, xO1, slD, L2.Dm.ltT_i, L2.Dm.ltT_s, addD, subD, mulD, fdivD, modD, powD, ltD, leD, gtD, geD, eqB, neB, isB, isnB, inB, ninB, addI, lenD, absD, maxD, minD, divmodD, intD, listD, tupleD, sumD, allB, anyB, maxL, maxA, maxT, minL, isinA, ixA, tabIx, tabIn, L2.at0, L2.at1, L2.at2, at3, at4, xYes, wipeA, List.map_cons, List.map_nil, List.length_cons, List.length_nil, List.replicate, List.cons_append, List.nil_append, List.append_nil, List.set_cons_zero, List.set_cons_succ, List.getElem?_cons_zero, List.getElem?_cons_succ, Nat.reduceAdd, Nat.reduceSub, Nat.reduceLeDiff, Nat.reduceLT, Nat.reduceEqDiff, if_true, if_false, Bool.not_true, Bool.not_false, Bool.false_eq_true, reduceIte, Option.map_some, Option.map_none, reduceCtorEq, decide_true, decide_false, Bool.and_true, Bool.true_and, Bool.and_false, Bool.false_and, Bool.or_true, Bool.true_or, Bool.or_false, Bool.false_or, and_self, and_true, true_and, Nat.zero_add]
  · unfold R_day_of fnR rSeq rIf rRaise
    simp only [f_calG, hx, fnF, eqB2, sSeq, sNil, sPass, sBreak, sCont, sNever, sRet, sRetN, sExpr, sIf, sSet, sPar, sAsg, sAug, gN, gT, gsCons, gsNil, gS, setA, sAugS, getA, sFor, xSeq, srcA, xRng1, xRng2, xEnum, xZip, xListZip, srcB, xV, xC, L2.Dm.x1, L2.Dm.x2, op2, view, negA, xT, truD, xB, xCh, xAnd, xOr, xNot, xNotV, xIf, xAndV, xOrV, xNil, xCons, xTup, xLst, xLstM, allD, toD, xCall, L2.Dm.c1, L2.Dm.c2, xFn, xFnK, xFnD, xFnV, xMt, appendR, xSl, xO0, xO1, slD, L2.Dm.ltT_i, L2.Dm.ltT_s, addD, subD, mulD, fdivD, modD, powD, ltD, leD, gtD, geD, eqB, neB, isB, isnB, inB, ninB, addI, lenD, absD, maxD, minD, divmodD, intD, listD, tupleD, sumD, allB, anyB, maxL, maxA, maxT, minL, isinA, ixA, tabIx, tabIn, L2.at0, L2.at1, L2.at2, at3, at4, xYes, wipeA, List.map_cons, List.map_nil, List.length_cons, List.length_nil, List.replicate, List.cons_append, List.nil_append, List.append_nil, List.set_cons_zero, List.set_cons_succ, List.getElem?_cons_zero, List.getElem?_cons_succ, Nat.reduceAdd, Nat.reduceSub, Nat.reduceLeDiff, Nat.reduceLT, Nat.reduceEqDiff, if_true, if_false, Bool.not_true, Bool.not_false, Bool.false_eq_true, reduceIte, Option.map_some, Option.map_none, reduceCtorEq, decide_true, decide_false, Bool.and_true, Bool.true_and, Bool.and_false, Bool.false_and, Bool.or_true, Bool.true_or, Bool.or_false, Bool.false_or, and_self, and_true, true_and, Nat.zero_add]
theorem day_far {y m d : Int} (hm : 1 ≤ m ∧ m ≤ 12) (hd : 1 ≤ d ∧ d ≤ 30) (hB : y.natAbs < 2 ^ 200) (hx : withinD (.int ((y * 12 + m - 1) * 30 + d - 1)) 0 9999 = false) (h : AH) : F_day_of [.d (.tuple [.int y, .int m, .int d])] h = none ∧ R_day_of [.d (.tuple [.int y, .int m, .int d])] h = some (("NoDate" : Str), h) := by
  have c := f_calG (.tuple [.int y, .int m, .int d]) h
  have hc : calD (.tuple [.int y, .int m, .int d]) = true := by
    simp only [calD, wholeD, withinD, Bool.true_and, Bool.and_eq_true, decide_eq_true_eq]; omega
  rw [hc] at c
  have e : (2 : Nat) ^ 200 * 2 ^ 10 < 2 ^ 4000 := by rw [← Nat.pow_add]; exact Nat.pow_lt_pow_right (by decide) (by decide)
  have e2 : (2 : Nat) ^ 200 < 2 ^ 4000 := Nat.pow_lt_pow_right (by decide) (by decide)
  have q1 : Big y := Nat.lt_trans hB e2
  have q2 : Big (y * 12 + m - 1) := by
    show (y * 12 + m - 1).natAbs < 2 ^ 4000
    generalize (2 : Nat) ^ 200 = A at *
    generalize (2 : Nat) ^ 4000 = C at *
    have : (2 : Nat) ^ 10 = 1024 := by decide
    rw [this] at e
    omega
  have q3 : Big 12 := by decide
  have q4 : Big 30 := by decide
  constructor
  · unfold F_day_of B_day_of
    simp only [c, f_is_day, hx, q1, q2, q3, q4, fnF, eqB2, sSeq, sNil, sPass, sBreak, sCont, sNever, sRet, sRetN, sExpr, sIf, sSet, sPar, sAsg, sAug, gN, gT, gsCons, gsNil, gS, setA, sAugS, getA, sFor, xSeq, srcA, xRng1, xRng2, xEnum, xZip, xListZip, srcB, xV, xC, L2.Dm.x1, L2.Dm.x2, op2, view, negA, xT, truD, xB, xCh, xAnd, xOr, xNot, xNotV, xIf, xAndV, xOrV, xNil, xCons, xTup, xLst, xLstM, allD, toD, xCall, L2.Dm.c1, L2.Dm.c2, xFn, xFnK, xFnD, xFnV, xMt, appendR, xSl, xO0, xO1, slD, L2.Dm.ltT_i, L2.Dm.ltT_s, addD, subD, mulD, fdivD, modD, powD, ltD, leD, gtD, geD, eqB, neB, isB, isnB, inB, ninB, addI, lenD, absD, maxD, minD, divmodD, intD, listD, tupleD, sumD, allB, anyB, maxL, maxA, maxT, minL, isinA, ixA, tabIx, tabIn, L2.at0, L2.at1, L2.at2, at3, at4, xYes, wipeA, List.map_cons, List.map_nil, List.length_cons, List.length_nil, List.replicate, List.cons_append, List.nil_append, List.append_nil, List.set_cons_zero, List.set_cons_succ, List.getElem?_cons_zero, List.getElem?_cons_succ, Nat.reduceAdd, Nat.reduceSub, Nat.reduceLeDiff, Nat.reduceLT, Nat.reduceEqDiff, if_true, if_false, Bool.not_true, Bool.not_false, Bool.false_eq_true, reduceIte, Option.map_some, Option.map_none, reduceCtorEq, decide_true, decide_false, Bool.and_true, Bool.true_and, Bool.and_false, Bool.false_and, Bool.or_true, Bool.true_or, Bool.or_false, Bool.false_or, and_self, and_true, true_and, Nat.zero_add]
  · unfold R_day_of fnR rSeq rIf rRaise rNo
    simp only [c, f_is_day, hx, q1, q2, q3, q4, fnF, eqB2, sSeq, sNil, sPass, sBreak, sCont, sNever, sRet, sRetN, sExpr, sIf, sSet, sPar, sAsg, sAug, gN, gT, gsCons, gsNil, gS, setA, sAugS, getA, sFor, xSeq, srcA, xRng1, xRng2, xEnum, xZip, xListZip, srcB, xV, xC, L2.Dm.x1, L2.Dm.x2, op2, view, negA, xT, truD, xB, xCh, xAnd, xOr, xNot, xNotV, xIf, xAndV, xOrV, xNil, xCons, xTup, xLst, xLstM, allD, toD, xCall, L2.Dm.c1, L2.Dm.c2, xFn, xFnK, xFnD, xFnV, xMt, appendR, xSl, xO0, xO1, slD, L2.Dm.ltT_i, L2.Dm.ltT_s, addD, subD, mulD, fdivD, modD, powD, ltD, leD, gtD, geD, eqB, neB, isB, isnB, inB, ninB, addI, lenD, absD, maxD, minD, divmodD, intD, listD, tupleD, sumD, allB, anyB, maxL, maxA, maxT, minL, isinA, ixA, tabIx, tabIn, L2.at0, L2.at1, L2.at2, at3, at4, xYes, wipeA, List.map_cons, List.map_nil, List.length_cons, List.length_nil, List.replicate, List.cons_append, List.nil_append, List.append_nil, List.set_cons_zero, List.set_cons_succ, List.getElem?_cons_zero, List.getElem?_cons_succ, Nat.reduceAdd, Nat.reduceSub, Nat.reduceLeDiff, Nat.reduceLT, Nat.reduceEqDiff, if_true, if_false, Bool.not_true, Bool.not_false, Bool.false_eq_true, reduceIte, Option.map_some, Option.map_none, reduceCtorEq, decide_true, decide_false, Bool.and_true, Bool.true_and, Bool.and_false, Bool.false_and, Bool.or_true, Bool.true_or, Bool.or_false, Bool.false_or, and_self, and_true, true_and, Nat.zero_add]
def badT : List PyData := [.tuple [.int 27, .int 10, .int 11], .tuple [.int 27, .int 12, .int 30], .tuple [.int 28, .int 1, .int 1], .tuple [.int (-1), .int 1, .int 1], .tuple [.int 0, .int 0, .int 1], .tuple [.int 0, .int 13, .int 1], .tuple [.int 0, .int 1, .int 0], .tuple [.int 0, .int 1, .int 31],
  .tuple [.int 0, .int 1], .tuple [.int 0, .int 1, .int 1, .int 1], .list [.int 0, .int 1, .int 1], .tuple [.bool true, .int 1, .int 1], .tuple [.int 0, .bool true, .int 1], .tuple [.int 0, .int 1, .bool true], .tuple [.str (Str.ofString "0"), .int 1, .int 1], .none, .int 0, .dict [],
  .tuple [.int (10 ^ (29 : Int).toNat), .int 1, .int 1], .tuple [.int 0, .int (10 ^ (29 : Int).toNat), .int 1], .tuple [.int 0, .int 1, .int (10 ^ (29 : Int).toNat)], .tuple [.tuple [], .int 1, .int 1], .tuple [.int 0, .none, .int 1], .tuple [.int 0, .int 1, .list [.int 1]]]
theorem badT_no {x : PyData} (hx : x ∈ badT) (h : AH) : (F_day_of [.d x] h = none ∧ R_day_of [.d x] h = some (("NoDate" : Str), h)) ∧ ∃ s, reprD x = some (.str s) := by
  simp only [badT, List.mem_cons, List.not_mem_nil, or_false] at hx
  rcases hx with rfl | rfl | rfl | rfl | rfl | rfl | rfl | rfl | rfl | rfl | rfl | rfl | rfl | rfl | rfl | rfl | rfl | rfl | rfl | rfl | rfl | rfl | rfl | rfl <;>
    refine ⟨?_, _, rfl⟩ <;> first | exact day_no (by decide) h | exact day_far (by decide) (by decide) (by decide +kernel) (by decide +kernel) h
theorem said_date {x : PyData} (hx : x ∈ badT) (h : AH) : ∃ g, G_law_said (xFn 1 (xCons (xV 0) xNil) F_day_of) (rFn 1 (xCons (xV 0) xNil) R_day_of) [some (.d x)] h = some (.d (.str (Str.ofString "date")), h ++ g) := by
  obtain ⟨⟨q1, q2⟩, _⟩ := badT_no hx h
  refine said_no (k := "NoDate") ?_ ?_ (by decide) (w_NoDate h)
  · simp only [q1, fnF, eqB2, sSeq, sNil, sPass, sBreak, sCont, sNever, sRet, sRetN, sExpr, sIf, sSet, sPar, sAsg, sAug, gN, gT, gsCons, gsNil, gS, setA, sAugS, getA, sFor, xSeq, srcA, xRng1, xRng2, xEnum, xZip, xListZip, srcB, xV, xC, L2.Dm.x1, L2.Dm.x2, op2, view, negA, xT, truD, xB, xCh, xAnd, xOr, xNot, xNotV, xIf, xAndV, xOrV, xNil, xCons, xTup, xLst, xLstM, allD, toD, xCall, L2.Dm.c1, L2.Dm.c2, xFn, xFnK, xFnD, xFnV, xMt, appendR, xSl, xO0, xO1, slD, L2.Dm.ltT_i, L2.Dm.ltT_s, addD, subD, mulD, fdivD, modD, powD, ltD, leD, gtD, geD, eqB, neB, isB, isnB, inB, ninB, addI, lenD, absD, maxD, minD, divmodD, intD, listD, tupleD, sumD, allB, anyB, maxL, maxA, maxT, minL, isinA, ixA, tabIx, tabIn, L2.at0, L2.at1, L2.at2, at3, at4, xYes, wipeA, List.map_cons, List.map_nil, List.length_cons, List.length_nil, List.replicate, List.cons_append, List.nil_append, List.append_nil, List.set_cons_zero, List.set_cons_succ, List.getElem?_cons_zero, List.getElem?_cons_succ, Nat.reduceAdd, Nat.reduceSub, Nat.reduceLeDiff, Nat.reduceLT, Nat.reduceEqDiff, if_true, if_false, Bool.not_true, Bool.not_false, Bool.false_eq_true, reduceIte, Option.map_some, Option.map_none, reduceCtorEq, decide_true, decide_false, Bool.and_true, Bool.true_and, Bool.and_false, Bool.false_and, Bool.or_true, Bool.true_or, Bool.or_false, Bool.false_or, and_self, and_true, true_and, Nat.zero_add]
  · unfold rFn
    simp only [q2, fnF, eqB2, sSeq, sNil, sPass, sBreak, sCont, sNever, sRet, sRetN, sExpr, sIf, sSet, sPar, sAsg, sAug, gN, gT, gsCons, gsNil, gS, setA, sAugS, getA, sFor, xSeq, srcA, xRng1, xRng2, xEnum, xZip, xListZip, srcB, xV, xC, L2.Dm.x1, L2.Dm.x2, op2, view, negA, xT, truD, xB, xCh, xAnd, xOr, xNot, xNotV, xIf, xAndV, xOrV, xNil, xCons, xTup, xLst, xLstM, allD, toD, xCall, L2.Dm.c1, L2.Dm.c2, xFn, xFnK, xFnD, xFnV, xMt, appendR, xSl, xO0, xO1, slD, L2.Dm.ltT_i, L2.Dm.ltT_s, addD, subD, mulD, fdivD, modD, powD, ltD, leD, gtD, geD, eqB, neB, isB, isnB, inB, ninB, addI, lenD, absD, maxD, minD, divmodD, intD, listD, tupleD, sumD, allB, anyB, maxL, maxA, maxT, minL, isinA, ixA, tabIx, tabIn, L2.at0, L2.at1, L2.at2, at3, at4, xYes, wipeA, List.map_cons, List.map_nil, List.length_cons, List.length_nil, List.replicate, List.cons_append, List.nil_append, List.append_nil, List.set_cons_zero, List.set_cons_succ, List.getElem?_cons_zero, List.getElem?_cons_succ, Nat.reduceAdd, Nat.reduceSub, Nat.reduceLeDiff, Nat.reduceLT, Nat.reduceEqDiff, if_true, if_false, Bool.not_true, Bool.not_false, Bool.false_eq_true, reduceIte, Option.map_some, Option.map_none, reduceCtorEq, decide_true, decide_false, Bool.and_true, Bool.true_and, Bool.and_false, Bool.false_and, Bool.or_true, Bool.true_or, Bool.or_false, Bool.false_or, and_self, and_true, true_and, Nat.zero_add]
end My
set_option linter.all false
set_option maxRecDepth 100000
namespace My
open PySem L2.Dm
open L2 (Big atI ixN isinK)
theorem fine_of {d : PyData} (f : L2.Fine 60 10000 d) : fineB d = true := by
  unfold fineB
  simp only [f.sh, f.lv, f.dp, f.wt, decide_true, Bool.and_true]
theorem rep_of {d : PyData} (f : L2.Fine 60 10000 d) (c : cleanB d = true) : reprD d = some (.str d.shown) := by
  unfold reprD
  rw [if_pos ⟨fine_of f, c⟩]
theorem fine_date {d : Int} (d0 : 0 ≤ d) (d1 : d ≤ 9999) : L2.Fine 1 200 (dateD d) :=
  (L2.Fine.tuple (n := 0) (w := 150) (.cons (w1 := 40) (w2 := 100) (.int (m := 40) (by omega)) (.cons (w1 := 40) (w2 := 50) (.int (m := 40) (by omega)) (.cons (w1 := 40) (w2 := 0) (.int (m := 40) (by omega)) .nil)))).mono (by decide) (by decide)
theorem rep_two {d : Int} (d0 : 0 ≤ d) (d1 : d ≤ 9999) : reprD (.list [dateD d, dateD d]) = some (.str (PyData.shown (.list [dateD d, dateD d]))) :=
  rep_of ((L2.Fine.list (n := 1) (w := 500) (.cons (w1 := 200) (w2 := 250) (fine_date d0 d1) (.cons (w1 := 200) (w2 := 0) (fine_date d0 d1) .nil))).mono (by decide) (by decide)) rfl
theorem rep_day {d : Int} (d0 : 0 ≤ d) (d1 : d ≤ 9999) : reprD (.int d) = some (.str (PyData.shown (.int d))) := rep_of ((L2.Fine.int (m := 40) (by omega) : L2.Fine 0 40 (.int d)).mono (by decide) (by decide)) rfl
theorem es (s : Str) : eqD (.str s) (.str s) = some true := by simp [eqD]
theorem xs_eq {h : AH} {F : XE} {d : PyData} (h0 : h[0]? = some (.tab "law")) (s0 s1 s2 s3 s4 s5 s7 s8 : Option AV) : xSaid 0 "law" [6] F [s0, s1, s2, s3, s4, s5, some (.d d), s7, s8] h = F [some (.d d)] h := by
  unfold xSaid
  rw [h0]
  show (if ("law" : Str) = "law" then F (L2.Dm.pick [6] [s0, s1, s2, s3, s4, s5, some (.d d), s7, s8]) h else none) = _
  rw [if_pos rfl]
  rfl
theorem tab_app {h : AH} (h0 : h[0]? = some (.tab "law")) (g : AH) : (h ++ g)[0]? = some (.tab "law") := by
  rw [List.getElem?_append_left (List.getElem?_eq_some_iff.mp h0).1]; exact h0
theorem turn2 {x : PyData} (hx : x ∈ badD) {h : AH} (h0 : h[0]? = some (.tab "law")) (s0 s1 s2 s3 s4 s5 s7 s8 : Option AV) : ∃ g, b2_law [s0, s1, s2, s3, s4, s5, some (.d x), s7, s8] h = some (.nx, [s0, s1, s2, s3, s4, s5, some (.d x), s7, s8], h ++ g) := by
  obtain ⟨g, e⟩ := said_day hx h
  refine ⟨g, ?_⟩
  unfold b2_law
  simp only [xs_eq h0, e, es, fnF, eqB2, sSeq, sNil, sPass, sBreak, sCont, sNever, sRet, sRetN, sExpr, sIf, sSet, sPar, sAsg, sAug, gN, gT, gsCons, gsNil, gS, setA, sAugS, getA, sFor, xSeq, srcA, xRng1, xRng2, xEnum, xZip, xListZip, srcB, xV, xC, L2.Dm.x1, L2.Dm.x2, op2, view, negA, xT, truD, xB, xCh, xAnd, xOr, xNot, xNotV, xIf, xAndV, xOrV, xNil, xCons, xTup, xLst, xLstM, allD, toD, xCall, L2.Dm.c1, L2.Dm.c2, xFn, xFnK, xFnD, xFnV, xMt, appendR, xSl, xO0, xO1, slD, L2.Dm.ltT_i, L2.Dm.ltT_s, addD, subD, mulD, fdivD, modD, powD, ltD, leD, gtD, geD, eqB, neB, isB, isnB, inB, ninB, addI, lenD, absD, maxD, minD, divmodD, intD, listD, tupleD, sumD, allB, anyB, maxL, maxA, maxT, minL, isinA, ixA, tabIx, tabIn, L2.at0, L2.at1, L2.at2, at3, at4, xYes, wipeA, List.map_cons, List.map_nil, List.length_cons, List.length_nil, List.replicate, List.cons_append, List.nil_append, List.append_nil, List.set_cons_zero, List.set_cons_succ, List.getElem?_cons_zero, List.getElem?_cons_succ, Nat.reduceAdd, Nat.reduceSub, Nat.reduceLeDiff, Nat.reduceLT, Nat.reduceEqDiff, if_true, if_false, Bool.not_true, Bool.not_false, Bool.false_eq_true, reduceIte, Option.map_some, Option.map_none, reduceCtorEq, decide_true, decide_false, Bool.and_true, Bool.true_and, Bool.and_false, Bool.false_and, Bool.or_true, Bool.true_or, Bool.or_false, Bool.false_or, and_self, and_true, true_and, Nat.zero_add]
theorem turn1 {x : PyData} (hx : x ∈ badT) {h : AH} (h0 : h[0]? = some (.tab "law")) (s0 s1 s2 s3 s4 s5 s7 s8 : Option AV) : ∃ w g, b1_law [s0, s1, s2, s3, s4, s5, some (.d x), s7, s8] h = some (.nx, [s0, s1, s2, s3, s4, s5, some (.d x), s7, w], h ++ g) := by
  obtain ⟨g, e⟩ := said_date hx h
  obtain ⟨_, s, r⟩ := badT_no hx h
  refine ⟨some (.d (.str s)), g, ?_⟩
  unfold b1_law
  simp only [xs_eq h0, e, es, r, fnF, eqB2, sSeq, sNil, sPass, sBreak, sCont, sNever, sRet, sRetN, sExpr, sIf, sSet, sPar, sAsg, sAug, gN, gT, gsCons, gsNil, gS, setA, sAugS, getA, sFor, xSeq, srcA, xRng1, xRng2, xEnum, xZip, xListZip, srcB, xV, xC, L2.Dm.x1, L2.Dm.x2, op2, view, negA, xT, truD, xB, xCh, xAnd, xOr, xNot, xNotV, xIf, xAndV, xOrV, xNil, xCons, xTup, xLst, xLstM, allD, toD, xCall, L2.Dm.c1, L2.Dm.c2, xFn, xFnK, xFnD, xFnV, xMt, appendR, xSl, xO0, xO1, slD, L2.Dm.ltT_i, L2.Dm.ltT_s, addD, subD, mulD, fdivD, modD, powD, ltD, leD, gtD, geD, eqB, neB, isB, isnB, inB, ninB, addI, lenD, absD, maxD, minD, divmodD, intD, listD, tupleD, sumD, allB, anyB, maxL, maxA, maxT, minL, isinA, ixA, tabIx, tabIn, L2.at0, L2.at1, L2.at2, at3, at4, xYes, wipeA, List.map_cons, List.map_nil, List.length_cons, List.length_nil, List.replicate, List.cons_append, List.nil_append, List.append_nil, List.set_cons_zero, List.set_cons_succ, List.getElem?_cons_zero, List.getElem?_cons_succ, Nat.reduceAdd, Nat.reduceSub, Nat.reduceLeDiff, Nat.reduceLT, Nat.reduceEqDiff, if_true, if_false, Bool.not_true, Bool.not_false, Bool.false_eq_true, reduceIte, Option.map_some, Option.map_none, reduceCtorEq, decide_true, decide_false, Bool.and_true, Bool.true_and, Bool.and_false, Bool.false_and, Bool.or_true, Bool.true_or, Bool.or_false, Bool.false_or, and_self, and_true, true_and, Nat.zero_add]
theorem loop2 (s0 s1 s2 s3 s4 s5 s7 s8 : Option AV) : ∀ (xs : List PyData), (∀ x ∈ xs, x ∈ badD) → ∀ (h : AH) (v6 : Option AV), h[0]? = some (.tab "law") → ∃ w6 g, forL (fun _ => true) (gN 6) b2_law (xs.map AV.d) [s0, s1, s2, s3, s4, s5, v6, s7, s8] h = some (.nx, [s0, s1, s2, s3, s4, s5, w6, s7, s8], h ++ g)
  | [], _, h, v6, _ => ⟨v6, [], by simp [forL]⟩
  | x :: xs, t, h, v6, h0 => by
    obtain ⟨g1, e⟩ := turn2 (t x (List.mem_cons_self ..)) h0 s0 s1 s2 s3 s4 s5 s7 s8
    obtain ⟨u6, g2, e2⟩ := loop2 s0 s1 s2 s3 s4 s5 s7 s8 xs (fun y hy => t y (List.mem_cons_of_mem _ hy)) (h ++ g1) (some (.d x)) (tab_app h0 g1)
    refine ⟨u6, g1 ++ g2, ?_⟩
    rw [← List.append_assoc]
    simp only [List.map_cons, forL, if_true, gN, List.set_cons_succ, List.set_cons_zero, e]
    exact e2
theorem loop1 (s0 s1 s2 s3 s4 s5 s7 : Option AV) : ∀ (xs : List PyData), (∀ x ∈ xs, x ∈ badT) → ∀ (h : AH) (v6 v8 : Option AV), h[0]? = some (.tab "law") → ∃ w6 w8 g, forL (fun _ => true) (gN 6) b1_law (xs.map AV.d) [s0, s1, s2, s3, s4, s5, v6, s7, v8] h = some (.nx, [s0, s1, s2, s3, s4, s5, w6, s7, w8], h ++ g)
  | [], _, h, v6, v8, _ => ⟨v6, v8, [], by simp [forL]⟩
  | x :: xs, t, h, v6, v8, h0 => by
    obtain ⟨w8, g1, e⟩ := turn1 (t x (List.mem_cons_self ..)) h0 s0 s1 s2 s3 s4 s5 s7 v8
    obtain ⟨u6, u8, g2, e2⟩ := loop1 s0 s1 s2 s3 s4 s5 s7 xs (fun y hy => t y (List.mem_cons_of_mem _ hy)) (h ++ g1) (some (.d x)) w8 (tab_app h0 g1)
    refine ⟨u6, u8, g1 ++ g2, ?_⟩
    rw [← List.append_assoc]
    simp only [List.map_cons, forL, if_true, gN, List.set_cons_succ, List.set_cons_zero, e]
    exact e2
theorem take_ {h : AH} {i : Nat} {o : AO} (hi : i < h.length) (p : Box o) (n : Int) (hn : 1 ≤ n) (hB : Big n) : ∃ (v : Int) (o' : AO), F_law_take [.ref i, .d (.int n)] (h.set i o) = some (.d (.int v), h.set i o') ∧ 0 ≤ v ∧ v < n ∧ Box o' := by
  obtain ⟨v, o', e, v0, v1, p'⟩ := f_take (h := h.set i o) (i := i) (o := o) (by rw [List.getElem?_set_self hi]) p n hn hB
  rw [List.set_set] at e
  exact ⟨v, o', e, v0, v1, p'⟩
theorem turn3 {h : AH} {i : Nat} {o : AO} (hi : i < h.length) (p : Box o) (s0 s1 s3 s4 s5 s6 s7 s8 : Option AV) : ∃ w4 w5 o', b3_law [s0, s1, some (.ref i), s3, s4, s5, s6, s7, s8] (h.set i o) = some (.nx, [s0, s1, some (.ref i), s3, w4, w5, s6, s7, s8], h.set i o') ∧ Box o' := by
  obtain ⟨a1, o1, e1, a10, a11, p1⟩ := take_ hi p 10000 (by decide) (by decide)
  obtain ⟨a2, o2, e2, a20, a21, p2⟩ := take_ hi p1 400 (by decide) (by decide)
  obtain ⟨a3, o3, e3, a30, a31, p3⟩ := take_ hi p2 400 (by decide) (by decide)
  obtain ⟨v, o4, e4, v0, v1, p4⟩ := take_ hi p3 3 (by decide) (by decide)
  obtain ⟨x, hx, mx⟩ := at_mem (xs := [PyData.int a1, .int a2, .int (9999 - a3)]) v0 (by simpa using v1)
  obtain ⟨d, rfl, d0, d1⟩ : ∃ d : Int, x = .int d ∧ 0 ≤ d ∧ d ≤ 9999 := by
    simp only [List.mem_cons, List.not_mem_nil, or_false] at mx
    rcases mx with rfl | rfl | rfl <;> exact ⟨_, rfl, by omega, by omega⟩
  have r1 := rep_two d0 d1
  have r2 := rep_day d0 d1
  have s3' : (3 : Nat) ≤ sizeLine := by decide
  have s2' : (2 : Nat) ≤ sizeLine := by decide
  have f1 := f_date d0 d1
  have f2 := f_ldate d0 d1
  have f3 := f_day d0 d1
  generalize dateD d = D at *
  refine ⟨some (.d (.int d)), some (.d D), o4, ?_, p4⟩
  unfold b3_law
  simp only [e1, e2, e3, e4, hx, f1, f2, f3, r1, r2, es, s3', s2', fnF, eqB2, sSeq, sNil, sPass, sBreak, sCont, sNever, sRet, sRetN, sExpr, sIf, sSet, sPar, sAsg, sAug, gN, gT, gsCons, gsNil, gS, setA, sAugS, getA, sFor, xSeq, srcA, xRng1, xRng2, xEnum, xZip, xListZip, srcB, xV, xC, L2.Dm.x1, L2.Dm.x2, op2, view, negA, xT, truD, xB, xCh, xAnd, xOr, xNot, xNotV, xIf, xAndV, xOrV, xNil, xCons, xTup, xLst, xLstM, allD, toD, xCall, L2.Dm.c1, L2.Dm.c2, xFn, xFnK, xFnD, xFnV, xMt, appendR, xSl, xO0, xO1, slD, L2.Dm.ltT_i, L2.Dm.ltT_s, addD, subD, mulD, fdivD, modD, powD, ltD, leD, gtD, geD, eqB, neB, isB, isnB, inB, ninB, addI, lenD, absD, maxD, minD, divmodD, intD, listD, tupleD, sumD, allB, anyB, maxL, maxA, maxT, minL, isinA, ixA, tabIx, tabIn, L2.at0, L2.at1, L2.at2, at3, at4, xYes, wipeA, List.map_cons, List.map_nil, List.length_cons, List.length_nil, List.replicate, List.cons_append, List.nil_append, List.append_nil, List.set_cons_zero, List.set_cons_succ, List.getElem?_cons_zero, List.getElem?_cons_succ, Nat.reduceAdd, Nat.reduceSub, Nat.reduceLeDiff, Nat.reduceLT, Nat.reduceEqDiff, if_true, if_false, Bool.not_true, Bool.not_false, Bool.false_eq_true, reduceIte, Option.map_some, Option.map_none, reduceCtorEq, decide_true, decide_false, Bool.and_true, Bool.true_and, Bool.and_false, Bool.false_and, Bool.or_true, Bool.true_or, Bool.or_false, Bool.false_or, and_self, and_true, true_and, Nat.zero_add]
theorem loop3 {h : AH} {i : Nat} (hi : i < h.length) (s0 s1 s6 s7 s8 : Option AV) : ∀ (xs : List AV) (o : AO) (v3 v4 v5 : Option AV), Box o → ∃ w3 w4 w5 o', forL (fun _ => true) (gN 3) b3_law xs [s0, s1, some (.ref i), v3, v4, v5, s6, s7, s8] (h.set i o) = some (.nx, [s0, s1, some (.ref i), w3, w4, w5, s6, s7, s8], h.set i o')
  | [], o, v3, v4, v5, _ => ⟨v3, v4, v5, o, by simp [forL]⟩
  | x :: xs, o, v3, v4, v5, p => by
    obtain ⟨w4, w5, o1, e, p1⟩ := turn3 hi p s0 s1 (some x) v4 v5 s6 s7 s8
    obtain ⟨u3, u4, u5, o2, e2⟩ := loop3 hi s0 s1 s6 s7 s8 xs o1 (some x) w4 w5 p1
    refine ⟨u3, u4, u5, o2, ?_⟩
    simp only [forL, if_true, gN, List.set_cons_succ, List.set_cons_zero, e]
    exact e2
theorem set_self {α : Type} {l : List α} {j : Nat} {x : α} (h : l[j]? = some x) : l.set j x = l := by
  apply List.ext_getElem?
  intro k
  rw [List.getElem?_set]
  split
  · rename_i e
    subst e
    split
    · exact h.symm
    · rename_i hn
      rw [List.getElem?_eq_none (by omega)] at h; cases h
  · rfl
theorem law_cell (ns : List Int) (k : Nat) (hk : k < 1000) (h : AH) (h0 : h[0]? = some (.tab "law")) (v2 v3 v4 v5 v6 v7 v8 : Option AV) : ∃ w2 w3 w4 w5 w6 w7 w8 h', b4_law [some (.d (.list (ns.map PyData.int))), some (.d (.int (k : Nat))), v2, v3, v4, v5, v6, v7, v8] h = some (.nx, [some (.d (.list (ns.map PyData.int))), some (.d (.int (k : Nat))), w2, w3, w4, w5, w6, w7, w8], h') ∧ h'[0]? = some (.tab "law") := by
  obtain ⟨o, e, p⟩ := f_box ns k hk h
  have hg : (h ++ [o]).set h.length o = h ++ [o] := set_self (by simp)
  have hi : h.length < (h ++ [o]).length := by simp
  obtain ⟨w3, w4, w5, o', e3⟩ := loop3 hi (some (.d (.list (ns.map PyData.int)))) (some (.d (.int (k : Nat)))) v6 v7 v8 (rangeD 0 (Int.toNat 10)) o v3 v4 v5 p
  rw [hg] at e3
  have hn : h.length ≠ 0 := fun z => by rw [List.length_eq_zero_iff.mp z] at h0; cases h0
  have h1 : ((h ++ [o]).set h.length o')[0]? = some (.tab "law") := by
    rw [List.getElem?_set_ne hn]; exact tab_app h0 _
  obtain ⟨w6, g2, e2⟩ := loop2 (some (.d (.list (ns.map PyData.int)))) (some (.d (.int (k : Nat)))) (some (.ref h.length)) w3 w4 w5 v7 v8 badD (fun _ z => z) _ v6 h1
  obtain ⟨u6, u8, g1, e1⟩ := loop1 (some (.d (.list (ns.map PyData.int)))) (some (.d (.int (k : Nat)))) (some (.ref h.length)) w3 w4 w5 (some (.d (.list (badT.take 18)))) badT (fun _ z => z) _ w6 v8 (tab_app h1 g2)
  have sm : smR 10 := by decide
  have z11 : (8 : Nat) ≤ sizeLine := by decide
  have z12 : (15 : Nat) ≤ sizeLine := by decide
  have z13 : (18 : Nat) ≤ sizeLine := by decide
  have z14 : (24 : Nat) ≤ sizeLine := by decide
  simp only [badD, badT, List.map_cons, List.map_nil, List.take_succ_cons, List.take_zero] at e2 e1
  refine ⟨some (.ref h.length), w3, w4, w5, u6, some (.d (.list (badT.take 18))), u8, _, ?_, tab_app (tab_app h1 g2) g1⟩
  unfold b4_law
  simp only [badT, List.take_succ_cons, List.take_zero]
  simp only [e, sm, e3, e2, e1, z11, z12, z13, z14, fnF, eqB2, sSeq, sNil, sPass, sBreak, sCont, sNever, sRet, sRetN, sExpr, sIf, sSet, sPar, sAsg, sAug, gN, gT, gsCons, gsNil, gS, setA, sAugS, getA, sFor, xSeq, srcA, xRng1, xRng2, xEnum, xZip, xListZip, srcB, xV, xC, L2.Dm.x1, L2.Dm.x2, op2, view, negA, xT, truD, xB, xCh, xAnd, xOr, xNot, xNotV, xIf, xAndV, xOrV, xNil, xCons, xTup, xLst, xLstM, allD, toD, xCall, L2.Dm.c1, L2.Dm.c2, xFn, xFnK, xFnD, xFnV, xMt, appendR, xSl, xO0, xO1, slD, L2.Dm.ltT_i, L2.Dm.ltT_s, addD, subD, mulD, fdivD, modD, powD, ltD, leD, gtD, geD, eqB, neB, isB, isnB, inB, ninB, addI, lenD, absD, maxD, minD, divmodD, intD, listD, tupleD, sumD, allB, anyB, maxL, maxA, maxT, minL, isinA, ixA, tabIx, tabIn, L2.at0, L2.at1, L2.at2, at3, at4, xYes, wipeA, List.map_cons, List.map_nil, List.length_cons, List.length_nil, List.replicate, List.cons_append, List.nil_append, List.append_nil, List.set_cons_zero, List.set_cons_succ, List.getElem?_cons_zero, List.getElem?_cons_succ, Nat.reduceAdd, Nat.reduceSub, Nat.reduceLeDiff, Nat.reduceLT, Nat.reduceEqDiff, if_true, if_false, Bool.not_true, Bool.not_false, Bool.false_eq_true, reduceIte, Option.map_some, Option.map_none, reduceCtorEq, decide_true, decide_false, Bool.and_true, Bool.true_and, Bool.and_false, Bool.false_and, Bool.or_true, Bool.true_or, Bool.or_false, Bool.false_or, and_self, and_true, true_and, Nat.zero_add]
theorem law_cells (ns : List Int) : ∀ (ks : List Nat) (h : AH) (v1 v2 v3 v4 v5 v6 v7 v8 : Option AV), (∀ k ∈ ks, k < 1000) → h[0]? = some (.tab "law") → ∃ w1 w2 w3 w4 w5 w6 w7 w8 h', forL (fun _ => true) (gN 1) b4_law (ks.map fun k => .d (.int (k : Nat))) [some (.d (.list (ns.map PyData.int))), v1, v2, v3, v4, v5, v6, v7, v8] h = some (.nx, [some (.d (.list (ns.map PyData.int))), w1, w2, w3, w4, w5, w6, w7, w8], h')
  | [], h, v1, v2, v3, v4, v5, v6, v7, v8, _, _ => ⟨v1, v2, v3, v4, v5, v6, v7, v8, h, by simp [forL]⟩
  | k :: ks, h, v1, v2, v3, v4, v5, v6, v7, v8, hk, h0 => by
    obtain ⟨w2, w3, w4, w5, w6, w7, w8, h1, e, h0'⟩ := law_cell ns k (hk k (List.mem_cons_self ..)) h h0 v2 v3 v4 v5 v6 v7 v8
    obtain ⟨u1, u2, u3, u4, u5, u6, u7, u8, h2, e2⟩ := law_cells ns ks h1 (some (.d (.int (k : Nat)))) w2 w3 w4 w5 w6 w7 w8 (fun x hx => hk x (List.mem_cons_of_mem _ hx)) h0'
    refine ⟨u1, u2, u3, u4, u5, u6, u7, u8, h2, ?_⟩
    simp only [List.map_cons, forL, if_true, gN, List.set_cons_succ, List.set_cons_zero, e]
    exact e2
theorem law_true (ns : List Int) (hn : ns.length ≤ 63) : ∃ h', F_law [.d (.list (ns.map PyData.int))] [AO.tab "law"] = some (.d (.bool true), h') := by
  obtain ⟨m, hm, m1, m2⟩ : ∃ m : Int, (if (if (4 : Int) < (ns.length : Nat) then 4 else ((ns.length : Nat) : Int)) > 1 then (if (4 : Int) < (ns.length : Nat) then 4 else ((ns.length : Nat) : Int)) else 1) = m ∧ 0 ≤ m ∧ m ≤ 4 := ⟨_, rfl, by split <;> split <;> omega, by split <;> split <;> omega⟩
  have sm : smR m := ⟨by omega, by omega⟩
  have er : rangeD 0 m.toNat = (List.range m.toNat).map fun k => .d (.int (k : Nat)) := by
    unfold rangeD
    exact List.map_congr_left fun k _ => by rw [Int.zero_add]
  obtain ⟨w1, w2, w3, w4, w5, w6, w7, w8, h', e⟩ := law_cells ns (List.range m.toNat) [AO.tab "law"] none none none none none none none none (fun k hk => by simp at hk; omega) rfl
  have d1 : ∀ h, F_date_of [.d (.int 0)] h = some (.d (dateD 0), h) := fun h => f_date (by decide) (by decide) h
  have d2 : ∀ h, F_date_of [.d (.int 399)] h = some (.d (dateD 399), h) := fun h => f_date (by decide) (by decide) h
  have d3 : ∀ h, F_date_of [.d (.int 9999)] h = some (.d (dateD 9999), h) := fun h => f_date (by decide) (by decide) h
  have d4 : ∀ h, F_date_of [.d (.int 29)] h = some (.d (dateD 29), h) := fun h => f_date (by decide) (by decide) h
  have d5 : ∀ h, F_date_of [.d (.int 30)] h = some (.d (dateD 30), h) := fun h => f_date (by decide) (by decide) h
  have q : eqD (.list [dateD 0, dateD 399, dateD 9999, dateD 29, dateD 30]) (.list [.tuple [.int 0, .int 1, .int 1], .tuple [.int 1, .int 2, .int 10], .tuple [.int 27, .int 10, .int 10], .tuple [.int 0, .int 1, .int 30], .tuple [.int 0, .int 2, .int 1]]) = some true := by decide +kernel
  have s5 : (5 : Nat) ≤ sizeLine := by decide
  refine ⟨h', ?_⟩
  unfold F_law B_law
  simp only [d1, d2, d3, d4, d5, q, s5, List.length_map, hm, sm, er, e, fnF, eqB2, sSeq, sNil, sPass, sBreak, sCont, sNever, sRet, sRetN, sExpr, sIf, sSet, sPar, sAsg, sAug, gN, gT, gsCons, gsNil, gS, setA, sAugS, getA, sFor, xSeq, srcA, xRng1, xRng2, xEnum, xZip, xListZip, srcB, xV, xC, L2.Dm.x1, L2.Dm.x2, op2, view, negA, xT, truD, xB, xCh, xAnd, xOr, xNot, xNotV, xIf, xAndV, xOrV, xNil, xCons, xTup, xLst, xLstM, allD, toD, xCall, L2.Dm.c1, L2.Dm.c2, xFn, xFnK, xFnD, xFnV, xMt, appendR, xSl, xO0, xO1, slD, L2.Dm.ltT_i, L2.Dm.ltT_s, addD, subD, mulD, fdivD, modD, powD, ltD, leD, gtD, geD, eqB, neB, isB, isnB, inB, ninB, addI, lenD, absD, maxD, minD, divmodD, intD, listD, tupleD, sumD, allB, anyB, maxL, maxA, maxT, minL, isinA, ixA, tabIx, tabIn, L2.at0, L2.at1, L2.at2, at3, at4, xYes, wipeA, List.map_cons, List.map_nil, List.length_cons, List.length_nil, List.replicate, List.cons_append, List.nil_append, List.append_nil, List.set_cons_zero, List.set_cons_succ, List.getElem?_cons_zero, List.getElem?_cons_succ, Nat.reduceAdd, Nat.reduceSub, Nat.reduceLeDiff, Nat.reduceLT, Nat.reduceEqDiff, if_true, if_false, Bool.not_true, Bool.not_false, Bool.false_eq_true, reduceIte, Option.map_some, Option.map_none, reduceCtorEq, decide_true, decide_false, Bool.and_true, Bool.true_and, Bool.and_false, Bool.false_and, Bool.or_true, Bool.true_or, Bool.or_false, Bool.false_or, and_self, and_true, true_and, Nat.zero_add]
end My
set_option Elab.async false
set_option linter.all false
set_option maxRecDepth 100000
set_option maxHeartbeats 4000000
namespace My
open PySem L2 L2.Dm
def top (i : Nat) : Stmt := PySem.Challenge.pw_coinlaw_k01_days_and_dates.main.body.getD i (.Pass ⟨0, 0, 0, 0⟩)
abbrev N_is_whole : List Str := ["thing"]
abbrev P_is_whole : List Str := ["thing"]
theorem sc_is_whole : FnScope N_is_whole P_is_whole (defScope (top 39)) := ⟨rfl, rfl, rfl, by decide +kernel, rfl, by decide +kernel, by decide +kernel⟩
abbrev N_is_within : List Str := ["thing", "least", "most"]
abbrev P_is_within : List Str := ["thing", "least", "most"]
theorem sc_is_within : FnScope N_is_within P_is_within (defScope (top 40)) := ⟨rfl, rfl, rfl, by decide +kernel, rfl, by decide +kernel, by decide +kernel⟩
abbrev N_is_tuple_of : List Str := ["thing", "least", "most"]
abbrev P_is_tuple_of : List Str := ["thing", "least", "most"]
theorem sc_is_tuple_of : FnScope N_is_tuple_of P_is_tuple_of (defScope (top 41)) := ⟨rfl, rfl, rfl, by decide +kernel, rfl, by decide +kernel, by decide +kernel⟩
abbrev N_is_day : List Str := ["thing"]
abbrev P_is_day : List Str := ["thing"]
theorem sc_is_day : FnScope N_is_day P_is_day (defScope (top 46)) := ⟨rfl, rfl, rfl, by decide +kernel, rfl, by decide +kernel, by decide +kernel⟩
abbrev N_refuse_no_day : List Str := ["thing"]
abbrev P_refuse_no_day : List Str := ["thing"]
theorem sc_refuse_no_day : FnScope N_refuse_no_day P_refuse_no_day (defScope (top 47)) := ⟨rfl, rfl, rfl, by decide +kernel, rfl, by decide +kernel, by decide +kernel⟩
abbrev N_date_of : List Str := ["day", "months", "days", "year", "month"]
abbrev P_date_of : List Str := ["day"]
theorem sc_date_of : FnScope N_date_of P_date_of (defScope (top 48)) := ⟨rfl, rfl, rfl, by decide +kernel, rfl, by decide +kernel, by decide +kernel⟩
abbrev N_is_calendar_date : List Str := ["thing", "year", "month", "days"]
abbrev P_is_calendar_date : List Str := ["thing"]
theorem sc_is_calendar_date : FnScope N_is_calendar_date P_is_calendar_date (defScope (top 50)) := ⟨rfl, rfl, rfl, by decide +kernel, rfl, by decide +kernel, by decide +kernel⟩
abbrev N_day_of : List Str := ["date", "year", "month", "days", "day"]
abbrev P_day_of : List Str := ["date"]
theorem sc_day_of : FnScope N_day_of P_day_of (defScope (top 49)) := ⟨rfl, rfl, rfl, by decide +kernel, rfl, by decide +kernel, by decide +kernel⟩
abbrev N_law_box : List Str := ["_law_script", "_law_k", "_law_here", "_law_number", "_law_j", "_law_piece"]
abbrev P_law_box : List Str := ["_law_script", "_law_k"]
theorem sc_law_box : FnScope N_law_box P_law_box (defScope (top 52)) := ⟨rfl, rfl, rfl, by decide +kernel, rfl, by decide +kernel, by decide +kernel⟩
abbrev N_law_more : List Str := ["_law_box_here", "_law_number", "_law_j"]
abbrev P_law_more : List Str := ["_law_box_here"]
theorem sc_law_more : FnScope N_law_more P_law_more (defScope (top 53)) := ⟨rfl, rfl, rfl, by decide +kernel, rfl, by decide +kernel, by decide +kernel⟩
abbrev N_law_take : List Str := ["_law_box_here", "_law_count", "_law_rest_of", "_law_digit"]
abbrev P_law_take : List Str := ["_law_box_here", "_law_count"]
theorem sc_law_take : FnScope N_law_take P_law_take (defScope (top 54)) := ⟨rfl, rfl, rfl, by decide +kernel, rfl, by decide +kernel, by decide +kernel⟩
abbrev N_law_word_of : List Str := ["_law_e", "_law_none", "_law_late", "_law_words"]
abbrev P_law_word_of : List Str := ["_law_e"]
theorem sc_law_word_of : FnScope N_law_word_of P_law_word_of (defScope (top 55)) := ⟨rfl, rfl, rfl, by decide +kernel, rfl, by decide +kernel, by decide +kernel⟩
abbrev N_law_date : List Str := ["_law_day", "_law_year", "_law_month", "_law_left"]
abbrev P_law_date : List Str := ["_law_day"]
theorem sc_law_date : FnScope N_law_date P_law_date (defScope (top 57)) := ⟨rfl, rfl, rfl, by decide +kernel, rfl, by decide +kernel, by decide +kernel⟩
abbrev N_law_said : List Str := ["_law_call", "_law_e"]
abbrev P_law_said : List Str := ["_law_call"]
theorem sc_law_said : FnScope N_law_said P_law_said (defScope (top 56)) := ⟨rfl, rfl, rfl, by decide +kernel, rfl, by decide +kernel, by decide +kernel⟩
abbrev N_law : List Str := ["_law_script", "_law_k", "_law_box_here", "_law_turn", "_law_day", "_law_due", "_law_bad", "_law_some", "_law_kept"]
abbrev P_law : List Str := ["_law_script"]
theorem sc_law : FnScope N_law P_law (defScope (top 58)) := ⟨rfl, rfl, rfl, by decide +kernel, rfl, by decide +kernel, by decide +kernel⟩
structure Txt (K : PySem.W.Frag) (mg : Str → Option Value) : Prop where
  d_is_whole : FD K mg "is_whole" (top 39) P_is_whole
  d_is_within : FD K mg "is_within" (top 40) P_is_within
  d_is_tuple_of : FD K mg "is_tuple_of" (top 41) P_is_tuple_of
  d_is_day : FD K mg "is_day" (top 46) P_is_day
  d_refuse_no_day : FD K mg "refuse_no_day" (top 47) P_refuse_no_day
  d_date_of : FD K mg "date_of" (top 48) P_date_of
  d_is_calendar_date : FD K mg "is_calendar_date" (top 50) P_is_calendar_date
  d_day_of : FD K mg "day_of" (top 49) P_day_of
  d_law_box : FD K mg "_law_box" (top 52) P_law_box
  d_law_more : FD K mg "_law_more" (top 53) P_law_more
  d_law_take : FD K mg "_law_take" (top 54) P_law_take
  d_law_word_of : FD K mg "_law_word_of" (top 55) P_law_word_of
  d_law_date : FD K mg "_law_date" (top 57) P_law_date
  d_law_said : FD K mg "_law_said" (top 56) P_law_said
  c_LAST_DAY : ∃ t, mg "LAST_DAY" = some (.int 9999 t)
  c_MONTH_DAYS : ∃ t, mg "MONTH_DAYS" = some (.int 30 t)
  c_YEAR_MONTHS : ∃ t, mg "YEAR_MONTHS" = some (.int 12 t)
  m_Early : ∃ f, mg "Early" = some (.ref f)
  m_NoAccount : ∃ f, mg "NoAccount" = some (.ref f)
  m_NoBands : ∃ f, mg "NoBands" = some (.ref f)
  m_NoBill : ∃ f, mg "NoBill" = some (.ref f)
  m_NoBook : ∃ f, mg "NoBook" = some (.ref f)
  m_NoCode : ∃ f, mg "NoCode" = some (.ref f)
  m_NoCoins : ∃ f, mg "NoCoins" = some (.ref f)
  m_NoCustom : ∃ f, mg "NoCustom" = some (.ref f)
  m_NoDate : ∃ f, mg "NoDate" = some (.ref f)
  m_NoDay : ∃ f, mg "NoDay" = some (.ref f)
  m_NoDays : ∃ f, mg "NoDays" = some (.ref f)
  m_NoDebts : ∃ f, mg "NoDebts" = some (.ref f)
  m_NoGoal : ∃ f, mg "NoGoal" = some (.ref f)
  m_NoHouse : ∃ f, mg "NoHouse" = some (.ref f)
  m_NoLine : ∃ f, mg "NoLine" = some (.ref f)
  m_NoLoan : ∃ f, mg "NoLoan" = some (.ref f)
  m_NoMonths : ∃ f, mg "NoMonths" = some (.ref f)
  m_NoNumber : ∃ f, mg "NoNumber" = some (.ref f)
  m_NoPart : ∃ f, mg "NoPart" = some (.ref f)
  m_NoPer : ∃ f, mg "NoPer" = some (.ref f)
  m_NoPerson : ∃ f, mg "NoPerson" = some (.ref f)
  m_NoPostings : ∃ f, mg "NoPostings" = some (.ref f)
  m_NoRoad : ∃ f, mg "NoRoad" = some (.ref f)
  m_NoRows : ∃ f, mg "NoRows" = some (.ref f)
  m_NoRules : ∃ f, mg "NoRules" = some (.ref f)
  m_NoStep : ∃ f, mg "NoStep" = some (.ref f)
  m_NoTable : ∃ f, mg "NoTable" = some (.ref f)
  m_NoText : ∃ f, mg "NoText" = some (.ref f)
  m_NoThing : ∃ f, mg "NoThing" = some (.ref f)
  m_NoWay : ∃ f, mg "NoWay" = some (.ref f)
  m_NoWeights : ∃ f, mg "NoWeights" = some (.ref f)
  m_NotNow : ∃ f, mg "NotNow" = some (.ref f)
  m_Nothing : ∃ f, mg "Nothing" = some (.ref f)
  m_Open : ∃ f, mg "Open" = some (.ref f)
  m_Over : ∃ f, mg "Over" = some (.ref f)
  m_Short : ∃ f, mg "Short" = some (.ref f)
  e_NoDate : ∃ C, ExcK K mg "NoDate" C
  e_NoDay : ∃ C, ExcK K mg "NoDay" C
  isE : IsE K mg excT_
  sub : ∀ X : Cx, X.K = K → X.mg = mg → SubOk X "CoinError" fun c => raised_.contains c
  n_ValueError : mg "ValueError" = none
  n_abs : mg "abs" = none
  n_bool : mg "bool" = none
  n_divmod : mg "divmod" = none
  n_int : mg "int" = none
  n_isinstance : mg "isinstance" = none
  n_len : mg "len" = none
  n_max : mg "max" = none
  n_min : mg "min" = none
  n_range : mg "range" = none
  n_repr : mg "repr" = none
  n_tuple : mg "tuple" = none
theorem ok_is_whole {P : Program} {w : World} {K : PySem.W.Frag} {mg : Str → Option Value} {base : Heap} (T : Txt K mg) : FP P w K mg base 1 "is_whole" P_is_whole (spF K mg 1 F_is_whole) :=
  fd_ok T.d_is_whole sc_is_whole rfl rfl fun f cdv A outer s H E hr =>
      (dss_one (ds_ret (de_and (de_callB b_isin (by rfl) T.n_isinstance (by decide +kernel) (da_c (de_v (pv 0)) (da_c (de_ty (by rfl) T.n_int (by decide +kernel)) da_nil))) (de_one (de_not (de_callB b_isin (by rfl) T.n_isinstance (by decide +kernel) (da_c (de_v (pv 0)) (da_c (de_ty (by rfl) T.n_bool (by decide +kernel)) da_nil))))))))
theorem ok_is_within {P : Program} {w : World} {K : PySem.W.Frag} {mg : Str → Option Value} {base : Heap} (T : Txt K mg) : FP P w K mg base 2 "is_within" P_is_within (spF K mg 3 F_is_within) :=
  fd_ok T.d_is_within sc_is_within rfl rfl fun f cdv A outer s H E hr =>
      (dss_one (ds_ret (de_and (de_fnF (ok_is_whole T) (hr.mono (by decide)) (by rfl) (da_c (de_v (pv 0)) da_nil)) (de_one (de_chain o_le o_le (de_v (pv 1)) (de_v (pv 0)) (de_v (pv 2)))))))
theorem ok_is_tuple_of {P : Program} {w : World} {K : PySem.W.Frag} {mg : Str → Option Value} {base : Heap} (T : Txt K mg) : FP P w K mg base 1 "is_tuple_of" P_is_tuple_of (spF K mg 3 F_is_tuple_of) :=
  fd_ok T.d_is_tuple_of sc_is_tuple_of rfl rfl fun f cdv A outer s H E hr =>
      (dss_one (ds_ret (de_and (de_callB b_isin (by rfl) T.n_isinstance (by decide +kernel) (da_c (de_v (pv 0)) (da_c (de_ty (by rfl) T.n_tuple (by decide +kernel)) da_nil))) (de_one (de_chain o_le o_le (de_v (pv 1)) (de_callB b_len (by rfl) T.n_len (by decide +kernel) (da_c (de_v (pv 0)) da_nil)) (de_v (pv 2)))))))
theorem ok_is_day {P : Program} {w : World} {K : PySem.W.Frag} {mg : Str → Option Value} {base : Heap} (T : Txt K mg) : FP P w K mg base 3 "is_day" P_is_day (spF K mg 1 F_is_day) :=
  fd_ok T.d_is_day sc_is_day rfl rfl fun f cdv A outer s H E hr =>
      (dss_one (ds_ret (de_fnF (ok_is_within T) (hr.mono (by decide)) (by rfl) (da_c (de_v (pv 0)) (da_c de_int (da_c (de_gi (by rfl) T.c_LAST_DAY) da_nil))))))
theorem okR_refuse_no_day {P : Program} {w : World} {K : PySem.W.Frag} {mg : Str → Option Value} {base : Heap} (T : Txt K mg) : FPR P w K mg base 4 "refuse_no_day" P_refuse_no_day (spR K mg 1 R_refuse_no_day) :=
  fd_okR T.d_refuse_no_day sc_refuse_no_day rfl rfl fun f cdv A outer s H E hr => (rss_one (rs_if (dt_not (dt_val (de_fnF (ok_is_day T) (hr.mono (by decide)) (by rfl) (da_c (de_v (pv 0)) da_nil)))) (rss_one (rs_raise rfl T.e_NoDay (by rfl))) rss_no))
theorem ok_refuse_no_day {P : Program} {w : World} {K : PySem.W.Frag} {mg : Str → Option Value} {base : Heap} (T : Txt K mg) : FP P w K mg base 4 "refuse_no_day" P_refuse_no_day (spF K mg 1 F_refuse_no_day) :=
  fd_ok T.d_refuse_no_day sc_refuse_no_day rfl rfl fun f cdv A outer s H E hr =>
      (dss_one (ds_if (dt_not (dt_val (de_fnF (ok_is_day T) (hr.mono (by decide)) (by rfl) (da_c (de_v (pv 0)) da_nil))))       (dss_one ds_never)       dss_nil))
theorem okR_date_of {P : Program} {w : World} {K : PySem.W.Frag} {mg : Str → Option Value} {base : Heap} (T : Txt K mg) : FPR P w K mg base 5 "date_of" P_date_of (spR K mg 1 R_date_of) :=
  fd_okR T.d_date_of sc_date_of rfl rfl fun f cdv A outer s H E hr => (rss_last (rs_expr (re_call (okR_refuse_no_day T) (hr.mono (by decide)) (by rfl) (da_c (de_v (pv 0)) da_nil))))
theorem ok_date_of {P : Program} {w : World} {K : PySem.W.Frag} {mg : Str → Option Value} {base : Heap} (T : Txt K mg) : FP P w K mg base 5 "date_of" P_date_of (spF K mg 1 F_date_of) :=
  fd_ok T.d_date_of sc_date_of rfl rfl fun f cdv A outer s H E hr =>
      (by refine dss_cons ?_ ?_; exact (ds_expr (de_fnF (ok_refuse_no_day T) (hr.mono (by decide)) (by rfl) (da_c (de_v (pv 0)) da_nil))); exact (by refine dss_cons ?_ ?_; exact (ds_asg (de_callB b_divmod (by rfl) T.n_divmod (by decide +kernel) (da_c (de_v (pv 0)) (da_c (de_gi (by rfl) T.c_MONTH_DAYS) da_nil))) (dg_tup (n := 2) (by rfl) (dgs_cons (dg_name (i := 1) sc_date_of.nd rfl (by first | exact Or.inl rfl | exact Or.inr rfl)) (dgs_cons (dg_name (i := 2) sc_date_of.nd rfl (by first | exact Or.inl rfl | exact Or.inr rfl)) dgs_nil)))); exact (by refine dss_cons ?_ ?_; exact (ds_asg (de_callB b_divmod (by rfl) T.n_divmod (by decide +kernel) (da_c (de_v (pv 1)) (da_c (de_gi (by rfl) T.c_YEAR_MONTHS) da_nil))) (dg_tup (n := 2) (by rfl) (dgs_cons (dg_name (i := 3) sc_date_of.nd rfl (by first | exact Or.inl rfl | exact Or.inr rfl)) (dgs_cons (dg_name (i := 4) sc_date_of.nd rfl (by first | exact Or.inl rfl | exact Or.inr rfl)) dgs_nil)))); exact (dss_one (ds_ret (de_tup (da_c (de_v (pv 3)) (da_c (de_op o_add (de_v (pv 4)) de_int) (da_c (de_op o_add (de_v (pv 2)) de_int) da_nil)))))))))
theorem ok_is_calendar_date {P : Program} {w : World} {K : PySem.W.Frag} {mg : Str → Option Value} {base : Heap} (T : Txt K mg) : FP P w K mg base 3 "is_calendar_date" P_is_calendar_date (spF K mg 1 F_is_calendar_date) :=
  fd_ok T.d_is_calendar_date sc_is_calendar_date rfl rfl fun f cdv A outer s H E hr =>
      (by refine dss_cons ?_ ?_; exact (ds_if (dt_not (dt_val (de_fnF (ok_is_tuple_of T) (hr.mono (by decide)) (by rfl) (da_c (de_v (pv 0)) (da_c de_int (da_c de_int da_nil))))))       (dss_one (ds_ret de_bl))       dss_nil); exact (by refine dss_cons ?_ ?_; exact (ds_asg (de_v (pv 0)) (dg_tup (n := 3) (by rfl) (dgs_cons (dg_name (i := 1) sc_is_calendar_date.nd rfl (by first | exact Or.inl rfl | exact Or.inr rfl)) (dgs_cons (dg_name (i := 2) sc_is_calendar_date.nd rfl (by first | exact Or.inl rfl | exact Or.inr rfl)) (dgs_cons (dg_name (i := 3) sc_is_calendar_date.nd rfl (by first | exact Or.inl rfl | exact Or.inr rfl)) dgs_nil))))); exact (dss_one (ds_ret (de_and (de_fnF (ok_is_whole T) (hr.mono (by decide)) (by rfl) (da_c (de_v (pv 1)) da_nil)) (de_and (de_fnF (ok_is_within T) (hr.mono (by decide)) (by rfl) (da_c (de_v (pv 2)) (da_c de_int (da_c (de_gi (by rfl) T.c_YEAR_MONTHS) da_nil)))) (de_one (de_fnF (ok_is_within T) (hr.mono (by decide)) (by rfl) (da_c (de_v (pv 3)) (da_c de_int (da_c (de_gi (by rfl) T.c_MONTH_DAYS) da_nil)))))))))))
theorem okR_day_of {P : Program} {w : World} {K : PySem.W.Frag} {mg : Str → Option Value} {base : Heap} (T : Txt K mg) : FPR P w K mg base 4 "day_of" P_day_of (spR K mg 1 R_day_of) :=
  fd_okR T.d_day_of sc_day_of rfl rfl fun f cdv A outer s H E hr => (by refine rss_cons ?_ ?_ ?_; exact (ds_if (dt_not (dt_val (de_fnF (ok_is_calendar_date T) (hr.mono (by decide)) (by rfl) (da_c (de_v (pv 0)) da_nil))))       (dss_one ds_never)       dss_nil); exact (rs_if (dt_not (dt_val (de_fnF (ok_is_calendar_date T) (hr.mono (by decide)) (by rfl) (da_c (de_v (pv 0)) da_nil)))) (rss_one (rs_raise rfl T.e_NoDate (by rfl))) rss_no); exact (by refine rss_cons ?_ ?_ ?_; exact (ds_asg (de_v (pv 0)) (dg_tup (n := 3) (by rfl) (dgs_cons (dg_name (i := 1) sc_day_of.nd rfl (by first | exact Or.inl rfl | exact Or.inr rfl)) (dgs_cons (dg_name (i := 2) sc_day_of.nd rfl (by first | exact Or.inl rfl | exact Or.inr rfl)) (dgs_cons (dg_name (i := 3) sc_day_of.nd rfl (by first | exact Or.inl rfl | exact Or.inr rfl)) dgs_nil))))); exact rs_no; exact (by refine rss_cons ?_ ?_ ?_; exact (ds_set (i := 4) sc_day_of.nd rfl (by first | exact Or.inl rfl | exact Or.inr rfl) (de_op o_sub (de_op o_add (de_op o_mul (de_op o_sub (de_op o_add (de_op o_mul (de_v (pv 1)) (de_gi (by rfl) T.c_YEAR_MONTHS)) (de_v (pv 2))) de_int) (de_gi (by rfl) T.c_MONTH_DAYS)) (de_v (pv 3))) de_int)); exact rs_no; exact (rss_last (rs_if (dt_not (dt_val (de_fnF (ok_is_day T) (hr.mono (by decide)) (by rfl) (da_c (de_v (pv 4)) da_nil)))) (rss_one (rs_raise rfl T.e_NoDate (by rfl))) rss_no)))))
theorem ok_day_of {P : Program} {w : World} {K : PySem.W.Frag} {mg : Str → Option Value} {base : Heap} (T : Txt K mg) : FP P w K mg base 4 "day_of" P_day_of (spF K mg 1 F_day_of) :=
  fd_ok T.d_day_of sc_day_of rfl rfl fun f cdv A outer s H E hr =>
      (by refine dss_cons ?_ ?_; exact (ds_if (dt_not (dt_val (de_fnF (ok_is_calendar_date T) (hr.mono (by decide)) (by rfl) (da_c (de_v (pv 0)) da_nil))))       (dss_one ds_never)       dss_nil); exact (by refine dss_cons ?_ ?_; exact (ds_asg (de_v (pv 0)) (dg_tup (n := 3) (by rfl) (dgs_cons (dg_name (i := 1) sc_day_of.nd rfl (by first | exact Or.inl rfl | exact Or.inr rfl)) (dgs_cons (dg_name (i := 2) sc_day_of.nd rfl (by first | exact Or.inl rfl | exact Or.inr rfl)) (dgs_cons (dg_name (i := 3) sc_day_of.nd rfl (by first | exact Or.inl rfl | exact Or.inr rfl)) dgs_nil))))); exact (by refine dss_cons ?_ ?_; exact (ds_set (i := 4) sc_day_of.nd rfl (by first | exact Or.inl rfl | exact Or.inr rfl) (de_op o_sub (de_op o_add (de_op o_mul (de_op o_sub (de_op o_add (de_op o_mul (de_v (pv 1)) (de_gi (by rfl) T.c_YEAR_MONTHS)) (de_v (pv 2))) de_int) (de_gi (by rfl) T.c_MONTH_DAYS)) (de_v (pv 3))) de_int)); exact (by refine dss_cons ?_ ?_; exact (ds_if (dt_not (dt_val (de_fnF (ok_is_day T) (hr.mono (by decide)) (by rfl) (da_c (de_v (pv 4)) da_nil))))       (dss_one ds_never)       dss_nil); exact (dss_one (ds_ret (de_v (pv 4))))))))
theorem ok_law_box {P : Program} {w : World} {K : PySem.W.Frag} {mg : Str → Option Value} {base : Heap} (T : Txt K mg) : FP P w K mg base 1 "_law_box" P_law_box (spF K mg 2 F_law_box) :=
  fd_ok T.d_law_box sc_law_box rfl rfl fun f cdv A outer s H E hr =>
      (by refine dss_cons ?_ ?_; exact (ds_set (i := 2) sc_law_box.nd rfl (by first | exact Or.inl rfl | exact Or.inr rfl) (de_op o_add (de_op o_mul de_int (de_v (pv 1))) de_int)); exact (by refine dss_cons ?_ ?_; exact (ds_if (dt_cmp (o_ltT (hu0 hr)) (de_v (pv 1)) (de_callB b_len (by rfl) T.n_len (by decide +kernel) (da_c (de_v (pv 0)) da_nil)) (nomark _))       (dss_one (ds_set (i := 2) sc_law_box.nd rfl (by first | exact Or.inl rfl | exact Or.inr rfl) (by refine de_ix ?_ ?_ ?_ ?_; exact (hu_of hr); exact (de_v (pv 0)); exact (de_v (pv 1)); exact (fun _ _ => rfl))))       dss_nil); exact (by refine dss_cons ?_ ?_; exact (ds_if (dt_cmp (o_eq (hu64 hr)) (de_op o_mod (de_v (pv 2)) de_int) de_int (nomark _))       (dss_one (ds_ret (de_lstM (da_c (de_op o_fdiv (de_v (pv 2)) de_int) (da_c (de_op o_mod (de_callB b_abs (by rfl) T.n_abs (by decide +kernel) (da_c (de_v (pv 2)) da_nil)) de_int) da_nil)))))       dss_nil); exact (by refine dss_cons ?_ ?_; exact (ds_set (i := 3) sc_law_box.nd rfl (by first | exact Or.inl rfl | exact Or.inr rfl) de_int); exact (by refine dss_cons ?_ ?_; exact (ds_for PassesOwn.never (by rfl) (di_range1 (by rfl) T.n_range (da_c de_int da_nil)) (dg_name (i := 4) sc_law_box.nd rfl (by first | exact Or.inl rfl | exact Or.inr rfl))       (by refine dss_cons ?_ ?_; exact (ds_set (i := 5) sc_law_box.nd rfl (by first | exact Or.inl rfl | exact Or.inr rfl) (de_op o_mod (de_op o_add (de_op o_add (de_op o_mul (de_op o_mod (de_v (pv 2)) de_int) de_int) (de_op o_mul de_int (de_v (pv 4)))) de_int) de_int)); exact (by refine dss_cons ?_ ?_; exact (ds_set (i := 5) sc_law_box.nd rfl (by first | exact Or.inl rfl | exact Or.inr rfl) (de_op o_mod (de_op o_mul (de_v (pv 5)) (de_v (pv 5))) de_int)); exact (dss_one (ds_set (i := 3) sc_law_box.nd rfl (by first | exact Or.inl rfl | exact Or.inr rfl) (de_op o_add (de_op o_mul (de_v (pv 3)) de_int) (de_op o_mod (de_op o_mul (de_v (pv 5)) (de_op o_add (de_v (pv 5)) de_int)) de_int))))))); exact (dss_one (ds_ret (de_lstM (da_c (de_v (pv 3)) (da_c (de_op o_mod (de_callB b_abs (by rfl) T.n_abs (by decide +kernel) (da_c (de_v (pv 2)) da_nil)) de_int) da_nil))))))))))
theorem ok_law_more {P : Program} {w : World} {K : PySem.W.Frag} {mg : Str → Option Value} {base : Heap} (T : Txt K mg) : FP P w K mg base 1 "_law_more" P_law_more (spF K mg 1 F_law_more) :=
  fd_ok T.d_law_more sc_law_more rfl rfl fun f cdv A outer s H E hr =>
      (by refine dss_cons ?_ ?_; exact (ds_set (i := 1) sc_law_more.nd rfl (by first | exact Or.inl rfl | exact Or.inr rfl) de_int); exact (by refine dss_cons ?_ ?_; exact (ds_for PassesOwn.never (by rfl) (di_range1 (by rfl) T.n_range (da_c de_int da_nil)) (dg_name (i := 2) sc_law_more.nd rfl (by first | exact Or.inl rfl | exact Or.inr rfl))       (by refine dss_cons ?_ ?_; exact (ds_asg (de_op o_mod (de_op o_add (de_op o_mul (by refine de_ix ?_ ?_ ?_ ?_; exact (hu_of hr); exact (de_v (pv 0)); exact de_int; exact (fun _ _ => rfl)) de_int) de_int) de_int) (dg_sub (de_v (pv 0)) de_int)); exact (dss_one (ds_set (i := 1) sc_law_more.nd rfl (by first | exact Or.inl rfl | exact Or.inr rfl) (de_op o_add (de_op o_mul (de_v (pv 1)) de_int) (de_op o_mod (de_op o_fdiv (by refine de_ix ?_ ?_ ?_ ?_; exact (hu_of hr); exact (de_v (pv 0)); exact de_int; exact (fun _ _ => rfl)) de_int) de_int)))))); exact (dss_one (ds_ret (de_v (pv 1))))))
theorem ok_law_take {P : Program} {w : World} {K : PySem.W.Frag} {mg : Str → Option Value} {base : Heap} (T : Txt K mg) : FP P w K mg base 2 "_law_take" P_law_take (spF K mg 2 F_law_take) :=
  fd_ok T.d_law_take sc_law_take rfl rfl fun f cdv A outer s H E hr =>
      (by refine dss_cons ?_ ?_; exact (ds_if (dt_chain o_le (o_ltT (hu0 hr)) de_int (by refine de_ix ?_ ?_ ?_ ?_; exact (hu_of hr); exact (de_v (pv 0)); exact de_int; exact (fun _ _ => rfl)) (de_v (pv 1)))       (dss_one (ds_asg (de_op o_add (by refine de_ix ?_ ?_ ?_ ?_; exact (hu_of hr); exact (de_v (pv 0)); exact de_int; exact (fun _ _ => rfl)) (de_op o_mul (de_v (pv 1)) (de_fnF (ok_law_more T) (hr.mono (by decide)) (by rfl) (da_c (de_v (pv 0)) da_nil)))) (dg_sub (de_v (pv 0)) de_int)))       dss_nil); exact (by refine dss_cons ?_ ?_; exact (ds_asg (de_callB b_divmod (by rfl) T.n_divmod (by decide +kernel) (da_c (by refine de_ix ?_ ?_ ?_ ?_; exact (hu_of hr); exact (de_v (pv 0)); exact de_int; exact (fun _ _ => rfl)) (da_c (de_v (pv 1)) da_nil))) (dg_tup (n := 2) (by rfl) (dgs_cons (dg_name (i := 2) sc_law_take.nd rfl (by first | exact Or.inl rfl | exact Or.inr rfl)) (dgs_cons (dg_name (i := 3) sc_law_take.nd rfl (by first | exact Or.inl rfl | exact Or.inr rfl)) dgs_nil)))); exact (by refine dss_cons ?_ ?_; exact (ds_asg (de_v (pv 2)) (dg_sub (de_v (pv 0)) de_int)); exact (dss_one (ds_ret (de_v (pv 3)))))))
theorem okN_law_word_of {P : Program} {w : World} {K : PySem.W.Frag} {mg : Str → Option Value} {base : Heap} (T : Txt K mg) : FPN P w K mg base 1 "_law_word_of" P_law_word_of (spF K mg 1 F_law_word_of) :=
  fd_okN T.d_law_word_of sc_law_word_of rfl rfl fun f cdv A outer s H hr => (by refine dss_cons ?_ ?_; exact (ds_set (i := 1) sc_law_word_of.nd rfl (by first | exact Or.inl rfl | exact Or.inr rfl) (de_lstM (da_c (de_callB (cr_or b_isin (b_isinE T.isE)) (by rfl) T.n_isinstance (by decide +kernel) (da_c (de_v (pv 0)) (da_c (de_fn (by rfl) T.m_NoDay) da_nil))) (da_c (de_callB (cr_or b_isin (b_isinE T.isE)) (by rfl) T.n_isinstance (by decide +kernel) (da_c (de_v (pv 0)) (da_c (de_fn (by rfl) T.m_NoDate) da_nil))) (da_c (de_callB (cr_or b_isin (b_isinE T.isE)) (by rfl) T.n_isinstance (by decide +kernel) (da_c (de_v (pv 0)) (da_c (de_fn (by rfl) T.m_NoRules) da_nil))) (da_c (de_callB (cr_or b_isin (b_isinE T.isE)) (by rfl) T.n_isinstance (by decide +kernel) (da_c (de_v (pv 0)) (da_c (de_fn (by rfl) T.m_NoNumber) da_nil))) da_nil)))))); exact (by refine dss_cons ?_ ?_; exact (ds_set (i := 1) sc_law_word_of.nd rfl (by first | exact Or.inl rfl | exact Or.inr rfl) (de_op o_addM (de_v (pv 1)) (de_lst (da_c (de_callB (cr_or b_isin (b_isinE T.isE)) (by rfl) T.n_isinstance (by decide +kernel) (da_c (de_v (pv 0)) (da_c (de_fn (by rfl) T.m_NoCustom) da_nil))) (da_c (de_callB (cr_or b_isin (b_isinE T.isE)) (by rfl) T.n_isinstance (by decide +kernel) (da_c (de_v (pv 0)) (da_c (de_fn (by rfl) T.m_NoStep) da_nil))) (da_c (de_callB (cr_or b_isin (b_isinE T.isE)) (by rfl) T.n_isinstance (by decide +kernel) (da_c (de_v (pv 0)) (da_c (de_fn (by rfl) T.m_NoCoins) da_nil))) (da_c (de_callB (cr_or b_isin (b_isinE T.isE)) (by rfl) T.n_isinstance (by decide +kernel) (da_c (de_v (pv 0)) (da_c (de_fn (by rfl) T.m_NoWeights) da_nil))) da_nil))))))); exact (by refine dss_cons ?_ ?_; exact (ds_set (i := 1) sc_law_word_of.nd rfl (by first | exact Or.inl rfl | exact Or.inr rfl) (de_op o_addM (de_v (pv 1)) (de_lst (da_c (de_callB (cr_or b_isin (b_isinE T.isE)) (by rfl) T.n_isinstance (by decide +kernel) (da_c (de_v (pv 0)) (da_c (de_fn (by rfl) T.m_NoWay) da_nil))) (da_c (de_callB (cr_or b_isin (b_isinE T.isE)) (by rfl) T.n_isinstance (by decide +kernel) (da_c (de_v (pv 0)) (da_c (de_fn (by rfl) T.m_NoTable) da_nil))) (da_c (de_callB (cr_or b_isin (b_isinE T.isE)) (by rfl) T.n_isinstance (by decide +kernel) (da_c (de_v (pv 0)) (da_c (de_fn (by rfl) T.m_NoCode) da_nil))) (da_c (de_callB (cr_or b_isin (b_isinE T.isE)) (by rfl) T.n_isinstance (by decide +kernel) (da_c (de_v (pv 0)) (da_c (de_fn (by rfl) T.m_NoRoad) da_nil))) da_nil))))))); exact (by refine dss_cons ?_ ?_; exact (ds_set (i := 1) sc_law_word_of.nd rfl (by first | exact Or.inl rfl | exact Or.inr rfl) (de_op o_addM (de_v (pv 1)) (de_lst (da_c (de_callB (cr_or b_isin (b_isinE T.isE)) (by rfl) T.n_isinstance (by decide +kernel) (da_c (de_v (pv 0)) (da_c (de_fn (by rfl) T.m_NoBill) da_nil))) (da_c (de_callB (cr_or b_isin (b_isinE T.isE)) (by rfl) T.n_isinstance (by decide +kernel) (da_c (de_v (pv 0)) (da_c (de_fn (by rfl) T.m_NoPer) da_nil))) (da_c (de_callB (cr_or b_isin (b_isinE T.isE)) (by rfl) T.n_isinstance (by decide +kernel) (da_c (de_v (pv 0)) (da_c (de_fn (by rfl) T.m_NoBands) da_nil))) (da_c (de_callB (cr_or b_isin (b_isinE T.isE)) (by rfl) T.n_isinstance (by decide +kernel) (da_c (de_v (pv 0)) (da_c (de_fn (by rfl) T.m_NoGoal) da_nil))) da_nil))))))); exact (by refine dss_cons ?_ ?_; exact (ds_set (i := 1) sc_law_word_of.nd rfl (by first | exact Or.inl rfl | exact Or.inr rfl) (de_op o_addM (de_v (pv 1)) (de_lst (da_c (de_callB (cr_or b_isin (b_isinE T.isE)) (by rfl) T.n_isinstance (by decide +kernel) (da_c (de_v (pv 0)) (da_c (de_fn (by rfl) T.m_NoLoan) da_nil))) (da_c (de_callB (cr_or b_isin (b_isinE T.isE)) (by rfl) T.n_isinstance (by decide +kernel) (da_c (de_v (pv 0)) (da_c (de_fn (by rfl) T.m_NoAccount) da_nil))) (da_c (de_callB (cr_or b_isin (b_isinE T.isE)) (by rfl) T.n_isinstance (by decide +kernel) (da_c (de_v (pv 0)) (da_c (de_fn (by rfl) T.m_NoText) da_nil))) (da_c (de_callB (cr_or b_isin (b_isinE T.isE)) (by rfl) T.n_isinstance (by decide +kernel) (da_c (de_v (pv 0)) (da_c (de_fn (by rfl) T.m_NoRows) da_nil))) da_nil))))))); exact (by refine dss_cons ?_ ?_; exact (ds_set (i := 1) sc_law_word_of.nd rfl (by first | exact Or.inl rfl | exact Or.inr rfl) (de_op o_addM (de_v (pv 1)) (de_lst (da_c (de_callB (cr_or b_isin (b_isinE T.isE)) (by rfl) T.n_isinstance (by decide +kernel) (da_c (de_v (pv 0)) (da_c (de_fn (by rfl) T.m_NoBook) da_nil))) (da_c (de_callB (cr_or b_isin (b_isinE T.isE)) (by rfl) T.n_isinstance (by decide +kernel) (da_c (de_v (pv 0)) (da_c (de_fn (by rfl) T.m_NoPart) da_nil))) (da_c (de_callB (cr_or b_isin (b_isinE T.isE)) (by rfl) T.n_isinstance (by decide +kernel) (da_c (de_v (pv 0)) (da_c (de_fn (by rfl) T.m_NoDebts) da_nil))) (da_c (de_callB (cr_or b_isin (b_isinE T.isE)) (by rfl) T.n_isinstance (by decide +kernel) (da_c (de_v (pv 0)) (da_c (de_fn (by rfl) T.m_NoPerson) da_nil))) da_nil))))))); exact (by refine dss_cons ?_ ?_; exact (ds_set (i := 1) sc_law_word_of.nd rfl (by first | exact Or.inl rfl | exact Or.inr rfl) (de_op o_addM (de_v (pv 1)) (de_lst (da_c (de_callB (cr_or b_isin (b_isinE T.isE)) (by rfl) T.n_isinstance (by decide +kernel) (da_c (de_v (pv 0)) (da_c (de_fn (by rfl) T.m_NoMonths) da_nil))) (da_c (de_callB (cr_or b_isin (b_isinE T.isE)) (by rfl) T.n_isinstance (by decide +kernel) (da_c (de_v (pv 0)) (da_c (de_fn (by rfl) T.m_NoDays) da_nil))) (da_c (de_callB (cr_or b_isin (b_isinE T.isE)) (by rfl) T.n_isinstance (by decide +kernel) (da_c (de_v (pv 0)) (da_c (de_fn (by rfl) T.m_NoHouse) da_nil))) (da_c (de_callB (cr_or b_isin (b_isinE T.isE)) (by rfl) T.n_isinstance (by decide +kernel) (da_c (de_v (pv 0)) (da_c (de_fn (by rfl) T.m_NoPostings) da_nil))) da_nil))))))); exact (by refine dss_cons ?_ ?_; exact (ds_expr (de_append (de_v (pv 1)) (da_c (de_callB (cr_or b_isin (b_isinE T.isE)) (by rfl) T.n_isinstance (by decide +kernel) (da_c (de_v (pv 0)) (da_c (de_fn (by rfl) T.m_NoLine) da_nil))) da_nil))); exact (by refine dss_cons ?_ ?_; exact (ds_set (i := 2) sc_law_word_of.nd rfl (by first | exact Or.inl rfl | exact Or.inr rfl) (de_lstM (da_c (de_callB (cr_or b_isin (b_isinE T.isE)) (by rfl) T.n_isinstance (by decide +kernel) (da_c (de_v (pv 0)) (da_c (de_fn (by rfl) T.m_Open) da_nil))) (da_c (de_callB (cr_or b_isin (b_isinE T.isE)) (by rfl) T.n_isinstance (by decide +kernel) (da_c (de_v (pv 0)) (da_c (de_fn (by rfl) T.m_Early) da_nil))) (da_c (de_callB (cr_or b_isin (b_isinE T.isE)) (by rfl) T.n_isinstance (by decide +kernel) (da_c (de_v (pv 0)) (da_c (de_fn (by rfl) T.m_Short) da_nil))) (da_c (de_callB (cr_or b_isin (b_isinE T.isE)) (by rfl) T.n_isinstance (by decide +kernel) (da_c (de_v (pv 0)) (da_c (de_fn (by rfl) T.m_Over) da_nil))) da_nil)))))); exact (by refine dss_cons ?_ ?_; exact (ds_expr (de_append (de_v (pv 2)) (da_c (de_callB (cr_or b_isin (b_isinE T.isE)) (by rfl) T.n_isinstance (by decide +kernel) (da_c (de_v (pv 0)) (da_c (de_fn (by rfl) T.m_Nothing) da_nil))) da_nil))); exact (by refine dss_cons ?_ ?_; exact (ds_if (DW.dt (dw_or (dt_not (dt_val (de_callB (cr_or b_isin (b_isinE T.isE)) (by rfl) T.n_isinstance (by decide +kernel) (da_c (de_v (pv 0)) (da_c (de_ty (by rfl) T.n_ValueError (by decide +kernel)) da_nil))))) (dw_or1 (dt_cmp (o_ne (by have q := hu64 hr; exact q)) (de_cntB (de_op o_add (de_v (pv 1)) (de_v (pv 2))) (da_c de_bl da_nil)) de_int (nomark _)))))       (dss_one (ds_ret de_str))       dss_nil); exact (by refine dss_cons ?_ ?_; exact (ds_if (DW.dt (dw_or (dt_cmp (o_ne (by have q := hu64 hr; exact q)) (de_callB (cr_or b_isin (b_isinE T.isE)) (by rfl) T.n_isinstance (by decide +kernel) (da_c (de_v (pv 0)) (da_c (de_fn (by rfl) T.m_NoThing) da_nil))) (de_cmp (o_in (by have q := hu66 hr; exact q)) de_bl (de_v (pv 1)) (by rfl)) (nomark _)) (dw_or1 (dt_cmp (o_ne (by have q := hu64 hr; exact q)) (de_callB (cr_or b_isin (b_isinE T.isE)) (by rfl) T.n_isinstance (by decide +kernel) (da_c (de_v (pv 0)) (da_c (de_fn (by rfl) T.m_NotNow) da_nil))) (de_cmp (o_in (by have q := hu66 hr; exact q)) de_bl (de_v (pv 2)) (by rfl)) (nomark _)))))       (dss_one (ds_ret de_str))       dss_nil); exact (by refine dss_cons ?_ ?_; exact (by refine @ds_set _ _ _ _ 3 _ _ ?_ ?_ ?_ ?_ ?_ ?_; exact sc_law_word_of.nd; rfl; (first | exact Or.inl rfl | exact Or.inr rfl); exact (by refine @de_lit _ 40 _ _ ?_; rfl); rfl; (first | exact .inl rfl | exact .inr rfl | assumption)); exact (by refine dss_cons ?_ ?_; exact (by refine @ds_set _ _ _ _ 3 _ _ ?_ ?_ ?_ ?_ ?_ ?_; exact sc_law_word_of.nd; rfl; (first | exact Or.inl rfl | exact Or.inr rfl); exact (by refine de_op o_add ?_ ?_; exact (de_v (pv 3)); exact (by refine @de_lit _ 40 _ _ ?_; rfl)); rfl; (first | exact .inl rfl | exact .inr rfl | assumption)); exact (by refine dss_cons ?_ ?_; exact (by refine @ds_set _ _ _ _ 3 _ _ ?_ ?_ ?_ ?_ ?_ ?_; exact sc_law_word_of.nd; rfl; (first | exact Or.inl rfl | exact Or.inr rfl); exact (by refine de_op o_add ?_ ?_; exact (de_v (pv 3)); exact (by refine @de_lit _ 40 _ _ ?_; rfl)); rfl; (first | exact .inl rfl | exact .inr rfl | assumption)); exact (dss_one (ds_ret (by refine de_ix ?_ ?_ ?_ ?_; exact (by have q := hu_of hr; exact q); exact (by refine de_op o_add ?_ ?_; exact (de_v (pv 3)); exact (by refine @de_lit _ 40 _ _ ?_; rfl)); exact (de_idxB (de_op o_add (de_v (pv 1)) (de_v (pv 2))) (da_c de_bl da_nil)); exact (fun _ _ => rfl)))))))))))))))))))
theorem ok_law_date {P : Program} {w : World} {K : PySem.W.Frag} {mg : Str → Option Value} {base : Heap} (T : Txt K mg) : FP P w K mg base 1 "_law_date" P_law_date (spF K mg 1 F_law_date) :=
  fd_ok T.d_law_date sc_law_date rfl rfl fun f cdv A outer s H E hr =>
      (by refine dss_cons ?_ ?_; exact (ds_par3 (i := 1) (j := 2) (k := 3) (by rfl) sc_law_date.nd rfl rfl rfl (by decide) (by decide) (by decide) rfl rfl rfl (da_c de_int (da_c de_int (da_c (de_v (pv 0)) da_nil))) (by rfl)); exact (by refine dss_cons ?_ ?_; exact (ds_while PassesOwn.never (dt_cmp o_ge (de_v (pv 3)) de_int (nomark _))       (dss_one (ds_par (i := 1) (j := 3) (by rfl) sc_law_date.nd rfl rfl (by decide) rfl rfl (da_c (de_op o_add (de_v (pv 1)) de_int) (da_c (de_op o_sub (de_v (pv 3)) de_int) da_nil)) (by rfl)))); exact (by refine dss_cons ?_ ?_; exact (ds_while PassesOwn.never (dt_cmp o_ge (de_v (pv 3)) de_int (nomark _))       (dss_one (ds_par (i := 2) (j := 3) (by rfl) sc_law_date.nd rfl rfl (by decide) rfl rfl (da_c (de_op o_add (de_v (pv 2)) de_int) (da_c (de_op o_sub (de_v (pv 3)) de_int) da_nil)) (by rfl)))); exact (dss_one (ds_ret (de_tup (da_c (de_v (pv 1)) (da_c (de_v (pv 2)) (da_c (de_op o_add (de_v (pv 3)) de_int) da_nil)))))))))
theorem okS_law_said {P : Program} {w : World} {K : PySem.W.Frag} {mg : Str → Option Value} {base : Heap} {qual : Str} {params : Arguments} {body : Expr} {scope : Scope} {F2 : List Str} {c : XE} {r : XR} (T : Txt K mg) (L : LamT P w K mg base 5 qual params body scope F2 c r) : FPS P w K mg base 7 "_law_said" P_law_said (spSd K mg (G_law_said c r) qual params body scope F2) :=
  fd_okR1 T.d_law_said sc_law_said rfl L rfl (fun _ => wrapL) wrL_ok (fun _ _ _ _ _ _ _ _ => pv 0) (fun f cdv A outer s H e hr' => by have hr := room_unm (e := e) hr'; exact (dss_one (ds_ret (de_fnN (okN_law_word_of T) (hr.mono (by decide)) (by rfl) (da_c (de_v (pv 1)) da_nil))))) rfl rfl T.sub (fun _ _ _ _ _ _ => by rfl)
theorem ok_law {P : Program} {w : World} {K : PySem.W.Frag} {mg : Str → Option Value} {base : Heap} {f : Addr} {fd : FuncData} (F : Fun K "law" "law" (top 58) f fd) (hf : mg "law" = some (.ref f)) (W : LamW K mg base ["law"]) (T : Txt K mg) : FnOk P w K mg base CX0 8 f fd P_law (spLawT K ["law"]) :=
  law_okT F sc_law rfl rfl (fun cdv A outer s H E hB hr =>
      (by refine dss_cons ?_ ?_; exact (ds_if (dt_cmp (o_ne (hu64 hr)) (de_lst (da_c (de_fnF (ok_date_of T) (hr.mono (by decide)) (by rfl) (da_c de_int da_nil)) (da_c (de_fnF (ok_date_of T) (hr.mono (by decide)) (by rfl) (da_c de_int da_nil)) (da_c (de_fnF (ok_date_of T) (hr.mono (by decide)) (by rfl) (da_c de_int da_nil)) (da_c (de_fnF (ok_date_of T) (hr.mono (by decide)) (by rfl) (da_c de_int da_nil)) (da_c (de_fnF (ok_date_of T) (hr.mono (by decide)) (by rfl) (da_c de_int da_nil)) da_nil)))))) (by refine @de_lit _ 40 _ _ ?_; rfl) (nomark _))       (dss_one (ds_ret de_bl))       dss_nil); exact (by refine dss_cons ?_ ?_; exact (ds_for PassesOwn.never (by rfl) (di_range1 (by rfl) T.n_range (da_c (de_callB (b_max2 rfl) (by rfl) T.n_max (by decide +kernel) (da_c de_int (da_c (de_callB (b_min2 rfl) (by rfl) T.n_min (by decide +kernel) (da_c (de_callB b_len (by rfl) T.n_len (by decide +kernel) (da_c (de_v (pv 0)) da_nil)) (da_c de_int da_nil))) da_nil))) da_nil)) (dg_name (i := 1) sc_law.nd rfl (by first | exact Or.inl rfl | exact Or.inr rfl))       (by refine dss_cons ?_ ?_; exact (ds_set (i := 2) sc_law.nd rfl (by first | exact Or.inl rfl | exact Or.inr rfl) (de_fnF (ok_law_box T) (hr.mono (by decide)) (by rfl) (da_c (de_v (pv 0)) (da_c (de_v (pv 1)) da_nil)))); exact (by refine dss_cons ?_ ?_; exact (ds_for PassesOwn.never (by rfl) (di_range1 (by rfl) T.n_range (da_c de_int da_nil)) (dg_name (i := 3) sc_law.nd rfl (by first | exact Or.inl rfl | exact Or.inr rfl))       (by refine dss_cons ?_ ?_; exact (ds_set (i := 4) sc_law.nd rfl (by first | exact Or.inl rfl | exact Or.inr rfl) (by refine de_ix ?_ ?_ ?_ ?_; exact (hu_of hr); exact (de_lst (da_c (de_fnF (ok_law_take T) (hr.mono (by decide)) (by rfl) (da_c (de_v (pv 2)) (da_c de_int da_nil))) (da_c (de_fnF (ok_law_take T) (hr.mono (by decide)) (by rfl) (da_c (de_v (pv 2)) (da_c de_int da_nil))) (da_c (de_op o_sub de_int (de_fnF (ok_law_take T) (hr.mono (by decide)) (by rfl) (da_c (de_v (pv 2)) (da_c de_int da_nil)))) da_nil)))); exact (de_fnF (ok_law_take T) (hr.mono (by decide)) (by rfl) (da_c (de_v (pv 2)) (da_c de_int da_nil))); exact (fun _ _ => rfl))); exact (by refine dss_cons ?_ ?_; exact (ds_set (i := 5) sc_law.nd rfl (by first | exact Or.inl rfl | exact Or.inr rfl) (de_fnF (ok_law_date T) (hr.mono (by decide)) (by rfl) (da_c (de_v (pv 4)) da_nil))); exact (dss_one (ds_if (DW.dt (dw_or (dt_cmp (o_ne (hu64 hr)) (de_callB (b_repr hr) (by rfl) T.n_repr (by decide +kernel) (da_c (de_lst (da_c (de_fnF (ok_date_of T) (hr.mono (by decide)) (by rfl) (da_c (de_v (pv 4)) da_nil)) (da_c (de_fnF (ok_date_of T) (hr.mono (by decide)) (by rfl) (da_c (de_v (pv 4)) da_nil)) da_nil))) da_nil)) (de_callB (b_repr hr) (by rfl) T.n_repr (by decide +kernel) (da_c (de_lst (da_c (de_v (pv 5)) (da_c (de_v (pv 5)) da_nil))) da_nil)) (nomark _)) (dw_or1 (dt_cmp (o_ne (hu64 hr)) (de_callB (b_repr hr) (by rfl) T.n_repr (by decide +kernel) (da_c (de_fnF (ok_day_of T) (hr.mono (by decide)) (by rfl) (da_c (de_v (pv 5)) da_nil)) da_nil)) (de_callB (b_repr hr) (by rfl) T.n_repr (by decide +kernel) (da_c (de_v (pv 4)) da_nil)) (nomark _)))))       (dss_one (ds_ret de_bl))       dss_nil))))); exact (by refine dss_cons ?_ ?_; exact (ds_for PassesOwn.never (by rfl) (di_seq (by refine @de_lit _ 40 _ _ ?_; rfl)) (dg_name (i := 6) sc_law.nd rfl (by first | exact Or.inl rfl | exact Or.inr rfl))       (dss_one (ds_if (dt_cmp (o_ne (hu64 hr)) (by refine de_said (k := 7) (it := 0) (d := "law") (F2 := ["_law_bad"]) (ix := [6]) (qual := ("law.<locals>.<lambda>" : Str)) (F := G_law_said (xFn 1 (xCons (xV 0) xNil) F_date_of) (rFn 1 (xCons (xV 0) xNil) R_date_of)) (okS_law_said T ?_) (hr.mono (by decide)) (by rfl) (hB _ W (by decide) hf) ⟨rfl, rfl, rfl, by decide +kernel, by decide +kernel, by decide +kernel⟩ (by rfl) (by rfl) (by rfl) (by rfl) (by intro y hy; simp only [List.mem_cons, List.not_mem_nil, or_false] at hy; rcases hy with rfl <;> rfl) (by decide +kernel) (fun _ => rfl); exact ⟨⟨rfl, rfl, rfl, by decide +kernel, by decide +kernel, by decide +kernel⟩, fun _ _ _ _ => rfl, fun f cv cl A outer s H hr => (de_fnF (ok_date_of T) (hr.mono (by decide)) (by rfl) (da_c (de_v (pv 0)) da_nil)), fun f cv cl A outer s H E hr => (re_call (okR_date_of T) (hr.mono (by decide)) (by rfl) (da_c (de_v (pv 0)) da_nil))⟩) de_str (nomark _))       (dss_one (ds_ret de_bl))       dss_nil))); exact (by refine dss_cons ?_ ?_; exact (by refine @ds_set _ _ _ _ 7 _ _ ?_ ?_ ?_ ?_ ?_ ?_; exact sc_law.nd; rfl; (first | exact Or.inl rfl | exact Or.inr rfl); exact (by refine @de_lit _ 40 _ _ ?_; rfl); rfl; (first | exact .inl rfl | exact .inr rfl | assumption)); exact (by refine dss_cons ?_ ?_; exact (by refine @ds_set _ _ _ _ 7 _ _ ?_ ?_ ?_ ?_ ?_ ?_; exact sc_law.nd; rfl; (first | exact Or.inl rfl | exact Or.inr rfl); exact (by refine de_op o_add ?_ ?_; exact (de_v (pv 7)); exact (by refine @de_lit _ 40 _ _ ?_; rfl)); rfl; (first | exact .inl rfl | exact .inr rfl | assumption)); exact (by refine dss_cons ?_ ?_; exact (by refine @ds_set _ _ _ _ 7 _ _ ?_ ?_ ?_ ?_ ?_ ?_; exact sc_law.nd; rfl; (first | exact Or.inl rfl | exact Or.inr rfl); exact (by refine de_op o_add ?_ ?_; exact (de_v (pv 7)); exact (by refine @de_lit _ 40 _ _ ?_; rfl)); rfl; (first | exact .inl rfl | exact .inr rfl | assumption)); exact (dss_one (ds_for PassesOwn.never (by rfl) (di_seq (by refine de_op o_add ?_ ?_; exact (de_v (pv 7)); exact (by refine @de_lit _ 40 _ _ ?_; rfl))) (dg_name (i := 6) sc_law.nd rfl (by first | exact Or.inl rfl | exact Or.inr rfl))       (by refine dss_cons ?_ ?_; exact (ds_set (i := 8) sc_law.nd rfl (by first | exact Or.inl rfl | exact Or.inr rfl) (de_callB (b_repr hr) (by rfl) T.n_repr (by decide +kernel) (da_c (de_v (pv 6)) da_nil))); exact (dss_one (ds_if (DW.dt (dw_or (dt_cmp (o_ne (hu64 hr)) (by refine de_said (k := 7) (it := 0) (d := "law") (F2 := ["_law_bad"]) (ix := [6]) (qual := ("law.<locals>.<lambda>" : Str)) (F := G_law_said (xFn 1 (xCons (xV 0) xNil) F_day_of) (rFn 1 (xCons (xV 0) xNil) R_day_of)) (okS_law_said T ?_) (hr.mono (by decide)) (by rfl) (hB _ W (by decide) hf) ⟨rfl, rfl, rfl, by decide +kernel, by decide +kernel, by decide +kernel⟩ (by rfl) (by rfl) (by rfl) (by rfl) (by intro y hy; simp only [List.mem_cons, List.not_mem_nil, or_false] at hy; rcases hy with rfl <;> rfl) (by decide +kernel) (fun _ => rfl); exact ⟨⟨rfl, rfl, rfl, by decide +kernel, by decide +kernel, by decide +kernel⟩, fun _ _ _ _ => rfl, fun f cv cl A outer s H hr => (de_fnF (ok_day_of T) (hr.mono (by decide)) (by rfl) (da_c (de_v (pv 0)) da_nil)), fun f cv cl A outer s H E hr => (re_call (okR_day_of T) (hr.mono (by decide)) (by rfl) (da_c (de_v (pv 0)) da_nil))⟩) de_str (nomark _)) (dw_or1 (dt_cmp (o_ne (hu64 hr)) (de_callB (b_repr hr) (by rfl) T.n_repr (by decide +kernel) (da_c (de_v (pv 6)) da_nil)) (de_v (pv 8)) (nomark _)))))       (dss_one (ds_ret de_bl))       dss_nil)))))))))))); exact (dss_one (ds_ret de_bl))))) law_true
theorem all_mk {l : PySem.W.OpenLaw} {w : World} {K : PySem.W.Frag} {h : Heap} {mg : Str → Option Value} {fa : Addr} (X : K.In h) (G : h.Ns mainGlobals mg) (hfa : mg "law" = some (.ref fa))
    {f0 : Addr} {od0 an0 : Option Addr} {sl0 : Array (Option Value)} {oc0 kV0 dc0 pm0 cd0 ct0 : Value}
    {f1 : Addr} {od1 an1 : Option Addr} {sl1 : Array (Option Value)} {oc1 kV1 dc1 pm1 cd1 ct1 : Value}
    {f2 : Addr} {od2 an2 : Option Addr} {sl2 : Array (Option Value)} {oc2 kV2 dc2 pm2 cd2 ct2 : Value}
    {f3 : Addr} {od3 an3 : Option Addr} {sl3 : Array (Option Value)} {oc3 kV3 dc3 pm3 cd3 ct3 : Value}
    {f4 : Addr} {od4 an4 : Option Addr} {sl4 : Array (Option Value)} {oc4 kV4 dc4 pm4 cd4 ct4 : Value}
    {f5 : Addr} {od5 an5 : Option Addr} {sl5 : Array (Option Value)} {oc5 kV5 dc5 pm5 cd5 ct5 : Value}
    {f6 : Addr} {od6 an6 : Option Addr} {sl6 : Array (Option Value)} {oc6 kV6 dc6 pm6 cd6 ct6 : Value}
    {f7 : Addr} {od7 an7 : Option Addr} {sl7 : Array (Option Value)} {oc7 kV7 dc7 pm7 cd7 ct7 : Value}
    {f8 : Addr} {od8 an8 : Option Addr} {sl8 : Array (Option Value)} {oc8 kV8 dc8 pm8 cd8 ct8 : Value}
    {f9 : Addr} {od9 an9 : Option Addr} {sl9 : Array (Option Value)} {oc9 kV9 dc9 pm9 cd9 ct9 : Value}
    {f10 : Addr} {od10 an10 : Option Addr} {sl10 : Array (Option Value)} {oc10 kV10 dc10 pm10 cd10 ct10 : Value}
    {f11 : Addr} {od11 an11 : Option Addr} {sl11 : Array (Option Value)} {oc11 kV11 dc11 pm11 cd11 ct11 : Value}
    {f12 : Addr} {od12 an12 : Option Addr} {sl12 : Array (Option Value)} {oc12 kV12 dc12 pm12 cd12 ct12 : Value}
    {f13 : Addr} {od13 an13 : Option Addr} {sl13 : Array (Option Value)} {oc13 kV13 dc13 pm13 cd13 ct13 : Value}
    {f14 : Addr} {od14 an14 : Option Addr} {sl14 : Array (Option Value)} {oc14 kV14 dc14 pm14 cd14 ct14 : Value}
    {t_LAST_DAY : Tok}
    {t_MONTH_DAYS : Tok}
    {t_YEAR_MONTHS : Tok}
    {C_CoinError : Addr} {C_Early : Addr} {C_NoAccount : Addr} {C_NoBands : Addr} {C_NoBill : Addr} {C_NoBook : Addr} {C_NoCode : Addr} {C_NoCoins : Addr} {C_NoCustom : Addr} {C_NoDate : Addr} {C_NoDay : Addr} {C_NoDays : Addr} {C_NoDebts : Addr} {C_NoGoal : Addr} {C_NoHouse : Addr} {C_NoLine : Addr} {C_NoLoan : Addr} {C_NoMonths : Addr} {C_NoNumber : Addr} {C_NoPart : Addr} {C_NoPer : Addr} {C_NoPerson : Addr} {C_NoPostings : Addr} {C_NoRoad : Addr} {C_NoRows : Addr} {C_NoRules : Addr} {C_NoStep : Addr} {C_NoTable : Addr} {C_NoText : Addr} {C_NoThing : Addr} {C_NoWay : Addr} {C_NoWeights : Addr} {C_NotNow : Addr} {C_Nothing : Addr} {C_Open : Addr} {C_Over : Addr} {C_Short : Addr}
    {ct Pt : Addr} {vst : Array Value} {occ : Value} {ocd : Option Addr} {ocs : Array (Option Value)}
    (a0 : PySem.W.nsIn K mainGlobals "is_whole" = some (some (.ref f0))) (l0 : K.lookup f0 = some ⟨oc0, od0, .func (PySem.W.fnOf "is_whole" "is_whole" (defArgs (top 39)) (defBody (top 39)) (defScope (top 39)) .none kV0 dc0 pm0 an0 cd0 ct0), sl0⟩) (c0 : PySem.W.codeIn K cd0 "is_whole" = true) (k0 : PySem.W.keepIn K (.ref f0) = true)
    (a1 : PySem.W.nsIn K mainGlobals "is_within" = some (some (.ref f1))) (l1 : K.lookup f1 = some ⟨oc1, od1, .func (PySem.W.fnOf "is_within" "is_within" (defArgs (top 40)) (defBody (top 40)) (defScope (top 40)) .none kV1 dc1 pm1 an1 cd1 ct1), sl1⟩) (c1 : PySem.W.codeIn K cd1 "is_within" = true) (k1 : PySem.W.keepIn K (.ref f1) = true)
    (a2 : PySem.W.nsIn K mainGlobals "is_tuple_of" = some (some (.ref f2))) (l2 : K.lookup f2 = some ⟨oc2, od2, .func (PySem.W.fnOf "is_tuple_of" "is_tuple_of" (defArgs (top 41)) (defBody (top 41)) (defScope (top 41)) .none kV2 dc2 pm2 an2 cd2 ct2), sl2⟩) (c2 : PySem.W.codeIn K cd2 "is_tuple_of" = true) (k2 : PySem.W.keepIn K (.ref f2) = true)
    (a3 : PySem.W.nsIn K mainGlobals "is_day" = some (some (.ref f3))) (l3 : K.lookup f3 = some ⟨oc3, od3, .func (PySem.W.fnOf "is_day" "is_day" (defArgs (top 46)) (defBody (top 46)) (defScope (top 46)) .none kV3 dc3 pm3 an3 cd3 ct3), sl3⟩) (c3 : PySem.W.codeIn K cd3 "is_day" = true) (k3 : PySem.W.keepIn K (.ref f3) = true)
    (a4 : PySem.W.nsIn K mainGlobals "refuse_no_day" = some (some (.ref f4))) (l4 : K.lookup f4 = some ⟨oc4, od4, .func (PySem.W.fnOf "refuse_no_day" "refuse_no_day" (defArgs (top 47)) (defBody (top 47)) (defScope (top 47)) .none kV4 dc4 pm4 an4 cd4 ct4), sl4⟩) (c4 : PySem.W.codeIn K cd4 "refuse_no_day" = true) (k4 : PySem.W.keepIn K (.ref f4) = true)
    (a5 : PySem.W.nsIn K mainGlobals "date_of" = some (some (.ref f5))) (l5 : K.lookup f5 = some ⟨oc5, od5, .func (PySem.W.fnOf "date_of" "date_of" (defArgs (top 48)) (defBody (top 48)) (defScope (top 48)) .none kV5 dc5 pm5 an5 cd5 ct5), sl5⟩) (c5 : PySem.W.codeIn K cd5 "date_of" = true) (k5 : PySem.W.keepIn K (.ref f5) = true)
    (a6 : PySem.W.nsIn K mainGlobals "is_calendar_date" = some (some (.ref f6))) (l6 : K.lookup f6 = some ⟨oc6, od6, .func (PySem.W.fnOf "is_calendar_date" "is_calendar_date" (defArgs (top 50)) (defBody (top 50)) (defScope (top 50)) .none kV6 dc6 pm6 an6 cd6 ct6), sl6⟩) (c6 : PySem.W.codeIn K cd6 "is_calendar_date" = true) (k6 : PySem.W.keepIn K (.ref f6) = true)
    (a7 : PySem.W.nsIn K mainGlobals "day_of" = some (some (.ref f7))) (l7 : K.lookup f7 = some ⟨oc7, od7, .func (PySem.W.fnOf "day_of" "day_of" (defArgs (top 49)) (defBody (top 49)) (defScope (top 49)) .none kV7 dc7 pm7 an7 cd7 ct7), sl7⟩) (c7 : PySem.W.codeIn K cd7 "day_of" = true) (k7 : PySem.W.keepIn K (.ref f7) = true)
    (a8 : PySem.W.nsIn K mainGlobals "_law_box" = some (some (.ref f8))) (l8 : K.lookup f8 = some ⟨oc8, od8, .func (PySem.W.fnOf "_law_box" "_law_box" (defArgs (top 52)) (defBody (top 52)) (defScope (top 52)) .none kV8 dc8 pm8 an8 cd8 ct8), sl8⟩) (c8 : PySem.W.codeIn K cd8 "_law_box" = true) (k8 : PySem.W.keepIn K (.ref f8) = true)
    (a9 : PySem.W.nsIn K mainGlobals "_law_more" = some (some (.ref f9))) (l9 : K.lookup f9 = some ⟨oc9, od9, .func (PySem.W.fnOf "_law_more" "_law_more" (defArgs (top 53)) (defBody (top 53)) (defScope (top 53)) .none kV9 dc9 pm9 an9 cd9 ct9), sl9⟩) (c9 : PySem.W.codeIn K cd9 "_law_more" = true) (k9 : PySem.W.keepIn K (.ref f9) = true)
    (a10 : PySem.W.nsIn K mainGlobals "_law_take" = some (some (.ref f10))) (l10 : K.lookup f10 = some ⟨oc10, od10, .func (PySem.W.fnOf "_law_take" "_law_take" (defArgs (top 54)) (defBody (top 54)) (defScope (top 54)) .none kV10 dc10 pm10 an10 cd10 ct10), sl10⟩) (c10 : PySem.W.codeIn K cd10 "_law_take" = true) (k10 : PySem.W.keepIn K (.ref f10) = true)
    (a11 : PySem.W.nsIn K mainGlobals "_law_word_of" = some (some (.ref f11))) (l11 : K.lookup f11 = some ⟨oc11, od11, .func (PySem.W.fnOf "_law_word_of" "_law_word_of" (defArgs (top 55)) (defBody (top 55)) (defScope (top 55)) .none kV11 dc11 pm11 an11 cd11 ct11), sl11⟩) (c11 : PySem.W.codeIn K cd11 "_law_word_of" = true) (k11 : PySem.W.keepIn K (.ref f11) = true)
    (a12 : PySem.W.nsIn K mainGlobals "_law_date" = some (some (.ref f12))) (l12 : K.lookup f12 = some ⟨oc12, od12, .func (PySem.W.fnOf "_law_date" "_law_date" (defArgs (top 57)) (defBody (top 57)) (defScope (top 57)) .none kV12 dc12 pm12 an12 cd12 ct12), sl12⟩) (c12 : PySem.W.codeIn K cd12 "_law_date" = true) (k12 : PySem.W.keepIn K (.ref f12) = true)
    (a13 : PySem.W.nsIn K mainGlobals "_law_said" = some (some (.ref f13))) (l13 : K.lookup f13 = some ⟨oc13, od13, .func (PySem.W.fnOf "_law_said" "_law_said" (defArgs (top 56)) (defBody (top 56)) (defScope (top 56)) .none kV13 dc13 pm13 an13 cd13 ct13), sl13⟩) (c13 : PySem.W.codeIn K cd13 "_law_said" = true) (k13 : PySem.W.keepIn K (.ref f13) = true)
    (a14 : PySem.W.nsIn K mainGlobals "law" = some (some (.ref f14))) (l14 : K.lookup f14 = some ⟨oc14, od14, .func (PySem.W.fnOf "law" "law" (defArgs (top 58)) (defBody (top 58)) (defScope (top 58)) .none kV14 dc14 pm14 an14 cd14 ct14), sl14⟩) (c14 : PySem.W.codeIn K cd14 "law" = true) (k14 : PySem.W.keepIn K (.ref f14) = true)
    (g_LAST_DAY : PySem.W.nsIn K mainGlobals "LAST_DAY" = some (some (.int 9999 t_LAST_DAY)))
    (g_MONTH_DAYS : PySem.W.nsIn K mainGlobals "MONTH_DAYS" = some (some (.int 30 t_MONTH_DAYS)))
    (g_YEAR_MONTHS : PySem.W.nsIn K mainGlobals "YEAR_MONTHS" = some (some (.int 12 t_YEAR_MONTHS)))
    (z_ValueError : PySem.W.nsIn K mainGlobals "ValueError" = some none)
    (z_abs : PySem.W.nsIn K mainGlobals "abs" = some none)
    (z_bool : PySem.W.nsIn K mainGlobals "bool" = some none)
    (z_divmod : PySem.W.nsIn K mainGlobals "divmod" = some none)
    (z_int : PySem.W.nsIn K mainGlobals "int" = some none)
    (z_isinstance : PySem.W.nsIn K mainGlobals "isinstance" = some none)
    (z_len : PySem.W.nsIn K mainGlobals "len" = some none)
    (z_max : PySem.W.nsIn K mainGlobals "max" = some none)
    (z_min : PySem.W.nsIn K mainGlobals "min" = some none)
    (z_range : PySem.W.nsIn K mainGlobals "range" = some none)
    (z_repr : PySem.W.nsIn K mainGlobals "repr" = some none)
    (z_tuple : PySem.W.nsIn K mainGlobals "tuple" = some none)
    (gc_CoinError : PySem.W.nsIn K mainGlobals "CoinError" = some (some (.ref C_CoinError)))
    (gc_Early : PySem.W.nsIn K mainGlobals "Early" = some (some (.ref C_Early)))
    (gc_NoAccount : PySem.W.nsIn K mainGlobals "NoAccount" = some (some (.ref C_NoAccount)))
    (gc_NoBands : PySem.W.nsIn K mainGlobals "NoBands" = some (some (.ref C_NoBands)))
    (gc_NoBill : PySem.W.nsIn K mainGlobals "NoBill" = some (some (.ref C_NoBill)))
    (gc_NoBook : PySem.W.nsIn K mainGlobals "NoBook" = some (some (.ref C_NoBook)))
    (gc_NoCode : PySem.W.nsIn K mainGlobals "NoCode" = some (some (.ref C_NoCode)))
    (gc_NoCoins : PySem.W.nsIn K mainGlobals "NoCoins" = some (some (.ref C_NoCoins)))
    (gc_NoCustom : PySem.W.nsIn K mainGlobals "NoCustom" = some (some (.ref C_NoCustom)))
    (gc_NoDate : PySem.W.nsIn K mainGlobals "NoDate" = some (some (.ref C_NoDate)))
    (gc_NoDay : PySem.W.nsIn K mainGlobals "NoDay" = some (some (.ref C_NoDay)))
    (gc_NoDays : PySem.W.nsIn K mainGlobals "NoDays" = some (some (.ref C_NoDays)))
    (gc_NoDebts : PySem.W.nsIn K mainGlobals "NoDebts" = some (some (.ref C_NoDebts)))
    (gc_NoGoal : PySem.W.nsIn K mainGlobals "NoGoal" = some (some (.ref C_NoGoal)))
    (gc_NoHouse : PySem.W.nsIn K mainGlobals "NoHouse" = some (some (.ref C_NoHouse)))
    (gc_NoLine : PySem.W.nsIn K mainGlobals "NoLine" = some (some (.ref C_NoLine)))
    (gc_NoLoan : PySem.W.nsIn K mainGlobals "NoLoan" = some (some (.ref C_NoLoan)))
    (gc_NoMonths : PySem.W.nsIn K mainGlobals "NoMonths" = some (some (.ref C_NoMonths)))
    (gc_NoNumber : PySem.W.nsIn K mainGlobals "NoNumber" = some (some (.ref C_NoNumber)))
    (gc_NoPart : PySem.W.nsIn K mainGlobals "NoPart" = some (some (.ref C_NoPart)))
    (gc_NoPer : PySem.W.nsIn K mainGlobals "NoPer" = some (some (.ref C_NoPer)))
    (gc_NoPerson : PySem.W.nsIn K mainGlobals "NoPerson" = some (some (.ref C_NoPerson)))
    (gc_NoPostings : PySem.W.nsIn K mainGlobals "NoPostings" = some (some (.ref C_NoPostings)))
    (gc_NoRoad : PySem.W.nsIn K mainGlobals "NoRoad" = some (some (.ref C_NoRoad)))
    (gc_NoRows : PySem.W.nsIn K mainGlobals "NoRows" = some (some (.ref C_NoRows)))
    (gc_NoRules : PySem.W.nsIn K mainGlobals "NoRules" = some (some (.ref C_NoRules)))
    (gc_NoStep : PySem.W.nsIn K mainGlobals "NoStep" = some (some (.ref C_NoStep)))
    (gc_NoTable : PySem.W.nsIn K mainGlobals "NoTable" = some (some (.ref C_NoTable)))
    (gc_NoText : PySem.W.nsIn K mainGlobals "NoText" = some (some (.ref C_NoText)))
    (gc_NoThing : PySem.W.nsIn K mainGlobals "NoThing" = some (some (.ref C_NoThing)))
    (gc_NoWay : PySem.W.nsIn K mainGlobals "NoWay" = some (some (.ref C_NoWay)))
    (gc_NoWeights : PySem.W.nsIn K mainGlobals "NoWeights" = some (some (.ref C_NoWeights)))
    (gc_NotNow : PySem.W.nsIn K mainGlobals "NotNow" = some (some (.ref C_NotNow)))
    (gc_Nothing : PySem.W.nsIn K mainGlobals "Nothing" = some (some (.ref C_Nothing)))
    (gc_Open : PySem.W.nsIn K mainGlobals "Open" = some (some (.ref C_Open)))
    (gc_Over : PySem.W.nsIn K mainGlobals "Over" = some (some (.ref C_Over)))
    (gc_Short : PySem.W.nsIn K mainGlobals "Short" = some (some (.ref C_Short)))
    (xk_CoinError : PySem.W.excIn K C_CoinError mroVE "ValueError.__new__" = true)
    (xk_NoDate : PySem.W.excIn K C_NoDate mroVE "ValueError.__new__" = true)
    (xk_NoDay : PySem.W.excIn K C_NoDay mroVE "ValueError.__new__" = true)
    (xl_NoDate : ExcLook K C_NoDate) (xm_NoDate : PySem.W.mroIn K C_NoDate (.ref C_CoinError) = some true) (xv_NoDate : PySem.W.kitOne K (.ref C_NoDate) (.type "ValueError") = some true)
    (xt_NoDate_NotNow : PySem.W.kitOne K (.ref C_NoDate) (.ref C_NotNow) = some false)
    (xt_NoDate_NoThing : PySem.W.kitOne K (.ref C_NoDate) (.ref C_NoThing) = some true)
    (xt_NoDate_NoPostings : PySem.W.kitOne K (.ref C_NoDate) (.ref C_NoPostings) = some false)
    (xt_NoDate_NoHouse : PySem.W.kitOne K (.ref C_NoDate) (.ref C_NoHouse) = some false)
    (xt_NoDate_NoDays : PySem.W.kitOne K (.ref C_NoDate) (.ref C_NoDays) = some false)
    (xt_NoDate_NoMonths : PySem.W.kitOne K (.ref C_NoDate) (.ref C_NoMonths) = some false)
    (xt_NoDate_NoPerson : PySem.W.kitOne K (.ref C_NoDate) (.ref C_NoPerson) = some false)
    (xt_NoDate_NoDebts : PySem.W.kitOne K (.ref C_NoDate) (.ref C_NoDebts) = some false)
    (xt_NoDate_NoPart : PySem.W.kitOne K (.ref C_NoDate) (.ref C_NoPart) = some false)
    (xt_NoDate_NoBook : PySem.W.kitOne K (.ref C_NoDate) (.ref C_NoBook) = some false)
    (xt_NoDate_NoRows : PySem.W.kitOne K (.ref C_NoDate) (.ref C_NoRows) = some false)
    (xt_NoDate_NoText : PySem.W.kitOne K (.ref C_NoDate) (.ref C_NoText) = some false)
    (xt_NoDate_NoAccount : PySem.W.kitOne K (.ref C_NoDate) (.ref C_NoAccount) = some false)
    (xt_NoDate_NoLoan : PySem.W.kitOne K (.ref C_NoDate) (.ref C_NoLoan) = some false)
    (xt_NoDate_NoGoal : PySem.W.kitOne K (.ref C_NoDate) (.ref C_NoGoal) = some false)
    (xt_NoDate_NoBands : PySem.W.kitOne K (.ref C_NoDate) (.ref C_NoBands) = some false)
    (xt_NoDate_NoPer : PySem.W.kitOne K (.ref C_NoDate) (.ref C_NoPer) = some false)
    (xt_NoDate_NoBill : PySem.W.kitOne K (.ref C_NoDate) (.ref C_NoBill) = some false)
    (xt_NoDate_NoRoad : PySem.W.kitOne K (.ref C_NoDate) (.ref C_NoRoad) = some false)
    (xt_NoDate_NoCode : PySem.W.kitOne K (.ref C_NoDate) (.ref C_NoCode) = some false)
    (xt_NoDate_NoTable : PySem.W.kitOne K (.ref C_NoDate) (.ref C_NoTable) = some false)
    (xt_NoDate_NoWay : PySem.W.kitOne K (.ref C_NoDate) (.ref C_NoWay) = some false)
    (xt_NoDate_NoWeights : PySem.W.kitOne K (.ref C_NoDate) (.ref C_NoWeights) = some false)
    (xt_NoDate_NoCoins : PySem.W.kitOne K (.ref C_NoDate) (.ref C_NoCoins) = some false)
    (xt_NoDate_NoStep : PySem.W.kitOne K (.ref C_NoDate) (.ref C_NoStep) = some false)
    (xt_NoDate_NoCustom : PySem.W.kitOne K (.ref C_NoDate) (.ref C_NoCustom) = some false)
    (xt_NoDate_Nothing : PySem.W.kitOne K (.ref C_NoDate) (.ref C_Nothing) = some false)
    (xt_NoDate_Over : PySem.W.kitOne K (.ref C_NoDate) (.ref C_Over) = some false)
    (xt_NoDate_Short : PySem.W.kitOne K (.ref C_NoDate) (.ref C_Short) = some false)
    (xt_NoDate_Early : PySem.W.kitOne K (.ref C_NoDate) (.ref C_Early) = some false)
    (xt_NoDate_Open : PySem.W.kitOne K (.ref C_NoDate) (.ref C_Open) = some false)
    (xt_NoDate_NoLine : PySem.W.kitOne K (.ref C_NoDate) (.ref C_NoLine) = some false)
    (xt_NoDate_NoNumber : PySem.W.kitOne K (.ref C_NoDate) (.ref C_NoNumber) = some false)
    (xt_NoDate_NoRules : PySem.W.kitOne K (.ref C_NoDate) (.ref C_NoRules) = some false)
    (xt_NoDate_NoDate : PySem.W.kitOne K (.ref C_NoDate) (.ref C_NoDate) = some true)
    (xt_NoDate_NoDay : PySem.W.kitOne K (.ref C_NoDate) (.ref C_NoDay) = some false)
    (xl_NoDay : ExcLook K C_NoDay) (xm_NoDay : PySem.W.mroIn K C_NoDay (.ref C_CoinError) = some true) (xv_NoDay : PySem.W.kitOne K (.ref C_NoDay) (.type "ValueError") = some true)
    (xt_NoDay_NotNow : PySem.W.kitOne K (.ref C_NoDay) (.ref C_NotNow) = some false)
    (xt_NoDay_NoThing : PySem.W.kitOne K (.ref C_NoDay) (.ref C_NoThing) = some true)
    (xt_NoDay_NoPostings : PySem.W.kitOne K (.ref C_NoDay) (.ref C_NoPostings) = some false)
    (xt_NoDay_NoHouse : PySem.W.kitOne K (.ref C_NoDay) (.ref C_NoHouse) = some false)
    (xt_NoDay_NoDays : PySem.W.kitOne K (.ref C_NoDay) (.ref C_NoDays) = some false)
    (xt_NoDay_NoMonths : PySem.W.kitOne K (.ref C_NoDay) (.ref C_NoMonths) = some false)
    (xt_NoDay_NoPerson : PySem.W.kitOne K (.ref C_NoDay) (.ref C_NoPerson) = some false)
    (xt_NoDay_NoDebts : PySem.W.kitOne K (.ref C_NoDay) (.ref C_NoDebts) = some false)
    (xt_NoDay_NoPart : PySem.W.kitOne K (.ref C_NoDay) (.ref C_NoPart) = some false)
    (xt_NoDay_NoBook : PySem.W.kitOne K (.ref C_NoDay) (.ref C_NoBook) = some false)
    (xt_NoDay_NoRows : PySem.W.kitOne K (.ref C_NoDay) (.ref C_NoRows) = some false)
    (xt_NoDay_NoText : PySem.W.kitOne K (.ref C_NoDay) (.ref C_NoText) = some false)
    (xt_NoDay_NoAccount : PySem.W.kitOne K (.ref C_NoDay) (.ref C_NoAccount) = some false)
    (xt_NoDay_NoLoan : PySem.W.kitOne K (.ref C_NoDay) (.ref C_NoLoan) = some false)
    (xt_NoDay_NoGoal : PySem.W.kitOne K (.ref C_NoDay) (.ref C_NoGoal) = some false)
    (xt_NoDay_NoBands : PySem.W.kitOne K (.ref C_NoDay) (.ref C_NoBands) = some false)
    (xt_NoDay_NoPer : PySem.W.kitOne K (.ref C_NoDay) (.ref C_NoPer) = some false)
    (xt_NoDay_NoBill : PySem.W.kitOne K (.ref C_NoDay) (.ref C_NoBill) = some false)
    (xt_NoDay_NoRoad : PySem.W.kitOne K (.ref C_NoDay) (.ref C_NoRoad) = some false)
    (xt_NoDay_NoCode : PySem.W.kitOne K (.ref C_NoDay) (.ref C_NoCode) = some false)
    (xt_NoDay_NoTable : PySem.W.kitOne K (.ref C_NoDay) (.ref C_NoTable) = some false)
    (xt_NoDay_NoWay : PySem.W.kitOne K (.ref C_NoDay) (.ref C_NoWay) = some false)
    (xt_NoDay_NoWeights : PySem.W.kitOne K (.ref C_NoDay) (.ref C_NoWeights) = some false)
    (xt_NoDay_NoCoins : PySem.W.kitOne K (.ref C_NoDay) (.ref C_NoCoins) = some false)
    (xt_NoDay_NoStep : PySem.W.kitOne K (.ref C_NoDay) (.ref C_NoStep) = some false)
    (xt_NoDay_NoCustom : PySem.W.kitOne K (.ref C_NoDay) (.ref C_NoCustom) = some false)
    (xt_NoDay_Nothing : PySem.W.kitOne K (.ref C_NoDay) (.ref C_Nothing) = some false)
    (xt_NoDay_Over : PySem.W.kitOne K (.ref C_NoDay) (.ref C_Over) = some false)
    (xt_NoDay_Short : PySem.W.kitOne K (.ref C_NoDay) (.ref C_Short) = some false)
    (xt_NoDay_Early : PySem.W.kitOne K (.ref C_NoDay) (.ref C_Early) = some false)
    (xt_NoDay_Open : PySem.W.kitOne K (.ref C_NoDay) (.ref C_Open) = some false)
    (xt_NoDay_NoLine : PySem.W.kitOne K (.ref C_NoDay) (.ref C_NoLine) = some false)
    (xt_NoDay_NoNumber : PySem.W.kitOne K (.ref C_NoDay) (.ref C_NoNumber) = some false)
    (xt_NoDay_NoRules : PySem.W.kitOne K (.ref C_NoDay) (.ref C_NoRules) = some false)
    (xt_NoDay_NoDate : PySem.W.kitOne K (.ref C_NoDay) (.ref C_NoDate) = some false)
    (xt_NoDay_NoDay : PySem.W.kitOne K (.ref C_NoDay) (.ref C_NoDay) = some true)
    (tc : cd14 = .ref ct) (tk : K.lookup ct = some ⟨occ, ocd, .fields vst, ocs⟩) (tp : vst[11]? = some (.ref Pt)) :
    ∃ (fd : FuncData) (tabs : List (Addr × Addr)), (∀ (s : Shared) (v : Value), BindsTo s fd ⟨[v], []⟩ [("_law_script", v)]) ∧ (["law"] : List Str).map (PySem.W.tabIn K) = tabs.map some ∧ (tabs.map (·.2)).Nodup ∧ ∀ base : Heap, LamW K mg base ["law"] → FnOk l.prog w K mg base CX0 8 fa fd P_law (spLawT K ["law"]) := by
  have e := hfa.symm.trans (PySem.W.mg_of X G a14)
  cases e
  have T : Txt K mg := { d_is_whole := ⟨f0, _, PySem.W.mg_of X G a0, fun_mk (st := top 39) l0 c0 k0, (fun_mk (st := top 39) l0 c0 k0).binds (ps := P_is_whole) fun _ _ _ _ _ _ us hl => match us, hl with | [_], _ => rfl⟩, d_is_within := ⟨f1, _, PySem.W.mg_of X G a1, fun_mk (st := top 40) l1 c1 k1, (fun_mk (st := top 40) l1 c1 k1).binds (ps := P_is_within) fun _ _ _ _ _ _ us hl => match us, hl with | [_, _, _], _ => rfl⟩, d_is_tuple_of := ⟨f2, _, PySem.W.mg_of X G a2, fun_mk (st := top 41) l2 c2 k2, (fun_mk (st := top 41) l2 c2 k2).binds (ps := P_is_tuple_of) fun _ _ _ _ _ _ us hl => match us, hl with | [_, _, _], _ => rfl⟩, d_is_day := ⟨f3, _, PySem.W.mg_of X G a3, fun_mk (st := top 46) l3 c3 k3, (fun_mk (st := top 46) l3 c3 k3).binds (ps := P_is_day) fun _ _ _ _ _ _ us hl => match us, hl with | [_], _ => rfl⟩, d_refuse_no_day := ⟨f4, _, PySem.W.mg_of X G a4, fun_mk (st := top 47) l4 c4 k4, (fun_mk (st := top 47) l4 c4 k4).binds (ps := P_refuse_no_day) fun _ _ _ _ _ _ us hl => match us, hl with | [_], _ => rfl⟩, d_date_of := ⟨f5, _, PySem.W.mg_of X G a5, fun_mk (st := top 48) l5 c5 k5, (fun_mk (st := top 48) l5 c5 k5).binds (ps := P_date_of) fun _ _ _ _ _ _ us hl => match us, hl with | [_], _ => rfl⟩, d_is_calendar_date := ⟨f6, _, PySem.W.mg_of X G a6, fun_mk (st := top 50) l6 c6 k6, (fun_mk (st := top 50) l6 c6 k6).binds (ps := P_is_calendar_date) fun _ _ _ _ _ _ us hl => match us, hl with | [_], _ => rfl⟩, d_day_of := ⟨f7, _, PySem.W.mg_of X G a7, fun_mk (st := top 49) l7 c7 k7, (fun_mk (st := top 49) l7 c7 k7).binds (ps := P_day_of) fun _ _ _ _ _ _ us hl => match us, hl with | [_], _ => rfl⟩, d_law_box := ⟨f8, _, PySem.W.mg_of X G a8, fun_mk (st := top 52) l8 c8 k8, (fun_mk (st := top 52) l8 c8 k8).binds (ps := P_law_box) fun _ _ _ _ _ _ us hl => match us, hl with | [_, _], _ => rfl⟩, d_law_more := ⟨f9, _, PySem.W.mg_of X G a9, fun_mk (st := top 53) l9 c9 k9, (fun_mk (st := top 53) l9 c9 k9).binds (ps := P_law_more) fun _ _ _ _ _ _ us hl => match us, hl with | [_], _ => rfl⟩, d_law_take := ⟨f10, _, PySem.W.mg_of X G a10, fun_mk (st := top 54) l10 c10 k10, (fun_mk (st := top 54) l10 c10 k10).binds (ps := P_law_take) fun _ _ _ _ _ _ us hl => match us, hl with | [_, _], _ => rfl⟩, d_law_word_of := ⟨f11, _, PySem.W.mg_of X G a11, fun_mk (st := top 55) l11 c11 k11, (fun_mk (st := top 55) l11 c11 k11).binds (ps := P_law_word_of) fun _ _ _ _ _ _ us hl => match us, hl with | [_], _ => rfl⟩, d_law_date := ⟨f12, _, PySem.W.mg_of X G a12, fun_mk (st := top 57) l12 c12 k12, (fun_mk (st := top 57) l12 c12 k12).binds (ps := P_law_date) fun _ _ _ _ _ _ us hl => match us, hl with | [_], _ => rfl⟩, d_law_said := ⟨f13, _, PySem.W.mg_of X G a13, fun_mk (st := top 56) l13 c13 k13, (fun_mk (st := top 56) l13 c13 k13).binds (ps := P_law_said) fun _ _ _ _ _ _ us hl => match us, hl with | [_], _ => rfl⟩, c_LAST_DAY := ⟨_, PySem.W.mg_of X G g_LAST_DAY⟩, c_MONTH_DAYS := ⟨_, PySem.W.mg_of X G g_MONTH_DAYS⟩, c_YEAR_MONTHS := ⟨_, PySem.W.mg_of X G g_YEAR_MONTHS⟩, n_ValueError := PySem.W.mg_none_of X G z_ValueError, n_abs := PySem.W.mg_none_of X G z_abs, n_bool := PySem.W.mg_none_of X G z_bool, n_divmod := PySem.W.mg_none_of X G z_divmod, n_int := PySem.W.mg_none_of X G z_int, n_isinstance := PySem.W.mg_none_of X G z_isinstance, n_len := PySem.W.mg_none_of X G z_len, n_max := PySem.W.mg_none_of X G z_max, n_min := PySem.W.mg_none_of X G z_min, n_range := PySem.W.mg_none_of X G z_range, n_repr := PySem.W.mg_none_of X G z_repr, n_tuple := PySem.W.mg_none_of X G z_tuple, isE := isE_of (List.forall_mem_cons.mpr ⟨⟨C_NoDate, PySem.W.mg_of X G gc_NoDate, xl_NoDate, xv_NoDate, List.forall_mem_cons.mpr ⟨⟨C_NoDay, PySem.W.mg_of X G gc_NoDay, xt_NoDate_NoDay⟩, List.forall_mem_cons.mpr ⟨⟨C_NoDate, PySem.W.mg_of X G gc_NoDate, xt_NoDate_NoDate⟩, List.forall_mem_cons.mpr ⟨⟨C_NoRules, PySem.W.mg_of X G gc_NoRules, xt_NoDate_NoRules⟩, List.forall_mem_cons.mpr ⟨⟨C_NoNumber, PySem.W.mg_of X G gc_NoNumber, xt_NoDate_NoNumber⟩, List.forall_mem_cons.mpr ⟨⟨C_NoLine, PySem.W.mg_of X G gc_NoLine, xt_NoDate_NoLine⟩, List.forall_mem_cons.mpr ⟨⟨C_Open, PySem.W.mg_of X G gc_Open, xt_NoDate_Open⟩, List.forall_mem_cons.mpr ⟨⟨C_Early, PySem.W.mg_of X G gc_Early, xt_NoDate_Early⟩, List.forall_mem_cons.mpr ⟨⟨C_Short, PySem.W.mg_of X G gc_Short, xt_NoDate_Short⟩, List.forall_mem_cons.mpr ⟨⟨C_Over, PySem.W.mg_of X G gc_Over, xt_NoDate_Over⟩, List.forall_mem_cons.mpr ⟨⟨C_Nothing, PySem.W.mg_of X G gc_Nothing, xt_NoDate_Nothing⟩, List.forall_mem_cons.mpr ⟨⟨C_NoCustom, PySem.W.mg_of X G gc_NoCustom, xt_NoDate_NoCustom⟩, List.forall_mem_cons.mpr ⟨⟨C_NoStep, PySem.W.mg_of X G gc_NoStep, xt_NoDate_NoStep⟩, List.forall_mem_cons.mpr ⟨⟨C_NoCoins, PySem.W.mg_of X G gc_NoCoins, xt_NoDate_NoCoins⟩, List.forall_mem_cons.mpr ⟨⟨C_NoWeights, PySem.W.mg_of X G gc_NoWeights, xt_NoDate_NoWeights⟩, List.forall_mem_cons.mpr ⟨⟨C_NoWay, PySem.W.mg_of X G gc_NoWay, xt_NoDate_NoWay⟩, List.forall_mem_cons.mpr ⟨⟨C_NoTable, PySem.W.mg_of X G gc_NoTable, xt_NoDate_NoTable⟩, List.forall_mem_cons.mpr ⟨⟨C_NoCode, PySem.W.mg_of X G gc_NoCode, xt_NoDate_NoCode⟩, List.forall_mem_cons.mpr ⟨⟨C_NoRoad, PySem.W.mg_of X G gc_NoRoad, xt_NoDate_NoRoad⟩, List.forall_mem_cons.mpr ⟨⟨C_NoBill, PySem.W.mg_of X G gc_NoBill, xt_NoDate_NoBill⟩, List.forall_mem_cons.mpr ⟨⟨C_NoPer, PySem.W.mg_of X G gc_NoPer, xt_NoDate_NoPer⟩, List.forall_mem_cons.mpr ⟨⟨C_NoBands, PySem.W.mg_of X G gc_NoBands, xt_NoDate_NoBands⟩, List.forall_mem_cons.mpr ⟨⟨C_NoGoal, PySem.W.mg_of X G gc_NoGoal, xt_NoDate_NoGoal⟩, List.forall_mem_cons.mpr ⟨⟨C_NoLoan, PySem.W.mg_of X G gc_NoLoan, xt_NoDate_NoLoan⟩, List.forall_mem_cons.mpr ⟨⟨C_NoAccount, PySem.W.mg_of X G gc_NoAccount, xt_NoDate_NoAccount⟩, List.forall_mem_cons.mpr ⟨⟨C_NoText, PySem.W.mg_of X G gc_NoText, xt_NoDate_NoText⟩, List.forall_mem_cons.mpr ⟨⟨C_NoRows, PySem.W.mg_of X G gc_NoRows, xt_NoDate_NoRows⟩, List.forall_mem_cons.mpr ⟨⟨C_NoBook, PySem.W.mg_of X G gc_NoBook, xt_NoDate_NoBook⟩, List.forall_mem_cons.mpr ⟨⟨C_NoPart, PySem.W.mg_of X G gc_NoPart, xt_NoDate_NoPart⟩, List.forall_mem_cons.mpr ⟨⟨C_NoDebts, PySem.W.mg_of X G gc_NoDebts, xt_NoDate_NoDebts⟩, List.forall_mem_cons.mpr ⟨⟨C_NoPerson, PySem.W.mg_of X G gc_NoPerson, xt_NoDate_NoPerson⟩, List.forall_mem_cons.mpr ⟨⟨C_NoMonths, PySem.W.mg_of X G gc_NoMonths, xt_NoDate_NoMonths⟩, List.forall_mem_cons.mpr ⟨⟨C_NoDays, PySem.W.mg_of X G gc_NoDays, xt_NoDate_NoDays⟩, List.forall_mem_cons.mpr ⟨⟨C_NoHouse, PySem.W.mg_of X G gc_NoHouse, xt_NoDate_NoHouse⟩, List.forall_mem_cons.mpr ⟨⟨C_NoPostings, PySem.W.mg_of X G gc_NoPostings, xt_NoDate_NoPostings⟩, List.forall_mem_cons.mpr ⟨⟨C_NoThing, PySem.W.mg_of X G gc_NoThing, xt_NoDate_NoThing⟩, List.forall_mem_cons.mpr ⟨⟨C_NotNow, PySem.W.mg_of X G gc_NotNow, xt_NoDate_NotNow⟩, fun _ z => absurd z List.not_mem_nil⟩⟩⟩⟩⟩⟩⟩⟩⟩⟩⟩⟩⟩⟩⟩⟩⟩⟩⟩⟩⟩⟩⟩⟩⟩⟩⟩⟩⟩⟩⟩⟩⟩⟩⟩⟩⟩, List.forall_mem_cons.mpr ⟨⟨C_NoDay, PySem.W.mg_of X G gc_NoDay, xl_NoDay, xv_NoDay, List.forall_mem_cons.mpr ⟨⟨C_NoDay, PySem.W.mg_of X G gc_NoDay, xt_NoDay_NoDay⟩, List.forall_mem_cons.mpr ⟨⟨C_NoDate, PySem.W.mg_of X G gc_NoDate, xt_NoDay_NoDate⟩, List.forall_mem_cons.mpr ⟨⟨C_NoRules, PySem.W.mg_of X G gc_NoRules, xt_NoDay_NoRules⟩, List.forall_mem_cons.mpr ⟨⟨C_NoNumber, PySem.W.mg_of X G gc_NoNumber, xt_NoDay_NoNumber⟩, List.forall_mem_cons.mpr ⟨⟨C_NoLine, PySem.W.mg_of X G gc_NoLine, xt_NoDay_NoLine⟩, List.forall_mem_cons.mpr ⟨⟨C_Open, PySem.W.mg_of X G gc_Open, xt_NoDay_Open⟩, List.forall_mem_cons.mpr ⟨⟨C_Early, PySem.W.mg_of X G gc_Early, xt_NoDay_Early⟩, List.forall_mem_cons.mpr ⟨⟨C_Short, PySem.W.mg_of X G gc_Short, xt_NoDay_Short⟩, List.forall_mem_cons.mpr ⟨⟨C_Over, PySem.W.mg_of X G gc_Over, xt_NoDay_Over⟩, List.forall_mem_cons.mpr ⟨⟨C_Nothing, PySem.W.mg_of X G gc_Nothing, xt_NoDay_Nothing⟩, List.forall_mem_cons.mpr ⟨⟨C_NoCustom, PySem.W.mg_of X G gc_NoCustom, xt_NoDay_NoCustom⟩, List.forall_mem_cons.mpr ⟨⟨C_NoStep, PySem.W.mg_of X G gc_NoStep, xt_NoDay_NoStep⟩, List.forall_mem_cons.mpr ⟨⟨C_NoCoins, PySem.W.mg_of X G gc_NoCoins, xt_NoDay_NoCoins⟩, List.forall_mem_cons.mpr ⟨⟨C_NoWeights, PySem.W.mg_of X G gc_NoWeights, xt_NoDay_NoWeights⟩, List.forall_mem_cons.mpr ⟨⟨C_NoWay, PySem.W.mg_of X G gc_NoWay, xt_NoDay_NoWay⟩, List.forall_mem_cons.mpr ⟨⟨C_NoTable, PySem.W.mg_of X G gc_NoTable, xt_NoDay_NoTable⟩, List.forall_mem_cons.mpr ⟨⟨C_NoCode, PySem.W.mg_of X G gc_NoCode, xt_NoDay_NoCode⟩, List.forall_mem_cons.mpr ⟨⟨C_NoRoad, PySem.W.mg_of X G gc_NoRoad, xt_NoDay_NoRoad⟩, List.forall_mem_cons.mpr ⟨⟨C_NoBill, PySem.W.mg_of X G gc_NoBill, xt_NoDay_NoBill⟩, List.forall_mem_cons.mpr ⟨⟨C_NoPer, PySem.W.mg_of X G gc_NoPer, xt_NoDay_NoPer⟩, List.forall_mem_cons.mpr ⟨⟨C_NoBands, PySem.W.mg_of X G gc_NoBands, xt_NoDay_NoBands⟩, List.forall_mem_cons.mpr ⟨⟨C_NoGoal, PySem.W.mg_of X G gc_NoGoal, xt_NoDay_NoGoal⟩, List.forall_mem_cons.mpr ⟨⟨C_NoLoan, PySem.W.mg_of X G gc_NoLoan, xt_NoDay_NoLoan⟩, List.forall_mem_cons.mpr ⟨⟨C_NoAccount, PySem.W.mg_of X G gc_NoAccount, xt_NoDay_NoAccount⟩, List.forall_mem_cons.mpr ⟨⟨C_NoText, PySem.W.mg_of X G gc_NoText, xt_NoDay_NoText⟩, List.forall_mem_cons.mpr ⟨⟨C_NoRows, PySem.W.mg_of X G gc_NoRows, xt_NoDay_NoRows⟩, List.forall_mem_cons.mpr ⟨⟨C_NoBook, PySem.W.mg_of X G gc_NoBook, xt_NoDay_NoBook⟩, List.forall_mem_cons.mpr ⟨⟨C_NoPart, PySem.W.mg_of X G gc_NoPart, xt_NoDay_NoPart⟩, List.forall_mem_cons.mpr ⟨⟨C_NoDebts, PySem.W.mg_of X G gc_NoDebts, xt_NoDay_NoDebts⟩, List.forall_mem_cons.mpr ⟨⟨C_NoPerson, PySem.W.mg_of X G gc_NoPerson, xt_NoDay_NoPerson⟩, List.forall_mem_cons.mpr ⟨⟨C_NoMonths, PySem.W.mg_of X G gc_NoMonths, xt_NoDay_NoMonths⟩, List.forall_mem_cons.mpr ⟨⟨C_NoDays, PySem.W.mg_of X G gc_NoDays, xt_NoDay_NoDays⟩, List.forall_mem_cons.mpr ⟨⟨C_NoHouse, PySem.W.mg_of X G gc_NoHouse, xt_NoDay_NoHouse⟩, List.forall_mem_cons.mpr ⟨⟨C_NoPostings, PySem.W.mg_of X G gc_NoPostings, xt_NoDay_NoPostings⟩, List.forall_mem_cons.mpr ⟨⟨C_NoThing, PySem.W.mg_of X G gc_NoThing, xt_NoDay_NoThing⟩, List.forall_mem_cons.mpr ⟨⟨C_NotNow, PySem.W.mg_of X G gc_NotNow, xt_NoDay_NotNow⟩, fun _ z => absurd z List.not_mem_nil⟩⟩⟩⟩⟩⟩⟩⟩⟩⟩⟩⟩⟩⟩⟩⟩⟩⟩⟩⟩⟩⟩⟩⟩⟩⟩⟩⟩⟩⟩⟩⟩⟩⟩⟩⟩⟩, fun _ z => absurd z List.not_mem_nil⟩⟩), sub := subOk_of ⟨C_CoinError, ⟨PySem.W.mg_of X G gc_CoinError, xk_CoinError⟩, List.forall_mem_cons.mpr ⟨⟨C_NoDate, ⟨PySem.W.mg_of X G gc_NoDate, xk_NoDate⟩, xm_NoDate⟩, List.forall_mem_cons.mpr ⟨⟨C_NoDay, ⟨PySem.W.mg_of X G gc_NoDay, xk_NoDay⟩, xm_NoDay⟩, fun _ z => absurd z List.not_mem_nil⟩⟩⟩, m_Early := ⟨_, PySem.W.mg_of X G gc_Early⟩, m_NoAccount := ⟨_, PySem.W.mg_of X G gc_NoAccount⟩, m_NoBands := ⟨_, PySem.W.mg_of X G gc_NoBands⟩, m_NoBill := ⟨_, PySem.W.mg_of X G gc_NoBill⟩, m_NoBook := ⟨_, PySem.W.mg_of X G gc_NoBook⟩, m_NoCode := ⟨_, PySem.W.mg_of X G gc_NoCode⟩, m_NoCoins := ⟨_, PySem.W.mg_of X G gc_NoCoins⟩, m_NoCustom := ⟨_, PySem.W.mg_of X G gc_NoCustom⟩, m_NoDate := ⟨_, PySem.W.mg_of X G gc_NoDate⟩, m_NoDay := ⟨_, PySem.W.mg_of X G gc_NoDay⟩, m_NoDays := ⟨_, PySem.W.mg_of X G gc_NoDays⟩, m_NoDebts := ⟨_, PySem.W.mg_of X G gc_NoDebts⟩, m_NoGoal := ⟨_, PySem.W.mg_of X G gc_NoGoal⟩, m_NoHouse := ⟨_, PySem.W.mg_of X G gc_NoHouse⟩, m_NoLine := ⟨_, PySem.W.mg_of X G gc_NoLine⟩, m_NoLoan := ⟨_, PySem.W.mg_of X G gc_NoLoan⟩, m_NoMonths := ⟨_, PySem.W.mg_of X G gc_NoMonths⟩, m_NoNumber := ⟨_, PySem.W.mg_of X G gc_NoNumber⟩, m_NoPart := ⟨_, PySem.W.mg_of X G gc_NoPart⟩, m_NoPer := ⟨_, PySem.W.mg_of X G gc_NoPer⟩, m_NoPerson := ⟨_, PySem.W.mg_of X G gc_NoPerson⟩, m_NoPostings := ⟨_, PySem.W.mg_of X G gc_NoPostings⟩, m_NoRoad := ⟨_, PySem.W.mg_of X G gc_NoRoad⟩, m_NoRows := ⟨_, PySem.W.mg_of X G gc_NoRows⟩, m_NoRules := ⟨_, PySem.W.mg_of X G gc_NoRules⟩, m_NoStep := ⟨_, PySem.W.mg_of X G gc_NoStep⟩, m_NoTable := ⟨_, PySem.W.mg_of X G gc_NoTable⟩, m_NoText := ⟨_, PySem.W.mg_of X G gc_NoText⟩, m_NoThing := ⟨_, PySem.W.mg_of X G gc_NoThing⟩, m_NoWay := ⟨_, PySem.W.mg_of X G gc_NoWay⟩, m_NoWeights := ⟨_, PySem.W.mg_of X G gc_NoWeights⟩, m_NotNow := ⟨_, PySem.W.mg_of X G gc_NotNow⟩, m_Nothing := ⟨_, PySem.W.mg_of X G gc_Nothing⟩, m_Open := ⟨_, PySem.W.mg_of X G gc_Open⟩, m_Over := ⟨_, PySem.W.mg_of X G gc_Over⟩, m_Short := ⟨_, PySem.W.mg_of X G gc_Short⟩, e_NoDate := ⟨_, PySem.W.mg_of X G gc_NoDate, xk_NoDate⟩, e_NoDay := ⟨_, PySem.W.mg_of X G gc_NoDay, xk_NoDay⟩ }
  exact ⟨PySem.W.fnOf "law" "law" (defArgs (top 58)) (defBody (top 58)) (defScope (top 58)) .none kV14 dc14 pm14 an14 cd14 ct14, [(ct, Pt)], fun s v => .of_eq rfl, by simp only [List.map_cons, List.map_nil, tabIn_of a14 l14 tc tk tp], List.nodup_cons.mpr ⟨List.not_mem_nil, List.nodup_nil⟩, fun base W => ok_law (fun_mk (st := top 58) l14 c14 k14) (PySem.W.mg_of X G a14) W T⟩
theorem walk {l : PySem.W.OpenLaw} {q : Program} {loose : List Str} {XP : (Str → Option Value) → Heap → Prop} {YP : World → Heap → Prop} {d : DefRec} {K : Params → PySem.W.Frag} (hn : l.most = some 63) (hdf : d.params.defaults = [])
    (hY : ∀ (w : World) (h : Heap), YP w h → (K w.params).In h) (hnK : ∀ w : World, PySem.W.noTabs (K w.params) = true) (hrec : ∀ x ∈ (["law"] : List Str), ((PyProof.Rows.recsOf q).find? fun e => e.name == x).isSome = true)
    (F : ∀ (w : World) (mg : Str → Option Value) (fa : Addr) (h : Heap), (K w.params).In h → h.Ns mainGlobals mg → mg d.name = some (.ref fa) →
      ∃ (fd : FuncData) (tabs : List (Addr × Addr)), (∀ (s : Shared) (u : Value), BindsTo s fd ⟨[u], []⟩ [("_law_script", u)]) ∧ (["law"] : List Str).map (PySem.W.tabIn (K w.params)) = tabs.map some ∧ (tabs.map (·.2)).Nodup ∧ ∀ base : Heap, LamW (K w.params) mg base ["law"] → FnOk l.prog w (K w.params) mg base CX0 8 fa fd P_law (spLawT (K w.params) ["law"])) :
    PySem.W.WalkO q loose XP YP l.row.toRowW d [] (fun f vs => PySem.call f vs) :=
  L2.Dm.walk_ofT (k := 8) (x := "_law_script") hn hdf ⟨rfl, by decide, by decide, rfl⟩ hY hnK hrec F
end My
open PySem PySem.W PyProof.Rows
set_option maxRecDepth 100000 in
set_option maxHeartbeats 0 in
theorem PySem.Challenge.cw_coinlaw_k01_days_and_dates_holds : PySem.Challenge.rw_coinlaw_k01_days_and_dates.Holds := by
  w_on; o_law; k_head; (case hw => w_witness2)
  k_fill
  refine My.walk (l := PySem.Challenge.rw_coinlaw_k01_days_and_dates) rfl rfl (fun w h Y => PySem.W.km_in_of Y) ?kNt ?kRc ?F
  case kNt => intro w; kernel_rfl
  case kRc => intro x hx; simp only [List.mem_cons, List.not_mem_nil, or_false] at hx; subst hx; kernel_rfl
  case F =>
    intro w mg fa h KX G hmg
    refine' My.all_mk KX G hmg ?a0 ?l0 ?c0 ?k0 ?a1 ?l1 ?c1 ?k1 ?a2 ?l2 ?c2 ?k2 ?a3 ?l3 ?c3 ?k3 ?a4 ?l4 ?c4 ?k4 ?a5 ?l5 ?c5 ?k5 ?a6 ?l6 ?c6 ?k6 ?a7 ?l7 ?c7 ?k7 ?a8 ?l8 ?c8 ?k8 ?a9 ?l9 ?c9 ?k9 ?a10 ?l10 ?c10 ?k10 ?a11 ?l11 ?c11 ?k11 ?a12 ?l12 ?c12 ?k12 ?a13 ?l13 ?c13 ?k13 ?a14 ?l14 ?c14 ?k14 ?g_LAST_DAY ?g_MONTH_DAYS ?g_YEAR_MONTHS ?z_ValueError ?z_abs ?z_bool ?z_divmod ?z_int ?z_isinstance ?z_len ?z_max ?z_min ?z_range ?z_repr ?z_tuple ?gc_CoinError ?gc_Early ?gc_NoAccount ?gc_NoBands ?gc_NoBill ?gc_NoBook ?gc_NoCode ?gc_NoCoins ?gc_NoCustom ?gc_NoDate ?gc_NoDay ?gc_NoDays ?gc_NoDebts ?gc_NoGoal ?gc_NoHouse ?gc_NoLine ?gc_NoLoan ?gc_NoMonths ?gc_NoNumber ?gc_NoPart ?gc_NoPer ?gc_NoPerson ?gc_NoPostings ?gc_NoRoad ?gc_NoRows ?gc_NoRules ?gc_NoStep ?gc_NoTable ?gc_NoText ?gc_NoThing ?gc_NoWay ?gc_NoWeights ?gc_NotNow ?gc_Nothing ?gc_Open ?gc_Over ?gc_Short ?xk_CoinError ?xk_NoDate ?xk_NoDay ?xl_NoDate ?xm_NoDate ?xv_NoDate ?xt_NoDate_NotNow ?xt_NoDate_NoThing ?xt_NoDate_NoPostings ?xt_NoDate_NoHouse ?xt_NoDate_NoDays ?xt_NoDate_NoMonths ?xt_NoDate_NoPerson ?xt_NoDate_NoDebts ?xt_NoDate_NoPart ?xt_NoDate_NoBook ?xt_NoDate_NoRows ?xt_NoDate_NoText ?xt_NoDate_NoAccount ?xt_NoDate_NoLoan ?xt_NoDate_NoGoal ?xt_NoDate_NoBands ?xt_NoDate_NoPer ?xt_NoDate_NoBill ?xt_NoDate_NoRoad ?xt_NoDate_NoCode ?xt_NoDate_NoTable ?xt_NoDate_NoWay ?xt_NoDate_NoWeights ?xt_NoDate_NoCoins ?xt_NoDate_NoStep ?xt_NoDate_NoCustom ?xt_NoDate_Nothing ?xt_NoDate_Over ?xt_NoDate_Short ?xt_NoDate_Early ?xt_NoDate_Open ?xt_NoDate_NoLine ?xt_NoDate_NoNumber ?xt_NoDate_NoRules ?xt_NoDate_NoDate ?xt_NoDate_NoDay ?xl_NoDay ?xm_NoDay ?xv_NoDay ?xt_NoDay_NotNow ?xt_NoDay_NoThing ?xt_NoDay_NoPostings ?xt_NoDay_NoHouse ?xt_NoDay_NoDays ?xt_NoDay_NoMonths ?xt_NoDay_NoPerson ?xt_NoDay_NoDebts ?xt_NoDay_NoPart ?xt_NoDay_NoBook ?xt_NoDay_NoRows ?xt_NoDay_NoText ?xt_NoDay_NoAccount ?xt_NoDay_NoLoan ?xt_NoDay_NoGoal ?xt_NoDay_NoBands ?xt_NoDay_NoPer ?xt_NoDay_NoBill ?xt_NoDay_NoRoad ?xt_NoDay_NoCode ?xt_NoDay_NoTable ?xt_NoDay_NoWay ?xt_NoDay_NoWeights ?xt_NoDay_NoCoins ?xt_NoDay_NoStep ?xt_NoDay_NoCustom ?xt_NoDay_Nothing ?xt_NoDay_Over ?xt_NoDay_Short ?xt_NoDay_Early ?xt_NoDay_Open ?xt_NoDay_NoLine ?xt_NoDay_NoNumber ?xt_NoDay_NoRules ?xt_NoDay_NoDate ?xt_NoDay_NoDay ?tc ?tk ?tp
    (case a0 => k_is)
    (case l0 => k_is)
    (case c0 => k_is)
    (case k0 => k_is)
    (case a1 => k_is)
    (case l1 => k_is)
    (case c1 => k_is)
    (case k1 => k_is)
    (case a2 => k_is)
    (case l2 => k_is)
    (case c2 => k_is)
    (case k2 => k_is)
    (case a3 => k_is)
    (case l3 => k_is)
    (case c3 => k_is)
    (case k3 => k_is)
    (case a4 => k_is)
    (case l4 => k_is)
    (case c4 => k_is)
    (case k4 => k_is)
    (case a5 => k_is)
    (case l5 => k_is)
    (case c5 => k_is)
    (case k5 => k_is)
    (case a6 => k_is)
    (case l6 => k_is)
    (case c6 => k_is)
    (case k6 => k_is)
    (case a7 => k_is)
    (case l7 => k_is)
    (case c7 => k_is)
    (case k7 => k_is)
    (case a8 => k_is)
    (case l8 => k_is)
    (case c8 => k_is)
    (case k8 => k_is)
    (case a9 => k_is)
    (case l9 => k_is)
    (case c9 => k_is)
    (case k9 => k_is)
    (case a10 => k_is)
    (case l10 => k_is)
    (case c10 => k_is)
    (case k10 => k_is)
    (case a11 => k_is)
    (case l11 => k_is)
    (case c11 => k_is)
    (case k11 => k_is)
    (case a12 => k_is)
    (case l12 => k_is)
    (case c12 => k_is)
    (case k12 => k_is)
    (case a13 => k_is)
    (case l13 => k_is)
    (case c13 => k_is)
    (case k13 => k_is)
    (case a14 => k_is)
    (case l14 => k_is)
    (case c14 => k_is)
    (case k14 => k_is)
    (case g_LAST_DAY => k_is)
    (case g_MONTH_DAYS => k_is)
    (case g_YEAR_MONTHS => k_is)
    (case z_ValueError => k_is)
    (case z_abs => k_is)
    (case z_bool => k_is)
    (case z_divmod => k_is)
    (case z_int => k_is)
    (case z_isinstance => k_is)
    (case z_len => k_is)
    (case z_max => k_is)
    (case z_min => k_is)
    (case z_range => k_is)
    (case z_repr => k_is)
    (case z_tuple => k_is)
    (case gc_CoinError => k_is)
    (case gc_Early => k_is)
    (case gc_NoAccount => k_is)
    (case gc_NoBands => k_is)
    (case gc_NoBill => k_is)
    (case gc_NoBook => k_is)
    (case gc_NoCode => k_is)
    (case gc_NoCoins => k_is)
    (case gc_NoCustom => k_is)
    (case gc_NoDate => k_is)
    (case gc_NoDay => k_is)
    (case gc_NoDays => k_is)
    (case gc_NoDebts => k_is)
    (case gc_NoGoal => k_is)
    (case gc_NoHouse => k_is)
    (case gc_NoLine => k_is)
    (case gc_NoLoan => k_is)
    (case gc_NoMonths => k_is)
    (case gc_NoNumber => k_is)
    (case gc_NoPart => k_is)
    (case gc_NoPer => k_is)
    (case gc_NoPerson => k_is)
    (case gc_NoPostings => k_is)
    (case gc_NoRoad => k_is)
    (case gc_NoRows => k_is)
    (case gc_NoRules => k_is)
    (case gc_NoStep => k_is)
    (case gc_NoTable => k_is)
    (case gc_NoText => k_is)
    (case gc_NoThing => k_is)
    (case gc_NoWay => k_is)
    (case gc_NoWeights => k_is)
    (case gc_NotNow => k_is)
    (case gc_Nothing => k_is)
    (case gc_Open => k_is)
    (case gc_Over => k_is)
    (case gc_Short => k_is)
    (case xk_CoinError => first | k_exc | kernel_rfl)
    (case xk_NoDate => first | k_exc | kernel_rfl)
    (case xk_NoDay => first | k_exc | kernel_rfl)
    (case xl_NoDate => exact ⟨by first | k_is | kernel_rfl, by first | k_is | kernel_rfl, by first | k_is | kernel_rfl, by first | k_is | kernel_rfl, by first | k_is | kernel_rfl, by first | k_is | kernel_rfl, by first | k_is | kernel_rfl, by first | k_is | kernel_rfl⟩)
    (case xm_NoDate => first | k_is | kernel_rfl)
    (case xv_NoDate => first | kit_is | kernel_rfl)
    (case xt_NoDate_NotNow => first | kit_is | kernel_rfl)
    (case xt_NoDate_NoThing => first | kit_is | kernel_rfl)
    (case xt_NoDate_NoPostings => first | kit_is | kernel_rfl)
    (case xt_NoDate_NoHouse => first | kit_is | kernel_rfl)
    (case xt_NoDate_NoDays => first | kit_is | kernel_rfl)
    (case xt_NoDate_NoMonths => first | kit_is | kernel_rfl)
    (case xt_NoDate_NoPerson => first | kit_is | kernel_rfl)
    (case xt_NoDate_NoDebts => first | kit_is | kernel_rfl)
    (case xt_NoDate_NoPart => first | kit_is | kernel_rfl)
    (case xt_NoDate_NoBook => first | kit_is | kernel_rfl)
    (case xt_NoDate_NoRows => first | kit_is | kernel_rfl)
    (case xt_NoDate_NoText => first | kit_is | kernel_rfl)
    (case xt_NoDate_NoAccount => first | kit_is | kernel_rfl)
    (case xt_NoDate_NoLoan => first | kit_is | kernel_rfl)
    (case xt_NoDate_NoGoal => first | kit_is | kernel_rfl)
    (case xt_NoDate_NoBands => first | kit_is | kernel_rfl)
    (case xt_NoDate_NoPer => first | kit_is | kernel_rfl)
    (case xt_NoDate_NoBill => first | kit_is | kernel_rfl)
    (case xt_NoDate_NoRoad => first | kit_is | kernel_rfl)
    (case xt_NoDate_NoCode => first | kit_is | kernel_rfl)
    (case xt_NoDate_NoTable => first | kit_is | kernel_rfl)
    (case xt_NoDate_NoWay => first | kit_is | kernel_rfl)
    (case xt_NoDate_NoWeights => first | kit_is | kernel_rfl)
    (case xt_NoDate_NoCoins => first | kit_is | kernel_rfl)
    (case xt_NoDate_NoStep => first | kit_is | kernel_rfl)
    (case xt_NoDate_NoCustom => first | kit_is | kernel_rfl)
    (case xt_NoDate_Nothing => first | kit_is | kernel_rfl)
    (case xt_NoDate_Over => first | kit_is | kernel_rfl)
    (case xt_NoDate_Short => first | kit_is | kernel_rfl)
    (case xt_NoDate_Early => first | kit_is | kernel_rfl)
    (case xt_NoDate_Open => first | kit_is | kernel_rfl)
    (case xt_NoDate_NoLine => first | kit_is | kernel_rfl)
    (case xt_NoDate_NoNumber => first | kit_is | kernel_rfl)
    (case xt_NoDate_NoRules => first | kit_is | kernel_rfl)
    (case xt_NoDate_NoDate => first | kit_is | kernel_rfl)
    (case xt_NoDate_NoDay => first | kit_is | kernel_rfl)
    (case xl_NoDay => exact ⟨by first | k_is | kernel_rfl, by first | k_is | kernel_rfl, by first | k_is | kernel_rfl, by first | k_is | kernel_rfl, by first | k_is | kernel_rfl, by first | k_is | kernel_rfl, by first | k_is | kernel_rfl, by first | k_is | kernel_rfl⟩)
    (case xm_NoDay => first | k_is | kernel_rfl)
    (case xv_NoDay => first | kit_is | kernel_rfl)
    (case xt_NoDay_NotNow => first | kit_is | kernel_rfl)
    (case xt_NoDay_NoThing => first | kit_is | kernel_rfl)
    (case xt_NoDay_NoPostings => first | kit_is | kernel_rfl)
    (case xt_NoDay_NoHouse => first | kit_is | kernel_rfl)
    (case xt_NoDay_NoDays => first | kit_is | kernel_rfl)
    (case xt_NoDay_NoMonths => first | kit_is | kernel_rfl)
    (case xt_NoDay_NoPerson => first | kit_is | kernel_rfl)
    (case xt_NoDay_NoDebts => first | kit_is | kernel_rfl)
    (case xt_NoDay_NoPart => first | kit_is | kernel_rfl)
    (case xt_NoDay_NoBook => first | kit_is | kernel_rfl)
    (case xt_NoDay_NoRows => first | kit_is | kernel_rfl)
    (case xt_NoDay_NoText => first | kit_is | kernel_rfl)
    (case xt_NoDay_NoAccount => first | kit_is | kernel_rfl)
    (case xt_NoDay_NoLoan => first | kit_is | kernel_rfl)
    (case xt_NoDay_NoGoal => first | kit_is | kernel_rfl)
    (case xt_NoDay_NoBands => first | kit_is | kernel_rfl)
    (case xt_NoDay_NoPer => first | kit_is | kernel_rfl)
    (case xt_NoDay_NoBill => first | kit_is | kernel_rfl)
    (case xt_NoDay_NoRoad => first | kit_is | kernel_rfl)
    (case xt_NoDay_NoCode => first | kit_is | kernel_rfl)
    (case xt_NoDay_NoTable => first | kit_is | kernel_rfl)
    (case xt_NoDay_NoWay => first | kit_is | kernel_rfl)
    (case xt_NoDay_NoWeights => first | kit_is | kernel_rfl)
    (case xt_NoDay_NoCoins => first | kit_is | kernel_rfl)
    (case xt_NoDay_NoStep => first | kit_is | kernel_rfl)
    (case xt_NoDay_NoCustom => first | kit_is | kernel_rfl)
    (case xt_NoDay_Nothing => first | kit_is | kernel_rfl)
    (case xt_NoDay_Over => first | kit_is | kernel_rfl)
    (case xt_NoDay_Short => first | kit_is | kernel_rfl)
    (case xt_NoDay_Early => first | kit_is | kernel_rfl)
    (case xt_NoDay_Open => first | kit_is | kernel_rfl)
    (case xt_NoDay_NoLine => first | kit_is | kernel_rfl)
    (case xt_NoDay_NoNumber => first | kit_is | kernel_rfl)
    (case xt_NoDay_NoRules => first | kit_is | kernel_rfl)
    (case xt_NoDay_NoDate => first | kit_is | kernel_rfl)
    (case xt_NoDay_NoDay => first | kit_is | kernel_rfl)
    (case tc => rfl)
    (case tk => k_is)
    (case tp => rfl)
