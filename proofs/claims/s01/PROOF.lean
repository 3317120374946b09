import PyProof.Rows.All
import Wide.All
import OpenK.AllK
import Wide.FinOn
import PyProof.EqAt
import PyProof.EqKinds
import PyProof.TupleCall
import KE.BitLaws
import Open.SpecLaws
import KE.OsHead
import KE.OsGo
import PySem.Challenge.RW_editedlex_s01_answers
set_option Elab.async false
set_option linter.all false
set_option maxRecDepth 100000
/-! THE HAND LAYER, for ints, bools, texts, own classes, lists, tuples, dicts, comprehensions, walks over dicts, enumerate, zip, reversed, texts, calls, loops. Paste it whole ahead of your own text; what your proof does not reach may be deleted. -/
namespace L2
open PySem PySem.Spec PyProof.Rows

/-- a key: an int or a str -/
abbrev Key := Sum Int Str
def keyIs : Key → Value → Bool
  | .inl k, v => Value.isInt k v
  | .inr x, v => Value.isStrOf x v
def keyH (w : World) : Key → Int
  | .inl k => hashInt k
  | .inr x => hashStr w x
theorem keyIs_shape : ∀ {k : Key} {v : Value}, keyIs k v = true → (∃ i t, k = Sum.inl i ∧ v = Value.int i t) ∨ (∃ x t, k = Sum.inr x ∧ v = Value.str x t)
  | .inl i, v, h => by
    obtain ⟨t, e⟩ := Value.isInt_shape (k := i) (v := v) h
    exact .inl ⟨i, t, rfl, e⟩
  | .inr x, v, h => by
    obtain ⟨t, e⟩ := Value.isStrOf_shape (x := x) (v := v) h
    exact .inr ⟨x, t, rfl, e⟩
theorem keyIs_int (i : Int) (t : Tok) : keyIs (.inl i) (.int i t) = true := by simp [keyIs, Value.isInt]
theorem keyIs_str (x : Str) (t : Tok) : keyIs (.inr x) (.str x t) = true := by simp [keyIs, Value.isStrOf]
theorem key_ll (a b : Int) : decide ((Sum.inl a : Key) = Sum.inl b) = (a == b) := by
  by_cases e : a = b
  · subst e; simp
  · have h : ¬ (Sum.inl a : Key) = Sum.inl b := fun q => e (Sum.inl.inj q)
    rw [decide_eq_false h]
    exact (beq_eq_false_iff_ne.mpr e).symm
theorem key_rr (a b : Str) : decide ((Sum.inr a : Key) = Sum.inr b) = decide (a = b) := by
  by_cases e : a = b
  · subst e; simp
  · have h : ¬ (Sum.inr a : Key) = Sum.inr b := fun q => e (Sum.inr.inj q)
    rw [decide_eq_false h, decide_eq_false e]
theorem key_lr (a : Int) (b : Str) : decide ((Sum.inl a : Key) = Sum.inr b) = false := decide_eq_false (fun q => nomatch q)
theorem key_rl (a : Str) (b : Int) : decide ((Sum.inr a : Key) = Sum.inl b) = false := decide_eq_false (fun q => nomatch q)

def mixKind (prog : Program) (w : World) : PySem.KeyKind prog w Key where
  is := keyIs
  hash := keyH w
  inj := fun v a b ha hb => by
    rcases keyIs_shape ha with ⟨i, t, rfl, rfl⟩ | ⟨x, t, rfl, rfl⟩
    · rcases keyIs_shape hb with ⟨j, u, rfl, e⟩ | ⟨y, u, rfl, e⟩
      · injection e with e1 _; rw [e1]
      · exact nomatch e
    · rcases keyIs_shape hb with ⟨j, u, rfl, e⟩ | ⟨y, u, rfl, e⟩
      · exact nomatch e
      · injection e with e1 _; rw [e1]
  byValue := fun k v h => by
    rcases keyIs_shape h with ⟨i, t, rfl, rfl⟩ | ⟨x, t, rfl, rfl⟩ <;> rfl
  pyHash := fun hv h => by
    rcases keyIs_shape hv with ⟨i, t, rfl, rfl⟩ | ⟨x, t, rfl, rfl⟩
    · exact wpAny_pyHash_int h
    · exact wpAny_pyHash_str h
  eqBool := fun hu hv h => by
    rcases keyIs_shape hu with ⟨i, t, rfl, rfl⟩ | ⟨x, t, rfl, rfl⟩
    · rcases keyIs_shape hv with ⟨j, u, rfl, rfl⟩ | ⟨y, u, rfl, rfl⟩
      · rw [key_ll] at h; exact wpAny_eqBool_int h
      · rw [key_lr] at h; exact SeqAt.EqAt.int_str i t y u _ _ _ _ h
    · rcases keyIs_shape hv with ⟨j, u, rfl, rfl⟩ | ⟨y, u, rfl, rfl⟩
      · rw [key_rl] at h; exact SeqAt.EqAt.str_int x t j u _ _ _ _ h
      · rw [key_rr] at h; exact wpAny_eqBool_str h
  «strs» := fun k x t v h => by
    rcases keyIs_shape h with ⟨i, u, rfl, e⟩ | ⟨y, u, rfl, e⟩
    · exact nomatch e
    · injection e with e1 _
      subst e1
      cases v <;> rfl

theorem mixKind_int (prog : Program) (w : World) (i : Int) (t : Tok) : (mixKind prog w).is (.inl i) (.int i t) = true := keyIs_int i t
theorem mixKind_str (prog : Program) (w : World) (x : Str) (t : Tok) : (mixKind prog w).is (.inr x) (.str x t) = true := keyIs_str x t
end L2

namespace L2
open PySem PySem.Spec PyProof.Rows

/-- a value, without the heap -/
inductive V where
  | non | bl (b : Bool) | int (i : Int) | str (x : Str) | byt (b : Array UInt8) | flt (b : UInt64) | ref (a : Addr) | ty (n : String)
  deriving DecidableEq

def RelV : V → Value → Prop
  | .non, u => u = Value.none
  | .bl b, u => u = Value.bool b
  | .int i, u => ∃ t, u = Value.int i t
  | .str x, u => ∃ t, u = Value.str x t
  | .byt b, u => ∃ t, u = Value.bytes b t
  | .flt b, u => ∃ t, u = Value.float b t
  | .ref a, u => u = Value.ref a
  | .ty n, u => u = Value.type n

abbrev Vals : List V → List Value → Prop := Paired RelV
theorem Vals.length {xs : List V} {us : List Value} (r : Vals xs us) : xs.length = us.length := Paired.length r
theorem Vals.get : ∀ {xs : List V} {us : List Value} {i : Nat} {x : V}, Vals xs us → xs[i]? = some x → ∃ u, us[i]? = some u ∧ RelV x u
  | _, _, _, _, .nil, e => by simp at e
  | _, _, 0, _, .cons r _, e => by simp at e; subst e; exact ⟨_, rfl, r⟩
  | _, _, i + 1, x, .cons _ t, e => by
    obtain ⟨u, h1, h2⟩ := Vals.get (i := i) (x := x) t (by simpa using e)
    exact ⟨u, by simpa using h1, h2⟩
theorem Vals.set {x : V} {u : Value} (r : RelV x u) : ∀ {xs : List V} {us : List Value} (i : Nat), Vals xs us → Vals (xs.set i x) (us.set i u)
  | _, _, _, .nil => .nil
  | _, _, 0, .cons _ t => .cons r t
  | _, _, i + 1, .cons q t => .cons q (Vals.set r i t)
theorem Vals.append : ∀ {xs ys : List V} {us ws : List Value}, Vals xs us → Vals ys ws → Vals (xs ++ ys) (us ++ ws)
  | _, _, _, _, .nil, s => s
  | _, _, _, _, .cons r t, s => .cons r (Vals.append t s)
theorem Vals.take : ∀ {xs : List V} {us : List Value} (n : Nat), Vals xs us → Vals (xs.take n) (us.take n)
  | _, _, 0, _ => .nil
  | _, _, _ + 1, .nil => .nil
  | _, _, n + 1, .cons r t => .cons r (Vals.take n t)
theorem Vals.drop : ∀ {xs : List V} {us : List Value} (n : Nat), Vals xs us → Vals (xs.drop n) (us.drop n)
  | _, _, 0, r => r
  | _, _, _ + 1, .nil => .nil
  | _, _, n + 1, .cons _ t => Vals.drop n t
def RelO : Option V → Option Value → Prop
  | some v, some u => RelV v u
  | none, none => True
  | _, _ => False
def KV {κ : Type} : List (κ × V) → List (κ × Value) → Prop := Paired fun (p : κ × V) (q : κ × Value) => p.1 = q.1 ∧ RelV p.2 q.2

/-- a key of a dict (00_mix): an int or a text -/
def kV : Key → V
  | .inl i => .int i
  | .inr x => .str x

/-- what stands at a tracked address -/
inductive HO where
  /-- a list -/
  | lst (xs : List V)
  /-- a tuple (never changes) -/
  | tup (xs : List V)
  /-- a dict whose keys are ints and texts; one whose keys are tuples of ints and texts (the empty one is both) -/
  | dK (kvs : List (Key × V)) | dT (kvs : List (List Key × V))
  /-- a set of ints: its members, its size -/
  | set (S : Int → Bool) (n : Nat)
  /-- an instance of the class at C, its dict at dx, its attributes -/
  | ins (C dx : Addr) (fs : List (Str × V))
  /-- the dict of the instance at x -/
  | own (x : Addr)
  /-- the dict of an exception -/
  | xd (fs : List (Str × V))
  /-- a bound method, f of x -/
  | met (f x : Addr)
  /-- a range object lo, lo + 1, .. below hi -/
  | rng (lo hi : Int)
  /-- a thing that is known to the object (the script; a dict while a loop walks it): read, never written while it is so -/
  | frz (o : Obj) (u : HO)
  /-- a code object's table -/
  | tbl (ps : Array Value)
  /-- any other thing, by what is true of its one object (a def of one's own: SetO a S n := HO.ext fun h => ..) -/
  | ext (φ : Heap → Prop)

abbrev Hp := Addr → Option HO
def upd (H : Hp) (a : Addr) (o : HO) : Hp := fun b => if b = a then some o else H b
theorem upd_same {H : Hp} {a : Addr} {o : HO} : upd H a o a = some o := by unfold upd; rw [if_pos rfl]
theorem upd_ne {H : Hp} {a b : Addr} {o : HO} (h : b ≠ a) : upd H a o b = H b := by unfold upd; rw [if_neg h]
theorem upd_upd {H : Hp} {a : Addr} {o u : HO} : upd (upd H a o) a u = upd H a u := by
  funext b; unfold upd; split <;> rfl
/-- two objects of different content stand apart -/
theorem ne_of {H : Hp} {a b : Addr} {o u : HO} (h : H a = some o) (h' : H b = some u) (d : o ≠ u) : a ≠ b := by
  intro e; subst e; rw [h] at h'; exact d (Option.some.inj h')
theorem ne_of_none {H : Hp} {a b : Addr} {o : HO} (h : H a = some o) (h' : H b = none) : a ≠ b := by
  intro e; subst e; rw [h] at h'; cases h'

section
variable (P : Program) (w : World)
def ObjOk (H : Hp) (h : Heap) (a : Addr) : HO → Prop
  | .lst xs => xs.length ≤ sizeLine ∧ ∃ (its : List Value) (n : Nat), Vals xs its ∧ h.get? a = some { cls := .type "list", data := .seq its.toArray n }
  | .tup xs => xs.length ≤ sizeLine ∧ ∃ its : List Value, Vals xs its ∧ IsTup h a its.toArray
  | .dK kvs => kvs.length ≤ sizeLine ∧ (a == sysModules) = false ∧ ∃ vs, KV kvs vs ∧ h.DictOf (mixKind P w) a vs
  | .dT kvs => kvs.length ≤ sizeLine ∧ (a == sysModules) = false ∧ ∃ xs : List (List Key × Addr × Value),
      Paired (fun (p : List Key × V) (q : List Key × Addr × Value) => p.1 = q.1 ∧ H q.2.1 = some (.tup (p.1.map kV)) ∧ RelV p.2 q.2.2) kvs xs ∧
      ∃ o es ep, h.get? a = some o ∧ o.ExactDict ∧ o.data = .dict es ep ∧ es.toList = xs.map (entryOfKey (tupleKind (mixKind P w))) ∧ (xs.map (·.1)).Nodup
  | .set S n => h.SetOf (intKind P w) a S n
  | .ins C dx fs => H dx = some (.own a) ∧ fs.length ≤ 1000 ∧ dx ≠ a ∧ h.get? a = some (PySem.W.instObj C dx) ∧
      ∃ mA, h.Ns1 dx mA ∧ (∀ f, RelO (fs.lookup f) (mA f)) ∧ PySem.Within mA (fs.map (·.1))
  | .own _ => ∃ o, h.get? a = some o
  | .xd fs => ∃ mA, h.Ns1 a mA ∧ ∀ f, RelO (fs.lookup f) (mA f)
  | .rng lo hi => ∃ t u v, h.get? a = some { cls := .type "range", data := .fields #[.int lo t, .int hi u, .int 1 v] }
  | .frz o u => h.get? a = some o ∧ ObjOk H h a u
  | .tbl ps => h.get? a = some { cls := .none, data := .fields ps }
  | .met f x => h.get? a = some (PySem.W.methodObj (.ref f) (.ref x))
  | .ext φ => φ h ∧ (∃ o, h.get? a = some o) ∧ ∀ h1 h2 : Heap, φ h1 → (∀ o, h1.get? a = some o → h2.get? a = some o) → φ h2
/-- the abstract heap is held -/
def HOk (H : Hp) (h : Heap) : Prop := ∀ a o, H a = some o → ObjOk P w H h a o
end

section
variable {P : Program} {w : World} {H H' : Hp} {h h' : Heap} {a : Addr} {o : HO}
theorem ObjOk.lt (x : ObjOk P w H h a o) : a < h.objs.size := by
  cases o with
  | lst xs => obtain ⟨_, _, _, _, e⟩ := x; exact Heap.lt_size e
  | tup xs => obtain ⟨_, _, _, p⟩ := x; exact p.lt
  | dK kvs => obtain ⟨_, _, _, _, o, _, _, e, _⟩ := x; exact Heap.lt_size e
  | dT kvs => obtain ⟨_, _, _, _, o, _, _, e, _⟩ := x; exact Heap.lt_size e
  | set S n => obtain ⟨o, _, _, _, e, _⟩ := x; exact Heap.lt_size e
  | ins C dx fs => obtain ⟨_, _, _, e, _⟩ := x; exact Heap.lt_size e
  | own y => obtain ⟨_, e⟩ := x; exact Heap.lt_size e
  | xd fs => obtain ⟨_, ⟨_, _, _, e, _⟩, _⟩ := x; exact Heap.lt_size e
  | rng lo hi => obtain ⟨_, _, _, e⟩ := x; exact Heap.lt_size e
  | frz ob u => obtain ⟨e, _⟩ := x; exact Heap.lt_size e
  | tbl ps => exact Heap.lt_size (show h.get? a = some _ from x)
  | met f y => exact Heap.lt_size (show h.get? a = some _ from x)
  | ext φ => obtain ⟨_, ⟨_, e⟩, _⟩ := x; exact Heap.lt_size e
theorem Paired.mapP {α β : Type} {F G : α → β → Prop} : ∀ {l₁ : List α} {l₂ : List β}, Paired F l₁ l₂ → (∀ a b, F a b → G a b) → Paired G l₁ l₂
  | _, _, .nil, _ => .nil
  | _, _, .cons r t, f => .cons (f _ _ r) (Paired.mapP t f)
/-- what an object's description leans on: its own object, its own dict, the tuples -/
theorem ObjOk.stay (x : ObjOk P w H h a o) (k : ∀ b u, (b = a ∨ H b = some (.own a)) → h.get? b = some u → h'.get? b = some u)
    (ho : ∀ b, H b = some (.own a) → H' b = some (.own a)) (ht : ∀ b xs, H b = some (.tup xs) → H' b = some (.tup xs)) : ObjOk P w H' h' a o := by
  induction o with
  | lst xs => obtain ⟨z, its, n, r, e⟩ := x; exact ⟨z, its, n, r, k _ _ (.inl rfl) e⟩
  | tup xs => obtain ⟨z, its, r, ob, e, c⟩ := x; exact ⟨z, its, r, ob, k _ _ (.inl rfl) e, c⟩
  | dK kvs => obtain ⟨z, y, vs, r, ob, es, ep, e, c⟩ := x; exact ⟨z, y, vs, r, ob, es, ep, k _ _ (.inl rfl) e, c⟩
  | dT kvs =>
    obtain ⟨z, y, xs, r, ob, es, ep, e, c⟩ := x
    exact ⟨z, y, xs, Paired.mapP r fun p q z => ⟨z.1, ht _ _ z.2.1, z.2.2⟩, ob, es, ep, k _ _ (.inl rfl) e, c⟩
  | set S n => obtain ⟨ob, es, ep, t, e, c⟩ := x; exact ⟨ob, es, ep, t, k _ _ (.inl rfl) e, c⟩
  | ins C dx fs =>
    obtain ⟨d, z, ne, e, mA, ⟨od, es, ep, e2, c⟩, r⟩ := x
    exact ⟨ho _ d, z, ne, k _ _ (.inl rfl) e, mA, ⟨od, es, ep, k _ _ (.inr d) e2, c⟩, r⟩
  | own y => obtain ⟨ob, e⟩ := x; exact ⟨ob, k _ _ (.inl rfl) e⟩
  | xd fs => obtain ⟨mA, ⟨od, es, ep, e, c⟩, r⟩ := x; exact ⟨mA, ⟨od, es, ep, k _ _ (.inl rfl) e, c⟩, r⟩
  | rng lo hi => obtain ⟨t, u, v, e⟩ := x; exact ⟨t, u, v, k _ _ (.inl rfl) e⟩
  | frz ob u ih => obtain ⟨e, q⟩ := x; exact ⟨k _ _ (.inl rfl) e, ih q⟩
  | tbl ps =>
    have e : h.get? a = some { cls := .none, data := .fields ps } := x
    show h'.get? a = some { cls := .none, data := .fields ps }
    exact k a _ (.inl rfl) e
  | met f y =>
    have e : h.get? a = some (PySem.W.methodObj (.ref f) (.ref y)) := x
    show h'.get? a = some (PySem.W.methodObj (.ref f) (.ref y))
    exact k a _ (.inl rfl) e
  | ext φ => obtain ⟨p, ⟨o, e⟩, st⟩ := x; exact ⟨st _ _ p fun o q => k _ _ (.inl rfl) q, ⟨o, k _ _ (.inl rfl) e⟩, st⟩
theorem HOk.lt (x : HOk P w H h) (e : H a = some o) : a < h.objs.size := (x a o e).lt
theorem HOk.fresh (x : HOk P w H h) (e : h.objs.size ≤ a) : H a = none := by
  cases q : H a with
  | none => rfl
  | some u => exact absurd (Nat.lt_of_lt_of_le (x.lt q) e) (Nat.lt_irrefl _)
/-- every object of the heap is kept -/
theorem HOk.kept (x : HOk P w H h) (k : ∀ b u, h.get? b = some u → h'.get? b = some u) : HOk P w H h' := fun a o e =>
  (x a o e).stay (fun b u _ q => k b u q) (fun _ q => q) fun _ _ q => q
/-- a new object is laid and tracked -/
theorem HOk.laid (x : HOk P w H h) (k : ∀ b u, h.get? b = some u → h'.get? b = some u) (hp : h.objs.size ≤ a) (new : ObjOk P w (upd H a o) h' a o) : HOk P w (upd H a o) h' := fun b u e => by
  have hn := x.fresh hp
  by_cases hb : b = a
  · subst hb; rw [upd_same] at e; cases e; exact new
  · rw [upd_ne hb] at e
    exact (x b u e).stay (fun c v _ q => k c v q) (fun c q => by rw [upd_ne (ne_of_none q hn)]; exact q) fun c xs q => by rw [upd_ne (ne_of_none q hn)]; exact q
end

/-- what may be read as u: it is u, or a known u -/
def Rd (H : Hp) (a : Addr) (u : HO) : Prop := H a = some u ∨ ∃ o, H a = some (.frz o u)
theorem Rd.ok {P : Program} {w : World} {H : Hp} {h : Heap} {a : Addr} {u : HO} (r : Rd H a u) (x : HOk P w H h) : ObjOk P w H h a u := by
  rcases r with r | ⟨o, r⟩
  · exact x a u r
  · obtain ⟨_, q⟩ := x a _ r
    exact q
/-- what may be written -/
def Mut : Option HO → Prop
  | some (.lst _) => True
  | some (.dK _) => True
  | some (.dT _) => True
  | some (.set _ _) => True
  | some (.ins _ _ _) => True
  | some (.ext _) => True
  | _ => False
section
variable {P : Program} {w : World} {H : Hp} {h h' : Heap} {x e : Addr} {o' : HO}
/-- the object at e is changed: x itself, or the dict of the instance x -/
theorem HOk.write (ok : HOk P w H h) (mu : Mut (H x)) (he : e = x ∨ H e = some (.own x)) (k : ∀ b u, b ≠ e → h.get? b = some u → h'.get? b = some u) (heo : ∃ u, h'.get? e = some u)
    (new : ObjOk P w (upd H x o') h' x o') : HOk P w (upd H x o') h' := fun b u q => by
  have nown : ∀ c y, H c = some (.own y) → c ≠ x := fun c y r z => by subst z; rw [r] at mu; exact mu
  have ntup : ∀ c xs, H c = some (.tup xs) → c ≠ x := fun c xs r z => by subst z; rw [r] at mu; exact mu
  by_cases hb : b = x
  · subst hb; rw [upd_same] at q; cases q; exact new
  · rw [upd_ne hb] at q
    by_cases hbe : b = e
    · have q' : H b = some (.own x) := by
        rcases he with z | z
        · exact absurd (hbe.trans z) hb
        · rw [hbe]; exact z
      rw [q] at q'; cases q'
      obtain ⟨v, hv⟩ := heo
      exact ⟨v, by rw [hbe]; exact hv⟩
    · refine (ok b u q).stay (fun c v hc r => k c v ?_ r) (fun c r => by rw [upd_ne (nown c b r)]; exact r) fun c xs r => by rw [upd_ne (ntup c xs r)]; exact r
      rcases hc with rfl | hc
      · exact hbe
      · rintro rfl
        rcases he with z | z
        · exact nown c b hc z
        · rw [hc] at z; cases z; exact hb rfl
end

/-! ### kept unless tracked; of the frames at fs (the callers') the slots may change (an exception that passes writes there); of the records at ex (iterators) nothing is said -/
structure Un (fs ex : List Addr) (H H' : Hp) (h h' : Heap) : Prop where
  keep : ∀ b o, h.get? b = some o → H b = none → b ∉ fs → b ∉ ex → h'.get? b = some o
  slot : ∀ b o, h.get? b = some o → H b = none → b ∈ fs → b ∉ ex → ∃ sl, h'.get? b = some { o with slots := sl }
  free : ∀ b o, h.get? b = some o → H b = none → b ∉ ex → H' b = none
  there : ∀ b o, h.get? b = some o → b ∉ ex → ∃ o', h'.get? b = some o'
  tups : ∀ b xs, H b = some (.tup xs) → H' b = some (.tup xs)
  frzs : ∀ b o u, H b = some (.frz o u) → H' b = some (.frz o u)
  tbls : ∀ b ps, H b = some (.tbl ps) → ∃ more, H' b = some (.tbl (ps ++ more))
section
variable {fs fs' ex ex' : List Addr} {H H1 H2 : Hp} {h h1 h2 h' : Heap} {a x e : Addr} {o : HO}
theorem Un.any (u : Un fs ex H H1 h h1) {b : Addr} {ob : Obj} (q : h.get? b = some ob) (n : H b = none) (hx : b ∉ ex) : ∃ sl, h1.get? b = some { ob with slots := sl } := by
  by_cases hb : b ∈ fs
  · exact u.slot b ob q n hb hx
  · exact ⟨ob.slots, u.keep b ob q n hb hx⟩
theorem Un.kept (k : ∀ b u, h.get? b = some u → h'.get? b = some u) : Un fs ex H H h h' :=
  ⟨fun b ob q _ _ _ => k b ob q, fun b ob q _ _ _ => ⟨ob.slots, k b ob q⟩, fun _ _ _ n _ => n, fun b ob q _ => ⟨ob, k b ob q⟩, fun _ _ q => q, fun _ _ _ q => q, fun _ ps q => ⟨#[], by rw [q]; simp⟩⟩
theorem Un.refl : Un fs ex H H h h := Un.kept fun _ _ q => q
theorem Un.laid (k : ∀ b u, h.get? b = some u → h'.get? b = some u) (hp : h.objs.size ≤ a) (hn : H a = none) : Un fs ex H (upd H a o) h h' where
  keep := fun b u q _ _ _ => k b u q
  slot := fun b u q _ _ _ => ⟨u.slots, k b u q⟩
  free := fun b u q n _ => by rw [upd_ne (Nat.ne_of_lt (Nat.lt_of_lt_of_le (Heap.lt_size q) hp))]; exact n
  there := fun b u q _ => ⟨u, k b u q⟩
  tups := fun b xs q => by rw [upd_ne (ne_of_none q hn)]; exact q
  frzs := fun b u xs q => by rw [upd_ne (ne_of_none q hn)]; exact q
  tbls := fun b ps q => ⟨#[], by rw [upd_ne (ne_of_none q hn), q]; simp⟩
theorem Un.write (mu : Mut (H x)) (he : e = x ∨ H e = some (.own x)) (k : ∀ b u, b ≠ e → h.get? b = some u → h'.get? b = some u) (heo : ∃ u, h'.get? e = some u) : Un fs ex H (upd H x o) h h' := by
  have hx : ∀ b, H b = none → b ≠ x := fun b n z => by subst z; rw [n] at mu; exact mu
  have hb : ∀ b, H b = none → b ≠ e := fun b n z => by
    subst z
    rcases he with r | r
    · exact hx b n r
    · rw [n] at r; cases r
  have hm : ∀ b u, H b = some u → ¬ Mut (some u) → b ≠ x := fun b u q nm z => by subst z; rw [q] at mu; exact nm mu
  refine ⟨fun b u q n _ _ => k b u (hb b n) q, fun b u q n _ _ => ⟨u.slots, k b u (hb b n) q⟩, fun b u q n _ => by rw [upd_ne (hx b n)]; exact n, fun b u q _ => ?_,
    fun b xs q => by rw [upd_ne (hm b _ q fun z => z)]; exact q, fun b u xs q => by rw [upd_ne (hm b _ q fun z => z)]; exact q, fun b ps q => ⟨#[], by rw [upd_ne (hm b _ q fun z => z), q]; simp⟩⟩
  by_cases hbe : b = e
  · subst hbe; exact heo
  · exact ⟨u, k b u hbe q⟩
end

/-! ### the heap without what is tracked -/
def trk (h : Heap) (H : Hp) : List Addr := (List.range h.objs.size).filter fun a => (H a).isSome
def hidT (h : Heap) (H : Hp) : Heap := PySem.W.hideAll h (trk h H)
theorem hidT_size (h : Heap) (H : Hp) : (hidT h H).objs.size = h.objs.size := PySem.W.hideAll_size _ _
theorem hidT_get {h : Heap} {H : Hp} {b : Addr} {o : Obj} (e : h.get? b = some o) (n : H b = none) : (hidT h H).get? b = some o :=
  PySem.W.hideAll_get _ e fun hm => by
    have q : (H b).isSome = true := (List.mem_filter.mp hm).2
    rw [n] at q; simp at q
theorem of_hidT {h : Heap} {H : Hp} {b : Addr} {o : Obj} (e : (hidT h H).get? b = some o) : h.get? b = some o ∧ H b = none := by
  have e' : h.get? b = some o := PySem.W.of_hideAll (trk h H) e
  refine ⟨e', ?_⟩
  cases q : H b with
  | none => rfl
  | some x =>
    have hm : b ∈ trk h H := List.mem_filter.mpr ⟨List.mem_range.mpr (Heap.lt_size e'), by simp [q]⟩
    have z : (hidT h H).get? b = none := PySem.W.hideAll_none (trk h H) hm
    rw [z] at e; cases e

/-! ### OpenK's ledger, filled with every new object but one -/
def allNews (g h : Heap) (L : Addr) : List (Addr × Obj) := (List.range h.objs.size).filterMap fun a => if a = L ∨ (g.get? a).isSome = true then none else (h.get? a).map fun o => (a, o)
def rest (g h : Heap) (L d : Addr) : List (Addr × Obj) := (allNews g h L).filter fun p => decide (p.1 ≠ d)
end L2

namespace L2
open PySem PySem.Spec PyProof.Rows

/-- the module's facts, over the base: the heap at the law's entry without what is tracked there -/
structure Mod (K : PySem.W.Frag) (mg : Str → Option Value) (base : Heap) : Prop where
  kin : K.In base
  glob : base.Ns mainGlobals mg
  blt : ∃ mb, base.Ns builtinsNs mb ∧ ∀ x : Str, x ≠ "__name__" → mb x = bootBuiltins x
  nolimit : base.NoLimit

/-- the context: a def's body (or a comprehension's block) running. base: fixed through the whole law; s₀, H₀: the entry; outer: the frames whose slots others may change (a def's callers); stack: all frames that run;
   ex: iterators that were made ahead of the entry and are walked here (a comprehension's); fn: the names whose cells were made at the entry (a def: all; a comprehension's block: its own); calm: not within an except suite; pn: pins that every state bears; xe: what is wanted of an exception that leaves the code -/
structure Cx where
  prog : Program
  w : World
  K : PySem.W.Frag
  mg : Str → Option Value
  base : Heap
  A : Around
  N : List Str
  s_0 : Shared
  H_0 : Hp
  env : Env
  outer : List Env
  stack : List Env
  ex : List Addr
  fn : Str → Bool
  calm : Bool
  pn : List (Addr × Obj)
  xe : Value → Shared → Prop
/-- the callers' frames -/
def frs (l : List Env) : List Addr := l.filterMap (·.frame)
abbrev Cx.fs (X : Cx) : List Addr := frs X.outer

def Vis (sc : Scope) (x : Str) : Prop := sc.names.lookup x = some .local ∨ sc.names.lookup x = some .cell ∨ sc.names.lookup x = some .free
def Loc (sc : Scope) (x : Str) : Prop := sc.names.lookup x = some .local ∨ sc.names.lookup x = some .cell
def Look (env : Env) (h : Heap) (m : Str → Option Value) (x : Str) (u : Value) : Prop :=
  (env.kindOf x = some .local ∧ m x = some u) ∨ ((env.kindOf x = some .cell ∨ env.kindOf x = some .free) ∧ ∃ c, env.cells.lookup x = some c ∧ h.IsCell c (some u))

structure Cx.Ok (X : Cx) : Prop where
  mod : Mod X.K X.mg X.base
  kind : X.env.scope.kind = .function
  glob : X.env.globals = mainGlobals
  blt : X.env.builtins = builtinsNs
  above : X.s_0.heap.objs.size ≤ X.env.locals
  inj : ∀ x y c, X.env.cells.lookup x = some c → X.env.cells.lookup y = some c → x = y
  has : ∀ x, (X.env.kindOf x = some .cell ∨ X.env.kindOf x = some .free) → ∃ c, X.env.cells.lookup x = some c
  cab : ∀ x c, X.fn x = true → X.env.cells.lookup x = some c → X.s_0.heap.objs.size ≤ c
  hd : X.calm = true → X.A.handled = none
  frames : X.A.frames = some X.stack
  stk : X.stack = X.outer ∨ (X.stack = X.env :: X.outer ∧ X.env.frame = some X.env.locals)
  exf : ∀ b ∈ X.ex, b ≠ X.env.locals ∧ ∀ x c, X.env.cells.lookup x = some c → c ≠ b
  bs : ∀ b o, X.base.get? b = some o → X.s_0.heap.get? b = some o ∧ X.H_0 b = none
  bsz : X.base.objs.size ≤ X.s_0.heap.objs.size
  noex : ∀ b o, X.base.get? b = some o → b ∉ X.ex
  exfs : ∀ b ∈ X.ex, b ∉ X.fs
  funs : X.s_0.heap.FunFrames X.base X.outer
  frf : ∀ b ∈ X.fs, X.H_0 b = none

structure Inv (X : Cx) (pins : List (Addr × Obj)) (σ : List (Option V)) (H : Hp) (s : Shared) : Prop where
  ok : X.Ok
  os : s.os = X.s_0.os
  bare : AllBare s.gens
  base : Un X.fs X.ex X.H_0 H X.s_0.heap s.heap
  loc : ∃ m, s.heap.Ns X.env.locals m ∧ ∀ (i : Nat) (x : Str) (v : V), X.N[i]? = some x → σ[i]? = some (some v) → Vis X.env.scope x → ∃ u, RelV v u ∧ Look X.env s.heap m x u
  cell : ∀ x c, X.env.cells.lookup x = some c → ∃ v, s.heap.IsCell c v
  free : H X.env.locals = none
  freeC : ∀ x c, X.env.cells.lookup x = some c → H c = none
  pin : ∀ p ∈ X.pn ++ pins, s.heap.get? p.1 = some p.2 ∧ H p.1 = none ∧ p.1 ≠ X.env.locals ∧ p.1 ∉ X.fs ∧ ∀ v, p.2.data ≠ .cell v
  hok : HOk X.prog X.w H s.heap
  len : σ.length = X.N.length

section
variable {X : Cx} {pins : List (Addr × Obj)} {σ : List (Option V)} {H H' : Hp} {s : Shared} {h' : Heap}

theorem Cx.Ok.nofr (ok : X.Ok) {b : Addr} {o : Obj} (e : X.base.get? b = some o) : b ∉ X.fs := fun hb => by
  have := (ok.funs.mem hb).1
  rw [e] at this; cases this
theorem Inv.bs (I : Inv X pins σ H s) : ∀ b o, X.base.get? b = some o → s.heap.get? b = some o ∧ H b = none := fun b o e =>
  ⟨I.base.keep b o (I.ok.bs b o e).1 (I.ok.bs b o e).2 (I.ok.nofr e) (I.ok.noex b o e), I.base.free b o (I.ok.bs b o e).1 (I.ok.bs b o e).2 (I.ok.noex b o e)⟩
theorem Inv.bk (I : Inv X pins σ H s) : ∀ b o, X.base.get? b = some o → s.heap.get? b = some o := fun b o e => (I.bs b o e).1
theorem Inv.mod (I : Inv X pins σ H s) : Mod X.K X.mg X.base := I.ok.mod
theorem Inv.kIn (I : Inv X pins σ H s) : X.K.In s.heap := I.ok.mod.kin.keeps I.bk
/-- the frame over the base: for OpenK's rules (K.In X.base is I.mod.kin) -/
theorem Inv.fr (I : Inv X pins σ H s) : ∃ m, Fr X.base X.env.locals s.heap m :=
  let ⟨m, hn, _⟩ := I.loc
  ⟨m, hn, I.bk, Nat.le_trans I.ok.bsz I.ok.above⟩
theorem Inv.lt (I : Inv X pins σ H s) : X.env.locals < s.heap.objs.size := let ⟨_, hn, _⟩ := I.loc; hn.lt
theorem Inv.sz (I : Inv X pins σ H s) : X.s_0.heap.objs.size ≤ s.heap.objs.size := Nat.le_trans I.ok.above (Nat.le_of_lt I.lt)
theorem Inv.nofs (I : Inv X pins σ H s) {a : Addr} (h : s.heap.objs.size ≤ a) : a ∉ X.fs := fun hb => by
  obtain ⟨_, o, ho, _⟩ := I.ok.funs.mem hb
  exact absurd (Nat.lt_of_lt_of_le (Heap.lt_size ho) (Nat.le_trans I.sz h)) (Nat.lt_irrefl _)
theorem Inv.cne (I : Inv X pins σ H s) : ∀ x c, X.env.cells.lookup x = some c → c ≠ X.env.locals := fun x c e z => by
  obtain ⟨v, o, ho, hd⟩ := I.cell x c e
  obtain ⟨m, ⟨o', es, ep, ho', hd', _⟩, _⟩ := I.loc
  rw [z, ho'] at ho; cases ho; rw [hd'] at hd; cases hd
theorem Inv.funs (I : Inv X pins σ H s) : s.heap.FunFrames X.base X.outer := by
  have all : ∀ (l : List Env), (∀ b ∈ frs l, b ∈ X.fs) → X.s_0.heap.FunFrames X.base l → s.heap.FunFrames X.base l := by
    intro l
    induction l with
    | nil => intro _ _; trivial
    | cons env r ih =>
      intro hs hl
      obtain ⟨hk, ⟨L, o, hf, hn, ho, hd⟩, hr⟩ := hl
      have hL : L ∈ X.fs := hs L (by unfold frs; rw [List.filterMap_cons, hf]; exact List.mem_cons_self)
      obtain ⟨sl, e⟩ := I.base.slot L o ho (I.ok.frf L hL) hL fun z => I.ok.exfs L z hL
      exact ⟨hk, ⟨L, _, hf, hn, e, hd⟩, ih (fun b hb => hs b (by unfold frs; rw [List.filterMap_cons, hf]; exact List.mem_cons_of_mem _ hb)) hr⟩
  exact all X.outer (fun _ hb => hb) I.ok.funs

/-- the frames that run, for a call -/
theorem Inv.stack (I : Inv X pins σ H s) : s.heap.FunFrames X.base X.stack := by
  rcases I.ok.stk with e | ⟨e, hf⟩
  · rw [e]; exact I.funs
  · rw [e]
    obtain ⟨m, hn, _⟩ := I.loc
    refine .cons (by rw [I.ok.kind]; decide) hf hn ?_ I.funs
    exact Heap.get?_none_of_le (Nat.le_trans I.ok.bsz I.ok.above)
theorem Inv.stkSub (I : Inv X pins σ H s) : ∀ b ∈ frs X.stack, b ∈ X.env.locals :: X.fs := fun b hb => by
  rcases I.ok.stk with e | ⟨e, hf⟩
  · rw [e] at hb; exact List.mem_cons_of_mem _ hb
  · rw [e] at hb
    unfold frs at hb
    rw [List.filterMap_cons, hf] at hb
    exact hb
theorem Inv.stkFree (I : Inv X pins σ H s) : ∀ b ∈ frs X.stack, H b = none := fun b hb => by
  rcases List.mem_cons.mp (I.stkSub b hb) with e | hb
  · rw [e]; exact I.free
  · obtain ⟨_, o, ho, _⟩ := I.ok.funs.mem hb
    exact I.base.free b o ho (I.ok.frf b hb) fun z => I.ok.exfs b z hb

/-- THE STEP: the untracked objects but the frame and the records at ch are kept (the callers' frames up to slots), the frame's map is kept, the new abstract heap is held -/
theorem Inv.step {g' : Array GenState} {t' : Nat} {d' : Drawn} {ch : List Addr} (I : Inv X pins σ H s)
    (hch : ∀ b ∈ ch, (b ∈ X.ex ∨ X.s_0.heap.objs.size ≤ b) ∧ b ≠ X.env.locals ∧ (∀ x c, X.env.cells.lookup x = some c → c ≠ b) ∧ ∀ p ∈ X.pn ++ pins, p.1 ≠ b)
    (keep : ∀ b o, b ≠ X.env.locals → b ∉ X.fs → b ∉ ch → s.heap.get? b = some o → H b = none → h'.get? b = some o)
    (slot : ∀ b o, b ≠ X.env.locals → b ∈ X.fs → b ∉ ch → s.heap.get? b = some o → H b = none → ∃ sl, h'.get? b = some { o with slots := sl }) (free : ∀ b o, b ∉ ch → s.heap.get? b = some o → H b = none → H' b = none)
    (there : ∀ b o, b ∉ ch → s.heap.get? b = some o → ∃ o', h'.get? b = some o')
    (tups : ∀ b xs, H b = some (.tup xs) → H' b = some (.tup xs)) (frzs : ∀ b o u, H b = some (.frz o u) → H' b = some (.frz o u)) (tbls : ∀ b ps, H b = some (.tbl ps) → ∃ more, H' b = some (.tbl (ps ++ more)))
    (ns : ∀ m, s.heap.Ns X.env.locals m → h'.Ns X.env.locals m) (hok : HOk X.prog X.w H' h') (hg : AllBare g') :
    Inv X pins σ H' { s with heap := h', gens := g', drawn := d', toks := t' } := by
  have neL : ∀ b o, X.s_0.heap.get? b = some o → b ≠ X.env.locals := fun b o e => Nat.ne_of_lt (Nat.lt_of_lt_of_le (Heap.lt_size e) I.ok.above)
  have neC : ∀ b o, X.s_0.heap.get? b = some o → b ∉ X.ex → b ∉ ch := fun b o e hx hb => by
    rcases (hch b hb).1 with z | z
    · exact hx z
    · exact absurd (Nat.lt_of_lt_of_le (Heap.lt_size e) z) (Nat.lt_irrefl _)
  have cellK : ∀ x c, X.env.cells.lookup x = some c → ∀ v, s.heap.IsCell c v → h'.IsCell c v := fun x c e v ⟨o, ho, hd⟩ => by
    have nch : c ∉ ch := fun z => (hch c z).2.2.1 x c e rfl
    by_cases hc : c ∈ X.fs
    · obtain ⟨sl, q⟩ := slot c o (I.cne x c e) hc nch ho (I.freeC x c e)
      exact ⟨_, q, hd⟩
    · exact ⟨o, keep c o (I.cne x c e) hc nch ho (I.freeC x c e), hd⟩
  refine ⟨I.ok, I.os, hg, ⟨fun b o e n hb hx => ?_, fun b o e n hb hx => ?_, fun b o e n hx => ?_, fun b o e hx => ?_, fun b xs e => tups b xs (I.base.tups b xs e), fun b o xs e => frzs b o xs (I.base.frzs b o xs e), fun b ps e => ?_⟩, ?_, fun x c e => ?_, ?_, fun x c e => ?_, fun p hp => ?_, hok, I.len⟩
  · exact keep b o (neL b o e) hb (neC b o e hx) (I.base.keep b o e n hb hx) (I.base.free b o e n hx)
  · obtain ⟨sl, e1⟩ := I.base.slot b o e n hb hx
    obtain ⟨sl', e2⟩ := slot b _ (neL b o e) hb (neC b o e hx) e1 (I.base.free b o e n hx)
    exact ⟨sl', e2⟩
  · obtain ⟨o', e1⟩ := I.base.there b o e hx
    exact free b o' (neC b o e hx) e1 (I.base.free b o e n hx)
  · obtain ⟨o', e1⟩ := I.base.there b o e hx
    exact there b o' (neC b o e hx) e1
  · obtain ⟨m1, e1⟩ := I.base.tbls b ps e
    obtain ⟨m2, e2⟩ := tbls b _ e1
    exact ⟨m1 ++ m2, by rw [e2, Array.append_assoc]⟩
  · obtain ⟨m, hn, hl⟩ := I.loc
    refine ⟨m, ns m hn, fun i x v e1 e2 e3 => ?_⟩
    obtain ⟨u, r, l⟩ := hl i x v e1 e2 e3
    refine ⟨u, r, ?_⟩
    rcases l with l | ⟨k, c, e, z⟩
    · exact .inl l
    · exact .inr ⟨k, c, e, cellK x c e _ z⟩
  · obtain ⟨v, z⟩ := I.cell x c e
    exact ⟨v, cellK x c e v z⟩
  · obtain ⟨m, ⟨o, _, _, ho, _⟩, _⟩ := I.loc
    exact free _ o (fun z => (hch _ z).2.1 rfl) ho I.free
  · obtain ⟨v, o, ho, hd⟩ := I.cell x c e
    exact free c o (fun z => (hch c z).2.2.1 x c e rfl) ho (I.freeC x c e)
  · obtain ⟨e, n, ne, nf, d⟩ := I.pin p hp
    have nch : p.1 ∉ ch := fun z => (hch p.1 z).2.2.2 p hp rfl
    exact ⟨keep p.1 p.2 ne nf nch e n, free p.1 p.2 nch e n, ne, nf, d⟩
/-- .. where the frame's own object is kept too -/
theorem Inv.un {t' : Nat} (I : Inv X pins σ H s) (u : Un X.fs [] H H' s.heap h') (hok : HOk X.prog X.w H' h') : Inv X pins σ H' { s with heap := h', toks := t' } := by
  obtain ⟨m, ⟨o, es, ep, ho, r⟩, _⟩ := id I.loc
  obtain ⟨sl, hL⟩ := u.any ho I.free (by simp)
  exact I.step (g' := s.gens) (d' := s.drawn) (ch := []) (fun _ z => nomatch z) (fun b o _ hb _ e n => u.keep b o e n hb (by simp)) (fun b o _ hb _ e n => u.slot b o e n hb (by simp)) (fun b o _ e n => u.free b o e n (by simp)) (fun b o _ e => u.there b o e (by simp)) u.tups u.frzs u.tbls (fun m' hm => by
    obtain ⟨o', es', ep', ho', r'⟩ := hm
    rw [ho] at ho'; cases ho'
    exact ⟨_, es', ep', hL, r'⟩) hok I.bare
/-- behind a call (or a comprehension's block): the slots of this frame may have changed too, the records at ch may have turned -/
theorem Inv.call {g' : Array GenState} {t' : Nat} {d' : Drawn} {ch : List Addr} (I : Inv X pins σ H s) (u : Un (frs X.stack) ch H H' s.heap h') (hok : HOk X.prog X.w H' h') (hg : AllBare g')
    (hch : ∀ b ∈ ch, (b ∈ X.ex ∨ X.s_0.heap.objs.size ≤ b) ∧ b ≠ X.env.locals ∧ (∀ x c, X.env.cells.lookup x = some c → c ≠ b) ∧ ∀ p ∈ X.pn ++ pins, p.1 ≠ b) :
    Inv X pins σ H' { s with heap := h', gens := g', drawn := d', toks := t' } := by
  obtain ⟨m, ⟨o, es, ep, ho, r⟩, _⟩ := id I.loc
  obtain ⟨sl, hL⟩ := u.any ho I.free fun z => (hch _ z).2.1 rfl
  exact I.step (ch := ch) hch (fun b o hL hb hc e n => u.keep b o e n (fun z => (List.mem_cons.mp (I.stkSub b z)).elim hL hb) hc) (fun b o _ _ hc e n => u.any e n hc) (fun b o hc e n => u.free b o e n hc) (fun b o hc e => u.there b o e hc) u.tups u.frzs u.tbls (fun m' hm => by
    obtain ⟨o', es', ep', ho', r'⟩ := hm
    rw [ho] at ho'; cases ho'
    exact ⟨_, es', ep', hL, r'⟩) hok hg
/-- an untracked record of ours (an iterator) has turned -/
theorem Inv.turned {t' : Nat} {it : Addr} (I : Inv X pins σ H s) (k : ∀ b o, b ≠ it → s.heap.get? b = some o → h'.get? b = some o) (hn : H it = none) (hL : it ≠ X.env.locals)
    (h1 : it ∈ X.ex ∨ X.s_0.heap.objs.size ≤ it) (h2 : ∀ x c, X.env.cells.lookup x = some c → c ≠ it) (h3 : ∀ p ∈ X.pn ++ pins, p.1 ≠ it) : Inv X pins σ H { s with heap := h', toks := t' } := by
  have nit : ∀ b u, H b = some u → b ≠ it := fun b u e z => by rw [z, hn] at e; cases e
  refine I.step (g' := s.gens) (d' := s.drawn) (ch := [it]) (fun b hb => ?_) (fun b o _ _ hc e _ => k b o (fun z => hc (by simp [z])) e) (fun b o _ _ hc e _ => ⟨o.slots, k b o (fun z => hc (by simp [z])) e⟩) (fun _ _ _ _ n => n)
    (fun b o hc e => ⟨o, k b o (fun z => hc (by simp [z])) e⟩) (fun _ _ e => e) (fun _ _ _ e => e) (fun b ps e => ⟨#[], by rw [e]; simp⟩) (fun m hm => ?_) (fun b u e => ?_) I.bare
  · have e : b = it := by simpa using hb
    subst e
    exact ⟨h1, hL, h2, h3⟩
  · obtain ⟨o, es, ep, ho, r⟩ := hm
    exact ⟨o, es, ep, k _ o (Ne.symm hL) ho, r⟩
  · refine (I.hok b u e).stay (fun c v hc q => k c v ?_ q) (fun _ q => q) fun _ _ q => q
    rcases hc with z | z
    · rw [z]; exact nit b u e
    · exact nit c _ z
theorem Inv.tok (I : Inv X pins σ H s) (t : Nat) : Inv X pins σ H { s with toks := t } := I.un (h' := s.heap) (t' := t) Un.refl I.hok
/-- all objects kept -/
theorem Inv.kept {t' : Nat} (I : Inv X pins σ H s) (k : ∀ b u, s.heap.get? b = some u → h'.get? b = some u) : Inv X pins σ H { s with heap := h', toks := t' } := I.un (Un.kept k) (I.hok.kept k)
/-- a new object laid and tracked -/
theorem Inv.laid {a : Addr} {o : HO} {t' : Nat} (I : Inv X pins σ H s) (k : ∀ b u, s.heap.get? b = some u → h'.get? b = some u) (hp : s.heap.objs.size ≤ a) (new : ObjOk X.prog X.w (upd H a o) h' a o) :
    Inv X pins σ (upd H a o) { s with heap := h', toks := t' } := I.un (Un.laid k hp (I.hok.fresh hp)) (I.hok.laid k hp new)
/-- an object written -/
theorem Inv.write {x e : Addr} {o : HO} {t' : Nat} (I : Inv X pins σ H s) (mu : Mut (H x)) (he : e = x ∨ H e = some (.own x)) (k : ∀ b u, b ≠ e → s.heap.get? b = some u → h'.get? b = some u) (heo : ∃ u, h'.get? e = some u)
    (new : ObjOk X.prog X.w (upd H x o) h' x o) : Inv X pins σ (upd H x o) { s with heap := h', toks := t' } := I.un (Un.write mu he k heo) (I.hok.write mu he k heo new)
/-- forgetting slots, pins -/
theorem Inv.weak {σ' : List (Option V)} (I : Inv X pins σ H s) (hl : σ'.length = σ.length) (w : ∀ (i : Nat) v, σ'[i]? = some (some v) → σ[i]? = some (some v)) : Inv X pins σ' H s :=
  ⟨I.ok, I.os, I.bare, I.base, let ⟨m, hn, hl'⟩ := I.loc; ⟨m, hn, fun i x v e1 e2 e3 => hl' i x v e1 (w i v e2) e3⟩, I.cell, I.free, I.freeC, I.pin, I.hok, hl.trans I.len⟩
theorem Inv.pins_of {pins' : List (Addr × Obj)} (I : Inv X pins σ H s) (h : ∀ p ∈ pins', s.heap.get? p.1 = some p.2 ∧ H p.1 = none ∧ p.1 ≠ X.env.locals ∧ p.1 ∉ X.fs ∧ ∀ v, p.2.data ≠ .cell v) : Inv X pins' σ H s :=
  ⟨I.ok, I.os, I.bare, I.base, I.loc, I.cell, I.free, I.freeC, fun p hp => (List.mem_append.mp hp).elim (fun z => I.pin p (List.mem_append_left _ z)) (h p), I.hok, I.len⟩

theorem nodup_ix {N : List Str} (hN : N.Nodup) {i j : Nat} {x : Str} (a : N[i]? = some x) (b : N[j]? = some x) : i = j := by
  obtain ⟨h1, e1⟩ := List.getElem?_eq_some_iff.mp a
  obtain ⟨h2, e2⟩ := List.getElem?_eq_some_iff.mp b
  exact (List.getElem_inj hN).mp (e1.trans e2.symm)

/-- a name is stored; what changed -/
theorem store_ok2 {M : Model} {A : Around} {E : Value → Shared → Prop} {i : Nat} {x : Str} {v : V} {u : Value} {Q : Unit → Shared → Prop} (I : Inv X pins σ H s) (hN : X.N.Nodup) (hi : X.N[i]? = some x) (hx : Loc X.env.scope x) (r : RelV v u)
    (h : ∀ s', Inv X pins (σ.set i (some v)) H s' → (∃ a, Heap.SameBut a s.heap s'.heap ∧ (a = X.env.locals ∨ X.env.cells.lookup x = some a)) → Q () s') (hf : X.fn x = true ∨ X.env.scope.names.lookup x = some .local := by first | exact .inl rfl | exact .inr rfl | assumption) : wpAny M A (storeName X.env x u) Q E s := by
  obtain ⟨m, hn, hl⟩ := id I.loc
  have hcls : (X.env.scope.kind == .class || (X.env.scope.kind == .module && X.env.locals != X.env.globals)) = false := by rw [I.ok.kind]; rfl
  have hiσ : i < σ.length := by rw [I.len]; exact (List.getElem?_eq_some_iff.mp hi).1
  have cne := I.cne
  have tracked : ∀ {a : Addr} {h' : Heap}, (∃ o, s.heap.get? a = some o ∧ H a = none) → Heap.SameBut a s.heap h' → HOk X.prog X.w H h' := fun {a h'} ha hs b ob e => by
    obtain ⟨_, _, hfree⟩ := ha
    refine (I.hok b ob e).stay (fun c w' hc q => (hs.2 c ?_).trans q) (fun _ q => q) fun _ _ q => q
    rintro rfl
    rcases hc with rfl | hc
    · rw [hfree] at e; cases e
    · rw [hfree] at hc; cases hc
  rcases hx with hk | hk
  · refine wpAny_storeName_local hk hn (fun h' hn' hs => ?_) hcls
    obtain ⟨oL, _, _, hoL, _⟩ := id hn
    refine h _ ⟨I.ok, I.os, I.bare, ⟨fun b o e n hb hx => ?_, fun b o e n hb hx => ?_, I.base.free, fun b o e hx => ?_, I.base.tups, I.base.frzs, I.base.tbls⟩, ⟨_, hn', fun j y v' e1 e2 e3 => ?_⟩, fun y c e => ?_, I.free, I.freeC, fun p hp => ?_, tracked ⟨oL, hoL, I.free⟩ hs, by simpa using I.len⟩ ⟨_, hs, .inl rfl⟩
    · exact (hs.2 b (Nat.ne_of_lt (Nat.lt_of_lt_of_le (Heap.lt_size e) I.ok.above))).trans (I.base.keep b o e n hb hx)
    · obtain ⟨sl, e1⟩ := I.base.slot b o e n hb hx
      exact ⟨sl, (hs.2 b (Nat.ne_of_lt (Nat.lt_of_lt_of_le (Heap.lt_size e) I.ok.above))).trans e1⟩
    · obtain ⟨o', e1⟩ := I.base.there b o e hx
      exact ⟨o', (hs.2 b (Nat.ne_of_lt (Nat.lt_of_lt_of_le (Heap.lt_size e) I.ok.above))).trans e1⟩
    · by_cases hj : j = i
      · subst hj
        rw [hi] at e1; cases e1
        rw [List.getElem?_set_self hiσ] at e2
        cases e2
        exact ⟨u, r, .inl ⟨hk, by simp⟩⟩
      · rw [List.getElem?_set_ne (Ne.symm hj)] at e2
        obtain ⟨u', r', q⟩ := hl j y v' e1 e2 e3
        refine ⟨u', r', ?_⟩
        rcases q with ⟨k, e⟩ | ⟨k, c, e, z⟩
        · refine .inl ⟨k, ?_⟩
          have : y ≠ x := fun e => hj (nodup_ix hN e1 (e ▸ hi))
          simp [this, e]
        · exact .inr ⟨k, c, e, z.sameBut hs (cne y c e)⟩
    · obtain ⟨w', z⟩ := I.cell y c e
      exact ⟨w', z.sameBut hs (cne y c e)⟩
    · obtain ⟨e, n, ne, nf, d⟩ := I.pin p hp
      exact ⟨(hs.2 p.1 ne).trans e, n, ne, nf, d⟩
  · have hfn : X.fn x = true := by
      rcases hf with z | z
      · exact z
      · rw [z] at hk; cases hk
    obtain ⟨c, hc⟩ := I.ok.has x (.inl hk)
    obtain ⟨w', z⟩ := I.cell x c hc
    refine wpAny_storeName_cell I.ok.kind hk hc z (fun h' hc' hs => ?_)
    obtain ⟨oc, hoc, hocd⟩ := id z
    refine h { s with heap := h' } ⟨I.ok, I.os, I.bare, ⟨fun b o e n hb hx => ?_, fun b o e n hb hx => ?_, I.base.free, fun b o e hx => ?_, I.base.tups, I.base.frzs, I.base.tbls⟩, ⟨m, hn.sameBut hs (Ne.symm (cne x c hc)), fun j y v' e1 e2 e3 => ?_⟩, fun y c' e => ?_, I.free, I.freeC, fun p hp => ?_, tracked ⟨oc, hoc, I.freeC x c hc⟩ hs, by simpa using I.len⟩ ⟨c, hs, .inr hc⟩
    · exact (hs.2 b (Nat.ne_of_lt (Nat.lt_of_lt_of_le (Heap.lt_size e) (I.ok.cab x c hfn hc)))).trans (I.base.keep b o e n hb hx)
    · obtain ⟨sl, e1⟩ := I.base.slot b o e n hb hx
      exact ⟨sl, (hs.2 b (Nat.ne_of_lt (Nat.lt_of_lt_of_le (Heap.lt_size e) (I.ok.cab x c hfn hc)))).trans e1⟩
    · obtain ⟨o', e1⟩ := I.base.there b o e hx
      exact ⟨o', (hs.2 b (Nat.ne_of_lt (Nat.lt_of_lt_of_le (Heap.lt_size e) (I.ok.cab x c hfn hc)))).trans e1⟩
    · by_cases hj : j = i
      · subst hj
        rw [hi] at e1; cases e1
        rw [List.getElem?_set_self hiσ] at e2
        cases e2
        exact ⟨u, r, .inr ⟨.inl hk, c, hc, hc'⟩⟩
      · rw [List.getElem?_set_ne (Ne.symm hj)] at e2
        obtain ⟨u', r', q⟩ := hl j y v' e1 e2 e3
        refine ⟨u', r', ?_⟩
        rcases q with q | ⟨k, c', e, z'⟩
        · exact .inl q
        · refine .inr ⟨k, c', e, z'.sameBut hs ?_⟩
          rintro rfl
          exact hj (nodup_ix hN e1 (I.ok.inj _ _ _ e hc ▸ hi))
    · by_cases hcc : c' = c
      · subst hcc; exact ⟨_, hc'⟩
      · obtain ⟨w2, z2⟩ := I.cell y c' e
        exact ⟨w2, z2.sameBut hs hcc⟩
    · obtain ⟨e, n, ne, nf, d⟩ := I.pin p hp
      refine ⟨(hs.2 p.1 ?_).trans e, n, ne, nf, d⟩
      intro q
      rw [q, hoc] at e
      have q' : oc = p.2 := Option.some.inj e
      exact d w' (by rw [← q']; exact hocd)
theorem store_ok {M : Model} {A : Around} {E : Value → Shared → Prop} {i : Nat} {x : Str} {v : V} {u : Value} {Q : Unit → Shared → Prop} (I : Inv X pins σ H s) (hN : X.N.Nodup) (hi : X.N[i]? = some x) (hx : Loc X.env.scope x) (r : RelV v u)
    (h : ∀ s', Inv X pins (σ.set i (some v)) H s' → Q () s') (hf : X.fn x = true ∨ X.env.scope.names.lookup x = some .local := by first | exact .inl rfl | exact .inr rfl | assumption) : wpAny M A (storeName X.env x u) Q E s :=
  store_ok2 I hN hi hx r (fun s' I' _ => h s' I') hf
/-- behind a call or a block, the state as it is -/
theorem Inv.call' {s' : Shared} {ch : List Addr} (I : Inv X pins σ H s) (ho : s'.os = s.os) (u : Un (frs X.stack) ch H H' s.heap s'.heap) (hok : HOk X.prog X.w H' s'.heap) (hg : AllBare s'.gens)
    (hch : ∀ b ∈ ch, (b ∈ X.ex ∨ X.s_0.heap.objs.size ≤ b) ∧ b ≠ X.env.locals ∧ (∀ x c, X.env.cells.lookup x = some c → c ≠ b) ∧ ∀ p ∈ X.pn ++ pins, p.1 ≠ b) : Inv X pins σ H' s' := by
  obtain ⟨h', g', d', t', o'⟩ := s'
  have e : o' = s.os := ho
  subst e
  exact I.call (g' := g') (t' := t') (d' := d') u hok hg hch
end

/-! ### the judgements -/
/-- an exception: its class, its own dict's address (where it has one), the abstract heap behind it -/
abbrev XK := Value → Option Addr → Hp → Prop
abbrev St := List (Option V)
abbrev VK := V → Hp → Prop
/-- an expression's reading; a test's; an argument list's -/
abbrev TE := St → Hp → VK → Prop
abbrev TT := St → Hp → (Bool → Hp → Prop) → Prop
abbrev TA := St → Hp → (List V → Hp → Prop) → Prop
/-- what is wanted behind a statement -/
structure Ends where
  nx : St → Hp → Prop
  rt : VK
  bk : St → Hp → Prop := fun _ _ => False
  ct : St → Hp → Prop := fun _ _ => False
abbrev TS := Ends → St → Hp → Prop

def EP (X : Cx) (pins : List (Addr × Obj)) (σ : St) (Q : VK) (u : Value) (s' : Shared) : Prop := ∃ v H', Inv X pins σ H' s' ∧ RelV v u ∧ Q v H'
def TP (X : Cx) (pins : List (Addr × Obj)) (σ : St) (Q : Bool → Hp → Prop) (b : Bool) (s' : Shared) : Prop := ∃ H', Inv X pins σ H' s' ∧ Q b H'
def AP (X : Cx) (pins : List (Addr × Obj)) (σ : St) (Q : List V → Hp → Prop) (us : List Value) (s' : Shared) : Prop := ∃ vs H', Inv X pins σ H' s' ∧ Vals vs us ∧ Q vs H'
def SP (X : Cx) (pins : List (Addr × Obj)) (D : Ends) (f : Flow) (s' : Shared) : Prop :=
  match f with
  | .next => ∃ σ' H', Inv X pins σ' H' s' ∧ D.nx σ' H'
  | .brk => ∃ σ' H', Inv X pins σ' H' s' ∧ D.bk σ' H'
  | .cont => ∃ σ' H', Inv X pins σ' H' s' ∧ D.ct σ' H'
  | .ret u => ∃ v σ' H', Inv X pins σ' H' s' ∧ RelV v u ∧ D.rt v H'

def PE (X : Cx) (e : Expr) (t : TE) : Prop :=
  ∀ (pins : List (Addr × Obj)) (s : Shared) (σ : St) (H : Hp) (Q : VK), Inv X pins σ H s → t σ H Q → wpAny (model X.prog X.w) X.A (eval e X.env) (EP X pins σ Q) X.xe s
def PT (X : Cx) (e : Expr) (t : TT) : Prop :=
  ∀ (pins : List (Addr × Obj)) (s : Shared) (σ : St) (H : Hp) (Q : Bool → Hp → Prop), Inv X pins σ H s → t σ H Q → wpAny (model X.prog X.w) X.A (isTrue e X.env (eval e X.env)) (TP X pins σ Q) X.xe s
/-- a test whatever its 'whole' is (and, or) -/
def PW (X : Cx) (e : Expr) (t : TT) : Prop :=
  ∀ (whole : Sem Value) (pins : List (Addr × Obj)) (s : Shared) (σ : St) (H : Hp) (Q : Bool → Hp → Prop), Inv X pins σ H s → t σ H Q → wpAny (model X.prog X.w) X.A (isTrue e X.env whole) (TP X pins σ Q) X.xe s
theorem PW.pt {X : Cx} {e : Expr} {t : TT} (h : PW X e t) : PT X e t := h _
/-- an argument list (no star), from the left -/
def PA (X : Cx) (es : List Expr) (t : TA) : Prop :=
  ∀ (pos : Pos) (pins : List (Addr × Obj)) (s : Shared) (σ : St) (H : Hp) (Q : List V → Hp → Prop), Inv X pins σ H s → t σ H Q → wpAny (model X.prog X.w) X.A (spliced (backTo pos (starEach es X.env))) (AP X pins σ Q) X.xe s
def PS (X : Cx) (st : Stmt) (t : TS) : Prop :=
  ∀ (pins : List (Addr × Obj)) (s : Shared) (σ : St) (H : Hp) (D : Ends), Inv X pins σ H s → t D σ H → wpAny (model X.prog X.w) X.A (exec st X.env) (SP X pins D) X.xe s
def PSs (X : Cx) (st : List Stmt) (t : TS) : Prop :=
  ∀ (pins : List (Addr × Obj)) (s : Shared) (σ : St) (H : Hp) (D : Ends), Inv X pins σ H s → t D σ H → wpAny (model X.prog X.w) X.A (execs st X.env) (SP X pins D) X.xe s
/-- weaken the end -/
theorem thn {α : Type} {t : Sem α} {Q Q' : α → Shared → Prop} {M : Model} {A : Around} {E : Value → Shared → Prop} {s : Shared} (h : wpAny M A t Q E s) (hQ : ∀ a s, Q a s → Q' a s) : wpAny M A t Q' E s := wpAny_mono h hQ fun _ _ x => x
end L2

namespace L2
open PySem PySem.Spec PyProof.Rows
section
variable {X : Cx}

/-- two expressions in a row -/
theorem bin {a b : Expr} {ta tb : TE} (ha : PE X a ta) (hb : PE X b tb) {pins : List (Addr × Obj)} {s : Shared} {σ : St} {H : Hp} {R : V → V → Hp → Prop} (I : Inv X pins σ H s) (h : ta σ H fun x H1 => tb σ H1 fun y H2 => R x y H2)
    {α : Type} {Q : α → Shared → Prop} {f : Value → Value → Sem α}
    (hf : ∀ v u s2 x y H2, Inv X pins σ H2 s2 → RelV x v → RelV y u → R x y H2 → wpAny (model X.prog X.w) X.A (f v u) Q X.xe s2) :
    wpAny (model X.prog X.w) X.A (eval a X.env) (fun v s₁ => wpAny (model X.prog X.w) X.A (eval b X.env) (fun u s₂ => wpAny (model X.prog X.w) X.A (f v u) Q X.xe s₂) X.xe s₁) X.xe s := by
  refine thn (ha pins s σ H _ I h) fun v s1 ⟨x, H1, I1, r1, q1⟩ => ?_
  refine thn (hb pins s1 σ H1 _ I1 q1) fun u s2 ⟨y, H2, I2, r2, q2⟩ => ?_
  exact hf v u s2 x y H2 I2 r1 r2 q2

/-! ### names and constants -/
def tVar (i : Nat) : TE := fun σ H Q => ∃ v, σ[i]? = some (some v) ∧ Q v H
def tC (v : V) : TE := fun _ H Q => Q v H
theorem pe_var {i : Nat} {x : Str} {pos : Pos} (hN : X.N[i]? = some x) (hv : Vis X.env.scope x) (hd : (x == ("__debug__" : Str)) = false := by decide) (hcd : (x == ("__classdict__" : Str)) = false := by decide) : PE X (.Name x pos) (tVar i) := by
  intro pins s σ H Q I h
  obtain ⟨v, e, h⟩ := h
  obtain ⟨m, hn, hl⟩ := I.loc
  obtain ⟨u, r, l⟩ := hl i x v hN e hv
  have fin : EP X pins σ Q u s := ⟨v, H, I, r, h⟩
  rcases l with ⟨hk, hm⟩ | ⟨hk, c, hc, hcell⟩
  · exact wpAny_Name (wpAny_loadName_local I.ok.kind hk hn hm fin) hd
  · rcases hk with hk | hk
    · exact wpAny_Name (wpAny_loadName_cell I.ok.kind hk hc hcell fin) hd
    · exact wpAny_Name (wpAny_loadName_free I.ok.kind hk hc hcell fin hcd) hd
theorem pe_int {i j pos} : PE X (.Constant (.int i) j pos) (tC (.int i)) := fun _ _ _ H _ I h => wpAny_Constant_int ⟨.int i, H, I.tok _, ⟨_, rfl⟩, h⟩
theorem pe_bl {b j pos} : PE X (.Constant (.bool b) j pos) (tC (.bl b)) := fun _ _ _ H _ I h => Constant_bool ⟨.bl b, H, I, rfl, h⟩
/-- a global name of the def -/
def Gl (X : Cx) (x : Str) : Prop := X.env.kindOf x = some .globalImplicit
theorem ld_glob {E : Value → Shared → Prop} {pins : List (Addr × Obj)} {s : Shared} {σ : St} {H : Hp} {x : Str} {u : Value} {pos : Pos} {Q : Value → Shared → Prop} (I : Inv X pins σ H s) (hg : Gl X x) (hm : X.mg x = some u) (h : Q u s)
    (hd : (x == ("__debug__" : Str)) = false := by decide) : wpAny (model X.prog X.w) X.A (eval (.Name x pos) X.env) Q E s :=
  Calls.Name_function_global I.ok.kind hg (Calls.loadGlobal_global (by rw [I.ok.glob]; exact I.mod.glob.keeps I.bk) hm h) hd
theorem ld_blt {E : Value → Shared → Prop} {pins : List (Addr × Obj)} {s : Shared} {σ : St} {H : Hp} {x : Str} {u : Value} {pos : Pos} {Q : Value → Shared → Prop} (I : Inv X pins σ H s) (hg : Gl X x) (hm : X.mg x = none) (hv : bootBuiltins x = some u) (h : Q u s)
    (hn : x ≠ "__name__" := by decide) (hd : (x == ("__debug__" : Str)) = false := by decide) : wpAny (model X.prog X.w) X.A (eval (.Name x pos) X.env) Q E s := by
  obtain ⟨mb, h1, h2⟩ := I.mod.blt
  exact Calls.Name_function_global I.ok.kind hg (Calls.loadGlobal_builtin (by rw [I.ok.glob]; exact I.mod.glob.keeps I.bk) hm (by rw [I.ok.blt]; exact h1.keeps I.bk) ((h2 x hn).trans hv) h) hd
/-- a module's constant, a class, a function, as a value -/
theorem pe_glob {x : Str} {v : V} {u : Value} {pos : Pos} (hg : Gl X x) (hm : X.mg x = some u) (r : RelV v u) (hd : (x == ("__debug__" : Str)) = false := by decide) : PE X (.Name x pos) (tC v) :=
  fun _ _ _ H _ I h => ld_glob I hg hm ⟨v, H, I, r, h⟩ hd
/-! ### arithmetic -/
variable {a b : Expr} {ta tb : TE} {pos : Pos}
/-! ### comparisons -/
def PC (X : Cx) (op : CmpOp) (a b : Expr) (t : TE) : Prop :=
  ∀ (pins : List (Addr × Obj)) (s : Shared) (σ : St) (H : Hp) (Q : VK), Inv X pins σ H s → t σ H Q →
    wpAny (model X.prog X.w) X.A (eval a X.env) (fun v s₁ => wpAny (model X.prog X.w) X.A (eval b X.env) (fun u s₂ => wpAny (model X.prog X.w) X.A (compareOp op v u) (EP X pins σ Q) X.xe s₂) X.xe s₁) X.xe s
theorem nobehind (b : Expr) {op : CmpOp} (h : op ≠ .In) (h2 : op ≠ .NotIn) : behindInMarks op b = false := by
  have e1 : (op == CmpOp.In) = false := by cases op <;> first | rfl | exact absurd rfl h
  have e2 : (op == CmpOp.NotIn) = false := by cases op <;> first | rfl | exact absurd rfl h2
  cases b <;> simp [behindInMarks, e1, e2]
/-- a comparison as a value, as a test -/
def tB (t : TE) : TT := fun σ H Q => t σ H fun x H1 => ∃ c, x = .bl c ∧ Q c H1
theorem pt_cmp {op : CmpOp} {t : TE} (h : PC X op a b t) (h1 : behindInMarks op b = false := by first | exact nobehind _ (by decide) (by decide) | rfl) : PT X (.Compare a [op] [b] pos) (tB t) := by
  intro pins s σ H Q I hw
  refine wpAny_isTrue_Compare1 (thn (h pins s σ H _ I hw) fun v s1 h1 => thn h1 fun u s2 h2 => thn h2 fun c s3 ⟨x, H1, I1, r1, q1⟩ => ?_) h1
  obtain ⟨d, rfl, q⟩ := q1
  cases r1
  exact wpAny_truthy_bool ⟨H1, I1, q⟩
/-- an expression whose value is a bool, as a test -/
theorem pt_val {e : Expr} {t : TE} (h : PE X e t) (he : ∀ whole, isTrue e X.env whole = (do let v ← whole; standAt e.pos; holding [v] (truthy v)) := by intro _; rfl) : PT X e (tB t) := by
  intro pins s σ H Q I hw
  refine isTrue_plain (thn (h pins s σ H _ I hw) fun v s1 ⟨x, H1, I1, r1, q1⟩ => ?_) (he _)
  obtain ⟨d, rfl, q⟩ := q1
  cases r1
  exact wpAny_truthy_bool ⟨H1, I1, q⟩

/-! ### and, or, not -/
variable {tA tB' : TT} {rest : List Expr}
def tAnd (t u : TT) : TT := fun σ H Q => t σ H fun c H1 => if c = true then u σ H1 Q else Q false H1
def tOr (t u : TT) : TT := fun σ H Q => t σ H fun c H1 => if c = true then Q true H1 else u σ H1 Q
def tNot (t : TT) : TT := fun σ H Q => t σ H fun c H1 => Q (!c) H1
theorem pw_and1 (ha : PT X a tA) : PW X (.BoolOp .And [a] pos) tA := by
  intro wh pins s σ H Q I h
  refine isTrue_and (thn (ha pins s σ H Q I h) fun c s1 e => ?_)
  cases c with
  | true => exact isTrue_and_nil e
  | false => exact e
theorem pw_or1 (ha : PT X a tA) : PW X (.BoolOp .Or [a] pos) tA := by
  intro wh pins s σ H Q I h
  refine isTrue_or (thn (ha pins s σ H Q I h) fun c s1 e => ?_)
  cases c with
  | false => exact isTrue_or_nil e
  | true => exact e
theorem pw_and (ha : PT X a tA) (hb : PW X (.BoolOp .And (b :: rest) pos) tB') : PW X (.BoolOp .And (a :: b :: rest) pos) (tAnd tA tB') := by
  intro wh pins s σ H Q I h
  refine isTrue_and (thn (ha pins s σ H _ I h) fun c s1 ⟨H1, I1, q1⟩ => ?_)
  cases c with
  | true => exact hb wh pins s1 σ H1 Q I1 q1
  | false => exact ⟨H1, I1, q1⟩
theorem pw_or (ha : PT X a tA) (hb : PW X (.BoolOp .Or (b :: rest) pos) tB') : PW X (.BoolOp .Or (a :: b :: rest) pos) (tOr tA tB') := by
  intro wh pins s σ H Q I h
  refine isTrue_or (thn (ha pins s σ H _ I h) fun c s1 ⟨H1, I1, q1⟩ => ?_)
  cases c with
  | true => exact ⟨H1, I1, q1⟩
  | false => exact hb wh pins s1 σ H1 Q I1 q1
theorem pt_not (ha : PT X a tA) : PT X (.UnaryOp .Not a pos) (tNot tA) := by
  intro pins s σ H Q I h
  exact isTrue_not (ha pins s σ H (fun c H1 => Q (!c) H1) I h)
/-- .. as values (bools) -/
def tAndV (ta tb : TE) : TE := fun σ H Q => ta σ H fun x H1 => ∃ c, x = .bl c ∧ if c = true then tb σ H1 Q else Q (.bl false) H1
def tOrV (ta tb : TE) : TE := fun σ H Q => ta σ H fun x H1 => ∃ c, x = .bl c ∧ if c = true then Q (.bl true) H1 else tb σ H1 Q
theorem pe_one {op} {t : TE} (h : PE X a t) : PE X (.BoolOp op [a] pos) t := fun pins s σ H Q I hw => BoolOp_one (h pins s σ H Q I hw)
theorem pe_and (ha : PE X a ta) (hb : PE X (.BoolOp .And (b :: rest) pos) tb) : PE X (.BoolOp .And (a :: b :: rest) pos) (tAndV ta tb) := by
  intro pins s σ H Q I h
  refine BoolOp_and (thn (ha pins s σ H _ I h) fun v s1 ⟨x, H1, I1, r1, q1⟩ => ?_)
  obtain ⟨c, rfl, q1⟩ := q1
  cases r1
  refine wpAny_truthy_bool ?_
  cases c with
  | true => exact hb pins s1 σ H1 Q I1 q1
  | false => exact ⟨.bl false, H1, I1, rfl, q1⟩
theorem pe_or (ha : PE X a ta) (hb : PE X (.BoolOp .Or (b :: rest) pos) tb) : PE X (.BoolOp .Or (a :: b :: rest) pos) (tOrV ta tb) := by
  intro pins s σ H Q I h
  refine BoolOp_or (thn (ha pins s σ H _ I h) fun v s1 ⟨x, H1, I1, r1, q1⟩ => ?_)
  obtain ⟨c, rfl, q1⟩ := q1
  cases r1
  refine wpAny_truthy_bool ?_
  cases c with
  | false => exact hb pins s1 σ H1 Q I1 q1
  | true => exact ⟨.bl true, H1, I1, rfl, q1⟩
/-- a if t else b -/
def tIf (t : TT) (ta tb : TE) : TE := fun σ H Q => t σ H fun c H1 => if c = true then ta σ H1 Q else tb σ H1 Q
theorem pe_ifExp {c : Expr} (hc : PT X c tA) (ha : PE X a ta) (hb : PE X b tb) : PE X (.IfExp c a b pos) (tIf tA ta tb) := by
  intro pins s σ H Q I h
  refine wpAny_IfExp (thn (hc pins s σ H _ I h) fun d s1 ⟨H1, I1, q1⟩ => ?_)
  cases d with
  | true => exact ha pins s1 σ H1 Q I1 q1
  | false => exact hb pins s1 σ H1 Q I1 q1
end
end L2

namespace L2
open PySem PySem.Spec PyProof.Rows

/-! ### a list, a tuple that is read: tracked, frozen, or an object of the module -/
def SqL (K : PySem.W.Frag) (H : Hp) (a : Addr) (xs : List V) : Prop :=
  Rd H a (.lst xs) ∨
    ∃ (o : Obj) (its : Array Value) (n : Nat), K.lookup a = some o ∧ o.cls = .type "list" ∧ o.dict = none ∧ o.data = .seq its n ∧ its.size ≤ sizeLine ∧ Vals xs its.toList
def SqT (K : PySem.W.Frag) (H : Hp) (a : Addr) (xs : List V) : Prop :=
  Rd H a (.tup xs) ∨
    ∃ (o : Obj) (its : Array Value) (n : Nat), K.lookup a = some o ∧ o.cls = .type "tuple" ∧ o.data = .seq its n ∧ its.size ≤ sizeLine ∧ Vals xs its.toList
def absV : Value → Option V
  | .none => some .non
  | .bool b => some (.bl b)
  | .int i _ => some (.int i)
  | .str x _ => some (.str x)
  | .bytes b _ => some (.byt b)
  | .float b _ => some (.flt b)
  | .ref a => some (.ref a)
  | .type n => some (.ty n)
  | _ => none
theorem RelV.abs {x : V} {u : Value} (r : RelV x u) : absV u = some x := by
  cases x with
  | non => cases r; rfl
  | bl _ => cases r; rfl
  | int _ => obtain ⟨t, rfl⟩ := r; rfl
  | str _ => obtain ⟨t, rfl⟩ := r; rfl
  | byt _ => obtain ⟨t, rfl⟩ := r; rfl
  | flt _ => obtain ⟨t, rfl⟩ := r; rfl
  | ref _ => cases r; rfl
  | ty _ => cases r; rfl
theorem RelV.inj {x y : V} {u : Value} (r : RelV x u) (q : RelV y u) : x = y := Option.some.inj (r.abs.symm.trans q.abs)
theorem Vals.inj : ∀ {xs ys : List V} {us : List Value}, Vals xs us → Vals ys us → xs = ys
  | _, _, _, .nil, .nil => rfl
  | _, _, _, .cons r t, .cons r' t' => by rw [r.inj r', Vals.inj t t']
section
variable {X : Cx} {pins : List (Addr × Obj)} {σ : St} {H : Hp} {s : Shared} {a : Addr} {xs ys : List V}
theorem SqL.of {K : PySem.W.Frag} (h : H a = some (.lst xs)) : SqL K H a xs := .inl (.inl h)
theorem SqT.of {K : PySem.W.Frag} (h : H a = some (.tup xs)) : SqT K H a xs := .inl (.inl h)
theorem Inv.list (I : Inv X pins σ H s) (h : SqL X.K H a xs) : ∃ its : List Value, Vals xs its ∧ PlainL s.heap a its.toArray ∧ xs.length ≤ sizeLine := by
  rcases h with h | ⟨o, its, n, hk, hc, hd, hs, hz, r⟩
  · obtain ⟨z, its, n, r, e⟩ := h.ok I.hok
    exact ⟨its, r, ⟨_, n, e, rfl, rfl, rfl⟩, z⟩
  · refine ⟨its.toList, r, ⟨o, n, I.kIn a o hk, hc, hd, by simpa using hs⟩, ?_⟩
    have e := r.length
    simp only [Array.length_toList] at e
    omega
theorem Inv.tuple (I : Inv X pins σ H s) (h : SqT X.K H a xs) : ∃ its : List Value, Vals xs its ∧ IsTup s.heap a its.toArray ∧ xs.length ≤ sizeLine := by
  rcases h with h | ⟨o, its, n, hk, hc, hs, hz, r⟩
  · obtain ⟨z, its, r, p⟩ := h.ok I.hok
    exact ⟨its, r, p, z⟩
  · refine ⟨its.toList, r, ⟨o, I.kIn a o hk, hc, n, by simpa using hs⟩, ?_⟩
    have e := r.length
    simp only [Array.length_toList] at e
    omega
theorem Inv.list_inj (I : Inv X pins σ H s) (h : SqL X.K H a xs) (h' : SqL X.K H a ys) : xs = ys := by
  obtain ⟨its, r, ⟨o, n, e, _, _, d⟩, _⟩ := I.list h
  obtain ⟨its', r', ⟨o', n', e', _, _, d'⟩, _⟩ := I.list h'
  rw [e] at e'; cases e'
  rw [d] at d'
  injection d' with d1 _
  have : its = its' := by simpa using congrArg Array.toList d1
  subst this
  exact r.inj r'
end

/-! ### another wish about exceptions -/
abbrev Cx.wish (X : Cx) (E : Value → Shared → Prop) : Cx := { X with xe := E }
/-- no exception leaves -/
abbrev Cx.nox (X : Cx) : Cx := X.wish fun _ _ => False
theorem Cx.Ok.wish {X : Cx} (ok : X.Ok) (E : Value → Shared → Prop) : (X.wish E).Ok :=
  ⟨ok.mod, ok.kind, ok.glob, ok.blt, ok.above, ok.inj, ok.has, ok.cab, ok.hd, ok.frames, ok.stk, ok.exf, ok.bs, ok.bsz, ok.noex, ok.exfs, ok.funs, ok.frf⟩
theorem Cx.Ok.unwish {X : Cx} {E : Value → Shared → Prop} (ok : (X.wish E).Ok) : X.Ok :=
  ⟨ok.mod, ok.kind, ok.glob, ok.blt, ok.above, ok.inj, ok.has, ok.cab, ok.hd, ok.frames, ok.stk, ok.exf, ok.bs, ok.bsz, ok.noex, ok.exfs, ok.funs, ok.frf⟩
section
variable {X : Cx} {pins : List (Addr × Obj)} {σ : St} {H : Hp} {s : Shared} {E : Value → Shared → Prop}
theorem Inv.wish (I : Inv X pins σ H s) (E : Value → Shared → Prop) : Inv (X.wish E) pins σ H s := ⟨I.ok.wish E, I.os, I.bare, I.base, I.loc, I.cell, I.free, I.freeC, I.pin, I.hok, I.len⟩
theorem Inv.unwish (I : Inv (X.wish E) pins σ H s) : Inv X pins σ H s := ⟨I.ok.unwish, I.os, I.bare, I.base, I.loc, I.cell, I.free, I.freeC, I.pin, I.hok, I.len⟩
theorem SP.unwish {D : Ends} {f : Flow} {s' : Shared} (h : SP (X.wish E) pins D f s') : SP X pins D f s' := by
  cases f with
  | next => obtain ⟨σ', H', I, q⟩ := h; exact ⟨σ', H', I.unwish, q⟩
  | brk => obtain ⟨σ', H', I, q⟩ := h; exact ⟨σ', H', I.unwish, q⟩
  | cont => obtain ⟨σ', H', I, q⟩ := h; exact ⟨σ', H', I.unwish, q⟩
  | ret u => obtain ⟨v, σ', H', I, r, q⟩ := h; exact ⟨v, σ', H', I.unwish, r, q⟩
theorem PSs.nox {st : List Stmt} {t : TS} (h : PSs X.nox st t) : PSs X st t := fun pins s σ H D I hw =>
  wpAny_mono (h pins s σ H D (I.wish _) hw) (fun _ _ q => q.unwish) fun _ _ z => False.elim z
end

/-! ### blocks and small statements -/
section
variable {X : Cx} {st : Stmt} {rest : List Stmt} {t u : TS} {e : Expr} {te : TE} {pos : Pos}
def tNext : TS := fun D σ H => D.nx σ H
def tSeq (t u : TS) : TS := fun D σ H => t { D with nx := u D } σ H
theorem pss_nil : PSs X [] tNext := fun _ _ σ H _ I h => wpAny_execs_nil ⟨σ, H, I, h⟩
theorem pss_cons (h1 : PS X st t) (h2 : PSs X rest u) : PSs X (st :: rest) (tSeq t u) := by
  intro pins s σ H D I h
  refine wpAny_execs_cons (thn (h1 pins s σ H { D with nx := u D } I h) fun f s1 q => ?_)
  cases f with
  | next =>
    obtain ⟨σ', H', I', q⟩ := q
    exact h2 pins s1 σ' H' D I' q
  | ret v => exact q
  | brk => exact q
  | cont => exact q
theorem pss_one (h1 : PS X st t) : PSs X [st] t := by
  intro pins s σ H D I h
  refine wpAny_execs_cons (thn (h1 pins s σ H D I h) fun f s1 q => ?_)
  cases f with
  | next => exact wpAny_execs_nil q
  | ret v => exact q
  | brk => exact q
  | cont => exact q
/-- in a def's body nothing is shown -/
theorem Inv.quiet {pins : List (Addr × Obj)} {σ : St} {H : Hp} {s : Shared} (I : Inv X pins σ H s) : interactive X.env = false := by simp [interactive, I.ok.kind]
/-- an expression whose value is dropped -/
def tDrop (te : TE) : TS := fun D σ H => te σ H fun _ H1 => D.nx σ H1
theorem ps_expr (he : PE X e te) (hs : swapsWith e none pos.line X.env = pure false := by rfl) : PS X (.Expr e pos) (tDrop te) := by
  intro pins s σ H D I h
  exact wpAny_Expr_any (thn (he pins s σ H _ I h) fun v s1 ⟨x, H1, I1, r1, q1⟩ => ⟨σ, H1, I1, q1⟩) I.quiet hs
def tRet (te : TE) : TS := fun D σ H => te σ H D.rt
theorem ps_ret (he : PE X e te) : PS X (.Return (some e) pos) (tRet te) := by
  intro pins s σ H D I h
  exact wpAny_Return_some (thn (he pins s σ H _ I h) fun v s1 ⟨x, H1, I1, r1, q1⟩ => ⟨x, σ, H1, I1, r1, q1⟩)
def tIfS (c : TT) (t u : TS) : TS := fun D σ H => c σ H fun b H1 => if b = true then t D σ H1 else u D σ H1
theorem ps_if {c : Expr} {a b : List Stmt} {tc : TT} (hc : PT X c tc) (ha : PSs X a t) (hb : PSs X b u) : PS X (.If c a b pos) (tIfS tc t u) := by
  intro pins s σ H D I h
  refine wpAny_If (thn (hc pins s σ H _ I h) fun d s1 ⟨H1, I1, q1⟩ => ?_)
  cases d with
  | true => exact ha pins s1 σ H1 D I1 q1
  | false => exact hb pins s1 σ H1 D I1 q1
end

/-! ### targets -/
abbrev TG := V → St → Hp → (St → Hp → Prop) → Prop
abbrev TGs := List V → St → Hp → (St → Hp → Prop) → Prop
def PG (X : Cx) (target : Expr) (t : TG) : Prop :=
  ∀ (pins : List (Addr × Obj)) (s : Shared) (σ : St) (H : Hp) (v : V) (u : Value) (Q : St → Hp → Prop), Inv X pins σ H s → RelV v u → t v σ H Q →
    wpAny (model X.prog X.w) X.A (assign target X.env u) (fun _ s' => ∃ σ' H', Inv X pins σ' H' s' ∧ Q σ' H') X.xe s
/-- several targets, one after another -/
def PGs (X : Cx) (ts : List Expr) (t : TGs) : Prop :=
  ∀ (pins : List (Addr × Obj)) (s : Shared) (σ : St) (H : Hp) (vs : List V) (us : List Value) (Q : St → Hp → Prop), Inv X pins σ H s → Vals vs us → t vs σ H Q →
    wpAny (model X.prog X.w) X.A (assignInOrder ((assignEach ts X.env).map (·.2)) us) (fun _ s' => ∃ σ' H', Inv X pins σ' H' s' ∧ Q σ' H') X.xe s
/-- o[i] = v, by values -/
abbrev TSet := V → V → V → Hp → (Hp → Prop) → Prop
def PSet (X : Cx) (t : TSet) : Prop :=
  ∀ (pins : List (Addr × Obj)) (s : Shared) (σ : St) (H : Hp) (o i v : V) (ov iv u : Value) (Q : Hp → Prop), Inv X pins σ H s → RelV o ov → RelV i iv → RelV v u → t o i v H Q →
    wpAny (model X.prog X.w) X.A (setItem ov iv u) (fun _ s' => ∃ H', Inv X pins σ H' s' ∧ Q H') X.xe s
section
variable {X : Cx} {pos : Pos}
def gName (i : Nat) : TG := fun v σ H Q => Q (σ.set i (some v)) H
theorem pg_name {i : Nat} {x : Str} (hN : X.N.Nodup) (hi : X.N[i]? = some x) (hx : Loc X.env.scope x) (hf : X.fn x = true ∨ X.env.scope.names.lookup x = some .local := by first | exact .inl rfl | exact .inr rfl | assumption) : PG X (.Name x pos) (gName i) := by
  intro pins s σ H v u Q I r h
  exact wpAny_assign_Name (store_ok I hN hi hx r (fun s' I' => ⟨_, H, I', h⟩) hf)
def gNil : TGs := fun vs σ H Q => vs = [] ∧ Q σ H
def gCons (t : TG) (u : TGs) : TGs := fun vs σ H Q => ∃ v r, vs = v :: r ∧ t v σ H fun σ' H' => u r σ' H' Q
theorem pgs_nil : PGs X [] gNil := by
  intro pins s σ H vs us Q I r h
  obtain ⟨e, h⟩ := h
  subst e
  cases r
  exact assignInOrder_nil ⟨σ, H, I, h⟩
theorem pgs_cons {e : Expr} {es : List Expr} {t : TG} {u : TGs} (h1 : PG X e t) (h2 : PGs X es u)
    (hs : (assignEach (e :: es) X.env).map (·.2) = assign e X.env :: (assignEach es X.env).map (·.2) := by rfl) : PGs X (e :: es) (gCons t u) := by
  intro pins s σ H vs us Q I r h
  obtain ⟨v, vr, e1, h⟩ := h
  subst e1
  cases r with
  | cons r rr =>
    rw [hs]
    refine assignInOrder_cons (thn (h1 pins s σ H _ _ _ I r h) fun _ s1 ⟨σ1, H1, I1, q1⟩ => ?_)
    exact h2 pins s1 σ1 H1 _ _ Q I1 rr q1
/-- (a, b, ..) = a tuple of that length -/
def gTup (K : PySem.W.Frag) (n : Nat) (t : TGs) : TG := fun v σ H Q => ∃ a xs, v = .ref a ∧ SqT K H a xs ∧ xs.length = n ∧ t xs σ H Q
theorem pg_tup {es : List Expr} {k : Nat} {t : TGs} {n : Nat} (hc : X.calm = true) (h : PGs X es t)
    (hn : (assignEach es X.env).length = n := by rfl) (hst : (assignEach es X.env).findIdx? (·.1) = none := by rfl) : PG X (.Tuple es k pos) (gTup X.K n t) := by
  intro pins s σ H v u Q I r hw
  obtain ⟨a, xs, e1, hq, hl, hw⟩ := hw
  subst e1
  cases r
  obtain ⟨its, rv, ht, hz⟩ := I.tuple hq
  refine assign_Tuple_tuple (I.ok.hd hc) ht (by simp [hn, ← hl, rv.length]) hst fun h' hx => ?_
  have I1 : Inv X pins σ H { s with heap := h' } := I.kept (t' := s.toks) fun b o e => hx b o (Nat.ne_of_lt (Heap.lt_size e)) e
  exact h pins _ σ H xs _ Q I1 (by simpa using rv) hw
/-- o[i] = .. -/
def gSub (to ti : TE) (t : TSet) : TG := fun v σ H Q => to σ H fun o H1 => ti σ H1 fun i H2 => t o i v H2 fun H3 => Q σ H3
theorem pg_sub {o i : Expr} {to ti : TE} {t : TSet} (ho : PE X o to) (hi : PE X i ti) (hs : PSet X t)
    (ha : ∀ v, assign (.Subscript o i pos) X.env v = (do
      let ov ← holding [v] (eval o X.env)
      let iv ← holding [v, ov] (eval i X.env)
      standAt pos
      holding [v, ov, iv] (setItem ov iv v)
      release [v, ov, iv] []) := by intro _; rfl) : PG X (.Subscript o i pos) (gSub to ti t) := by
  intro pins s σ H v u Q I r h
  rw [ha]
  refine wpAny_bind (wpAny_holding (thn (ho pins s σ H _ I h) fun ov s1 ⟨x, H1, I1, r1, q1⟩ => ?_))
  refine wpAny_bind (wpAny_holding (thn (hi pins s1 σ H1 _ I1 q1) fun iv s2 ⟨y, H2, I2, r2, q2⟩ => ?_))
  refine wpAny_bind (wpAny_standAt (wpAny_bind (wpAny_holding (thn (hs pins s2 σ H2 x y v ov iv u _ I2 r1 r2 r q2) fun _ s3 ⟨H3, I3, q3⟩ => ?_))))
  exact wpAny_release ⟨σ, H3, I3, q3⟩
/-- target = value -/
def tAsg (te : TE) (g : TG) : TS := fun D σ H => te σ H fun x H1 => g x σ H1 D.nx
theorem ps_asg {tg e : Expr} {te : TE} {g : TG} (he : PE X e te) (hg : PG X tg g) (hs : swapsWithSole [tg] e pos.line X.env = pure false := by rfl) (hw : swappedStores [tg] e X.env = pure none := by rfl)
    (h1 : (assignEach [tg] X.env).map (·.2) = [assign tg X.env] := by rfl) : PS X (.Assign [tg] e pos) (tAsg te g) := by
  intro pins s σ H D I h
  refine wpAny_Assign_stores (thn (he pins s σ H _ I h) fun v s1 ⟨x, H1, I1, r1, q1⟩ => ?_) hs hw
  rw [h1]
  exact thn (hg pins s1 σ H1 x v _ I1 r1 q1) fun _ s2 q => q
/-- name = value -/
theorem ps_set {i : Nat} {x : Str} {e : Expr} {te : TE} {pos' : Pos} (hN : X.N.Nodup) (hi : X.N[i]? = some x) (hx : Loc X.env.scope x) (he : PE X e te) (hs : swapsWith e (some (.Name x pos')) pos.line X.env = pure false := by rfl) (hf : X.fn x = true ∨ X.env.scope.names.lookup x = some .local := by first | exact .inl rfl | exact .inr rfl | assumption) :
    PS X (.Assign [.Name x pos'] e pos) (tAsg te (gName i)) := by
  intro pins s σ H D I h
  refine wpAny_Assign_Name (thn (he pins s σ H _ I h) fun v s1 ⟨y, H1, I1, r1, q1⟩ => ?_) hs
  exact store_ok I1 hN hi hx r1 (fun s2 I2 => ⟨_, H1, I2, q1⟩) hf
end

/-! ### while -/
section
variable {X : Cx} {pos : Pos}
/-- the invariant W with its measure -/
def tWhile (c : TT) (tb : TS) : TS := fun D σ H => ∃ W : Nat → St → Hp → Prop, (∃ m, W m σ H) ∧ ∀ m σ H, W m σ H →
  c σ H fun b H1 => if b = true then ∃ N : St → Hp → Prop, (∀ σ' H', N σ' H' → ∃ m', m' < m ∧ W m' σ' H') ∧ tb { D with nx := N, ct := N, bk := D.nx } σ H1 else D.nx σ H1
theorem ps_while {c : Expr} {body : List Stmt} {tc : TT} {tb : TS} (hp : PassesOwn (model X.prog X.w) X.A X.env X.xe) (hc : PT X c tc) (hb : PSs X body tb) : PS X (.While c body [] pos) (tWhile tc tb) := by
  intro pins s σ H D I h
  obtain ⟨W, ⟨m0, w0⟩, turn⟩ := h
  refine wpAny_While (codeAny_whileLoop (fun n s' => ∃ σ' H', Inv X pins σ' H' s' ∧ W n σ' H') ?_ m0 ⟨σ, H, I, w0⟩)
  rintro n s1 ⟨σ1, H1, I1, w1⟩
  refine wpAny_passesOwn hp (thn (hc pins s1 σ1 H1 _ I1 (turn n σ1 H1 w1)) fun b s2 ⟨H2, I2, q2⟩ => ?_)
  cases b with
  | true =>
    obtain ⟨N, hN, q2⟩ := q2
    rw [if_pos rfl]
    refine wpAny_passesOwn hp (thn (hb pins s2 σ1 H2 _ I2 q2) fun f s3 q3 => ?_)
    cases f with
    | next =>
      obtain ⟨σ3, H3, I3, n3⟩ := q3
      obtain ⟨m', hm, w3⟩ := hN σ3 H3 n3
      exact ⟨m', hm, σ3, H3, I3, w3⟩
    | cont =>
      obtain ⟨σ3, H3, I3, n3⟩ := q3
      obtain ⟨m', hm, w3⟩ := hN σ3 H3 n3
      exact ⟨m', hm, σ3, H3, I3, w3⟩
    | brk => exact q3
    | ret v => exact q3
  | false =>
    rw [if_neg Bool.false_ne_true]
    exact wpAny_execs_nil ⟨σ1, H2, I2, q2⟩
end

/-! ### what a loop or a comprehension walks -/
/-- at turn i: it yields x (the heap may grow), or it stops -/
structure It where
  go : Nat → Hp → Prop
  yld : Nat → Hp → V → Hp → Prop
  stop : Nat → Hp → Prop
/-- the iterator's own objects may turn: they are not the frame's, not pinned, younger than the entry (or a comprehension's own) -/
def FpOk (X : Cx) (pins : List (Addr × Obj)) (H : Hp) (b : Addr) : Prop :=
  H b = none ∧ b ≠ X.env.locals ∧ b ∉ X.fs ∧ (b ∈ X.ex ∨ X.s_0.heap.objs.size ≤ b) ∧ (∀ x c, X.env.cells.lookup x = some c → c ≠ b) ∧ ∀ p ∈ X.pn ++ pins, p.1 ≠ b
theorem Inv.fpOk {X : Cx} {pins : List (Addr × Obj)} {σ : St} {H H' : Hp} {s : Shared} {b : Addr} (I : Inv X pins σ H s) (hb : s.heap.objs.size ≤ b) (hn : H' b = none) : FpOk X pins H' b := by
  refine ⟨hn, Nat.ne_of_gt (Nat.lt_of_lt_of_le I.lt hb), I.nofs hb, .inr (Nat.le_trans I.sz hb), fun x c e z => ?_, fun p hp z => ?_⟩
  · obtain ⟨v, q⟩ := I.cell x c e
    exact absurd (Nat.lt_of_lt_of_le q.lt (by rw [z]; exact hb)) (Nat.lt_irrefl _)
  · exact absurd (Nat.lt_of_lt_of_le (Heap.lt_size (I.pin p hp).1) (by rw [z]; exact hb)) (Nat.lt_irrefl _)
structure Turn (P : Program) (w : World) (K : PySem.W.Frag) (tg : Expr) (J : It) (fp : List Addr) (it : Addr) (tn : Nat → Heap → Prop) : Prop where
  mem : it ∈ fp
  obj : ∀ i h, tn i h → ∀ b ∈ fp, ∃ o, h.get? b = some o ∧ ∀ v, o.data ≠ .cell v
  keep : ∀ i h h', tn i h → (∀ b ∈ fp, ∀ o, h.get? b = some o → h'.get? b = some o) → tn i h'
  item : ∀ (X : Cx), X.prog = P → X.w = w → X.K = K → X.calm = true → ∀ (i : Nat) (pins : List (Addr × Obj)) (s : Shared) (σ : St) (H : Hp) (E : Value → Shared → Prop), Inv X pins σ H s → (∀ b ∈ fp, FpOk X pins H b) → tn i s.heap → J.go i H →
    wpAny (model P w) X.A (pyNext (.ref it)) (fun r s1 => ∃ u, r = some u ∧
      wpAny (model P w) X.A (letOwnedTupleGo tg (.ref it) u) (fun _ s2 => ∃ x H', Inv X pins σ H' s2 ∧ RelV x u ∧ J.yld i H x H' ∧ tn (i + 1) s2.heap ∧ ∀ b ∈ fp, H' b = none) E s1) E s
  done : ∀ (X : Cx), X.prog = P → X.w = w → X.K = K → X.calm = true → ∀ (i : Nat) (pins : List (Addr × Obj)) (s : Shared) (σ : St) (H : Hp) (E : Value → Shared → Prop), Inv X pins σ H s → (∀ b ∈ fp, FpOk X pins H b) → tn i s.heap → J.stop i H →
    wpAny (model P w) X.A (pyNext (.ref it)) (fun r s1 => r = none ∧ Inv X pins σ H s1) E s
  self : ∀ (A : Around) (i : Nat) (s : Shared) (Q : Value → Shared → Prop) (E : Value → Shared → Prop), tn i s.heap → Q (.ref it) s → wpAny (model P w) A (pyIter (.ref it)) Q E s
abbrev TI := St → Hp → (It → Hp → Prop) → Prop
/-- an iterator has come -/
def PIE (X : Cx) (pins : List (Addr × Obj)) (σ : St) (tg : Expr) (R : It → Hp → Prop) (itv : Value) (s2 : Shared) : Prop :=
  ∃ (it : Addr) (fp : List Addr) (tn : Nat → Heap → Prop) (J : It) (H' : Hp), itv = .ref it ∧ Inv X pins σ H' s2 ∧ Turn X.prog X.w X.K tg J fp it tn ∧ tn 0 s2.heap ∧ (∀ b ∈ fp, FpOk X pins H' b) ∧ R J H'
def PI (X : Cx) (tg iter : Expr) (wi : TI) : Prop :=
  ∀ (pins : List (Addr × Obj)) (s : Shared) (σ : St) (H : Hp) (R : It → Hp → Prop), Inv X pins σ H s → wi σ H R →
    wpAny (model X.prog X.w) X.A (eval iter X.env) (fun v s1 => wpAny (model X.prog X.w) X.A (pyIter v) (PIE X pins σ tg R) X.xe s1) X.xe s

/-- the step ahead of the store is nothing for an iterator that keeps no tuple -/
theorem go_of {M : Model} {A : Around} {E : Value → Shared → Prop} {s : Shared} {tg : Expr} {it : Addr} {u : Value} {o : Obj} {n : String} {vs : Array Value} {Q : Unit → Shared → Prop} (ho : s.heap.get? it = some o) (hc : o.cls = .type n) (hd : o.data = .fields vs)
    (hn : ["enumerate", "zip", "dict_itemiterator", "dict_reverseitemiterator", "odict_iterator", "itertools.zip_longest", "itertools.pairwise"].contains n = false) (hQ : Q () s) : wpAny M A (letOwnedTupleGo tg (.ref it) u) Q E s := by
  unfold letOwnedTupleGo
  cases tg <;> first
    | exact wpAny_pure hQ
    | (cases u <;> first
        | exact wpAny_pure hQ
        | (refine wpAny_bind (wpAny_load ho ?_)
           rw [hc, hd]
           show wpAny M A (if (["enumerate", "zip", "dict_itemiterator", "dict_reverseitemiterator", "odict_iterator", "itertools.zip_longest", "itertools.pairwise"].contains n && vs[0]? == some (rawInt _)) = true then _ else _) Q E s
           rw [if_neg (by intro h; rw [hn, Bool.false_and] at h; cases h)]
           exact wpAny_pure hQ))

/-- the list at a, as it stands at each turn (a loop may append to it) -/
def Itl (K : PySem.W.Frag) (a : Addr) : It :=
  ⟨fun i H => ∃ xs x, SqL K H a xs ∧ xs[i]? = some x, fun i H x H' => H' = H ∧ ∀ xs, SqL K H a xs → xs[i]? = some x, fun i H => ∃ xs, SqL K H a xs ∧ xs.length ≤ i⟩
/-- lo, lo + 1, .. (n of them) -/
def Itr (lo : Int) (n : Nat) : It := ⟨fun i _ => i < n, fun i H x H' => H' = H ∧ x = .int (lo + i), fun i _ => n ≤ i⟩
theorem turn_list {P : Program} {w : World} {K : PySem.W.Frag} {tg : Expr} (a it : Addr) : Turn P w K tg (Itl K a) [it] it (fun i h => h.IsListIter it a i) where
  mem := by simp
  obj := fun i h st b hb => by
    have e : b = it := by simpa using hb
    subst e
    obtain ⟨o, e, c, d⟩ := st
    exact ⟨o, e, fun v z => by rw [d] at z; cases z⟩
  keep := fun i h h' st k => st.at fun o e => k it (by simp) o e
  item := by
    intro X hP hw hK hc i pins s σ H E I hf st hg
    subst hP hw hK
    obtain ⟨xs, x, hq, hx⟩ := hg
    obtain ⟨its, rv, p, hz⟩ := I.list hq
    obtain ⟨u, hu, ru⟩ := rv.get hx
    obtain ⟨f0, f1, f2, f3, f4, f5⟩ := hf it (by simp)
    refine wpAny_pyNext_list_item st p.isList (x := u) (by simpa using hu) fun h' st' sb => ?_
    have I1 : Inv X pins σ H { s with heap := h' } := I.turned (t' := s.toks) (fun b o hb e => (sb.2 b hb).trans e) f0 f1 f3 f4 f5
    obtain ⟨o, e, c, d⟩ := id st'
    exact ⟨u, rfl, go_of (s := { s with heap := h' }) e c d (by decide) ⟨x, H, I1, ru, ⟨rfl, fun ys hy => by rw [I.list_inj hy hq]; exact hx⟩, st', fun b hb => (hf b hb).1⟩⟩
  done := by
    intro X hP hw hK hc i pins s σ H E I hf st hg
    subst hP hw hK
    obtain ⟨xs, hq, hx⟩ := hg
    obtain ⟨its, rv, p, hz⟩ := I.list hq
    obtain ⟨f0, f1, f2, f3, f4, f5⟩ := hf it (by simp)
    have hl := rv.length
    exact wpAny_pyNext_list_end (I.ok.hd hc) st p.isList (by simp; omega) fun h' eb => ⟨rfl, I.turned (t' := s.toks) (fun b o hb e => eb b o hb e) f0 f1 f3 f4 f5⟩
  self := fun _ _ _ _ _ st h => wpAny_pyIter_listiter st h
theorem turn_range {P : Program} {w : World} {K : PySem.W.Frag} {tg : Expr} (it : Addr) (lo : Int) (n : Nat) : Turn P w K tg (Itr lo n) [it] it (fun i h => IsRangeIter h it (lo + (i : Nat) * 1) ((n : Int) - (i : Nat)) 1) where
  mem := by simp
  obj := fun i h st b hb => by
    have e : b = it := by simpa using hb
    subst e
    exact ⟨_, st, fun v z => by
      have z' : Data.fields _ = Data.cell v := z
      cases z'⟩
  keep := fun i h h' st k => k it (by simp) _ st
  item := by
    intro X hP hw hK hc i pins s σ H E I hf st hg
    subst hP hw hK
    obtain ⟨f0, f1, f2, f3, f4, f5⟩ := hf it (by simp)
    have W := Walks.range (prog := X.prog) (w := X.w) (I.ok.hd hc) it lo 1 n
    refine W.item i s _ _ hg st fun v h' tk hv st' kk => ?_
    obtain ⟨t, rfl⟩ := hv
    have I1 : Inv X pins σ H { s with heap := h', toks := tk } := I.turned (fun b o hb e => kk b o (by simpa using hb) e) f0 f1 f3 f4 f5
    refine ⟨_, rfl, go_of (s := { s with heap := h', toks := tk }) (n := "range_iterator") st' rfl rfl (by decide) ⟨.int (lo + i), H, I1, ⟨t, ?_⟩, ⟨rfl, rfl⟩, st', fun b hb => (hf b hb).1⟩⟩
    rw [Int.mul_one]
  done := by
    intro X hP hw hK hc i pins s σ H E I hf st hg
    subst hP hw hK
    obtain ⟨f0, f1, f2, f3, f4, f5⟩ := hf it (by simp)
    exact wpAny_pyNext_range_end (I.ok.hd hc) st (by have : n ≤ i := hg; omega) fun h' eb => ⟨rfl, I.turned (t' := s.toks) (fun b o hb e => eb b o hb e) f0 f1 f3 f4 f5⟩
  self := fun _ _ _ _ _ st h => wpAny_pyIter_rangeiter st h
end L2

namespace L2
open PySem PySem.Spec PyProof.Rows
section
variable {X : Cx} {tg : Expr}
def iList (K : PySem.W.Frag) (tl : TE) : TI := fun σ H R => tl σ H fun x H1 => ∃ a, x = .ref a ∧ (∃ xs, SqL K H1 a xs) ∧ R (Itl K a) H1
theorem pi_list {l : Expr} {tl : TE} (hl : PE X l tl) : PI X tg l (iList X.K tl) := by
  intro pins s σ H R I h
  refine thn (hl pins s σ H _ I h) fun v s1 ⟨x, H1, I1, r1, q1⟩ => ?_
  obtain ⟨a, e, ⟨xs, hq⟩, q⟩ := q1
  subst e
  cases r1
  obtain ⟨its, rv, p, hz⟩ := I1.list hq
  refine wpAny_pyIter_list p.isList ?_
  refine ⟨s1.heap.objs.size, [s1.heap.objs.size], _, _, H1, rfl, I1.kept (t' := s1.toks) fun b o e => Heap.get?_push_of_some _ e, turn_list a _, ⟨_, Heap.get?_push_size _ rfl, rfl, rfl⟩, fun b hb => ?_, q⟩
  have e : b = s1.heap.objs.size := by simpa using hb
  subst e
  exact I1.fpOk (Nat.le_refl _) (I1.hok.fresh (Nat.le_refl _))
/-- a range object just made, walked -/
theorem range_it {pins : List (Addr × Obj)} {σ : St} {H : Hp} {s : Shared} {R : It → Hp → Prop} {E : Value → Shared → Prop} {lo hi : Int} {t u v : Tok} {tk : Nat} (I : Inv X pins σ H s) (h1 : -(2 ^ 62) ≤ lo) (h2 : lo < 2 ^ 62) (h3 : -(2 ^ 62) ≤ hi) (h4 : hi < 2 ^ 62)
    (q : R (Itr lo (hi - lo).toNat) H) : wpAny (model X.prog X.w) X.A (pyIter (.ref s.heap.objs.size)) (PIE X pins σ tg R) E { s with heap := s.heap.push { cls := .type "range", data := .fields #[.int lo t, .int hi u, .int 1 v] }, toks := tk } := by
  refine wpAny_pyIter_range (IsRange.new ..) (small_one h1 h2 h3 h4) ?_
  have I1 : Inv X pins σ H { s with heap := s.heap.push { cls := .type "range", data := .fields #[.int lo t, .int hi u, .int 1 v] }, toks := tk } := I.kept fun b o e => Heap.get?_push_of_some _ e
  refine ⟨(s.heap.push { cls := .type "range", data := .fields #[.int lo t, .int hi u, .int 1 v] }).objs.size, [(s.heap.push { cls := .type "range", data := .fields #[.int lo t, .int hi u, .int 1 v] }).objs.size], _, _, H, rfl,
    I1.kept (t' := tk) fun b o e => Heap.get?_push_of_some _ e, turn_range _ lo (hi - lo).toNat, ?_, fun b hb => ?_, q⟩
  · have e1 : lo + ((0 : Nat) : Int) * 1 = lo := by simp
    have e2 : (((hi - lo).toNat : Nat) : Int) - ((0 : Nat) : Int) = Builtin.Range.rangeSize lo hi 1 := by rw [rangeSize_one]; split <;> omega
    show IsRangeIter _ _ (lo + ((0 : Nat) : Int) * 1) ((((hi - lo).toNat : Nat) : Int) - ((0 : Nat) : Int)) 1
    rw [e1, e2]
    exact Heap.get?_push_size _ rfl
  · have e : b = (s.heap.push { cls := .type "range", data := .fields #[.int lo t, .int hi u, .int 1 v] }).objs.size := by simpa using hb
    subst e
    exact I1.fpOk (Nat.le_refl _) (I1.hok.fresh (Nat.le_refl _))
def iRng1 (ta : TA) : TI := fun σ H R => ta σ H fun vs H1 => ∃ j : Int, vs = [.int j] ∧ -(2 ^ 62) ≤ j ∧ j < 2 ^ 62 ∧ R (Itr 0 j.toNat) H1
def iRng2 (ta : TA) : TI := fun σ H R => ta σ H fun vs H1 => ∃ i j : Int, vs = [.int i, .int j] ∧ (-(2 ^ 62) ≤ i ∧ i < 2 ^ 62 ∧ -(2 ^ 62) ≤ j ∧ j < 2 ^ 62) ∧ R (Itr i (j - i).toNat) H1
theorem pi_range1 {a : Expr} {ta : TA} {p pos : Pos} (hg : Gl X "range") (hm : X.mg "range" = none) (ha : PA X [a] ta) (hs : starEach [a] X.env = [(false, eval a X.env)] := by rfl) : PI X tg (.Call (.Name "range" p) [a] [] pos) (iRng1 ta) := by
  intro pins s σ H R I h
  refine Call_ (ld_blt I hg hm boot_range (PyProof.Rows.callWith_type1 (thn (ha pos pins s σ H _ I h) fun us s1 ⟨vs, H1, I1, r1, q1⟩ => ?_) hs rfl))
  obtain ⟨j, e, q1, q2, q⟩ := q1
  subst e
  cases r1 with
  | cons r rr =>
    cases rr
    obtain ⟨t, rfl⟩ := r
    exact call_range_1 (range_it I1 (by omega) (by omega) q1 q2 (by simpa using q))
theorem pi_range2 {a b : Expr} {ta : TA} {p pos : Pos} (hg : Gl X "range") (hm : X.mg "range" = none) (ha : PA X [a, b] ta) (hs : starEach [a, b] X.env = [(false, eval a X.env), (false, eval b X.env)] := by rfl) (hs2 : starEach [b] X.env = [(false, eval b X.env)] := by rfl) :
    PI X tg (.Call (.Name "range" p) [a, b] [] pos) (iRng2 ta) := by
  intro pins s σ H R I h
  refine Call_ (ld_blt I hg hm boot_range (PyProof.Rows.callWith_type1 (thn (ha pos pins s σ H _ I h) fun us s1 ⟨vs, H1, I1, r1, q1⟩ => ?_) (by rw [hs, hs2]) (by rw [hs2]; rfl)))
  obtain ⟨i, j, e, ⟨q1, q2, q3, q4⟩, q⟩ := q1
  subst e
  cases r1 with
  | cons r rr =>
    cases rr with
    | cons r' rr =>
      cases rr
      obtain ⟨t, rfl⟩ := r
      obtain ⟨t', rfl⟩ := r'
      exact call_range_2 (range_it I1 q1 q2 q3 q4 q)

/-! ### for -/
/-- W: the invariant by the turn and a measure; N: what the body is to reach -/
def tFor (wi : TI) (g : TG) (tb : TS) : TS := fun D σ H => wi σ H fun J H1 => ∃ W : Nat → Nat → St → Hp → Prop, (∃ m, W 0 m σ H1) ∧ ∀ i m σ H, W i m σ H →
  (J.stop i H ∧ D.nx σ H) ∨ (J.go i H ∧ ∃ N : St → Hp → Prop, (∀ σ' H', N σ' H' → ∃ m', m' < m ∧ W (i + 1) m' σ' H') ∧ ∀ x H', J.yld i H x H' → g x σ H' fun σ2 H2 => tb { D with nx := N, ct := N, bk := D.nx } σ2 H2)
/-- the records at fp as they stand -/
def pinsAt (fp : List Addr) (h : Heap) : List (Addr × Obj) := fp.filterMap fun b => (h.get? b).map fun o => (b, o)
theorem mem_pinsAt {fp : List Addr} {h : Heap} {b : Addr} {o : Obj} (hb : b ∈ fp) (e : h.get? b = some o) : (b, o) ∈ pinsAt fp h := List.mem_filterMap.mpr ⟨b, hb, by rw [e]; rfl⟩
theorem of_pinsAt {fp : List Addr} {h : Heap} {p : Addr × Obj} (hp : p ∈ pinsAt fp h) : p.1 ∈ fp ∧ h.get? p.1 = some p.2 := by
  obtain ⟨b, hb, e⟩ := List.mem_filterMap.mp hp
  cases q : h.get? b with
  | none => rw [q] at e; cases e
  | some o =>
    rw [q] at e
    have e' : (b, o) = p := Option.some.inj e
    subst e'
    exact ⟨hb, q⟩
theorem Inv.pinned {pins : List (Addr × Obj)} {σ : St} {H : Hp} {s : Shared} {fp : List Addr} (I : Inv X pins σ H s) (hf : ∀ b ∈ fp, FpOk X pins H b) (ho : ∀ b ∈ fp, ∃ o, s.heap.get? b = some o ∧ ∀ v, o.data ≠ .cell v) : Inv X (pins ++ pinsAt fp s.heap) σ H s :=
  I.pins_of fun p hp => (List.mem_append.mp hp).elim (fun z => I.pin p (List.mem_append_right _ z)) fun z => by
    obtain ⟨hb, e⟩ := of_pinsAt z
    obtain ⟨f0, f1, f2, _⟩ := hf p.1 hb
    obtain ⟨o, e', d⟩ := ho p.1 hb
    rw [e] at e'; cases e'
    exact ⟨e, f0, f1, f2, d⟩
theorem Inv.unpinned {pins pl : List (Addr × Obj)} {σ : St} {H : Hp} {s : Shared} (I : Inv X (pins ++ pl) σ H s) : Inv X pins σ H s := I.pins_of fun p hp => I.pin p (List.mem_append_right _ (List.mem_append_left _ hp))
theorem ps_for {iter : Expr} {body : List Stmt} {wi : TI} {g : TG} {tb : TS} {pos : Pos} (hp : PassesOwn (model X.prog X.w) X.A X.env X.xe) (hc : X.calm = true) (hi : PI X tg iter wi) (hg : PG X tg g) (hb : PSs X body tb)
    (hs : ∀ x, foldedSetIterable iter X.env x = pure x := by intro _; rfl) : PS X (.For tg iter body [] pos) (tFor wi g tb) := by
  intro pins s σ H D I h
  refine wpAny_For (thn (hi pins s σ H _ I h) fun v s1 h1 => thn h1 fun itv s2 h2 => ?_) hs
  obtain ⟨it, fp, tn, J, H2, e, I2, T, st2, f2, W, ⟨m0, w0⟩, turn⟩ := h2
  subst e
  -- what stays true of the iterator's objects through the loop
  have stat : ∀ {H' : Hp}, (∀ b ∈ fp, H' b = none) → ∀ b ∈ fp, FpOk X pins H' b := fun hn b hb => ⟨hn b hb, (f2 b hb).2⟩
  refine codeAny_forLoop_any (fun n s' => ∃ i σ' H', Inv X pins σ' H' s' ∧ tn i s'.heap ∧ (∀ b ∈ fp, H' b = none) ∧ W i n σ' H') ?_ m0 ⟨0, σ, H2, I2, st2, fun b hb => (f2 b hb).1, w0⟩
  rintro n s3 ⟨i, σ3, H3, I3, st3, fr3, w3⟩
  rcases turn i n σ3 H3 w3 with ⟨stop, qn⟩ | ⟨go, N, hN, step⟩
  · refine wpAny_passesOwn hp (thn (T.done X rfl rfl rfl hc i pins s3 σ3 H3 X.xe I3 (stat fr3) st3 stop) fun r s4 ⟨hr, I4⟩ => ?_)
    subst hr
    exact wpAny_execs_nil ⟨σ3, H3, I4, qn⟩
  · refine wpAny_passesOwn hp (thn (T.item X rfl rfl rfl hc i pins s3 σ3 H3 X.xe I3 (stat fr3) st3 go) fun r s4 ⟨u, hr, h4⟩ => ?_)
    subst hr
    refine wpAny_passesOwn hp (thn h4 fun _ s5 ⟨x, H5, I5, r5, y5, st5, fr5⟩ => ?_)
    have I5' := I5.pinned (stat fr5) (T.obj _ _ st5)
    refine wpAny_passesOwn hp (thn (hg _ s5 σ3 H5 x u _ I5' r5 (step x H5 y5)) fun _ s6 ⟨σ6, H6, I6, q6⟩ => ?_)
    refine wpAny_passesOwn hp (thn (hb _ s6 σ6 H6 _ I6 q6) fun f s7 q7 => ?_)
    have again : ∀ {σ7 : St} {H7 : Hp}, Inv X (pins ++ pinsAt fp s5.heap) σ7 H7 s7 → N σ7 H7 → ∃ m, m < n ∧ ∃ i σ' H', Inv X pins σ' H' s7 ∧ tn i s7.heap ∧ (∀ b ∈ fp, H' b = none) ∧ W i m σ' H' := fun {σ7 H7} I7 n7 => by
      obtain ⟨m', hm, w7⟩ := hN σ7 H7 n7
      refine ⟨m', hm, i + 1, σ7, H7, I7.unpinned, T.keep _ _ _ st5 fun b hb o e => (I7.pin (b, o) (List.mem_append_right _ (List.mem_append_right _ (mem_pinsAt hb e)))).1, fun b hb => ?_, w7⟩
      obtain ⟨o, e, d⟩ := T.obj _ _ st5 b hb
      exact (I7.pin (b, o) (List.mem_append_right _ (List.mem_append_right _ (mem_pinsAt hb e)))).2.1
    cases f with
    | next => obtain ⟨σ7, H7, I7, n7⟩ := q7; exact again I7 n7
    | cont => obtain ⟨σ7, H7, I7, n7⟩ := q7; exact again I7 n7
    | brk => obtain ⟨σ7, H7, I7, q7⟩ := q7; exact ⟨σ7, H7, I7.unpinned, q7⟩
    | ret v => obtain ⟨x7, σ7, H7, I7, r7, q7⟩ := q7; exact ⟨x7, σ7, H7, I7.unpinned, r7, q7⟩
end

/-! ### the forms one uses -/
/-- over a list that the body leaves as it is -/
theorem for_list {K : PySem.W.Frag} {a : Addr} {xs : List V} {g : TG} {tb : TS} {D : Ends} {σ : St} {H : Hp} (Pv : Nat → St → Hp → Prop) (h0 : Pv 0 σ H) (hl : ∀ i σ H, i ≤ xs.length → Pv i σ H → SqL K H a xs)
    (hs : ∀ i x σ H, xs[i]? = some x → Pv i σ H → g x σ H fun σ2 H2 => tb { D with nx := Pv (i + 1), ct := Pv (i + 1), bk := D.nx } σ2 H2) (hd : ∀ σ H, Pv xs.length σ H → D.nx σ H) :
    ∃ W : Nat → Nat → St → Hp → Prop, (∃ m, W 0 m σ H) ∧ ∀ i m σ H, W i m σ H →
      ((Itl K a).stop i H ∧ D.nx σ H) ∨ ((Itl K a).go i H ∧ ∃ N : St → Hp → Prop, (∀ σ' H', N σ' H' → ∃ m', m' < m ∧ W (i + 1) m' σ' H') ∧ ∀ x H', (Itl K a).yld i H x H' → g x σ H' fun σ2 H2 => tb { D with nx := N, ct := N, bk := D.nx } σ2 H2) := by
  refine ⟨fun i m σ H => m = xs.length - i ∧ i ≤ xs.length ∧ Pv i σ H, ⟨xs.length, by simp, Nat.zero_le _, h0⟩, ?_⟩
  rintro i m σ H ⟨rfl, hi, p⟩
  have q := hl i σ H hi p
  by_cases hlt : i < xs.length
  · refine .inr ⟨⟨xs, xs[i], q, by simp [hlt]⟩, Pv (i + 1), fun σ' H' p' => ⟨xs.length - (i + 1), by omega, rfl, hlt, p'⟩, fun x H' y => ?_⟩
    obtain ⟨e, y⟩ := y
    subst e
    exact hs i x σ _ (y xs q) p
  · have e : i = xs.length := by omega
    subst e
    exact .inl ⟨⟨xs, q, Nat.le_refl _⟩, hd σ H p⟩
theorem for_range {lo : Int} {n : Nat} {g : TG} {tb : TS} {D : Ends} {σ : St} {H : Hp} (Pv : Nat → St → Hp → Prop) (h0 : Pv 0 σ H)
    (hs : ∀ i σ H, i < n → Pv i σ H → g (.int (lo + i)) σ H fun σ2 H2 => tb { D with nx := Pv (i + 1), ct := Pv (i + 1), bk := D.nx } σ2 H2) (hd : ∀ σ H, Pv n σ H → D.nx σ H) :
    ∃ W : Nat → Nat → St → Hp → Prop, (∃ m, W 0 m σ H) ∧ ∀ i m σ H, W i m σ H →
      ((Itr lo n).stop i H ∧ D.nx σ H) ∨ ((Itr lo n).go i H ∧ ∃ N : St → Hp → Prop, (∀ σ' H', N σ' H' → ∃ m', m' < m ∧ W (i + 1) m' σ' H') ∧ ∀ x H', (Itr lo n).yld i H x H' → g x σ H' fun σ2 H2 => tb { D with nx := N, ct := N, bk := D.nx } σ2 H2) := by
  refine ⟨fun i m σ H => m = n - i ∧ i ≤ n ∧ Pv i σ H, ⟨n, by simp, Nat.zero_le _, h0⟩, ?_⟩
  rintro i m σ H ⟨rfl, hi, p⟩
  by_cases hlt : i < n
  · refine .inr ⟨hlt, Pv (i + 1), fun σ' H' p' => ⟨n - (i + 1), by omega, rfl, hlt, p'⟩, fun x H' y => ?_⟩
    obtain ⟨e, y⟩ := y
    subst e y
    exact hs i σ _ hlt p
  · have e : i = n := by omega
    subst e
    exact .inl ⟨Nat.le_refl _, hd σ H p⟩
/-- while, by a word and a measure of the state -/
theorem while_by {c : TT} {tb : TS} {D : Ends} {σ : St} {H : Hp} (Pv : St → Hp → Prop) (μ : St → Hp → Nat) (h0 : Pv σ H)
    (hs : ∀ σ H, Pv σ H → c σ H fun b H1 => if b = true then tb { D with nx := fun σ' H' => Pv σ' H' ∧ μ σ' H' < μ σ H, ct := fun σ' H' => Pv σ' H' ∧ μ σ' H' < μ σ H, bk := D.nx } σ H1 else D.nx σ H1)
    (mono : ∀ σ H Q Q', (∀ b H1, Q b H1 → Q' b H1) → c σ H Q → c σ H Q') : tWhile c tb D σ H := by
  refine ⟨fun m σ H => m = μ σ H ∧ Pv σ H, ⟨_, rfl, h0⟩, ?_⟩
  rintro m σ H ⟨rfl, p⟩
  refine mono σ H _ _ (fun b H1 q => ?_) (hs σ H p)
  cases b with
  | true => exact ⟨_, fun σ' H' ⟨p', l⟩ => ⟨_, l, rfl, p'⟩, q⟩
  | false => exact q
end L2

namespace L2
open PySem PySem.Spec PyProof.Rows

abbrev R2 := V → V → Hp → VK → Prop
/-- a two-place operation on values: f is binaryOp op, inplaceOp op or compareOp op -/
def OpR (X : Cx) (f : Value → Value → Sem Value) (r : R2) : Prop :=
  ∀ (pins : List (Addr × Obj)) (s : Shared) (σ : St) (H : Hp) (x y : V) (v u : Value) (Q : VK), Inv X pins σ H s → RelV x v → RelV y u → r x y H Q →
    wpAny (model X.prog X.w) X.A (f v u) (EP X pins σ Q) X.xe s
/-- a one-place operation -/
def UnR (X : Cx) (f : Value → Sem Value) (r : V → Hp → VK → Prop) : Prop :=
  ∀ (pins : List (Addr × Obj)) (s : Shared) (σ : St) (H : Hp) (x : V) (v : Value) (Q : VK), Inv X pins σ H s → RelV x v → r x H Q →
    wpAny (model X.prog X.w) X.A (f v) (EP X pins σ Q) X.xe s
/-- a call of a value that is known (a builtin, a type) with values -/
def CallR (X : Cx) (f : Value) (r : List V → Hp → VK → Prop) : Prop :=
  ∀ (pins : List (Addr × Obj)) (s : Shared) (σ : St) (H : Hp) (xs : List V) (us : List Value) (Q : VK), Inv X pins σ H s → Vals xs us → r xs H Q →
    wpAny (model X.prog X.w) X.A (call f us) (EP X pins σ Q) X.xe s
def tOp (r : R2) (ta tb : TE) : TE := fun σ H Q => ta σ H fun x H1 => tb σ H1 fun y H2 => r x y H2 Q
def tUn (r : V → Hp → VK → Prop) (ta : TE) : TE := fun σ H Q => ta σ H fun x H1 => r x H1 Q
/-- ints in, under C, and a value out -/
def rI (C : Int → Int → Prop) (g : Int → Int → V) : R2 := fun x y H Q => ∃ i j, x = .int i ∧ y = .int j ∧ C i j ∧ Q (g i j) H
def rI0 (g : Int → Int → V) : R2 := fun x y H Q => ∃ i j, x = .int i ∧ y = .int j ∧ Q (g i j) H
def rU (g : Int → V) : V → Hp → VK → Prop := fun x H Q => ∃ i, x = .int i ∧ Q (g i) H

section
variable {X : Cx} {a b c : Expr} {ta tb tc : TE} {pos : Pos}

theorem binT (ha : PE X a ta) (hb : PE X b tb) {pins : List (Addr × Obj)} {s : Shared} {σ : St} {H : Hp} {R : V → V → Hp → Prop} (I : Inv X pins σ H s)
    (h : ta σ H fun x H1 => tb σ H1 fun y H2 => R x y H2) {Q : Value → Shared → Prop} {f : Value → Value → Sem Value}
    (hf : ∀ v u s2 x y H2, Inv X pins σ H2 s2 → RelV x v → RelV y u → R x y H2 → wpAny (model X.prog X.w) X.A (f v u) Q X.xe s2) :
    wpAny (model X.prog X.w) X.A (eval a X.env) (fun v s₁ => wpAny (model X.prog X.w) X.A (eval b X.env) (fun u s₂ => wpAny (model X.prog X.w) X.A (f v u) Q X.xe s₂) X.xe s₁) X.xe s := by
  refine thn (ha pins s σ H _ I h) fun v s1 ⟨x, H1, I1, r1, q1⟩ => ?_
  refine thn (hb pins s1 σ H1 _ I1 q1) fun u s2 ⟨y, H2, I2, r2, q2⟩ => ?_
  exact hf v u s2 x y H2 I2 r1 r2 q2

theorem pe_op {op : Operator} {r : R2} (ho : OpR X (binaryOp op) r) (ha : PE X a ta) (hb : PE X b tb) : PE X (.BinOp a op b pos) (tOp r ta tb) := by
  intro pins s σ H Q I h
  exact wpAny_BinOp (binT ha hb I h fun v u s2 x y H2 I2 rx ry q => ho pins s2 σ H2 x y v u Q I2 rx ry q)
theorem pe_un {op : UnaryOp} {r : V → Hp → VK → Prop} (ho : UnR X (unaryOp op) r) (ha : PE X a ta) : PE X (.UnaryOp op a pos) (tUn r ta) := by
  intro pins s σ H Q I h
  exact UnaryOp_ (thn (ha pins s σ H _ I h) fun v s1 ⟨x, H1, I1, r1, q1⟩ => ho pins s1 σ H1 x v Q I1 r1 q1)
/-! ### ints -/
theorem opI {f : Value → Value → Sem Value} {C : Int → Int → Prop} {g : Int → Int → Int}
    (rule : ∀ (i j : Int) (t u : Tok) (s : Shared) (Q : Value → Shared → Prop) (E : Value → Shared → Prop), C i j → Q (.int (g i j) s.toks) { s with toks := s.toks + 1 } → wpAny (model X.prog X.w) X.A (f (.int i t) (.int j u)) Q E s) :
    OpR X f (rI C fun i j => .int (g i j)) := by
  intro pins s σ H x y v u Q I rx ry h
  obtain ⟨i, j, rfl, rfl, hc, q⟩ := h
  obtain ⟨t, rfl⟩ := rx
  obtain ⟨t', rfl⟩ := ry
  exact rule i j t t' s _ _ hc ⟨.int (g i j), H, I.tok _, ⟨_, rfl⟩, q⟩
theorem opI0 {f : Value → Value → Sem Value} {g : Int → Int → Int}
    (rule : ∀ (i j : Int) (t u : Tok) (s : Shared) (Q : Value → Shared → Prop) (E : Value → Shared → Prop), Q (.int (g i j) s.toks) { s with toks := s.toks + 1 } → wpAny (model X.prog X.w) X.A (f (.int i t) (.int j u)) Q E s) :
    OpR X f (rI0 fun i j => .int (g i j)) := by
  intro pins s σ H x y v u Q I rx ry h
  obtain ⟨i, j, rfl, rfl, q⟩ := h
  obtain ⟨t, rfl⟩ := rx
  obtain ⟨t', rfl⟩ := ry
  exact rule i j t t' s _ _ ⟨.int (g i j), H, I.tok _, ⟨_, rfl⟩, q⟩
theorem opB0 {f : Value → Value → Sem Value} {g : Int → Int → Bool}
    (rule : ∀ (i j : Int) (t u : Tok) (s : Shared) (Q : Value → Shared → Prop) (E : Value → Shared → Prop), Q (.bool (g i j)) s → wpAny (model X.prog X.w) X.A (f (.int i t) (.int j u)) Q E s) :
    OpR X f (rI0 fun i j => .bl (g i j)) := by
  intro pins s σ H x y v u Q I rx ry h
  obtain ⟨i, j, rfl, rfl, q⟩ := h
  obtain ⟨t, rfl⟩ := rx
  obtain ⟨t', rfl⟩ := ry
  exact rule i j t t' s _ _ ⟨.bl (g i j), H, I, rfl, q⟩

def CPow (i j : Int) : Prop := 0 ≤ j ∧ j ≤ 1000000 ∧ i.natAbs < 2 ^ 64
def CMul (i j : Int) : Prop := (-(2 ^ 64) < i ∧ i < 2 ^ 64) ∨ (-(2 ^ 64) < j ∧ j < 2 ^ 64)
theorem CMul.ok {i j : Int} (h : CMul i j) : IntMulOk i j := by
  rcases h with ⟨h1, h2⟩ | ⟨h1, h2⟩
  · exact .of_left (intBits_le_64 h1 h2)
  · exact .of_right (intBits_le_64 h1 h2)
theorem op_add : OpR X (binaryOp .Add) (rI0 fun i j => .int (i + j)) := opI0 fun _ _ _ _ _ _ _ q => add_int q
theorem op_sub : OpR X (binaryOp .Sub) (rI0 fun i j => .int (i - j)) := opI0 fun _ _ _ _ _ _ _ q => sub_int q
theorem op_mul : OpR X (binaryOp .Mult) (rI CMul fun i j => .int (i * j)) := opI fun _ _ _ _ _ _ _ hc q => mul_int q hc.ok
/-- % by a positive divisor of any size -/
theorem op_mod : OpR X (binaryOp .Mod) (rI (fun _ j => 0 < j) fun i j => .int (i % j)) := opI fun i j _ _ _ _ _ hc q => by
  have h1 : (0 : Int) < j := hc
  exact mod_int' (by omega) (by rw [Int.fmod_eq_emod_of_nonneg i (by omega)]; exact q)
theorem op_shl : OpR X (binaryOp .LShift) (rI CPow fun i j => .int (i * 2 ^ j.toNat)) := opI fun _ _ _ _ _ _ _ hc q => lshift_int_small hc.1 hc.2.1 hc.2.2 q
theorem op_and : OpR X (binaryOp .BitAnd) (rI0 fun i j => .int (Builtin.bitAnd i j)) := opI0 fun _ _ _ _ _ _ _ q => and_int q
theorem op_or : OpR X (binaryOp .BitOr) (rI0 fun i j => .int (Builtin.bitOr i j)) := opI0 fun _ _ _ _ _ _ _ q => or_int q
theorem op_xor : OpR X (binaryOp .BitXor) (rI0 fun i j => .int (Builtin.bitXor i j)) := opI0 fun _ _ _ _ _ _ _ q => xor_int q

theorem unI {f : Value → Sem Value} {g : Int → Int}
    (rule : ∀ (i : Int) (t : Tok) (s : Shared) (Q : Value → Shared → Prop) (E : Value → Shared → Prop), Q (.int (g i) s.toks) { s with toks := s.toks + 1 } → wpAny (model X.prog X.w) X.A (f (.int i t)) Q E s) :
    UnR X f (rU fun i => .int (g i)) := by
  intro pins s σ H x v Q I rx h
  obtain ⟨i, rfl, q⟩ := h
  obtain ⟨t, rfl⟩ := rx
  exact rule i t s _ _ ⟨.int (g i), H, I.tok _, ⟨_, rfl⟩, q⟩
theorem un_neg : UnR X (unaryOp .USub) (rU fun i => .int (-i)) := unI fun _ _ _ _ _ q => neg_int q
theorem un_inv : UnR X (unaryOp .Invert) (rU fun i => .int (Builtin.bitNot i)) := unI fun _ _ _ _ _ q => invert_int q

/-! ### bools among ints: n += (a < b) -/
end

/-! ### comparisons -/
/-- the scalars that == tells apart as data does -/
def scal : V → V → Bool
  | .non, .non => true | .non, .int _ => true | .int _, .non => true | .non, .bl _ => true | .bl _, .non => true | .non, .str _ => true | .str _, .non => true
  | .int _, .int _ => true | .bl _, .bl _ => true | .str _, .str _ => true | .byt _, .byt _ => true
  | .int _, .str _ => true | .str _, .int _ => true | .bl _, .str _ => true | .str _, .bl _ => true
  | _, _ => false
def rEq : R2 := fun x y H Q => scal x y = true ∧ Q (.bl (decide (x = y))) H
def rNe : R2 := fun x y H Q => scal x y = true ∧ Q (.bl (!decide (x = y))) H

theorem dec_int {i j : Int} : decide (V.int i = V.int j) = (i == j) := by
  rw [Bool.eq_iff_iff]
  simp
theorem dec_bl {i j : Bool} : decide (V.bl i = V.bl j) = (i == j) := by
  rw [Bool.eq_iff_iff]
  simp
theorem dec_str {i j : Str} : decide (V.str i = V.str j) = (i == j) := by
  rw [Bool.eq_iff_iff]
  simp
theorem dec_byt {i j : Array UInt8} : decide (V.byt i = V.byt j) = (i.toList == j.toList) := by
  rw [Bool.eq_iff_iff]
  cases i
  cases j
  simp

section
variable {X : Cx} {a b c : Expr} {ta tb tc : TE} {pos : Pos}
theorem fin_bl {pins : List (Addr × Obj)} {σ : St} {H : Hp} {s : Shared} {Q : VK} {k k' : Bool} (I : Inv X pins σ H s) (q : Q (.bl k) H) (e : k = k') : EP X pins σ Q (.bool k') s := by
  subst e
  exact ⟨.bl k, H, I, rfl, q⟩
theorem op_eq : OpR X (compareOp .Eq) rEq := by
  intro pins s σ H x y v u Q I rx ry h
  obtain ⟨hs, q⟩ := h
  cases x with
  | non =>
    cases rx
    cases y with
    | non => cases ry; exact PySem.EqNone.eq_none_none (fin_bl I q (by simp))
    | bl j => cases ry; exact PySem.EqNone.eq_none_bool (fin_bl I q (by simp))
    | int j => obtain ⟨t', rfl⟩ := ry; exact PySem.EqNone.eq_none_int (fin_bl I q (by simp))
    | str j => obtain ⟨t', rfl⟩ := ry; exact PySem.EqNone.eq_none_str (fin_bl I q (by simp))
    | _ => exact absurd (show false = true from hs) Bool.false_ne_true
  | bl i =>
    cases rx
    cases y with
    | non => cases ry; exact PySem.EqNone.eq_bool_none (fin_bl I q (by simp))
    | bl j => cases ry; exact eq_bool (fin_bl I q dec_bl)
    | str j => obtain ⟨t', rfl⟩ := ry; exact PySem.EqMixed.eq_bool_str (fin_bl I q (by simp))
    | _ => exact absurd (show false = true from hs) Bool.false_ne_true
  | int i =>
    obtain ⟨t, rfl⟩ := rx
    cases y with
    | non => cases ry; exact PySem.EqNone.eq_int_none (fin_bl I q (by simp))
    | int j => obtain ⟨t', rfl⟩ := ry; exact eq_int (fin_bl I q dec_int)
    | str j => obtain ⟨t', rfl⟩ := ry; exact PySem.EqMixed.eq_int_str (fin_bl I q (by simp))
    | _ => exact absurd (show false = true from hs) Bool.false_ne_true
  | str i =>
    obtain ⟨t, rfl⟩ := rx
    cases y with
    | non => cases ry; exact PySem.EqNone.eq_str_none (fin_bl I q (by simp))
    | bl j => cases ry; exact PySem.EqMixed.eq_str_bool (fin_bl I q (by simp))
    | int j => obtain ⟨t', rfl⟩ := ry; exact PySem.EqMixed.eq_str_int (fin_bl I q (by simp))
    | str j => obtain ⟨t', rfl⟩ := ry; exact eq_str (fin_bl I q dec_str)
    | _ => exact absurd (show false = true from hs) Bool.false_ne_true
  | byt i =>
    obtain ⟨t, rfl⟩ := rx
    cases y with
    | byt j => obtain ⟨t', rfl⟩ := ry; exact PySem.W.eq_bytes (fin_bl I q dec_byt)
    | _ => exact absurd (show false = true from hs) Bool.false_ne_true
  | _ => cases y <;> exact absurd (show false = true from hs) Bool.false_ne_true
theorem op_ne : OpR X (compareOp .NotEq) rNe := by
  intro pins s σ H x y v u Q I rx ry h
  obtain ⟨hs, q⟩ := h
  cases x with
  | non =>
    cases rx
    cases y with
    | non => cases ry; exact PySem.EqNone.ne_none_none (fin_bl I q (by simp))
    | bl j => cases ry; exact PySem.EqNone.ne_none_bool (fin_bl I q (by simp))
    | int j => obtain ⟨t', rfl⟩ := ry; exact PySem.EqNone.ne_none_int (fin_bl I q (by simp))
    | str j => obtain ⟨t', rfl⟩ := ry; exact PySem.EqNone.ne_none_str (fin_bl I q (by simp))
    | _ => exact absurd (show false = true from hs) Bool.false_ne_true
  | bl i =>
    cases rx
    cases y with
    | non => cases ry; exact PySem.EqNone.ne_bool_none (fin_bl I q (by simp))
    | bl j => cases ry; exact ne_bool (fin_bl I q (congrArg not dec_bl))
    | str j => obtain ⟨t', rfl⟩ := ry; exact PySem.EqMixed.ne_bool_str (fin_bl I q (by simp))
    | _ => exact absurd (show false = true from hs) Bool.false_ne_true
  | int i =>
    obtain ⟨t, rfl⟩ := rx
    cases y with
    | non => cases ry; exact PySem.EqNone.ne_int_none (fin_bl I q (by simp))
    | int j => obtain ⟨t', rfl⟩ := ry; exact ne_int (fin_bl I q (congrArg not dec_int))
    | str j => obtain ⟨t', rfl⟩ := ry; exact PySem.EqMixed.ne_int_str (fin_bl I q (by simp))
    | _ => exact absurd (show false = true from hs) Bool.false_ne_true
  | str i =>
    obtain ⟨t, rfl⟩ := rx
    cases y with
    | non => cases ry; exact PySem.EqNone.ne_str_none (fin_bl I q (by simp))
    | bl j => cases ry; exact PySem.EqMixed.ne_str_bool (fin_bl I q (by simp))
    | int j => obtain ⟨t', rfl⟩ := ry; exact PySem.EqMixed.ne_str_int (fin_bl I q (by simp))
    | str j => obtain ⟨t', rfl⟩ := ry; exact ne_str (fin_bl I q (congrArg not dec_str))
    | _ => exact absurd (show false = true from hs) Bool.false_ne_true
  | byt i =>
    obtain ⟨t, rfl⟩ := rx
    cases y with
    | byt j => obtain ⟨t', rfl⟩ := ry; exact PySem.W.ne_bytes (fin_bl I q (congrArg not dec_byt))
    | _ => exact absurd (show false = true from hs) Bool.false_ne_true
  | _ => cases y <;> exact absurd (show false = true from hs) Bool.false_ne_true

theorem op_lt : OpR X (compareOp .Lt) (rI0 fun i j => .bl (decide (i < j))) := opB0 fun _ _ _ _ _ _ _ q => lt_int q
theorem op_le : OpR X (compareOp .LtE) (rI0 fun i j => .bl (decide (i ≤ j))) := opB0 fun _ _ _ _ _ _ _ q => le_int q
theorem op_gt : OpR X (compareOp .Gt) (rI0 fun i j => .bl (decide (j < i))) := opB0 fun _ _ _ _ _ _ _ q => gt_int q
theorem op_ge : OpR X (compareOp .GtE) (rI0 fun i j => .bl (decide (j ≤ i))) := opB0 fun _ _ _ _ _ _ _ q => ge_int q
theorem nomark (b : Expr) {op : CmpOp} (h : op ≠ .In := by decide) (h2 : op ≠ .NotIn := by decide) : behindInMarks op b = false := by
  have e1 : (op == CmpOp.In) = false := by cases op <;> first | rfl | exact absurd rfl h
  have e2 : (op == CmpOp.NotIn) = false := by cases op <;> first | rfl | exact absurd rfl h2
  cases b <;> simp [behindInMarks, e1, e2]
/-- a comparison as a value; hm: nomark b, or (for in, not in) by with_unfolding_all rfl -/
theorem pe_cmpR {op : CmpOp} {r : R2} (ho : OpR X (compareOp op) r) (ha : PE X a ta) (hb : PE X b tb) (hm : behindInMarks op b = false) : PE X (.Compare a [op] [b] pos) (tOp r ta tb) := by
  intro pins s σ H Q I h
  exact wpAny_Compare1 (binT ha hb I h fun v u s2 x y H2 I2 rx ry q => ho pins s2 σ H2 x y v u Q I2 rx ry q) hm
/-- a reading of a value as a test -/
def tTest (t : TE) : TT := fun σ H Q => t σ H fun x H' => ∃ k, x = .bl k ∧ Q k H'
theorem pt_cmpR {op : CmpOp} {r : R2} (ho : OpR X (compareOp op) r) (ha : PE X a ta) (hb : PE X b tb) (hm : behindInMarks op b = false) : PT X (.Compare a [op] [b] pos) (tTest (tOp r ta tb)) := by
  intro pins s σ H Q I h
  refine wpAny_isTrue_Compare1 (thn (ha pins s σ H _ I h) fun v s1 ⟨x, H1, I1, r1, q1⟩ => thn (hb pins s1 σ H1 _ I1 q1) fun u s2 ⟨y, H2, I2, r2, q2⟩ =>
    thn (ho pins s2 σ H2 x y v u _ I2 r1 r2 q2) fun c s3 ⟨z, H3, I3, r3, k, e, q3⟩ => ?_) hm
  subst e
  cases r3
  exact wpAny_truthy_bool ⟨H3, I3, q3⟩
/-! ### truth -/
theorem line63 : (sizeLine : Nat) < 2 ^ 63 := by rw [sizeLine_eq]; decide
/-! ### strs and bytes -/
/-! ### scalar builtins, by CallR -/
theorem vals1 {x : V} {us : List Value} (r : Vals [x] us) : ∃ u, us = [u] ∧ RelV x u := by
  cases r with
  | cons r1 r2 => cases r2; exact ⟨_, rfl, r1⟩
theorem vals2 {x y : V} {us : List Value} (r : Vals [x, y] us) : ∃ u w', us = [u, w'] ∧ RelV x u ∧ RelV y w' := by
  cases r with
  | cons r1 r2 =>
    cases r2 with
    | cons r3 r4 => cases r4; exact ⟨_, _, rfl, r1, r3⟩
theorem call_max2 (hc : X.calm = true) : CallR X (.builtin "max") (fun xs H Q => ∃ i j, xs = [.int i, .int j] ∧ Q (.int (if j > i then j else i)) H) := by
  intro pins s σ H xs us Q I r h
  obtain ⟨i, j, rfl, q⟩ := h
  obtain ⟨u, w', rfl, ⟨t, rfl⟩, ⟨t', rfl⟩⟩ := vals2 r
  refine max_two_ints (I.ok.hd hc) fun h' tk k => ⟨_, H, I.kept k, ?_, q⟩
  by_cases hj : j > i
  · rw [if_pos hj, if_pos hj]; exact ⟨_, rfl⟩
  · rw [if_neg hj, if_neg hj]; exact ⟨_, rfl⟩
theorem call_min2 (hc : X.calm = true) : CallR X (.builtin "min") (fun xs H Q => ∃ i j, xs = [.int i, .int j] ∧ Q (.int (if j < i then j else i)) H) := by
  intro pins s σ H xs us Q I r h
  obtain ⟨i, j, rfl, q⟩ := h
  obtain ⟨u, w', rfl, ⟨t, rfl⟩, ⟨t', rfl⟩⟩ := vals2 r
  refine min_two_ints (I.ok.hd hc) fun h' tk k => ⟨_, H, I.kept k, ?_, q⟩
  by_cases hj : j < i
  · rw [if_pos hj, if_pos hj]; exact ⟨_, rfl⟩
  · rw [if_neg hj, if_neg hj]; exact ⟨_, rfl⟩
end
end L2

namespace L2
open PySem PySem.Spec PyProof.Rows

/-! ### an instance, its attributes a map -/
structure ObjM (h : Heap) (x dx C : Addr) (mA : Str → Option Value) : Prop where
  obj : h.get? x = some (PySem.W.instObj C dx)
  ns : h.Ns1 dx mA
  ne : dx ≠ x

theorem lookIn_ns {h : Heap} {dx : Addr} {mA : Str → Option Value} (n : h.Ns1 dx mA) : ∃ od, h.get? dx = some od ∧ ∀ name, PySem.W.lookIn name od = some (mA name) := by
  obtain ⟨o, es, ep, ho, hd, hk, _, hm⟩ := n
  refine ⟨o, ho, fun name => ?_⟩
  have e := hm name
  unfold nsFind findBy at e
  rw [← Array.find?_toList] at e
  unfold PySem.W.lookIn
  rw [hd]
  dsimp only
  split
  · rename_i y q
    rw [q] at e
    exact congrArg some e
  · rename_i q
    rw [q] at e
    have a : es.toList.any (·.refKey) = false := by
      rw [List.any_eq_false]
      intro y hy
      obtain ⟨z, t, hkey⟩ := hk y (Array.mem_toList_iff.mp hy)
      simp [DictEntry.refKey, hkey]
    have a' : ¬ es.toList.any (·.refKey) = true := by rw [a]; exact Bool.false_ne_true
    rw [if_neg a']
    exact congrArg some e

theorem ObjM.look {h : Heap} {x dx C : Addr} {mA : Str → Option Value} (I : ObjM h x dx C mA) : ∃ od, PySem.W.InstAt h x (PySem.W.instObj C dx) C (some od) ∧ ∀ name, PySem.W.lookIn name od = some (mA name) :=
  let ⟨od, ho, hl⟩ := lookIn_ns I.ns
  ⟨od, ⟨I.obj, rfl, rfl, ho⟩, hl⟩

section
variable {prog : Program} {w : World} {A : Around} {E : Value → Shared → Prop} {s : Shared} {K : PySem.W.Frag} {x dx C f : Addr} {mA : Str → Option Value} {name : Str} {v : Value}

theorem get_map {expr : Bool} {Q : Value → Shared → Prop} (X : K.In s.heap) (I : ObjM s.heap x dx C mA) (hg : PySem.W.plainGet K C name = true) (hh : PySem.W.hasDictIn K C = true)
    (ha : PySem.W.findIn K (.ref C) name = some none) (hv : mA name = some v) (hv' : PySem.W.handedIn v = true) (h : Q v { s with toks := s.toks + 1 }) :
    wpAny (model prog w) A (getAttr (.ref x) name expr) Q E s := by
  obtain ⟨od, J, hl⟩ := I.look
  exact PySem.W.get_value X J (PySem.W.plainGet_of hg).1 (PySem.W.findObj_own hh ha rfl (by rw [hl, hv])) hv' h

theorem get_meth {pl : Sem Bool} {Q : Value × List Value → Shared → Prop} (X : K.In s.heap) (I : ObjM s.heap x dx C mA) (hg : PySem.W.plainGet K C name = true)
    (hf : PySem.W.findIn K (.ref C) name = some (some (.ref f))) (ht : PySem.W.isFn K (.ref f) = true) (hv : mA name = none) (h : Q (.ref f, [.ref x]) s) :
    wpAny (model prog w) A (getMethod (.ref x) name pl) Q E s := by
  obtain ⟨od, J, hl⟩ := I.look
  exact PySem.W.method_fn X J (PySem.W.plainGet_of hg).1 (PySem.W.plainGet_of hg).2 hf (beq_iff_eq.mp ht) (by show (PySem.W.lookIn name od).map (·.isSome) = some false; rw [hl, hv]; rfl) h

theorem set_map {ns : List Str} {Q : Unit → Shared → Prop} (X : K.In s.heap) (I : ObjM s.heap x dx C mA)
    (hs : PySem.W.findIn K (.ref C) "__setattr__" = some (some (.builtin "object.__setattr__"))) (hp : PySem.W.plainOver K C = true) (ht : PySem.W.takerIn K C name = some none) (hh : PySem.W.hasDictIn K C = true)
    (hw : PySem.Within mA ns) (hsz : ns.length ≤ sizeLine)
    (h : ∀ h', ObjM h' x dx C (fun y => if y = name then some v else mA y) → Heap.SameBut dx s.heap h' → Q () { s with heap := h', toks := s.toks + 2 }) :
    wpAny (model prog w) A (setAttr (.ref x) name v) Q E s := by
  obtain ⟨od, J, hl⟩ := I.look
  refine PySem.W.set_plain X J hs (PySem.W.osa_open (s := { s with toks := s.toks + 1 }) (r := none) X J hp ht fun b => ?_)
  obtain ⟨cd, hc, hd'⟩ := PySem.W.any_some hh
  have hx : s.heap.get? x = some ⟨.ref C, some dx, .plain, #[]⟩ := I.obj
  refine wpAny_bind (wpAny_pure (wpAny_bind (wpAny_bind (wpAny_loadPart hx (wpAny_bind (PySem.W.Looks.here (s := { s with toks := s.toks + 1 }) (PySem.W.looks_clsIn X hc) ?_))))))
  rw [hd']
  refine wpAny_pure (a := some dx) (wpAny_bind (wpAny_pure (wpAny_bind ?_)))
  refine wpAny_nsSet1 (s := { s with toks := s.toks + 1 }) I.ns fun h' hn2 hs2 => ?_
  obtain ⟨oD, esD, epD, hoD, hdD, hcD⟩ := hn2.count (PySem.Within.cons name v hw)
  refine wpAny_bind (wpAny_lookBehind hoD (by rw [hdD]; exact pastItsLine_dict (Nat.le_trans hcD (by rw [List.length_cons]; omega))) ?_)
  exact wpAny_pure (h _ ⟨(hs2.2 _ (Ne.symm I.ne)).trans I.obj, hn2, I.ne⟩ hs2)

/-- C(..): the dict at the heap's end, the instance behind it; then its __init__ -/
theorem make_map {R : Result → Shared → Prop} {vs : List Value} {kw : List (Str × Value)} (X : K.In s.heap) (hm : PySem.W.makesIn K C = true)
    (hi : PySem.W.findIn K (.ref C) "__init__" = some (some (.ref f))) (hf : PySem.W.typeIn K (.ref f) = some (.type "function"))
    (h : codeAny (model prog w) (A.under (.builtin "type.__call__" ⟨.ref C :: vs, kw⟩)) (.call (.ref f) ⟨.ref (s.heap.objs.size + 1) :: vs, kw⟩) (PySem.W.InitBack (s.heap.objs.size + 1) R)
      { s with heap := (s.heap.push PySem.W.emptyDict).push (PySem.W.instObj C s.heap.objs.size) }) :
    codeAny (model prog w) A (.call (.ref C) ⟨vs, kw⟩) R s := by
  obtain ⟨hh, g, d, t, os⟩ := s
  exact PySem.W.make_core (PySem.W.makes_of X hm) (PySem.W.looks_findIn X hi) (fun self => PySem.W.bind_fn X self hf) (.inl rfl) h
end

/-! ### the attributes as a list of pairs -/
def putF (f : Str) (v : V) : List (Str × V) → List (Str × V)
  | [] => [(f, v)]
  | (g, x) :: r => if g = f then (g, v) :: r else (g, x) :: putF f v r
theorem lookup_putF (f g : Str) (v : V) : ∀ fs : List (Str × V), (putF f v fs).lookup g = if g = f then some v else fs.lookup g
  | [] => by
    show List.lookup g [(f, v)] = _
    by_cases h : g = f
    · have hb : (g == f) = true := beq_iff_eq.mpr h
      simp only [List.lookup, hb, if_pos h]
    · have hb : (g == f) = false := beq_eq_false_iff_ne.mpr h
      simp only [List.lookup, hb, if_neg h]
  | (k, x) :: r => by
    have ih := lookup_putF f g v r
    rw [show putF f v ((k, x) :: r) = (if k = f then (k, v) :: r else (k, x) :: putF f v r) from rfl]
    by_cases hk : k = f
    · rw [if_pos hk]
      by_cases h : g = k
      · have hb : (g == k) = true := beq_iff_eq.mpr h
        simp only [List.lookup, hb, if_pos (h.trans hk)]
      · have hb : (g == k) = false := beq_eq_false_iff_ne.mpr h
        simp only [List.lookup, hb, if_neg (fun e : g = f => h (e.trans hk.symm))]
    · rw [if_neg hk]
      by_cases h : g = k
      · have hb : (g == k) = true := beq_iff_eq.mpr h
        simp only [List.lookup, hb, if_neg (fun e : g = f => hk (h.symm.trans e))]
      · have hb : (g == k) = false := beq_eq_false_iff_ne.mpr h
        simp only [List.lookup, hb]
        exact ih
theorem keys_putF (f : Str) (v : V) : ∀ fs : List (Str × V), f ∈ (putF f v fs).map (·.1) ∧ ∀ g, g ∈ fs.map (·.1) → g ∈ (putF f v fs).map (·.1)
  | [] => ⟨by simp [putF], fun g h => by simp at h⟩
  | (k, x) :: r => by
    obtain ⟨i1, i2⟩ := keys_putF f v r
    rw [show putF f v ((k, x) :: r) = (if k = f then (k, v) :: r else (k, x) :: putF f v r) from rfl]
    by_cases hk : k = f
    · rw [if_pos hk]
      subst hk
      exact ⟨by simp, fun g h => by simpa using h⟩
    · rw [if_neg hk]
      refine ⟨?_, fun g h => ?_⟩
      · rw [List.map_cons]
        exact List.mem_cons_of_mem _ i1
      · rw [List.map_cons] at h ⊢
        rcases List.mem_cons.mp h with e | e
        · exact List.mem_cons.mpr (.inl e)
        · exact List.mem_cons_of_mem _ (i2 g e)
theorem length_putF (f : Str) (v : V) : ∀ fs : List (Str × V), (putF f v fs).length ≤ fs.length + 1
  | [] => by simp [putF]
  | (k, x) :: r => by
    have ih := length_putF f v r
    rw [show putF f v ((k, x) :: r) = (if k = f then (k, v) :: r else (k, x) :: putF f v r) from rfl]
    by_cases hk : k = f
    · rw [if_pos hk, List.length_cons, List.length_cons]; omega
    · rw [if_neg hk, List.length_cons, List.length_cons]; omega

theorem RelO.some_of {v : V} {o : Option Value} (r : RelO (some v) o) : ∃ u, o = some u ∧ RelV v u := by
  cases o with
  | none => exact (show False from r).elim
  | some u => exact ⟨u, rfl, r⟩
theorem RelO.none_of {o : Option Value} (r : RelO none o) : o = none := by
  cases o with
  | none => rfl
  | some u => exact (show False from r).elim
theorem handed_of {v : V} {u : Value} (r : RelV v u) : PySem.W.handedIn u = true := by
  cases v with
  | non => cases (show u = Value.none from r); rfl
  | bl b => cases (show u = Value.bool b from r); rfl
  | int i => obtain ⟨t, e⟩ := (show ∃ t, u = Value.int i t from r); cases e; rfl
  | str x => obtain ⟨t, e⟩ := (show ∃ t, u = Value.str x t from r); cases e; rfl
  | byt b => obtain ⟨t, e⟩ := (show ∃ t, u = Value.bytes b t from r); cases e; rfl
  | flt b => obtain ⟨t, e⟩ := (show ∃ t, u = Value.float b t from r); cases e; rfl
  | ref a => cases (show u = Value.ref a from r); rfl
  | ty n => cases (show u = Value.type n from r); rfl

section
variable {P : Program} {w : World} {H H' : Hp} {h h' : Heap} {a C dx : Addr} {fs fs' : List (Str × V)}
theorem ins_get (hok : HOk P w H h) (e : H a = some (.ins C dx fs)) : ∃ mA, ObjM h a dx C mA ∧ (∀ f, RelO (fs.lookup f) (mA f)) ∧ PySem.Within mA (fs.map (·.1)) ∧ fs.length ≤ 1000 ∧ H dx = some (.own a) := by
  obtain ⟨d, z, ne, ob, mA, n, r, q⟩ := (show ObjOk P w H h a (.ins C dx fs) from hok a _ e)
  exact ⟨mA, ⟨ob, n, ne⟩, r, q, z, d⟩
end

/-! ### what of the text a class must have -/
structure Cls (K : PySem.W.Frag) (C : Addr) : Prop where
  pg : PySem.W.plainGet K C Str.empty = true
  hd : PySem.W.hasDictIn K C = true
  po : PySem.W.plainOver K C = true
  sa : PySem.W.findIn K (.ref C) "__setattr__" = some (some (.builtin "object.__setattr__"))
theorem Cls.get {K : PySem.W.Frag} {C : Addr} (c : Cls K C) (f : Str) : PySem.W.plainGet K C f = true := c.pg
/-- no class of it has the name -/
def NoAttr (K : PySem.W.Frag) (C : Addr) (f : Str) : Prop := PySem.W.findIn K (.ref C) f = some none
theorem NoAttr.taker {K : PySem.W.Frag} {C : Addr} {f : Str} (n : NoAttr K C f) : PySem.W.takerIn K C f = some none := by
  unfold PySem.W.takerIn
  rw [show PySem.W.findIn K (.ref C) f = some none from n]
  rfl
/-- a constant of the class -/
structure Con (K : PySem.W.Frag) (C : Addr) (f : Str) (v : V) (u : Value) : Prop where
  at_ : PySem.W.findIn K (.ref C) f = some (some u)
  rel : RelV v u
  get : PySem.W.specialIn K u "__get__" = some none
  cp : PySem.W.copiedNames.contains f = false
/-- a method: a plain def of the class or of one above it -/
structure Meth (K : PySem.W.Frag) (C : Addr) (m : Str) (f : Addr) : Prop where
  at_ : PySem.W.findIn K (.ref C) m = some (some (.ref f))
  fn : PySem.W.isFn K (.ref f) = true
  kp : PySem.W.keepIn K (.ref f) = true

section
variable {X : Cx} {pins : List (Addr × Obj)} {σ : St} {H : Hp} {s : Shared} {a C dx : Addr} {fs : List (Str × V)} {f : Str} {v : V} {A : Around} {E : Value → Shared → Prop}

theorem getattr_ok {b : Bool} {Q : Value → Shared → Prop} (I : Inv X pins σ H s) (e : H a = some (.ins C dx fs)) (c : Cls X.K C) (n : NoAttr X.K C f) (l : fs.lookup f = some v)
    (h : ∀ u s', Inv X pins σ H s' → RelV v u → Q u s') : wpAny (model X.prog X.w) A (getAttr (.ref a) f b) Q E s := by
  obtain ⟨mA, O, r, _, _, _⟩ := ins_get I.hok e
  obtain ⟨u, hu, ru⟩ := RelO.some_of (v := v) (o := mA f) (by rw [← l]; exact r f)
  exact get_map I.kIn O (c.get f) c.hd n hu (handed_of ru) (h u _ (I.tok _) ru)

theorem getmeth_ok {m : Str} {g : Addr} {pl : Sem Bool} {Q : Value × List Value → Shared → Prop} (I : Inv X pins σ H s) (e : H a = some (.ins C dx fs)) (c : Cls X.K C) (k : Meth X.K C m g) (l : fs.lookup m = none)
    (h : Q (.ref g, [.ref a]) s) : wpAny (model X.prog X.w) A (getMethod (.ref a) m pl) Q E s := by
  obtain ⟨mA, O, r, _, _, _⟩ := ins_get I.hok e
  have hn : mA m = none := RelO.none_of (by rw [← l]; exact r m)
  exact get_meth I.kIn O (c.get m) k.at_ k.fn hn h

theorem setattr_ok {y : V} {u : Value} {Q : Unit → Shared → Prop} (I : Inv X pins σ H s) (e : H a = some (.ins C dx fs)) (c : Cls X.K C) (n : NoAttr X.K C f) (hl : fs.length < 1000) (ry : RelV y u)
    (h : ∀ s', Inv X pins σ (upd H a (.ins C dx (putF f y fs))) s' → Q () s') : wpAny (model X.prog X.w) A (setAttr (.ref a) f u) Q E s := by
  obtain ⟨mA, O, r, wi, _, ho⟩ := ins_get I.hok e
  have hz : (fs.map (·.1)).length ≤ sizeLine := by rw [List.length_map, sizeLine_eq]; omega
  refine set_map I.kIn O c.sa c.po n.taker c.hd wi hz fun h' O' sb => h _ ?_
  have hd : ∃ o, h'.get? dx = some o := let ⟨o, _, _, e', _⟩ := O'.ns; ⟨o, e'⟩
  refine I.write (x := a) (e := dx) (by rw [e]; exact True.intro) (.inr ho) (fun b q hb z => (sb.2 b hb).trans z) hd ?_
  refine ⟨by rw [upd_ne O.ne]; exact ho, ?_, O.ne, O'.obj, _, O'.ns, fun g => ?_, fun g hg => ?_⟩
  · have := length_putF f y fs; omega
  · show RelO ((putF f y fs).lookup g) (if g = f then some u else mA g)
    rw [lookup_putF]
    by_cases q : g = f
    · rw [if_pos q, if_pos q]; exact ry
    · rw [if_neg q, if_neg q]; exact r g
  · by_cases q : g = f
    · rw [q]; exact (keys_putF f y fs).1
    · refine (keys_putF f y fs).2 g (wi g fun z => hg ?_)
      show (if g = f then some u else mA g) = none
      rw [if_neg q]; exact z

/-- a new instance, tracked, without attributes -/
theorem Inv.made (I : Inv X pins σ H s) : Inv X pins σ (upd (upd H s.heap.objs.size (.own (s.heap.objs.size + 1))) (s.heap.objs.size + 1) (.ins C s.heap.objs.size []))
    { s with heap := (s.heap.push PySem.W.emptyDict).push (PySem.W.instObj C s.heap.objs.size) } := by
  have e1 : (s.heap.push PySem.W.emptyDict).get? s.heap.objs.size = some PySem.W.emptyDict := Heap.get?_push_size s.heap rfl
  have e2 : ((s.heap.push PySem.W.emptyDict).push (PySem.W.instObj C s.heap.objs.size)).get? (s.heap.objs.size + 1) = some (PySem.W.instObj C s.heap.objs.size) := by
    have := Heap.get?_push_size (s.heap.push PySem.W.emptyDict) (o := PySem.W.instObj C s.heap.objs.size) rfl
    rwa [Heap.size_push] at this
  have e3 : (s.heap.push PySem.W.emptyDict).Ns s.heap.objs.size (fun _ => none) := ⟨PySem.W.emptyDict, #[], _, e1, rfl, (fun e he => absurd he (by simp)), fun _ => rfl⟩
  have I1 := I.laid (a := s.heap.objs.size) (o := .own (s.heap.objs.size + 1)) (h' := s.heap.push PySem.W.emptyDict) (t' := s.toks) (fun b u q => Heap.get?_push_of_some _ q) (Nat.le_refl _) ⟨_, e1⟩
  refine I1.laid (a := s.heap.objs.size + 1) (o := .ins C s.heap.objs.size []) (t' := s.toks) (fun b u q => Heap.get?_push_of_some _ q) (Nat.le_of_eq (Heap.size_push _ _)) ?_
  have ne : s.heap.objs.size ≠ s.heap.objs.size + 1 := Nat.ne_of_lt (Nat.lt_succ_self _)
  refine ⟨by rw [upd_ne ne, upd_same], Nat.zero_le _, ne, e2, fun _ => none, (Heap.Ns1.of_empty e3).at fun o q => Heap.get?_push_of_some _ q, fun _ => True.intro, fun y hy => absurd rfl hy⟩

/-- e.f where nothing but the object is asked: through attributeBase (super) and the last hold -/
theorem attr_of {prog : Program} {w : World} {env : Env} {e : Expr} {f : Str} {pos : Pos} {s : Shared} {Q : Value → Shared → Prop} (hb : attributeBase e f env (eval e env) = eval e env)
    (h : wpAny (model prog w) A (eval e env) (fun o s₁ => wpAny (model prog w) A (getAttr o f true) Q E s₁) E s) : wpAny (model prog w) A (eval (.Attribute e f pos) env) Q E s :=
  Attribute_any_ h (by rw [arm_eval_Attribute, hb])
end

/-! ### readings and rules -/
/-- e.f, an attribute of the instance -/
def tFld (K : PySem.W.Frag) (ta : TE) (f : Str) : TE := fun σ H Q => ta σ H fun x H1 => ∃ a C dx fs v, x = .ref a ∧ H1 a = some (.ins C dx fs) ∧ Cls K C ∧ NoAttr K C f ∧ fs.lookup f = some v ∧ Q v H1
/-- e.f = value -/
def sFld (K : PySem.W.Frag) (ta tv : TE) (f : Str) : TS := fun D σ H => tv σ H fun y H1 => ta σ H1 fun x H2 => ∃ a C dx fs, x = .ref a ∧ H2 a = some (.ins C dx fs) ∧ Cls K C ∧ NoAttr K C f ∧ fs.length < 1000 ∧
  D.nx σ (upd H2 a (.ins C dx (putF f y fs)))
section
variable {X : Cx} {o e value : Expr} {f : Str} {pos pos' tpos : Pos} {ta tv : TE}
theorem pe_fld (he : PE X e ta) (hb : attributeBase e f X.env (eval e X.env) = eval e X.env) : PE X (.Attribute e f pos) (tFld X.K ta f) := by
  intro pins s σ H Q I h
  refine attr_of hb (thn (he pins s σ H _ I h) fun u s1 ⟨x, H1, I1, rx, a, C, dx, fs, v, ex, ea, c, n, l, q⟩ => ?_)
  subst ex
  obtain rfl : u = Value.ref a := rx
  exact getattr_ok I1 ea c n l fun u' s2 I2 ru => ⟨v, H1, I2, ru, q⟩
theorem ps_fld (ha : PE X o ta) (hv : PE X value tv) (hs : swapsWith value (some (.Attribute o f pos')) pos.line X.env = pure false) : PS X (.Assign [.Attribute o f pos'] value pos) (sFld X.K ta tv f) := by
  intro pins s σ H D I h
  refine plainObj_wpAny_Assign_Attribute (thn (hv pins s σ H _ I h) fun u s1 ⟨y, H1, I1, ry, q⟩ => thn (ha pins s1 σ H1 _ I1 q) fun ov s2 ⟨x, H2, I2, rx, a, C, dx, fs, ex, ea, c, n, l, q2⟩ => ?_) hs
  subst ex
  obtain rfl : ov = Value.ref a := rx
  exact setattr_ok I2 ea c n l ry fun s3 I3 => ⟨σ, _, I3, q2⟩
/-- what is between an instance and its method: the tree of a method call -/
theorem methcall_of {pl : Sem Bool} {m : Str} {apos : Pos} {args : List Expr} {pins : List (Addr × Obj)} {s : Shared} {σ : St} {H : Hp} {Q : Value → Shared → Prop} {te : TE} (he : PE X e te) (I : Inv X pins σ H s)
    (h : te σ H fun x H1 => ∃ a C dx fs g, x = .ref a ∧ H1 a = some (.ins C dx fs) ∧ Cls X.K C ∧ Meth X.K C m g ∧ fs.lookup m = none ∧
      ∀ s1, Inv X pins σ H1 s1 → wpAny (model X.prog X.w) X.A (callWith pos (.ref g) [.ref a] (backTo pos (starEach args X.env)) (backToKw pos (keywordEach [] X.env))) Q X.xe s1)
    (ht : eval (.Call (.Attribute e m apos) args [] pos) X.env = (do
      let ov ← eval e X.env
      standAt apos.atName
      let (f, first) ← holding [ov] (getMethod ov m pl)
      callWith pos f first (backTo pos (starEach args X.env)) (backToKw pos (keywordEach [] X.env)))) :
    wpAny (model X.prog X.w) X.A (eval (.Call (.Attribute e m apos) args [] pos) X.env) Q X.xe s := by
  refine PySem.W.methodCall_KW (pl := pl) (thn (he pins s σ H _ I h) fun u s1 ⟨x, H1, I1, rx, a, C, dx, fs, g, ex, ea, c, k, l, q⟩ => ?_) ht
  subst ex
  obtain rfl : u = Value.ref a := rx
  exact getmeth_ok I1 ea c k l (q s1 I1)
end

/-! ### isinstance -/
section
variable {X : Cx} {pins : List (Addr × Obj)} {σ : St} {H : Hp} {s : Shared} {A : Around} {E : Value → Shared → Prop} {Q : Value → Shared → Prop} {c : Value} {b : Bool}
/-- the type of a value, as the fragment's deciders take it; for an instance its class -/
inductive TyOf (K : PySem.W.Frag) (H : Hp) : V → Value → Prop where
  | non : TyOf K H .non (.type "NoneType")
  | bl (x : Bool) : TyOf K H (.bl x) (.type "bool")
  | int (i : Int) : TyOf K H (.int i) (.type "int")
  | str (x : Str) : TyOf K H (.str x) (.type "str")
  | flt (x : UInt64) : TyOf K H (.flt x) (.type "float")
  | lst {a : Addr} {xs : List V} (e : H a = some (.lst xs)) : TyOf K H (.ref a) (.type "list")
  | frz {a : Addr} {o : Obj} {xs : List V} (e : H a = some (.frz o (.lst xs))) : TyOf K H (.ref a) (.type "list")
  | tup {a : Addr} {xs : List V} (e : H a = some (.tup xs)) : TyOf K H (.ref a) (.type "tuple")
  | dK {a : Addr} {kvs : List (Key × V)} (e : H a = some (.dK kvs)) : TyOf K H (.ref a) (.type "dict")
  | dT {a : Addr} {kvs : List (List Key × V)} (e : H a = some (.dT kvs)) : TyOf K H (.ref a) (.type "dict")
  | ins {a C dx : Addr} {fs : List (Str × V)} (e : H a = some (.ins C dx fs)) (cl : Cls K C) (ha : PySem.W.findIn K (.ref C) "__class__" = some (some (.builtin "object.__class__")))
      (hn : PySem.W.specialIn K (.builtin "object.__class__") "__get__" = some (some (.builtin "getset_descriptor.__get__"))) (htk : PySem.W.takesIn K (.builtin "object.__class__") = some true)
      (hm : PySem.W.mroIn K C (.type "object") = some true) : TyOf K H (.ref a) (.ref C)
end
end L2

namespace L2
open PySem PySem.Spec PyProof.Rows

/-! ### room -/
structure Room (k : Nat) (A : Around) : Prop where
  hd : A.handled = none
  dp : A.depth + 3 * k + 5 < recursionLimit
  un : A.units + 16 * k + 200 < cLine
theorem Room.mono {j k : Nat} {A : Around} (r : Room k A) (h : j ≤ k) : Room j A := ⟨r.hd, by have := r.dp; omega, by have := r.un; omega⟩
theorem Room.deeper {k : Nat} {A : Around} (r : Room (k + 1) A) (env : Env) : Room k (A.deeper env) :=
  ⟨r.hd, by have := r.dp; show A.depth + 1 + 3 * k + 5 < _; omega, by have := r.un; show A.units + 3 + 16 * k + 200 < _; omega⟩
theorem make_depth {A : Around} {C : Addr} {us : List Value} {kw : List (Str × Value)} : (A.under (.builtin "type.__call__" ⟨.ref C :: us, kw⟩)).depth = A.depth + 1 := by
  first | rfl | simp [Around.under, Code.weight, Code.isCreation, Code.isGuard, Code.isCaller, Code.frames, Code.isFrame, guardIds]
theorem make_units {A : Around} {C : Addr} {us : List Value} {kw : List (Str × Value)} : (A.under (.builtin "type.__call__" ⟨.ref C :: us, kw⟩)).units = A.units + 1 := by
  first | rfl | simp [Around.under, Code.cUnits, Code.frames, Code.isFrame]
theorem Room.make {k : Nat} {A : Around} (r : Room (k + 1) A) (C : Addr) (us : List Value) (kw : List (Str × Value)) : Room k (A.under (.builtin "type.__call__" ⟨.ref C :: us, kw⟩)) :=
  ⟨r.hd, by have := r.dp; rw [make_depth]; omega, by have := r.un; rw [make_units]; omega⟩
theorem Room.depth {k : Nat} {A : Around} (r : Room k A) : A.depth < recursionLimit := by have := r.dp; omega
theorem Room.units {k : Nat} {A : Around} (r : Room k A) : A.units + 64 < cLine := by have := r.un; omega
/-! ### argument lists and displays -/
def tNil : TA := fun _ H Q => Q [] H
def tCons (ta : TE) (tr : TA) : TA := fun σ H Q => ta σ H fun x H1 => tr σ H1 fun xs H2 => Q (x :: xs) H2
section
variable {X : Cx} {e : Expr} {es : List Expr} {te : TE} {t : TA} {pos : Pos}
theorem pa_nil : PA X [] tNil := fun _ _ _ _ H Q I h => Calls.spliced_nil ⟨[], H, I, .nil, h⟩
theorem pa_cons (ha : PE X e te) (hr : PA X es t) (hs : starEach (e :: es) X.env = (false, eval e X.env) :: starEach es X.env := by rfl) : PA X (e :: es) (tCons te t) := by
  intro pos pins s σ H Q I h
  rw [hs]
  show wpAny _ _ (spliced ((false, eval e X.env) :: backTo pos (starEach es X.env))) _ _ s
  refine Calls.spliced_cons (thn (ha pins s σ H _ I h) fun u s1 ⟨x, H1, I1, r1, q1⟩ => ?_)
  exact thn (hr pos pins s1 σ H1 _ I1 q1) fun us s2 ⟨xs, H2, I2, r2, q2⟩ => ⟨x :: xs, H2, I2, .cons r1 r2, q2⟩

/-- a tuple, a list of written items -/
def tTup (t : TA) : TE := fun σ H Q => t σ H fun xs H1 => xs.length ≤ sizeLine ∧ ∀ p, H1 p = none → Q (.ref p) (upd H1 p (.tup xs))
def tLst (t : TA) : TE := fun σ H Q => t σ H fun xs H1 => xs.length ≤ sizeLine ∧ ∀ p, H1 p = none → Q (.ref p) (upd H1 p (.lst xs))
theorem pe_tup {x1} (h : PA X es t) : PE X (.Tuple es x1 pos) (tTup t) := by
  intro pins s σ H Q I hq
  refine wpAny_Tuple_spliced (thn (h pos pins s σ H _ I hq) fun us s1 ⟨xs, H1, I1, r, z, q⟩ => ⟨by rw [← r.length]; exact z, ?_⟩)
  have hf : H1 s1.heap.objs.size = none := I1.hok.fresh (Nat.le_refl _)
  refine ⟨.ref s1.heap.objs.size, upd H1 s1.heap.objs.size (.tup xs), I1.laid (t' := s1.toks) (fun b u e => Heap.get?_push_of_some _ e) (Nat.le_refl _) ?_, rfl, q _ hf⟩
  exact ⟨z, us, r, ⟨_, Heap.get?_push_size _ rfl, rfl, _, rfl⟩⟩
theorem pe_lst (h : PA X es t) : PE X (.List es pos) (tLst t) := by
  intro pins s σ H Q I hq
  refine wpAny_List_spliced (thn (h pos pins s σ H _ I hq) fun us s1 ⟨xs, H1, I1, r, z, q⟩ => ⟨by rw [← r.length]; exact z, ?_⟩)
  have hf : H1 s1.heap.objs.size = none := I1.hok.fresh (Nat.le_refl _)
  refine ⟨.ref s1.heap.objs.size, upd H1 s1.heap.objs.size (.lst xs), I1.laid (t' := s1.toks) (fun b u e => Heap.get?_push_of_some _ e) (Nat.le_refl _) ?_, rfl, q _ hf⟩
  exact ⟨z, us, 0, r, Heap.get?_push_size _ rfl⟩
end

/-! ### what a def promises -/
/-- a def's promise: the bound arguments in the parameters' order, the heap, the wanted end, the wanted exception -/
abbrev Sp := List V → Hp → VK → XK → Prop
/-- how an exception lies behind a call (file 08 gives it): the callers' frames, abstract heap and state ahead of the call, the wish, the exception, the state -/
abbrev CXT := List Env → Hp → Shared → XK → Value → Shared → Prop

/-- the state at a call -/
structure Env0 (P : Program) (w : World) (K : PySem.W.Frag) (mg : Str → Option Value) (base : Heap) (A : Around) (outer : List Env) (s : Shared) (H : Hp) : Prop where
  frames : A.frames = some outer
  mod : Mod K mg base
  bs : ∀ b o, base.get? b = some o → s.heap.get? b = some o ∧ H b = none
  bsz : base.objs.size ≤ s.heap.objs.size
  funs : s.heap.FunFrames base outer
  frf : ∀ b ∈ frs outer, H b = none
  hok : HOk P w H s.heap
  bare : AllBare s.gens
/-- a call's end -/
def CE (outer : List Env) (P : Program) (w : World) (H : Hp) (s : Shared) (Q : VK) (u : Value) (s' : Shared) : Prop :=
  ∃ v H', s'.os = s.os ∧ AllBare s'.gens ∧ Un (frs outer) [] H H' s.heap s'.heap ∧ HOk P w H' s'.heap ∧ RelV v u ∧ Q v H'
def CR (CX : CXT) (outer : List Env) (P : Program) (w : World) (H : Hp) (s : Shared) (Q : VK) (E : XK) (r : Result) (s' : Shared) : Prop :=
  match r with
  | .ok (.ret u) => CE outer P w H s Q u s'
  | .ok _ => False
  | .error e => CX outer H s E e s'
structure FnOk (P : Program) (w : World) (K : PySem.W.Frag) (mg : Str → Option Value) (base : Heap) (CX : CXT) (k : Nat) (f : Addr) (fd : FuncData) (ps : List Str) (sp : Sp) : Prop where
  len : ∀ vs H Q E, sp vs H Q E → vs.length = ps.length
  run : ∀ (A : Around) (outer : List Env) (s : Shared) (H : Hp) (args : Args) (us : List Value) (vs : List V) (Q : VK) (E : XK), Room k A → Env0 P w K mg base A outer s H → BindsTo s fd args (ps.zip us) → Vals vs us → sp vs H Q E →
    codeAny (model P w) A (.call (.ref f) args) (CR CX outer P w H s Q E) s
theorem Env0.make {P : Program} {w : World} {K : PySem.W.Frag} {mg : Str → Option Value} {base : Heap} {A : Around} {outer : List Env} {s : Shared} {H : Hp} (e : Env0 P w K mg base A outer s H) (C : Addr) (us : List Value) (kw : List (Str × Value)) :
    Env0 P w K mg base (A.under (.builtin "type.__call__" ⟨.ref C :: us, kw⟩)) outer s H := ⟨by first | exact e.frames | (simpa [Around.under, Code.envs, Code.isFrame, pushEnvs] using e.frames), e.mod, e.bs, e.bsz, e.funs, e.frf, e.hok, e.bare⟩
section
variable {X : Cx} {pins : List (Addr × Obj)} {σ : St} {H : Hp} {s s' : Shared}
/-- from a body: what a callee wants -/
theorem Inv.env0 (I : Inv X pins σ H s) : Env0 X.prog X.w X.K X.mg X.base X.A X.stack s H :=
  ⟨I.ok.frames, I.ok.mod, I.bs, Nat.le_trans I.ok.bsz I.sz, I.stack, I.stkFree, I.hok, I.bare⟩
/-- behind a call -/
theorem Inv.after {Q : VK} {u : Value} (I : Inv X pins σ H s) (h : CE X.stack X.prog X.w H s Q u s') : EP X pins σ Q u s' := by
  obtain ⟨v, H', os, bare, un, hok, r, q⟩ := h
  obtain ⟨hh, g, d, t, os'⟩ := s'
  obtain rfl : os' = s.os := os
  exact ⟨v, H', I.call (h' := hh) (g' := g) (d' := d) (t' := t) (ch := []) un hok bare (fun b z => absurd z (by simp)), r, q⟩
end

/-! ### calls -/
/-- f(..): the written arguments, then the defaults dvs; E: what is wanted of an exception -/
def tCall (sp : Sp) (dvs : List V) (E : XK) (t : TA) : TE := fun σ H Q => t σ H fun vs H1 => sp (vs ++ dvs) H1 Q E
/-- o.m(..) of an instance of the class at C -/
def tMeth (C : Addr) (m : Str) (sp : Sp) (dvs : List V) (E : XK) (ta : TE) (t : TA) : TE := fun σ H Q => ta σ H fun x H1 => ∃ a dx fs, x = .ref a ∧ H1 a = some (.ins C dx fs) ∧ fs.lookup m = none ∧
  t σ H1 fun vs H2 => sp (x :: (vs ++ dvs)) H2 Q E
/-- C(..): a new instance and its dict, then __init__ -/
def tMake (C : Addr) (sp : Sp) (dvs : List V) (E : XK) (t : TA) : TE := fun σ H Q => t σ H fun vs H1 => ∀ x dx, H1 x = none → H1 dx = none → dx ≠ x →
  sp (.ref x :: (vs ++ dvs)) (upd (upd H1 dx (.own x)) x (.ins C dx [])) (fun v H2 => v = .non ∧ Q (.ref x) H2) E

/-- how the parameters are bound: us the positional arguments, kw the keywords' values by name, ds the defaults that fill up -/
def Binds (K : PySem.W.Frag) (fd : FuncData) (ps : List Str) (ds : List Value) : Prop :=
  ∀ (s : Shared) (us : List Value), K.In s.heap → (us ++ ds).length = ps.length → BindsTo s fd ⟨us, []⟩ (ps.zip (us ++ ds))
/-- every parameter is given -/
theorem Binds.all {K : PySem.W.Frag} {fd : FuncData} {ps : List Str} (h : ∀ us : List Value, us.length = ps.length → bindArgs fd ⟨us, []⟩ = pure (ps.zip us)) : Binds K fd ps [] := fun s us _ hl => by
  rw [List.append_nil] at hl ⊢
  exact .of_eq (h us hl)

/-- an exception of a callee reaches what this body wants of exceptions -/
def Passes (CX : CXT) (X : Cx) (E : XK) : Prop := ∀ (pins : List (Addr × Obj)) (σ : St) (H : Hp) (s : Shared) (e : Value) (s' : Shared), Inv X pins σ H s → CX X.stack H s E e s' → X.xe e s'

section
variable {X : Cx} {CX : CXT} {k : Nat} {f C : Addr} {fd : FuncData} {ps : List Str} {sp : Sp} {dvs : List V} {ds : List Value} {E : XK} {x m : Str} {p pos apos : Pos} {e o : Expr} {es : List Expr} {ta : TE} {t : TA}

/-- the callee runs -/
theorem run_fn {pins : List (Addr × Obj)} {σ : St} {H : Hp} {s : Shared} {Q : VK} {us : List Value} {vs : List V} (F : FnOk X.prog X.w X.K X.mg X.base CX k f fd ps sp) (hr : Room k X.A) (hb : Binds X.K fd ps ds) (hd : Vals dvs ds) (hx : Passes CX X E)
    (I : Inv X pins σ H s) (r : Vals vs us) (h : sp (vs ++ dvs) H Q E) : wpAny (model X.prog X.w) X.A (call (.ref f) us) (EP X pins σ Q) X.xe s := by
  have r2 : Vals (vs ++ dvs) (us ++ ds) := r.append hd
  have hl : (us ++ ds).length = ps.length := by rw [← r2.length]; exact F.len _ _ _ _ h
  refine wpAny_call (codeAny_mono (F.run X.A X.stack s H ⟨us, []⟩ (us ++ ds) (vs ++ dvs) Q E hr I.env0 (hb s us I.kIn hl) r2 h) fun r s' hq => ?_)
  cases r with
  | error e => exact hx pins σ H s e s' I hq
  | ok fl =>
    cases fl with
    | ret u => exact I.after hq
    | next => exact False.elim hq
    | brk => exact False.elim hq
    | cont => exact False.elim hq

theorem pe_call (F : FnOk X.prog X.w X.K X.mg X.base CX k f fd ps sp) (hr : Room k X.A) (hg : Gl X x) (hm : X.mg x = some (.ref f)) (hk : PySem.W.keepIn X.K (.ref f) = true) (hb : Binds X.K fd ps ds) (hd : Vals dvs ds) (hx : Passes CX X E)
    (ha : PA X (e :: es) t) (hdb : (x == ("__debug__" : Str)) = false := by decide) (he : starEach (e :: es) X.env = (false, eval e X.env) :: starEach es X.env := by rfl) (hpl : (backTo pos (starEach es X.env)).any (·.1) = false := by rfl) :
    PE X (.Call (.Name x p) (e :: es) [] pos) (tCall sp dvs E t) := by
  intro pins s σ H Q I h
  refine wpAny_Call_Name_kw (ld_glob I hg hm ?_ hdb)
  refine PySem.W.callWith_K (h₀ := X.base) I.ok.mod.kin hk (thn (ha pos pins s σ H _ I h) fun us s1 ⟨vs, H1, I1, r, q⟩ => ⟨I1.kIn, ?_⟩) he hpl
  exact run_fn F hr hb hd hx I1 r q
/-- o.m(e, ..) -/
theorem pe_meth {pl : Sem Bool} (he : PE X o ta) (c : Cls X.K C) (hm : Meth X.K C m f) (F : FnOk X.prog X.w X.K X.mg X.base CX k f fd ps sp) (hr : Room k X.A) (hb : Binds X.K fd ps ds) (hd : Vals dvs ds) (hx : Passes CX X E) (ha : PA X (e :: es) t)
    (hst : starEach (e :: es) X.env = (false, eval e X.env) :: starEach es X.env := by rfl) (hpl : (backTo pos (starEach es X.env)).any (·.1) = false := by rfl)
    (ht : eval (.Call (.Attribute o m apos) (e :: es) [] pos) X.env = (do
      let ov ← eval o X.env
      standAt apos.atName
      let (f, first) ← holding [ov] (getMethod ov m pl)
      callWith pos f first (backTo pos (starEach (e :: es) X.env)) (backToKw pos (keywordEach [] X.env))) := by rfl) :
    PE X (.Call (.Attribute o m apos) (e :: es) [] pos) (tMeth C m sp dvs E ta t) := by
  intro pins s σ H Q I h
  refine PySem.W.methodCall_KW (pl := pl) (thn (he pins s σ H _ I h) fun u s1 ⟨x, H1, I1, rx, a, dx, fs, ex, ea, l, q⟩ => ?_) ht
  subst ex
  obtain rfl : u = Value.ref a := rx
  refine getmeth_ok I1 ea c hm l ?_
  refine PySem.W.callWith_K (first := [.ref a]) (h₀ := X.base) I.ok.mod.kin hm.kp (thn (ha pos pins s1 σ H1 _ I1 q) fun us s2 ⟨vs, H2, I2, r, q2⟩ => ⟨I2.kIn, ?_⟩) hst hpl
  exact run_fn (us := .ref a :: us) (vs := .ref a :: vs) F hr hb hd hx I2 (.cons rfl r) q2
/-- o.m() -/
theorem pe_meth0 {pl : Sem Bool} (he : PE X o ta) (c : Cls X.K C) (hm : Meth X.K C m f) (F : FnOk X.prog X.w X.K X.mg X.base CX k f fd ps sp) (hr : Room k X.A) (hb : Binds X.K fd ps ds) (hd : Vals dvs ds) (hx : Passes CX X E)
    (ht : eval (.Call (.Attribute o m apos) [] [] pos) X.env = (do
      let ov ← eval o X.env
      standAt apos.atName
      let (f, first) ← holding [ov] (getMethod ov m pl)
      callWith pos f first (backTo pos (starEach [] X.env)) (backToKw pos (keywordEach [] X.env))) := by rfl) :
    PE X (.Call (.Attribute o m apos) [] [] pos) (tMeth C m sp dvs E ta tNil) := by
  intro pins s σ H Q I h
  refine PySem.W.methodCall_KW (pl := pl) (thn (he pins s σ H _ I h) fun u s1 ⟨x, H1, I1, rx, a, dx, fs, ex, ea, l, q⟩ => ?_) ht
  subst ex
  obtain rfl : u = Value.ref a := rx
  refine getmeth_ok I1 ea c hm l ?_
  exact PySem.W.callWith_K0 (first := [.ref a]) I1.kIn hm.kp (run_fn (us := [.ref a]) (vs := [.ref a]) F hr hb hd hx I1 (.cons rfl .nil) q)

/-- what a class must have to be made -/
structure Mk (K : PySem.W.Frag) (C f : Addr) : Prop where
  makes : PySem.W.makesIn K C = true
  init : PySem.W.findIn K (.ref C) "__init__" = some (some (.ref f))
  fn : PySem.W.isFn K (.ref f) = true
  kp : PySem.W.keepIn K (.ref C) = true

theorem run_make {pins : List (Addr × Obj)} {σ : St} {H : Hp} {s : Shared} {Q : VK} {us : List Value} {vs : List V} (M : Mk X.K C f) (F : FnOk X.prog X.w X.K X.mg X.base CX k f fd ps sp) (hr : Room (k + 1) X.A) (hb : Binds X.K fd ps ds) (hd : Vals dvs ds)
    (hx : Passes CX X E) (I : Inv X pins σ H s) (r : Vals vs us)
    (h : ∀ x dx, H x = none → H dx = none → dx ≠ x → sp (.ref x :: (vs ++ dvs)) (upd (upd H dx (.own x)) x (.ins C dx [])) (fun v H2 => v = .non ∧ Q (.ref x) H2) E) :
    wpAny (model X.prog X.w) X.A (call (.ref C) us) (EP X pins σ Q) X.xe s := by
  have hq := h (s.heap.objs.size + 1) s.heap.objs.size (I.hok.fresh (Nat.le_succ _)) (I.hok.fresh (Nat.le_refl _)) (Nat.ne_of_lt (Nat.lt_succ_self _))
  have I2 := Inv.made (C := C) I
  have r2 : Vals (V.ref (s.heap.objs.size + 1) :: (vs ++ dvs)) (Value.ref (s.heap.objs.size + 1) :: (us ++ ds)) := .cons rfl (r.append hd)
  have hl : (Value.ref (s.heap.objs.size + 1) :: us ++ ds).length = ps.length := by
    have e := r2.length
    rw [F.len _ _ _ _ hq] at e
    exact e.symm
  refine wpAny_call (make_map (f := f) I.kIn M.makes M.init (beq_iff_eq.mp M.fn) (codeAny_mono (F.run _ X.stack _ _ ⟨Value.ref (s.heap.objs.size + 1) :: us, []⟩ (Value.ref (s.heap.objs.size + 1) :: (us ++ ds)) _ _ E (hr.make C us [])
    (I2.env0.make C us []) (hb _ (Value.ref (s.heap.objs.size + 1) :: us) I2.kIn hl) r2 hq) fun r s' hq' => ?_))
  cases r with
  | error e => exact hx pins σ _ _ e s' I2 hq'
  | ok fl =>
    cases fl with
    | ret u =>
      obtain ⟨v, H', I3, rv, ev, q3⟩ := I2.after hq'
      subst ev
      exact ⟨rv, ⟨V.ref (s.heap.objs.size + 1), H', I3, rfl, q3⟩⟩
    | next => exact False.elim hq'
    | brk => exact False.elim hq'
    | cont => exact False.elim hq'
theorem pe_make (M : Mk X.K C f) (F : FnOk X.prog X.w X.K X.mg X.base CX k f fd ps sp) (hr : Room (k + 1) X.A) (hg : Gl X x) (hm : X.mg x = some (.ref C)) (hb : Binds X.K fd ps ds) (hd : Vals dvs ds) (hx : Passes CX X E)
    (ha : PA X (e :: es) t) (hdb : (x == ("__debug__" : Str)) = false := by decide) (he : starEach (e :: es) X.env = (false, eval e X.env) :: starEach es X.env := by rfl) (hpl : (backTo pos (starEach es X.env)).any (·.1) = false := by rfl) :
    PE X (.Call (.Name x p) (e :: es) [] pos) (tMake C sp dvs E t) := by
  intro pins s σ H Q I h
  refine wpAny_Call_Name_kw (ld_glob I hg hm ?_ hdb)
  refine PySem.W.callWith_K (h₀ := X.base) I.ok.mod.kin M.kp (thn (ha pos pins s σ H _ I h) fun us s1 ⟨vs, H1, I1, r, q⟩ => ⟨I1.kIn, ?_⟩) he hpl
  exact run_make M F hr hb hd hx I1 r q
theorem pe_make0 (M : Mk X.K C f) (F : FnOk X.prog X.w X.K X.mg X.base CX k f fd ps sp) (hr : Room (k + 1) X.A) (hg : Gl X x) (hm : X.mg x = some (.ref C)) (hb : Binds X.K fd ps ds) (hd : Vals dvs ds) (hx : Passes CX X E)
    (hdb : (x == ("__debug__" : Str)) = false := by decide) : PE X (.Call (.Name x p) [] [] pos) (tMake C sp dvs E tNil) := by
  intro pins s σ H Q I h
  refine wpAny_Call_Name_kw (ld_glob I hg hm ?_ hdb)
  exact PySem.W.callWith_K0 I.kIn M.kp (run_make (us := []) M F hr hb hd hx I .nil h)
end

/-! ### keywords -/
section
variable {X : Cx} {CX : CXT} {k : Nat} {f C : Addr} {fd : FuncData} {ps ks : List Str} {sp : Sp} {E : XK} {x m : Str} {p pos apos kpos : Pos} {e o : Expr} {es : List Expr} {kws : List Keyword} {te ta : TE} {t tk : TA} {nm : Option Str}
/-- how a call with keywords binds: g puts the positional values us and the keywords' values ws (names ks) in the parameters' order, defaults among them -/
structure KBinds (K : PySem.W.Frag) (fd : FuncData) (ps ks : List Str) (g : List Value → List Value → List Value) (gV : List V → List V → List V) : Prop where
  to : ∀ (s : Shared) (us ws : List Value), K.In s.heap → (g us ws).length = ps.length → BindsTo s fd ⟨us, ks.zip ws⟩ (ps.zip (g us ws))
  rel : ∀ {vs : List V} {us : List Value} {zs : List V} {ws : List Value}, Vals vs us → Vals zs ws → Vals (gV vs zs) (g us ws)
variable {g : List Value → List Value → List Value} {gV : List V → List V → List V}
end

/-! ### a def's body keeps its promise -/
/-- names: the parameters first -/
structure FnScope (N P : List Str) (sc : Scope) : Prop where
  kind : sc.kind = .function
  co : sc.isCoroutine = false
  gen : sc.isGenerator = false
  nd : N.Nodup
  pre : N.take P.length = P
  par : ∀ x ∈ P, sc.names.lookup x = some .local ∨ sc.names.lookup x = some .cell
  nofree : ∀ y ∈ sc.names, y.2 ≠ .free

theorem bindL_out {kindOf : Str → Option NameKind} {x : Str} : ∀ {binds : List (Str × Value)} {m : Str → Option Value}, (∀ v, (x, v) ∉ binds) → bindL kindOf binds m x = m x
  | [], _, _ => rfl
  | (n, v) :: r, m, h => by
    unfold bindL
    rw [bindL_out fun w hw => h w (List.mem_cons_of_mem _ hw)]
    split
    · have : x ≠ n := by rintro rfl; exact h v List.mem_cons_self
      simp [this]
    · rfl
theorem bindC_out {kindOf : Str → Option NameKind} {x : Str} : ∀ {binds : List (Str × Value)} {m : Str → Option Value}, (∀ v, (x, v) ∉ binds) → bindC kindOf binds m x = m x
  | [], _, _ => rfl
  | (n, v) :: r, m, h => by
    unfold bindC
    rw [bindC_out fun w hw => h w (List.mem_cons_of_mem _ hw)]
    split
    · rfl
    · have : x ≠ n := by rintro rfl; exact h v List.mem_cons_self
      simp [this]
theorem bindL_get {kindOf : Str → Option NameKind} {x : Str} {v : Value} : ∀ {P : List Str} {vs : List Value} {i : Nat} {m : Str → Option Value}, P.Nodup → P[i]? = some x → vs[i]? = some v → kindOf x = some .local →
    bindL kindOf (P.zip vs) m x = some v
  | [], _, _, _, _, h, _, _ => by simp at h
  | _ :: _, [], _, _, _, _, h, _ => by simp at h
  | p :: P, w :: vs, 0, m, nd, h1, h2, hk => by
    simp at h1 h2; subst h1; subst h2
    show bindL kindOf ((p, w) :: P.zip vs) m p = _
    unfold bindL
    rw [bindL_out fun v hv => (List.nodup_cons.mp nd).1 (List.of_mem_zip hv).1, if_pos hk]
    simp
  | p :: P, w :: vs, i + 1, m, nd, h1, h2, hk => by
    show bindL kindOf ((p, w) :: P.zip vs) m x = _
    unfold bindL
    exact bindL_get (i := i) (List.nodup_cons.mp nd).2 (by simpa using h1) (by simpa using h2) hk
theorem bindC_get {kindOf : Str → Option NameKind} {x : Str} {v : Value} : ∀ {P : List Str} {vs : List Value} {i : Nat} {m : Str → Option Value}, P.Nodup → P[i]? = some x → vs[i]? = some v → kindOf x ≠ some .local →
    bindC kindOf (P.zip vs) m x = some v
  | [], _, _, _, _, h, _, _ => by simp at h
  | _ :: _, [], _, _, _, _, h, _ => by simp at h
  | p :: P, w :: vs, 0, m, nd, h1, h2, hk => by
    simp at h1 h2; subst h1; subst h2
    show bindC kindOf ((p, w) :: P.zip vs) m p = _
    unfold bindC
    rw [bindC_out fun v hv => (List.nodup_cons.mp nd).1 (List.of_mem_zip hv).1, if_neg hk]
    simp
  | p :: P, w :: vs, i + 1, m, nd, h1, h2, hk => by
    show bindC kindOf ((p, w) :: P.zip vs) m x = _
    unfold bindC
    exact bindC_get (i := i) (List.nodup_cons.mp nd).2 (by simpa using h1) (by simpa using h2) hk

/-- the names' values at the entry -/
def start (N : List Str) (vs : List V) : St := vs.map some ++ List.replicate (N.length - vs.length) none

/-- the context of a def's body, at its entry; an exception leaves the frame, then lies as CX says -/
def cxOf (CX : CXT) (P : Program) (w : World) (K : PySem.W.Frag) (mg : Str → Option Value) (base : Heap) (N : List Str) (qual : Str) (scope : Scope) (f : Addr) (cd : Value) (A : Around) (outer : List Env) (s : Shared) (H : Hp) (E : XK) : Cx where
  prog := P
  w := w
  K := K
  mg := mg
  base := base
  A := A.deeper (envOfC qual scope s.heap.objs.size f cd)
  N := N
  s_0 := s
  H_0 := H
  env := envOfC qual scope s.heap.objs.size f cd
  outer := outer
  stack := envOfC qual scope s.heap.objs.size f cd :: outer
  ex := []
  calm := true
  fn := fun _ => true
  pn := []
  xe := fun e s' => wpAny (model P w) (A.deeper (envOfC qual scope s.heap.objs.size f cd)) (leaving (envOfC qual scope s.heap.objs.size f cd) e) (fun _ s'' => CX outer H s E e s'') (fun e' s'' => CX outer H s E e' s'') s'

theorem cell_has {sc : Scope} {n : Nat} {x : Str} (h : sc.names.lookup x = some .cell) : ∃ c, (cellsFrom n sc.names []).lookup x = some c := by
  have q := PySem.W.cellsFrom_some sc.names n [] (.inl h)
  exact Option.isSome_iff_exists.mp q

theorem inv_start {CX : CXT} {P : Program} {w : World} {K : PySem.W.Frag} {mg : Str → Option Value} {base : Heap} {N ps : List Str} {qual : Str} {scope : Scope} {f : Addr} {cd : Value} {A : Around} {outer : List Env} {s s1 : Shared} {H : Hp} {E : XK} {us : List Value} {vs : List V}
    (S : FnScope N ps scope) (hd : A.handled = none) (e0 : Env0 P w K mg base A outer s H) (hl : vs.length = ps.length) (r : Vals vs us)
    (x : InCallC s s.heap.objs.size (bindL (envOfC qual scope s.heap.objs.size f cd).kindOf (ps.zip us) fun _ => none) (cellsFrom (s.heap.objs.size + 1) scope.names []) (bindC (envOfC qual scope s.heap.objs.size f cd).kindOf (ps.zip us) fun _ => none) s1) :
    Inv (cxOf CX P w K mg base N qual scope f cd A outer s H E) [] (start N vs) H s1 := by
  have hpl : ps.length ≤ N.length := by have := congrArg List.length S.pre; rw [List.length_take] at this; omega
  obtain ⟨h1, tk, rfl, hk⟩ := x.done
  have noA : ∀ b : Addr, b ∉ (cxOf CX P w K mg base N qual scope f cd A outer s H E).ex := fun b z => absurd (show b ∈ ([] : List Addr) from z) (by simp)
  refine ⟨⟨e0.mod, S.kind, rfl, rfl, Nat.le_refl _, fun y z c h1 h2 => ?_, fun y hy => ?_, fun y c _ h => ?_, fun _ => hd, Around.frames_deeper e0.frames, .inr ⟨rfl, rfl⟩, fun b z => absurd z (noA b), e0.bs, e0.bsz, fun b _ _ => noA b, fun b z => absurd z (noA b), e0.funs, e0.frf⟩,
    rfl, e0.bare, Un.kept hk, ⟨_, x.toInCall.ns, fun i y v h1 h2 h3 => ?_⟩, fun y c h => ⟨_, x.cell y c h⟩, e0.hok.fresh (Nat.le_refl _), fun y c h => ?_, fun p hp => absurd (show p ∈ ([] : List (Addr × Obj)) from hp) (by simp), e0.hok.kept hk, ?_⟩
  · exact name_of_addr x.apart (PySem.mem_of_lookup h1) (PySem.mem_of_lookup h2)
  · have hy : scope.names.lookup y = some .cell ∨ scope.names.lookup y = some .free := hy
    rcases hy with hy | hy
    · exact cell_has hy
    · exact absurd rfl (S.nofree _ (PySem.mem_of_lookup hy))
  · exact Nat.le_of_lt (x.above y c (PySem.mem_of_lookup h))
  · have hi : i < vs.length := by
      unfold start at h2
      by_cases hi : i < vs.length
      · exact hi
      · rw [List.getElem?_append_right (by simpa using hi)] at h2
        rw [List.getElem?_replicate] at h2
        split at h2 <;> cases h2
    have ha : vs[i]? = some v := by
      unfold start at h2
      rw [List.getElem?_append_left (by simpa using hi), List.getElem?_map] at h2
      cases e : vs[i]? with
      | none => rw [e] at h2; cases h2
      | some a => rw [e] at h2; cases h2; rfl
    obtain ⟨u, hu, rv⟩ := r.get ha
    have hp : ps[i]? = some y := by
      rw [← S.pre, List.getElem?_take_of_lt (by omega)]; exact h1
    have ndP : ps.Nodup := by rw [← S.pre]; exact S.nd.sublist (List.take_sublist _ _)
    refine ⟨u, rv, ?_⟩
    rcases S.par y (List.mem_of_getElem? hp) with k | k
    · exact .inl ⟨k, bindL_get ndP hp hu k⟩
    · obtain ⟨c, e⟩ := cell_has (n := s.heap.objs.size + 1) k
      refine .inr ⟨.inl k, c, e, ?_⟩
      have q := x.cell y c e
      rw [bindC_get ndP hp hu (by show scope.names.lookup y ≠ _; rw [k]; decide)] at q
      exact q
  · exact e0.hok.fresh (Nat.le_of_lt (x.above y c (PySem.mem_of_lookup h)))
  · unfold start
    show _ = N.length
    rw [List.length_append, List.length_map, List.length_replicate]
    omega

/-- THE RULE: a def (or a method) of the text, by its body. The body's reading t is chosen for each entry; it is run at the parameters' values -/
theorem fn_of {CX : CXT} {P : Program} {w : World} {K : PySem.W.Frag} {mg : Str → Option Value} {base : Heap} {k : Nat} {f : Addr} {name qual : Str} {params : Arguments} {body : List Stmt} {scope : Scope} {dV kV doc pm cdv ct oc : Value} {an od : Option Addr}
    {osl : Array (Option Value)} {N ps : List Str} {sp : Sp} (lk : K.lookup f = some ⟨oc, od, .func (PySem.W.fnOf name qual params body scope dV kV doc pm an cdv ct), osl⟩) (hcd : PySem.W.codeIn K cdv qual = true) (S : FnScope N ps scope)
    (len : ∀ vs H Q E, sp vs H Q E → vs.length = ps.length)
    (hbody : ∀ (A : Around) (outer : List Env) (s : Shared) (H : Hp) (vs : List V) (Q : VK) (E : XK), Room k (A.deeper (envOfC qual scope s.heap.objs.size f cdv)) → sp vs H Q E →
      ∃ t, PSs (cxOf CX P w K mg base N qual scope f cdv A outer s H E) body t ∧ t { nx := fun _ H' => Q .non H', rt := Q } (start N vs) H) :
    FnOk P w K mg base CX (k + 1) f (PySem.W.fnOf name qual params body scope dV kV doc pm an cdv ct) ps sp := by
  refine ⟨len, fun A outer s H args us vs Q E hr e0 hb r hsp => ?_⟩
  have hl := len _ _ _ _ hsp
  have KX : K.In s.heap := e0.mod.kin.keeps fun b o e => (e0.bs b o e).1
  have lim : s.heap.NoLimit := e0.mod.nolimit.keeps fun b o e => (e0.bs b o e).1
  have hkind : ∀ y ∈ ps.zip us, scope.names.lookup y.1 = some .local ∨ (scope.names.lookup y.1 = some .cell ∧ ((cellsFrom (s.heap.objs.size + 1) scope.names []).lookup y.1).isSome = true) := fun ⟨n, v⟩ hy => by
    rcases S.par n (List.of_mem_zip hy).1 with q | q
    · exact .inl q
    · exact .inr ⟨q, PySem.W.cellsFrom_some _ _ _ (.inl q)⟩
  refine codeAny_call_function hr.depth (KX _ _ lk) rfl S.co S.gen rfl (PySem.W.codeRec_of KX hcd) (hb _ _ _ _ ?_)
  refine wpAny_newFunctionEnv_cells S.kind hkind fun env he s1 x => ?_
  subst he
  refine ⟨lim.keeps x.toInCall.keep, codeAny_func ?_⟩
  obtain ⟨t, ht, hq⟩ := hbody A outer s H vs Q E (hr.deeper _) hsp
  have I : Inv (cxOf CX P w K mg base N qual scope f cdv A outer s H E) [] (start N vs) H s1 := inv_start S hr.hd e0 hl r x
  refine wpAny_mono (ht [] s1 (start N vs) H _ I hq) (fun fl s' hs => ?_) fun e s' hs => hs
  have fin : ∀ {σ' : St} {H' : Hp} {v : V} {u : Value}, Inv (cxOf CX P w K mg base N qual scope f cdv A outer s H E) [] σ' H' s' → RelV v u → Q v H' → CE outer P w H s Q u s' :=
    fun {σ' H' v u} J rv q => ⟨v, H', J.os, J.bare, J.base, J.hok, rv, q⟩
  cases fl with
  | ret u =>
    obtain ⟨v, σ', H', J, rv, q⟩ := hs
    exact fin J rv q
  | next =>
    obtain ⟨σ', H', J, q⟩ := hs
    exact fin (v := V.non) (u := Value.none) J rfl q
  | brk =>
    obtain ⟨_, _, _, q⟩ := hs
    exact False.elim q
  | cont =>
    obtain ⟨_, _, _, q⟩ := hs
    exact False.elim q
end L2

namespace L2
open PySem PySem.Spec PyProof.Rows
section
variable {X : Cx} {x : Str} {p pos : Pos} {e : Expr} {es : List Expr} {t : TA} {id T : String} {r : List V → Hp → VK → Prop}

def tCB (r : List V → Hp → VK → Prop) (t : TA) : TE := fun σ H Q => t σ H fun vs H1 => r vs H1 Q
/-- f(e, ..), f a built-in function -/
theorem pe_callB (hc : CallR X (.builtin id) r) (hg : Gl X x) (hm : X.mg x = none) (hv : bootBuiltins x = some (.builtin id)) (ha : PA X (e :: es) t) (hn : x ≠ "__name__" := by decide) (hdb : (x == ("__debug__" : Str)) = false := by decide)
    (he : starEach (e :: es) X.env = (false, eval e X.env) :: starEach es X.env := by rfl) (hpl : (backTo pos (starEach es X.env)).any (·.1) = false := by rfl) : PE X (.Call (.Name x p) (e :: es) [] pos) (tCB r t) := by
  intro pins s σ H Q I h
  refine wpAny_Call_Name_kw (ld_blt I hg hm hv ?_ hn hdb)
  exact PyProof.Rows.callWith_builtin1 (thn (ha pos pins s σ H _ I h) fun us s1 ⟨vs, H1, I1, r1, q1⟩ => hc pins s1 σ H1 vs us Q I1 r1 q1) he hpl
/-- T(e, ..), T a built-in type -/
theorem pe_callTy (hc : CallR X (.type T) r) (hg : Gl X x) (hm : X.mg x = none) (hv : bootBuiltins x = some (.type T)) (ha : PA X (e :: es) t) (hn : x ≠ "__name__" := by decide) (hdb : (x == ("__debug__" : Str)) = false := by decide)
    (he : starEach (e :: es) X.env = (false, eval e X.env) :: starEach es X.env := by rfl) (hpl : (backTo pos (starEach es X.env)).any (·.1) = false := by rfl) : PE X (.Call (.Name x p) (e :: es) [] pos) (tCB r t) := by
  intro pins s σ H Q I h
  refine wpAny_Call_Name_kw (ld_blt I hg hm hv ?_ hn hdb)
  exact PyProof.Rows.callWith_type1 (thn (ha pos pins s σ H _ I h) fun us s1 ⟨vs, H1, I1, r1, q1⟩ => hc pins s1 σ H1 vs us Q I1 r1 q1) he hpl
end
end L2

namespace HT
open PySem PyProof.Rows

section
open PySem.SeqAt
open PySem.AutoSeq1 (wpAny_loadPart')
open PySem.MeetsSeq PySem.MeetsSeq2 PySem.MeetsSeq3

end

section
variable {prog : Program} {w : World} {A : Around} {E : Value → Shared → Prop} {s : Shared}

/-! ### t[a:b], not the whole -/
/-- a slice's bound as a place among n (d where it is left out) -/
def sIx (n d : Nat) : Option Int → Nat
  | none => d
  | some v => if v < 0 then (v + (n : Int)).toNat else min v.toNat n
theorem sIx_none (n d : Nat) : sIx n d none = d := rfl
theorem sIx_nat (n d k : Nat) : sIx n d (some (k : Int)) = min k n := by
  show (if (k : Int) < 0 then ((k : Int) + (n : Int)).toNat else min (k : Int).toNat n) = min k n
  rw [if_neg (by omega), Int.toNat_natCast]
end
end HT

namespace L2
open PySem PySem.Spec PyProof.Rows

/-! ### the parts of a slice -/
abbrev TO := St → Hp → (Option Int → Hp → Prop) → Prop
/-- a slice's part (left out, or an int) -/
def PO (X : Cx) (e : Option Expr) (t : TO) : Prop :=
  ∀ (pins : List (Addr × Obj)) (s : Shared) (σ : St) (H : Hp) (Q : Option Int → Hp → Prop), Inv X pins σ H s → t σ H Q →
    wpAny (model X.prog X.w) X.A (evalPart e X.env) (fun u s' => ∃ o H', Inv X pins σ H' s' ∧ IsPart u o ∧ Q o H') X.xe s
def tNoPart : TO := fun _ H Q => Q none H
def tPart (t : TE) : TO := fun σ H Q => t σ H fun x H1 => ∃ i, x = .int i ∧ Q (some i) H1

section
variable {X : Cx} {e : Expr} {te : TE} {lo hi : Option Expr} {tl th : TO} {pos p2 : Pos}

theorem po_none : PO X none tNoPart := by
  intro pins s σ H Q I h
  rw [evalPart_none]
  exact wpAny_pure ⟨none, H, I, .none, h⟩
theorem po_some (h : PE X e te) : PO X (some e) (tPart te) := by
  intro pins s σ H Q I hw
  rw [evalPart_some]
  refine thn (h pins s σ H _ I hw) fun u s1 ⟨x, H1, I1, r1, q1⟩ => ?_
  obtain ⟨i, rfl, q⟩ := q1
  obtain ⟨t, rfl⟩ := r1
  exact ⟨some i, H1, I1, .int i t, q⟩

/-- what a slice of a value is, by values: the slice object stands at sl -/
def SlR (X : Cx) (r : V → Option Int → Option Int → Hp → VK → Prop) : Prop :=
  ∀ (pins : List (Addr × Obj)) (s : Shared) (σ : St) (H : Hp) (x : V) (v vl vu : Value) (lo hi : Option Int) (sl : Addr) (Q : VK), Inv X pins σ H s → RelV x v → s.heap.IsSliceOf sl vl vu .none → IsPart vl lo → IsPart vu hi → r x lo hi H Q →
    ∃ T id, typeLookup (.type T) "__getitem__" = pure (some (.builtin id)) ∧ s.TypeIs v T ∧ wpAny (model X.prog X.w) X.A (getItem v (.ref sl)) (EP X pins σ Q) X.xe s
def tSl (r : V → Option Int → Option Int → Hp → VK → Prop) (te : TE) (tl th : TO) : TE := fun σ H Q => te σ H fun x H1 => tl σ H1 fun l H2 => th σ H2 fun u H3 => r x l u H3 Q
/-- a[lo:hi], any a -/
theorem pe_slice {r : V → Option Int → Option Int → Hp → VK → Prop} (hr : SlR X r) (he : PE X e te) (hl : PO X lo tl) (hu : PO X hi th) : PE X (.Subscript e (.Slice lo hi none p2) pos) (tSl r te tl th) := by
  intro pins s σ H Q I h
  refine Subscript_ (thn (he pins s σ H _ I h) fun v s1 ⟨x, H1, I1, r1, q1⟩ => ?_)
  refine wpAny_Slice (thn (hl pins s1 σ H1 _ I1 q1) fun vl s2 ⟨l, H2, I2, pl, q2⟩ => thn (hu pins s2 σ H2 _ I2 q2) fun vu s3 ⟨u, H3, I3, pu, q3⟩ => ?_)
  rw [evalPart_none]
  refine wpAny_pure ?_
  have I4 : Inv X pins σ H3 { s3 with heap := s3.heap.push { cls := .type "slice", data := .fields #[vl, vu, .none] } } := I3.kept (t' := s3.toks) fun b ob q => Heap.get?_push_of_some _ q
  obtain ⟨T, id, hT, ht, hg⟩ := hr pins { s3 with heap := s3.heap.push { cls := .type "slice", data := .fields #[vl, vu, .none] } } σ H3 x v vl vu l u s3.heap.objs.size Q I4 r1 (Heap.IsSliceOf.new ..) pl pu q3
  show wpAny (model X.prog X.w) X.A (subscriptTail e (.Slice lo hi none p2) v (.ref s3.heap.objs.size)) (EP X pins σ Q) X.xe { s3 with heap := s3.heap.push { cls := .type "slice", data := .fields #[vl, vu, .none] } }
  exact tail_any (ops := [.ref s3.heap.objs.size, v]) ht hT hg (by with_unfolding_all rfl)

/-- the items of xs[lo:hi] -/
def cutV (xs : List V) (lo hi : Option Int) : List V := (xs.drop (HT.sIx xs.length 0 lo)).take (HT.sIx xs.length xs.length hi - HT.sIx xs.length 0 lo)
theorem cutV_length (xs : List V) (lo hi : Option Int) : (cutV xs lo hi).length ≤ xs.length := by
  unfold cutV
  rw [List.length_take, List.length_drop]
  omega
/-! ### t < u, t + u -/
end
end L2

namespace L2
open PySem PySem.Spec PyProof.Rows

/-! ### places -/
/-- the place that an index of any sign means -/
def ixN (n : Nat) (i : Int) : Option Nat := if 0 ≤ i then (if i < n then some i.toNat else none) else if -(n : Int) ≤ i then some (i + n).toNat else none
def atI {α : Type} (xs : List α) (i : Int) : Option α := (ixN xs.length i).bind fun j => xs[j]?
theorem ixN_seq {n : Nat} {i : Int} {j : Nat} (h : ixN n i = some j) : seqIndex? i n = some j ∧ j < n ∧ -(n : Int) ≤ i ∧ i < n := by
  unfold ixN at h
  by_cases h0 : 0 ≤ i
  · rw [if_pos h0] at h
    by_cases h1 : i < n
    · rw [if_pos h1] at h
      have e : i.toNat = j := Option.some.inj h
      exact ⟨by rw [seqIndex_of h0 h1, e], by omega, by omega, h1⟩
    · rw [if_neg h1] at h; cases h
  · rw [if_neg h0] at h
    by_cases h1 : -(n : Int) ≤ i
    · rw [if_pos h1] at h
      have e : (i + n).toNat = j := Option.some.inj h
      exact ⟨by rw [seqIndex_neg (by omega) h1, e], by omega, h1, by omega⟩
    · rw [if_neg h1] at h; cases h
theorem atI_get {α : Type} {xs : List α} {i : Int} {v : α} (h : atI xs i = some v) : ∃ j, seqIndex? i xs.length = some j ∧ xs[j]? = some v ∧ j < xs.length ∧ -(xs.length : Int) ≤ i ∧ i < xs.length := by
  unfold atI at h
  cases e : ixN xs.length i with
  | none => rw [e] at h; cases h
  | some j =>
    rw [e] at h
    obtain ⟨h1, h2, h3, h4⟩ := ixN_seq e
    exact ⟨j, h1, h, h2, h3, h4⟩
theorem atI_nat {α : Type} {xs : List α} {j : Nat} {v : α} (h : xs[j]? = some v) : atI xs (j : Int) = some v := by
  have hj : j < xs.length := (List.getElem?_eq_some_iff.mp h).1
  have e : ixN xs.length (j : Int) = some j := by
    unfold ixN
    rw [if_pos (by omega), if_pos (by omega)]; simp
  unfold atI; rw [e]; exact h
theorem atI_last {α : Type} (xs : List α) (v : α) : atI (xs ++ [v]) (-1) = some v := by
  have hl : (xs ++ [v]).length = xs.length + 1 := by simp
  have e : ixN (xs ++ [v]).length (-1) = some xs.length := by
    unfold ixN
    rw [hl, if_neg (by decide), if_pos (by omega)]
    congr 1
    omega
  unfold atI
  rw [e]
  show (xs ++ [v])[xs.length]? = some v
  simp

/-! ### what may be subscripted -/
/-- what stands as an index of a plain subscript -/
def PlainIx (b : Expr) : Prop := ∀ o i, subscripted b false o i = operate [o, i] (getItem o i)
/-- a subscript by values -/
def IxR (X : Cx) (r : R2) : Prop :=
  ∀ (value slice : Expr) (pins : List (Addr × Obj)) (s : Shared) (σ : St) (H : Hp) (x y : V) (v u : Value) (Q : VK), Inv X pins σ H s → RelV x v → RelV y u → r x y H Q →
    subscripted slice false v u = operate [v, u] (getItem v u) → wpAny (model X.prog X.w) X.A (subscriptTail value slice v u) (EP X pins σ Q) X.xe s
/-- a call of a builtin's method by values: the receiver, the arguments -/
def MtR (X : Cx) (id : String) (r : V → List V → Hp → VK → Prop) : Prop :=
  ∀ (pins : List (Addr × Obj)) (s : Shared) (σ : St) (H : Hp) (x : V) (xs : List V) (v : Value) (us : List Value) (Q : VK), Inv X pins σ H s → RelV x v → Vals xs us → r x xs H Q →
    wpAny (model X.prog X.w) X.A (call (.builtin id) (v :: us)) (EP X pins σ Q) X.xe s
section
variable {X : Cx} {a b : Expr} {ta tb : TE} {pos : Pos}
/-- a[b] -/
theorem pe_ix {r : R2} (hr : IxR X r) (ha : PE X a ta) (hb : PE X b tb) (hs : PlainIx b) : PE X (.Subscript a b pos) (tOp r ta tb) := by
  intro pins s σ H Q I h
  exact Subscript_ (binT ha hb I h fun v u s2 x y H2 I2 rx ry q => hr a b pins s2 σ H2 x y v u Q I2 rx ry q (hs _ _))

def rIxL (K : PySem.W.Frag) : R2 := fun x y H Q => ∃ p xs i v, x = .ref p ∧ y = .int i ∧ SqL K H p xs ∧ atI xs i = some v ∧ Q v H
theorem ix_list : IxR X (rIxL X.K) := by
  intro value slice pins s σ H x y v u Q I rx ry h hs
  obtain ⟨p, xs, i, z, rfl, rfl, hq, he, q⟩ := h
  cases rx
  obtain ⟨t, rfl⟩ := ry
  obtain ⟨its, r, pl, hz⟩ := I.list hq
  obtain ⟨j, h1, h2, h3, h4, h5⟩ := atI_get he
  obtain ⟨w, ew, rw'⟩ := r.get h2
  have hl := r.length
  have hn := line63
  have fin : EP X pins σ Q w s := ⟨z, H, I, rw', q⟩
  by_cases h0 : 0 ≤ i
  · have hj : i.toNat = j := by
      rw [seqIndex_of h0 h5] at h1
      exact Option.some.inj h1
    exact item_listR pl.isList h0 (by omega) (by rw [hj]; simpa using ew) fin hs
  · have hj : (i + (its.toArray.size : Int)).toNat = j := by
      rw [seqIndex_neg (by omega) h4] at h1
      rw [List.size_toArray, ← hl]
      exact Option.some.inj h1
    exact subscriptTail_builtinR (x := w) pl.isList.typeIs slot_list_getitem.lookup
      (wpAny_getItem_list_neg (Q := fun r s' => r = w ∧ EP X pins σ Q r s') pl.isList (by omega) (by rw [List.size_toArray] <;> omega) (by omega) (by rw [hj]; simpa using ew) ⟨rfl, fin⟩) hs
/-! ### xs[i] = v, any sign -/
/-- the list's object behind a store -/
theorem mapSeq_set (its : List Value) (n j : Nat) (u : Value) : Obj.mapSeq (·.setIfInBounds j u) { cls := .type "list", data := .seq its.toArray n } = { cls := .type "list", data := .seq (its.set j u).toArray n } := by
  simp [Obj.mapSeq]
theorem Inv.lst {pins : List (Addr × Obj)} {σ : St} {H : Hp} {s : Shared} {p : Addr} {xs : List V} (I : Inv X pins σ H s) (h : H p = some (.lst xs)) :
    ∃ (its : List Value) (n : Nat), Vals xs its ∧ s.heap.get? p = some { cls := .type "list", data := .seq its.toArray n } ∧ xs.length ≤ sizeLine := by
  obtain ⟨z, its, n, r, e⟩ := I.hok p _ h
  exact ⟨its, n, r, e, z⟩
/-- the list at p is written by an update of its object -/
theorem Inv.lstUpd {pins : List (Addr × Obj)} {σ : St} {H : Hp} {s : Shared} {p : Addr} {xs ys : List V} {its its' : List Value} {n n' : Nat} {f : Obj → Obj} (I : Inv X pins σ H s) (h : H p = some (.lst xs))
    (ho : s.heap.get? p = some { cls := .type "list", data := .seq its.toArray n }) (hf : f { cls := .type "list", data := .seq its.toArray n } = { cls := .type "list", data := .seq its'.toArray n' }) (r : Vals ys its') (hz : ys.length ≤ sizeLine) (t : Nat) :
    Inv X pins σ (upd H p (.lst ys)) { s with heap := s.heap.update p f, toks := t } := by
  have e : (s.heap.update p f).get? p = some { cls := .type "list", data := .seq its'.toArray n' } := by
    rw [Heap.get?_update_self f ho (by rw [hf] <;> rfl), hf]
  refine I.write (x := p) (e := p) (by rw [h]; trivial) (.inl rfl) (fun b u hb q => (Heap.get?_update_other _ _ (Ne.symm hb)).trans q) ⟨_, e⟩ ?_
  exact ⟨hz, its', n', r, e⟩
def rSetL : V → V → V → Hp → (Hp → Prop) → Prop := fun o i v H Q => ∃ p xs k j, o = .ref p ∧ i = .int k ∧ H p = some (.lst xs) ∧ ixN xs.length k = some j ∧ Q (upd H p (.lst (xs.set j v)))
theorem set_list : PSet X rSetL := by
  intro pins s σ H o i v ov iv u Q I ro ri rv h
  obtain ⟨p, xs, k, j, rfl, rfl, hp, hj, q⟩ := h
  cases ro
  obtain ⟨t, rfl⟩ := ri
  obtain ⟨its, n, r, ho, hz⟩ := I.lst hp
  obtain ⟨h1, h2, h3, h4⟩ := ixN_seq hj
  have hl := r.length
  have hn := line63
  have I' : Inv X pins σ (upd H p (.lst (xs.set j v))) { s with heap := s.heap.update p (Obj.mapSeq (·.setIfInBounds j u)) } :=
    I.lstUpd hp ho (mapSeq_set its n j u) (r.set rv j) (by rw [List.length_set]; exact hz) s.toks
  by_cases h0 : 0 ≤ k
  · have hk : k.toNat = j := by
      rw [seqIndex_of h0 h4] at h1
      exact Option.some.inj h1
    exact PySem.W.ki_setAt ho h0 (by omega) (by rw [List.size_toArray, ← hl]; exact h4) (by rw [hk]; exact ⟨_, I', q⟩)
  · have hk : (k + (its.toArray.size : Int)).toNat = j := by
      rw [seqIndex_neg (by omega) h3] at h1
      rw [List.size_toArray, ← hl]
      exact Option.some.inj h1
    exact PySem.W.ki_setBack ho (by omega) (by rw [List.size_toArray, ← hl]; exact h3) (by omega) (by rw [hk]; exact ⟨_, I', q⟩)

/-! ### slices -/
theorem slice_bounds (lo hi : Option Int) (n : Nat) : (sliceBounds lo hi none n).1 = ((HT.sIx n 0 lo : Nat) : Int) ∧ (sliceBounds lo hi none n).2.1 = ((HT.sIx n n hi : Nat) : Int) ∧ (sliceBounds lo hi none n).2.2 = 1 := by
  refine ⟨?_, ?_, rfl⟩
  · cases lo with
    | none => simp [sliceBounds, HT.sIx]
    | some i =>
      simp only [sliceBounds, HT.sIx, Option.getD_none, show (1 : Int) > 0 by decide, if_true]
      by_cases h : i < 0
      · simp only [h, if_true] <;> omega
      · simp only [h, if_false] <;> omega
  · cases hi with
    | none => simp [sliceBounds, HT.sIx]
    | some i =>
      simp only [sliceBounds, HT.sIx, Option.getD_none, show (1 : Int) > 0 by decide, if_true]
      by_cases h : i < 0
      · simp only [h, if_true] <;> omega
      · simp only [h, if_false] <;> omega
theorem slicePick_cut (its : List Value) (lo hi : Option Int) : slicePick its.toArray lo hi none = ((its.drop (HT.sIx its.length 0 lo)).take (HT.sIx its.length its.length hi - HT.sIx its.length 0 lo)).toArray := by
  obtain ⟨h1, h2, h3⟩ := slice_bounds lo hi its.toArray.size
  unfold slicePick
  rw [h1, h2, h3]
  simp only [sliceRange_one, pick_run, List.size_toArray] <;> rfl
/-- xs[lo:hi] of a list: a new list -/
def rSlL (K : PySem.W.Frag) : V → Option Int → Option Int → Hp → VK → Prop := fun x lo hi H Q => ∃ a xs, x = .ref a ∧ SqL K H a xs ∧ ∀ p, H p = none → Q (.ref p) (upd H p (.lst (cutV xs lo hi)))
theorem sl_list : SlR X (rSlL X.K) := by
  intro pins s σ H x v vl vu lo hi sl Q I rx hs pl pu h
  obtain ⟨a, xs, rfl, hx, q⟩ := h
  cases rx
  obtain ⟨its, r, ht, hz⟩ := I.list hx
  have hlen := r.length
  refine ⟨"list", _, slot_list_getitem.lookup, ht.isList.typeIs, ?_⟩
  refine wpAny_getItem_list_slice ht.isList hs pl pu .none (by simp) ?_ (by rw [List.size_toArray] <;> omega)
  rw [slicePick_cut, ← hlen]
  refine ⟨.ref s.heap.objs.size, _, I.laid (t' := s.toks) (o := .lst (cutV xs lo hi)) (fun b ob q => Heap.get?_push_of_some _ q) (Nat.le_refl _) ?_, rfl, q _ (I.hok.fresh (Nat.le_refl _))⟩
  exact ⟨Nat.le_trans (cutV_length xs lo hi) hz, _, 0, (r.drop (HT.sIx xs.length 0 lo)).take (HT.sIx xs.length xs.length hi - HT.sIx xs.length 0 lo), Heap.get?_push_size _ rfl⟩

/-! ### in, not in: flat items -/
/-! ### len, list(x), tuple(x) of any list or tuple that is read -/
theorem call_len_seq : CallR X (.builtin "len") (fun xs H Q => ∃ p ys, xs = [.ref p] ∧ (SqL X.K H p ys ∨ SqT X.K H p ys) ∧ Q (.int ys.length) H) := by
  intro pins s σ H xs us Q I r h
  obtain ⟨p, ys, rfl, hq, q⟩ := h
  obtain ⟨u, rfl, rx⟩ := vals1 r
  cases rx
  have hn := line63
  rcases hq with hq | hq
  · obtain ⟨its, r', pl, hz⟩ := I.list hq
    have hlen := r'.length
    exact Calls.call_len_list pl.isList (by simp only [List.size_toArray] <;> omega) ⟨.int ys.length, H, I.tok _, ⟨s.toks + 1, by rw [List.size_toArray, hlen]⟩, q⟩
  · obtain ⟨its, r', pl, hz⟩ := I.tuple hq
    have hlen := r'.length
    exact len_tuple pl (by simp only [List.size_toArray] <;> omega) ⟨.int ys.length, H, I.tok _, ⟨s.toks + 1, by rw [List.size_toArray, hlen]⟩, q⟩
theorem call_tuple_of : CallR X (.type "tuple") (fun xs H Q => ∃ p ys, xs = [.ref p] ∧ ((SqL X.K H p ys ∧ ∀ l, H l = none → Q (.ref l) (upd H l (.tup ys))) ∨ (SqT X.K H p ys ∧ Q (.ref p) H))) := by
  intro pins s σ H xs us Q I r h
  obtain ⟨p, ys, rfl, h⟩ := h
  obtain ⟨u, rfl, rx⟩ := vals1 r
  cases rx
  rcases h with ⟨hq, q⟩ | ⟨hq, q⟩
  · obtain ⟨its, r', pl, hz⟩ := I.list hq
    have hlen := r'.length
    refine call_tuple_list pl.isList (fun h' kp => ?_) (by simp only [List.size_toArray] <;> omega)
    have I1 : Inv X pins σ H { s with heap := h' } := I.kept (t' := s.toks) kp
    have I2 : Inv X pins σ (upd H h'.objs.size (.tup ys)) { s with heap := h'.push { cls := .type "tuple", data := .seq its.toArray } } :=
      I1.laid (t' := s.toks) (fun b o e => Heap.get?_push_of_some _ e) (Nat.le_refl _) (show ObjOk X.prog X.w _ _ _ (.tup ys) from ⟨hz, its, r', IsTup.new _ _⟩)
    exact ⟨.ref h'.objs.size, _, I2, rfl, q _ (I1.hok.fresh (Nat.le_refl _))⟩
  · obtain ⟨its, r', pl, hz⟩ := I.tuple hq
    exact call_tuple_same pl ⟨.ref p, H, I, rfl, q⟩

/-! ### the call of a builtin's method: o.m(..) -/
/-- the value is of that builtin type -/
def tyV (K : PySem.W.Frag) (T : String) (x : V) (H : Hp) : Prop := match x with
  | .str _ => T = "str"
  | .int _ => T = "int"
  | .ref p => (T = "list" ∧ ∃ xs, SqL K H p xs) ∨ (T = "tuple" ∧ ∃ o, K.lookup p = some o ∧ o.cls = .type "tuple" ∧ o.dict = none) ∨
      (T = "dict" ∧ ((∃ kvs, H p = some (.dK kvs)) ∨ ∃ kvs, H p = some (.dT kvs))) ∨ (T = "set" ∧ ∃ S n, H p = some (.set S n))
  | _ => False
theorem tyV_is {pins : List (Addr × Obj)} {σ : St} {H : Hp} {s : Shared} {T : String} {x : V} {v : Value} (I : Inv X pins σ H s) (r : RelV x v) (ty : tyV X.K T x H) :
    s.TypeIs v T ∧ ∀ a, v = .ref a → ∃ ob, s.heap.get? a = some ob ∧ ob.dict = none := by
  cases x with
  | str z =>
    obtain ⟨t, rfl⟩ := r
    cases (show T = "str" from ty)
    exact ⟨typeIs_str s z t, fun _ e => nomatch e⟩
  | int i =>
    obtain ⟨t, rfl⟩ := r
    cases (show T = "int" from ty)
    exact ⟨typeIs_int s i t, fun _ e => nomatch e⟩
  | ref p =>
    cases r
    rcases ty with ⟨rfl, xs, hq⟩ | ⟨rfl, o, hk, hc, hd⟩ | ⟨rfl, hk⟩ | ⟨rfl, S, n, hk⟩
    · obtain ⟨its, _, pl, _⟩ := I.list hq
      refine ⟨pl.isList.typeIs, fun a e => ?_⟩
      cases e
      obtain ⟨o, n, e, c, hd, _⟩ := pl
      exact ⟨o, e, hd⟩
    · refine ⟨⟨o, I.kIn p o hk, hc⟩, fun a e => ?_⟩
      cases e
      exact ⟨o, I.kIn _ o hk, hd⟩
    · have z : ∃ o, s.heap.get? p = some o ∧ o.ExactDict := by
        rcases hk with ⟨kvs, hk⟩ | ⟨kvs, hk⟩
        · obtain ⟨_, _, _, _, o, _, _, e, ex, _⟩ := I.hok p _ hk
          exact ⟨o, e, ex⟩
        · obtain ⟨_, _, _, _, o, _, _, e, ex, _⟩ := I.hok p _ hk
          exact ⟨o, e, ex⟩
      obtain ⟨o, e, ex⟩ := z
      refine ⟨⟨o, e, ex.1⟩, fun a e2 => ?_⟩
      cases e2
      exact ⟨o, e, ex.2.1⟩
    · obtain ⟨o, _, _, _, e, ex, _⟩ := I.hok p _ hk
      refine ⟨⟨o, e, ex.1⟩, fun a e2 => ?_⟩
      cases e2
      exact ⟨o, e, ex.2.1⟩
  | _ => exact False.elim ty
def tBM0 (K : PySem.W.Frag) (T : String) (r : V → List V → Hp → VK → Prop) (to : TE) : TE := fun σ H Q => to σ H fun x H1 => tyV K T x H1 ∧ r x [] H1 Q
def tBM (K : PySem.W.Frag) (T : String) (r : V → List V → Hp → VK → Prop) (to : TE) (t : TA) : TE := fun σ H Q => to σ H fun x H1 => tyV K T x H1 ∧ t σ H1 fun xs H2 => r x xs H2 Q
variable {o e : Expr} {es : List Expr} {to : TE} {t : TA} {name : Str} {apos cpos : Pos} {T id : String} {r : V → List V → Hp → VK → Prop}
theorem pe_bm0 (pa : PlainAttrs T) (slot : Slot T name id) (hty : typeOf (.builtin id) = pure (.type "method_descriptor")) (hm : MtR X id r) (ho : PE X o to)
    (hbase : attributeBase o name X.env (eval o X.env) = eval o X.env := by rfl) (hline : (apos.endLine == cpos.line) = true := by rfl) : PE X (.Call (.Attribute o name apos) [] [] cpos) (tBM0 X.K T r to) := by
  intro pins s σ H Q I h
  refine wpAny_Call_method0_late hbase hline (thn (ho pins s σ H _ I h) fun v s1 ⟨x, H1, I1, r1, ty, q1⟩ => ?_)
  obtain ⟨h1, h2⟩ := tyV_is I1 r1 ty
  exact ⟨T, id, pa, slot, hty, h1, h2, Calls.callWith_builtin rfl (PySem.evalArgs_none (hm pins s1 σ H1 x [] v [] Q I1 r1 .nil q1))⟩
theorem pe_bm (pa : PlainAttrs T) (slot : Slot T name id) (hty : typeOf (.builtin id) = pure (.type "method_descriptor")) (hm : MtR X id r) (ho : PE X o to) (ha : PA X (e :: es) t)
    (hbase : attributeBase o name X.env (eval o X.env) = eval o X.env := by rfl)
    (hfew : ((backTo cpos (starEach (e :: es) X.env)).all (fun x => !x.1) && (backToKw cpos (keywordEach [] X.env)).all (fun x => x.1.isSome)
      && decide ((e :: es).length + ([] : List Keyword).length + (if ([] : List Keyword).isEmpty then 0 else 1) < 30)) = true := by rfl)
    (hline : (apos.endLine == cpos.line) = true := by rfl) (hs : starEach (e :: es) X.env = (false, eval e X.env) :: starEach es X.env := by rfl) (hplain : (backTo cpos (starEach es X.env)).any (·.1) = false := by rfl) :
    PE X (.Call (.Attribute o name apos) (e :: es) [] cpos) (tBM X.K T r to t) := by
  intro pins s σ H Q I h
  refine wpAny_Call_method_late hbase hfew hline rfl (thn (ho pins s σ H _ I h) fun v s1 ⟨x, H1, I1, r1, ty, q1⟩ => ?_)
  obtain ⟨h1, h2⟩ := tyV_is I1 r1 ty
  refine ⟨T, id, pa, slot, hty, h1, h2, ?_⟩
  have hA := ha cpos pins s1 σ H1 _ I1 q1
  rw [hs] at hA ⊢
  refine Calls.callWith_builtin (by show (false || (backTo cpos (starEach es X.env)).any (·.1)) = false; rw [hplain] <;> rfl) (Calls.evalArgs_plain ?_)
  exact thn hA fun us s2 ⟨vs, H2, I2, r2, q2⟩ => hm pins s2 σ H2 x vs v us Q I2 r1 r2 q2
/- xs.append(e), list.index on a module's tuple .. are MtR facts of 06m -/
end
end L2

namespace L2
open PySem PySem.Spec PyProof.Rows

def MtM (X : Cx) (id : String) (r : V → List V → Hp → VK → Prop) : Prop :=
  ∀ (pins : List (Addr × Obj)) (s : Shared) (σ : St) (H : Hp) (x : V) (xs : List V) (v : Value) (us : List Value) (Q : VK), Inv X pins σ H s → RelV x v → Vals xs us → r x xs H Q →
    wpAny (model X.prog X.w) X.A (call (.builtin id) (v :: us)) (EP X pins σ Q) X.xe s

/-! ### lists of values -/
theorem Vals.one : ∀ {x : V} {us : List Value}, Vals [x] us → ∃ u, us = [u] ∧ RelV x u
  | _, _, .cons r .nil => ⟨_, rfl, r⟩
theorem Vals.rep {xs : List V} {us : List Value} (h : Vals xs us) : ∀ k : Nat, Vals (List.replicate k xs).flatten (List.replicate k us).flatten
  | 0 => .nil
  | k + 1 => by
    rw [List.replicate_succ, List.replicate_succ, List.flatten_cons, List.flatten_cons]
    exact Vals.append h (Vals.rep h k)
theorem foldl_rep (its : List Value) : ∀ (k : Nat) (acc : List Value),
    List.foldl (fun x1 x2 => x1 ++ x2) acc.toArray (List.replicate k its.toArray) = (acc ++ (List.replicate k its).flatten).toArray
  | 0, acc => by simp
  | k + 1, acc => by
    have e : acc.toArray ++ its.toArray = (acc ++ its).toArray := by simp
    have e2 : (acc ++ its) ++ (List.replicate k its).flatten = acc ++ (List.replicate (k + 1) its).flatten := by
      rw [List.replicate_succ, List.flatten_cons, List.append_assoc]
    rw [← e2, ← foldl_rep its k (acc ++ its), ← e, List.replicate_succ, List.foldl_cons]

section
variable {X : Cx} {pins : List (Addr × Obj)} {σ : St} {H : Hp} {s : Shared} {l b : Addr} {xs ys zs : List V}

/-! ### the two steps: a tracked list is rewritten, a new list is laid -/
theorem Inv.lset {its its' : List Value} {n : Nat} {f : Array Value → Array Value} {t' : Nat} (I : Inv X pins σ H s) (hH : H l = some (.lst xs))
    (e : s.heap.get? l = some { cls := .type "list", data := .seq its.toArray n }) (hf : f its.toArray = its'.toArray) (hv : Vals ys its') (hz : ys.length ≤ sizeLine) :
    Inv X pins σ (upd H l (.lst ys)) { s with heap := s.heap.update l (Obj.mapSeq f), toks := t' } := by
  have q := PySem.IsL.update e f
  rw [hf] at q
  refine I.write (x := l) (e := l) (by rw [hH]; exact trivial) (.inl rfl) (fun b' u hb hu => (Heap.get?_update_other s.heap (Obj.mapSeq f) (Ne.symm hb)).trans hu) ⟨_, q⟩ ?_
  exact ⟨hz, its', _, hv, q⟩
theorem Inv.lnew {its : List Value} {t' : Nat} (I : Inv X pins σ H s) (hv : Vals ys its) (hz : ys.length ≤ sizeLine) :
    Inv X pins σ (upd H s.heap.objs.size (.lst ys)) { s with heap := s.heap.push { cls := .type "list", data := .seq its.toArray }, toks := t' } :=
  I.laid (fun _ _ q => Heap.get?_push_of_some _ q) (Nat.le_refl _) ⟨hz, its, 0, hv, Heap.get?_push_size _ rfl⟩
theorem Inv.fresh (I : Inv X pins σ H s) : H s.heap.objs.size = none := I.hok.fresh (Nat.le_refl _)
theorem Inv.lstM (I : Inv X pins σ H s) (hH : H l = some (.lst xs)) : xs.length ≤ sizeLine ∧ ∃ (its : List Value) (n : Nat), Vals xs its ∧ xs.length = its.length ∧ s.heap.get? l = some { cls := .type "list", data := .seq its.toArray n } := by
  obtain ⟨z, its, n, r, e⟩ := I.hok l _ hH
  exact ⟨z, its, n, r, r.length, e⟩

theorem notLongL {n : Nat} (h : n ≤ sizeLine) : Builtin.List.listTooLong n = false := by
  unfold Builtin.List.listTooLong
  exact decide_eq_false (by omega)
end

section
variable {X : Cx}

/-! ### methods -/
def rAppend : V → List V → Hp → VK → Prop := fun x vs H Q => ∃ l xs y, x = .ref l ∧ vs = [y] ∧ H l = some (.lst xs) ∧ xs.length < sizeLine ∧ Q .non (upd H l (.lst (xs ++ [y])))
theorem mt_append : MtM X "list.append" rAppend := by
  intro pins s σ H x vs v us Q I rx rv h
  obtain ⟨l, xs, y, rfl, rfl, hH, hz, q⟩ := h
  cases rx
  obtain ⟨u, rfl, ru⟩ := rv.one
  obtain ⟨z, its, n, r, hl, e⟩ := I.lstM hH
  refine call_meets F.slot_list_append ⟨_, e, rfl⟩ F.entry_list_append (F.args_list_append_2 _ _) (PySem.list_append l its.toArray n u (by rw [List.size_toArray]; omega)) ⟨e, ?_⟩
  refine ⟨.non, _, I.lset (its' := its ++ [u]) hH e (by simp) (r.append (.cons ru .nil)) ?_, rfl, q⟩
  rw [List.length_append, List.length_singleton]
  omega

def rExtend : V → List V → Hp → VK → Prop := fun x vs H Q => ∃ l b xs zs, x = .ref l ∧ vs = [.ref b] ∧ H l = some (.lst xs) ∧ H b = some (.lst zs) ∧ xs.length + zs.length ≤ sizeLine ∧ Q .non (upd H l (.lst (xs ++ zs)))
theorem mt_extend : MtM X "list.extend" rExtend := by
  intro pins s σ H x vs v us Q I rx rv h
  obtain ⟨l, b, xs, zs, rfl, rfl, hH, hB, hz, q⟩ := h
  cases rx
  obtain ⟨u, rfl, ru⟩ := rv.one
  cases ru
  obtain ⟨z, its, n, r, hl, e⟩ := I.lstM hH
  obtain ⟨z2, its2, n2, r2, hl2, e2⟩ := I.lstM hB
  have hsz : its.toArray.size + its2.toArray.size ≤ sizeLine := by rw [List.size_toArray, List.size_toArray]; omega
  have hlong : ¬ (!its.toArray.isEmpty && Builtin.List.listTooLong (its.toArray.size + its2.toArray.size)) = true := by
    rw [notLongL hsz, Bool.and_false]
    exact Bool.false_ne_true
  refine call_meets F.slot_list_extend ⟨_, e, rfl⟩ F.entry_list_extend (F.args_list_extend_2 _ _)
    (AutoSeq1.list_extend_list_list_0 l its.toArray n b its2.toArray n2 hlong (by rw [List.size_toArray]; omega) (by omega)) ⟨e, e2, ?_⟩
  refine ⟨.non, _, I.lset (its' := its ++ its2) hH e (by simp) (r.append r2) ?_, rfl, q⟩
  rw [List.length_append]
  omega

/-! ### list + list, list += list, list * int -/
def rCat : R2 := fun x y H Q => ∃ l b xs zs, x = .ref l ∧ y = .ref b ∧ H l = some (.lst xs) ∧ H b = some (.lst zs) ∧ xs.length + zs.length ≤ sizeLine ∧ ∀ p, H p = none → Q (.ref p) (upd H p (.lst (xs ++ zs)))
theorem op_cat : OpR X (binaryOp .Add) rCat := by
  intro pins s σ H x y v u Q I rx ry h
  obtain ⟨l, b, xs, zs, rfl, rfl, hH, hB, hz, q⟩ := h
  cases rx
  cases ry
  obtain ⟨z, its, n, r, hl, e⟩ := I.lstM hH
  obtain ⟨z2, its2, n2, r2, hl2, e2⟩ := I.lstM hB
  refine PySem.P.add_list e e2 ?_ (by rw [List.size_toArray, List.size_toArray]; omega)
  have ea : its.toArray ++ its2.toArray = (its ++ its2).toArray := by simp
  rw [ea]
  exact ⟨.ref _, _, I.lnew (t' := s.toks) (r.append r2) (by rw [List.length_append]; omega), rfl, q _ I.fresh⟩
/-- a list times an int (a negative one is nothing) -/
def rRep : R2 := fun x y H Q => ∃ l k xs, x = .ref l ∧ y = .int k ∧ H l = some (.lst xs) ∧ -(2 ^ 63) ≤ k ∧ k < 2 ^ 63 ∧ xs.length * k.toNat ≤ sizeLine ∧
  ∀ p, H p = none → Q (.ref p) (upd H p (.lst (List.replicate k.toNat xs).flatten))
theorem len_rep {α : Type} (xs : List α) (k : Nat) : (List.replicate k xs).flatten.length = k * xs.length := by
  induction k with
  | zero => simp
  | succ k ih => rw [List.replicate_succ, List.flatten_cons, List.length_append, ih, Nat.succ_mul, Nat.add_comm]
theorem op_rep : OpR X (binaryOp .Mult) rRep := by
  intro pins s σ H x y v u Q I rx ry h
  obtain ⟨l, k, xs, rfl, rfl, hH, h1, h2, hz, q⟩ := h
  cases rx
  obtain ⟨t, rfl⟩ := ry
  obtain ⟨z, its, n, r, hl, e⟩ := I.lstM hH
  have hlen : its.toArray.size * k.toNat ≤ sizeLine := by rw [List.size_toArray, ← hl]; exact hz
  have hcap : ¬ its.toArray.size * k.toNat > (2 ^ 63 - 1) / 8 := by
    have : (sizeLine : Nat) ≤ (2 ^ 63 - 1) / 8 := by decide
    omega
  have hfit : ¬ (!Builtin.List.listFitsIndex k) = true := by
    rw [fitsIndex_both h1 h2]
    exact Bool.false_ne_true
  have hlong : ¬ Builtin.List.listTooLong (its.toArray.size * k.toNat) = true := by
    rw [notLongL hlen]
    exact Bool.false_ne_true
  have hnew : List.foldl (fun x1 x2 => x1 ++ x2) #[] (List.replicate (if its.toArray.isEmpty = true then 0 else k.toNat) its.toArray) = (List.replicate k.toNat its).flatten.toArray := by
    have f0 : ∀ m : Nat, List.foldl (fun x1 x2 => x1 ++ x2) #[] (List.replicate m its.toArray) = (List.replicate m its).flatten.toArray := fun m => by
      have := foldl_rep its m []
      rw [List.nil_append] at this
      exact this
    rw [f0]
    cases its with
    | nil => simp
    | cons a r' => rw [if_neg (by simp)]
  refine wpAny_binaryOp_repeat_ref (T := "list") (U := "int") (by decide) ⟨_, e, rfl⟩ (fun s' => typeIs_int s' k t) noFill_list_mul F.fills_int_mul F.slot_int_rmul repeat_list F.slot_int_index.lookup
    (call_meets F.slot_int_rmul (typeIs_int s k t) F.entry_int_rmul (F.args_int_rmul_2 _ _) (int___rmul___int_list k t l its.toArray n)
      ⟨e, rfl, ⟨_, e, rfl⟩, call_meets F.slot_list_mul ⟨_, e, rfl⟩ F.entry_list_mul (F.args_list_mul_2 _ _) (AutoListH.list___mul___list_int_3 l its.toArray n k t hfit hcap hlong) ⟨e, ?_⟩⟩)
  rw [hnew]
  exact ⟨.ref _, _, I.lnew (t' := s.toks) (r.rep k.toNat) (by rw [len_rep, Nat.mul_comm]; exact hz), rfl, q _ I.fresh⟩

/-! ### del xs[i] -/
end

/-! ### xs[a:b] = ys -/
section
variable {prog : Program} {w : World} {A : Around} {E : Value → Shared → Prop} {s : Shared}
end

section
variable {X : Cx}
end
end L2

namespace L2
open PySem PySem.Spec PyProof.Rows

theorem Vals.bls : ∀ {bs : List Bool} {us : List Value}, Vals (bs.map V.bl) us → us = bs.map Value.bool
  | [], us, h => by
    rw [List.map_nil] at h
    cases h
    rfl
  | b :: bs, us, h => by
    rw [List.map_cons] at h
    cases h with
    | cons r t =>
      cases r
      rw [Vals.bls t, List.map_cons]
theorem Vals.ref1 {a : Addr} {us : List Value} (r : Vals [V.ref a] us) : us = [Value.ref a] := by
  cases r with
  | cons r t =>
    cases t
    cases r
    rfl
/-! ### the library's walks over a list of ints, kept objects alone -/
section
variable {prog : Program} {w : World} {A : Around} {E : Value → Shared → Prop} {s : Shared} {l : Addr} {its : List Value} {ns : List Int} {Q : Value → Shared → Prop}
end

/-! ### the calls, by values (CallR of 03t; MtR of 06l) -/
section
variable {X : Cx}
/-! sorted, sort (fewer than 64 items: the library's own bound) -/
end

/-! ### list.index, flat items -/
section
variable {X : Cx}
end

/-! ### type(x) of an own instance; is, is not of a module's class -/
section
variable {X : Cx}
end

/-! ### any(xs), all(xs) of a list of bools -/
theorem iter_any {prog : Program} {w : World} {A : Around} {E : Value → Shared → Prop} {s : Shared} {l : Addr} {items : Array Value} {Q : Value → Shared → Prop} (hl : s.heap.IsList l items)
    (h : ∀ s₂ : Shared, s₂ = { s with heap := s.heap.push { cls := .type "list_iterator", data := .fields #[.ref l, .int 0 0] } } →
      (s₂.heap.IsListIter s.heap.objs.size l 0 ∧ s₂.heap.IsList l items) → l ≠ s.heap.objs.size → Q (.ref s.heap.objs.size) s₂) : wpAny (model prog w) A (pyIter (.ref l)) Q E s := by
  have hlt : l < s.heap.objs.size := by obtain ⟨_, e, _⟩ := hl; exact Heap.lt_size e
  exact wpAny_pyIter_list hl (h _ rfl ⟨⟨_, Heap.get?_push_size _ rfl, rfl, rfl⟩, hl.push _⟩ (Nat.ne_of_lt hlt))
theorem truth_bools {prog : Program} {w : World} {A : Around} {bs : List Bool} {its : List Value} (e : its = bs.map Value.bool) :
    TruthOf prog w A (fun i v => its.toArray[i]? = some v) (fun i => bs.getD i false) := fun i v s Q E hv hq => by
  have hv' : its[i]? = some v := by simpa using hv
  rw [e, List.getElem?_map] at hv'
  obtain ⟨b, hb, rfl⟩ := Option.map_eq_some_iff.mp hv'
  have hg : bs.getD i false = b := by rw [List.getD_eq_getElem?_getD, hb] <;> rfl
  have hq' : Q (bs.getD i false) s := hq
  rw [hg] at hq'
  exact wpAny_truthy_bool hq'
theorem any_range : ∀ bs : List Bool, (List.range bs.length).any (fun i => bs.getD i false) = bs.any id
  | [] => rfl
  | b :: bs => by
    rw [List.length_cons, List.range_succ_eq_map, List.any_cons, List.any_map, List.any_cons, ← any_range bs]
    all_goals rfl
theorem all_range : ∀ bs : List Bool, (List.range bs.length).all (fun i => bs.getD i false) = bs.all id
  | [] => rfl
  | b :: bs => by
    rw [List.length_cons, List.range_succ_eq_map, List.all_cons, List.all_map, List.all_cons, ← all_range bs]
    all_goals rfl
section
variable {X : Cx}
def rAll (K : PySem.W.Frag) : List V → Hp → VK → Prop := fun vs H Q => ∃ (a : Addr) (bs : List Bool), vs = [V.ref a] ∧ SqL K H a (bs.map V.bl) ∧ Q (.bl (bs.all id)) H
theorem cr_all (hc : X.calm = true) : CallR X (.builtin "all") (rAll X.K) := by
  intro pins s σ H vs us Q I r h
  obtain ⟨a, bs, rfl, hs, q⟩ := h
  obtain ⟨its, rv, hl, _⟩ := I.list hs
  rw [Vals.ref1 r]
  have hb := rv.bls
  refine call_all_walk (iter_any hl.isList fun s₂ e2 st hne => ?_)
  subst e2
  refine ⟨_, _, _, _, _, _, _, rfl, Walks.list (A := X.A.in1) (I.ok.hd hc) _ a hne its.toArray, st, truth_bools hb, fun h' tk hk => ?_⟩
  refine ⟨.bl _, H, I.kept fun b o eo => hk b o (fun hmem => ?_) (Heap.get?_push_of_some _ eo), ?_, q⟩
  · rcases List.mem_cons.mp hmem with e1 | hmem
    · exact absurd (e1 ▸ Heap.lt_size eo) (Nat.lt_irrefl _)
    · cases hmem
  · show Value.bool _ = Value.bool _
    rw [← all_range, hb, List.size_toArray, List.length_map]
end

/-! ### == and != of data at any depth: none, bools, ints, texts, lists, tuples -/
mutual
inductive Dp (K : PySem.W.Frag) (H : Hp) : V → PyData → Prop
  | non : Dp K H .non .none
  | bl (b : Bool) : Dp K H (.bl b) (.bool b)
  | int (i : Int) : Dp K H (.int i) (.int i)
  | str (x : Str) : Dp K H (.str x) (.str x)
  | lst {a : Addr} {xs : List V} {ds : List PyData} : SqL K H a xs → DpAll K H xs ds → Dp K H (.ref a) (.list ds)
  | tup {a : Addr} {xs : List V} {ds : List PyData} : SqT K H a xs → DpAll K H xs ds → Dp K H (.ref a) (.tuple ds)
inductive DpAll (K : PySem.W.Frag) (H : Hp) : List V → List PyData → Prop
  | nil : DpAll K H [] []
  | cons {v : V} {vs : List V} {d : PyData} {ds : List PyData} : Dp K H v d → DpAll K H vs ds → DpAll K H (v :: vs) (d :: ds)
end
section
variable {X : Cx} {pins : List (Addr × Obj)} {σ : St} {H : Hp} {s : Shared}
mutual
theorem Dp.reads (I : Inv X pins σ H s) : ∀ (d : PyData) (v : V) (u : Value), Dp X.K H v d → RelV v u → ∃ as, Reads s.heap u d as
  | .none, _, _, h, r => by
    cases h
    cases r
    exact ⟨_, Reads.none⟩
  | .bool b, _, _, h, r => by
    cases h
    cases r
    exact ⟨_, Reads.bool b⟩
  | .int i, _, _, h, r => by
    cases h
    obtain ⟨t, rfl⟩ := r
    exact ⟨_, Reads.int i t⟩
  | .str x, _, _, h, r => by
    cases h
    obtain ⟨t, rfl⟩ := r
    exact ⟨_, Reads.str x t⟩
  | .list ds, _, _, h, r => by
    cases h with
    | lst hs ha =>
      cases r
      obtain ⟨its, rv, ⟨o, n, ho, hc, _, hd⟩, _⟩ := I.list hs
      obtain ⟨as, hr⟩ := Dp.readsAll I ds _ its ha rv
      exact ⟨_, Reads.list ho hc hd hr⟩
  | .tuple ds, _, _, h, r => by
    cases h with
    | tup hs ha =>
      cases r
      obtain ⟨its, rv, ⟨o, ho, hc, n, hd⟩, _⟩ := I.tuple hs
      obtain ⟨as, hr⟩ := Dp.readsAll I ds _ its ha rv
      exact ⟨_, Reads.tuple ho hc hd hr⟩
  | .dict _, _, _, h, _ => by cases h
theorem Dp.readsAll (I : Inv X pins σ H s) : ∀ (ds : List PyData) (vs : List V) (us : List Value), DpAll X.K H vs ds → Vals vs us → ∃ as, ReadsAll s.heap us ds as
  | [], _, _, h, r => by
    cases h
    cases r
    exact ⟨_, ReadsAll.nil⟩
  | d :: ds, _, _, h, r => by
    cases h with
    | cons h1 h2 =>
      cases r with
      | cons r1 r2 =>
        obtain ⟨as, q1⟩ := Dp.reads I d _ _ h1 r1
        obtain ⟨bs, q2⟩ := Dp.readsAll I ds _ _ h2 r2
        exact ⟨_, ReadsAll.cons q1 q2⟩
end
end
section
variable {X : Cx}
def rEqD (K : PySem.W.Frag) : R2 := fun x y H Q => ∃ d e, Dp K H x d ∧ Dp K H y e ∧ SeqAt.shaped d = true ∧ SeqAt.shaped e = true ∧ Q (.bl (PyData.eqv d e)) H
theorem op_eqD (hu : X.A.units + 64 < cLine) : OpR X (compareOp .Eq) (rEqD X.K) := by
  intro pins s σ H x y v u Q I rx ry h
  obtain ⟨d, e, hd, he, sd, se, q⟩ := h
  obtain ⟨as, r1⟩ := Dp.reads I d x v hd rx
  obtain ⟨bs, r2⟩ := Dp.reads I e y u he ry
  exact SeqAt.compareEq_shaped r1 r2 sd se hu ⟨.bl _, H, I, rfl, q⟩
end
end L2

namespace L2
open PySem PySem.Spec PyProof.Rows
abbrev CellAt (h : Heap) (c : Addr) (v : Option Value) : Prop := h.IsCell c v
def relS (scope sc : Scope) : Scope :=
  { scope with names := scope.names.map fun (n, k) => if (k == .free && sc.kind == .function && sc.names.lookup n == some .cell) then (n, .cell) else (n, k) }

def cloFrom (cells : List (Str × Addr)) : List (Str × NameKind) → List (Str × Addr) → List (Str × Addr)
  | [], acc => acc
  | (n, k) :: r, acc => if k == .free then cloFrom cells r ((n, (cells.lookup n).getD 0) :: acc) else cloFrom cells r acc

theorem closure_loop (env : Env) (f : Str × NameKind → List (Str × Addr) → Sem (ForInStep (List (Str × Addr))))
    (hf : ∀ n k c, f (n, k) c = if k == .free then (do let a ← cellOf env n; pure (.yield ((n, a) :: c))) else pure (.yield c)) :
    ∀ (names : List (Str × NameKind)) (acc : List (Str × Addr)), (∀ y ∈ names, y.2 = .free → ∃ c, env.cells.lookup y.1 = some c) → forIn names acc f = pure (cloFrom env.cells names acc)
  | [], acc, _ => by rw [List.forIn_nil]; rfl
  | (n, k) :: r, acc, h => by
    rw [List.forIn_cons, hf]
    have ih := fun acc => closure_loop env f hf r acc fun y hy => h y (List.mem_cons_of_mem _ hy)
    unfold cloFrom
    by_cases hk : (k == NameKind.free) = true
    · rw [if_pos hk, if_pos hk]
      obtain ⟨c, hc⟩ := h (n, k) List.mem_cons_self (by simpa using hk)
      have e : cellOf env n = pure c := by unfold cellOf; rw [hc]
      rw [e]
      have e2 : (env.cells.lookup n).getD 0 = c := by rw [hc]; rfl
      rw [e2]
      exact ih _
    · rw [if_neg hk, if_neg hk]
      exact ih _
theorem closure_ok {scope : Scope} {env : Env} (h : ∀ y ∈ scope.names, y.2 = .free → ∃ c, env.cells.lookup y.1 = some c) : closureFor scope env = pure (cloFrom env.cells scope.names []) := by
  simp only [closureFor]
  rw [closure_loop env _ (fun n k c => rfl) scope.names [] h]
  rfl

theorem mem_lookup {α : Type} : ∀ {l : List (Str × α)} {n : Str} {c : α}, (n, c) ∈ l → ∃ c', l.lookup n = some c'
  | (k, v) :: r, n, c, h => by
    rw [List.lookup_cons]
    cases hb : n == k with
    | true => exact ⟨_, rfl⟩
    | false =>
      rcases List.mem_cons.mp h with e | h
      · cases e; simp at hb
      · exact mem_lookup h

theorem cloFrom_mem {cells : List (Str × Addr)} : ∀ {names : List (Str × NameKind)} {acc : List (Str × Addr)} {n : Str} {c : Addr}, (n, c) ∈ cloFrom cells names acc → (n, c) ∈ acc ∨ ((n, .free) ∈ names ∧ c = (cells.lookup n).getD 0)
  | [], _, _, _, h => .inl h
  | (m, k) :: r, acc, n, c, h => by
    unfold cloFrom at h
    split at h
    · rename_i hk
      have hk : k = .free := by simpa using hk
      rcases cloFrom_mem h with h | ⟨h1, h2⟩
      · rcases List.mem_cons.mp h with e | h
        · cases e; exact .inr ⟨hk ▸ List.mem_cons_self, rfl⟩
        · exact .inl h
      · exact .inr ⟨List.mem_cons_of_mem _ h1, h2⟩
    · rcases cloFrom_mem h with h | ⟨h1, h2⟩
      · exact .inl h
      · exact .inr ⟨List.mem_cons_of_mem _ h1, h2⟩
theorem cloFrom_acc {cells : List (Str × Addr)} : ∀ {names : List (Str × NameKind)} {acc : List (Str × Addr)} {p : Str × Addr}, p ∈ acc → p ∈ cloFrom cells names acc
  | [], _, _, h => h
  | (m, k) :: r, acc, p, h => by
    unfold cloFrom
    split
    · exact cloFrom_acc (List.mem_cons_of_mem _ h)
    · exact cloFrom_acc h
theorem cloFrom_has {cells : List (Str × Addr)} : ∀ {names : List (Str × NameKind)} {acc : List (Str × Addr)} {n : Str}, (n, .free) ∈ names → (n, (cells.lookup n).getD 0) ∈ cloFrom cells names acc
  | (m, k) :: r, acc, n, h => by
    unfold cloFrom
    rcases List.mem_cons.mp h with e | h
    · cases e
      exact cloFrom_acc List.mem_cons_self
    · split
      · exact cloFrom_has h
      · exact cloFrom_has h

theorem cells_mem : ∀ {names : List (Str × NameKind)} {h : Heap} {acc : List (Str × Addr)} {x : Str} {c : Addr}, (x, c) ∈ cellsFrom h.objs.size names acc →
    (x, c) ∈ acc ∨ ((x, .cell) ∈ names ∧ h.objs.size ≤ c ∧ CellAt (pushCells h names) c none)
  | [], _, _, _, _, h => .inl h
  | (n, k) :: r, h, acc, x, c, hm => by
    unfold cellsFrom at hm
    unfold pushCells
    split at hm
    · rename_i hk
      rw [if_pos hk]
      have hk : k = .cell := by simpa using hk
      rw [← Heap.size_push h { cls := .type "cell", data := .cell none }] at hm
      rcases cells_mem hm with hm | ⟨h1, h2, h3⟩
      · rcases List.mem_cons.mp hm with e | hm
        · cases e
          exact .inr ⟨hk ▸ List.mem_cons_self, Nat.le_refl _, _, pushCells_keeps r _ _ _ (Heap.get?_push_size _ rfl), rfl⟩
        · exact .inl hm
      · rw [Heap.size_push] at h2
        exact .inr ⟨List.mem_cons_of_mem _ h1, Nat.le_of_succ_le h2, h3⟩
    · rename_i hk
      rw [if_neg hk]
      rcases cells_mem hm with hm | ⟨h1, h2, h3⟩
      · exact .inl hm
      · exact .inr ⟨List.mem_cons_of_mem _ h1, h2, h3⟩
theorem cells_acc : ∀ {names : List (Str × NameKind)} {n : Nat} {acc : List (Str × Addr)} {p : Str × Addr}, p ∈ acc → p ∈ cellsFrom n names acc
  | [], _, _, _, h => h
  | (m, k) :: r, n, acc, p, h => by
    unfold cellsFrom
    split
    · exact cells_acc (List.mem_cons_of_mem _ h)
    · exact cells_acc h
theorem cells_has : ∀ {names : List (Str × NameKind)} {n : Nat} {acc : List (Str × Addr)} {x : Str}, (x, .cell) ∈ names → ∃ c, (x, c) ∈ cellsFrom n names acc
  | (m, k) :: r, n, acc, x, h => by
    unfold cellsFrom
    rcases List.mem_cons.mp h with e | h
    · cases e
      exact ⟨n, cells_acc List.mem_cons_self⟩
    · split
      · exact cells_has h
      · exact cells_has h
theorem cells_inj : ∀ {names : List (Str × NameKind)} {h : Heap} {acc : List (Str × Addr)} {x y : Str} {c : Addr}, (∀ p ∈ acc, p.2 < h.objs.size) → (∀ x y c, (x, c) ∈ acc → (y, c) ∈ acc → x = y) →
    (x, c) ∈ cellsFrom h.objs.size names acc → (y, c) ∈ cellsFrom h.objs.size names acc → x = y
  | [], _, _, _, _, _, _, hi, h1, h2 => hi _ _ _ h1 h2
  | (n, k) :: r, h, acc, x, y, c, hl, hi, h1, h2 => by
    unfold cellsFrom at h1 h2
    split at h1
    · rename_i hk
      rw [if_pos hk] at h2
      rw [← Heap.size_push h { cls := .type "cell", data := .cell none }] at h1 h2
      refine cells_inj (h := h.push _) (fun p hp => ?_) (fun x y c a b => ?_) h1 h2
      · rw [Heap.size_push]
        rcases List.mem_cons.mp hp with rfl | hp
        · exact Nat.lt_succ_self _
        · exact Nat.lt_succ_of_lt (hl p hp)
      · rcases List.mem_cons.mp a with e | a <;> rcases List.mem_cons.mp b with e' | b
        · cases e; cases e'; rfl
        · cases e; exact absurd (hl _ b) (Nat.lt_irrefl _)
        · cases e'; exact absurd (hl _ a) (Nat.lt_irrefl _)
        · exact hi _ _ _ a b
    · rename_i hk
      rw [if_neg hk] at h2
      exact cells_inj hl hi h1 h2

theorem newEnv_comp {M : Model} {A : Around} {E : Value → Shared → Prop} {s : Shared} {scope : Scope} {globals : Addr} {closure : List (Str × Addr)} {qual : Str} {func : Option Addr} {code : Value} {around : Env} {builtins : Addr} {Q : Env → Shared → Prop}
    (h : Q (newEnv scope s.heap.objs.size globals (cellsFrom (s.heap.objs.size + 1) scope.names closure) qual func code (some around) builtins)
      { s with heap := pushCells (s.heap.push { cls := .type "dict", data := .dict #[] }) scope.names }) :
    wpAny M A (newFunctionEnv scope globals closure [] qual func code (some around) builtins) Q E s := by
  simp only [newFunctionEnv, Option.isSome_some, if_true]
  refine wpAny_bind (wpAny_alloc ?_)
  refine wpAny_bind (wpAny_layCells _ (fun n k c => rfl) scope.names closure _ _ ?_)
  rw [show ({ s with heap := s.heap.push { cls := .type "dict", data := .dict #[] } } : Shared).heap.objs.size = s.heap.objs.size + 1 from Heap.size_push ..]
  rw [List.forIn_nil]
  exact wpAny_bind (wpAny_pure (wpAny_pure h))

/-- every name of the written scope, in the scope that runs -/
theorem lookup_relS {sc : Scope} : ∀ {names : List (Str × NameKind)} {x : Str} {k : NameKind},
    (names.map fun (n, k) => if (k == NameKind.free && sc.kind == .function && sc.names.lookup n == some .cell) then (n, NameKind.cell) else (n, k)).lookup x = some k →
    ∃ k', names.lookup x = some k' ∧ (k = k' ∨ (k' = .free ∧ k = .cell))
  | [], _, _, h => by simp at h
  | (n, k₀) :: r, x, k, h => by
    have ih := @lookup_relS sc r x k
    have h' : List.lookup x ((if (k₀ == NameKind.free && sc.kind == .function && sc.names.lookup n == some .cell) = true then (n, NameKind.cell) else (n, k₀)) :: (r.map _)) = some k := h
    cases hx : x == n with
    | true =>
      simp only [List.lookup_cons, hx]
      by_cases hc : (k₀ == NameKind.free && sc.kind == .function && sc.names.lookup n == some .cell) = true
      · rw [if_pos hc] at h'
        simp only [List.lookup_cons, hx] at h'
        cases h'
        simp only [Bool.and_eq_true, beq_iff_eq] at hc
        exact ⟨k₀, rfl, .inr ⟨hc.1.1, rfl⟩⟩
      · rw [if_neg hc] at h'
        simp only [List.lookup_cons, hx] at h'
        cases h'
        exact ⟨_, rfl, .inl rfl⟩
    | false =>
      simp only [List.lookup_cons, hx]
      by_cases hc : (k₀ == NameKind.free && sc.kind == .function && sc.names.lookup n == some .cell) = true
      · rw [if_pos hc] at h'
        simp only [List.lookup_cons, hx] at h'
        exact ih h'
      · rw [if_neg hc] at h'
        simp only [List.lookup_cons, hx] at h'
        exact ih h'
/-- the names of a comprehension's block: its own (with their places in N), or captured -/
structure BlkOk (N : List Str) (sc scope : Scope) (own : List (Str × Nat)) : Prop where
  kind : scope.kind = .function
  uniq : ∀ y ∈ scope.names, scope.names.lookup y.1 = some y.2
  ix : ∀ p ∈ own, N[p.2]? = some p.1
  free : ∀ y ∈ scope.names, y.2 = .free → sc.names.lookup y.1 = some .cell ∨ sc.names.lookup y.1 = some .free
  own : ∀ y ∈ scope.names, y.2 = .local ∨ y.2 = .cell → y.1 ∈ own.map (·.1) ∨ y.1 ∉ N
/-- the slots of the block's own names forgotten -/
def wipe (σ : St) : List Nat → St
  | [] => σ
  | v :: vs => (wipe σ vs).set v none
theorem wipe_length (σ : St) : ∀ vs : List Nat, (wipe σ vs).length = σ.length
  | [] => rfl
  | v :: vs => by unfold wipe; rw [List.length_set, wipe_length σ vs]
theorem wipe_some {σ : St} {i : Nat} {x : V} : ∀ {vs : List Nat}, (wipe σ vs)[i]? = some (some x) → σ[i]? = some (some x) ∧ i ∉ vs
  | [], h => ⟨h, by simp⟩
  | v :: vs, h => by
    unfold wipe at h
    by_cases hi : v = i
    · subst hi
      by_cases hv : v < (wipe σ vs).length
      · rw [List.getElem?_set_self hv] at h; cases h
      · rw [List.getElem?_eq_none (by simpa using hv)] at h; cases h
    · rw [List.getElem?_set_ne hi] at h
      obtain ⟨h1, h2⟩ := wipe_some h
      exact ⟨h1, by simp only [List.mem_cons, not_or]; exact ⟨fun e => hi e.symm, h2⟩⟩

/-- the context of a block that starts at s, its iterator's objects at fp -/
abbrev Cx.blk (X : Cx) (s : Shared) (H : Hp) (scope : Scope) (cenv : Env) (fp : List Addr) : Cx := { X with s_0 := s, H_0 := H, env := cenv, outer := X.stack, ex := fp, fn := fun x => scope.names.lookup x == some .cell, pn := [], xe := fun _ _ => False }
section
variable {X : Cx} {pins : List (Addr × Obj)} {σ : St} {H : Hp} {s : Shared}
theorem block_start {scope : Scope} {own : List (Str × Nat)} {fp : List Addr} (I : Inv X pins σ H s) (ok : BlkOk X.N X.env.scope scope own) (hN : X.N.Nodup) (hfp : ∀ b ∈ fp, FpOk X pins H b ∧ b < s.heap.objs.size) :
    Inv (X.blk s H scope (compEnvC scope (cellsFrom (s.heap.objs.size + 1) scope.names (cloFrom X.env.cells scope.names [])) s.heap.objs.size X.env) fp) [] (wipe σ (own.map (·.2))) H { s with heap := pushCells (s.heap.push { cls := .type "dict", data := .dict #[] }) scope.names } := by
  have hfree : ∀ y ∈ scope.names, y.2 = .free → ∃ c, X.env.cells.lookup y.1 = some c := fun y hy e => by
    rcases ok.free y hy e with k | k
    · exact I.ok.has _ (.inl k)
    · exact I.ok.has _ (.inr k)
  generalize hcenv : compEnvC scope (cellsFrom (s.heap.objs.size + 1) scope.names (cloFrom X.env.cells scope.names [])) s.heap.objs.size X.env = cenv
  have kp : ∀ b o, s.heap.get? b = some o → (pushCells (s.heap.push { cls := .type "dict", data := .dict #[] }) scope.names).get? b = some o := fun b o e => pushCells_keeps _ _ _ _ (Heap.get?_push_of_some _ e)
  have hL : cenv.locals = s.heap.objs.size := by rw [← hcenv]; rfl
  have hcl : cenv.cells = cellsFrom (s.heap.objs.size + 1) scope.names (cloFrom X.env.cells scope.names []) := by rw [← hcenv]; rfl
  have hsc : cenv.scope = relS scope X.env.scope := by rw [← hcenv]; rfl
  rw [← Heap.size_push s.heap { cls := .type "dict", data := .dict #[] }] at hcl
  have cm : ∀ {y c}, (y, c) ∈ cloFrom X.env.cells scope.names [] → X.env.cells.lookup y = some c ∧ c < s.heap.objs.size := fun {y c} hm => by
    rcases cloFrom_mem hm with hm | ⟨h1, rfl⟩
    · cases hm
    · obtain ⟨c, hc⟩ := hfree _ h1 rfl
      rw [hc]
      obtain ⟨w, z⟩ := I.cell _ _ hc
      exact ⟨rfl, z.lt⟩
  have mem : ∀ {y c}, cenv.cells.lookup y = some c → (X.env.cells.lookup y = some c ∧ c < s.heap.objs.size) ∨ (s.heap.objs.size + 1 ≤ c ∧ CellAt (pushCells (s.heap.push { cls := .type "dict", data := .dict #[] }) scope.names) c none) := fun {y c} e => by
    rw [hcl] at e
    rcases cells_mem (PySem.mem_of_lookup e) with hm | ⟨_, h2, h3⟩
    · exact .inl (cm hm)
    · rw [Heap.size_push] at h2; exact .inr ⟨h2, h3⟩
  have look : ∀ {y}, scope.names.lookup y = some .free → ∃ c, cenv.cells.lookup y = some c ∧ X.env.cells.lookup y = some c := fun {y} hl => by
    have hy : (y, NameKind.free) ∈ scope.names := PySem.mem_of_lookup hl
    obtain ⟨c', e'⟩ := mem_lookup (cells_acc (names := scope.names) (n := (s.heap.push { cls := .type "dict", data := .dict #[] }).objs.size) (cloFrom_has (cells := X.env.cells) (acc := []) hy))
    rw [← hcl] at e'
    refine ⟨c', e', ?_⟩
    rw [hcl] at e'
    rcases cells_mem (PySem.mem_of_lookup e') with hm | ⟨h1, _, _⟩
    · exact (cm hm).1
    · have := ok.uniq _ h1
      rw [hl] at this; cases this
  have okB : (X.blk s H scope cenv fp).Ok := by
    refine ⟨I.ok.mod, by show cenv.scope.kind = _; rw [hsc]; exact ok.kind, by show cenv.globals = _; rw [← hcenv]; exact I.ok.glob, by show cenv.builtins = _; rw [← hcenv]; exact I.ok.blt, by show s.heap.objs.size ≤ cenv.locals; rw [hL]; exact Nat.le_refl _,
      fun y z c e1 e2 => ?_, fun y hy => ?_, fun y c z e => ?_, I.ok.hd, I.ok.frames, .inl rfl, fun b hb => ⟨?_, fun y c e z => ?_⟩, I.bs, Nat.le_trans I.ok.bsz I.sz, fun b o e hb => ?_, fun b hb z => ?_, I.stack, I.stkFree⟩
    · have e1 : cenv.cells.lookup y = some c := e1
      have e2 : cenv.cells.lookup z = some c := e2
      rw [hcl] at e1 e2
      refine cells_inj (fun p hp => ?_) (fun y z c a b => I.ok.inj y z c (cm a).1 (cm b).1) (PySem.mem_of_lookup e1) (PySem.mem_of_lookup e2)
      rw [Heap.size_push]
      exact Nat.lt_succ_of_lt (cm (y := p.1) (c := p.2) hp).2
    · show ∃ c, cenv.cells.lookup y = some c
      have key : ∀ k, cenv.kindOf y = some k → (k = .cell ∨ k = .free) → ∃ c, cenv.cells.lookup y = some c := fun k hk hk' => by
        unfold Env.kindOf at hk
        rw [hsc] at hk
        obtain ⟨k', e, r⟩ := lookup_relS hk
        have : k' = .cell ∨ k' = .free := by
          rcases r with rfl | ⟨rfl, _⟩
          · exact hk'
          · exact .inr rfl
        rcases this with rfl | rfl
        · obtain ⟨c, hm⟩ := cells_has (n := (s.heap.push { cls := .type "dict", data := .dict #[] }).objs.size) (acc := cloFrom X.env.cells scope.names []) (PySem.mem_of_lookup e)
          obtain ⟨c', e'⟩ := mem_lookup hm
          exact ⟨c', by rw [hcl]; exact e'⟩
        · obtain ⟨c, h1, _⟩ := look e
          exact ⟨c, h1⟩
      rcases hy with hy | hy
      · exact key _ hy (.inl rfl)
      · exact key _ hy (.inr rfl)
    · have z : (scope.names.lookup y == some NameKind.cell) = true := z
      have z : scope.names.lookup y = some .cell := by simpa using z
      have e : cenv.cells.lookup y = some c := e
      rw [hcl] at e
      rcases cells_mem (PySem.mem_of_lookup e) with hm | ⟨_, h2, _⟩
      · rcases cloFrom_mem hm with hm | ⟨h1, _⟩
        · cases hm
        · have q := ok.uniq _ h1
          rw [z] at q; cases q
      · rw [Heap.size_push] at h2
        exact Nat.le_of_succ_le h2
    · show b ≠ cenv.locals
      rw [hL]; exact Nat.ne_of_lt (hfp b hb).2
    · have e : cenv.cells.lookup y = some c := e
      rcases mem e with ⟨h1, _⟩ | ⟨h1, _⟩
      · exact (hfp b hb).1.2.2.2.2.1 y c h1 z
      · have h2 : s.heap.objs.size + 1 ≤ b := by rw [← z]; exact h1
        exact absurd (Nat.lt_of_lt_of_le (hfp b hb).2 (Nat.le_of_succ_le h2)) (Nat.lt_irrefl _)
    · rcases (hfp b hb).1.2.2.2.1 with z | z
      · exact I.ok.noex b o e z
      · exact absurd (Nat.lt_of_lt_of_le (Heap.lt_size e) (Nat.le_trans I.ok.bsz z)) (Nat.lt_irrefl _)
    · rcases List.mem_cons.mp (I.stkSub b z) with z | z
      · exact (hfp b hb).1.2.1 z
      · exact (hfp b hb).1.2.2.1 z
  refine ⟨okB, rfl, I.bare, Un.kept kp, ⟨fun _ => none, ?_, fun i y av e1 e2 e3 => ?_⟩, fun y c e => ?_, ?_, fun y c e => ?_, fun p hp => ?_, I.hok.kept kp, by rw [wipe_length]; exact I.len⟩
  · show Heap.Ns _ cenv.locals _
    rw [hL]
    exact Heap.Ns.keeps (Heap.Ns.new ..) fun b o e => pushCells_keeps _ _ _ _ e
  · obtain ⟨e2, hne⟩ := wipe_some e2
    have hfr : scope.names.lookup y = some .free ∧ (cenv.kindOf y = some .cell ∨ cenv.kindOf y = some .free) := by
      have key : ∀ k, cenv.scope.names.lookup y = some k → k = .local ∨ k = .cell ∨ k = .free → scope.names.lookup y = some .free ∧ (cenv.kindOf y = some .cell ∨ cenv.kindOf y = some .free) := fun k hk hk' => by
        have hk0 := hk
        rw [hsc] at hk
        obtain ⟨k', e, r⟩ := lookup_relS hk
        have no : ¬ (k' = .local ∨ k' = .cell) := fun hh => by
          rcases ok.own _ (PySem.mem_of_lookup e) hh with e' | e'
          · obtain ⟨p, hp, hpy⟩ := List.mem_map.mp e'
            have e3 := ok.ix p hp
            have : p.1 = y := hpy
            rw [this] at e3
            exact hne (List.mem_map.mpr ⟨p, hp, nodup_ix hN e3 e1⟩)
          · exact e' (List.mem_of_getElem? e1)
        rcases r with rfl | ⟨rfl, rfl⟩
        · rcases hk' with rfl | rfl | rfl
          · exact absurd (.inl rfl) no
          · exact absurd (.inr rfl) no
          · exact ⟨e, .inr hk0⟩
        · exact ⟨e, .inl hk0⟩
      have e3 : Vis cenv.scope y := e3
      rcases e3 with e3 | e3 | e3
      · exact key _ e3 (.inl rfl)
      · exact key _ e3 (.inr (.inl rfl))
      · exact key _ e3 (.inr (.inr rfl))
    obtain ⟨m, hn, hl⟩ := I.loc
    have hvis : Vis X.env.scope y := (ok.free _ (PySem.mem_of_lookup hfr.1) rfl).elim (fun k => .inr (.inl k)) (fun k => .inr (.inr k))
    obtain ⟨w, r, q⟩ := hl i y av e1 e2 hvis
    refine ⟨w, r, .inr ⟨hfr.2, ?_⟩⟩
    obtain ⟨c, h1, h2⟩ := look hfr.1
    rcases q with ⟨k, _⟩ | ⟨_, c', e', z⟩
    · have k : X.env.scope.names.lookup y = some .local := k
      rcases ok.free _ (PySem.mem_of_lookup hfr.1) rfl with k' | k' <;> rw [show X.env.scope.names.lookup y = _ from k'] at k <;> cases k
    · rw [h2] at e'; cases e'
      exact ⟨c, h1, z.keeps kp⟩
  · have e : cenv.cells.lookup y = some c := e
    rcases mem e with ⟨h1, _⟩ | ⟨_, z⟩
    · obtain ⟨w, z⟩ := I.cell y c h1
      exact ⟨w, z.keeps kp⟩
    · exact ⟨_, z⟩
  · show H cenv.locals = none
    rw [hL]; exact I.hok.fresh (Nat.le_refl _)
  · have e : cenv.cells.lookup y = some c := e
    rcases mem e with ⟨h1, _⟩ | ⟨h1, _⟩
    · exact I.freeC y c h1
    · exact I.hok.fresh (Nat.le_of_succ_le h1)
  · exact absurd (show p ∈ ([] : List (Addr × Obj)) ++ [] from hp) (by simp)

/-- an item appended to a tracked list -/
theorem app_ok {E : Value → Shared → Prop} {D : Addr} {xs : List V} {y : V} {v : Value} {Q : Value → Shared → Prop} (I : Inv X pins σ H s) (hD : H D = some (.lst xs)) (hz : xs.length < sizeLine) (r : RelV y v)
    (h : ∀ s', Inv X pins σ (upd H D (.lst (xs ++ [y]))) s' → Q .none s') : wpAny (model X.prog X.w) X.A (call (.builtin "list.append") [.ref D, v]) Q E s := by
  obtain ⟨hz', its, n, ri, e⟩ := I.hok D _ hD
  have hl := ri.length
  refine append_at (hsz := by rw [List.size_toArray]; omega) e fun h' sb ho' => ?_
  refine h { s with heap := h' } (I.write (t' := s.toks) (by rw [hD]; trivial) (.inl rfl) (fun b u hb q => (sb.2 b hb).trans q) ⟨_, ho'⟩ ⟨by rw [List.length_append]; exact hz, its ++ [v], n + 1, ri.append (.cons r .nil), ?_⟩)
  rw [ho']
  simp

/-- a clause's tests -/
def PTs (X : Cx) (ifs : List Expr) (t : TT) : Prop :=
  ∀ (pins : List (Addr × Obj)) (s : Shared) (σ : St) (H : Hp) (Q : Bool → Hp → Prop), Inv X pins σ H s → t σ H Q →
    wpAny (model X.prog X.w) X.A (forIn ifs true fun c r => if r = true then do let ok ← isTrue c X.env (eval c X.env); pure (ForInStep.yield ok) else pure (ForInStep.yield r)) (TP X pins σ Q) X.xe s
def tYes : TT := fun _ H Q => Q true H
theorem pts_nil : PTs X [] tYes := fun _ _ _ H _ I h => wpAny_tests_nil ⟨H, I, h⟩
theorem pts_one {c : Expr} {t : TT} (h : PT X c t) : PTs X [c] t := fun pins s σ H Q I hw => wpAny_tests_one (h pins s σ H Q I hw)
end

theorem thnF {α : Type} {t : Sem α} {Q Q' : α → Shared → Prop} {M : Model} {A : Around} {E : Value → Shared → Prop} {s : Shared} (h : wpAny M A t Q (fun _ _ => False) s) (hQ : ∀ a s, Q a s → Q' a s) : wpAny M A t Q' E s := wpAny_mono h hQ fun _ _ z => False.elim z

/-- the loop of a list comprehension's block, the target of any form (codeAny_compLoop_tests asks a target that no tuple goes to; statement and proof follow it, PyProof/CompMap.lean:41-61, with the step letOwnedTupleGo kept) -/
theorem compLoop_any {prog : Program} {w : World} {A : Around} {R : Result → Shared → Prop} {s : Shared} {elt target iter : Expr} {ifs : List Expr} {scope : Scope} {pos : Pos} {it acc : Value} {env : Env} (I : Nat → Shared → Prop)
    (turn : ∀ n s, I n s → wpAny (model prog w) A (pyNext it) (fun r s₁ => match r with
      | none => R (.ok .next) s₁
      | some v => wpAny (model prog w) A (letOwnedTupleGo target it v) (fun _ s₁' => wpAny (model prog w) A (assign target env v) (fun _ s₂ =>
          wpAny (model prog w) A (forIn ifs true fun c r => if r = true then do let ok ← isTrue c env (eval c env); pure (ForInStep.yield ok) else pure (ForInStep.yield r)) (fun ok s₃ =>
            if ok = true then wpAny (model prog w) A (eval elt env) (fun x s₄ =>
              wpAny (model prog w) A (call (.builtin "list.append") [acc, x]) (fun _ s₅ => ∃ m, m < n ∧ I m s₅) (notedBy (model prog w) A env fun e s' => R (.error e) s') s₄) (notedBy (model prog w) A env fun e s' => R (.error e) s') s₃
            else ∃ m, m < n ∧ I m s₃) (notedBy (model prog w) A env fun e s' => R (.error e) s') s₂) (notedBy (model prog w) A env fun e s' => R (.error e) s') s₁') (notedBy (model prog w) A env fun e s' => R (.error e) s') s₁) (notedBy (model prog w) A env fun e s' => R (.error e) s') s)
    (n : Nat) (h : I n s) :
    codeAny (model prog w) A (.compLoop (.ListComp elt [⟨target, iter, ifs, 0⟩] scope pos) 0 it acc env) R s := by
  refine codeAny_loop rfl I (fun n s hI => ?_) n h
  show wpAny _ A ((compTurn (.ListComp elt [⟨target, iter, ifs, 0⟩] scope pos) 0 it acc env).onRaise (fun x => do noteFrame x env; theTreesLotGoes x)) _ _ s
  refine wpAny_noted ?_
  rw [compTurn_list]
  refine wpAny_bind (wpAny_standAt (wpAny_bind (wpAny_mono (turn n s hI) (fun r s₁ h₁ => ?_) fun _ _ h' => h')))
  cases r with
  | none => exact wpAny_pure h₁
  | some v =>
    refine wpAny_bind (wpAny_mono h₁ (fun _ s₁' h₁' => ?_) fun _ _ h' => h')
    refine wpAny_bind (wpAny_mono h₁' (fun _ s₂ h₂ => wpAny_bind (wpAny_mono h₂ (fun ok s₃ h₃ => ?_) fun _ _ h' => h')) fun _ _ h' => h')
    cases ok with
    | false => exact wpAny_pure ⟨rfl, h₃⟩
    | true =>
      exact wpAny_bind (wpAny_bind (wpAny_mono h₃ (fun x s₄ h₄ => wpAny_bind (wpAny_mono h₄ (fun _ s₅ h₅ => wpAny_pure (wpAny_pure ⟨rfl, h₅⟩)) fun _ _ h' => h')) fun _ _ h' => h'))

section
variable {X : Cx}
/-- [elt for target in iter if ..]: D the new list; W by the turn and a measure, Nx what a turn is to reach -/
def tLc (wi : TI) (g : TG) (tt : TT) (te : TE) (vs : List Nat) : TE := fun σ H Q => wi σ H fun J H1 => ∀ D, H1 D = none → ∃ W : Nat → Nat → Hp → Prop, (∃ m, W 0 m (upd H1 D (.lst []))) ∧ ∀ i m H, W i m H →
  (J.stop i H ∧ Q (.ref D) H) ∨ (J.go i H ∧ ∃ Nx : Hp → Prop, (∀ H', Nx H' → ∃ m', m' < m ∧ W (i + 1) m' H') ∧ ∀ x H', J.yld i H x H' → g x (wipe σ vs) H' fun σ2 H2 => wipe σ2 vs = wipe σ vs ∧ tt σ2 H2 fun b H3 =>
    if b = true then te σ2 H3 fun y H4 => ∃ acc, H4 D = some (.lst acc) ∧ acc.length < sizeLine ∧ Nx (upd H4 D (.lst (acc ++ [y]))) else Nx H3)
theorem lc_core {pins : List (Addr × Obj)} {s : Shared} {σ : St} {H : Hp} {Q : VK} {elt tg iter : Expr} {ifs : List Expr} {scope : Scope} {own : List (Str × Nat)} {pos pos' : Pos} {wi : TI} {g : TG} {tt : TT} {te : TE} {use : Option (Value → Sem Unit)} {Qf : Value → Shared → Prop}
    (hc : X.calm = true) (hN : X.N.Nodup) (I : Inv X pins σ H s) (hi : PI X tg iter wi) (ok : BlkOk X.N X.env.scope scope own)
    (hg : ∀ (s : Shared) (H : Hp) (C : Addr) (cl : List (Str × Addr)) (fp : List Addr), PG (X.blk s H scope (compEnvC scope cl C X.env) fp) tg g) (ht : ∀ (s : Shared) (H : Hp) (C : Addr) (cl : List (Str × Addr)) (fp : List Addr), PTs (X.blk s H scope (compEnvC scope cl C X.env) fp) ifs tt)
    (he : ∀ (s : Shared) (H : Hp) (C : Addr) (cl : List (Str × Addr)) (fp : List Addr), PE (X.blk s H scope (compEnvC scope cl C X.env) fp) elt te) (hs : ∀ x, foldedSetIterable iter X.env x = pure x)
    (h : tLc wi g tt te (own.map (·.2)) σ H Q)
    (hRR : ∀ D C s' m H', Inv X pins σ H' s' → Q (.ref D) H' → s'.heap.Ns C m → FpOk X pins H' C → compPost (model X.prog X.w) X.A X.xe use Qf (.ref D) C (.ok .next) s') :
    wpAny (model X.prog X.w) X.A (comprehension (.ListComp elt [⟨tg, iter, ifs, 0⟩] scope pos) scope X.env pos' (newList []) false (eval iter X.env) use) Qf X.xe s := by
  have hfree : ∀ y ∈ scope.names, y.2 = .free → ∃ c, X.env.cells.lookup y.1 = some c := fun y hy e => by
    rcases ok.free y hy e with k | k
    · exact I.ok.has _ (.inl k)
    · exact I.ok.has _ (.inr k)
  refine wpAny_comprehension_free (use := use) rfl hs (closure_ok hfree) ok.kind (fun y hy e => by rw [ok.uniq y hy, e])
    (thn (hi pins s σ H _ I h) fun xv s1 hx => thn hx fun itv s2 h2 => ?_)
  obtain ⟨it, fp, tn, J, H2, e, I2, T, st2, f2, q⟩ := h2
  subst e
  refine wpAny_newObj_type (newEnv_comp ?_) (by show 0 ≤ sizeLine; decide)
  generalize hD : s2.heap.objs.size = D
  have hDn : H2 D = none := I2.hok.fresh (Nat.le_of_eq hD)
  obtain ⟨W, ⟨m0, w0⟩, turn⟩ := q D hDn
  -- the new list
  generalize hs3 : ({ s2 with heap := s2.heap.push { cls := .type "list", data := .seq ([] : List Value).toArray } } : Shared) = s3
  have I3 : Inv X pins σ (upd H2 D (.lst [])) s3 := by
    rw [← hs3]
    refine I2.laid (t' := s2.toks) (fun b o e => Heap.get?_push_of_some _ e) (Nat.le_of_eq hD) ⟨Nat.zero_le _, [], 0, .nil, ?_⟩
    rw [← hD]
    exact Heap.get?_push_size _ rfl
  have h3 : s3.heap = s2.heap.push { cls := .type "list", data := .seq ([] : List Value).toArray } := by rw [← hs3]
  have sz : ∀ b ∈ fp, b < s2.heap.objs.size := fun b hb => by
    obtain ⟨o, e, _⟩ := T.obj _ _ st2 b hb
    exact Heap.lt_size e
  have f3 : ∀ b ∈ fp, FpOk X pins (upd H2 D (.lst [])) b ∧ b < s3.heap.objs.size := fun b hb => by
    have hlt := sz b hb
    refine ⟨⟨?_, (f2 b hb).2⟩, by rw [h3, Heap.size_push]; exact Nat.lt_succ_of_lt hlt⟩
    rw [upd_ne (by rw [← hD]; exact Nat.ne_of_lt hlt)]
    exact (f2 b hb).1
  have st3 : tn 0 s3.heap := T.keep _ _ _ st2 fun b _ o e => by rw [h3]; exact Heap.get?_push_of_some _ e
  have I4 := block_start I3 ok hN f3
  have pg := hg s3 (upd H2 D (.lst [])) s3.heap.objs.size (cellsFrom (s3.heap.objs.size + 1) scope.names (cloFrom X.env.cells scope.names [])) fp
  have pt := ht s3 (upd H2 D (.lst [])) s3.heap.objs.size (cellsFrom (s3.heap.objs.size + 1) scope.names (cloFrom X.env.cells scope.names [])) fp
  have pe := he s3 (upd H2 D (.lst [])) s3.heap.objs.size (cellsFrom (s3.heap.objs.size + 1) scope.names (cloFrom X.env.cells scope.names [])) fp
  show codeAny _ _ (.compStart (.ListComp elt [⟨tg, iter, ifs, 0⟩] scope pos) 0 (.ref it) (.ref D) (compEnvC scope (cellsFrom (s3.heap.objs.size + 1) scope.names (cloFrom X.env.cells scope.names [])) s3.heap.objs.size X.env)) (compPost (model X.prog X.w) X.A X.xe use Qf (.ref D) s3.heap.objs.size) { s3 with heap := pushCells (s3.heap.push { cls := .type "dict", data := .dict #[] }) scope.names }
  have nfp : ∀ b ∈ fp, (upd H2 D (.lst [])) b = none := fun b hb => (f3 b hb).1.1
  generalize hce : compEnvC scope (cellsFrom (s3.heap.objs.size + 1) scope.names (cloFrom X.env.cells scope.names [])) s3.heap.objs.size X.env = ce at I4 pg pt pe ⊢
  have cL : ce.locals = s3.heap.objs.size := by subst hce; rfl
  generalize hH3 : upd H2 D (.lst []) = H3 at I3 I4 pg pt pe w0 nfp f3
  generalize hs4 : ({ s3 with heap := pushCells (s3.heap.push { cls := .type "dict", data := .dict #[] }) scope.names } : Shared) = s4 at I4 ⊢
  have st4 : tn 0 s4.heap := T.keep _ _ _ st3 fun b _ o e => by rw [← hs4]; exact pushCells_keeps _ _ _ _ (Heap.get?_push_of_some _ e)
  have stat : ∀ {σ' : St} {H' : Hp} {s' : Shared}, Inv (X.blk s3 H3 scope ce fp) [] σ' H' s' → (∀ b ∈ fp, H' b = none) → ∀ b ∈ fp, FpOk (X.blk s3 H3 scope ce fp) [] H' b := fun {σ' H' s'} I' hn b hb =>
    ⟨hn b hb, (I'.ok.exf b hb).1, I'.ok.exfs b hb, .inl hb, fun x c e => (I'.ok.exf b hb).2 x c e, fun p hp => absurd (show p ∈ ([] : List (Addr × Obj)) ++ [] from hp) (by simp)⟩
  have loop : codeAny (model X.prog X.w) X.A (.compLoop (.ListComp elt [⟨tg, iter, ifs, 0⟩] scope pos) 0 (.ref it) (.ref D) ce) (compPost (model X.prog X.w) X.A X.xe use Qf (.ref D) s3.heap.objs.size) s4 := by
    refine compLoop_any (fun n s' => ∃ i H', Inv (X.blk s3 H3 scope ce fp) [] (wipe σ (own.map (·.2))) H' s' ∧ tn i s'.heap ∧ (∀ b ∈ fp, H' b = none) ∧ W i n H') ?_ m0 ⟨0, H3, I4, st4, nfp, w0⟩
    rintro n s5 ⟨i, H5, I5, st5, n5, w5⟩
    rcases turn i n H5 w5 with ⟨stop, qq⟩ | ⟨go, Nx, hNx, step⟩
    · have td := T.done (X.blk s3 H3 scope ce fp) rfl rfl rfl hc i [] s5 _ H5 (fun _ _ => False) I5 (stat I5 n5) st5 stop
      refine thnF td fun r s6 ⟨hr, I6⟩ => ?_
      subst hr
      -- back in the def's context
      have I7 : Inv X pins σ H5 s6 := I3.call' (ch := fp) I6.os I6.base I6.hok I6.bare fun b hb => ⟨(f3 b hb).1.2.2.2.1, (f3 b hb).1.2.1, (f3 b hb).1.2.2.2.2.1, (f3 b hb).1.2.2.2.2.2⟩
      have nC : H5 s3.heap.objs.size = none := by
        have z : H5 ce.locals = none := I6.free
        rw [cL] at z
        exact z
      obtain ⟨m, hn, _⟩ := I6.loc
      have hn : s6.heap.Ns ce.locals m := hn
      rw [cL] at hn
      exact hRR D s3.heap.objs.size s6 m H5 I7 qq hn (I3.fpOk (Nat.le_refl _) nC)
    · have ti := T.item (X.blk s3 H3 scope ce fp) rfl rfl rfl hc i [] s5 _ H5 (fun _ _ => False) I5 (stat I5 n5) st5 go
      refine thnF ti fun r s6 ⟨u, hr, h6⟩ => ?_
      subst hr
      refine thnF h6 fun _ s7 ⟨x, H7, I7, r7, y7, st7, n7⟩ => ?_
      have I7' := I7.pinned (stat I7 n7) (T.obj _ _ st7)
      refine thnF (pg _ s7 _ H7 x u _ I7' r7 (step x H7 y7)) fun _ s8 ⟨σ8, H8, I8, hw8, q8⟩ => ?_
      refine thnF (pt _ s8 σ8 H8 _ I8 q8) fun b s9 ⟨H9, I9, q9⟩ => ?_
      -- the turn's end
      have fin : ∀ {s' : Shared} {H' : Hp}, Inv (X.blk s3 H3 scope ce fp) ([] ++ pinsAt fp s7.heap) σ8 H' s' → Nx H' → ∃ m, m < n ∧ ∃ i H', Inv (X.blk s3 H3 scope ce fp) [] (wipe σ (own.map (·.2))) H' s' ∧ tn i s'.heap ∧ (∀ b ∈ fp, H' b = none) ∧ W i m H' := fun {s' H'} I' nx => by
        obtain ⟨m', hm, w'⟩ := hNx H' nx
        have pin' : ∀ b ∈ fp, ∀ o, s7.heap.get? b = some o → s'.heap.get? b = some o ∧ H' b = none := fun b hb o e =>
          let z := I'.pin (b, o) (List.mem_append_right _ (List.mem_append_right _ (mem_pinsAt hb e)))
          ⟨z.1, z.2.1⟩
        have hl : (wipe σ (own.map (·.2))).length = σ8.length := by rw [← hw8, wipe_length]
        refine ⟨m', hm, i + 1, H', (I'.unpinned (pins := [])).weak hl (fun j v e => ?_), T.keep _ _ _ st7 fun b hb o e => (pin' b hb o e).1, fun b hb => ?_, w'⟩
        · rw [← hw8] at e
          exact (wipe_some e).1
        · obtain ⟨o, e, _⟩ := T.obj _ _ st7 b hb
          exact (pin' b hb o e).2
      cases b with
      | false =>
        simp only [Bool.false_eq_true, if_false] at q9 ⊢
        exact fin I9 q9
      | true =>
        simp only [if_true] at q9 ⊢
        refine thnF (pe _ s9 σ8 H9 _ I9 q9) fun z s10 ⟨yv, H10, I10, r10, acc, hD10, hz10, nx⟩ => ?_
        exact app_ok (X := X.blk s3 H3 scope ce fp) I10 hD10 hz10 r10 fun s11 I11 => fin I11 nx
  exact codeAny_compStart_list loop (T.self X.A 0 _ _ _ st4 loop)
/-- as a value -/
theorem pe_lc {elt tg iter : Expr} {ifs : List Expr} {scope : Scope} {own : List (Str × Nat)} {pos : Pos} {wi : TI} {g : TG} {tt : TT} {te : TE} (hc : X.calm = true) (hN : X.N.Nodup) (hi : PI X tg iter wi) (ok : BlkOk X.N X.env.scope scope own)
    (hg : ∀ (s : Shared) (H : Hp) (C : Addr) (cl : List (Str × Addr)) (fp : List Addr), PG (X.blk s H scope (compEnvC scope cl C X.env) fp) tg g) (ht : ∀ (s : Shared) (H : Hp) (C : Addr) (cl : List (Str × Addr)) (fp : List Addr), PTs (X.blk s H scope (compEnvC scope cl C X.env) fp) ifs tt)
    (he : ∀ (s : Shared) (H : Hp) (C : Addr) (cl : List (Str × Addr)) (fp : List Addr), PE (X.blk s H scope (compEnvC scope cl C X.env) fp) elt te) (hs : ∀ x, foldedSetIterable iter X.env x = pure x := by intro _; rfl) :
    PE X (.ListComp elt [⟨tg, iter, ifs, 0⟩] scope pos) (tLc wi g tt te (own.map (·.2))) := by
  intro pins s σ H Q I h
  rw [eval_ListComp]
  refine lc_core hc hN I hi ok hg ht he hs h fun D C s' m H' I' q hn f => ⟨m, hn, fun h'' sb => ?_⟩
  obtain ⟨f0, f1, f2, f3, f4, f5⟩ := f
  exact ⟨.ref D, H', I'.turned (t' := s'.toks) (fun b o hb e => (sb.2 b hb).trans e) f0 f1 f3 f4 f5, rfl, q⟩
/-- name = [..] on one line, the name a local -/
theorem ps_setLc {i : Nat} {y : Str} {py : Pos} {elt tg iter : Expr} {ifs : List Expr} {scope : Scope} {own : List (Str × Nat)} {pos spos : Pos} {wi : TI} {g : TG} {tt : TT} {te : TE} (hc : X.calm = true) (hN : X.N.Nodup) (hy : X.N[i]? = some y) (hyl : X.env.scope.names.lookup y = some .local)
    (hsw : swapsWith (.ListComp elt [⟨tg, iter, ifs, 0⟩] scope pos) (some (.Name y py)) spos.line X.env = pure true) (hi : PI X tg iter wi) (ok : BlkOk X.N X.env.scope scope own)
    (hg : ∀ (s : Shared) (H : Hp) (C : Addr) (cl : List (Str × Addr)) (fp : List Addr), PG (X.blk s H scope (compEnvC scope cl C X.env) fp) tg g) (ht : ∀ (s : Shared) (H : Hp) (C : Addr) (cl : List (Str × Addr)) (fp : List Addr), PTs (X.blk s H scope (compEnvC scope cl C X.env) fp) ifs tt)
    (he : ∀ (s : Shared) (H : Hp) (C : Addr) (cl : List (Str × Addr)) (fp : List Addr), PE (X.blk s H scope (compEnvC scope cl C X.env) fp) elt te) (hs : ∀ x, foldedSetIterable iter X.env x = pure x := by intro _; rfl) :
    PS X (.Assign [.Name y py] (.ListComp elt [⟨tg, iter, ifs, 0⟩] scope pos) spos) (tAsg (tLc wi g tt te (own.map (·.2))) (gName i)) := by
  intro pins s σ H D I h
  rw [exec_Assign_Name_used _ _ _ _ hsw]
  refine wpAny_bind (wpAny_standAt (wpAny_bind ?_))
  show wpAny _ X.A (do let _ ← comprehension (.ListComp elt [⟨tg, iter, ifs, 0⟩] scope pos) scope X.env (firstIterPos [⟨tg, iter, ifs, 0⟩] pos) (newList []) false (eval iter X.env) (some (assign (.Name y py) X.env))) _ _ s
  have h : tLc wi g tt te (own.map (·.2)) σ H (fun x H1 => gName i x σ H1 D.nx) := h
  refine wpAny_bind (thn (lc_core (Qf := fun _ s' => SP X pins D .next s') hc hN I hi ok hg ht he hs h fun L C s' m H' I' q hn f => ?_) fun _ s' hq => wpAny_pure (wpAny_pure hq))
  show wpAny _ _ (assign (.Name y py) X.env (.ref L)) _ _ _
  refine wpAny_assign_Name (store_ok2 (v := V.ref L) I' hN hy (.inl hyl) rfl (fun s2 I2 ⟨a, sb, ha⟩ => ?_) (.inr hyl))
  obtain ⟨f0, f1, f2, f3, f4, f5⟩ := f
  have haC : C ≠ a := by
    rcases ha with z | z
    · rw [z]; exact f1
    · exact fun e => f4 y a z e.symm
  refine ⟨m, hn.sameBut sb haC, fun h3 sb3 => ?_⟩
  exact ⟨_, H', I2.turned (t' := s2.toks) (fun b o hb e => (sb3.2 b hb).trans e) f0 f1 f3 f4 f5, q⟩
end

/-! ### the forms one uses -/
/-- over a list that the block leaves as it is -/
theorem lc_list {K : PySem.W.Frag} {a : Addr} {xs : List V} {g : TG} {tt : TT} {te : TE} {vs : List Nat} {σ : St} {H1 : Hp} {D : Addr} {Qd : Hp → Prop} (Pv : Nat → Hp → Prop) (h0 : Pv 0 (upd H1 D (.lst []))) (hl : ∀ i H, i ≤ xs.length → Pv i H → SqL K H a xs)
    (hs : ∀ i x H, xs[i]? = some x → Pv i H → g x (wipe σ vs) H fun σ2 H2 => wipe σ2 vs = wipe σ vs ∧ tt σ2 H2 fun b H3 =>
      if b = true then te σ2 H3 fun y H4 => ∃ acc, H4 D = some (.lst acc) ∧ acc.length < sizeLine ∧ Pv (i + 1) (upd H4 D (.lst (acc ++ [y]))) else Pv (i + 1) H3) (hd : ∀ H, Pv xs.length H → Qd H) :
    ∃ W : Nat → Nat → Hp → Prop, (∃ m, W 0 m (upd H1 D (.lst []))) ∧ ∀ i m H, W i m H →
      ((Itl K a).stop i H ∧ Qd H) ∨ ((Itl K a).go i H ∧ ∃ Nx : Hp → Prop, (∀ H', Nx H' → ∃ m', m' < m ∧ W (i + 1) m' H') ∧ ∀ x H', (Itl K a).yld i H x H' → g x (wipe σ vs) H' fun σ2 H2 => wipe σ2 vs = wipe σ vs ∧ tt σ2 H2 fun b H3 =>
        if b = true then te σ2 H3 fun y H4 => ∃ acc, H4 D = some (.lst acc) ∧ acc.length < sizeLine ∧ Nx (upd H4 D (.lst (acc ++ [y]))) else Nx H3) := by
  refine ⟨fun i m H => m = xs.length - i ∧ i ≤ xs.length ∧ Pv i H, ⟨xs.length, by simp, Nat.zero_le _, h0⟩, ?_⟩
  rintro i m H ⟨rfl, hi, p⟩
  have q := hl i H hi p
  by_cases hlt : i < xs.length
  · refine .inr ⟨⟨xs, xs[i], q, by simp [hlt]⟩, Pv (i + 1), fun H' p' => ⟨xs.length - (i + 1), by omega, rfl, hlt, p'⟩, fun x H' y => ?_⟩
    obtain ⟨e, y⟩ := y
    subst e
    exact hs i x _ (y xs q) p
  · have e : i = xs.length := by omega
    subst e
    exact .inl ⟨⟨xs, q, Nat.le_refl _⟩, hd H p⟩
end L2

namespace L2
open PySem PySem.Spec PyProof.Rows

section
variable {prog : Program} {w : World} {A : Around} {R : Result → Shared → Prop} {s : Shared} {elt t0 i0 t1 i1 : Expr} {ifs0 ifs1 : List Expr} {scope : Scope} {pos : Pos} {it acc : Value} {env : Env}
end

section
variable {X : Cx}
end
end L2

namespace L2
open PySem PySem.Spec PyProof.Rows

/-! ### lists of pairs as tables -/
section
variable {κ : Type} [DecidableEq κ]
def valV (kvs : List (κ × V)) (k : κ) : Option V := (kvs.find? fun kv => decide (kv.1 = k)).map (·.2)
/-- in its place, or at the end -/
def putK (kvs : List (κ × V)) (k : κ) (v : V) : List (κ × V) :=
  if (kvs.any fun kv => decide (kv.1 = k)) = true then kvs.map (fun kv => if kv.1 = k then (kv.1, v) else kv) else kvs ++ [(k, v)]
theorem valV_pos {p : κ × V} {r : List (κ × V)} {k : κ} (e : p.1 = k) : valV (p :: r) k = some p.2 := by simp [valV, List.find?_cons, e]
theorem valV_neg {p : κ × V} {r : List (κ × V)} {k : κ} (e : ¬ p.1 = k) : valV (p :: r) k = valV r k := by simp [valV, List.find?_cons, e]
theorem valV_any (k : κ) : ∀ kvs : List (κ × V), (kvs.any fun kv => decide (kv.1 = k)) = (valV kvs k).isSome
  | [] => rfl
  | p :: r => by
    rw [List.any_cons]
    by_cases e : p.1 = k
    · simp only [valV_pos e, decide_eq_true e, Bool.true_or, Option.isSome_some]
    · rw [valV_neg e, decide_eq_false e, Bool.false_or]; exact valV_any k r
theorem valV_map (k j : κ) (y : V) : ∀ kvs : List (κ × V), valV (kvs.map fun kv => if kv.1 = k then (kv.1, y) else kv) j = (valV kvs j).map fun x => if j = k then y else x
  | [] => rfl
  | p :: r => by
    have ih := valV_map k j y r
    rw [List.map_cons]
    by_cases h : p.1 = k
    · rw [if_pos h]
      by_cases e : p.1 = j
      · rw [valV_pos (p := (p.1, y)) e, valV_pos e, Option.map_some, if_pos (e.symm.trans h)]
      · rw [valV_neg (p := (p.1, y)) e, valV_neg e, ih]
    · rw [if_neg h]
      by_cases e : p.1 = j
      · rw [valV_pos (p := p) e, valV_pos e, Option.map_some, if_neg (fun z => h (e.trans z))]
      · rw [valV_neg (p := p) e, valV_neg e, ih]
theorem valV_snoc (k j : κ) (y : V) : ∀ kvs : List (κ × V), valV kvs k = none → valV (kvs ++ [(k, y)]) j = if j = k then some y else valV kvs j
  | [], _ => by
    by_cases e : k = j
    · rw [if_pos e.symm]; exact valV_pos (p := (k, y)) e
    · rw [if_neg (fun z => e z.symm)]; exact valV_neg (p := (k, y)) e
  | p :: r, hn => by
    rw [List.cons_append]
    have hk : ¬ p.1 = k := fun z => by rw [valV_pos z] at hn; cases hn
    rw [valV_neg hk] at hn
    have ih := valV_snoc k j y r hn
    by_cases e : p.1 = j
    · rw [valV_pos e, valV_pos e, if_neg (fun z => hk (e.trans z))]
    · rw [valV_neg e, valV_neg e, ih]
theorem valV_put (kvs : List (κ × V)) (k j : κ) (y : V) : valV (putK kvs k y) j = if j = k then some y else valV kvs j := by
  unfold putK
  by_cases a : (kvs.any fun kv => decide (kv.1 = k)) = true
  · rw [if_pos a, valV_map]
    rw [valV_any] at a
    by_cases e : j = k
    · obtain ⟨x, hx⟩ := Option.isSome_iff_exists.mp a
      rw [if_pos e, e, hx, Option.map_some, if_pos rfl]
    · rw [if_neg e]
      cases valV kvs j with
      | none => rfl
      | some x => rw [Option.map_some, if_neg e]
  · rw [if_neg a]
    refine valV_snoc k j y kvs ?_
    rw [valV_any] at a
    cases q : valV kvs k with
    | none => rfl
    | some x => rw [q] at a; exact (a rfl).elim
theorem length_putK (kvs : List (κ × V)) (k : κ) (v : V) : (putK kvs k v).length ≤ kvs.length + 1 := by
  unfold putK
  split
  · rw [List.length_map]; omega
  · rw [List.length_append, List.length_cons, List.length_nil]; omega
theorem RelO.isSome_eq {o : Option V} {u : Option Value} (r : RelO o u) : o.isSome = u.isSome := by
  cases o with
  | none => cases u with
    | none => rfl
    | some _ => exact (show False from r).elim
  | some _ => cases u with
    | none => exact (show False from r).elim
    | some _ => rfl
/-- raw tables of the same keys -/
theorem KV.val {kvs : List (κ × V)} {vs : List (κ × Value)} (r : KV kvs vs) (k : κ) : RelO (valV kvs k) (valueAt vs k) := by
  unfold KV at r
  induction r with
  | nil => exact True.intro
  | @cons p q ps qs h t ih =>
    obtain ⟨h1, h2⟩ := h
    by_cases e : p.1 = k
    · have e' : q.1 = k := h1.symm.trans e
      have b : valueAt (q :: qs) k = some q.2 := by simp [valueAt, List.find?_cons, e']
      rw [valV_pos e, b]; exact h2
    · have e' : ¬ q.1 = k := fun z => e (h1.trans z)
      have b : valueAt (q :: qs) k = valueAt qs k := by simp [valueAt, List.find?_cons, e']
      rw [valV_neg e, b]; exact ih
theorem KV.any {kvs : List (κ × V)} {vs : List (κ × Value)} (r : KV kvs vs) (k : κ) : (kvs.any fun kv => decide (kv.1 = k)) = vs.any fun kv => decide (kv.1 = k) := by
  unfold KV at r
  induction r with
  | nil => rfl
  | cons h t ih => rw [List.any_cons, List.any_cons, ih, h.1]
theorem KV.repl {kvs : List (κ × V)} {vs : List (κ × Value)} (r : KV kvs vs) (k : κ) {y : V} {u : Value} (ry : RelV y u) :
    KV (kvs.map fun kv => if kv.1 = k then (kv.1, y) else kv) (vs.map fun kv => if kv.1 = k then (kv.1, u) else kv) := by
  unfold KV at r ⊢
  induction r with
  | nil => exact .nil
  | @cons p q ps qs h t ih =>
    rw [List.map_cons, List.map_cons]
    refine .cons ?_ ih
    obtain ⟨h1, h2⟩ := h
    by_cases e : p.1 = k
    · rw [if_pos e, if_pos (h1.symm.trans e)]; exact ⟨h1, ry⟩
    · rw [if_neg e, if_neg (fun z => e (h1.trans z))]; exact ⟨h1, h2⟩
theorem KV.put {kvs : List (κ × V)} {vs : List (κ × Value)} (r : KV kvs vs) (k : κ) {y : V} {u : Value} (ry : RelV y u) : KV (putK kvs k y) (stored vs k u) := by
  unfold putK stored
  rw [r.any k]
  by_cases e : (vs.any fun kv => decide (kv.1 = k)) = true
  · rw [if_pos e, if_pos e]; exact r.repl k ry
  · rw [if_neg e, if_neg e]; exact Paired.snoc r ⟨rfl, ry⟩
theorem KV.length {kvs : List (κ × V)} {vs : List (κ × Value)} (r : KV kvs vs) : kvs.length = vs.length := Paired.length r
end


/-! ### a tracked dict, its keys ints and texts or tuples of these -/
theorem kV_is {P : Program} {w : World} {k : Key} {u : Value} (r : RelV (kV k) u) : (mixKind P w).is k u = true := by
  cases k with
  | inl i => obtain ⟨t, e⟩ := (show ∃ t, u = Value.int i t from r); subst e; exact mixKind_int P w i t
  | inr x => obtain ⟨t, e⟩ := (show ∃ t, u = Value.str x t from r); subst e; exact mixKind_str P w x t
theorem items_are {P : Program} {w : World} : ∀ {ks : List Key} {us : List Value}, Vals (ks.map kV) us → ItemsAre (mixKind P w) ks us
  | [], _, r => by rw [List.map_nil] at r; cases r; exact .nil
  | k :: ks, _, r => by
    rw [List.map_cons] at r
    cases r with
    | cons h t => exact .cons (kV_is h) (items_are t)

/-- raw entries of a dict with tuple keys -/
abbrev KT (H : Hp) : List (List Key × V) → List (List Key × Addr × Value) → Prop := Paired fun p q => p.1 = q.1 ∧ H q.2.1 = some (.tup (p.1.map kV)) ∧ RelV p.2 q.2.2
theorem KT.val {H : Hp} {kvs : List (List Key × V)} {xs : List (List Key × Addr × Value)} (r : KT H kvs xs) (k : List Key) : RelO (valV kvs k) ((atKey xs k).map (·.2)) := by
  induction r with
  | nil => exact True.intro
  | @cons p q ps qs h t ih =>
    obtain ⟨h1, _, h2⟩ := h
    by_cases e : p.1 = k
    · have e' : q.1 = k := h1.symm.trans e
      have b : atKey (q :: qs) k = some q.2 := by simp [atKey, List.find?_cons, e']
      rw [valV_pos e, b]; exact h2
    · have e' : ¬ q.1 = k := fun z => e (h1.trans z)
      have b : atKey (q :: qs) k = atKey qs k := by simp [atKey, List.find?_cons, e']
      rw [valV_neg e, b]; exact ih
theorem KT.repl {H : Hp} {kvs : List (List Key × V)} {xs : List (List Key × Addr × Value)} (r : KT H kvs xs) (k : List Key) {y : V} {u : Value} (ry : RelV y u) :
    KT H (kvs.map fun kv => if kv.1 = k then (kv.1, y) else kv) (xs.map (putAt k u)) := by
  induction r with
  | nil => exact .nil
  | @cons p q ps qs h t ih =>
    rw [List.map_cons, List.map_cons]
    refine .cons ?_ ih
    obtain ⟨h1, h2, h3⟩ := h
    unfold putAt
    by_cases e : p.1 = k
    · rw [if_pos e, if_pos (h1.symm.trans e)]; exact ⟨h1, h2, ry⟩
    · rw [if_neg e, if_neg (fun z => e (h1.trans z))]; exact ⟨h1, h2, h3⟩
theorem KT.put {H : Hp} {kvs : List (List Key × V)} {xs : List (List Key × Addr × Value)} (r : KT H kvs xs) (k : List Key) {b : Addr} {y : V} {u : Value} (hb : H b = some (.tup (k.map kV))) (ry : RelV y u) :
    KT H (putK kvs k y) (storedH xs k b u) := by
  have e : (kvs.any fun kv => decide (kv.1 = k)) = (atKey xs k).isSome := by
    rw [valV_any, (r.val k).isSome_eq, Option.isSome_map]
  unfold putK storedH
  rw [e]
  by_cases q : (atKey xs k).isSome = true
  · rw [if_pos q, if_pos q]; exact r.repl k ry
  · rw [if_neg q, if_neg q]; exact Paired.snoc r ⟨rfl, hb, ry⟩
theorem KT.keeps {H H' : Hp} {kvs : List (List Key × V)} {xs : List (List Key × Addr × Value)} (r : KT H kvs xs) (ht : ∀ b ys, H b = some (.tup ys) → H' b = some (.tup ys)) : KT H' kvs xs :=
  Paired.mapP r fun _ _ z => ⟨z.1, ht _ _ z.2.1, z.2.2⟩

section
variable {P : Program} {w : World} {H : Hp} {h : Heap} {a : Addr}
theorem rd_of {u : HO} (ok : HOk P w H h) (e : Rd H a u) : ObjOk P w H h a u := e.ok ok
theorem dk_rd {kvs : List (Key × V)} (ok : HOk P w H h) (e : Rd H a (.dK kvs)) : kvs.length ≤ sizeLine ∧ (a == sysModules) = false ∧ ∃ vs, KV kvs vs ∧ h.DictOf (mixKind P w) a vs :=
  show ObjOk P w H h a (.dK kvs) from rd_of ok e
theorem dk_of {kvs : List (Key × V)} (ok : HOk P w H h) (e : H a = some (.dK kvs)) : kvs.length ≤ sizeLine ∧ (a == sysModules) = false ∧ ∃ vs, KV kvs vs ∧ h.DictOf (mixKind P w) a vs := dk_rd ok (.inl e)
/-- a tracked tuple of ints and texts is a key -/
theorem key_of {ks : List Key} (ok : HOk P w H h) (e : H a = some (.tup (ks.map kV))) : (tupleKind (mixKind P w)).is h ks a := by
  obtain ⟨_, its, r, o, h1, h2, n, h3⟩ := (show ObjOk P w H h a (.tup (ks.map kV)) from ok a _ e)
  exact ⟨o, its.toArray, n, h1, h2, h3, by simpa using items_are r⟩
theorem dt_rd {kvs : List (List Key × V)} (ok : HOk P w H h) (e : Rd H a (.dT kvs)) : kvs.length ≤ sizeLine ∧ (a == sysModules) = false ∧
    ∃ xs, KT H kvs xs ∧ h.DictOfH (tupleKind (mixKind P w)) a xs := by
  obtain ⟨z, y, xs, r, o, es, ep, h1, h2, h3, h4, h5⟩ := (show ObjOk P w H h a (.dT kvs) from rd_of ok e)
  refine ⟨z, y, xs, r, o, es, ep, h1, h2, h3, h4, fun x hx => ?_, h5⟩
  have all : ∀ {l : List (List Key × V)} {m : List (List Key × Addr × Value)}, KT H l m → ∀ x ∈ m, (tupleKind (mixKind P w)).is h x.1 x.2.1 := by
    intro l m q
    induction q with
    | nil => intro x hx; exact nomatch hx
    | @cons p q ps qs hq t ih =>
      intro x hx
      rcases List.mem_cons.mp hx with e | hx
      · subst e
        exact key_of ok (by rw [← hq.1]; exact hq.2.1)
      · exact ih x hx
  exact all r x hx
theorem dt_of {kvs : List (List Key × V)} (ok : HOk P w H h) (e : H a = some (.dT kvs)) : kvs.length ≤ sizeLine ∧ (a == sysModules) = false ∧
    ∃ xs, KT H kvs xs ∧ h.DictOfH (tupleKind (mixKind P w)) a xs := dt_rd ok (.inl e)
end

/-- what the dict at a holds at the key y -/
def DGet (H : Hp) (a : Addr) (y : V) (r : Option V) : Prop :=
  (∃ kvs k, Rd H a (.dK kvs) ∧ y = kV k ∧ r = valV kvs k) ∨ ∃ kvs k b, Rd H a (.dT kvs) ∧ y = .ref b ∧ H b = some (.tup (k.map kV)) ∧ r = valV kvs k
/-- the heap behind a[y] = v -/
def DPut (H : Hp) (a : Addr) (y v : V) (H' : Hp) : Prop :=
  (∃ kvs k, H a = some (.dK kvs) ∧ y = kV k ∧ kvs.length < sizeLine ∧ H' = upd H a (.dK (putK kvs k v))) ∨
  ∃ kvs k b, H a = some (.dT kvs) ∧ y = .ref b ∧ H b = some (.tup (k.map kV)) ∧ kvs.length < sizeLine ∧ H' = upd H a (.dT (putK kvs k v))
theorem DGet.k {H : Hp} {a : Addr} {kvs : List (Key × V)} {k : Key} (e : H a = some (.dK kvs)) : DGet H a (kV k) (valV kvs k) := .inl ⟨kvs, k, .inl e, rfl, rfl⟩
theorem DPut.k {H : Hp} {a : Addr} {kvs : List (Key × V)} {k : Key} {v : V} (e : H a = some (.dK kvs)) (hl : kvs.length < sizeLine) : DPut H a (kV k) v (upd H a (.dK (putK kvs k v))) := .inl ⟨kvs, k, e, rfl, hl, rfl⟩
section
variable {X : Cx} {pins : List (Addr × Obj)} {σ : St} {H : Hp} {s : Shared} {a : Addr} {y v : V} {u r : Value} {o : Option V} {A : Around} {E : Value → Shared → Prop}

theorem Inv.big (I : Inv X pins σ H s) : sysModules < s.heap.objs.size := by
  have h : mainGlobals < s.heap.objs.size := (I.mod.glob.keeps I.bk).lt
  exact Nat.lt_trans (by decide) h

/-- d[y], there -/
theorem d_getItem {Q : Value → Shared → Prop} (hu : A.units + 1 < cLine) (I : Inv X pins σ H s) (g : DGet H a y (some v)) (ry : RelV y u) (h : ∀ w' s', Inv X pins σ H s' → RelV v w' → Q w' s') :
    wpAny (model X.prog X.w) A (getItem (.ref a) u) Q E s := by
  rcases g with ⟨kvs, k, e, ey, l⟩ | ⟨kvs, k, b, e, ey, eb, l⟩
  · subst ey
    obtain ⟨z, hd, vs, rel, dd⟩ := dk_rd I.hok e
    obtain ⟨w', hw, rw'⟩ := RelO.some_of (v := v) (o := valueAt vs k) (by rw [l]; exact rel.val k)
    exact wpAny_getItem_of (kV_is ry) dd.mapOf hw (h w' _ (I.tok _) rw')
  · subst ey
    cases (show u = Value.ref b from ry)
    obtain ⟨z, hd, xs, rel, dd⟩ := dt_rd I.hok e
    obtain ⟨w', hw, rw'⟩ := RelO.some_of (v := v) (o := (atKey xs k).map (·.2)) (by rw [l]; exact rel.val k)
    obtain ⟨p, hp, hp2⟩ := Option.map_eq_some_iff.mp hw
    refine wpAny_getItem_heap (tupleKind_room_in1 hu) (key_of I.hok eb) dd hp ?_
    rw [hp2]
    exact h w' _ (I.tok _) rw'
theorem d_notIn {Q : Value → Shared → Prop} (hu : A.units + 1 < cLine) (I : Inv X pins σ H s) (g : DGet H a y o) (ry : RelV y u) (h : ∀ s', Inv X pins σ H s' → Q (.bool (!o.isSome)) s') :
    wpAny (model X.prog X.w) A (compareOp .NotIn u (.ref a)) Q E s := by
  rcases g with ⟨kvs, k, e, ey, l⟩ | ⟨kvs, k, b, e, ey, eb, l⟩
  · subst ey
    obtain ⟨z, hd, vs, rel, dd⟩ := dk_rd I.hok e
    refine wpAny_notIn_of (kV_is ry) hd dd.mapOf ?_
    rw [← (rel.val k).isSome_eq, ← l]
    exact h _ (I.tok _)
  · subst ey
    cases (show u = Value.ref b from ry)
    obtain ⟨z, hd, xs, rel, dd⟩ := dt_rd I.hok e
    refine wpAny_notIn_heap (tupleKind_room_in1 hu) (key_of I.hok eb) hd dd ?_
    have q := (rel.val k).isSome_eq
    rw [Option.isSome_map] at q
    rw [← q, ← l]
    exact h _ (I.tok _)
/-- a dict's object is replaced -/
theorem d_write {h' : Heap} {t' : Nat} {ob : HO} (I : Inv X pins σ H s) (mu : Mut (H a)) (hs : Heap.SameBut a s.heap h') (he : ∃ q, h'.get? a = some q) (new : ObjOk X.prog X.w (upd H a ob) h' a ob) :
    Inv X pins σ (upd H a ob) { s with heap := h', toks := t' } :=
  I.write (x := a) (e := a) mu (.inl rfl) (fun b q hb z => (hs.2 b hb).trans z) he new
theorem dk_new {P : Program} {w : World} {H' : Hp} {h' : Heap} {kvs : List (Key × V)} {vs : List (Key × Value)} (z : kvs.length ≤ sizeLine) (hd : (a == sysModules) = false) (rel : KV kvs vs) (dd : h'.DictOf (mixKind P w) a vs) :
    ObjOk P w H' h' a (.dK kvs) := ⟨z, hd, vs, rel, dd⟩
/-- d[y] = v -/
theorem d_setItem {H' : Hp} {Q : Unit → Shared → Prop} (hu : A.units + 1 < cLine) (I : Inv X pins σ H s) (g : DPut H a y v H') (ry : RelV y u) (rv : RelV v r) (h : ∀ s', Inv X pins σ H' s' → Q () s') :
    wpAny (model X.prog X.w) A (setItem (.ref a) u r) Q E s := by
  rcases g with ⟨kvs, k, e, ey, l, eH⟩ | ⟨kvs, k, b, e, ey, eb, l, eH⟩
  · subst ey eH
    obtain ⟨z, hd, vs, rel, dd⟩ := dk_of I.hok e
    have hz : vs.length ≤ sizeLine := by rw [← rel.length]; exact z
    have hl : (putK kvs k v).length ≤ sizeLine := by have := length_putK kvs k v; omega
    refine wpAny_setItem_pairs (hsz := hz) (kV_is ry) dd fun h' dd' hs => h _ ?_
    have he : ∃ q, h'.get? a = some q := let ⟨q, _, _, hq, _⟩ := dd'; ⟨q, hq⟩
    exact d_write I (by rw [e]; exact True.intro) hs he (dk_new hl hd (rel.put k rv) dd')
  · subst ey eH
    cases (show u = Value.ref b from ry)
    obtain ⟨z, hd, xs, rel, dd⟩ := dt_of I.hok e
    have hz : xs.length ≤ sizeLine := by rw [← Paired.length rel]; exact z
    have hl : (putK kvs k v).length ≤ sizeLine := by have := length_putK kvs k v; omega
    refine wpAny_setItem_heap (hsz := hz) (tupleKind_room_in1 hu) (key_of I.hok eb) dd fun h' dd' hs => h _ ?_
    obtain ⟨q, es, ep, hq, h2, h3, h4, _, h5⟩ := dd'
    refine d_write I (by rw [e]; exact True.intro) hs ⟨q, hq⟩ ⟨hl, hd, _, (rel.put k eb rv).keeps fun c ys ec => ?_, q, es, ep, hq, h2, h3, h4, h5⟩
    rw [upd_ne (ne_of ec e (fun z => nomatch z))]
    exact ec
end

section
variable {X : Cx} {pins : List (Addr × Obj)} {σ : St} {H : Hp} {s : Shared} {a : Addr} {kvs : List (Key × V)} {k : Key} {u : Value} {A : Around} {E : Value → Shared → Prop}
end


/-! ### readings and rules -/
/-- the element of a subscription, not a slice -/
def NoSl (i : Expr) : Prop := ∀ ov iv, subscripted i false ov iv = operate [ov, iv] (getItem ov iv)
theorem subD_of {prog : Program} {w : World} {A : Around} {E : Value → Shared → Prop} {s : Shared} {env : Env} {value slice : Expr} {pos : Pos} {T id : String} {Q : Value → Shared → Prop}
    (hl : typeLookup (.type T) "__getitem__" = pure (some (.builtin id))) (hs : NoSl slice)
    (h : wpAny (model prog w) A (eval value env) (fun o s₁ => wpAny (model prog w) A (eval slice env) (fun i s₂ => s₂.TypeIs o T ∧ wpAny (model prog w) A (getItem o i) Q E s₂) E s₁) E s) :
    wpAny (model prog w) A (eval (.Subscript value slice pos) env) Q E s := by
  refine Subscript_ (wpAny_mono h (fun o s₁ h₁ => wpAny_mono h₁ (fun i s₂ h₂ => ?_) fun _ _ x => x) fun _ _ x => x)
  obtain ⟨hT, h₂⟩ := h₂
  unfold subscriptTail
  refine wpAny_bind ?_
  rw [getitemInPython_of_ne hT.not_modules]
  refine wpAny_bind (wpAny_specialOf hT hl ?_)
  have fin : wpAny (model prog w) A (subscripted slice false o i) (fun r s₃ => wpAny (model prog w) A (letTemporaryGo value o r >>= fun _ => pure r) Q E s₃) E s₂ := by
    rw [hs o i]
    exact wpAny_operating (wpAny_mono h₂ (fun r s₃ h₃ => wpAny_bind (wpAny_letTemporaryGo (wpAny_pure h₃))) fun _ _ x => x)
  first
    | exact wpAny_pure (wpAny_bind fin)
    | exact wpAny_bind (wpAny_pure (wpAny_bind fin))
    | exact wpAny_bind fin

theorem dict_typeIs {X : Cx} {pins : List (Addr × Obj)} {σ : St} {H : Hp} {s : Shared} {a : Addr} {y : V} {o : Option V} (I : Inv X pins σ H s) (g : DGet H a y o) : s.TypeIs (.ref a) "dict" := by
  rcases g with ⟨kvs, k, e, _, _⟩ | ⟨kvs, k, b, e, _, _, _⟩
  · obtain ⟨_, _, vs, _, dd⟩ := dk_rd I.hok e
    exact dd.typeIs
  · obtain ⟨_, _, xs, _, dd⟩ := dt_rd I.hok e
    exact dd.typeIs
/-- d[y] -/
def tDGet (td ty : TE) : TE := fun σ H Q => td σ H fun x H1 => ty σ H1 fun y H2 => ∃ a v, x = .ref a ∧ DGet H2 a y (some v) ∧ Q v H2
def tDNotIn (ty td : TE) : TE := fun σ H Q => ty σ H fun y H1 => td σ H1 fun x H2 => ∃ a o, x = .ref a ∧ DGet H2 a y o ∧ Q (.bl (!o.isSome)) H2
/-- d[y] = v -/
def sDPut (td ty tv : TE) : TS := fun D σ H => tv σ H fun v H1 => td σ H1 fun x H2 => ty σ H2 fun y H3 => ∃ a H4, x = .ref a ∧ DPut H3 a y v H4 ∧ D.nx σ H4
section
variable {X : Cx} {o i e value : Expr} {pos pos' tpos : Pos} {td ty tv : TE}
theorem pe_dget (hu : X.A.units + 1 < cLine) (ho : PE X o td) (hi : PE X i ty) (hs : NoSl i) : PE X (.Subscript o i pos) (tDGet td ty) := by
  intro pins s σ H Q I h
  refine subD_of PySem.F.slot_dict_getitem.lookup hs (thn (ho pins s σ H _ I h) fun u s1 ⟨x, H1, I1, rx, q1⟩ => thn (hi pins s1 σ H1 _ I1 q1) fun iv s2 ⟨y, H2, I2, ry, a, v, ex, g, q2⟩ => ?_)
  subst ex
  obtain rfl : u = Value.ref a := rx
  exact ⟨dict_typeIs I2 g, d_getItem hu I2 g ry fun w' s3 I3 rw' => ⟨v, H2, I3, rw', q2⟩⟩
theorem pc_dnotin (hu : X.A.units + 1 < cLine) (hi : PE X i ty) (ho : PE X o td) : PC X .NotIn i o (tDNotIn ty td) := by
  intro pins s σ H Q I h
  refine thn (hi pins s σ H _ I h) fun iv s1 ⟨y, H1, I1, ry, q1⟩ => thn (ho pins s1 σ H1 _ I1 q1) fun u s2 ⟨x, H2, I2, rx, a, ov, ex, g, q2⟩ => ?_
  subst ex
  obtain rfl : u = Value.ref a := rx
  exact d_notIn hu I2 g ry fun s3 I3 => ⟨.bl (!ov.isSome), H2, I3, rfl, q2⟩
theorem ps_dput (hu : X.A.units + 1 < cLine) (ho : PE X o td) (hi : PE X i ty) (hv : PE X value tv) (hs : swapsWith value (some (.Subscript o i pos')) pos.line X.env = pure false) :
    PS X (.Assign [.Subscript o i pos'] value pos) (sDPut td ty tv) := by
  intro pins s σ H D I h
  refine wpAny_Assign_Subscript (thn (hv pins s σ H _ I h) fun r s1 ⟨v, H1, I1, rv, q1⟩ => thn (ho pins s1 σ H1 _ I1 q1) fun u s2 ⟨x, H2, I2, rx, q2⟩ => thn (hi pins s2 σ H2 _ I2 q2) fun iv s3 ⟨y, H3, I3, ry, a, H4, ex, g, q3⟩ => ?_) hs
  subst ex
  obtain rfl : u = Value.ref a := rx
  exact d_setItem hu I3 g ry rv fun s4 I4 => ⟨σ, H4, I4, q3⟩
end


/-! ### displays -/
theorem dk_empty {P : Program} {w : World} {H : Hp} (h : Heap) (hb : sysModules < h.objs.size) : ObjOk P w H (h.push { cls := .type "dict", data := .dict #[] }) h.objs.size (.dK []) :=
  ⟨Nat.zero_le _, beq_eq_false_iff_ne.mpr (Ne.symm (Nat.ne_of_lt hb)), [], .nil, Heap.DictOf.new h⟩
section
variable {X : Cx} {pos : Pos}
end

/-- the pairs of a display, from the left -/
def tPairs : List (TE × TE) → St → Hp → (List (V × V) → Hp → Prop) → Prop
  | [], _, H, Q => Q [] H
  | (tk, tv) :: r, σ, H, Q => tk σ H fun x H1 => tv σ H1 fun y H2 => tPairs r σ H2 fun ps H3 => Q ((x, y) :: ps) H3
abbrev VV : List (V × V) → List (Value × Value) → Prop := Paired fun p q => RelV p.1 q.1 ∧ RelV p.2 q.2
def PPs (X : Cx) (pos : Pos) (keys : List (Option Expr)) (values : List Expr) (trs : List (TE × TE)) : Prop :=
  ∀ (pins : List (Addr × Obj)) (s : Shared) (σ : St) (H : Hp) (Q : List (V × V) → Hp → Prop), Inv X pins σ H s → tPairs trs σ H Q →
    wpAny (model X.prog X.w) X.A (evalPairs (pairTrees keys values X.env pos)) (fun vs s' => ∃ ps H', Inv X pins σ H' s' ∧ VV ps vs ∧ Q ps H') X.xe s
theorem pps_nil {X : Cx} {pos : Pos} : PPs X pos [] [] [] := fun pins s σ H Q I h => pairTrees_nil_walk ⟨[], H, I, .nil, h⟩
theorem pps_cons {X : Cx} {pos : Pos} {k v : Expr} {ks : List (Option Expr)} {vs : List Expr} {tk tv : TE} {trs : List (TE × TE)} (hk : PE X k tk) (hv : PE X v tv) (hr : PPs X pos ks vs trs) :
    PPs X pos (some k :: ks) (v :: vs) ((tk, tv) :: trs) := fun pins s σ H Q I h =>
  pairTrees_cons_walk (thn (hk pins s σ H _ I h) fun u s1 ⟨x, H1, I1, rx, q1⟩ => thn (hv pins s1 σ H1 _ I1 q1) fun w2 s2 ⟨y, H2, I2, ry, q2⟩ =>
    thn (hr pins s2 σ H2 _ I2 q2) fun ws s3 ⟨ps, H3, I3, rel, q3⟩ => ⟨(x, y) :: ps, H3, I3, .cons ⟨rx, ry⟩ rel, q3⟩)

def mergeK (kvs more : List (Key × V)) : List (Key × V) := more.foldl (fun acc kv => putK acc kv.1 kv.2) kvs
theorem KV.merge : ∀ {more : List (Key × V)} {rs : List (Key × Value)} {kvs : List (Key × V)} {vs : List (Key × Value)}, KV more rs → KV kvs vs → KV (mergeK kvs more) (merged vs rs) := by
  intro more rs kvs vs r
  unfold KV at r
  induction r generalizing kvs vs with
  | nil => intro q; exact q
  | @cons p q ps qs h t ih =>
    intro r0
    have e : KV (putK kvs p.1 p.2) (stored vs q.1 q.2) := by
      have := r0.put p.1 h.2
      rw [← h.1]; exact this
    exact ih e
theorem length_mergeK : ∀ (more kvs : List (Key × V)), (mergeK kvs more).length ≤ kvs.length + more.length
  | [], kvs => by show kvs.length ≤ kvs.length + 0; omega
  | p :: r, kvs => by
    have h1 := length_mergeK r (putK kvs p.1 p.2)
    have h2 := length_putK kvs p.1 p.2
    show (mergeK (putK kvs p.1 p.2) r).length ≤ _
    rw [List.length_cons]; omega
theorem carries_of {P : Program} {w : World} : ∀ {kvs : List (Key × V)} {ws : List (Value × Value)}, VV (kvs.map fun kv => (kV kv.1, kv.2)) ws → ∃ rs, Carries (mixKind P w) ws rs ∧ KV kvs rs
  | [], _, r => by rw [List.map_nil] at r; cases r; exact ⟨[], True.intro, .nil⟩
  | p :: kvs, _, r => by
    rw [List.map_cons] at r
    cases r with
    | @cons a b as bs h t =>
      obtain ⟨rs, c, q⟩ := carries_of (P := P) (w := w) t
      obtain ⟨b1, b2⟩ := b
      exact ⟨(p.1, b2) :: rs, ⟨kV_is h.1, rfl, c⟩, .cons ⟨rfl, h.2⟩ q⟩
/-- {k: v, ..} with keys ints and texts; the new dict stands empty while the pairs are made -/
def tDisp (trs : List (TE × TE)) : TE := fun σ H Q => ∀ p, H p = none → tPairs trs σ (upd H p (.dK [])) fun ps H2 => H2 p = some (.dK []) ∧ ∃ kvs : List (Key × V), ps = kvs.map (fun kv => (kV kv.1, kv.2)) ∧ kvs.length ≤ 15 ∧ Q (.ref p) (upd H2 p (.dK (mergeK [] kvs)))
theorem pe_disp {X : Cx} {pos : Pos} {keys : List (Option Expr)} {values : List Expr} {trs : List (TE × TE)} (h : PPs X pos keys values trs) (hall : keys.all (·.isSome) = true) (hl : keys.length = values.length) (h0 : keys ≠ [])
    (h15 : keys.length ≤ 15) : PE X (.Dict keys values pos) (tDisp trs) := by
  intro pins s σ H Q I q
  have hn := I.hok.fresh (Nat.le_refl s.heap.objs.size)
  have I1 := I.laid (a := s.heap.objs.size) (o := .dK []) (h' := s.heap.push { cls := .type "dict", data := .dict #[] }) (t' := s.toks) (fun _ _ q => Heap.get?_push_of_some _ q) (Nat.le_refl _) (dk_empty s.heap I.big)
  refine wpAny_Dict_walk (knd := mixKind X.prog X.w) hall hl h0 h15 (thn (h pins _ σ _ _ I1 (q _ hn)) fun ws s2 ⟨ps, H2, I2, rel, e, kvs, ep, lk, q2⟩ => ?_)
  subst ep
  obtain ⟨rs, c, rk⟩ := carries_of (P := X.prog) (w := X.w) rel
  obtain ⟨z, hd, vs0, r0, dd⟩ := dk_of I2.hok e
  cases r0
  refine ⟨rs, c, dd, fun h' dd' hs => ⟨.ref s.heap.objs.size, _, ?_, rfl, q2⟩⟩
  have hz : (mergeK [] kvs).length ≤ sizeLine := by
    have h1 := length_mergeK kvs []
    rw [List.length_nil] at h1
    rw [sizeLine_eq]; omega
  have he : ∃ q, h'.get? s.heap.objs.size = some q := let ⟨q, _, _, hq, _⟩ := dd'; ⟨q, hq⟩
  exact d_write I2 (by rw [e]; exact True.intro) hs he (dk_new hz hd (rk.merge .nil) dd')


/-! ### methods -/
/-- a method call o.m(e) of a built-in, with one argument: what must be seen of the text -/
structure M1 (X : Cx) (o : Expr) (m : Str) (apos : Pos) (e : Expr) (cpos : Pos) : Prop where
  base : attributeBase o m X.env (eval o X.env) = eval o X.env
  few : ((backTo cpos (starEach [e] X.env)).all (fun x => !x.1) && (backToKw cpos (keywordEach [] X.env)).all (fun x => x.1.isSome)
    && decide (([e] : List Expr).length + ([] : List Keyword).length + (if ([] : List Keyword).isEmpty then 0 else 1) < 30)) = true
  line : (apos.endLine == cpos.line) = true
  trees : backTo cpos (starEach [e] X.env) = [(false, eval e X.env)]
structure M2 (X : Cx) (o : Expr) (m : Str) (apos : Pos) (e f : Expr) (cpos : Pos) : Prop where
  base : attributeBase o m X.env (eval o X.env) = eval o X.env
  few : ((backTo cpos (starEach [e, f] X.env)).all (fun x => !x.1) && (backToKw cpos (keywordEach [] X.env)).all (fun x => x.1.isSome)
    && decide (([e, f] : List Expr).length + ([] : List Keyword).length + (if ([] : List Keyword).isEmpty then 0 else 1) < 30)) = true
  line : (apos.endLine == cpos.line) = true
  trees : backTo cpos (starEach [e, f] X.env) = [(false, eval e X.env), (false, eval f X.env)]

section
variable {X : Cx} {pins : List (Addr × Obj)} {σ : St} {H : Hp} {s : Shared} {a : Addr} {y d : V} {u r : Value} {o : Option V} {A : Around} {E : Value → Shared → Prop}
end

section
variable {X : Cx} {o e f : Expr} {apos cpos : Pos} {td ty tx : TE}
end

/-! ### dict(d): a copy -/
section
variable {X : Cx} {pins : List (Addr × Obj)} {σ : St} {H : Hp} {s : Shared} {a : Addr} {kvs : List (Key × V)} {A : Around} {E : Value → Shared → Prop}
end


section
variable {X : Cx} {pins : List (Addr × Obj)} {σ : St} {H : Hp} {s : Shared} {a : Addr} {y : V} {u : Value} {A : Around} {E : Value → Shared → Prop}
end
end L2

namespace L2
open PySem PySem.Spec PyProof.Rows

section
variable {prog : Program} {w : World} {A : Around} {E : Value → Shared → Prop}
end

section
variable {X : Cx}
end
end L2

namespace L2
open PySem PySem.Spec PyProof.Rows

section
variable {X : Cx} {pins : List (Addr × Obj)} {σ : St} {H : Hp} {s : Shared} {h' : Heap}
/-- several records of ours have turned -/
theorem Inv.turnedL {t' : Nat} {ch : List Addr} (I : Inv X pins σ H s) (k : ∀ b o, b ∉ ch → s.heap.get? b = some o → h'.get? b = some o) (hf : ∀ b ∈ ch, FpOk X pins H b) : Inv X pins σ H { s with heap := h', toks := t' } := by
  have nit : ∀ b u, H b = some u → b ∉ ch := fun b u e z => by
    have q := (hf b z).1
    rw [q] at e; cases e
  refine I.step (g' := s.gens) (d' := s.drawn) (ch := ch) (fun b hb => ⟨(hf b hb).2.2.2.1, (hf b hb).2.1, (hf b hb).2.2.2.2.1, (hf b hb).2.2.2.2.2⟩) (fun b o _ _ hc e _ => k b o hc e) (fun b o _ _ hc e _ => ⟨o.slots, k b o hc e⟩)
    (fun _ _ _ _ n => n) (fun b o hc e => ⟨o, k b o hc e⟩) (fun _ _ e => e) (fun _ _ _ e => e) (fun b ps e => ⟨#[], by rw [e]; simp⟩) (fun m hm => ?_) (fun b u e => ?_) I.bare
  · obtain ⟨o, es, ep, ho, r⟩ := hm
    exact ⟨o, es, ep, k _ o (fun z => (hf _ z).2.1 rfl) ho, r⟩
  · refine (I.hok b u e).stay (fun c v hc q => k c v ?_ q) (fun _ q => q) fun _ _ q => q
    rcases hc with z | z
    · rw [z]; exact nit b u e
    · exact nit c _ z
/-- .. and one new object is laid -/
theorem Inv.turnedNew {t' : Nat} {ch : List Addr} {T : Addr} {ob : HO} (I : Inv X pins σ H s) (k : ∀ b o, b ∉ ch → s.heap.get? b = some o → h'.get? b = some o) (hf : ∀ b ∈ ch, FpOk X pins H b) (hT : s.heap.objs.size ≤ T)
    (new : ObjOk X.prog X.w (upd H T ob) h' T ob) : Inv X pins σ (upd H T ob) { s with heap := h', toks := t' } := by
  have hn : H T = none := I.hok.fresh hT
  have nit : ∀ b u, H b = some u → b ∉ ch := fun b u e z => by
    have q := (hf b z).1
    rw [q] at e; cases e
  refine I.step (g' := s.gens) (d' := s.drawn) (ch := ch) (fun b hb => ⟨(hf b hb).2.2.2.1, (hf b hb).2.1, (hf b hb).2.2.2.2.1, (hf b hb).2.2.2.2.2⟩) (fun b o _ _ hc e _ => k b o hc e) (fun b o _ _ hc e _ => ⟨o.slots, k b o hc e⟩)
    (fun b o _ e n => ?_) (fun b o hc e => ⟨o, k b o hc e⟩) (fun b xs e => ?_) (fun b o u e => ?_) (fun b ps e => ⟨#[], ?_⟩) (fun m hm => ?_) (fun b u e => ?_) I.bare
  · rw [upd_ne (Nat.ne_of_lt (Nat.lt_of_lt_of_le (Heap.lt_size e) hT))]; exact n
  · rw [upd_ne (ne_of_none e hn)]; exact e
  · rw [upd_ne (ne_of_none e hn)]; exact e
  · rw [upd_ne (ne_of_none e hn), e]; simp
  · obtain ⟨o, es, ep, ho, r⟩ := hm
    exact ⟨o, es, ep, k _ o (fun z => (hf _ z).2.1 rfl) ho, r⟩
  · by_cases hb : b = T
    · subst hb
      rw [upd_same] at e
      cases e
      exact new
    · rw [upd_ne hb] at e
      refine (I.hok b u e).stay (fun c v hc q => k c v ?_ q) (fun c q => by rw [upd_ne (ne_of_none q hn)]; exact q) fun c xs q => by rw [upd_ne (ne_of_none q hn)]; exact q
      rcases hc with z | z
      · rw [z]; exact nit b u e
      · exact nit c _ z

/-! ### locking a thing while a statement runs -/
end
/-- the statement runs while the thing at d is locked (read, not written); d and what stands there are the reading's choice -/
def tLock (t : TS) : TS := fun D σ H => ∃ d u, H d = some u ∧ Mut (some u) ∧ ∀ od, t ⟨fun σ' H' => H' d = some (.frz od u) ∧ D.nx σ' (upd H' d u), fun v H' => H' d = some (.frz od u) ∧ D.rt v (upd H' d u), fun σ' H' => H' d = some (.frz od u) ∧ D.bk σ' (upd H' d u), fun σ' H' => H' d = some (.frz od u) ∧ D.ct σ' (upd H' d u)⟩ σ (upd H d (.frz od u))
section
variable {X : Cx}
/-! ### one iterator just laid -/
theorem pi_one {tg : Expr} {pins : List (Addr × Obj)} {σ : St} {H : Hp} {s : Shared} {R : It → Hp → Prop} {J : It} {tn : Nat → Heap → Prop} {tk : Nat} (I : Inv X pins σ H s) (o : Obj)
    (T : Turn X.prog X.w X.K tg J [s.heap.objs.size] s.heap.objs.size tn) (st : tn 0 (s.heap.push o)) (q : R J H) : PIE X pins σ tg R (.ref s.heap.objs.size) { s with heap := s.heap.push o, toks := tk } := by
  refine ⟨s.heap.objs.size, [s.heap.objs.size], tn, J, H, rfl, I.kept fun b ob e => Heap.get?_push_of_some _ e, T, st, fun b hb => ?_, q⟩
  have e : b = s.heap.objs.size := by simpa using hb
  subst e
  exact I.fpOk (Nat.le_refl _) (I.hok.fresh (Nat.le_refl _))
end

/-! ### range with a step -/
/-- lo, lo + c, .. (n of them) -/
def Itc (lo c : Int) (n : Nat) : It := ⟨fun i _ => i < n, fun i H x H' => H' = H ∧ x = .int (lo + (i : Nat) * c), fun i _ => n ≤ i⟩
theorem turn_rangeC {P : Program} {w : World} {K : PySem.W.Frag} {tg : Expr} (it : Addr) (lo c : Int) (n : Nat) : Turn P w K tg (Itc lo c n) [it] it (fun i h => IsRangeIter h it (lo + (i : Nat) * c) ((n : Int) - (i : Nat)) c) where
  mem := by simp
  obj := fun i h st b hb => by
    have e : b = it := by simpa using hb
    subst e
    exact ⟨_, st, fun v z => nomatch z⟩
  keep := fun i h h' st k => k it (by simp) _ st
  item := by
    intro X hP hw hK hc i pins s σ H E I hf st hg
    subst hP hw hK
    obtain ⟨f0, f1, f2, f3, f4, f5⟩ := hf it (by simp)
    have W := Walks.range (prog := X.prog) (w := X.w) (I.ok.hd hc) it lo c n
    refine W.item i s _ _ hg st fun v h' tk hv st' kk => ?_
    obtain ⟨t, rfl⟩ := hv
    have I1 : Inv X pins σ H { s with heap := h', toks := tk } := I.turned (fun b o hb e => kk b o (by simpa using hb) e) f0 f1 f3 f4 f5
    exact ⟨_, rfl, go_of (s := { s with heap := h', toks := tk }) (n := "range_iterator") st' rfl rfl (by decide) ⟨.int (lo + (i : Nat) * c), H, I1, ⟨t, rfl⟩, ⟨rfl, rfl⟩, st', fun b hb => (hf b hb).1⟩⟩
  done := by
    intro X hP hw hK hc i pins s σ H E I hf st hg
    subst hP hw hK
    obtain ⟨f0, f1, f2, f3, f4, f5⟩ := hf it (by simp)
    exact wpAny_pyNext_range_end (I.ok.hd hc) st (by have : n ≤ i := hg; omega) fun h' eb => ⟨rfl, I.turned (t' := s.toks) (fun b o hb e => eb b o hb e) f0 f1 f3 f4 f5⟩
  self := fun A i s Q E st h => wpAny_pyIter_rangeiter st h
/-- range(i, j, c): small bounds, n items -/
def RgC (i j c : Int) (n : Nat) : Prop := c ≠ 0 ∧ c.natAbs < 1073741824 ∧ Builtin.Range.small i j c = true ∧ Builtin.Range.rangeSize i j c = n
theorem RgC.neg {i j : Int} (ha : -(2 ^ 62) ≤ i) (ha' : i < 2 ^ 62) (hb : -(2 ^ 62) ≤ j) (hb' : j < 2 ^ 62) : RgC i j (-1) (i - j).toNat :=
  ⟨by decide, by decide, PySem.W.small_down ha ha' hb hb', PySem.W.rangeSize_downNat i j⟩
def iRng3 (ta : TA) : TI := fun σ H R => ta σ H fun vs H1 => ∃ (i j c : Int) (n : Nat), vs = [.int i, .int j, .int c] ∧ RgC i j c n ∧ R (Itc i c n) H1
section
variable {X : Cx} {tg : Expr}
theorem pi_range3 {a b c : Expr} {ta : TA} {p pos : Pos} (hg : Gl X "range") (hm : X.mg "range" = none) (ha : PA X [a, b, c] ta)
    (hs : starEach [a, b, c] X.env = (false, eval a X.env) :: starEach [b, c] X.env := by rfl) (hpl : (backTo pos (starEach [b, c] X.env)).any (·.1) = false := by rfl) :
    PI X tg (.Call (.Name "range" p) [a, b, c] [] pos) (iRng3 ta) := by
  intro pins s σ H R I h
  refine Call_ (ld_blt I hg hm boot_range (PyProof.Rows.callWith_type1 (thn (ha pos pins s σ H _ I h) fun us s1 ⟨vs, H1, I1, r1, q1⟩ => ?_) hs hpl))
  obtain ⟨i, j, k, n, e, ⟨c0, c1, c2, c3⟩, q⟩ := q1
  subst e
  cases r1 with
  | cons r rr =>
    cases rr with
    | cons r' rr =>
      cases rr with
      | cons r'' rr =>
        cases rr
        obtain ⟨t, rfl⟩ := r
        obtain ⟨t', rfl⟩ := r'
        obtain ⟨t'', rfl⟩ := r''
        refine call_range_3 c0 ?_ (.inl (PyProof.noPylong_small c1))
        refine wpAny_pyIter_range (IsRange.new ..) c2 ?_
        have I2 : Inv X pins σ H1 { s1 with heap := s1.heap.push { cls := .type "range", data := .fields #[.int i t, .int j t', .int k t''] } } := I1.kept (t' := s1.toks) fun b o e => Heap.get?_push_of_some _ e
        refine pi_one (tk := s1.toks) I2 _ (turn_rangeC _ i k n) ?_ q
        have e1 : i + ((0 : Nat) : Int) * k = i := by simp
        have e2 : (n : Int) - ((0 : Nat) : Int) = Builtin.Range.rangeSize i j k := by rw [c3]; simp
        show IsRangeIter _ _ (i + ((0 : Nat) : Int) * k) ((n : Int) - ((0 : Nat) : Int)) k
        rw [e1, e2]
        exact Heap.get?_push_size _ rfl
end
/-- the turns of a step range, for the for loop -/
theorem for_rangeC {lo c : Int} {n : Nat} {g : TG} {tb : TS} {D : Ends} {σ : St} {H : Hp} (Pv : Nat → St → Hp → Prop) (h0 : Pv 0 σ H)
    (hs : ∀ i σ H, i < n → Pv i σ H → g (.int (lo + (i : Nat) * c)) σ H fun σ2 H2 => tb { D with nx := Pv (i + 1), ct := Pv (i + 1), bk := D.nx } σ2 H2) (hd : ∀ σ H, Pv n σ H → D.nx σ H) :
    ∃ W : Nat → Nat → St → Hp → Prop, (∃ m, W 0 m σ H) ∧ ∀ i m σ H, W i m σ H →
      ((Itc lo c n).stop i H ∧ D.nx σ H) ∨ ((Itc lo c n).go i H ∧ ∃ N : St → Hp → Prop, (∀ σ' H', N σ' H' → ∃ m', m' < m ∧ W (i + 1) m' σ' H') ∧ ∀ x H', (Itc lo c n).yld i H x H' → g x σ H' fun σ2 H2 => tb { D with nx := N, ct := N, bk := D.nx } σ2 H2) := by
  refine ⟨fun i m σ H => m = n - i ∧ i ≤ n ∧ Pv i σ H, ⟨n, by simp, Nat.zero_le _, h0⟩, ?_⟩
  rintro i m σ H ⟨rfl, hi, p⟩
  by_cases hlt : i < n
  · refine .inr ⟨hlt, Pv (i + 1), fun σ' H' p' => ⟨n - (i + 1), by omega, rfl, hlt, p'⟩, fun x H' y => ?_⟩
    obtain ⟨e, y⟩ := y
    subst e y
    exact hs i σ _ hlt p
  · have e : i = n := by omega
    subst e
    exact .inl ⟨Nat.le_refl _, hd σ H p⟩

/-! ### reversed(list) -/
section
variable {X : Cx} {tg : Expr}
end

/-! ### a str -/
/-! ### a dict's keys: any dict's entries -/
section
variable {prog : Program} {w : World} {A : Around} {E : Value → Shared → Prop} {s : Shared}
end

/-! ### a locked dict -/
section
variable {X : Cx} {pins : List (Addr × Obj)} {σ : St} {H : Hp} {s : Shared} {d : Addr} {o : Obj}
end

section
variable {P : Program} {w : World} {K : PySem.W.Frag} {tg : Expr} {d : Addr} {o : Obj} {es : Array DictEntry} {ep : Nat}
end

/-! ### for k in d, d.keys(), d.values(), d.items() -/
section
variable {X : Cx} {tg e : Expr} {td : TE} {apos cpos : Pos}
end

/-! ### enumerate(list) -/
/-- the list at a as it stands at each turn, each item in a new pair -/
def Ite (K : PySem.W.Frag) (a : Addr) : It :=
  ⟨fun i H => ∃ (xs : List V) (x : V), SqL K H a xs ∧ xs[i]? = some x, fun i H v H' => ∃ T x, v = .ref T ∧ H T = none ∧ H' = upd H T (.tup [.int (i : Nat), x]) ∧ ∀ xs, SqL K H a xs → xs[i]? = some x, fun i H => ∃ xs : List V, SqL K H a xs ∧ xs.length ≤ i⟩
theorem turn_enum {P : Program} {w : World} {K : PySem.W.Frag} {elts : List Expr} {kk : Nat} {tpos : Pos} (a e it : Addr) :
    Turn P w K (.Tuple elts kk tpos) (Ite K a) [e, it] e (fun i h => (∃ old, IsEnum h e it ((i : Nat) : Int) old) ∧ h.IsListIter it a i ∧ e ≠ it) where
  mem := by simp
  obj := fun i h st b hb => by
    obtain ⟨⟨old, he⟩, ⟨o, ho, hc, hd⟩, _⟩ := st
    have e' : b = e ∨ b = it := by simpa using hb
    rcases e' with z | z
    · rw [z]; exact ⟨_, he, fun v q => nomatch q⟩
    · rw [z]; exact ⟨o, ho, fun v q => by rw [hd] at q; cases q⟩
  keep := fun i h h' st k => let ⟨⟨old, he⟩, hi, hne⟩ := st; ⟨⟨old, k e (by simp) _ he⟩, hi.at fun o q => k it (by simp) o q, hne⟩
  item := by
    intro X hP hw hK hc i pins s σ H E I hf st hg
    subst hP hw hK
    obtain ⟨⟨old, he⟩, hit, hne⟩ := st
    obtain ⟨xs, x, hq, hx⟩ := hg
    obtain ⟨its, rv, p, hz⟩ := I.list hq
    obtain ⟨u, hu, ru⟩ := rv.get hx
    have hel : e < s.heap.objs.size := Heap.lt_size he
    have hil : it < s.heap.objs.size := by obtain ⟨_, q, _⟩ := hit; exact Heap.lt_size q
    refine wpAny_pyNext_enum_item he hit p.isList (x := u) (by simpa using hu) hne fun h' ho hit' hT hsz hk => ?_
    refine ⟨_, rfl, wpAny_letOwnedTupleGo_enum (s := { s with heap := h', toks := s.toks + 1 }) ho fun h'' he' sb => ?_⟩
    have hT2 : h''.get? s.heap.objs.size = some { cls := .type "tuple", data := .seq #[.int i s.toks, u] } := (sb.2 _ (Nat.ne_of_gt hel)).trans hT
    have new : ObjOk X.prog X.w (upd H s.heap.objs.size (.tup [.int (i : Nat), x])) h'' s.heap.objs.size (.tup [.int (i : Nat), x]) :=
      ⟨by show 2 ≤ sizeLine; decide, [.int i s.toks, u], .cons ⟨_, rfl⟩ (.cons ru .nil), ⟨_, hT2, rfl, _, rfl⟩⟩
    have I1 : Inv X pins σ (upd H s.heap.objs.size (.tup [.int (i : Nat), x])) { s with heap := h'', toks := s.toks + 1 } :=
      I.turnedNew (ch := [e, it]) (fun b ob hb q => (sb.2 b (fun z => hb (by simp [z]))).trans (hk b ob (fun z => hb (by simp [z])) (fun z => hb (by simp [z])) q)) hf (Nat.le_refl _) new
    refine ⟨.ref s.heap.objs.size, _, I1, rfl, ⟨_, x, rfl, I.hok.fresh (Nat.le_refl _), rfl, fun ys hy => by rw [I.list_inj hy hq]; exact hx⟩, ⟨⟨u, ?_⟩, hit'.at fun o q => (sb.2 it (Ne.symm hne)).trans q, hne⟩, fun b hb => ?_⟩
    · have e1 : ((i + 1 : Nat) : Int) = (i : Int) + 1 := by omega
      rw [e1]; exact he'
    · have hb' : b < s.heap.objs.size := by
        have e' : b = e ∨ b = it := by simpa using hb
        rcases e' with z | z
        · rw [z]; exact hel
        · rw [z]; exact hil
      rw [upd_ne (Nat.ne_of_lt hb')]
      exact (hf b hb).1
  done := by
    intro X hP hw hK hc i pins s σ H E I hf st hg
    subst hP hw hK
    obtain ⟨⟨old, he⟩, hit, hne⟩ := st
    obtain ⟨xs, hq, hx⟩ := hg
    obtain ⟨its, rv, p, hz⟩ := I.list hq
    obtain ⟨f0, f1, f2, f3, f4, f5⟩ := hf it (by simp)
    have hl := rv.length
    exact wpAny_pyNext_enum_end (I.ok.hd hc) he hit p.isList (by simp; omega) fun h' eb => ⟨rfl, I.turned (t' := s.toks) (fun b o hb q => eb b o hb q) f0 f1 f3 f4 f5⟩
  self := fun A i s Q E st h => let ⟨⟨_, he⟩, _⟩ := st; wpAny_pyIter_enum he h
def iEnum (K : PySem.W.Frag) (ta : TA) : TI := fun σ H R => ta σ H fun vs H1 => ∃ a xs, vs = [.ref a] ∧ SqL K H1 a xs ∧ R (Ite K a) H1
theorem pi_enum {X : Cx} {e : Expr} {ta : TA} {p pos tpos : Pos} {elts : List Expr} {kk : Nat} (hg : Gl X "enumerate") (hm : X.mg "enumerate" = none) (ha : PA X [e] ta) (hs : starEach [e] X.env = [(false, eval e X.env)] := by rfl) :
    PI X (.Tuple elts kk tpos) (.Call (.Name "enumerate" p) [e] [] pos) (iEnum X.K ta) := by
  intro pins s σ H R I h
  refine Call_ (ld_blt I hg hm boot_enumerate (PyProof.Rows.callWith_type1 (thn (ha pos pins s σ H _ I h) fun us s1 ⟨vs, H1, I1, r1, q1⟩ => ?_) hs rfl))
  obtain ⟨a, xs, ex, hq, q⟩ := q1
  subst ex
  cases r1 with
  | cons r rr =>
    cases rr
    cases r
    obtain ⟨its, rv, p', hz⟩ := I1.list hq
    refine call_enumerate_list p'.isList fun h' he hit hsz hk => wpAny_pyIter_enum he ?_
    have I2 : Inv X pins σ H1 { s1 with heap := h' } := I1.kept (t' := s1.toks) hk
    refine ⟨s1.heap.objs.size + 1, [s1.heap.objs.size + 1, s1.heap.objs.size], _, _, H1, rfl, I2, turn_enum a (s1.heap.objs.size + 1) s1.heap.objs.size, ⟨⟨.none, he⟩, hit, Nat.succ_ne_self _⟩, fun b hb => ?_, q⟩
    have e' : b = s1.heap.objs.size + 1 ∨ b = s1.heap.objs.size := by simpa using hb
    have hle : s1.heap.objs.size ≤ b := by
      rcases e' with z | z
      · rw [z]; exact Nat.le_add_right _ _
      · rw [z]; exact Nat.le_refl _
    exact I1.fpOk hle (I1.hok.fresh hle)
/-! ### zip(list, list) -/
theorem boot_zip5 : bootBuiltins "zip" = some (.type "zip") := by decide +kernel
/-- the lists at a and b as they stand at each turn, the items in new pairs -/
def Itz (K : PySem.W.Frag) (a b : Addr) : It :=
  ⟨fun i H => ∃ (xs ys : List V) (x y : V), SqL K H a xs ∧ SqL K H b ys ∧ xs[i]? = some x ∧ ys[i]? = some y,
    fun i H v H' => ∃ T x y, v = .ref T ∧ H T = none ∧ H' = upd H T (.tup [x, y]) ∧ (∀ xs, SqL K H a xs → xs[i]? = some x) ∧ ∀ ys, SqL K H b ys → ys[i]? = some y,
    fun i H => ∃ xs ys : List V, SqL K H a xs ∧ SqL K H b ys ∧ (xs.length ≤ i ∨ ys.length ≤ i)⟩
theorem turn_zip {P : Program} {w : World} {K : PySem.W.Frag} {elts : List Expr} {kk : Nat} {tpos : Pos} {a b z TI TO i1 i2 : Addr} (D : ZipApart z TI TO i1 i2 a b) :
    Turn P w K (.Tuple elts kk tpos) (Itz K a b) [z, TI, TO, i1, i2] z (fun i h => IsZip h z TI TO .none ∧ IsPair h TI (.ref i1) (.ref i2) ∧ (∃ x y, IsPair h TO x y) ∧ h.IsListIter i1 a i ∧ h.IsListIter i2 b i) where
  mem := by simp
  obj := fun i h st c hc => by
    obtain ⟨hz, hTI, ⟨x, y, hTO⟩, ⟨o1, e1, _, d1⟩, ⟨o2, e2, _, d2⟩⟩ := st
    have e' : c = z ∨ c = TI ∨ c = TO ∨ c = i1 ∨ c = i2 := by simpa using hc
    rcases e' with q | q | q | q | q
    · rw [q]; exact ⟨_, hz, fun v q => nomatch q⟩
    · rw [q]; exact ⟨_, hTI, fun v q => nomatch q⟩
    · rw [q]; exact ⟨_, hTO, fun v q => nomatch q⟩
    · rw [q]; exact ⟨o1, e1, fun v q => by rw [d1] at q; cases q⟩
    · rw [q]; exact ⟨o2, e2, fun v q => by rw [d2] at q; cases q⟩
  keep := fun i h h' st k => by
    obtain ⟨hz, hTI, ⟨x, y, hTO⟩, h1, h2⟩ := st
    exact ⟨k z (by simp) _ hz, k TI (by simp) _ hTI, ⟨x, y, k TO (by simp) _ hTO⟩, h1.at fun o q => k i1 (by simp) o q, h2.at fun o q => k i2 (by simp) o q⟩
  item := by
    intro X hP hw hK hc i pins s σ H E I hf st hg
    subst hP hw hK
    obtain ⟨hz, hTI, ⟨x0, y0, hTO⟩, h1, h2⟩ := st
    obtain ⟨xs, ys, x, y, hqx, hqy, hx, hy⟩ := hg
    obtain ⟨its, rv, p, _⟩ := I.list hqx
    obtain ⟨its2, rv2, p2, _⟩ := I.list hqy
    obtain ⟨u, hu, ru⟩ := rv.get hx
    obtain ⟨u2, hu2, ru2⟩ := rv2.get hy
    have hzl : z < s.heap.objs.size := Heap.lt_size hz
    refine wpAny_pyNext_zip_item D hz hTI hTO h1 h2 p.isList p2.isList (x := u) (y := u2) (by simpa using hu) (by simpa using hu2) fun h' z' TO' h1' h2' hT hsz hk => ?_
    refine ⟨_, rfl, wpAny_letOwnedTupleGo_zip (s := { s with heap := h' }) z' fun h'' z'' sb => ?_⟩
    have hT2 : h''.get? s.heap.objs.size = some { cls := .type "tuple", data := .seq #[u, u2] } := (sb.2 _ (Nat.ne_of_gt hzl)).trans hT
    have new : ObjOk X.prog X.w (upd H s.heap.objs.size (.tup [x, y])) h'' s.heap.objs.size (.tup [x, y]) :=
      ⟨by show 2 ≤ sizeLine; decide, [u, u2], .cons ru (.cons ru2 .nil), ⟨_, hT2, rfl, _, rfl⟩⟩
    have I1 : Inv X pins σ (upd H s.heap.objs.size (.tup [x, y])) { s with heap := h'' } :=
      I.turnedNew (t' := s.toks) (ch := [z, TI, TO, i1, i2]) (fun c o hb q => (sb.2 c (fun q' => hb (by simp [q']))).trans (hk c o (fun q' => hb (by simp [q'])) (fun q' => hb (by simp [q'])) (fun q' => hb (by simp [q'])) (fun q' => hb (by simp [q'])) q)) hf (Nat.le_refl _) new
    refine ⟨.ref s.heap.objs.size, _, I1, rfl, ⟨_, x, y, rfl, I.hok.fresh (Nat.le_refl _), rfl, fun l hl => by rw [I.list_inj hl hqx]; exact hx, fun l hl => by rw [I.list_inj hl hqy]; exact hy⟩, ⟨z'', ?_, ⟨u, u2, ?_⟩, ?_, ?_⟩, fun c hcm => ?_⟩
    · exact (sb.2 _ D.TIz).trans (hk _ _ D.TIz D.TITO D.TIi1 D.TIi2 hTI)
    · exact (sb.2 _ D.TOz).trans TO'
    · exact h1'.at fun o q => (sb.2 _ D.i1z).trans q
    · exact h2'.at fun o q => (sb.2 _ D.i2z).trans q
    · have hlt : c < s.heap.objs.size := by
        have e' : c = z ∨ c = TI ∨ c = TO ∨ c = i1 ∨ c = i2 := by simpa using hcm
        rcases e' with q | q | q | q | q
        · rw [q]; exact hzl
        · rw [q]; exact Heap.lt_size hTI
        · rw [q]; exact Heap.lt_size hTO
        · rw [q]; obtain ⟨_, e1, _⟩ := h1; exact Heap.lt_size e1
        · rw [q]; obtain ⟨_, e2, _⟩ := h2; exact Heap.lt_size e2
      rw [upd_ne (Nat.ne_of_lt hlt)]
      exact (hf c hcm).1
  done := by
    intro X hP hw hK hc i pins s σ H E I hf st hg
    subst hP hw hK
    obtain ⟨hz, hTI, ⟨x0, y0, hTO⟩, h1, h2⟩ := st
    obtain ⟨xs, ys, hqx, hqy, hend⟩ := hg
    obtain ⟨its, rv, p, _⟩ := I.list hqx
    obtain ⟨its2, rv2, p2, _⟩ := I.list hqy
    have l1 := rv.length
    have l2 := rv2.length
    have he : its.toArray[i]? = none ∨ its2.toArray[i]? = none := by
      rcases hend with q | q
      · exact .inl (by simp; omega)
      · exact .inr (by simp; omega)
    exact wpAny_pyNext_zip_end (I.ok.hd hc) D hz hTI hTO h1 h2 p.isList p2.isList he fun h' hk => ⟨rfl, I.turnedL (t' := s.toks) (ch := [z, TI, TO, i1, i2]) (fun c o hb q =>
      hk c o (fun q' => hb (by simp [q'])) (fun q' => hb (by simp [q'])) (fun q' => hb (by simp [q'])) (fun q' => hb (by simp [q'])) q) hf⟩
  self := fun A i s Q E st h => wpAny_pyIter_zip st.1 h
def iZip (K : PySem.W.Frag) (ta : TA) : TI := fun σ H R => ta σ H fun vs H1 => ∃ a b xs ys, vs = [.ref a, .ref b] ∧ SqL K H1 a xs ∧ SqL K H1 b ys ∧ R (Itz K a b) H1
theorem pi_zip {X : Cx} {e e2 : Expr} {ta : TA} {p pos tpos : Pos} {elts : List Expr} {kk : Nat} (hg : Gl X "zip") (hm : X.mg "zip" = none) (ha : PA X [e, e2] ta)
    (hs : starEach [e, e2] X.env = (false, eval e X.env) :: starEach [e2] X.env := by rfl) (hpl : (backTo pos (starEach [e2] X.env)).any (·.1) = false := by rfl) :
    PI X (.Tuple elts kk tpos) (.Call (.Name "zip" p) [e, e2] [] pos) (iZip X.K ta) := by
  intro pins s σ H R I h
  refine Call_ (ld_blt I hg hm boot_zip5 (PyProof.Rows.callWith_type1 (thn (ha pos pins s σ H _ I h) fun us s1 ⟨vs, H1, I1, r1, q1⟩ => ?_) hs hpl))
  obtain ⟨a, b, xs, ys, ex, hqx, hqy, q⟩ := q1
  subst ex
  cases r1 with
  | cons r rr =>
    cases rr with
    | cons r' rr =>
      cases rr
      cases r
      cases r'
      obtain ⟨its, rv, p1, _⟩ := I1.list hqx
      obtain ⟨its2, rv2, p2, _⟩ := I1.list hqy
      have la : a < s1.heap.objs.size := p1.lt
      have lb : b < s1.heap.objs.size := p2.lt
      refine call_zip_2 p1.isList p2.isList fun h' hz hTI hTO h1 h2 hsz hk => wpAny_pyIter_zip hz ?_
      have I2 : Inv X pins σ H1 { s1 with heap := h' } := I1.kept (t' := s1.toks) hk
      refine ⟨s1.heap.objs.size + 4, [s1.heap.objs.size + 4, s1.heap.objs.size + 2, s1.heap.objs.size + 3, s1.heap.objs.size, s1.heap.objs.size + 1], _, _, H1, rfl, I2, turn_zip (PySem.W.ktu_apart s1.heap.objs.size a b la lb), ⟨hz, hTI, ⟨_, _, hTO⟩, h1, h2⟩, fun c hcm => ?_, q⟩
      have e' : c = s1.heap.objs.size + 4 ∨ c = s1.heap.objs.size + 2 ∨ c = s1.heap.objs.size + 3 ∨ c = s1.heap.objs.size ∨ c = s1.heap.objs.size + 1 := by simpa using hcm
      have hle : s1.heap.objs.size ≤ c := by
        rcases e' with z | z | z | z | z
        · rw [z]; exact Nat.le_add_right _ _
        · rw [z]; exact Nat.le_add_right _ _
        · rw [z]; exact Nat.le_add_right _ _
        · rw [z]; exact Nat.le_refl _
        · rw [z]; exact Nat.le_add_right _ _
      exact I1.fpOk hle (I1.hok.fresh hle)
end L2

section 
namespace Bits
open PySem PyProof.Rows

theorem nat_xor_add_and (m : Nat) : ∀ n : Nat, (m ^^^ n) + 2 * (m &&& n) = m + n := by
  induction m using Nat.strongRecOn with
  | _ m ih =>
    intro n
    by_cases h0 : m = 0
    · subst h0
      simp
    · have ih' := ih (m / 2) (by omega) (n / 2)
      rw [← Nat.xor_div_two, ← Nat.and_div_two] at ih'
      have o1 := @Nat.xor_mod_two_eq_one m n
      have a1 := @Nat.and_mod_two_eq_one m n
      omega

theorem bitXor_pp {x y : Int} (hx : 0 ≤ x) (hy : 0 ≤ y) : Builtin.bitXor x y = ((x.toNat ^^^ y.toNat : Nat) : Int) := by
  have e := nat_xor_add_and x.toNat y.toNat
  rw [bitXor_and, bitAnd_pp hx hy]
  omega
theorem bitOr_pp {x y : Int} (hx : 0 ≤ x) (hy : 0 ≤ y) : Builtin.bitOr x y = ((x.toNat ||| y.toNat : Nat) : Int) := by
  have e := nat_or_add_and x.toNat y.toNat
  rw [bitOr_and, bitAnd_pp hx hy]
  omega
end Bits
end 

section 
namespace TL
open PySem PySem.Builtin PySem.Builtin.Str PySem.StrLaws

abbrev tl (x : Str) : List Nat := x.cps.toList
/-! ### the list functions -/
/-- S stands at the head of l -/
def pre (S l : List Nat) : Bool := l.take S.length == S
/-- l cut at each S from the left; k signs are still to be passed over -/
def spl (S : List Nat) : Nat → List Nat → List Nat → List (List Nat)
  | _, acc, [] => [acc]
  | 0, acc, c :: r => if pre S (c :: r) = true then acc :: spl S (S.length - 1) [] r else spl S 0 (acc ++ [c]) r
  | k + 1, acc, _ :: r => spl S k acc r
/-- what stands before the first S, and behind it -/
def par (S : List Nat) : List Nat → List Nat → Option (List Nat × List Nat)
  | _, [] => none
  | acc, c :: r => if pre S (c :: r) = true then some (acc, (c :: r).drop S.length) else par S (acc ++ [c]) r

/-! ### the model's split and partition are these -/
theorem kind_ok {x y : Str} (h : y.cps.all (· < 256) = true) : ¬ Builtin.Str.strKind x < Builtin.Str.strKind y := by
  have e : Builtin.Str.strKind y = 1 := by unfold PySem.Builtin.Str.strKind; rw [if_pos h]
  rw [e]
  unfold PySem.Builtin.Str.strKind
  split
  · omega
  · split <;> omega

/-! ### computing spl and par -/
/-! ### digits -/
/-! ### words: x.split() -/
end TL
end 

namespace L2
open PySem PySem.Spec PyProof.Rows

section
variable {X : Cx} {pins : List (Addr × Obj)} {σ : St} {H : Hp} {s : Shared} {Q : VK}
end

section
variable {X : Cx}

/-! ### of a text alone -/
/-! ### of a text and a text -/
end

section
variable {X : Cx} {o e : Expr} {to te : TE}
end
end L2

namespace L2
open PySem PySem.Spec PyProof.Rows

section
variable {X : Cx}
end

/-! ### slices of a text -/
end L2

namespace Att
open PySem PySem.W PySem.Calls PyProof.Rows

/-! ### the script -/
theorem ints_of_wellAll {P : Params} {h : Heap} : ∀ (ns : List Int) (vs : List Value), WellAll P h vs (ns.map WData.int) → IntsAre vs ns := by
  intro ns
  induction ns with
  | nil =>
    intro vs w
    rw [List.map_nil] at w
    cases w
    exact .nil
  | cons n ns ih =>
    intro vs w
    rw [List.map_cons] at w
    cases w with
    | cons a b =>
      cases a
      exact .cons _ _ (ih _ b)

theorem script_of {l : OpenLaw} {n : Nat} (hn : l.most = some n) {P : Params} {h : Heap} {args : List WData} {vals : List Value}
    (hpre : l.row.toRowW.claim.pre args = true) (hwl : WellAll P h vals args) :
    ∃ a vs ns, vals = [Value.ref a] ∧ args = [WData.list (ns.map WData.int)] ∧ h.get? a = some { cls := .type "list", data := .seq vs.toArray } ∧ IntsAre vs ns ∧ ns.length ≤ n := by
  have hsh : WShape.hasAll [] args [.list .int] = true := (pre_splitW hpre).1
  have hc : l.pre.holds [] { args := args } = true := (pre_splitW hpre).2
  obtain ⟨d, r, rfl, h1, h2⟩ := hasAllW_cons hsh
  obtain rfl := hasAllW_nil h2
  obtain ⟨xs, rfl, h3⟩ := hasW_list h1
  obtain ⟨ns, rfl⟩ := items_int h3
  have hlen : ns.length ≤ n := by
    unfold OpenLaw.pre at hc
    have h4 : (WTm.not (.lt (.lit (.int (n : Int))) (.len (.arg 0)))).holds [] { args := [.list (ns.map .int)] } = true := by
      have h4 := (holds_andW hc).1
      rw [hn] at h4
      exact h4
    have h5 := condW_of h4 (w_not (w_lt w_lit (w_len_list (w_arg rfl))))
    rw [List.length_map] at h5
    refine Nat.le_of_not_lt fun q => ?_
    have q' : (n : Int) < ((ns.length : Nat) : Int) := by omega
    first
      | (rw [decide_eq_true q'] at h5; exact absurd h5 (by decide))
      | (simp at h5; omega)
  cases hwl with
  | cons w1 w2 =>
    cases w2
    cases w1 with
    | list ho hall => exact ⟨_, _, ns, rfl, rfl, ho, ints_of_wellAll ns _ hall, hlen⟩

theorem post_true (l : OpenLaw) (args : List WData) : l.row.toRowW.claim.post args (.bool true) args = true :=
  postW_of (r := l.row.toRowW) (X := (true == true))
    (show WShape.has [] (.bool true) .bool = true by first | rfl | decide | simp [WShape.has, WShape.arms, WShape.armsAll])
    (show (WTm.eq .res (.lit (.bool true))).value [] { args := args, res := some (.bool true), after := args } = some (.bool (true == true)) from w_eq_bool (w_res rfl) w_lit) rfl

/-! ### the attachment: holds_open's last premise (the goal 'hc' behind k_head) from a wpAny of the law's body -/
/-- the same from a codeAny of the CALL (for a layer whose function contracts speak of calls) -/
theorem attach_call {l : OpenLaw} {n : Nat} {q : Program} {loose : List Str} {XP : (Str → Option Value) → Heap → Prop} {YP : World → Heap → Prop} {d : DefRec}
    (hn : l.most = some n) (hdf : d.params.defaults = [])
    (call : ∀ (w : World) (s₀ s₁ : Shared) (mg mb : Str → Option Value) (fa : Addr) (o : Obj) (pm cd doc : Value) (a : Addr) (vs : List Value) (ns : List Int),
      Ground q loose [] XP w s₀ mg mb s₁.heap → YP w s₁.heap →
      s₁.heap.get? fa = some o → o.data = .func (docDef d.name d.params d.body d.scope pm cd doc) → s₁.heap.CodeRec cd d.name → mg d.name = some (.ref fa) →
      s₁.heap.get? a = some { cls := .type "list", data := .seq vs.toArray } → IntsAre vs ns → ns.length ≤ n → s₁.gens = #[] →
      codeAny (model l.prog w) callerA (.call (.ref fa) ⟨[.ref a], []⟩) (fun r s' => r = .ok (.ret (.bool true)) ∧ OldK s₁.heap s'.heap ∧ s'.os = s₁.os ∧ AllBare s'.gens) s₁) :
    WalkO q loose XP YP l.row.toRowW d [] (fun f vs => PySem.call f vs) := by
  intro w s₀ s₁ mg mb G Y fa o pm cd doc dV kV ho hd hcd hD hmg hg args vals as hpre hlay hrd hwl hlo
  obtain rfl : dV = .none := Dflts.none hD hdf
  obtain rfl : kV = .none := Dflts.noKw hD
  obtain ⟨a, vs, ns, rfl, rfl, hobj, hints, hlen⟩ := script_of hn hpre hwl
  refine enter_call (codeAny_mono (call w s₀ s₁ mg mb fa o pm cd doc a vs ns G Y ho (fd_plain hd) hcd hmg hobj hints hlen hg) fun r s' hq => ?_)
  obtain ⟨rfl, h2, h3, h4⟩ := hq
  exact ⟨.inl ⟨.bool true, .bool true, [], rfl, fun _ => rfl, .bool true, post_true l _, fun _ => ⟨List.Pairwise.nil, fun _ hm => (nomatch hm)⟩⟩, h2, h3, h4⟩

/-! ### rules over ANY heap (no ledger) from facts about the written part K: the library's own take a ledger (News) for what they write -/
section
variable {prog : Program} {w : World} {A : Around} {E : Value → Shared → Prop} {s : Shared} {K : Frag}

/-! the whole heap as the ledger: makes every rule that writes through a ledger a rule over any heap -/
def ledger (h : Heap) (L d : Addr) : List (Addr × Obj) := (List.range h.objs.size).filterMap fun a => if a = L ∨ a = d then none else (h.get? a).map fun o => (a, o)
end
end Att

namespace L2
open PySem PySem.Spec PyProof.Rows

theorem vals_ints : ∀ {vs : List Value} {ns : List Int}, IntsAre vs ns → Vals (ns.map V.int) vs
  | _, _, .nil => .nil
  | _, _, .cons n t h => .cons ⟨t, rfl⟩ (vals_ints h)

/-- nothing is tracked but the script, known to the object (or it is an object of the module) -/
def Only (H : Hp) : Prop := ∀ b, H b = none ∨ ∃ o xs, H b = some (.frz o (.lst xs))

/-- THE HEAD: the law's promise, at the heap behind the top. F, the promise of the law's def, may use that base is part of the heap (so K.In base, base.Ns mainGlobals mg stand in Mod) -/
theorem law_call {P : Program} {w : World} {K : PySem.W.Frag} {mg mb : Str → Option Value} {CX : CXT} {k : Nat} {fa a : Addr} {fd : FuncData} {x : Str} {sp : Sp} {s₁ : Shared} {vs : List Value} {ns : List Int}
    (KX : K.In s₁.heap) (hns : s₁.heap.Ns mainGlobals mg) (hb : s₁.heap.Ns builtinsNs mb) (hbb : ∀ x : Str, x ≠ "__name__" → mb x = bootBuiltins x) (hlim : s₁.heap.NoLimit) (hg : s₁.gens = #[])
    (ha : s₁.heap.get? a = some { cls := .type "list", data := .seq vs.toArray }) (hi : IntsAre vs ns) (hl : ns.length ≤ sizeLine) (hr : Room k callerA)
    (F : ∀ base : Heap, K.In base → base.Ns mainGlobals mg → FnOk P w K mg base CX k fa fd [x] sp) (hbind : ∀ (s : Shared) (u : Value), BindsTo s fd ⟨[u], []⟩ [(x, u)])
    (hsp : ∀ H : Hp, Only H → SqL K H a (ns.map V.int) → sp [.ref a] H (fun v _ => v = .bl true) fun _ _ _ => False)
    (hCX : ∀ H e s', CX [] H s₁ (fun _ _ _ => False) e s' → False) :
    codeAny (model P w) callerA (.call (.ref fa) ⟨[.ref a], []⟩) (fun r s' => r = .ok (.ret (.bool true)) ∧ OldK s₁.heap s'.heap ∧ s'.os = s₁.os ∧ AllBare s'.gens) s₁ := by
  have rv := vals_ints hi
  have lenV := hi.length
  -- from an abstract heap in which nothing but the script may be tracked
  have core : ∀ H : Hp, Only H → SqL K H a (ns.map V.int) → HOk P w H s₁.heap → (∀ b, H b ≠ none → b = a) → (H a ≠ none → K.lookup a = none) →
      codeAny (model P w) callerA (.call (.ref fa) ⟨[.ref a], []⟩) (fun r s' => r = .ok (.ret (.bool true)) ∧ OldK s₁.heap s'.heap ∧ s'.os = s₁.os ∧ AllBare s'.gens) s₁ := by
    intro H hO hS hok hA hK
    have base_of : ∀ {b : Addr} {o : Obj}, s₁.heap.get? b = some o → H b = none → (hidT s₁.heap H).get? b = some o := fun e n => hidT_get e n
    have noA : ∀ {b : Addr} {o : Obj} {es : Array DictEntry} {ep : Nat}, s₁.heap.get? b = some o → o.data = .dict es ep → H b = none := fun {b o es ep} e d => by
      cases q : H b with
      | none => rfl
      | some u =>
        have e' : b = a := hA b (by rw [q]; simp)
        subst e'
        rw [ha] at e; cases e
        have d' : Data.seq vs.toArray _ = Data.dict es ep := d
        cases d'
    have nsK : ∀ {b : Addr} {m : Str → Option Value}, s₁.heap.Ns b m → (hidT s₁.heap H).Ns b m := fun {b m} ⟨o, es, ep, e, d, r⟩ => ⟨o, es, ep, base_of e (noA e d), d, r⟩
    have hKb : K.In (hidT s₁.heap H) := fun b o e => base_of (KX b o e) (by
      cases q : H b with
      | none => rfl
      | some u =>
        have e' : b = a := hA b (by rw [q]; simp)
        subst e'
        rw [hK (by rw [q]; simp)] at e; cases e)
    have hM : Mod K mg (hidT s₁.heap H) := ⟨hKb, nsK hns, ⟨mb, nsK hb, hbb⟩, let ⟨mc, h1, h2⟩ := hlim; ⟨mc, nsK h1, h2⟩⟩
    have e0 : Env0 P w K mg (hidT s₁.heap H) callerA [] s₁ H := ⟨rfl, hM, fun b o e => of_hidT e, Nat.le_of_eq (hidT_size _ _), trivial, fun b hb => absurd (show b ∈ ([] : List Addr) from hb) (by simp), hok, .of_eq hg⟩
    refine codeAny_mono ((F _ hKb (nsK hns)).run callerA [] s₁ H ⟨[.ref a], []⟩ [.ref a] [.ref a] _ _ hr e0 (hbind s₁ (.ref a)) (.cons rfl .nil) (hsp H hO hS)) fun r s' h => ?_
    cases r with
    | error e => exact (hCX H e s' h).elim
    | ok fl =>
      cases fl with
      | next => exact False.elim h
      | brk => exact False.elim h
      | cont => exact False.elim h
      | ret u =>
        obtain ⟨v, H', os, bare, un, hok', r', q⟩ := h
        have q' : v = .bl true := q
        subst q'
        obtain rfl : u = Value.bool true := r'
        refine ⟨rfl, OldK.of_keep fun b o e => ?_, os, bare⟩
        cases q : H b with
        | none => exact un.keep b o e q (by intro z; exact absurd (show b ∈ ([] : List Addr) from z) (by simp)) (by simp)
        | some u =>
          rcases hO b with z | ⟨ob, xs, z⟩
          · rw [q] at z; cases z
          · have z2 := un.frzs b ob _ z
            obtain ⟨e1, _⟩ := hok b _ z
            obtain ⟨e2, _⟩ := hok' b _ z2
            rw [e] at e1; cases e1
            exact e2
  cases hk : K.lookup a with
  | some o =>
    -- the script is one of the module's own objects
    have e := KX a o hk
    rw [ha] at e
    cases e
    refine core (fun _ => none) (fun _ => .inl rfl) (.inr ⟨_, vs.toArray, _, hk, rfl, rfl, rfl, by rw [List.size_toArray, lenV]; exact hl, by simpa using rv⟩) (fun b u z => by have z' : (none : Option HO) = some u := z; cases z') (fun b z => absurd rfl z) fun z => absurd rfl z
  | none =>
    refine core (fun b => if b = a then some (.frz { cls := .type "list", data := .seq vs.toArray } (.lst (ns.map V.int))) else none) (fun b => ?_) (.inl (.inr ⟨{ cls := .type "list", data := .seq vs.toArray }, if_pos rfl⟩)) (fun b u z => ?_) (fun b z => ?_) fun _ => hk
    · by_cases hb : b = a
      · exact .inr ⟨_, _, if_pos hb⟩
      · exact .inl (if_neg hb)
    · by_cases hb : b = a
      · have z' := (if_pos hb).symm.trans z
        cases z'
        subst hb
        exact ⟨ha, by rw [List.length_map]; exact hl, vs, _, rv, ha⟩
      · have z' := (if_neg hb).symm.trans z
        cases z'
    · by_cases hb : b = a
      · exact hb
      · exact absurd (if_neg hb) z
end L2

namespace L2
open PySem PySem.Spec PyProof.Rows

abbrev KOf {K : PySem.W.Frag} {h : Heap} (_ : K.In h) : PySem.W.Frag := K

/-- the goal that k_head leaves (case hc), from the law's promise. F gives the function object fd (K's own) once, then the promise over every base -/
theorem walk_of {l : PySem.W.OpenLaw} {n k : Nat} {q : Program} {loose : List Str} {XP : (Str → Option Value) → Heap → Prop} {YP : World → Heap → Prop} {d : DefRec} {K : Params → PySem.W.Frag} {CX : World → CXT} {sp : World → Sp} {x : Str}
    (hn : l.most = some n) (hn2 : n ≤ sizeLine) (hdf : d.params.defaults = []) (hr : Room k callerA)
    (hY : ∀ (w : World) (h : Heap), YP w h → (K w.params).In h)
    (F : ∀ (w : World) (mg : Str → Option Value) (fa : Addr) (h : Heap), (K w.params).In h → h.Ns mainGlobals mg → mg d.name = some (.ref fa) →
      ∃ fd : FuncData, (∀ (s : Shared) (u : Value), BindsTo s fd ⟨[u], []⟩ [(x, u)]) ∧
        ∀ base : Heap, (K w.params).In base → base.Ns mainGlobals mg → FnOk l.prog w (K w.params) mg base (CX w) k fa fd [x] (sp w))
    (hsp : ∀ (w : World) (H : Hp) (a : Addr) (ns : List Int), ns.length ≤ n → Only H → SqL (K w.params) H a (ns.map V.int) → sp w [.ref a] H (fun v _ => v = .bl true) fun _ _ _ => False)
    (hCX : ∀ (w : World) (H : Hp) (s : Shared) (e : Value) (s' : Shared), CX w [] H s (fun _ _ _ => False) e s' → False) :
    PySem.W.WalkO q loose XP YP l.row.toRowW d [] (fun f vs => PySem.call f vs) := by
  refine Att.attach_call hn hdf fun w s₀ s₁ mg mb fa o pm cd doc a vs ns G Y ho hd hcd hmg hobj hints hlen hg => ?_
  have KX := hY w _ Y
  obtain ⟨fd, hb, hF⟩ := F w mg fa _ KX G.T.g hmg
  exact law_call KX G.T.g G.T.b G.T.builtins G.T.nolimit hg hobj hints (Nat.le_trans hlen hn2) hr hF hb (fun H hO hS => hsp w H a ns hlen hO hS) fun H e s' => hCX w H s₁ e s'
end L2

/- THE LAST THEOREM (shape; LID, My.* are yours):
   My.Adr: a structure of the addresses that your layer names (classes, functions); My.Txt K t: a structure (Prop) of the equations over K;
   My.txt_mk : {K} {implicit addresses ..} (e1 : nsIn K mainGlobals "law" = some (some (.ref f))) (e2 : K.lookup f = some ⟨oc, od, .func (fnOf "law" "law" params body scope dV kV doc pm an cdv ct), sl⟩) (e3 : codeIn K cdv "law" = true) .. : ∃ t, My.Txt K t

set_option maxRecDepth 100000 in
set_option maxHeartbeats 0 in
theorem PySem.Challenge.cw_LID_holds : PySem.Challenge.rw_LID.Holds := by
  w_on; o_law; k_head; (case hw => w_witness2)
  k_fill
  refine L2.walk_of (l := PySem.Challenge.rw_LID) (n := 63) (k := 40) (x := "script") (CX := fun w => ..) (sp := fun _ => My.sp_law) rfl (by decide) rfl ⟨rfl, by decide, by decide⟩ (fun w h Y => PySem.W.kIn_of Y) ?F ?S ?C
  case F =>
    intro w mg fa h KX G hmg
    have T : ∃ t, My.Txt (L2.KOf KX) t := by
      dsimp only [L2.KOf]                          -- K must stand as «<heap const> w.params» for k_is
      refine' My.txt_mk ?e1 ?e2 ?e3 ..
      (case e1 => PySem.W.k_is)                    -- in the order: a name -> its address -> its object -> its parts
      (case e2 => PySem.W.k_is)
      ..
    obtain ⟨t, T⟩ := T
    have e0 := hmg.symm.trans (PySem.W.mg_of KX G T.law)
    cases e0                                       -- fa is the law's own address
    exact ⟨_, fun s u => .of_eq rfl, fun base kb nb => My.law_fn T kb nb⟩     -- if «.of_eq rfl» comes too early: refine' ⟨_, ?b, fun base kb nb => My.law_fn T kb nb⟩; exact fun s u => .of_eq rfl
  case S => exact fun w H a ns hl hO hS => ..
  case C => exact ..
(the tactic k_is has no namespace: write k_is) -/

/-! SHORT WORDS over the layer: a def of the text, its body, what a loop and a test want. -/
namespace L2
open PySem PySem.Spec PyProof.Rows

/-! ### the text by places -/
/-- the j-th statement of a class's body -/
def inClass (s : Stmt) (j : Nat) : Stmt := match s with
  | .ClassDef _ _ _ body _ _ _ _ _ _ _ => body.getD j (.Pass ⟨0, 0, 0, 0⟩)
  | _ => .Pass ⟨0, 0, 0, 0⟩
def defArgs (s : Stmt) : Arguments := match s with
  | .FunctionDef _ a _ _ _ _ _ _ _ _ => a
  | _ => { posonlyargs := [], args := [], vararg := none, kwonlyargs := [], kw_defaults := [], kwarg := none, defaults := [] }
def defBody (s : Stmt) : List Stmt := match s with
  | .FunctionDef _ _ b _ _ _ _ _ _ _ => b
  | _ => []
def defScope (s : Stmt) : Scope := match s with
  | .FunctionDef _ _ _ _ _ _ sc _ _ _ => sc
  | _ => { kind := .function, names := [], isGenerator := false, isCoroutine := false }

/-! ### no exception leaves a def -/
abbrev CX0 : CXT := fun _ _ _ _ _ _ => False
abbrev E0 : XK := fun _ _ _ => False
theorem pass0 {X : Cx} : Passes CX0 X E0 := fun _ _ _ _ _ _ _ h => h.elim

/-! ### a def (or method) of the text as it stands behind the top -/
structure Fun (K : PySem.W.Frag) (x qual : Str) (st : Stmt) (f : Addr) (fd : FuncData) : Prop where
  ex : ∃ (oc : Value) (od : Option Addr) (kV doc pm : Value) (an : Option Addr) (cdv ct : Value) (osl : Array (Option Value)),
    fd = PySem.W.fnOf x qual (defArgs st) (defBody st) (defScope st) .none kV doc pm an cdv ct ∧ K.lookup f = some ⟨oc, od, .func fd, osl⟩ ∧ PySem.W.codeIn K cdv qual = true
  kp : PySem.W.keepIn K (.ref f) = true
section
variable {P : Program} {w : World} {K : PySem.W.Frag} {mg : Str → Option Value} {base : Heap}
/-- THE RULE for a def: its body as a term of rules, and the reading of that term -/
theorem Fun.ok {x qual : Str} {st : Stmt} {f : Addr} {fd : FuncData} {N ps : List Str} {k : Nat} {sp : Sp} (F : Fun K x qual st f fd) (S : FnScope N ps (defScope st)) (len : ∀ vs H Q E, sp vs H Q E → vs.length = ps.length)
    (hbody : ∀ (cdv : Value) (A : Around) (outer : List Env) (s : Shared) (H : Hp) (vs : List V) (Q : VK) (E : XK), Room k (A.deeper (envOfC qual (defScope st) s.heap.objs.size f cdv)) → sp vs H Q E →
      ∃ t, PSs (cxOf CX0 P w K mg base N qual (defScope st) f cdv A outer s H E).nox (defBody st) t ∧ t { nx := fun _ H' => Q .non H', rt := Q } (start N vs) H) : FnOk P w K mg base CX0 (k + 1) f fd ps sp := by
  obtain ⟨oc, od, kV, doc, pm, an, cdv, ct, osl, rfl, lk, hcd⟩ := F.ex
  refine fn_of lk hcd S len fun A outer s H vs Q E hr hsp => ?_
  obtain ⟨t, h, q⟩ := hbody cdv A outer s H vs Q E hr hsp
  exact ⟨t, h.nox, q⟩
/-- how its arguments bind (no defaults): h is «fun _ _ _ _ _ _ us hl => match us, hl with | [_, _], _ => rfl», one _ a parameter -/
theorem Fun.binds {x qual : Str} {st : Stmt} {f : Addr} {fd : FuncData} {ps : List Str} (F : Fun K x qual st f fd)
    (h : ∀ (kV doc pm : Value) (an : Option Addr) (cdv ct : Value) (us : List Value), us.length = ps.length → bindArgs (PySem.W.fnOf x qual (defArgs st) (defBody st) (defScope st) .none kV doc pm an cdv ct) ⟨us, []⟩ = pure (ps.zip us)) : Binds K fd ps [] := by
  obtain ⟨oc, od, kV, doc, pm, an, cdv, ct, osl, rfl, lk, hcd⟩ := F.ex
  exact .all (h kV doc pm an cdv ct)
theorem fun_mk {x qual : Str} {st : Stmt} {f : Addr} {oc : Value} {od an : Option Addr} {osl : Array (Option Value)} {kV doc pm cdv ct : Value} (l : K.lookup f = some ⟨oc, od, .func (PySem.W.fnOf x qual (defArgs st) (defBody st) (defScope st) .none kV doc pm an cdv ct), osl⟩)
    (c : PySem.W.codeIn K cdv qual = true) (k : PySem.W.keepIn K (.ref f) = true) : Fun K x qual st f (PySem.W.fnOf x qual (defArgs st) (defBody st) (defScope st) .none kV doc pm an cdv ct) := ⟨⟨oc, od, kV, doc, pm, an, cdv, ct, osl, rfl, l, c⟩, k⟩
end
theorem hu_of {A : Around} {k : Nat} (hr : Room k A) : A.units + 1 < cLine := Nat.lt_of_le_of_lt (Nat.add_le_add_left (by decide : 1 ≤ 64) _) hr.units
/-! ### expressions in short: the name that stands in the i-th slot -/
section
variable {X : Cx}
theorem pv (i : Nat) {x : Str} {pos : Pos} (hN : X.N[i]? = some x := by rfl) (hv : Vis X.env.scope x := by first | exact Or.inl rfl | exact Or.inr (Or.inl rfl) | exact Or.inr (Or.inr rfl)) (hd : (x == ("__debug__" : Str)) = false := by decide)
    (hcd : (x == ("__classdict__" : Str)) = false := by decide) : PE X (.Name x pos) (tVar i) := pe_var hN hv hd hcd
end

/-! ### tests -/
theorem iteF {A B : Prop} (h : B) : if false = true then A else B := by
  rw [if_neg Bool.false_ne_true]
  exact h
theorem iteT {A B : Prop} (h : A) : if true = true then A else B := by
  rw [if_pos rfl]
  exact h
/-! ### heaps -/
/-- all that was tracked is as it was -/
def Same (H H' : Hp) : Prop := ∀ b o, H b = some o → H' b = some o
theorem Same.refl (H : Hp) : Same H H := fun _ _ h => h
theorem Same.trans {H H1 H2 : Hp} (a : Same H H1) (b : Same H1 H2) : Same H H2 := fun c o h => b c o (a c o h)
theorem Same.free {H H' : Hp} (e : Same H H') {l : Addr} (h : H' l = Option.none) : H l = Option.none := by
  cases q : H l with
  | none => rfl
  | some o =>
    rw [e l o q] at h
    cases h
theorem Same.seq {K : PySem.W.Frag} {H H' : Hp} {a : Addr} {xs : List V} (e : Same H H') (h : SqL K H a xs) : SqL K H' a xs := by
  rcases h with (h | ⟨o, h⟩) | h
  · exact .inl (.inl (e _ _ h))
  · exact .inl (.inr ⟨o, e _ _ h⟩)
  · exact .inr h

/-! ### a dict's pairs: keys that differ -/
section
variable {κ : Type} [DecidableEq κ]
end
/-! ### lists -/
end L2


section
set_option Elab.async false
set_option linter.all false
set_option maxRecDepth 100000
set_option maxHeartbeats 2000000
namespace L2
open PySem PySem.Spec PyProof.Rows
open PySem.W (WData Codec OpenSpec Well WellAll ReadsW ReadsAllW)
/-! ### an answer as data -/
mutual
/-- x stands for the datum d, lists and tuples all the way -/
inductive Dw (K : PySem.W.Frag) (H : Hp) : V → WData → Prop
  | non : Dw K H .non .none
  | bl (b : Bool) : Dw K H (.bl b) (.bool b)
  | int (i : Int) : Dw K H (.int i) (.int i)
  | str (x : Str) : Dw K H (.str x) (.str x)
  | byt (b : Array UInt8) : Dw K H (.byt b) (.bytes b.toList)
  | lst {a : Addr} {xs : List V} {ds : List WData} : SqL K H a xs → DwAll K H xs ds → Dw K H (.ref a) (.list ds)
  | tup {a : Addr} {xs : List V} {ds : List WData} : SqT K H a xs → DwAll K H xs ds → Dw K H (.ref a) (.tuple ds)
inductive DwAll (K : PySem.W.Frag) (H : Hp) : List V → List WData → Prop
  | nil : DwAll K H [] []
  | cons {v : V} {vs : List V} {d : WData} {ds : List WData} : Dw K H v d → DwAll K H vs ds → DwAll K H (v :: vs) (d :: ds)
end
theorem dw_ints {K : PySem.W.Frag} {H : Hp} : ∀ ns : List Int, DwAll K H (ns.map V.int) (ns.map WData.int)
  | [] => .nil
  | n :: r => .cons (.int n) (dw_ints r)
theorem ints_dw {K : PySem.W.Frag} {H : Hp} : ∀ (ns : List Int) (xs : List V), DwAll K H xs (ns.map WData.int) → xs = ns.map V.int
  | [], xs, h => by
    cases h
    rfl
  | n :: r, xs, h => by
    cases h with
    | cons h1 h2 =>
      cases h1
      rw [ints_dw r _ h2] <;> rfl
section
variable {P : Program} {w : World} {K : PySem.W.Frag} {H : Hp} {h : Heap} {R : PySem.W.WRecords} {cl : Str → Option Addr}
theorem sqL_at {a : Addr} {xs : List V} (hok : HOk P w H h) (KX : K.In h) (q : SqL K H a xs) : ∃ (its : List Value) (o : Obj) (n : Nat), Vals xs its ∧ h.get? a = some o ∧ o.cls = .type "list" ∧ o.data = .seq its.toArray n := by
  rcases q with q | ⟨o, its, n, e, hc, _, hd, _, hv⟩
  · obtain ⟨_, its, n, hv, e⟩ := (show ObjOk P w H h a (.lst xs) from q.ok hok)
    exact ⟨its, _, n, hv, e, rfl, rfl⟩
  · exact ⟨its.toList, o, n, hv, KX _ _ e, hc, by simp [hd]⟩
theorem sqT_at {a : Addr} {xs : List V} (hok : HOk P w H h) (KX : K.In h) (q : SqT K H a xs) : ∃ (its : List Value) (o : Obj) (n : Nat), Vals xs its ∧ h.get? a = some o ∧ o.cls = .type "tuple" ∧ o.data = .seq its.toArray n := by
  rcases q with q | ⟨o, its, n, e, hc, hd, _, hv⟩
  · obtain ⟨_, its, hv, o, e, hc, n, hd⟩ := (show ObjOk P w H h a (.tup xs) from q.ok hok)
    exact ⟨its, o, n, hv, e, hc, hd⟩
  · exact ⟨its.toList, o, n, hv, KX _ _ e, hc, by simp [hd]⟩
mutual
theorem Dw.reads (hok : HOk P w H h) (KX : K.In h) : ∀ (d : WData) (v : V) (u : Value), Dw K H v d → RelV v u → ∃ as, ReadsW R cl h u d as
  | .none, _, _, x, r => by
    cases x
    cases r
    exact ⟨_, ReadsW.none⟩
  | .bool b, _, _, x, r => by
    cases x
    cases r
    exact ⟨_, ReadsW.bool b⟩
  | .int i, _, _, x, r => by
    cases x
    obtain ⟨t, rfl⟩ := r
    exact ⟨_, ReadsW.int i t⟩
  | .str s, _, _, x, r => by
    cases x
    obtain ⟨t, rfl⟩ := r
    exact ⟨_, ReadsW.str s t⟩
  | .bytes b, _, _, x, r => by
    cases x
    obtain ⟨t, rfl⟩ := r
    exact ⟨_, ReadsW.bytes _ t⟩
  | .list ds, _, _, x, r => by
    cases x with
    | lst hs ha =>
      cases r
      obtain ⟨its, o, n, rv, ho, hc, hd⟩ := sqL_at hok KX hs
      obtain ⟨as, hr⟩ := Dw.readsAll hok KX ds _ its ha rv
      exact ⟨_, ReadsW.list ho hc hd hr⟩
  | .tuple ds, _, _, x, r => by
    cases x with
    | tup hs ha =>
      cases r
      obtain ⟨its, o, n, rv, ho, hc, hd⟩ := sqT_at hok KX hs
      obtain ⟨as, hr⟩ := Dw.readsAll hok KX ds _ its ha rv
      exact ⟨_, ReadsW.tuple ho hc hd hr⟩
  | .float _, _, _, x, _ => by cases x
  | .dict _, _, _, x, _ => by cases x
  | .bytearray _, _, _, x, _ => by cases x
  | .set _, _, _, x, _ => by cases x
  | .frozenset _, _, _, x, _ => by cases x
  | .obj _ _, _, _, x, _ => by cases x
theorem Dw.readsAll (hok : HOk P w H h) (KX : K.In h) : ∀ (ds : List WData) (vs : List V) (us : List Value), DwAll K H vs ds → Vals vs us → ∃ as, ReadsAllW R cl h us ds as
  | [], _, _, x, r => by
    cases x
    cases r
    exact ⟨_, ReadsAllW.nil⟩
  | d :: ds, _, _, x, r => by
    cases x with
    | cons h1 h2 =>
      cases r with
      | cons r1 r2 =>
        obtain ⟨as, q1⟩ := Dw.reads hok KX d _ _ h1 r1
        obtain ⟨bs, q2⟩ := Dw.readsAll hok KX ds _ _ h2 r2
        exact ⟨_, ReadsAllW.cons q1 q2⟩
end
end
/-! ### the arguments -/
mutual
/-- data that a codec tells -/
def plW : WData → Bool
  | .none => true
  | .bool _ => true
  | .int _ => true
  | .str _ => true
  | .bytes _ => true
  | .list xs => plWs xs
  | .tuple xs => plWs xs
  | _ => false
def plWs : List WData → Bool
  | [] => true
  | x :: r => plW x && plWs r
end
theorem plWs_map {α : Type} {f : α → WData} (h : ∀ a, plW (f a) = true) : ∀ l : List α, plWs (l.map f) = true
  | [] => rfl
  | x :: r => by
    show (plW (f x) && plWs (r.map f)) = true
    rw [h x, plWs_map h r] <;> rfl
theorem pl_enc : ∀ (c : Codec) (a : c.denote), plW (c.enc a) = true
  | .unit, _ => rfl
  | .bool, _ => rfl
  | .int _ _, _ => rfl
  | .nat _ _, _ => rfl
  | .u8, _ => rfl
  | .bytes _ _, _ => rfl
  | .text _ _ _ _, _ => rfl
  | .list _ _ c, a => plWs_map (fun x => pl_enc c x) a
  | .pair c d, a => by
    show (plW (c.enc a.1) && (plW (d.enc a.2) && true)) = true
    rw [pl_enc c a.1, pl_enc d a.2] <;> rfl
  | .triple c d e, a => by
    show (plW (c.enc a.1) && (plW (d.enc a.2.1) && (plW (e.enc a.2.2) && true))) = true
    rw [pl_enc c a.1, pl_enc d a.2.1, pl_enc e a.2.2] <;> rfl
  | .option c, none => rfl
  | .option c, some x => pl_enc c x
theorem pl_encAll : ∀ (cs : List Codec) (a : Codec.denoteAll cs), plWs (Codec.encAll cs a) = true
  | [], _ => rfl
  | c :: cs, a => by
    show (plW (c.enc a.1) && plWs (Codec.encAll cs a.2)) = true
    rw [pl_enc c a.1, pl_encAll cs a.2] <;> rfl
theorem weight_mem : ∀ {xs : List WData} {d : WData}, d ∈ xs → d.weight ≤ WData.weightAll xs
  | [], d, h => absurd h (by simp)
  | x :: r, d, h => by
    show d.weight ≤ x.weight + 1 + WData.weightAll r
    rcases List.mem_cons.mp h with e | m
    · rw [e]
      omega
    · have z := weight_mem m
      omega
def toV : Value → V
  | .none => .non
  | .bool b => .bl b
  | .int i _ => .int i
  | .str x _ => .str x
  | .bytes b _ => .byt b
  | .ref a => .ref a
  | _ => .non
/-- a value of the arguments, its objects among A -/
def OkU (A : List Addr) : Value → Prop
  | .none => True
  | .bool _ => True
  | .int _ _ => True
  | .str _ _ => True
  | .bytes _ _ => True
  | .ref a => a ∈ A
  | _ => False
theorem OkU.mono {A B : List Addr} (h : ∀ a ∈ A, a ∈ B) : ∀ {u : Value}, OkU A u → OkU B u := fun {u} x => by
  cases u with
  | ref a => exact h a x
  | none => trivial
  | bool b => trivial
  | int i t => trivial
  | str s t => trivial
  | bytes b t => trivial
  | _ => exact False.elim x
theorem relV_toV {A : List Addr} {u : Value} (x : OkU A u) : RelV (toV u) u := by
  cases u with
  | ref a => rfl
  | none => rfl
  | bool b => rfl
  | int i t => exact ⟨t, rfl⟩
  | str s t => exact ⟨t, rfl⟩
  | bytes b t => exact ⟨t, rfl⟩
  | _ => exact False.elim x
theorem vals_toV {A : List Addr} : ∀ {vs : List Value}, (∀ u ∈ vs, OkU A u) → Vals (vs.map toV) vs
  | [], _ => .nil
  | u :: r, h => .cons (relV_toV (h u (List.mem_cons_self ..))) (vals_toV fun x hx => h x (List.mem_cons_of_mem _ hx))
/-- an object of the arguments -/
def ArgOb (h : Heap) (A : List Addr) (a : Addr) : Prop := ∃ vs : List Value, vs.length ≤ sizeLine ∧ (∀ u ∈ vs, OkU A u) ∧
  (h.get? a = some { cls := .type "list", data := .seq vs.toArray } ∨ h.get? a = some { cls := .type "tuple", data := .seq vs.toArray })
theorem ArgOb.mono {h : Heap} {A B : List Addr} {a : Addr} (k : ∀ a ∈ A, a ∈ B) (x : ArgOb h A a) : ArgOb h B a := by
  obtain ⟨vs, h1, h2, h3⟩ := x
  exact ⟨vs, h1, fun u hu => (h2 u hu).mono k, h3⟩
theorem wellAll_len {P : Params} {h : Heap} : ∀ {vs : List Value} {ds : List WData}, WellAll P h vs ds → vs.length = ds.length
  | _, _, .nil => rfl
  | _, _, .cons _ b => by
    show _ + 1 = _ + 1
    rw [wellAll_len b]
theorem well_list {P : Params} {h : Heap} {v : Value} {ds : List WData} (x : Well P h v (.list ds)) : ∃ (a : Addr) (vs : List Value), v = .ref a ∧ h.get? a = some { cls := .type "list", data := .seq vs.toArray } ∧ WellAll P h vs ds := by
  cases x with
  | list ho hall => exact ⟨_, _, rfl, ho, hall⟩
theorem well_tuple {P : Params} {h : Heap} {v : Value} {ds : List WData} (x : Well P h v (.tuple ds)) : ∃ (a : Addr) (vs : List Value), v = .ref a ∧ h.get? a = some { cls := .type "tuple", data := .seq vs.toArray } ∧ WellAll P h vs ds := by
  cases x with
  | tuple ho hall => exact ⟨_, _, rfl, ho, hall⟩
theorem well_cons {P : Params} {h : Heap} {us : List Value} {d : WData} {ds : List WData} (x : WellAll P h us (d :: ds)) : ∃ (v : Value) (vs : List Value), us = v :: vs ∧ Well P h v d ∧ WellAll P h vs ds := by
  cases x with
  | cons a b => exact ⟨_, _, rfl, a, b⟩
theorem line_of {n : Nat} (h : n ≤ 1048576) : n ≤ sizeLine := Nat.le_trans h (by decide)
section
variable {P : Params} {h : Heap}
mutual
theorem area_one : ∀ (d : WData) (v : Value), Well P h v d → plW d = true → d.weight ≤ 1048576 → ∃ A : List Addr, OkU A v ∧ ∀ a ∈ A, ArgOb h A a
  | .none, _, x, _, _ => by
    cases x
    exact ⟨[], trivial, fun a m => absurd m (by simp)⟩
  | .bool b, _, x, _, _ => by
    cases x
    exact ⟨[], trivial, fun a m => absurd m (by simp)⟩
  | .int i, _, x, _, _ => by
    cases x
    exact ⟨[], trivial, fun a m => absurd m (by simp)⟩
  | .str s, _, x, _, _ => by
    cases x
    exact ⟨[], trivial, fun a m => absurd m (by simp)⟩
  | .bytes b, _, x, _, _ => by
    cases x
    exact ⟨[], trivial, fun a m => absurd m (by simp)⟩
  | .list ds, _, x, p, z => by
    obtain ⟨a, vs, rfl, ho, hall⟩ := well_list x
    have z2 : WData.weightAll ds ≤ 1048576 := z
    obtain ⟨A, h1, h2⟩ := area_all ds _ hall p fun d hd => Nat.le_trans (weight_mem hd) z2
    have k : ∀ b ∈ A, b ∈ a :: A := fun b hb => List.mem_cons_of_mem _ hb
    refine ⟨a :: A, List.mem_cons_self .., fun b hb => ?_⟩
    rcases List.mem_cons.mp hb with e | m
    · rw [e]
      exact ⟨vs, line_of (by rw [wellAll_len hall]; exact Nat.le_trans (PySem.W.length_le_weightAllW ds) z2), fun u hu => (h1 u hu).mono k, .inl ho⟩
    · exact (h2 b m).mono k
  | .tuple ds, _, x, p, z => by
    obtain ⟨a, vs, rfl, ho, hall⟩ := well_tuple x
    have z2 : WData.weightAll ds ≤ 1048576 := z
    obtain ⟨A, h1, h2⟩ := area_all ds _ hall p fun d hd => Nat.le_trans (weight_mem hd) z2
    have k : ∀ b ∈ A, b ∈ a :: A := fun b hb => List.mem_cons_of_mem _ hb
    refine ⟨a :: A, List.mem_cons_self .., fun b hb => ?_⟩
    rcases List.mem_cons.mp hb with e | m
    · rw [e]
      exact ⟨vs, line_of (by rw [wellAll_len hall]; exact Nat.le_trans (PySem.W.length_le_weightAllW ds) z2), fun u hu => (h1 u hu).mono k, .inr ho⟩
    · exact (h2 b m).mono k
  | .float _, _, _, p, _ => Bool.noConfusion (show false = true from p)
  | .dict _, _, _, p, _ => Bool.noConfusion (show false = true from p)
  | .bytearray _, _, _, p, _ => Bool.noConfusion (show false = true from p)
  | .set _, _, _, p, _ => Bool.noConfusion (show false = true from p)
  | .frozenset _, _, _, p, _ => Bool.noConfusion (show false = true from p)
  | .obj _ _, _, _, p, _ => Bool.noConfusion (show false = true from p)
theorem area_all : ∀ (ds : List WData) (vs : List Value), WellAll P h vs ds → plWs ds = true → (∀ d ∈ ds, d.weight ≤ 1048576) → ∃ A : List Addr, (∀ u ∈ vs, OkU A u) ∧ ∀ a ∈ A, ArgOb h A a
  | [], _, x, _, _ => by
    cases x
    exact ⟨[], fun u m => absurd m (by simp), fun a m => absurd m (by simp)⟩
  | d :: ds, _, x, p, z => by
    obtain ⟨v, vs, rfl, x1, x2⟩ := well_cons x
    have q : plW d = true ∧ plWs ds = true := Bool.and_eq_true_iff.mp p
    obtain ⟨A, a1, a2⟩ := area_one d v x1 q.1 (z d (List.mem_cons_self ..))
    obtain ⟨B, b1, b2⟩ := area_all ds vs x2 q.2 fun e he => z e (List.mem_cons_of_mem _ he)
    have kA : ∀ b ∈ A, b ∈ A ++ B := fun b hb => List.mem_append.mpr (.inl hb)
    have kB : ∀ b ∈ B, b ∈ A ++ B := fun b hb => List.mem_append.mpr (.inr hb)
    refine ⟨A ++ B, fun u hu => ?_, fun b hb => ?_⟩
    · rcases List.mem_cons.mp hu with e | m
      · rw [e]
        exact a1.mono kA
      · exact (b1 u m).mono kB
    · rcases List.mem_append.mp hb with m | m
      · exact (a2 b m).mono kA
      · exact (b2 b m).mono kB
end
end
/-- what is tracked of an argument's object -/
def hoOf (o : Obj) : Option HO := match o.data with
  | .seq vs _ => if (o.cls == Value.type "list") = true then some (.frz o (.lst (vs.toList.map toV))) else some (.frz o (.tup (vs.toList.map toV)))
  | _ => none
def argH (K : PySem.W.Frag) (h : Heap) (A : List Addr) : Hp := fun b => if b ∈ A then (if (K.lookup b).isNone = true then (h.get? b).bind hoOf else none) else none
/-- nothing is tracked but what is known to the object -/
def OnlyF (H : Hp) : Prop := ∀ b, H b = none ∨ ∃ o u, H b = some (.frz o u)
theorem hoOf_lst (vs : List Value) : hoOf { cls := .type "list", data := .seq vs.toArray } = some (.frz { cls := .type "list", data := .seq vs.toArray } (.lst (vs.map toV))) := by
  show (if (Value.type "list" == Value.type "list") = true then some (HO.frz { cls := .type "list", data := .seq vs.toArray } (.lst (vs.toArray.toList.map toV))) else some (HO.frz { cls := .type "list", data := .seq vs.toArray } (.tup (vs.toArray.toList.map toV)))) = _
  rw [if_pos (beq_self_eq_true _)]
theorem hoOf_tup (vs : List Value) : hoOf { cls := .type "tuple", data := .seq vs.toArray } = some (.frz { cls := .type "tuple", data := .seq vs.toArray } (.tup (vs.map toV))) := by
  show (if (Value.type "tuple" == Value.type "list") = true then some (HO.frz { cls := .type "tuple", data := .seq vs.toArray } (.lst (vs.toArray.toList.map toV))) else some (HO.frz { cls := .type "tuple", data := .seq vs.toArray } (.tup (vs.toArray.toList.map toV)))) = _
  rw [if_neg (by decide)]
section
variable {P : Program} {w : World} {K : PySem.W.Frag} {h : Heap} {A : List Addr}
theorem argH_at {b : Addr} {o : Obj} (hb : b ∈ A) (hk : K.lookup b = none) (e : h.get? b = some o) : argH K h A b = hoOf o := by
  unfold argH
  rw [if_pos hb, hk, if_pos (show (none : Option Obj).isNone = true from rfl), e] <;> rfl
theorem of_argH {b : Addr} {u : HO} (q : argH K h A b = some u) : b ∈ A ∧ K.lookup b = none := by
  unfold argH at q
  by_cases hb : b ∈ A
  · rw [if_pos hb] at q
    cases hk : K.lookup b with
    | none => exact ⟨hb, rfl⟩
    | some o =>
      rw [hk, if_neg (by simp)] at q
      cases q
  · rw [if_neg hb] at q
    cases q
/-- what stands tracked -/
theorem argH_is (ar : ∀ a ∈ A, ArgOb h A a) {b : Addr} {u : HO} (q : argH K h A b = some u) : K.lookup b = none ∧ ∃ vs : List Value, vs.length ≤ sizeLine ∧ (∀ u ∈ vs, OkU A u) ∧
    ((h.get? b = some { cls := .type "list", data := .seq vs.toArray } ∧ u = .frz { cls := .type "list", data := .seq vs.toArray } (.lst (vs.map toV))) ∨
     (h.get? b = some { cls := .type "tuple", data := .seq vs.toArray } ∧ u = .frz { cls := .type "tuple", data := .seq vs.toArray } (.tup (vs.map toV)))) := by
  obtain ⟨hb, hk⟩ := of_argH q
  obtain ⟨vs, h1, h2, h3⟩ := ar b hb
  refine ⟨hk, vs, h1, h2, ?_⟩
  rcases h3 with e | e
  · rw [argH_at hb hk e, hoOf_lst] at q
    exact .inl ⟨e, (Option.some.inj q).symm⟩
  · rw [argH_at hb hk e, hoOf_tup] at q
    exact .inr ⟨e, (Option.some.inj q).symm⟩
theorem argH_only (ar : ∀ a ∈ A, ArgOb h A a) : OnlyF (argH K h A) := fun b => by
  cases q : argH K h A b with
  | none => exact .inl rfl
  | some u =>
    obtain ⟨_, vs, _, _, ⟨_, e⟩ | ⟨_, e⟩⟩ := argH_is ar q
    · exact .inr ⟨_, _, by rw [e]⟩
    · exact .inr ⟨_, _, by rw [e]⟩
theorem argH_ok (ar : ∀ a ∈ A, ArgOb h A a) : HOk P w (argH K h A) h := fun b u q => by
  obtain ⟨_, vs, h1, h2, ⟨e, rfl⟩ | ⟨e, rfl⟩⟩ := argH_is ar q
  · exact ⟨e, by rw [List.length_map]; exact h1, vs, _, vals_toV h2, e⟩
  · exact ⟨e, by rw [List.length_map]; exact h1, vs, vals_toV h2, _, e, rfl, _, rfl⟩
theorem seq_inj {c c' : Value} {vs us : List Value} (e : (some { cls := c, data := .seq vs.toArray } : Option Obj) = some { cls := c', data := .seq us.toArray }) : c = c' ∧ vs = us := by
  have e1 := Option.some.inj e
  have e2 : c = c' := congrArg Obj.cls e1
  have e3 : Data.seq vs.toArray = Data.seq us.toArray := congrArg Obj.data e1
  injection e3 with e4
  refine ⟨e2, ?_⟩
  have e5 := congrArg Array.toList e4
  simpa using e5
/-- a list argument -/
theorem argL (KX : K.In h) (ar : ∀ a ∈ A, ArgOb h A a) {a : Addr} {vs : List Value} (ha : a ∈ A) (e : h.get? a = some { cls := .type "list", data := .seq vs.toArray }) : (∀ u ∈ vs, OkU A u) ∧ SqL K (argH K h A) a (vs.map toV) := by
  obtain ⟨us, h1, h2, h3⟩ := ar a ha
  have hu : us = vs := by
    rcases h3 with q | q
    · rw [e] at q
      exact (seq_inj q).2.symm
    · rw [e] at q
      exact absurd (Value.type.inj (seq_inj q).1) (by decide)
  subst hu
  refine ⟨h2, ?_⟩
  cases hk : K.lookup a with
  | none => exact .inl (.inr ⟨_, by rw [argH_at ha hk e, hoOf_lst]⟩)
  | some o =>
    have e2 := KX a o hk
    rw [e] at e2
    obtain rfl := Option.some.inj e2
    exact .inr ⟨_, us.toArray, _, hk, rfl, rfl, rfl, by rw [List.size_toArray]; exact h1, by simpa using vals_toV h2⟩
theorem argT (KX : K.In h) (ar : ∀ a ∈ A, ArgOb h A a) {a : Addr} {vs : List Value} (ha : a ∈ A) (e : h.get? a = some { cls := .type "tuple", data := .seq vs.toArray }) : (∀ u ∈ vs, OkU A u) ∧ SqT K (argH K h A) a (vs.map toV) := by
  obtain ⟨us, h1, h2, h3⟩ := ar a ha
  have hu : us = vs := by
    rcases h3 with q | q
    · rw [e] at q
      exact absurd (Value.type.inj (seq_inj q).1) (by decide)
    · rw [e] at q
      exact (seq_inj q).2.symm
  subst hu
  refine ⟨h2, ?_⟩
  cases hk : K.lookup a with
  | none => exact .inl (.inr ⟨_, by rw [argH_at ha hk e, hoOf_tup]⟩)
  | some o =>
    have e2 := KX a o hk
    rw [e] at e2
    obtain rfl := Option.some.inj e2
    exact .inr ⟨_, us.toArray, _, hk, rfl, rfl, by rw [List.size_toArray]; exact h1, by simpa using vals_toV h2⟩
mutual
theorem dw_one {Pm : Params} (KX : K.In h) (ar : ∀ a ∈ A, ArgOb h A a) : ∀ (d : WData) (v : Value), Well Pm h v d → plW d = true → OkU A v → Dw K (argH K h A) (toV v) d
  | .none, _, x, _, _ => by
    cases x
    exact .non
  | .bool b, _, x, _, _ => by
    cases x
    exact .bl b
  | .int i, _, x, _, _ => by
    cases x
    exact .int i
  | .str s, _, x, _, _ => by
    cases x
    exact .str s
  | .bytes b, _, x, _, _ => by
    cases x
    have z := Dw.byt (K := K) (H := argH K h A) b.toArray
    exact z
  | .list ds, _, x, p, hu => by
    obtain ⟨a, vs, rfl, ho, hall⟩ := well_list x
    obtain ⟨h2, hs⟩ := argL KX ar hu ho
    exact .lst hs (dw_all KX ar ds _ hall p h2)
  | .tuple ds, _, x, p, hu => by
    obtain ⟨a, vs, rfl, ho, hall⟩ := well_tuple x
    obtain ⟨h2, hs⟩ := argT KX ar hu ho
    exact .tup hs (dw_all KX ar ds _ hall p h2)
  | .float _, _, _, p, _ => Bool.noConfusion (show false = true from p)
  | .dict _, _, _, p, _ => Bool.noConfusion (show false = true from p)
  | .bytearray _, _, _, p, _ => Bool.noConfusion (show false = true from p)
  | .set _, _, _, p, _ => Bool.noConfusion (show false = true from p)
  | .frozenset _, _, _, p, _ => Bool.noConfusion (show false = true from p)
  | .obj _ _, _, _, p, _ => Bool.noConfusion (show false = true from p)
theorem dw_all {Pm : Params} (KX : K.In h) (ar : ∀ a ∈ A, ArgOb h A a) : ∀ (ds : List WData) (vs : List Value), WellAll Pm h vs ds → plWs ds = true → (∀ u ∈ vs, OkU A u) → DwAll K (argH K h A) (vs.map toV) ds
  | [], _, x, _, _ => by
    cases x
    exact .nil
  | d :: ds, _, x, p, hu => by
    obtain ⟨v, vs, rfl, x1, x2⟩ := well_cons x
    have q : plW d = true ∧ plWs ds = true := Bool.and_eq_true_iff.mp p
    exact .cons (dw_one KX ar d v x1 q.1 (hu _ (List.mem_cons_self ..))) (dw_all KX ar ds vs x2 q.2 fun u m => hu u (List.mem_cons_of_mem _ m))
end
end
/-! ### the call -/
theorem spec_call {P : Program} {w : World} {K : PySem.W.Frag} {mg mb : Str → Option Value} {CX : CXT} {k : Nat} {fa : Addr} {fd : FuncData} {ps : List Str} {sp : Sp} {s₁ : Shared} {vals : List Value} {ds : List WData} {R : PySem.W.WRecords} {cl : Str → Option Addr} {d0 : WData}
    (KX : K.In s₁.heap) (hns : s₁.heap.Ns mainGlobals mg) (hb : s₁.heap.Ns builtinsNs mb) (hbb : ∀ x : Str, x ≠ "__name__" → mb x = bootBuiltins x) (hlim : s₁.heap.NoLimit) (hg : s₁.gens = #[])
    (hwl : WellAll w.params s₁.heap vals ds) (hpl : plWs ds = true) (hwt : ∀ d ∈ ds, d.weight ≤ 1048576) (hr : Room k callerA)
    (F : ∀ base : Heap, K.In base → base.Ns mainGlobals mg → FnOk P w K mg base CX k fa fd ps sp) (hbind : ∀ (s : Shared) (us : List Value), us.length = ps.length → BindsTo s fd ⟨us, []⟩ (ps.zip us)) (hlen : ds.length = ps.length)
    (hsp : ∀ (H : Hp) (xs : List V), OnlyF H → DwAll K H xs ds → sp xs H (fun v H' => Dw K H' v d0) fun _ _ _ => False)
    (hCX : ∀ H e s', CX [] H s₁ (fun _ _ _ => False) e s' → False) :
    codeAny (model P w) callerA (.call (.ref fa) ⟨vals, []⟩) (fun r s' => ∃ u as, r = .ok (.ret u) ∧ ReadsW R cl s'.heap u d0 as ∧ OldK s₁.heap s'.heap ∧ s'.os = s₁.os ∧ AllBare s'.gens) s₁ := by
  obtain ⟨A, ho, ar⟩ := area_all ds vals hwl hpl hwt
  have hO : OnlyF (argH K s₁.heap A) := argH_only ar
  have hok : HOk P w (argH K s₁.heap A) s₁.heap := argH_ok ar
  have hS := dw_all KX ar ds vals hwl hpl ho
  have hV := vals_toV ho
  have hK : ∀ b u, argH K s₁.heap A b = some u → K.lookup b = none := fun b u q => (argH_is ar q).1
  have noA : ∀ {b : Addr} {o : Obj} {es : Array DictEntry} {ep : Nat}, s₁.heap.get? b = some o → o.data = .dict es ep → argH K s₁.heap A b = none := fun {b o es ep} e d => by
    cases q : argH K s₁.heap A b with
    | none => rfl
    | some u =>
      obtain ⟨_, vs, _, _, ⟨e2, _⟩ | ⟨e2, _⟩⟩ := argH_is ar q
      · rw [e2] at e
        cases e
        have d' : Data.seq vs.toArray _ = Data.dict es ep := d
        cases d'
      · rw [e2] at e
        cases e
        have d' : Data.seq vs.toArray _ = Data.dict es ep := d
        cases d'
  generalize argH K s₁.heap A = H at hO hok hS hK noA
  have base_of : ∀ {b : Addr} {o : Obj}, s₁.heap.get? b = some o → H b = none → (hidT s₁.heap H).get? b = some o := fun e n => hidT_get e n
  have nsK : ∀ {b : Addr} {m : Str → Option Value}, s₁.heap.Ns b m → (hidT s₁.heap H).Ns b m := fun {b m} ⟨o, es, ep, e, d, r⟩ => ⟨o, es, ep, base_of e (noA e d), d, r⟩
  have nK : ∀ b o, K.lookup b = some o → H b = none := fun b o e => by
    cases q : H b with
    | none => rfl
    | some u =>
      rw [hK b u q] at e
      cases e
  have hKb : K.In (hidT s₁.heap H) := fun b o e => base_of (KX b o e) (nK b o e)
  have hM : Mod K mg (hidT s₁.heap H) := ⟨hKb, nsK hns, ⟨mb, nsK hb, hbb⟩, let ⟨mc, h1, h2⟩ := hlim; ⟨mc, nsK h1, h2⟩⟩
  have e0 : Env0 P w K mg (hidT s₁.heap H) callerA [] s₁ H := ⟨rfl, hM, fun b o e => of_hidT e, Nat.le_of_eq (hidT_size _ _), trivial, fun b hb => absurd (show b ∈ ([] : List Addr) from hb) (by simp), hok, .of_eq hg⟩
  have hl : vals.length = ps.length := by rw [wellAll_len hwl]; exact hlen
  refine codeAny_mono ((F _ hKb (nsK hns)).run callerA [] s₁ H ⟨vals, []⟩ vals (vals.map toV) _ _ hr e0 (hbind s₁ vals hl) hV (hsp H _ hO hS)) fun r s' x => ?_
  cases r with
  | error e => exact (hCX H e s' x).elim
  | ok fl =>
    cases fl with
    | next => exact False.elim x
    | brk => exact False.elim x
    | cont => exact False.elim x
    | ret u =>
      obtain ⟨v, H', os, bare, un, hok', r', q⟩ := x
      have kept : ∀ b o, s₁.heap.get? b = some o → s'.heap.get? b = some o := fun b o e => by
        cases q2 : H b with
        | none => exact un.keep b o e q2 (by intro z; exact absurd (show b ∈ ([] : List Addr) from z) (by simp)) (by simp)
        | some u2 =>
          rcases hO b with z | ⟨ob, u3, z⟩
          · rw [q2] at z
            cases z
          · have z2 := un.frzs b ob _ z
            obtain ⟨e1, _⟩ := hok b _ z
            obtain ⟨e2, _⟩ := hok' b _ z2
            rw [e] at e1
            cases e1
            exact e2
      have KX' : K.In s'.heap := fun b o e => kept b o (KX b o e)
      obtain ⟨as, hrd⟩ := Dw.reads (R := R) (cl := cl) hok' KX' d0 v u q r'
      exact ⟨u, as, rfl, hrd, OldK.of_keep kept, os, bare⟩
/-! ### the row -/
theorem layable_weight {ds : List WData} (h : WData.layableAll ds = true) : ∀ d ∈ ds, d.weight ≤ 1048576 := fun d hd =>
  (PySem.W.layableW_iff.mp (List.all_eq_true.mp h d hd)).2.2
theorem encAll_len : ∀ (cs : List Codec) (a : Codec.denoteAll cs), (Codec.encAll cs a).length = cs.length
  | [], _ => rfl
  | c :: cs, a => by
    show (Codec.encAll cs a.2).length + 1 = cs.length + 1
    rw [encAll_len cs a.2]
/-- the goal that k_headS leaves (case hc), from the promise of the row's def: whatever the arguments that the codecs let and the row asks for, the def gives what stands for enc (f ..) -/
theorem walk_spec {r : OpenSpec} {k : Nat} {q : Program} {loose : List Str} {XP : (Str → Option Value) → Heap → Prop} {YP : World → Heap → Prop} {d : DefRec} {K : Params → PySem.W.Frag} {CX : World → CXT} {ps : List Str} {sp : World → Sp}
    (hwell : r.wellSaid = true) (hdf : d.params.defaults = []) (hlen : r.args.length = ps.length) (hr : Room k callerA)
    (hY : ∀ (w : World) (h : Heap), YP w h → (K w.params).In h)
    (F : ∀ (w : World) (mg : Str → Option Value) (fa : Addr) (h : Heap), YP w h → (K w.params).In h → h.Ns mainGlobals mg → mg d.name = some (.ref fa) →
      ∃ fd : FuncData, (∀ (s : Shared) (us : List Value), us.length = ps.length → BindsTo s fd ⟨us, []⟩ (ps.zip us)) ∧
        ∀ base : Heap, (K w.params).In base → base.Ns mainGlobals mg → FnOk r.prog w (K w.params) mg base (CX w) k fa fd ps (sp w))
    (hsp : ∀ (w : World) (H : Hp) (xs : List V) (a : Codec.denoteAll r.args), OnlyF H → Codec.withinAll r.args a = true → Codec.app r.args r.asked a = true → DwAll (K w.params) H xs (Codec.encAll r.args a) →
      sp w xs H (fun v H' => Dw (K w.params) H' v (r.ret.enc (Codec.app r.args r.f a))) fun _ _ _ => False)
    (hCX : ∀ (w : World) (H : Hp) (s : Shared) (e : Value) (s' : Shared), CX w [] H s (fun _ _ _ => False) e s' → False) :
    PySem.W.WalkOS q loose XP YP r d [] (fun f vs => PySem.call f vs) := by
  intro w s_0 s₁ mg mb G Y fa o pm cd doc dV kV ho hd hcd hD hmg hg args vals as hpre hlay hrd hwl hlo
  obtain ⟨a, e1, e2⟩ := PySem.W.os_pre_some hpre
  obtain ⟨e3, hwi⟩ := Codec.encAll_of_decAll r.args args a e1
  subst e3
  have KX := hY w _ Y
  obtain ⟨fd, hb, hF⟩ := F w mg fa _ Y KX G.T.g hmg
  refine PySem.W.enter_call (codeAny_mono (spec_call (R := []) (cl := classAt s_0.heap) (d0 := r.ret.enc (Codec.app r.args r.f a)) KX G.T.g G.T.b G.T.builtins G.T.nolimit hg hwl (pl_encAll _ _) (layable_weight hlay) hr hF hb (by rw [encAll_len]; exact hlen)
    (fun H xs hO hS => hsp w H xs a hO hwi e2 hS) fun H e s' => hCX w H s₁ e s') fun r' s' hq => ?_)
  obtain ⟨u, as', rfl, h1, h2, h3, h4⟩ := hq
  exact ⟨.inl ⟨u, _, as', rfl, fun _ => rfl, h1, (OpenSpec.post_iff hwell hwi _ _).mpr rfl, fun z => Bool.noConfusion (show false = true from z)⟩, h2, h3, h4⟩
/-- the same where the promise hangs on the written part alone -/
theorem walk_specK {r : OpenSpec} {k : Nat} {q : Program} {loose : List Str} {XP : (Str → Option Value) → Heap → Prop} {YP : World → Heap → Prop} {d : DefRec} {K : Params → PySem.W.Frag} {CX : CXT} {ps : List Str} {sp : PySem.W.Frag → Sp}
    (hwell : r.wellSaid = true) (hdf : d.params.defaults = []) (hlen : r.args.length = ps.length) (hr : Room k callerA)
    (hY : ∀ (w : World) (h : Heap), YP w h → (K w.params).In h)
    (F : ∀ (w : World) (mg : Str → Option Value) (fa : Addr) (h : Heap), YP w h → (K w.params).In h → h.Ns mainGlobals mg → mg d.name = some (.ref fa) →
      ∃ fd : FuncData, (∀ (s : Shared) (us : List Value), us.length = ps.length → BindsTo s fd ⟨us, []⟩ (ps.zip us)) ∧
        ∀ base : Heap, (K w.params).In base → base.Ns mainGlobals mg → FnOk r.prog w (K w.params) mg base CX k fa fd ps (sp (K w.params)))
    (hsp : ∀ (K : PySem.W.Frag) (H : Hp) (xs : List V) (a : Codec.denoteAll r.args), OnlyF H → Codec.withinAll r.args a = true → Codec.app r.args r.asked a = true → DwAll K H xs (Codec.encAll r.args a) →
      sp K xs H (fun v H' => Dw K H' v (r.ret.enc (Codec.app r.args r.f a))) fun _ _ _ => False)
    (hCX : ∀ (H : Hp) (s : Shared) (e : Value) (s' : Shared), CX [] H s (fun _ _ _ => False) e s' → False) :
    PySem.W.WalkOS q loose XP YP r d [] (fun f vs => PySem.call f vs) :=
  walk_spec (K := K) (CX := fun _ => CX) (sp := fun w => sp (K w.params)) hwell hdf hlen hr hY F (fun w H xs a h1 h2 h3 h4 => hsp (K w.params) H xs a h1 h2 h3 h4) fun _ H s e s' => hCX H s e s'
end L2
end

set_option Elab.async false
namespace Elx
open Lx

/-! ### bits -/
theorem tb_log {e q : Nat} (h : e.testBit q = true) : q ≤ e.log2 := by
  have h1 : 2 ^ q ≤ e := Nat.ge_two_pow_of_testBit h
  have h2 : e ≠ 0 := by intro z; subst z; simp at h
  exact (Nat.le_log2 h2).mpr h1
theorem tb_log2 {e : Nat} (h : e ≠ 0) : e.testBit e.log2 = true := by
  have h1 : 2 ^ e.log2 ≤ e := Nat.log2_self_le h
  have h2 : e < 2 ^ (e.log2 + 1) := Nat.lt_log2_self
  rw [Nat.testBit_eq_decide_div_mod_eq]
  have h3 : e / 2 ^ e.log2 = 1 := by
    apply Nat.div_eq_of_lt_le
    · omega
    · rw [Nat.pow_succ] at h2; omega
  rw [h3]; rfl
theorem mem_placesIn {p e q : Nat} : q ∈ placesIn p e ↔ p ≤ q ∧ e.testBit q = true := by
  unfold placesIn
  split
  · rename_i h; subst h; simp
  · rw [List.mem_filter, List.mem_map]
    constructor
    · rintro ⟨⟨k, hk, rfl⟩, h⟩
      exact ⟨Nat.le_add_right _ _, h⟩
    · rintro ⟨h1, h2⟩
      refine ⟨⟨q - p, ?_, ?_⟩, h2⟩
      · have := tb_log h2
        rw [List.mem_range]; omega
      · omega
/-- all bits from p on, at most n -/
def Within (p n e : Nat) : Prop := ∀ q, e.testBit q = true → p ≤ q ∧ q ≤ n
theorem within_zero (p n : Nat) : Within p n 0 := fun q h => by simp at h
theorem last_placesIn {p n e : Nat} (h : e ≠ 0) (w : Within p n e) : (placesIn p e).getLast? = some e.log2 := by
  have h1 := w _ (tb_log2 h)
  unfold placesIn
  rw [if_neg h]
  have h2 : e.log2 + 1 - p = (e.log2 - p) + 1 := by omega
  rw [h2, List.range_succ, List.map_append, List.filter_append]
  have h3 : p + (e.log2 - p) = e.log2 := by omega
  have h4 : (List.map (fun k => p + k) [e.log2 - p]).filter e.testBit = [e.log2] := by
    simp [h3, tb_log2 h]
  rw [h4, List.getLast?_concat]
theorem placesIn_zero (p : Nat) : placesIn p 0 = [] := by unfold placesIn; simp
/-- how many bytes the longest has, by the ends' number -/
def lenOf (p e : Nat) : Nat := if e = 0 then 0 else e.log2 - p
def endOf (l : List Nat) (p : Nat) : Nat := match l.getLast? with
  | none => 0
  | some q => q - p
theorem endOf_placesIn {p n e : Nat} (w : Within p n e) : endOf (placesIn p e) p = lenOf p e := by
  unfold endOf lenOf
  by_cases h : e = 0
  · subst h; rw [placesIn_zero]; simp
  · rw [last_placesIn h w, if_neg h]

/-! ### unions -/
def orAll (y : List Nat) (l : List Nat) (a : Nat) : Nat := l.foldl (fun (e : Nat) (q : Nat) => e ||| y.getD q 0) a
theorem tb_orAll (y : List Nat) (j : Nat) : ∀ (l : List Nat) (a : Nat), (orAll y l a).testBit j = true ↔ (a.testBit j = true ∨ ∃ q, q ∈ l ∧ (y.getD q 0).testBit j = true)
  | [], a => by unfold orAll; simp
  | x :: l, a => by
    have ih := tb_orAll y j l (a ||| y.getD x 0)
    have e : orAll y (x :: l) a = orAll y l (a ||| y.getD x 0) := rfl
    rw [e, ih, Nat.testBit_or, Bool.or_eq_true]
    constructor
    · rintro ((h | h) | ⟨q, h1, h2⟩)
      · exact .inl h
      · exact .inr ⟨x, List.mem_cons_self .., h⟩
      · exact .inr ⟨q, List.mem_cons_of_mem _ h1, h2⟩
    · rintro (h | ⟨q, h1, h2⟩)
      · exact .inl (.inl h)
      · rcases List.mem_cons.mp h1 with rfl | h1
        · exact .inl (.inr h2)
        · exact .inr ⟨q, h1, h2⟩
/-- all that is reached from the places of e -/
def uni (y : List Nat) (e : Nat) : Nat := orAll y (placesIn 0 e) 0
theorem tb_uni {y : List Nat} {e j : Nat} : (uni y e).testBit j = true ↔ ∃ q, e.testBit q = true ∧ (y.getD q 0).testBit j = true := by
  unfold uni
  rw [tb_orAll]
  constructor
  · rintro (h | ⟨q, h1, h2⟩)
    · simp at h
    · exact ⟨q, (mem_placesIn.mp h1).2, h2⟩
  · rintro ⟨q, h1, h2⟩
    exact .inr ⟨q, mem_placesIn.mpr ⟨Nat.zero_le _, h1⟩, h2⟩
theorem eq_of_tb {x y : Nat} (h : ∀ j, x.testBit j = true ↔ y.testBit j = true) : x = y :=
  Nat.eq_of_testBit_eq fun j => Bool.eq_iff_iff.mpr (h j)
theorem uni_zero (y : List Nat) : uni y 0 = 0 := by unfold uni; rw [placesIn_zero]; rfl
theorem orAll_places {y : List Nat} {p n e : Nat} (w : Within p n e) : orAll y (placesIn p e) 0 = uni y e := by
  apply eq_of_tb
  intro j
  rw [tb_orAll, tb_uni]
  constructor
  · rintro (h | ⟨q, h1, h2⟩)
    · simp at h
    · exact ⟨q, (mem_placesIn.mp h1).2, h2⟩
  · rintro ⟨q, h1, h2⟩
    exact .inr ⟨q, mem_placesIn.mpr ⟨(w q h1).1, h1⟩, h2⟩
/-- two lists that agree at the places of e -/
theorem uni_congr {y z : List Nat} {e : Nat} (h : ∀ q, e.testBit q = true → y.getD q 0 = z.getD q 0) : uni y e = uni z e := by
  apply eq_of_tb
  intro j
  rw [tb_uni, tb_uni]
  constructor
  · rintro ⟨q, h1, h2⟩; exact ⟨q, h1, by rw [← h q h1]; exact h2⟩
  · rintro ⟨q, h1, h2⟩; exact ⟨q, h1, by rw [h q h1]; exact h2⟩

/-! ### the lowest place -/
theorem low_place : ∀ (e : Nat), e ≠ 0 → ∃ l, e.testBit l = true ∧ e ^^^ (e &&& (e - 1)) = 2 ^ l ∧ ∀ i, (e &&& (e - 1)).testBit i = (e.testBit i && decide (i ≠ l)) := by
  intro e
  induction e using Nat.strongRecOn with
  | _ e ih =>
    intro h
    rcases Nat.mod_two_eq_zero_or_one e with h0 | h1
    · -- e = 2 m
      have hm : e / 2 ≠ 0 := by omega
      obtain ⟨l, a, b, c⟩ := ih (e / 2) (by omega) hm
      have e1 : e - 1 = 2 * (e / 2 - 1) + 1 := by omega
      have e0 : e = 2 * (e / 2) := by omega
      have tb : ∀ i, (e &&& (e - 1)).testBit i = (e.testBit i && decide (i ≠ l + 1)) := by
        intro i
        cases i with
        | zero =>
          have : e.testBit 0 = false := by rw [Nat.testBit_zero]; simp [h0]
          rw [Nat.testBit_and, this]; rfl
        | succ i =>
          have c1 := c i
          rw [Nat.testBit_and] at c1
          rw [Nat.testBit_and, Nat.testBit_succ, Nat.testBit_succ]
          have : (e - 1) / 2 = e / 2 - 1 := by omega
          rw [this, c1]
          congr 1
          simp
      refine ⟨l + 1, by rw [Nat.testBit_succ]; exact a, ?_, tb⟩
      apply Nat.eq_of_testBit_eq
      intro i
      rw [Nat.testBit_xor, tb i, Nat.testBit_two_pow]
      have a' : e.testBit (l + 1) = true := by rw [Nat.testBit_succ]; exact a
      by_cases hi : i = l + 1
      · subst hi; simp [a']
      · simp [hi]; exact fun q => hi q.symm
    · have tb : ∀ i, (e &&& (e - 1)).testBit i = (e.testBit i && decide (i ≠ 0)) := by
        intro i
        cases i with
        | zero =>
          have : (e - 1).testBit 0 = false := by rw [Nat.testBit_zero]; have : (e - 1) % 2 = 0 := by omega
                                                 simp [this]
          rw [Nat.testBit_and, this]; simp
        | succ i =>
          rw [Nat.testBit_and, Nat.testBit_succ, Nat.testBit_succ]
          have : (e - 1) / 2 = e / 2 := by omega
          rw [this]; simp
      have a : e.testBit 0 = true := by rw [Nat.testBit_zero]; simp [h1]
      refine ⟨0, a, ?_, tb⟩
      apply Nat.eq_of_testBit_eq
      intro i
      rw [Nat.testBit_xor, tb i, Nat.testBit_two_pow]
      by_cases hi : i = 0
      · subst hi; simp [a]
      · simp [hi]; exact fun q => hi q.symm
theorem and_pred_lt {e : Nat} (h : e ≠ 0) : e &&& (e - 1) < e := Nat.lt_of_le_of_lt Nat.and_le_right (by omega)
/-- one turn of united -/
theorem uni_turn {y : List Nat} {e l : Nat} (h : e ≠ 0) (hl : e ^^^ (e &&& (e - 1)) = 2 ^ l) : uni y e = y.getD l 0 ||| uni y (e &&& (e - 1)) ∧ e.testBit l = true := by
  obtain ⟨l', a, b, c⟩ := low_place e h
  have : l' = l := by
    have : 2 ^ l' = 2 ^ l := b.symm.trans hl
    exact (Nat.pow_right_inj (by decide)).mp this
  subst this
  refine ⟨eq_of_tb fun j => ?_, a⟩
  rw [Nat.testBit_or, Bool.or_eq_true, tb_uni, tb_uni]
  constructor
  · rintro ⟨q, h1, h2⟩
    by_cases e1 : q = l'
    · subst e1; exact .inl h2
    · exact .inr ⟨q, by rw [c q, h1]; simp [e1], h2⟩
  · rintro (h1 | ⟨q, h1, h2⟩)
    · exact ⟨l', a, h1⟩
    · rw [c q, Bool.and_eq_true] at h1
      exact ⟨q, h1.1, h2⟩
end Elx

set_option Elab.async false
namespace Elx
open Lx

theorem arr_getD (r : Array Nat) (q : Nat) : r.getD q 0 = r.toList.getD q 0 := by
  rw [Array.getD_eq_getD_getElem?, List.getD_eq_getElem?_getD, Array.getElem?_toList]
/-- the bit at p away -/
def clr (e p : Nat) : Nat := e ^^^ (e &&& 2 ^ p)
theorem tb_clr (e p i : Nat) : (clr e p).testBit i = (e.testBit i && decide (i ≠ p)) := by
  unfold clr
  rw [Nat.testBit_xor, Nat.testBit_and, Nat.testBit_two_pow]
  by_cases h : p = i
  · subst h; cases e.testBit p <;> simp
  · have h' : ¬ i = p := fun q => h q.symm
    simp [h, h']
/-- a node's reach over a text of n bytes -/
structure Good (n : Nat) (a : List Nat) : Prop where
  len : a.length = n + 1
  bits : ∀ p, Within p n (a.getD p 0)

def nothingL (n : Nat) : List Nat := (List.range (n + 1)).map fun (p : Nat) => 2 ^ p
def byteL (lo hi : Nat) (s : List Nat) : List Nat := (s.zipIdx.map fun (x : Nat × Nat) => if lo ≤ x.1 ∧ x.1 ≤ hi then 2 ^ (x.2 + 1) else 0) ++ [0]
def choiceL (a b : List Nat) : List Nat := List.zipWith (fun x y => x ||| y) a b
def seqL (a b : List Nat) : List Nat := a.map (uni b)
/-- one place of MANY -/
def manyAt (a r : List Nat) (p : Nat) : Nat := 2 ^ p ||| uni r (clr (a.getD p 0) p)
/-- places below m, from the last -/
def manyGo (a : List Nat) : Nat → List Nat → List Nat
  | 0, r => r
  | m + 1, r => manyGo a m (r.set m (manyAt a r m))
def manyL (a : List Nat) : List Nat := manyGo a a.length (List.replicate a.length 0)

/-! ### MANY -/
structure Done (n m : Nat) (r : List Nat) : Prop where
  len : r.length = n + 1
  bits : ∀ q, m ≤ q → Within q n (r.getD q 0)
  clo : ∀ q, m ≤ q → ∀ k, (r.getD q 0).testBit k = true → ∀ j, (r.getD k 0).testBit j = true → (r.getD q 0).testBit j = true

def skipOr (r : List Nat) (l : List Nat) (e : Nat) : Nat := l.foldl (fun (e : Nat) (q : Nat) => if e.testBit q = true then e else e ||| r.getD q 0) e
theorem skip_all {r : List Nat} {p n : Nat} (d : Done n (p + 1) r) : ∀ (l : List Nat) (e : Nat), (∀ q ∈ l, p + 1 ≤ q) → (∀ k, e.testBit k = true → k = p ∨ ∀ j, (r.getD k 0).testBit j = true → e.testBit j = true) → skipOr r l e = orAll r l e
  | [], _, _, _ => rfl
  | q :: l, e, hl, he => by
    have hq := hl q (List.mem_cons_self ..)
    have hl' : ∀ x ∈ l, p + 1 ≤ x := fun x hx => hl x (List.mem_cons_of_mem _ hx)
    have e1 : skipOr r (q :: l) e = skipOr r l (if e.testBit q = true then e else e ||| r.getD q 0) := rfl
    have e2 : orAll r (q :: l) e = orAll r l (e ||| r.getD q 0) := rfl
    rw [e1, e2]
    by_cases h : e.testBit q = true
    · rw [if_pos h, skip_all d l e hl' he]
      congr 1
      apply eq_of_tb
      intro j
      rw [Nat.testBit_or, Bool.or_eq_true]
      constructor
      · exact .inl
      · rintro (x | x)
        · exact x
        · rcases he q h with y | y
          · omega
          · exact y j x
    · rw [if_neg h]
      refine skip_all d l _ hl' fun k hk => ?_
      rw [Nat.testBit_or, Bool.or_eq_true] at hk
      rcases hk with hk | hk
      · rcases he k hk with y | y
        · exact .inl y
        · exact .inr fun j hj => by rw [Nat.testBit_or, y j hj]; rfl
      · exact .inr fun j hj => by rw [Nat.testBit_or, d.clo q hq k hk j hj, Bool.or_true]
theorem many_inner {a r : List Nat} {p n : Nat} (d : Done n (p + 1) r) (w : Within p n (a.getD p 0)) : skipOr r (placesIn (p + 1) (a.getD p 0)) (2 ^ p) = manyAt a r p := by
  rw [skip_all d]
  · apply eq_of_tb
    intro j
    unfold manyAt
    rw [tb_orAll, Nat.testBit_or, Bool.or_eq_true, tb_uni]
    constructor
    · rintro (h | ⟨q, h1, h2⟩)
      · exact .inl h
      · have := mem_placesIn.mp h1
        exact .inr ⟨q, by rw [tb_clr, this.2]; simp; omega, h2⟩
    · rintro (h | ⟨q, h1, h2⟩)
      · exact .inl h
      · rw [tb_clr, Bool.and_eq_true, decide_eq_true_eq] at h1
        have := w q h1.1
        exact .inr ⟨q, mem_placesIn.mpr ⟨by omega, h1.1⟩, h2⟩
  · exact fun q hq => (mem_placesIn.mp hq).1
  · intro k hk
    rw [Nat.testBit_two_pow, decide_eq_true_eq] at hk
    exact .inl hk.symm
theorem getD_set {r : List Nat} {m q v : Nat} : (r.set m v).getD q 0 = if q = m ∧ m < r.length then v else r.getD q 0 := by
  rw [List.getD_eq_getElem?_getD, List.getD_eq_getElem?_getD, List.getElem?_set]
  by_cases h : m = q
  · subst h
    by_cases h2 : m < r.length
    · simp [h2]
    · simp [h2]
  · have h' : ¬ q = m := fun x => h x.symm
    simp [h, h']
theorem Done.step {a r : List Nat} {m n : Nat} (d : Done n (m + 1) r) (hm : m ≤ n) (w : Within m n (a.getD m 0)) : Done n m (r.set m (manyAt a r m)) := by
  have hl := d.len
  have hr : ∀ q, q ≠ m → (r.set m (manyAt a r m)).getD q 0 = r.getD q 0 := fun q h => by rw [getD_set, if_neg (fun z => h z.1)]
  have hs : (r.set m (manyAt a r m)).getD m 0 = manyAt a r m := by rw [getD_set, if_pos ⟨rfl, by omega⟩]
  have hbit : ∀ j, (manyAt a r m).testBit j = true → j = m ∨ ∃ q, m + 1 ≤ q ∧ (r.getD q 0).testBit j = true ∧ (a.getD m 0).testBit q = true := fun j h => by
    unfold manyAt at h
    rw [Nat.testBit_or, Bool.or_eq_true, tb_uni, Nat.testBit_two_pow, decide_eq_true_eq] at h
    rcases h with h | ⟨q, h1, h2⟩
    · exact .inl h.symm
    · rw [tb_clr, Bool.and_eq_true, decide_eq_true_eq] at h1
      have := w q h1.1
      exact .inr ⟨q, by omega, h2, h1.1⟩
  refine ⟨by rw [List.length_set]; exact hl, fun q hq => ?_, fun q hq k hk j hj => ?_⟩
  · by_cases h : q = m
    · subst h
      rw [hs]
      intro j hj
      rcases hbit j hj with h | ⟨q', h1, h2, _⟩
      · omega
      · have := d.bits q' h1 j h2
        omega
    · rw [hr q h]
      exact d.bits q (by omega)
  · by_cases h : q = m
    · subst h
      rw [hs] at hk ⊢
      rcases hbit k hk with h | ⟨q', h1, h2, h3⟩
      · subst h; rw [hs] at hj; exact hj
      · have hk' := d.bits q' h1 k h2
        rw [hr k (by omega)] at hj
        have := d.clo q' h1 k h2 j hj
        unfold manyAt
        rw [Nat.testBit_or, Bool.or_eq_true, tb_uni]
        exact .inr ⟨q', by rw [tb_clr, h3]; simp; omega, this⟩
    · rw [hr q h] at hk ⊢
      have hk' := d.bits q (by omega) k hk
      rw [hr k (by omega)] at hj
      exact d.clo q (by omega) k hk j hj
theorem manyGo_done {a : List Nat} {n : Nat} (g : Good n a) : ∀ (m : Nat) (r : List Nat), m ≤ n + 1 → Done n m r → Done n 0 (manyGo a m r)
  | 0, _, _, d => d
  | m + 1, r, hm, d => manyGo_done g m _ (by omega) (d.step (by omega) (g.bits m))
def specTurn (a : Ends) (r : Ends) (p : Nat) : Ends := r.setIfInBounds p ((placesIn (p + 1) (a.getD p 0)).foldl (fun (e : Nat) (q : Nat) => if e.testBit q = true then e else e ||| r.getD q 0) (2 ^ p))
theorem manyGo_spec {a : Ends} {n : Nat} (g : Good n a.toList) : ∀ (m : Nat) (r : Ends), m ≤ n + 1 → Done n m r.toList → ((List.range m).reverse.foldl (specTurn a) r).toList = manyGo a.toList m r.toList
  | 0, _, _, _ => rfl
  | m + 1, r, hm, d => by
    have e1 : (List.range (m + 1)).reverse = m :: (List.range m).reverse := by rw [List.range_succ, List.reverse_append]; rfl
    have e2 : (specTurn a r m).toList = r.toList.set m (manyAt a.toList r.toList m) := by
      unfold specTurn
      rw [Array.toList_setIfInBounds, arr_getD, ← many_inner d (g.bits m)]
      unfold skipOr
      congr 1
      congr 1
      funext e q
      rw [arr_getD]
    rw [e1, List.foldl_cons, manyGo_spec g m (specTurn a r m) (by omega) (by rw [e2]; exact d.step (by omega) (g.bits m)), e2]
    rfl
theorem done_start (n : Nat) : Done n (n + 1) (List.replicate (n + 1) 0) := by
  have z : ∀ q, (List.replicate (n + 1) 0).getD q 0 = 0 := fun q => by
    rw [List.getD_eq_getElem?_getD, List.getElem?_replicate]
    split <;> rfl
  refine ⟨List.length_replicate, fun q _ => ?_, fun q _ k hk => ?_⟩
  · rw [z]; exact within_zero _ _
  · rw [z] at hk; simp at hk
theorem manyOf_eq {a : Ends} {n : Nat} (g : Good n a.toList) : (manyOf a).toList = manyL a.toList := by
  have hs : a.size = n + 1 := by have := g.len; rw [Array.length_toList] at this; exact this
  have e : manyOf a = (List.range a.size).reverse.foldl (specTurn a) (Array.replicate a.size 0) := rfl
  rw [e, hs, manyGo_spec g (n + 1) _ (Nat.le_refl _) (by rw [Array.toList_replicate]; exact done_start n)]
  unfold manyL
  rw [Array.toList_replicate, g.len]
theorem manyL_good {a : List Nat} {n : Nat} (g : Good n a) : Good n (manyL a) := by
  unfold manyL
  rw [g.len]
  have d := manyGo_done g (n + 1) _ (Nat.le_refl _) (done_start n)
  exact ⟨d.len, fun p => d.bits p (Nat.zero_le _)⟩
end Elx

set_option Elab.async false
set_option linter.all false
namespace Elx
open Lx

/-- a node as the program keeps it -/
structure PN where
  kind : Nat
  lo : Nat
  hi : Nat
  a : Nat
  b : Nat
def OkN (i : Nat) (x : PN) : Prop := x.kind = 0 ∨ (x.kind = 1 ∧ x.lo ≤ x.hi ∧ x.hi ≤ 255) ∨ (x.kind = 2 ∧ x.a < i ∧ x.b < i) ∨ (x.kind = 3 ∧ x.a < i ∧ x.b < i) ∨ (x.kind = 4 ∧ x.a < i)
def toNode (x : PN) : Node := if x.kind = 0 then .nothing else if x.kind = 1 then .range (UInt8.ofNat x.lo) (UInt8.ofNat x.hi) else if x.kind = 2 then .seq x.a x.b else if x.kind = 3 then .alt x.a x.b else .many x.a
def bytesN (s : Bytes) : List Nat := s.map UInt8.toNat
def reachOf (s : List Nat) (t : List (List Nat)) (x : PN) : List Nat :=
  if x.kind = 0 then nothingL s.length else if x.kind = 1 then byteL x.lo x.hi s else if x.kind = 2 then seqL (t.getD x.a []) (t.getD x.b []) else if x.kind = 3 then choiceL (t.getD x.a []) (t.getD x.b []) else manyL (t.getD x.a [])

theorem nothing_good (n : Nat) : Good n (nothingL n) := by
  refine ⟨by unfold nothingL; simp, fun p => ?_⟩
  unfold nothingL
  rw [List.getD_eq_getElem?_getD, List.getElem?_map]
  by_cases h : p < n + 1
  · rw [List.getElem?_range h]
    intro q hq
    have : (2 ^ p).testBit q = true := hq
    rw [Nat.testBit_two_pow, decide_eq_true_eq] at this
    omega
  · rw [List.getElem?_eq_none (by simp; omega)]
    exact within_zero _ _
theorem byte_get (lo hi : Nat) (s : List Nat) (p : Nat) : (byteL lo hi s).getD p 0 = match s[p]? with | some c => if lo ≤ c ∧ c ≤ hi then 2 ^ (p + 1) else 0 | none => 0 := by
  unfold byteL
  rw [List.getD_eq_getElem?_getD]
  by_cases h : p < s.length
  · rw [List.getElem?_append_left (by simp; exact h), List.getElem?_map, List.getElem?_zipIdx]
    simp [h]
  · have e : s[p]? = none := List.getElem?_eq_none (by omega)
    rw [List.getElem?_append_right (by simp; omega), e]
    simp
    cases hh : p - s.length with
    | zero => simp
    | succ k => simp
theorem byte_good (lo hi : Nat) (s : List Nat) : Good s.length (byteL lo hi s) := by
  refine ⟨by unfold byteL; simp, fun p => ?_⟩
  rw [byte_get]
  cases e : s[p]? with
  | none => exact within_zero _ _
  | some c =>
    obtain ⟨h, _⟩ := List.getElem?_eq_some_iff.mp e
    show Within p s.length (if lo ≤ c ∧ c ≤ hi then 2 ^ (p + 1) else 0)
    split
    · intro q hq
      rw [Nat.testBit_two_pow, decide_eq_true_eq] at hq
      omega
    · exact within_zero _ _
theorem seq_get (a b : List Nat) (p : Nat) : (seqL a b).getD p 0 = uni b (a.getD p 0) := by
  unfold seqL
  rw [List.getD_eq_getElem?_getD, List.getD_eq_getElem?_getD, List.getElem?_map]
  cases a[p]? with
  | none => show 0 = uni b 0; rw [uni_zero]
  | some x => rfl
theorem seq_good {n : Nat} {a b : List Nat} (ga : Good n a) (gb : Good n b) : Good n (seqL a b) := by
  refine ⟨by unfold seqL; rw [List.length_map]; exact ga.len, fun p j hj => ?_⟩
  rw [seq_get, tb_uni] at hj
  obtain ⟨q, h1, h2⟩ := hj
  have := ga.bits p q h1
  have := gb.bits q j h2
  omega
theorem choice_get {n : Nat} {a b : List Nat} (ga : Good n a) (gb : Good n b) (p : Nat) : (choiceL a b).getD p 0 = a.getD p 0 ||| b.getD p 0 := by
  unfold choiceL
  rw [List.getD_eq_getElem?_getD, List.getD_eq_getElem?_getD, List.getD_eq_getElem?_getD, List.getElem?_zipWith]
  have := ga.len
  have := gb.len
  by_cases h : p < n + 1
  · rw [List.getElem?_eq_getElem (by omega), List.getElem?_eq_getElem (by omega)]; rfl
  · rw [List.getElem?_eq_none (by omega), List.getElem?_eq_none (by omega)]; rfl
theorem choice_good {n : Nat} {a b : List Nat} (ga : Good n a) (gb : Good n b) : Good n (choiceL a b) := by
  refine ⟨by unfold choiceL; rw [List.length_zipWith, ga.len, gb.len]; exact Nat.min_self _, fun p j hj => ?_⟩
  rw [choice_get ga gb, Nat.testBit_or, Bool.or_eq_true] at hj
  rcases hj with h | h
  · exact ga.bits p j h
  · exact gb.bits p j h

/-! ### against the specification -/
theorem ext_getD {a b : List Nat} (hl : a.length = b.length) (h : ∀ p, p < a.length → a.getD p 0 = b.getD p 0) : a = b := by
  apply List.ext_getElem hl
  intro i h1 h2
  have := h i h1
  rw [List.getD_eq_getElem?_getD, List.getD_eq_getElem?_getD, List.getElem?_eq_getElem h1, List.getElem?_eq_getElem h2] at this
  exact this
theorem toNat_le {c : UInt8} {lo : Nat} (h : lo ≤ 255) : UInt8.ofNat lo ≤ c ↔ lo ≤ c.toNat := by
  rw [UInt8.le_iff_toNat_le, UInt8.toNat_ofNat']
  have : lo % 2 ^ 8 = lo := Nat.mod_eq_of_lt (by omega)
  rw [this]
theorem toNat_ge {c : UInt8} {hi : Nat} (h : hi ≤ 255) : c ≤ UInt8.ofNat hi ↔ c.toNat ≤ hi := by
  rw [UInt8.le_iff_toNat_le, UInt8.toNat_ofNat']
  have : hi % 2 ^ 8 = hi := Nat.mod_eq_of_lt (by omega)
  rw [this]
theorem getD_map_arr (t : List Ends) (i : Nat) : (t.map Array.toList).getD i [] = (t.getD i #[]).toList := by
  rw [List.getD_eq_getElem?_getD, List.getD_eq_getElem?_getD, List.getElem?_map]
  cases t[i]? with
  | none => rfl
  | some x => rfl
theorem zipIdx_map_get {α : Type} (l : List Nat) (f : Nat × Nat → α) (p : Nat) : (l.zipIdx.map f)[p]? = l[p]?.map fun x => f (x, p) := by
  rw [List.getElem?_map, List.getElem?_zipIdx]
  cases l[p]? with
  | none => rfl
  | some x => simp
theorem endsOf_eq {s : Bytes} {t : List Ends} {x : PN} (ok : OkN t.length x) (g : ∀ i, i < t.length → Good s.length (t.getD i #[]).toList) :
    (endsOf s t (toNode x)).toList = reachOf (bytesN s) (t.map Array.toList) x ∧ Good s.length (reachOf (bytesN s) (t.map Array.toList) x) := by
  have hn : (bytesN s).length = s.length := by unfold bytesN; exact List.length_map ..
  unfold reachOf toNode
  rcases ok with h | ⟨h, h1, h2⟩ | ⟨h, h1, h2⟩ | ⟨h, h1, h2⟩ | ⟨h, h1⟩
  · rw [if_pos h, if_pos h, hn]
    exact ⟨rfl, nothing_good _⟩
  · simp only [h]
    show (endsOf s t (.range (UInt8.ofNat x.lo) (UInt8.ofNat x.hi))).toList = byteL x.lo x.hi (bytesN s) ∧ Good s.length (byteL x.lo x.hi (bytesN s))
    refine ⟨?_, hn ▸ byte_good _ _ _⟩
    show ((s.zipIdx.map fun (x_1 : UInt8 × Nat) => if UInt8.ofNat x.lo ≤ x_1.1 ∧ x_1.1 ≤ UInt8.ofNat x.hi then 2 ^ (x_1.2 + 1) else 0) ++ [0]) = byteL x.lo x.hi (bytesN s)
    unfold byteL bytesN
    rw [List.zipIdx_map, List.map_map]
    congr 1
    apply List.map_congr_left
    rintro ⟨c, i⟩ _
    show (if UInt8.ofNat x.lo ≤ c ∧ c ≤ UInt8.ofNat x.hi then 2 ^ (i + 1) else 0) = if x.lo ≤ c.toNat ∧ c.toNat ≤ x.hi then 2 ^ (i + 1) else 0
    have e1 := @toNat_le c x.lo (by omega)
    have e2 := @toNat_ge c x.hi (by omega)
    simp only [e1, e2]
  · simp only [h]
    show (endsOf s t (.seq x.a x.b)).toList = seqL ((t.map Array.toList).getD x.a []) ((t.map Array.toList).getD x.b []) ∧ Good s.length (seqL ((t.map Array.toList).getD x.a []) ((t.map Array.toList).getD x.b []))
    rw [getD_map_arr, getD_map_arr]
    have ga := g _ h1
    have gb := g _ h2
    refine ⟨?_, seq_good ga gb⟩
    show ((t.getD x.a #[]).toList.zipIdx.map fun (z : Nat × Nat) => (placesIn z.2 z.1).foldl (fun (e : Nat) (q : Nat) => e ||| (t.getD x.b #[]).getD q 0) 0) = _
    apply List.ext_getElem?
    intro p
    rw [zipIdx_map_get]
    unfold seqL
    rw [List.getElem?_map]
    cases e : (t.getD x.a #[]).toList[p]? with
    | none => rfl
    | some v =>
      have w : Within p s.length v := by
        have := ga.bits p
        rw [List.getD_eq_getElem?_getD, e] at this
        exact this
      show some ((placesIn p v).foldl (fun (e : Nat) (q : Nat) => e ||| (t.getD x.b #[]).getD q 0) 0) = some (uni (t.getD x.b #[]).toList v)
      congr 1
      rw [← orAll_places w]
      unfold orAll
      congr 1
      funext e q
      rw [arr_getD]
  · simp only [h]
    show (endsOf s t (.alt x.a x.b)).toList = choiceL ((t.map Array.toList).getD x.a []) ((t.map Array.toList).getD x.b []) ∧ Good s.length (choiceL ((t.map Array.toList).getD x.a []) ((t.map Array.toList).getD x.b []))
    rw [getD_map_arr, getD_map_arr]
    have ga := g _ h1
    have gb := g _ h2
    refine ⟨?_, choice_good ga gb⟩
    show ((t.getD x.a #[]).toList.zipIdx.map fun (z : Nat × Nat) => z.1 ||| (t.getD x.b #[]).getD z.2 0) = _
    have hl : ((t.getD x.a #[]).toList.zipIdx.map fun (z : Nat × Nat) => z.1 ||| (t.getD x.b #[]).getD z.2 0).length = (choiceL (t.getD x.a #[]).toList (t.getD x.b #[]).toList).length := by
      rw [List.length_map, List.length_zipIdx, (choice_good ga gb).len, ga.len]
    refine ext_getD hl fun p hp => ?_
    rw [choice_get ga gb, List.getD_eq_getElem?_getD, zipIdx_map_get, List.getD_eq_getElem?_getD (l := (t.getD x.a #[]).toList)]
    rw [List.length_map, List.length_zipIdx] at hp
    rw [List.getElem?_eq_getElem hp]
    show _ ||| _ = _ ||| _
    rw [arr_getD]
    rfl
  · simp only [h]
    show (manyOf (t.getD x.a #[])).toList = manyL ((t.map Array.toList).getD x.a []) ∧ Good s.length (manyL ((t.map Array.toList).getD x.a []))
    rw [getD_map_arr]
    have ga := g _ h1
    exact ⟨manyOf_eq ga, manyL_good ga⟩

/-! ### a whole rule -/
def reaches (s : List Nat) (xs : List PN) (t : List (List Nat)) : List (List Nat) := xs.foldl (fun (t : List (List Nat)) (x : PN) => t ++ [reachOf s t x]) t
def OkFrom : Nat → List PN → Prop
  | _, [] => True
  | i, x :: r => OkN i x ∧ OkFrom (i + 1) r
def reachL (s : List Nat) (xs : List PN) : List Nat := (reaches s xs []).getLastD []
theorem reaches_snoc (s : List Nat) (xs : List PN) (x : PN) (t : List (List Nat)) : reaches s (xs ++ [x]) t = reaches s xs t ++ [reachOf s (reaches s xs t) x] := by
  unfold reaches; rw [List.foldl_append]; rfl
def specTab (s : Bytes) (r : Rule) (t : List Ends) : List Ends := r.foldl (fun (t : List Ends) (n : Node) => t ++ [endsOf s t n]) t
theorem tab_eq {s : Bytes} : ∀ (xs : List PN) (t : List Ends), OkFrom t.length xs → (∀ i, i < t.length → Good s.length (t.getD i #[]).toList) →
    (specTab s (xs.map toNode) t).map Array.toList = reaches (bytesN s) xs (t.map Array.toList) ∧ ∀ i, i < (specTab s (xs.map toNode) t).length → Good s.length ((specTab s (xs.map toNode) t).getD i #[]).toList
  | [], t, _, g => ⟨rfl, g⟩
  | x :: r, t, ok, g => by
    obtain ⟨e1, e2⟩ := endsOf_eq ok.1 g
    have ih := tab_eq r (t ++ [endsOf s t (toNode x)]) (by rw [List.length_append]; exact ok.2) (fun i hi => by
      rw [List.length_append] at hi
      rw [List.getD_eq_getElem?_getD]
      by_cases h : i < t.length
      · rw [List.getElem?_append_left h, ← List.getD_eq_getElem?_getD]
        exact g i h
      · have : i = t.length := by simp at hi; omega
        subst this
        rw [List.getElem?_append_right (Nat.le_refl _)]
        simp
        rw [e1]; exact e2)
    refine ⟨?_, ih.2⟩
    have h1 := ih.1
    rw [List.map_append] at h1
    show (specTab s (r.map toNode) (t ++ [endsOf s t (toNode x)])).map Array.toList = _
    rw [h1]
    show reaches (bytesN s) r (t.map Array.toList ++ [(endsOf s t (toNode x)).toList]) = _
    rw [e1]
    rfl
theorem reaches_len (s : List Nat) : ∀ (xs : List PN) (t : List (List Nat)), (reaches s xs t).length = t.length + xs.length
  | [], t => rfl
  | x :: r, t => by
    show (reaches s r (t ++ [_])).length = _
    rw [reaches_len s r]; simp; omega
theorem good_reaches {s : Bytes} {xs : List PN} (ok : OkFrom 0 xs) : ∀ i, i < xs.length → Good s.length ((reaches (bytesN s) xs []).getD i []) := fun i hi => by
  obtain ⟨e1, e2⟩ := tab_eq (s := s) xs [] ok (fun i hi => absurd hi (Nat.not_lt_zero _))
  have h1 : (specTab s (xs.map toNode) []).length = xs.length := by
    have := congrArg List.length e1
    rw [List.length_map, reaches_len] at this
    simpa using this
  have := e2 i (by rw [h1]; exact hi)
  rw [← getD_map_arr, e1] at this
  exact this
theorem getLastD_get {α : Type} (l : List α) (d : α) (h : l ≠ []) : l.getLastD d = l.getD (l.length - 1) d := by
  rw [List.getLastD_eq_getLast?, List.getLast?_eq_getElem?, List.getD_eq_getElem?_getD]
theorem reachL_good {s : Bytes} {xs : List PN} (ok : OkFrom 0 xs) (h : xs ≠ []) : Good s.length (reachL (bytesN s) xs) := by
  unfold reachL
  have hl := reaches_len (bytesN s) xs []
  have h0 : xs.length ≠ 0 := fun z => h (List.eq_nil_of_length_eq_zero z)
  rw [getLastD_get _ _ (fun z => by rw [z] at hl; simp at hl; exact h0 (by simp [← hl]))]
  refine good_reaches ok _ ?_
  rw [hl]; simp; omega
theorem ruleEnds_eq {s : Bytes} {xs : List PN} (ok : OkFrom 0 xs) (h : xs ≠ []) : ruleEnds (xs.map toNode) s = (reachL (bytesN s) xs).zipIdx.map fun (x : Nat × Nat) => placesIn x.2 x.1 := by
  obtain ⟨e1, e2⟩ := tab_eq (s := s) xs [] ok (fun i hi => absurd hi (Nat.not_lt_zero _))
  show ((specTab s (xs.map toNode) []).getLastD #[]).toList.zipIdx.map _ = _
  congr 2
  unfold reachL
  have e3 : reaches (bytesN s) xs [] = (specTab s (xs.map toNode) []).map Array.toList := e1.symm
  rw [e3]
  generalize specTab s (xs.map toNode) [] = l
  rw [List.getLastD_eq_getLast?, List.getLastD_eq_getLast?, List.getLast?_map]
  cases l.getLast? <;> rfl
/-- how many bytes the longest match has, from each place -/
def matchedL (s : List Nat) (xs : List PN) : List Nat := (reachL s xs).zipIdx.map fun (x : Nat × Nat) => lenOf x.2 x.1
theorem ruleEnds_get {s : Bytes} {xs : List PN} (ok : OkFrom 0 xs) (h : xs ≠ []) (p : Nat) : endOf ((ruleEnds (xs.map toNode) s).getD p []) p = (matchedL (bytesN s) xs).getD p 0 := by
  rw [ruleEnds_eq ok h]
  unfold matchedL
  rw [List.getD_eq_getElem?_getD, List.getD_eq_getElem?_getD, zipIdx_map_get, zipIdx_map_get]
  have g := reachL_good (s := s) ok h
  cases e : (reachL (bytesN s) xs)[p]? with
  | none => rfl
  | some v =>
    have := g.bits p
    rw [List.getD_eq_getElem?_getD, e] at this
    exact endOf_placesIn this
theorem matched_len {s : Bytes} {xs : List PN} (ok : OkFrom 0 xs) (h : xs ≠ []) : (matchedL (bytesN s) xs).length = s.length + 1 := by
  unfold matchedL
  rw [List.length_map, List.length_zipIdx, (reachL_good ok h).len]
end Elx

set_option Elab.async false
set_option linter.all false
namespace Elx
open Lx

/-! ### does a rule match the empty text -/
def emptyOf (t : List Bool) (x : PN) : Bool := if x.kind = 2 then (t.getD x.a false && t.getD x.b false) else if x.kind = 3 then (t.getD x.a false || t.getD x.b false) else !decide (x.kind = 1)
def empties (xs : List PN) (t : List Bool) : List Bool := xs.foldl (fun (t : List Bool) (x : PN) => t ++ [emptyOf t x]) t
def emptyL (xs : List PN) : Bool := (empties xs []).getLastD false
def b1 (b : Bool) : List Nat := [if b = true then 1 else 0]
theorem getD_b1 {t : List Bool} {i : Nat} (h : i < t.length) : (t.map b1).getD i [] = b1 (t.getD i false) := by
  rw [List.getD_eq_getElem?_getD, List.getD_eq_getElem?_getD, List.getElem?_map, List.getElem?_eq_getElem h]; rfl
theorem many_b1 (b : Bool) : manyL (b1 b) = b1 true := by cases b <;> decide
theorem seq_b1 (a b : Bool) : seqL (b1 a) (b1 b) = b1 (a && b) := by cases a <;> cases b <;> decide
theorem choice_b1 (a b : Bool) : choiceL (b1 a) (b1 b) = b1 (a || b) := by cases a <;> cases b <;> decide
theorem reachOf_nil {t : List Bool} {x : PN} (ok : OkN t.length x) : reachOf [] (t.map b1) x = b1 (emptyOf t x) := by
  unfold reachOf emptyOf
  rcases ok with h | ⟨h, h1, h2⟩ | ⟨h, h1, h2⟩ | ⟨h, h1, h2⟩ | ⟨h, h1⟩
  · simp only [h]; rfl
  · simp only [h]; rfl
  · simp only [h]
    show seqL _ _ = b1 (_ && _)
    rw [getD_b1 h1, getD_b1 h2, seq_b1]
  · simp only [h]
    show choiceL _ _ = b1 (_ || _)
    rw [getD_b1 h1, getD_b1 h2, choice_b1]
  · simp only [h]
    show manyL _ = b1 true
    rw [getD_b1 h1, many_b1]
theorem reaches_nil : ∀ (xs : List PN) (t : List Bool), OkFrom t.length xs → reaches [] xs (t.map b1) = (empties xs t).map b1
  | [], _, _ => rfl
  | x :: r, t, ok => by
    show reaches [] r (t.map b1 ++ [reachOf [] (t.map b1) x]) = (empties r (t ++ [emptyOf t x])).map b1
    rw [reachOf_nil ok.1]
    have : t.map b1 ++ [b1 (emptyOf t x)] = (t ++ [emptyOf t x]).map b1 := by rw [List.map_append]; rfl
    rw [this, reaches_nil r _ (by rw [List.length_append]; exact ok.2)]
theorem empties_len : ∀ (xs : List PN) (t : List Bool), (empties xs t).length = t.length + xs.length
  | [], t => rfl
  | x :: r, t => by
    show (empties r (t ++ [_])).length = _
    rw [empties_len r]; simp; omega
theorem matchesNothing_eq {xs : List PN} (ok : OkFrom 0 xs) (h : xs ≠ []) : matchesNothing (xs.map toNode) = emptyL xs := by
  unfold matchesNothing
  rw [ruleEnds_eq (s := []) ok h]
  have e : reachL (bytesN []) xs = b1 (emptyL xs) := by
    unfold reachL emptyL
    show (reaches [] xs (([] : List Bool).map b1)).getLastD [] = _
    rw [reaches_nil xs [] ok]
    have hl := empties_len xs []
    have h0 : xs.length ≠ 0 := fun z => h (List.eq_nil_of_length_eq_zero z)
    generalize empties xs [] = l at hl
    rw [List.getLastD_eq_getLast?, List.getLastD_eq_getLast?, List.getLast?_map]
    cases e : l.getLast? with
    | none =>
      rw [List.getLast?_eq_none_iff] at e
      rw [e] at hl
      simp at hl
      exact absurd hl.symm h0
    | some b => rfl
  rw [e]
  cases emptyL xs <;> decide

/-! ### the row of numbers of a rule -/
def pnsOf : List Nat → List PN
  | k :: lo :: hi :: a :: b :: l => ⟨k, lo, hi, a, b⟩ :: pnsOf l
  | _ => []
def okNB (i : Nat) (x : PN) : Bool := if x.kind = 0 then true else if x.kind = 1 then (decide (x.lo ≤ x.hi) && decide (x.hi ≤ 255)) else if x.kind = 2 ∨ x.kind = 3 then (decide (x.a < i) && decide (x.b < i)) else if x.kind = 4 then decide (x.a < i) else false
theorem okNB_iff (i : Nat) (x : PN) : okNB i x = true ↔ OkN i x := by
  unfold okNB OkN
  by_cases h0 : x.kind = 0
  · simp [h0]
  by_cases h1 : x.kind = 1
  · simp [h1]
  by_cases h2 : x.kind = 2
  · simp [h2]
  by_cases h3 : x.kind = 3
  · simp [h3]
  by_cases h4 : x.kind = 4
  · simp [h4]
  simp [h0, h1, h2, h3, h4]
def okAllB : Nat → List PN → Bool
  | _, [] => true
  | i, x :: r => okNB i x && okAllB (i + 1) r
theorem okAllB_iff : ∀ (xs : List PN) (i : Nat), okAllB i xs = true ↔ OkFrom i xs
  | [], _ => by simp [okAllB, OkFrom]
  | x :: r, i => by
    show (okNB i x && okAllB (i + 1) r) = true ↔ OkN i x ∧ OkFrom (i + 1) r
    rw [Bool.and_eq_true, okNB_iff, okAllB_iff r]
def rawOf (x : PN) : Raw := ⟨x.kind, UInt8.ofNat x.lo, UInt8.ofNat x.hi, x.a, x.b⟩
theorem raws_eq : ∀ (n : Nat) (l : List Nat), l.length ≤ n → rawsOf l = (pnsOf l).map rawOf
  | 0, l, h => by
    have : l = [] := List.eq_nil_of_length_eq_zero (by omega)
    subst this; rfl
  | n + 1, l, h => by
    match l, h with
    | [], _ => rfl
    | [_], _ => rfl
    | [_, _], _ => rfl
    | [_, _, _], _ => rfl
    | [_, _, _, _], _ => rfl
    | k :: lo :: hi :: a :: b :: l, h =>
      show _ :: rawsOf l = _ :: (pnsOf l).map rawOf
      rw [raws_eq n l (by simp at h; omega)]
      rfl
def byteB (x : PN) : Bool := x.kind != 1 || (decide (x.lo < 256) && decide (x.hi < 256))
theorem bytesOk_eq : ∀ (n : Nat) (l : List Nat), l.length ≤ n → bytesOk l = (pnsOf l).all byteB
  | 0, l, h => by
    have : l = [] := List.eq_nil_of_length_eq_zero (by omega)
    subst this; rfl
  | n + 1, l, h => by
    match l, h with
    | [], _ => rfl
    | [_], _ => rfl
    | [_, _], _ => rfl
    | [_, _, _], _ => rfl
    | [_, _, _, _], _ => rfl
    | k :: lo :: hi :: a :: b :: l, h =>
      show ((_ : Bool) && bytesOk l) = (_ && (pnsOf l).all byteB)
      rw [bytesOk_eq n l (by simp at h; omega)]
      rfl
theorem pns_len : ∀ (n : Nat) (l : List Nat), l.length ≤ n → (pnsOf l).length = l.length / 5
  | 0, l, h => by
    have : l = [] := List.eq_nil_of_length_eq_zero (by omega)
    subst this; rfl
  | n + 1, l, h => by
    match l, h with
    | [], _ => rfl
    | [_], _ => simp [pnsOf]
    | [_, _], _ => simp [pnsOf]
    | [_, _, _], _ => simp [pnsOf]
    | [_, _, _, _], _ => simp [pnsOf]
    | k :: lo :: hi :: a :: b :: l, h =>
      show (pnsOf l).length + 1 = (l.length + 5) / 5
      rw [pns_len n l (by simp at h; omega)]
      omega
theorem nodeOf_ok {i : Nat} {x : PN} (ok : OkN i x) : byteB x = true ∧ nodeOf i (rawOf x) = some (toNode x) := by
  unfold byteB nodeOf toNode rawOf
  rcases ok with h | ⟨h, h1, h2⟩ | ⟨h, h1, h2⟩ | ⟨h, h1, h2⟩ | ⟨h, h1⟩
  · simp [h]
  · have e1 : x.lo % 2 ^ 8 = x.lo := Nat.mod_eq_of_lt (by omega)
    have e2 : x.hi % 2 ^ 8 = x.hi := Nat.mod_eq_of_lt (by omega)
    have e : UInt8.ofNat x.lo ≤ UInt8.ofNat x.hi := by rw [UInt8.le_iff_toNat_le, UInt8.toNat_ofNat', UInt8.toNat_ofNat', e1, e2]; exact h1
    have : x.lo < 256 := by omega
    have : x.hi < 256 := by omega
    simp [h, e, *]
  · simp [h, h1, h2]
  · simp [h, h1, h2]
  · simp [h, h1]
theorem nodeOf_no {i : Nat} {x : PN} (no : ¬ OkN i x) : byteB x = false ∨ nodeOf i (rawOf x) = none := by
  by_cases hb : byteB x = true
  · refine .inr ?_
    unfold nodeOf rawOf
    have n0 : ¬ x.kind = 0 := fun h => no (.inl h)
    have n1 : ¬ (x.kind = 1 ∧ UInt8.ofNat x.lo ≤ UInt8.ofNat x.hi) := fun ⟨h, h1⟩ => by
      unfold byteB at hb
      simp [h] at hb
      have e1 : x.lo % 2 ^ 8 = x.lo := Nat.mod_eq_of_lt (by omega)
      have e2 : x.hi % 2 ^ 8 = x.hi := Nat.mod_eq_of_lt (by omega)
      rw [UInt8.le_iff_toNat_le, UInt8.toNat_ofNat', UInt8.toNat_ofNat', e1, e2] at h1
      exact no (.inr (.inl ⟨h, h1, by omega⟩))
    have n2 : ¬ (x.kind = 2 ∧ x.a < i ∧ x.b < i) := fun h => no (.inr (.inr (.inl h)))
    have n3 : ¬ (x.kind = 3 ∧ x.a < i ∧ x.b < i) := fun h => no (.inr (.inr (.inr (.inl h))))
    have n4 : ¬ (x.kind = 4 ∧ x.a < i) := fun h => no (.inr (.inr (.inr (.inr h))))
    show (if x.kind = 0 then _ else if x.kind = 1 ∧ UInt8.ofNat x.lo ≤ UInt8.ofNat x.hi then _ else if x.kind = 2 ∧ x.a < i ∧ x.b < i then _ else if x.kind = 3 ∧ x.a < i ∧ x.b < i then _ else if x.kind = 4 ∧ x.a < i then _ else none) = none
    rw [if_neg n0, if_neg n1, if_neg n2, if_neg n3, if_neg n4]
  · exact .inl (Bool.eq_false_iff.mpr hb)
theorem nodesFrom_ok : ∀ (xs : List PN) (i : Nat), OkFrom i xs → xs.all byteB = true ∧ nodesFrom i (xs.map rawOf) = some (xs.map toNode)
  | [], _, _ => ⟨rfl, rfl⟩
  | x :: r, i, ok => by
    obtain ⟨a1, a2⟩ := nodeOf_ok ok.1
    obtain ⟨b1, b2⟩ := nodesFrom_ok r (i + 1) ok.2
    refine ⟨by rw [List.all_cons, a1, b1]; rfl, ?_⟩
    show (match nodeOf i (rawOf x), nodesFrom (i + 1) (r.map rawOf) with | some n, some l => some (n :: l) | _, _ => none) = _
    rw [a2, b2]
    rfl
theorem nodesFrom_no : ∀ (xs : List PN) (i : Nat), ¬ OkFrom i xs → xs.all byteB = false ∨ nodesFrom i (xs.map rawOf) = none
  | [], _, no => absurd trivial no
  | x :: r, i, no => by
    have e : nodesFrom i ((x :: r).map rawOf) = (match nodeOf i (rawOf x), nodesFrom (i + 1) (r.map rawOf) with | some n, some l => some (n :: l) | _, _ => none) := rfl
    by_cases h : OkN i x
    · have h' : ¬ OkFrom (i + 1) r := fun z => no ⟨h, z⟩
      rcases nodesFrom_no r (i + 1) h' with q | q
      · exact .inl (by rw [List.all_cons, q, Bool.and_false])
      · exact .inr (by rw [e, q]; cases nodeOf i (rawOf x) <;> rfl)
    · rcases nodeOf_no h with q | q
      · exact .inl (by rw [List.all_cons, q, Bool.false_and])
      · exact .inr (by rw [e, q])
def isExpr (l : List Nat) : Bool := !(l.isEmpty || decide (160 < l.length)) && decide (l.length % 5 = 0) && okAllB 0 (pnsOf l)
theorem nodesIn_eq (l : List Nat) : nodesIn l = if isExpr l = true then some ((pnsOf l).map toNode) else none := by
  unfold nodesIn
  have hN : 5 * NODES = 160 := rfl
  rw [hN, raws_eq l.length l (Nat.le_refl _), bytesOk_eq l.length l (Nat.le_refl _)]
  unfold isExpr
  by_cases h0 : l = []
  · subst h0; simp
  have h0' : l.isEmpty = false := by cases l with
    | nil => exact absurd rfl h0
    | cons a b => rfl
  by_cases h1 : l.length % 5 = 0
  · by_cases h2 : 160 < l.length
    · simp [h2]
    · by_cases h3 : okAllB 0 (pnsOf l) = true
      · have ok := (okAllB_iff _ _).mp h3
        obtain ⟨a, b⟩ := nodesFrom_ok _ _ ok
        rw [a, b]
        simp [h0, h1, h2, h3]
      · have no : ¬ OkFrom 0 (pnsOf l) := fun z => h3 ((okAllB_iff _ _).mpr z)
        rcases nodesFrom_no _ _ no with q | q
        · rw [q]; simp [h3]
        · rw [q]; simp [h3]
  · simp [h1]
theorem isExpr_ok {l : List Nat} (h : isExpr l = true) : OkFrom 0 (pnsOf l) ∧ pnsOf l ≠ [] ∧ l.length ≤ 160 ∧ l.length % 5 = 0 := by
  unfold isExpr at h
  simp at h
  obtain ⟨⟨⟨a, b⟩, c⟩, d⟩ := h
  refine ⟨(okAllB_iff _ _).mp d, fun z => ?_, b, c⟩
  have := pns_len l.length l (Nat.le_refl _)
  rw [z] at this
  have h0 : l.length ≠ 0 := fun z => a (List.eq_nil_of_length_eq_zero z)
  simp at this
  omega
end Elx

set_option Elab.async false
set_option linter.all false
namespace Elx
open Lx

/-! ### the best match at a place -/
def bestStep (m num : Nat) (st : Nat × Nat) : Nat × Nat := if st.1 < m then (m, num + 1) else st
def bp (ms : List (List Nat)) (p : Nat) : Nat × Nat := ms.zipIdx.foldl (fun (st : Nat × Nat) (x : List Nat × Nat) => bestStep (x.1.getD p 0) x.2 st) (0, 0)
theorem bp_nil (p : Nat) : bp [] p = (0, 0) := rfl
theorem bp_snoc (ms : List (List Nat)) (m : List Nat) (p : Nat) : bp (ms ++ [m]) p = bestStep (m.getD p 0) ms.length (bp ms p) := by
  unfold bp
  rw [List.zipIdx_append, List.foldl_append]
  simp
def RB (p : Nat) (a : Option (Nat × Nat)) (st : Nat × Nat) : Prop := match a with
  | none => st = (0, 0)
  | some b => b.2 = p + st.1 ∧ 0 < st.1 ∧ st.2 = b.1 + 1
def specBest (p : Nat) (a : Option (Nat × Nat)) (x : List (List Nat) × Nat) : Option (Nat × Nat) := match (x.1.getD p []).getLast? with
  | none => a
  | some q => if q ≤ p then a else match a with
    | none => some (x.2, q)
    | some b => if b.2 < q then some (x.2, q) else some b
theorem rb_step {p : Nat} {a : Option (Nat × Nat)} {st : Nat × Nat} {l : List (List Nat)} {m num : Nat} (r : RB p a st) (h : endOf (l.getD p []) p = m) : RB p (specBest p a (l, num)) (bestStep m num st) := by
  unfold specBest bestStep
  dsimp only
  unfold endOf at h
  cases e : (l.getD p []).getLast? with
  | none =>
    rw [e] at h
    have h : 0 = m := h
    subst h
    rw [if_neg (by omega)]
    exact r
  | some q =>
    rw [e] at h
    have h : q - p = m := h
    subst h
    by_cases hq : q ≤ p
    · have : q - p = 0 := by omega
      rw [this, if_neg (by omega)]
      show RB p (if q ≤ p then a else _) st
      rw [if_pos hq]
      exact r
    · show RB p (if q ≤ p then a else _) _
      rw [if_neg hq]
      cases a with
      | none =>
        have r : st = (0, 0) := r
        subst r
        rw [if_pos (show (0 : Nat) < q - p by omega)]
        exact ⟨by show q = p + (q - p); omega, by show 0 < q - p; omega, rfl⟩
      | some b =>
        obtain ⟨r1, r2, r3⟩ := r
        dsimp only
        by_cases hb : b.2 < q
        · rw [if_pos hb, if_pos (show st.1 < q - p by omega)]
          exact ⟨by show q = p + (q - p); omega, by show 0 < q - p; omega, rfl⟩
        · rw [if_neg hb, if_neg (show ¬ st.1 < q - p by omega)]
          exact ⟨r1, r2, r3⟩
theorem rb_fold {p : Nat} : ∀ (es : List (List (List Nat))) (ms : List (List Nat)) (k : Nat) (a : Option (Nat × Nat)) (st : Nat × Nat), es.length = ms.length →
    (∀ i, endOf ((es.getD i []).getD p []) p = (ms.getD i []).getD p 0) → RB p a st →
    RB p ((es.zipIdx k).foldl (specBest p) a) ((ms.zipIdx k).foldl (fun (st : Nat × Nat) (x : List Nat × Nat) => bestStep (x.1.getD p 0) x.2 st) st)
  | [], [], _, _, _, _, _, r => r
  | [], _ :: _, _, _, _, h, _, _ => by simp at h
  | _ :: _, [], _, _, _, h, _, _ => by simp at h
  | e :: es, m :: ms, k, a, st, hl, h, r => by
    show RB p ((es.zipIdx (k + 1)).foldl (specBest p) (specBest p a (e, k))) ((ms.zipIdx (k + 1)).foldl _ (bestStep (m.getD p 0) k st))
    exact rb_fold es ms (k + 1) _ _ (by simpa using hl) (fun i => h (i + 1)) (rb_step r (h 0))
/-- the rules as the program keeps them -/
def RulesOk (rs : List (List PN)) : Prop := ∀ xs ∈ rs, OkFrom 0 xs ∧ xs ≠ []
def specRules (rs : List (List PN)) : List Rule := rs.map fun xs => xs.map toNode
def endsAll (rs : List (List PN)) (s : Bytes) : List (List (List Nat)) := (specRules rs).map fun (r : Rule) => ruleEnds r s
def matchedAll (rs : List (List PN)) (s : Bytes) : List (List Nat) := rs.map (matchedL (bytesN s))
theorem best_rel {rs : List (List PN)} {s : Bytes} (ok : RulesOk rs) (p : Nat) : RB p (bestAt (endsAll rs s) p) (bp (matchedAll rs s) p) := by
  refine rb_fold (endsAll rs s) (matchedAll rs s) 0 none (0, 0) (by unfold endsAll specRules matchedAll; simp) (fun i => ?_) rfl
  unfold endsAll specRules matchedAll
  rw [List.getD_eq_getElem?_getD (l := List.map _ _), List.getD_eq_getElem?_getD (l := List.map (matchedL _) _), List.map_map, List.getElem?_map, List.getElem?_map]
  cases e : rs[i]? with
  | none => rfl
  | some xs =>
    obtain ⟨h1, h2⟩ := ok xs (List.mem_of_getElem? e)
    exact ruleEnds_get h1 h2 p
theorem lenOf_le {p n e : Nat} (w : Within p n e) (hp : p ≤ n) : p + lenOf p e ≤ n := by
  unfold lenOf
  split
  · exact hp
  · rename_i h
    have := w _ (tb_log2 h)
    omega
theorem matched_le {s : Bytes} {xs : List PN} (ok : OkFrom 0 xs) (h : xs ≠ []) {p : Nat} (hp : p ≤ s.length) : p + (matchedL (bytesN s) xs).getD p 0 ≤ s.length := by
  unfold matchedL
  rw [List.getD_eq_getElem?_getD, zipIdx_map_get]
  have g := reachL_good (s := s) ok h
  cases e : (reachL (bytesN s) xs)[p]? with
  | none => exact hp
  | some v =>
    have := g.bits p
    rw [List.getD_eq_getElem?_getD, e] at this
    exact lenOf_le this hp
theorem bp_le {rs : List (List PN)} {s : Bytes} (ok : RulesOk rs) {p : Nat} (hp : p ≤ s.length) : p + (bp (matchedAll rs s) p).1 ≤ s.length := by
  have h : ∀ (rs : List (List PN)) (k : Nat) (st : Nat × Nat), (∀ xs ∈ rs, OkFrom 0 xs ∧ xs ≠ []) → p + st.1 ≤ s.length → p + (((rs.map (matchedL (bytesN s))).zipIdx k).foldl (fun (st : Nat × Nat) (x : List Nat × Nat) => bestStep (x.1.getD p 0) x.2 st) st).1 ≤ s.length := by
    intro rs
    induction rs with
    | nil => intro k st _ h; exact h
    | cons xs r ih =>
      intro k st ok h
      show p + (((r.map (matchedL (bytesN s))).zipIdx (k + 1)).foldl _ (bestStep ((matchedL (bytesN s) xs).getD p 0) k st)).1 ≤ s.length
      refine ih (k + 1) _ (fun x hx => ok x (List.mem_cons_of_mem _ hx)) ?_
      obtain ⟨a, b⟩ := ok xs (List.mem_cons_self ..)
      unfold bestStep
      split
      · exact matched_le a b hp
      · exact h
  exact h rs 0 (0, 0) ok hp

/-! ### tokens -/
theorem scan_at {e : List (List (List Nat))} {s : Bytes} {f p : Nat} {u : Bytes} (hu : u ≠ []) (h : s.length ≤ p ∨ bestAt e p ≠ none) : scanFrom e s f p u = ⟨none, u⟩ :: scanFrom e s f p [] := by
  cases f with
  | zero => show (if u = [] then _ else _) = _ :: (if ([] : Bytes) = [] then _ else _); rw [if_neg hu, if_pos rfl]
  | succ f =>
    unfold scanFrom
    cases e1 : s[p]? with
    | none => simp [hu]
    | some c =>
      cases e2 : bestAt e p with
      | none =>
        rcases h with h | h
        · rw [List.getElem?_eq_none h] at e1; cases e1
        · exact absurd e2 h
      | some b => simp [hu]
theorem scan_run {e : List (List (List Nat))} {s : Bytes} : ∀ (j f p : Nat) (u : Bytes), j ≤ f → (∀ i, i < j → p + i < s.length ∧ bestAt e (p + i) = none) → scanFrom e s f p u = scanFrom e s (f - j) (p + j) (u ++ (s.drop p).take j)
  | 0, f, p, u, _, _ => by simp
  | j + 1, f, p, u, hf, h => by
    obtain ⟨f, rfl⟩ : ∃ g, f = g + 1 := ⟨f - 1, by omega⟩
    obtain ⟨h1, h2⟩ := h 0 (by omega)
    have h1 : p < s.length := h1
    have h2 : bestAt e p = none := h2
    have e1 : s[p]? = some s[p] := List.getElem?_eq_getElem h1
    have e2 : scanFrom e s (f + 1) p u = scanFrom e s f (p + 1) (u ++ [s[p]]) := by
      rw [scanFrom.eq_2, e1]
      simp only [h2]
    rw [e2, scan_run j f (p + 1) _ (by omega) (fun i hi => by
      have := h (i + 1) (by omega)
      rw [show p + 1 + i = p + (i + 1) by omega]
      exact this)]
    have e3 : s.drop p = s[p] :: s.drop (p + 1) := List.drop_eq_getElem_cons h1
    rw [e3, List.take_succ_cons, show f + 1 - (j + 1) = f - j by omega, show p + 1 + j = p + (j + 1) by omega, List.append_assoc]
    rfl
def cut (s : Bytes) (b q : Nat) : Bytes := (s.take q).drop b
theorem cut_eq (s : Bytes) (b q : Nat) : cut s b q = (s.drop b).take (q - b) := by unfold cut; rw [List.drop_take]
/-- one token of a rule -/
theorem scan_rule {e : List (List (List Nat))} {s : Bytes} {f b k q : Nat} (hb : b < s.length) (h : bestAt e b = some (k, q)) : scanFrom e s (f + 1) b [] = ⟨some k, cut s b q⟩ :: scanFrom e s f q [] := by
  rw [scanFrom.eq_2, List.getElem?_eq_getElem hb]
  simp only [h]
  rfl
/-- one token of no rule -/
theorem scan_none {e : List (List (List Nat))} {s : Bytes} {f b q : Nat} (hbq : b < q) (hq : q ≤ s.length) (hf : q - b ≤ f) (h : ∀ i, b ≤ i → i < q → bestAt e i = none) (h2 : s.length ≤ q ∨ bestAt e q ≠ none) :
    scanFrom e s f b [] = ⟨none, cut s b q⟩ :: scanFrom e s (f - (q - b)) q [] := by
  rw [scan_run (q - b) f b [] hf (fun i hi => ⟨by omega, h _ (by omega) (by omega)⟩), show b + (q - b) = q by omega, List.nil_append, cut_eq]
  refine scan_at (fun z => ?_) h2
  have := congrArg List.length z
  simp at this
  omega
theorem scan_end {e : List (List (List Nat))} {s : Bytes} {f p : Nat} (h : s.length ≤ p) : scanFrom e s f p [] = [] := by
  cases f with
  | zero => rfl
  | succ f => rw [scanFrom.eq_2, List.getElem?_eq_none h]; rfl
/-- the tokens told so far, up to place b -/
structure Told (rs : List (List PN)) (s : Bytes) (b : Nat) (ts : List Tok) : Prop where
  le : b ≤ s.length
  eq : ∃ f, s.length < b + f ∧ ts ++ scanFrom (endsAll rs s) s f b [] = tokens (specRules rs) s
  sum : (ts.map fun (t : Tok) => t.bytes.length).sum = b
theorem told_start (rs : List (List PN)) (s : Bytes) : Told rs s 0 [] := ⟨Nat.zero_le _, ⟨s.length + 1, by omega, rfl⟩, rfl⟩
theorem told_end {rs : List (List PN)} {s : Bytes} {b : Nat} {ts : List Tok} (t : Told rs s b ts) (h : s.length ≤ b) : ts = tokens (specRules rs) s := by
  obtain ⟨f, _, e⟩ := t.eq
  rw [scan_end h, List.append_nil] at e
  exact e
theorem cut_len {s : Bytes} {b q : Nat} (h : q ≤ s.length) : (cut s b q).length = q - b := by
  unfold cut; rw [List.length_drop, List.length_take]; omega
theorem sum_snoc (l : List Tok) (t : Tok) : ((l ++ [t]).map fun (t : Tok) => t.bytes.length).sum = (l.map fun (t : Tok) => t.bytes.length).sum + t.bytes.length := by
  rw [List.map_append, List.sum_append]; simp
theorem told_rule {rs : List (List PN)} {s : Bytes} {b : Nat} {ts : List Tok} (ok : RulesOk rs) (t : Told rs s b ts) (hb : b < s.length) {sz ow : Nat} (h : bp (matchedAll rs s) b = (sz, ow + 1)) :
    Told rs s (b + sz) (ts ++ [⟨some ow, cut s b (b + sz)⟩]) ∧ 0 < sz := by
  have r := best_rel ok b (s := s)
  rw [h] at r
  have hle := bp_le ok (s := s) t.le
  rw [h] at hle
  cases e : bestAt (endsAll rs s) b with
  | none => rw [e] at r; cases r
  | some kq =>
    obtain ⟨k, q⟩ := kq
    rw [e] at r
    obtain ⟨r1, r2, r3⟩ := r
    have r1 : q = b + sz := r1
    have r2 : 0 < sz := r2
    have r3 : ow + 1 = k + 1 := r3
    have hk : k = ow := by omega
    subst hk r1
    obtain ⟨f, h1, h2⟩ := t.eq
    obtain ⟨f, rfl⟩ : ∃ g, f = g + 1 := ⟨f - 1, by omega⟩
    rw [scan_rule hb e] at h2
    refine ⟨⟨hle, ⟨f, by omega, ?_⟩, ?_⟩, r2⟩
    · rw [List.append_assoc]; exact h2
    · rw [sum_snoc, t.sum]
      show b + (cut s b (b + sz)).length = b + sz
      rw [cut_len hle]; omega
theorem bp_none {rs : List (List PN)} {s : Bytes} (ok : RulesOk rs) {p : Nat} : (bp (matchedAll rs s) p).2 = 0 ↔ bestAt (endsAll rs s) p = none := by
  have r := best_rel ok p (s := s)
  cases e : bestAt (endsAll rs s) p with
  | none => rw [e] at r; have r : _ = _ := r; rw [r]; simp
  | some b => rw [e] at r; obtain ⟨_, _, r⟩ := r; rw [r]; simp
theorem told_none {rs : List (List PN)} {s : Bytes} {b q : Nat} {ts : List Tok} (ok : RulesOk rs) (t : Told rs s b ts) (hbq : b < q) (hq : q ≤ s.length) (h : ∀ i, b ≤ i → i < q → (bp (matchedAll rs s) i).2 = 0) (h2 : s.length ≤ q ∨ (bp (matchedAll rs s) q).2 ≠ 0) :
    Told rs s q (ts ++ [⟨none, cut s b q⟩]) := by
  obtain ⟨f, h1, h3⟩ := t.eq
  rw [scan_none hbq hq (by omega) (fun i a b => (bp_none ok).mp (h i a b)) (h2.imp id fun z w => z ((bp_none ok).mpr w))] at h3
  refine ⟨hq, ⟨f - (q - b), by omega, ?_⟩, ?_⟩
  · rw [List.append_assoc]; exact h3
  · rw [sum_snoc, t.sum]
    show b + (cut s b q).length = q
    rw [cut_len hq]; omega
theorem startOf_prefix {ts us : List Tok} {i : Nat} (h : i = ts.length) : startOf (ts ++ us) i = (ts.map fun (t : Tok) => t.bytes.length).sum := by
  subst h; unfold startOf; rw [List.take_left]

/-! ### what an edit changed -/
theorem common_le : ∀ (a b : List Tok), common a b ≤ a.length ∧ common a b ≤ b.length
  | x :: a, y :: b => by
    unfold common
    have := common_le a b
    split
    · simp; omega
    · simp
  | [], _ => by simp [common]
  | _ :: _, [] => by simp [common]
/-- so far the same, and here it ends -/
theorem common_of : ∀ (f : Nat) (a b : List Tok), f ≤ a.length → f ≤ b.length → (∀ i, i < f → a[i]? = b[i]?) → (f = a.length ∨ f = b.length ∨ a[f]? ≠ b[f]?) → common a b = f
  | 0, a, b, _, _, _, h => by
    cases a with
    | nil => simp [common]
    | cons x a =>
      cases b with
      | nil => simp [common]
      | cons y b =>
        rcases h with h | h | h
        · simp at h
        · simp at h
        · unfold common
          rw [if_neg]
          intro z
          subst z
          exact h rfl
  | f + 1, a, b, ha, hb, hs, h => by
    cases a with
    | nil => simp at ha
    | cons x a =>
      cases b with
      | nil => simp at hb
      | cons y b =>
        have e := hs 0 (by omega)
        have e : some x = some y := e
        have e : x = y := Option.some.inj e
        unfold common
        rw [if_pos e, common_of f a b (by simpa using ha) (by simpa using hb) (fun i hi => by have := hs (i + 1) (by omega); simpa using this) (by simpa using h)]
theorem rev_drop_get {α : Type} {a : List α} {f i : Nat} (h : i < a.length - f) : (a.drop f).reverse[i]? = a[a.length - 1 - i]? := by
  rw [List.getElem?_reverse (by rw [List.length_drop]; exact h), List.getElem?_drop, List.length_drop]
  congr 1
  omega
theorem common_back {a b : List Tok} {f g : Nat} (ha : f + g ≤ a.length) (hb : f + g ≤ b.length) (hs : ∀ i, i < g → a[a.length - 1 - i]? = b[b.length - 1 - i]?)
    (h : f + g = a.length ∨ f + g = b.length ∨ a[a.length - 1 - g]? ≠ b[b.length - 1 - g]?) : common (a.drop f).reverse (b.drop f).reverse = g := by
  apply common_of
  · simp; omega
  · simp; omega
  · intro i hi
    rw [rev_drop_get (by omega), rev_drop_get (by omega)]
    exact hs i hi
  · by_cases h1 : f + g = a.length
    · left; simp; omega
    · by_cases h2 : f + g = b.length
      · right; left; simp; omega
      · rcases h with h | h | h
        · exact absurd h h1
        · exact absurd h h2
        · right; right
          rw [rev_drop_get (by omega), rev_drop_get (by omega)]
          exact h
end Elx

set_option Elab.async false
set_option linter.all false
set_option maxRecDepth 100000
set_option maxHeartbeats 2000000
namespace Elx
open PySem PySem.Spec PyProof.Rows L2
open PySem.W (Codec)
/-! ### the text by places -/
def top (i : Nat) : Stmt := PySem.Challenge.pw_editedlex_s01_answers.main.body.getD i (.Pass ⟨0, 0, 0, 0⟩)
/-! ### numbers and lists of numbers -/
abbrev vn (n : Nat) : V := .int (n : Int)
abbrev vns (l : List Nat) : List V := l.map vn
theorem vns_get {l : List Nat} {i x : Nat} (h : l[i]? = some x) : (vns l)[i]? = some (vn x) := by
  show (l.map vn)[i]? = _
  rw [List.getElem?_map, h]
  all_goals rfl
theorem vns_getD {l : List Nat} {i : Nat} (h : i < l.length) : (vns l)[i]? = some (vn (l.getD i 0)) := by
  refine vns_get ?_
  rw [List.getD_eq_getElem?_getD, List.getElem?_eq_getElem h]
  all_goals rfl
theorem and_nn (a b : Nat) : Builtin.bitAnd (a : Int) (b : Int) = ((a &&& b : Nat) : Int) := by
  rw [bitAnd_pp (Int.natCast_nonneg _) (Int.natCast_nonneg _)]
  all_goals rfl
theorem or_nn (a b : Nat) : Builtin.bitOr (a : Int) (b : Int) = ((a ||| b : Nat) : Int) := by
  rw [Bits.bitOr_pp (Int.natCast_nonneg _) (Int.natCast_nonneg _)]
  all_goals rfl
theorem xor_nn (a b : Nat) : Builtin.bitXor (a : Int) (b : Int) = ((a ^^^ b : Nat) : Int) := by
  rw [Bits.bitXor_pp (Int.natCast_nonneg _) (Int.natCast_nonneg _)]
  all_goals rfl
theorem clr_nn (a p : Nat) : Builtin.bitAnd (a : Int) (Builtin.bitNot ((2 ^ p : Nat) : Int)) = ((clr a p : Nat) : Int) := by
  have h : ¬ (0 : Int) ≤ Builtin.bitNot ((2 ^ p : Nat) : Int) := by
    unfold Builtin.bitNot
    have := Int.natCast_nonneg (2 ^ p)
    omega
  rw [bitAnd_pn (Int.natCast_nonneg _) h]
  have e : Builtin.bitNot (Builtin.bitNot ((2 ^ p : Nat) : Int)) = ((2 ^ p : Nat) : Int) := by unfold Builtin.bitNot; omega
  rw [e]
  show (a : Int) - ((a &&& 2 ^ p : Nat) : Int) = _
  have e2 : clr a p + (a &&& 2 ^ p) = a := by
    have h1 := Bits.nat_xor_add_and a (a &&& 2 ^ p)
    have h2 : a &&& (a &&& 2 ^ p) = a &&& 2 ^ p := by rw [← Nat.and_assoc, Nat.and_self]
    rw [h2] at h1
    unfold clr
    omega
  omega
theorem bits_n (a : Nat) : ((Builtin.Int.intBits (a : Int) : Nat) : Int) = (if a = 0 then 0 else ((a.log2 + 1 : Nat) : Int)) := by
  unfold Builtin.Int.intBits
  by_cases h : a = 0
  · subst h; rfl
  · rw [if_neg h]
    have : ((a : Int) == 0) = false := by
      rw [beq_eq_false_iff_ne]; omega
    rw [this]
    rfl
section
variable {X : Cx}
theorem mt_bitlen : MtR X "int.bit_length" (fun x xs H Q => ∃ i, x = .int i ∧ xs = [] ∧ Q (.int ((Builtin.Int.intBits i : Nat) : Int)) H) := by
  intro pins s σ H x xs v us Q I rx rxs h
  obtain ⟨i, rfl, rfl, q⟩ := h
  obtain ⟨t, rfl⟩ := rx
  cases rxs
  exact call_int_bit_length ⟨.int _, H, I.tok _, ⟨_, rfl⟩, q⟩
/-! ### operations upon numbers from 0 on -/
def bl (a : Nat) : Nat := if a = 0 then 0 else a.log2 + 1
theorem mt_bitlenN : MtR X "int.bit_length" (fun x xs H Q => ∃ a : Nat, x = vn a ∧ xs = [] ∧ Q (vn (bl a)) H) := by
  intro pins s σ H x xs v us Q I rx rxs h
  obtain ⟨a, rfl, rfl, q⟩ := h
  refine mt_bitlen pins s σ H _ [] v us Q I rx rxs ⟨_, rfl, rfl, ?_⟩
  have e : ((Builtin.Int.intBits (a : Int) : Nat) : Int) = (bl a : Int) := by
    rw [bits_n]; unfold bl; split <;> rfl
  rw [e]
  exact q
theorem opImp {f : Value → Value → Sem Value} {r r' : R2} (h : OpR X f r) (i : ∀ x y H Q, r' x y H Q → r x y H Q) : OpR X f r' :=
  fun pins s σ H x y v u Q I rx ry q => h pins s σ H x y v u Q I rx ry (i x y H Q q)
theorem op_addN : OpR X (binaryOp .Add) (fun x y H Q => ∃ a b : Nat, x = vn a ∧ y = vn b ∧ Q (vn (a + b)) H) := opImp op_add fun x y H Q ⟨a, b, hx, hy, q⟩ => ⟨a, b, hx, hy, by show Q (.int ((a : Int) + (b : Int))) H; rw [show (a : Int) + (b : Int) = ((a + b : Nat) : Int) by omega]; exact q⟩
theorem op_subN : OpR X (binaryOp .Sub) (fun x y H Q => ∃ a b : Nat, x = vn a ∧ y = vn b ∧ b ≤ a ∧ Q (vn (a - b)) H) := opImp op_sub fun x y H Q ⟨a, b, hx, hy, c, q⟩ => ⟨a, b, hx, hy, by show Q (.int ((a : Int) - (b : Int))) H; have c : b ≤ a := c; rw [show (a : Int) - (b : Int) = ((a - b : Nat) : Int) by omega]; exact q⟩
theorem op_andN : OpR X (binaryOp .BitAnd) (fun x y H Q => ∃ a b : Nat, x = vn a ∧ y = vn b ∧ Q (vn (a &&& b)) H) := opImp op_and fun x y H Q ⟨a, b, hx, hy, q⟩ => ⟨a, b, hx, hy, by show Q (.int (Builtin.bitAnd (a : Int) (b : Int))) H; rw [and_nn]; exact q⟩
theorem op_orN : OpR X (binaryOp .BitOr) (fun x y H Q => ∃ a b : Nat, x = vn a ∧ y = vn b ∧ Q (vn (a ||| b)) H) := opImp op_or fun x y H Q ⟨a, b, hx, hy, q⟩ => ⟨a, b, hx, hy, by show Q (.int (Builtin.bitOr (a : Int) (b : Int))) H; rw [or_nn]; exact q⟩
theorem op_xorN : OpR X (binaryOp .BitXor) (fun x y H Q => ∃ a b : Nat, x = vn a ∧ y = vn b ∧ Q (vn (a ^^^ b)) H) := opImp op_xor fun x y H Q ⟨a, b, hx, hy, q⟩ => ⟨a, b, hx, hy, by show Q (.int (Builtin.bitXor (a : Int) (b : Int))) H; rw [xor_nn]; exact q⟩
/-- 1 << n -/
theorem op_shlN : OpR X (binaryOp .LShift) (fun x y H Q => ∃ n : Nat, x = .int 1 ∧ y = vn n ∧ n ≤ 1000000 ∧ Q (vn (2 ^ n)) H) := opImp op_shl fun x y H Q ⟨n, hx, hy, c, q⟩ => ⟨1, n, hx, hy, ⟨Int.natCast_nonneg _, by omega, by decide⟩, by
  show Q (.int (1 * 2 ^ (n : Int).toNat)) H
  have : (1 : Int) * 2 ^ (n : Int).toNat = ((2 ^ n : Nat) : Int) := by
    rw [Int.one_mul, Int.natCast_pow]; rfl
  rw [this]; exact q⟩
theorem dec_congr {p q : Prop} [Decidable p] [Decidable q] (h : p ↔ q) : decide p = decide q := by
  by_cases hp : p
  · have hq := h.mp hp; simp [hp, hq]
  · have hq : ¬ q := fun z => hp (h.mpr z); simp [hp, hq]
theorem op_ltN : OpR X (compareOp .Lt) (fun x y H Q => ∃ a b : Nat, x = vn a ∧ y = vn b ∧ Q (.bl (decide (a < b))) H) := opImp op_lt fun x y H Q ⟨a, b, hx, hy, q⟩ => ⟨a, b, hx, hy, by show Q (.bl (decide ((a : Int) < (b : Int)))) H; rw [dec_congr (show (a : Int) < (b : Int) ↔ a < b by omega)]; exact q⟩
theorem op_leN : OpR X (compareOp .LtE) (fun x y H Q => ∃ a b : Nat, x = vn a ∧ y = vn b ∧ Q (.bl (decide (a ≤ b))) H) := opImp op_le fun x y H Q ⟨a, b, hx, hy, q⟩ => ⟨a, b, hx, hy, by show Q (.bl (decide ((a : Int) ≤ (b : Int)))) H; rw [dec_congr (show (a : Int) ≤ (b : Int) ↔ a ≤ b by omega)]; exact q⟩
theorem op_gtN : OpR X (compareOp .Gt) (fun x y H Q => ∃ a b : Nat, x = vn a ∧ y = vn b ∧ Q (.bl (decide (b < a))) H) := opImp op_gt fun x y H Q ⟨a, b, hx, hy, q⟩ => ⟨a, b, hx, hy, by show Q (.bl (decide ((b : Int) < (a : Int)))) H; rw [dec_congr (show (b : Int) < (a : Int) ↔ b < a by omega)]; exact q⟩
theorem op_geN : OpR X (compareOp .GtE) (fun x y H Q => ∃ a b : Nat, x = vn a ∧ y = vn b ∧ Q (.bl (decide (b ≤ a))) H) := opImp op_ge fun x y H Q ⟨a, b, hx, hy, q⟩ => ⟨a, b, hx, hy, by show Q (.bl (decide ((b : Int) ≤ (a : Int)))) H; rw [dec_congr (show (b : Int) ≤ (a : Int) ↔ b ≤ a by omega)]; exact q⟩
theorem op_eqN : OpR X (compareOp .Eq) (fun x y H Q => ∃ a b : Nat, x = vn a ∧ y = vn b ∧ Q (.bl (decide (a = b))) H) := opImp op_eq fun x y H Q ⟨a, b, hx, hy, q⟩ => by
  subst hx hy
  refine ⟨rfl, ?_⟩
  rw [dec_congr (show (vn a = vn b) ↔ a = b from ⟨fun e => by have := V.int.inj e; omega, fun e => by rw [e]⟩)]
  exact q
theorem op_neN : OpR X (compareOp .NotEq) (fun x y H Q => ∃ a b : Nat, x = vn a ∧ y = vn b ∧ Q (.bl (!decide (a = b))) H) := opImp op_ne fun x y H Q ⟨a, b, hx, hy, q⟩ => by
  subst hx hy
  refine ⟨rfl, ?_⟩
  rw [dec_congr (show (vn a = vn b) ↔ a = b from ⟨fun e => by have := V.int.inj e; omega, fun e => by rw [e]⟩)]
  exact q
theorem ix_listN : IxR X (fun x y H Q => ∃ (p : Addr) (xs : List V) (j : Nat) (v : V), x = .ref p ∧ y = vn j ∧ SqL X.K H p xs ∧ xs[j]? = some v ∧ Q v H) :=
  fun value slice pins s σ H x y v u Q I rx ry ⟨p, xs, j, z, hx, hy, hS, hj, q⟩ e => ix_list value slice pins s σ H x y v u Q I rx ry ⟨p, xs, (j : Int), z, hx, hy, hS, atI_nat hj, q⟩ e
/-- xs[-1] -/
theorem atI_neg1 {α : Type} {xs : List α} {v : α} (h : xs.getLast? = some v) : atI xs (-1) = some v := by
  obtain ⟨ys, rfl⟩ := List.getLast?_eq_some_iff.mp h
  exact atI_last ys v
/-- a def of the text that may be called -/
def Callee (P : Program) (w : World) (K : PySem.W.Frag) (mg : Str → Option Value) (base : Heap) (k : Nat) (x : Str) (ps : List Str) (sp : Sp) : Prop :=
  ∃ f fd, FnOk P w K mg base CX0 k f fd ps sp ∧ mg x = some (.ref f) ∧ PySem.W.keepIn K (.ref f) = true ∧ Binds K fd ps []
theorem pe_fn {k : Nat} {x : Str} {ps : List Str} {sp : Sp} {p pos : Pos} {e : Expr} {es : List Expr} {t : TA} (C : Callee X.prog X.w X.K X.mg X.base k x ps sp) (hr : Room k X.A) (hg : Gl X x) (ha : PA X (e :: es) t)
    (hdb : (x == ("__debug__" : Str)) = false := by decide) (he : starEach (e :: es) X.env = (false, eval e X.env) :: starEach es X.env := by rfl) (hpl : (backTo pos (starEach es X.env)).any (·.1) = false := by rfl) :
    PE X (.Call (.Name x p) (e :: es) [] pos) (tCall sp [] E0 t) := by
  obtain ⟨f, fd, G, hm, hk, hb⟩ := C
  exact pe_call G hr hg hm hk hb .nil pass0 ha hdb he hpl
end
/-- all but d as it was -/
def SameBut (d : Addr) (H H' : Hp) : Prop := ∀ b o, H b = some o → b ≠ d → H' b = some o
end Elx

set_option Elab.async false
set_option linter.all false
set_option maxRecDepth 100000
set_option maxHeartbeats 2000000
namespace Elx
open PySem PySem.Spec PyProof.Rows L2
open PySem.W (Codec)
abbrev sUnited : Stmt := top 22
/-- what united has found: of the sets with places from m on -/
structure Known (y : List Nat) (m : Nat) (kvs : List (Key × V)) : Prop where
  zero : valV kvs (Sum.inl 0) = some (.int 0)
  all : ∀ k v, valV kvs k = some v → ∃ n : Nat, k = Sum.inl (n : Int) ∧ v = vn (uni y n) ∧ ∀ q, n.testBit q = true → m ≤ q
def spUnited (K : PySem.W.Frag) : Sp := fun vs H Q _ => ∃ (a d : Addr) (y : List Nat) (e m : Nat) (kvs : List (Key × V)), vs = [.ref a, vn e, .ref d] ∧ SqL K H a (vns y) ∧ H d = some (.dK kvs) ∧ kvs.length < sizeLine ∧ Known y m kvs ∧
  (∀ q, e.testBit q = true → m ≤ q ∧ q < y.length) ∧ ∀ kvs', Known y m kvs' → kvs'.length ≤ kvs.length + 1 → Q (vn (uni y e)) (upd H d (.dK kvs'))
section
variable {P : Program} {w : World} {K : PySem.W.Frag} {mg : Str → Option Value} {base : Heap}
theorem scUnited : FnScope ["reach", "places", "known", "ends", "left", "rest", "lowest"] ["reach", "places", "known"] (defScope sUnited) := ⟨rfl, rfl, rfl, by decide +kernel, rfl, by decide +kernel, by decide +kernel⟩
theorem Known.put {y : List Nat} {m e : Nat} {kvs : List (Key × V)} (h : Known y m kvs) (he : ∀ q, e.testBit q = true → m ≤ q) : Known y m (putK kvs (Sum.inl (e : Int)) (vn (uni y e))) := by
  refine ⟨?_, fun k v hv => ?_⟩
  · rw [valV_put]
    by_cases z : (Sum.inl 0 : Key) = Sum.inl (e : Int)
    · rw [if_pos z]
      have z2 : (0 : Int) = (e : Int) := Sum.inl.inj z
      have z3 : e = 0 := by omega
      subst z3
      rw [uni_zero]
      rfl
    · rw [if_neg z]; exact h.zero
  · rw [valV_put] at hv
    by_cases z : k = Sum.inl (e : Int)
    · rw [if_pos z] at hv
      exact ⟨e, z, (Option.some.inj hv).symm, he⟩
    · rw [if_neg z] at hv
      exact h.all k v hv
theorem ok_united {f : Addr} {fd : FuncData} (F : Fun K "united" "united" sUnited f fd) : FnOk P w K mg base CX0 1 f fd ["reach", "places", "known"] (spUnited K) := by
  refine F.ok scUnited (fun vs H Q E h => ?_) (fun cdv A outer s H vs Q E hr h => ?_)
  · obtain ⟨a, d, y, e, m, kvs, rfl, _⟩ := h
    rfl
  · obtain ⟨a, d, y, e, m, kvs, rfl, hS, hd, hlen, hk, hb, k⟩ := h
    have hu := hu_of hr
    have nd := scUnited.nd
    refine ⟨_, pss_cons (ps_set (i := 3) nd rfl (Or.inl rfl) pe_int)
      (pss_cons (ps_set (i := 4) nd rfl (Or.inl rfl) (pv 1))
      (pss_cons (ps_while PassesOwn.never (pt_cmp (pc_dnotin hu (pv 4) (pv 2)))
        (pss_cons (ps_set (i := 5) nd rfl (Or.inl rfl) (pe_op op_andN (pv 4) (pe_op op_subN (pv 4) pe_int)))
        (pss_cons (ps_set (i := 6) nd rfl (Or.inl rfl) (pe_op op_subN (pe_bm0 PySem.F.plainAttrs_int slot_int_bit_length type_int_bit_length mt_bitlenN (pe_op op_xorN (pv 4) (pv 5))) pe_int))
        (pss_cons (ps_set (i := 3) nd rfl (Or.inl rfl) (pe_op op_orN (pv 3) (pe_ix ix_listN (pv 0) (pv 6) (fun _ _ => rfl))))
        (pss_one (ps_set (i := 4) nd rfl (Or.inl rfl) (pv 5)))))))
      (pss_cons (ps_dput hu (pv 2) (pv 1) (pe_op op_orN (pv 3) (pe_dget hu (pv 2) (pv 4) (fun _ _ => rfl))) rfl)
      (pss_one (ps_ret (pe_dget hu (pv 2) (pv 1) (fun _ _ => rfl))))))), ?_⟩
    refine ⟨_, rfl, ?_⟩
    refine while_by (fun σ H' => H' = H ∧ ∃ (ends left : Nat) (v5 v6 : Option V), σ = [some (.ref a), some (vn e), some (.ref d), some (vn ends), some (vn left), v5, v6] ∧ ends ||| uni y left = uni y e ∧ ∀ q, left.testBit q = true → m ≤ q ∧ q < y.length)
      (fun (σ : L2.St) (_ : Hp) => match σ[4]? with | some (some (V.int i)) => i.toNat | _ => 0) ⟨rfl, 0, e, none, none, rfl, by rw [Nat.zero_or], hb⟩ ?_ ?_
    · rintro σ H' ⟨rfl, ends, left, v5, v6, rfl, heq, hbl⟩
      refine ⟨_, rfl, _, rfl, d, _, rfl, DGet.k (k := Sum.inl (left : Int)) hd, _, rfl, ?_⟩
      cases ev : valV kvs (Sum.inl (left : Int)) with
      | none =>
        refine iteT ?_
        have hl : left ≠ 0 := fun z => by
          subst z
          have := hk.zero
          rw [show (Sum.inl 0 : Key) = Sum.inl ((0 : Nat) : Int) from rfl, ev] at this
          cases this
        obtain ⟨l, h1, h2, h3⟩ := low_place left hl
        obtain ⟨t1, t2⟩ := uni_turn (y := y) hl h2
        have hll := hbl l t2
        have e2 : bl (left ^^^ (left &&& (left - 1))) = l + 1 := by
          rw [h2]; unfold bl; rw [if_neg (Nat.ne_of_gt (Nat.two_pow_pos l)), Nat.log2_two_pow]
        -- rest
        refine ⟨_, rfl, _, rfl, _, 1, rfl, rfl, Nat.pos_of_ne_zero hl, _, _, rfl, rfl, ?_⟩
        -- lowest
        refine ⟨_, rfl, _, rfl, _, _, rfl, rfl, rfl, _, rfl, rfl, ?_⟩
        rw [e2]
        refine ⟨_, 1, rfl, rfl, Nat.le_add_left _ _, ?_⟩
        -- ends | reach[lowest]
        refine ⟨_, rfl, _, rfl, _, rfl, a, _, l, _, rfl, rfl, hS, vns_getD hll.2, _, _, rfl, rfl, ?_⟩
        refine ⟨_, rfl, ?_⟩
        refine ⟨⟨rfl, ends ||| y.getD l 0, left &&& (left - 1), some (vn (left &&& (left - 1))), some (vn l), rfl, ?_, ?_⟩, ?_⟩
        · rw [Nat.or_assoc, ← t1]; exact heq
        · intro q hq
          rw [h3 q, Bool.and_eq_true] at hq
          exact hbl q hq.1
        · exact and_pred_lt hl
      | some v =>
        refine iteF ?_
        obtain ⟨n, g1, g2, g3⟩ := hk.all _ _ ev
        have gn : left = n := by have := Sum.inl.inj g1; omega
        subst gn
        -- known[places] = ends | known[left]
        refine ⟨_, rfl, _, rfl, _, rfl, d, v, rfl, by rw [← ev]; exact DGet.k (k := Sum.inl (left : Int)) hd, ?_⟩
        rw [g2]
        refine ⟨_, _, rfl, rfl, ?_⟩
        rw [heq]
        refine ⟨_, rfl, _, rfl, d, _, rfl, DPut.k (k := Sum.inl (e : Int)) hd hlen, ?_⟩
        refine ⟨_, rfl, _, rfl, d, vn (uni y e), rfl, ?_, ?_⟩
        · have := DGet.k (H := upd H' d (.dK (putK kvs (Sum.inl (e : Int)) (vn (uni y e))))) (a := d) (k := Sum.inl (e : Int)) upd_same
          rw [valV_put, if_pos rfl] at this
          exact this
        · exact k _ (hk.put fun q hq => (hb q hq).1) (length_putK _ _ _)
    · rintro σ H' Q1 Q2 hQ ⟨v, h1, v2, h2, a', o, h3, h4, c, h5, h6⟩
      exact ⟨v, h1, v2, h2, a', o, h3, h4, c, h5, hQ _ _ h6⟩
end
end Elx

set_option Elab.async false
set_option linter.all false
set_option maxRecDepth 100000
set_option maxHeartbeats 2000000
namespace Elx
open PySem PySem.Spec PyProof.Rows L2
open PySem.W (Codec)
/-- the names of Python's own that the text uses -/
structure Own (mg : Str → Option Value) : Prop where
  len : mg "len" = none
  range : mg "range" = none
  enum : mg "enumerate" = none
  zip : mg "zip" = none
  all : mg "all" = none
  max : mg "max" = none
  min : mg "min" = none
  tuple : mg "tuple" = none
theorem take_snoc {α : Type} : ∀ {l : List α} {i : Nat} {x : α}, l[i]? = some x → l.take (i + 1) = l.take i ++ [x]
  | [], i, x, h => by simp at h
  | a :: l, 0, x, h => by
    have e : a = x := Option.some.inj h
    subst e
    rfl
  | a :: l, i + 1, x, h => by
    have ih := take_snoc (l := l) (i := i) (x := x) h
    show a :: l.take (i + 1) = a :: l.take i ++ [x]
    rw [ih]
    rfl
/-- a comprehension of n turns -/
theorem lc_by {J : It} {g : TG} {tt : TT} {te : TE} {vs : List Nat} {σ : L2.St} {H1 : Hp} {Q : Hp → Prop} {D : Addr} (n : Nat) (Pv : Nat → Hp → Prop) (h0 : Pv 0 (upd H1 D (.lst [])))
    (stop : ∀ H, Pv n H → J.stop n H ∧ Q H)
    (go : ∀ i H, i < n → Pv i H → J.go i H ∧ ∀ x H', J.yld i H x H' → g x (wipe σ vs) H' fun σ2 H2 => wipe σ2 vs = wipe σ vs ∧ tt σ2 H2 fun b H3 =>
      if b = true then te σ2 H3 fun y H4 => ∃ acc, H4 D = some (.lst acc) ∧ acc.length < sizeLine ∧ Pv (i + 1) (upd H4 D (.lst (acc ++ [y]))) else Pv (i + 1) H3) :
    ∃ W : Nat → Nat → Hp → Prop, (∃ m, W 0 m (upd H1 D (.lst []))) ∧ ∀ i m H, W i m H →
      (J.stop i H ∧ Q H) ∨ (J.go i H ∧ ∃ Nx : Hp → Prop, (∀ H', Nx H' → ∃ m', m' < m ∧ W (i + 1) m' H') ∧ ∀ x H', J.yld i H x H' → g x (wipe σ vs) H' fun σ2 H2 => wipe σ2 vs = wipe σ vs ∧ tt σ2 H2 fun b H3 =>
        if b = true then te σ2 H3 fun y H4 => ∃ acc, H4 D = some (.lst acc) ∧ acc.length < sizeLine ∧ Nx (upd H4 D (.lst (acc ++ [y]))) else Nx H3) := by
  refine ⟨fun i m H => i ≤ n ∧ m = n - i ∧ Pv i H, ⟨n, Nat.zero_le _, rfl, h0⟩, fun i m H ⟨hi, hm, hp⟩ => ?_⟩
  by_cases e : i = n
  · subst e; exact .inl (stop H hp)
  · obtain ⟨h1, h2⟩ := go i H (by omega) hp
    exact .inr ⟨h1, fun H' => Pv (i + 1) H', fun H' hH => ⟨n - (i + 1), by omega, by omega, rfl, hH⟩, h2⟩
theorem Same.upd_new {H H1 : Hp} {p : Addr} {o : HO} (s : Same H H1) (h : H p = none) : Same H (upd H1 p o) := fun b u e => by
  rw [upd_ne (ne_of_none e h)]; exact s b u e
/-- .. that makes a list that is known -/
theorem lc_list {J : It} {g : TG} {te : TE} {vs : List Nat} {σ : L2.St} {H1 : Hp} {Q : Hp → Prop} {D : Addr} (L : List V) (hz : L.length ≤ sizeLine) (hD : H1 D = none)
    (stop : ∀ H, Same H1 H → J.stop L.length H) (fin : ∀ H, Same H1 H → H D = some (.lst L) → Q H)
    (go : ∀ i x H, L[i]? = some x → Same H1 H → J.go i H) (turn : ∀ i x H (Q' : VK), L[i]? = some x → Same H1 H → (∀ H4, Same H H4 → Q' x H4) → ∀ z H2, J.yld i H z H2 → g z (wipe σ vs) H2 fun σ2 H3 => wipe σ2 vs = wipe σ vs ∧ te σ2 H3 Q') :
    ∃ W : Nat → Nat → Hp → Prop, (∃ m, W 0 m (upd H1 D (.lst []))) ∧ ∀ i m H, W i m H →
      (J.stop i H ∧ Q H) ∨ (J.go i H ∧ ∃ Nx : Hp → Prop, (∀ H', Nx H' → ∃ m', m' < m ∧ W (i + 1) m' H') ∧ ∀ x H', J.yld i H x H' → g x (wipe σ vs) H' fun σ2 H2 => wipe σ2 vs = wipe σ vs ∧ tYes σ2 H2 fun b H3 =>
        if b = true then te σ2 H3 fun y H4 => ∃ acc, H4 D = some (.lst acc) ∧ acc.length < sizeLine ∧ Nx (upd H4 D (.lst (acc ++ [y]))) else Nx H3) := by
  refine lc_by L.length (fun i H => Same H1 H ∧ H D = some (.lst (L.take i))) ⟨Same.upd_new (Same.refl _) hD, upd_same⟩ (fun H ⟨h1, h2⟩ => ⟨stop H h1, fin H h1 (by rw [List.take_length] at h2; exact h2)⟩) (fun i H hi ⟨h1, h2⟩ => ?_)
  have hx : L[i]? = some L[i] := List.getElem?_eq_getElem hi
  refine ⟨go i _ H hx h1, turn i _ H _ hx h1 fun H4 h4 => ?_⟩
  refine ⟨_, h4 _ _ h2, by rw [List.length_take]; omega, Same.upd_new (h1.trans h4) hD, ?_⟩
  rw [upd_same, take_snoc hx]
/-- a new list, what stood is as it was -/
def NewL (H : Hp) (l : List V) (Q : VK) : Prop := ∀ (p : Addr) (H' : Hp), H p = none → Same H H' → H' p = some (.lst l) → Q (.ref p) H'
theorem small512 {n : Nat} (h : n ≤ 600) : n < sizeLine := by show n < 2 ^ 24; omega
theorem small512' {n : Nat} (h : n ≤ 600) : n ≤ sizeLine := by show n ≤ 2 ^ 24; omega
theorem vns_at {l : List Nat} {i : Nat} {x : V} (h : (vns l)[i]? = some x) : ∃ n, l[i]? = some n ∧ x = vn n := by
  have h : (l.map vn)[i]? = some x := h
  rw [List.getElem?_map] at h
  cases e : l[i]? with
  | none => rw [e] at h; cases h
  | some n => rw [e] at h; exact ⟨n, rfl, (Option.some.inj h).symm⟩
theorem vns_snoc (l : List Nat) (x : Nat) : vns (l ++ [x]) = vns l ++ [vn x] := List.map_append
theorem vns_len (l : List Nat) : (vns l).length = l.length := List.length_map ..
/-! ### names in a row -/
theorem pg_names2 {X : Cx} (K : PySem.W.Frag) (hK : X.K = K) {i j : Nat} {x y : Str} {px py pos : Pos} {k : Nat} (hc : X.calm = true) (hN : X.N.Nodup) (hi : X.N[i]? = some x) (hj : X.N[j]? = some y) (hx : Loc X.env.scope x) (hy : Loc X.env.scope y)
    (fx : X.fn x = true ∨ X.env.scope.names.lookup x = some .local) (fy : X.fn y = true ∨ X.env.scope.names.lookup y = some .local) :
    PG X (.Tuple [.Name x px, .Name y py] k pos) (gTup K 2 (gCons (gName i) (gCons (gName j) gNil))) :=
  hK ▸ pg_tup hc (pgs_cons (pg_name hN hi hx fx) (pgs_cons (pg_name hN hj hy fy) pgs_nil))
theorem pg_names5 {X : Cx} (K : PySem.W.Frag) (hK : X.K = K) {i1 i2 i3 i4 i5 : Nat} {x1 x2 x3 x4 x5 : Str} {p1 p2 p3 p4 p5 pos : Pos} {k : Nat} (hc : X.calm = true) (hN : X.N.Nodup) (h1 : X.N[i1]? = some x1) (h2 : X.N[i2]? = some x2) (h3 : X.N[i3]? = some x3) (h4 : X.N[i4]? = some x4) (h5 : X.N[i5]? = some x5)
    (l1 : Loc X.env.scope x1) (l2 : Loc X.env.scope x2) (l3 : Loc X.env.scope x3) (l4 : Loc X.env.scope x4) (l5 : Loc X.env.scope x5)
    (f1 : X.fn x1 = true ∨ X.env.scope.names.lookup x1 = some .local) (f2 : X.fn x2 = true ∨ X.env.scope.names.lookup x2 = some .local) (f3 : X.fn x3 = true ∨ X.env.scope.names.lookup x3 = some .local) (f4 : X.fn x4 = true ∨ X.env.scope.names.lookup x4 = some .local) (f5 : X.fn x5 = true ∨ X.env.scope.names.lookup x5 = some .local) :
    PG X (.Tuple [.Name x1 p1, .Name x2 p2, .Name x3 p3, .Name x4 p4, .Name x5 p5] k pos) (gTup K 5 (gCons (gName i1) (gCons (gName i2) (gCons (gName i3) (gCons (gName i4) (gCons (gName i5) gNil)))))) :=
  hK ▸ pg_tup hc (pgs_cons (pg_name hN h1 l1 f1) (pgs_cons (pg_name hN h2 l2 f2) (pgs_cons (pg_name hN h3 l3 f3) (pgs_cons (pg_name hN h4 l4 f4) (pgs_cons (pg_name hN h5 l5 f5) pgs_nil)))))
section
variable {P : Program} {w : World} {K : PySem.W.Frag} {mg : Str → Option Value} {base : Heap}

/-! ### reach_of_nothing -/
abbrev sNothing : Stmt := top 17
def spNothing (K : PySem.W.Frag) : Sp := fun vs H Q _ => ∃ (a : Addr) (s : List Nat), vs = [.ref a] ∧ SqL K H a (vns s) ∧ s.length ≤ 512 ∧ NewL H (vns (nothingL s.length)) Q
theorem scNothing : FnScope ["text", "place"] ["text"] (defScope sNothing) := ⟨rfl, rfl, rfl, by decide +kernel, rfl, by decide +kernel, by decide +kernel⟩
theorem nothing_at {n i x : Nat} (h : (nothingL n)[i]? = some x) : x = 2 ^ i ∧ i ≤ n := by
  unfold nothingL at h
  rw [List.getElem?_map] at h
  by_cases hi : i < n + 1
  · rw [List.getElem?_range hi] at h
    exact ⟨(Option.some.inj h).symm, by omega⟩
  · rw [List.getElem?_eq_none (by simp; omega)] at h; cases h
theorem nothing_len (n : Nat) : (nothingL n).length = n + 1 := by unfold nothingL; simp
theorem ok_nothing {f : Addr} {fd : FuncData} (F : Fun K "reach_of_nothing" "reach_of_nothing" sNothing f fd) (T : Own mg) : FnOk P w K mg base CX0 1 f fd ["text"] (spNothing K) := by
  refine F.ok scNothing (fun vs H Q E h => ?_) (fun cdv A outer s H vs Q E hr h => ?_)
  · obtain ⟨a, y, rfl, _⟩ := h
    rfl
  · obtain ⟨a, y, rfl, hS, hn, k⟩ := h
    have nd := scNothing.nd
    refine ⟨_, pss_one (ps_ret (pe_lc (own := [("place", 1)]) rfl nd (pi_range1 rfl T.range (pa_cons (pe_op op_addN (pe_callB call_len_seq (by rfl) T.len PySem.boot_len (pa_cons (pv 0) pa_nil)) pe_int) pa_nil))
      (show BlkOk ["text", "place"] (defScope sNothing) _ _ from ⟨rfl, by decide +kernel, by decide +kernel, by decide +kernel, by decide +kernel⟩) (fun _ _ _ _ _ => pg_name (i := 1) nd rfl (Or.inl rfl)) (fun _ _ _ _ _ => pts_nil) (fun _ _ _ _ _ => pe_op op_shlN pe_int (pv 1)))), ?_⟩
    refine ⟨_, rfl, a, _, rfl, .inl hS, _, 1, rfl, rfl, ?_⟩
    rw [List.length_map]
    refine ⟨_, rfl, by omega, by omega, fun D hD => ?_⟩
    refine lc_list (vns (nothingL y.length)) (by rw [vns_len, nothing_len]; exact small512' (by omega)) hD (fun H' hs => ?_) (fun H' hs hl => k D H' hD hs hl) (fun i x H' hx hs => ?_) (fun i x H' Q' hx hs hQ => ?_)
    · rw [vns_len, nothing_len]; show Int.toNat _ ≤ _; omega
    · obtain ⟨n, hy, rfl⟩ := vns_at hx
      have := (nothing_at hy).2
      show _ < Int.toNat _; omega
    · rintro x H2 ⟨rfl, rfl⟩
      obtain ⟨n, hy, rfl⟩ := vns_at hx
      obtain ⟨rfl, hi⟩ := nothing_at hy
      have e0 : V.int (0 + (i : Int)) = vn i := by rw [Int.zero_add]
      exact ⟨rfl, _, rfl, i, rfl, e0, by omega, hQ _ (Same.refl _)⟩

/-! ### reach_of_byte -/
abbrev sByte : Stmt := top 18
def spByte (K : PySem.W.Frag) : Sp := fun vs H Q _ => ∃ (a : Addr) (lo hi : Nat) (s : List Nat), vs = [vn lo, vn hi, .ref a] ∧ SqL K H a (vns s) ∧ s.length ≤ 512 ∧ NewL H (vns (byteL lo hi s)) Q
theorem scByte : FnScope ["lo", "hi", "text", "reach", "place", "byte"] ["lo", "hi", "text"] (defScope sByte) := ⟨rfl, rfl, rfl, by decide +kernel, rfl, by decide +kernel, by decide +kernel⟩
def byte0 (lo hi : Nat) (s : List Nat) : List Nat := s.zipIdx.map fun (x : Nat × Nat) => if lo ≤ x.1 ∧ x.1 ≤ hi then 2 ^ (x.2 + 1) else 0
theorem byte0_len (lo hi : Nat) (s : List Nat) : (byte0 lo hi s).length = s.length := by unfold byte0; simp
theorem ok_byte {f : Addr} {fd : FuncData} (F : Fun K "reach_of_byte" "reach_of_byte" sByte f fd) (T : Own mg) : FnOk P w K mg base CX0 1 f fd ["lo", "hi", "text"] (spByte K) := by
  refine F.ok scByte (fun vs H Q E h => ?_) (fun cdv A outer s H vs Q E hr h => ?_)
  · obtain ⟨a, lo, hi, y, rfl, _⟩ := h
    rfl
  · obtain ⟨a, lo, hi, y, rfl, hS, hn, k⟩ := h
    have nd := scByte.nd
    refine ⟨_, pss_cons (ps_setLc (i := 3) (own := [("place", 4), ("byte", 5)]) rfl nd rfl rfl rfl (pi_enum rfl T.enum (pa_cons (pv 2) pa_nil))
      (show BlkOk ["lo", "hi", "text", "reach", "place", "byte"] (defScope sByte) _ _ from ⟨rfl, by decide +kernel, by decide +kernel, by decide +kernel, by decide +kernel⟩)
      (fun _ _ _ _ _ => pg_names2 K rfl (i := 4) (j := 5) rfl nd rfl rfl (Or.inl rfl) (Or.inl rfl) (Or.inr rfl) (Or.inr rfl)) (fun _ _ _ _ _ => pts_nil)
      (fun _ _ _ _ _ => pe_ifExp ((pw_and (pt_cmpR op_leN (pv 0) (pv 5) (nomark _)) (pw_and1 (pt_cmpR op_leN (pv 5) (pv 1) (nomark _)))).pt) (pe_op op_shlN pe_int (pe_op op_addN (pv 4) pe_int)) pe_int))
      (pss_one (ps_ret (pe_op op_cat (pv 3) (pe_lst (pa_cons pe_int pa_nil))))), ?_⟩
    refine ⟨_, rfl, a, _, rfl, hS, fun D hD => ?_⟩
    refine lc_list (vns (byte0 lo hi y)) (by rw [vns_len, byte0_len]; exact small512' (by omega)) hD (fun H' hs => ?_) (fun H' hs hl => ?_) (fun i x H' hx hs => ?_) (fun i x H' Q' hx hs hQ => ?_)
    · exact ⟨_, hs.seq hS, by rw [vns_len, vns_len, byte0_len]; exact Nat.le_refl _⟩
    · -- return reach + [0]
      refine ⟨_, rfl, Nat.succ_le_of_lt (Nat.two_pow_pos 24), fun q hq => ?_⟩
      refine ⟨D, q, _, _, rfl, rfl, by rw [upd_ne (ne_of_none hl hq)]; exact hl, upd_same, ?_, fun p hp => ?_⟩
      · rw [vns_len, byte0_len]; exact small512' (by show y.length + 1 ≤ _; omega)
      · have s2 : Same H' (upd H' q (.lst [V.int 0])) := Same.upd_new (Same.refl _) hq
        have hp' := s2.free hp
        refine k p _ (hs.free hp') (Same.upd_new (hs.trans s2) (hs.free hp')) ?_
        rw [upd_same]
        congr 2
        show vns _ ++ [vn 0] = vns (byte0 lo hi y ++ [0])
        rw [vns_snoc]
    · obtain ⟨n, hy, rfl⟩ := vns_at hx
      have hi := (List.getElem?_eq_some_iff.mp hy).1
      rw [byte0_len] at hi
      exact ⟨_, _, hs.seq hS, vns_getD hi⟩
    · rintro z H2 ⟨t, c, rfl, ht, rfl, hc⟩
      obtain ⟨n, hy, rfl⟩ := vns_at hx
      have hc := hc _ (hs.seq hS)
      obtain ⟨c, hc2, rfl⟩ := vns_at hc
      have en : n = if lo ≤ c ∧ c ≤ hi then 2 ^ (i + 1) else 0 := by
        unfold byte0 at hy
        rw [zipIdx_map_get, hc2] at hy
        exact (Option.some.inj hy).symm
      have hlt := (List.getElem?_eq_some_iff.mp hc2).1
      have s2 : Same H' (upd H' t (.tup [.int (i : Nat), vn c])) := Same.upd_new (Same.refl _) ht
      refine ⟨t, _, rfl, SqT.of upd_same, rfl, _, _, rfl, _, _, rfl, rfl, rfl, ?_⟩
      refine ⟨_, rfl, _, rfl, _, _, rfl, rfl, _, rfl, ?_⟩
      by_cases h1 : lo ≤ c
      · rw [decide_eq_true h1]
        refine ⟨_, rfl, _, rfl, _, _, rfl, rfl, _, rfl, ?_⟩
        by_cases h2 : c ≤ hi
        · rw [decide_eq_true h2]
          refine ⟨_, rfl, i, 1, rfl, rfl, _, rfl, rfl, by omega, ?_⟩
          rw [if_pos ⟨h1, h2⟩] at en
          rw [← en]
          exact hQ _ s2
        · rw [decide_eq_false h2]
          rw [if_neg (fun z => h2 z.2)] at en
          subst en
          exact hQ _ s2
      · rw [decide_eq_false h1]
        rw [if_neg (fun z => h1 z.1)] at en
        subst en
        exact hQ _ s2

/-! ### reach_of_choice -/
abbrev sChoice : Stmt := top 19
def spChoice (K : PySem.W.Frag) : Sp := fun vs H Q _ => ∃ (a b : Addr) (x y : List Nat), vs = [.ref a, .ref b] ∧ SqL K H a (vns x) ∧ SqL K H b (vns y) ∧ x.length = y.length ∧ x.length ≤ 600 ∧ NewL H (vns (choiceL x y)) Q
theorem scChoice : FnScope ["one", "other", "ends", "other_ends"] ["one", "other"] (defScope sChoice) := ⟨rfl, rfl, rfl, by decide +kernel, rfl, by decide +kernel, by decide +kernel⟩
theorem choice_len {x y : List Nat} (h : x.length = y.length) : (choiceL x y).length = x.length := by unfold choiceL; rw [List.length_zipWith, h, Nat.min_self]
theorem ok_choice {f : Addr} {fd : FuncData} (F : Fun K "reach_of_choice" "reach_of_choice" sChoice f fd) (T : Own mg) : FnOk P w K mg base CX0 1 f fd ["one", "other"] (spChoice K) := by
  refine F.ok scChoice (fun vs H Q E h => ?_) (fun cdv A outer s H vs Q E hr h => ?_)
  · obtain ⟨a, b, x, y, rfl, _⟩ := h
    rfl
  · obtain ⟨a, b, x, y, rfl, hS, hS2, hl, hn, k⟩ := h
    have nd := scChoice.nd
    refine ⟨_, pss_one (ps_ret (pe_lc (own := [("ends", 2), ("other_ends", 3)]) rfl nd (pi_zip rfl T.zip (pa_cons (pv 0) (pa_cons (pv 1) pa_nil)))
      (show BlkOk ["one", "other", "ends", "other_ends"] (defScope sChoice) _ _ from ⟨rfl, by decide +kernel, by decide +kernel, by decide +kernel, by decide +kernel⟩)
      (fun _ _ _ _ _ => pg_names2 K rfl (i := 2) (j := 3) rfl nd rfl rfl (Or.inl rfl) (Or.inl rfl) (Or.inr rfl) (Or.inr rfl)) (fun _ _ _ _ _ => pts_nil)
      (fun _ _ _ _ _ => pe_op op_orN (pv 2) (pv 3)))), ?_⟩
    refine ⟨_, rfl, _, rfl, a, b, _, _, rfl, hS, hS2, fun D hD => ?_⟩
    refine lc_list (vns (choiceL x y)) (by rw [vns_len, choice_len hl]; exact small512' hn) hD (fun H' hs => ?_) (fun H' hs hl => k D H' hD hs hl) (fun i z H' hx hs => ?_) (fun i z H' Q' hx hs hQ => ?_)
    · exact ⟨_, _, hs.seq hS, hs.seq hS2, .inl (by rw [vns_len, vns_len, choice_len hl]; exact Nat.le_refl _)⟩
    · obtain ⟨n, hy, rfl⟩ := vns_at hx
      have hi := (List.getElem?_eq_some_iff.mp hy).1
      rw [choice_len hl] at hi
      exact ⟨_, _, _, _, hs.seq hS, hs.seq hS2, vns_getD hi, vns_getD (by omega)⟩
    · rintro v H2 ⟨t, c, d, rfl, ht, rfl, hc, hd⟩
      obtain ⟨n, hy, rfl⟩ := vns_at hx
      have hc := hc _ (hs.seq hS)
      have hd := hd _ (hs.seq hS2)
      obtain ⟨c, hc2, rfl⟩ := vns_at hc
      obtain ⟨d, hd2, rfl⟩ := vns_at hd
      have en : c ||| d = n := by
        unfold choiceL at hy
        rw [List.getElem?_zipWith, hc2, hd2] at hy
        exact Option.some.inj hy
      refine ⟨t, _, rfl, SqT.of upd_same, rfl, _, _, rfl, _, _, rfl, rfl, rfl, ?_⟩
      refine ⟨_, rfl, _, rfl, _, _, rfl, rfl, ?_⟩
      rw [en]
      exact hQ _ (Same.upd_new (Same.refl _) ht)
end
end Elx

set_option Elab.async false
set_option linter.all false
set_option maxRecDepth 100000
set_option maxHeartbeats 2000000
namespace Elx
open PySem PySem.Spec PyProof.Rows L2
open PySem.W (Codec)
theorem flat1 (k : Nat) : (List.replicate k [V.int 0]).flatten = vns (List.replicate k 0) := by
  induction k with
  | zero => rfl
  | succ k ih => rw [List.replicate_succ, List.flatten_cons, ih, List.replicate_succ]; rfl
theorem vns_set (l : List Nat) (i x : Nat) : (vns l).set i (vn x) = vns (l.set i x) := (List.map_set ..).symm
/-- zeros ahead, the rest done -/
def backL (L : List Nat) (k : Nat) : List Nat := List.replicate k 0 ++ L.drop k
theorem backL_len {L : List Nat} {k : Nat} (h : k ≤ L.length) : (backL L k).length = L.length := by unfold backL; simp; omega
theorem backL_set {L : List Nat} {k : Nat} (h : k < L.length) : (backL L (k + 1)).set k (L.getD k 0) = backL L k := by
  unfold backL
  apply List.ext_getElem?
  intro i
  rw [List.getElem?_set]
  by_cases h1 : k = i
  · subst h1
    rw [if_pos rfl, if_pos (by simp; omega), List.getElem?_append_right (by simp)]
    simp [List.getD_eq_getElem?_getD, h]
  · rw [if_neg h1]
    by_cases h2 : i < k
    · rw [List.getElem?_append_left (by simp; omega), List.getElem?_append_left (by simp; omega)]
      rw [List.getElem?_replicate, List.getElem?_replicate, if_pos (by omega), if_pos (by omega)]
    · rw [List.getElem?_append_right (by simp; omega), List.getElem?_append_right (by simp; omega)]
      simp only [List.getElem?_drop, List.length_replicate]
      congr 1; omega
theorem known0 (y : List Nat) (m : Nat) : Known y m (mergeK [] [(Sum.inl 0, V.int 0)]) := by
  have e : mergeK [] [((Sum.inl 0 : Key), V.int 0)] = putK [] (Sum.inl ((0 : Nat) : Int)) (vn (uni y 0)) := by rw [uni_zero]; rfl
  rw [e]
  refine ⟨by rw [valV_put, if_pos (show (Sum.inl 0 : Key) = Sum.inl ((0 : Nat) : Int) from rfl), uni_zero]; rfl, fun k v hv => ?_⟩
  rw [valV_put] at hv
  by_cases z : k = Sum.inl ((0 : Nat) : Int)
  · rw [if_pos z] at hv
    exact ⟨0, z, (Option.some.inj hv).symm, fun q hq => by simp at hq⟩
  · rw [if_neg z] at hv; cases hv
theorem pe_zeros {X : Cx} {a b : Nat} {p q pos : Pos} : PE X (.Dict [some (.Constant (.int 0) a p)] [.Constant (.int 0) b q] pos) (tDisp [(tC (.int 0), tC (.int 0))]) := by
  have h0 : PPs X pos [] [] [] := @pps_nil X pos
  have h1 : PE X (.Constant (.int 0) a p) (tC (.int 0)) := pe_int
  have h2 : PE X (.Constant (.int 0) b q) (tC (.int 0)) := pe_int
  have h : PPs X pos [some (.Constant (.int 0) a p)] [.Constant (.int 0) b q] [(tC (.int 0), tC (.int 0))] := @pps_cons X pos _ _ _ _ _ _ _ h1 h2 h0
  exact @pe_disp X pos _ _ _ h rfl rfl (by intro z; cases z) (by show 1 ≤ 15; decide)
section
variable {P : Program} {w : World} {K : PySem.W.Frag} {mg : Str → Option Value} {base : Heap}

/-! ### reach_of_sequence -/
abbrev sSeq : Stmt := top 20
def spSeq (K : PySem.W.Frag) : Sp := fun vs H Q _ => ∃ (a b : Addr) (x y : List Nat) (n : Nat), vs = [.ref a, .ref b] ∧ SqL K H a (vns x) ∧ SqL K H b (vns y) ∧ Good n x ∧ Good n y ∧ n ≤ 512 ∧ NewL H (vns (seqL x y)) Q
theorem scSeq : FnScope ["first", "second", "reach", "known", "place"] ["first", "second"] (defScope sSeq) := ⟨rfl, rfl, rfl, by decide +kernel, rfl, by decide +kernel, by decide +kernel⟩
theorem seq_len (x y : List Nat) : (seqL x y).length = x.length := List.length_map ..
abbrev UnitedC (P : Program) (w : World) (K : PySem.W.Frag) (mg : Str → Option Value) (base : Heap) : Prop := Callee P w K mg base 1 "united" ["reach", "places", "known"] (spUnited K)
theorem ok_seq {f : Addr} {fd : FuncData} (F : Fun K "reach_of_sequence" "reach_of_sequence" sSeq f fd) (T : Own mg) (CU : UnitedC P w K mg base) : FnOk P w K mg base CX0 2 f fd ["first", "second"] (spSeq K) := by
  refine F.ok scSeq (fun vs H Q E h => ?_) (fun cdv A outer s H vs Q E hr h => ?_)
  · obtain ⟨a, b, x, y, n, rfl, _⟩ := h
    rfl
  · obtain ⟨a, b, x, y, n, rfl, hS, hS2, gx, gy, hn, k⟩ := h
    have nd := scSeq.nd
    refine ⟨_, pss_cons (ps_set (i := 2) nd rfl (Or.inl rfl) (pe_op op_rep (pe_lst (pa_cons pe_int pa_nil)) (pe_callB call_len_seq (by rfl) T.len PySem.boot_len (pa_cons (pv 0) pa_nil))))
      (@pss_cons _ _ _ _ _ (@ps_set _ _ 3 _ _ _ _ nd rfl (Or.inl rfl) (@pe_zeros _ _ _ _ _ _) rfl (Or.inl rfl))
      (pss_cons (ps_for PassesOwn.never rfl (pi_range3 rfl T.range (pa_cons (pe_op op_subN (pe_callB call_len_seq (by rfl) T.len PySem.boot_len (pa_cons (pv 0) pa_nil)) pe_int) (pa_cons (pe_un un_neg pe_int) (pa_cons (pe_un un_neg pe_int) pa_nil)))) (pg_name (i := 4) nd rfl (Or.inl rfl))
        (pss_one (ps_asg (pe_fn CU hr rfl (pa_cons (pv 1) (pa_cons (pe_ix ix_listN (pv 0) (pv 4) (fun _ _ => rfl)) (pa_cons (pv 3) pa_nil)))) (pg_sub (pv 2) (pv 4) set_list))))
      (pss_one (ps_ret (pv 2))))), ?_⟩
    -- reach = [0] * len(first)
    refine ⟨Nat.succ_le_of_lt (Nat.two_pow_pos 24), fun q hq => ?_⟩
    have s1 : Same H (upd H q (.lst [V.int 0])) := Same.upd_new (Same.refl _) hq
    refine ⟨_, rfl, a, _, rfl, .inl (s1.seq hS), ?_⟩
    rw [vns_len, gx.len]
    refine ⟨q, ((n + 1 : Nat) : Int), _, rfl, rfl, upd_same, by omega, by omega, by show 1 * (n + 1) ≤ 2 ^ 24; omega, fun r hr' => ?_⟩
    have hr0 : H r = none := s1.free hr'
    rw [show ((n + 1 : Nat) : Int).toNat = n + 1 from rfl, flat1]
    -- known = {0: 0}
    intro d hd
    have s2 : Same H (upd (upd H q (.lst [V.int 0])) r (.lst (vns (List.replicate (n + 1) 0)))) := Same.upd_new s1 hr0
    have hd0 : H d = none := s2.free hd
    have hrd : r ≠ d := ne_of_none (H := upd (upd H q (.lst [V.int 0])) r (.lst (vns (List.replicate (n + 1) 0)))) upd_same hd
    refine ⟨upd_same, [(Sum.inl 0, V.int 0)], rfl, by decide, ?_⟩
    rw [upd_upd]
    -- for
    have s3 : Same H (upd (upd (upd H q (.lst [V.int 0])) r (.lst (vns (List.replicate (n + 1) 0)))) d (.dK (mergeK [] [(Sum.inl 0, V.int 0)]))) := Same.upd_new s2 hd0
    refine ⟨_, rfl, a, _, rfl, .inl (s3.seq hS), ?_⟩
    rw [vns_len, gx.len]
    refine ⟨_, 1, rfl, rfl, Nat.le_add_left _ _, 1, rfl, 1, rfl, _, _, _, n + 1, rfl, ?_, ?_⟩
    · have := RgC.neg (i := ((n + 1 - 1 : Nat) : Int)) (j := -1) (by omega) (by omega) (by decide) (by decide)
      rw [show (((n + 1 - 1 : Nat) : Int) - -1).toNat = n + 1 by omega] at this
      exact this
    have hsl : (seqL x y).length = n + 1 := by rw [seq_len, gx.len]
    refine for_rangeC (fun i σ H' => i ≤ n + 1 ∧ Same H H' ∧ ∃ (v : Option V) (kvs : List (Key × V)), σ = [some (.ref a), some (.ref b), some (.ref r), some (.ref d), v] ∧ H' r = some (.lst (vns (backL (seqL x y) (n + 1 - i)))) ∧ H' d = some (.dK kvs) ∧ Known y 0 kvs ∧ kvs.length ≤ i + 1)
      ⟨Nat.zero_le _, s3, none, _, rfl, ?_, upd_same, known0 y 0, Nat.le_refl _⟩ ?_ ?_
    · rw [upd_ne hrd, upd_same]
      unfold backL
      rw [Nat.sub_zero, List.drop_of_length_le (by omega), List.append_nil]
    · rintro i σ H' hi ⟨_, sH, v, kvs, rfl, h1, h2, h3, h4⟩
      have ei : V.int (((n + 1 - 1 : Nat) : Int) + (i : Nat) * -1) = vn (n - i) := by congr 1; omega
      rw [ei]
      have hni : n - i < x.length := by rw [gx.len]; omega
      refine ⟨_, rfl, _, rfl, _, rfl, a, _, _, _, rfl, rfl, sH.seq hS, vns_getD hni, _, rfl, ?_⟩
      refine ⟨b, d, y, _, 0, kvs, rfl, sH.seq hS2, h2, small512 (by omega), h3, fun q hq => ?_, fun kvs' h5 h6 => ?_⟩
      · have := (gx.bits (n - i)) q hq
        rw [gy.len]; omega
      · have hrd' : r ≠ d := hrd
        refine ⟨_, rfl, _, rfl, r, _, _, n - i, rfl, rfl, by rw [upd_ne hrd]; exact h1, ?_, ?_⟩
        · unfold ixN
          rw [if_pos (Int.natCast_nonneg _), if_pos (by rw [vns_len, backL_len (by rw [hsl]; omega), hsl]; omega)]
          rfl
        · refine ⟨by omega, fun b' o e => ?_, _, kvs', rfl, ?_, ?_, h5, by omega⟩
          · rw [upd_ne (ne_of_none e hr0), upd_ne (ne_of_none e hd0)]
            exact sH b' o e
          · rw [upd_same, vns_set]
            congr 3
            have e7 : uni y (x.getD (n - i) 0) = (seqL x y).getD (n - i) 0 := (seq_get x y (n - i)).symm
            rw [e7, show n + 1 - i = (n - i) + 1 by omega, backL_set (by rw [hsl]; omega), show n + 1 - (i + 1) = n - i by omega]
          · rw [upd_ne (Ne.symm hrd), upd_same]
    · rintro σ H' ⟨_, sH, v, kvs, rfl, h1, h2, h3, h4⟩
      refine ⟨_, rfl, ?_⟩
      refine k r H' hr0 sH ?_
      rw [h1, Nat.sub_self]
      rfl
end
end Elx

set_option Elab.async false
set_option linter.all false
set_option maxRecDepth 100000
set_option maxHeartbeats 2000000
namespace Elx
open PySem PySem.Spec PyProof.Rows L2
open PySem.W (Codec)
/-- a & ~(1 << p) -/
theorem op_clrN {X : Cx} : OpR X (binaryOp .BitAnd) (fun x y H Q => ∃ a p : Nat, x = vn a ∧ y = .int (Builtin.bitNot ((2 ^ p : Nat) : Int)) ∧ Q (vn (clr a p)) H) :=
  opImp op_and fun x y H Q ⟨a, p, hx, hy, q⟩ => ⟨a, _, hx, hy, by
    show Q (.int (Builtin.bitAnd (a : Int) (Builtin.bitNot ((2 ^ p : Nat) : Int)))) H
    rw [clr_nn]; exact q⟩
theorem Known.step {r : List Nat} {p v : Nat} {kvs : List (Key × V)} (h : Known r (p + 1) kvs) : Known (r.set p v) p kvs := by
  refine ⟨h.zero, fun k x hx => ?_⟩
  obtain ⟨n, h1, h2, h3⟩ := h.all k x hx
  refine ⟨n, h1, ?_, fun q hq => by have := h3 q hq; omega⟩
  rw [h2]
  have e : uni r n = uni (r.set p v) n := uni_congr fun q hq => by
    have := h3 q hq
    rw [getD_set, if_neg (fun z => by omega)]
  rw [e]
section
variable {P : Program} {w : World} {K : PySem.W.Frag} {mg : Str → Option Value} {base : Heap}

/-! ### reach_of_many -/
abbrev sMany : Stmt := top 21
def spMany (K : PySem.W.Frag) : Sp := fun vs H Q _ => ∃ (a : Addr) (x : List Nat) (n : Nat), vs = [.ref a] ∧ SqL K H a (vns x) ∧ Good n x ∧ n ≤ 512 ∧ NewL H (vns (manyL x)) Q
theorem scMany : FnScope ["once", "reach", "known", "place", "here", "further"] ["once"] (defScope sMany) := ⟨rfl, rfl, rfl, by decide +kernel, rfl, by decide +kernel, by decide +kernel⟩
theorem ok_many {f : Addr} {fd : FuncData} (F : Fun K "reach_of_many" "reach_of_many" sMany f fd) (T : Own mg) (CU : UnitedC P w K mg base) : FnOk P w K mg base CX0 2 f fd ["once"] (spMany K) := by
  refine F.ok scMany (fun vs H Q E h => ?_) (fun cdv A outer s H vs Q E hr h => ?_)
  · obtain ⟨a, x, n, rfl, _⟩ := h
    rfl
  · obtain ⟨a, x, n, rfl, hS, gx, hn, k⟩ := h
    have nd := scMany.nd
    refine ⟨_, pss_cons (ps_set (i := 1) nd rfl (Or.inl rfl) (pe_op op_rep (pe_lst (pa_cons pe_int pa_nil)) (pe_callB call_len_seq (by rfl) T.len PySem.boot_len (pa_cons (pv 0) pa_nil))))
      (@pss_cons _ _ _ _ _ (@ps_set _ _ 2 _ _ _ _ nd rfl (Or.inl rfl) (@pe_zeros _ _ _ _ _ _) rfl (Or.inl rfl))
      (pss_cons (ps_for PassesOwn.never rfl (pi_range3 rfl T.range (pa_cons (pe_op op_subN (pe_callB call_len_seq (by rfl) T.len PySem.boot_len (pa_cons (pv 0) pa_nil)) pe_int) (pa_cons (pe_un un_neg pe_int) (pa_cons (pe_un un_neg pe_int) pa_nil)))) (pg_name (i := 3) nd rfl (Or.inl rfl))
        (pss_cons (ps_set (i := 4) nd rfl (Or.inl rfl) (pe_op op_shlN pe_int (pv 3)))
        (pss_cons (ps_set (i := 5) nd rfl (Or.inl rfl) (pe_op op_clrN (pe_ix ix_listN (pv 0) (pv 3) (fun _ _ => rfl)) (pe_un un_inv (pv 4))))
        (pss_one (ps_asg (pe_op op_orN (pv 4) (pe_fn CU hr rfl (pa_cons (pv 1) (pa_cons (pv 5) (pa_cons (pv 2) pa_nil))))) (pg_sub (pv 1) (pv 3) set_list))))))
      (pss_one (ps_ret (pv 1))))), ?_⟩
    -- reach = [0] * len(once)
    refine ⟨Nat.succ_le_of_lt (Nat.two_pow_pos 24), fun q hq => ?_⟩
    have s1 : Same H (upd H q (.lst [V.int 0])) := Same.upd_new (Same.refl _) hq
    refine ⟨_, rfl, a, _, rfl, .inl (s1.seq hS), ?_⟩
    rw [vns_len, gx.len]
    refine ⟨q, ((n + 1 : Nat) : Int), _, rfl, rfl, upd_same, by omega, by omega, by show 1 * (n + 1) ≤ 2 ^ 24; omega, fun r hr' => ?_⟩
    have hr0 : H r = none := s1.free hr'
    rw [show ((n + 1 : Nat) : Int).toNat = n + 1 from rfl, flat1]
    -- known = {0: 0}
    intro d hd
    have s2 : Same H (upd (upd H q (.lst [V.int 0])) r (.lst (vns (List.replicate (n + 1) 0)))) := Same.upd_new s1 hr0
    have hd0 : H d = none := s2.free hd
    have hrd : r ≠ d := ne_of_none (H := upd (upd H q (.lst [V.int 0])) r (.lst (vns (List.replicate (n + 1) 0)))) upd_same hd
    refine ⟨upd_same, [(Sum.inl 0, V.int 0)], rfl, by decide, ?_⟩
    rw [upd_upd]
    -- for
    have s3 : Same H (upd (upd (upd H q (.lst [V.int 0])) r (.lst (vns (List.replicate (n + 1) 0)))) d (.dK (mergeK [] [(Sum.inl 0, V.int 0)]))) := Same.upd_new s2 hd0
    refine ⟨_, rfl, a, _, rfl, .inl (s3.seq hS), ?_⟩
    rw [vns_len, gx.len]
    refine ⟨_, 1, rfl, rfl, Nat.le_add_left _ _, 1, rfl, 1, rfl, _, _, _, n + 1, rfl, ?_, ?_⟩
    · have := RgC.neg (i := ((n + 1 - 1 : Nat) : Int)) (j := -1) (by omega) (by omega) (by decide) (by decide)
      rw [show (((n + 1 - 1 : Nat) : Int) - -1).toNat = n + 1 by omega] at this
      exact this
    refine for_rangeC (fun i σ H' => i ≤ n + 1 ∧ Same H H' ∧ ∃ (v3 v4 v5 : Option V) (kvs : List (Key × V)) (l : List Nat), σ = [some (.ref a), some (.ref r), some (.ref d), v3, v4, v5] ∧ H' r = some (.lst (vns l)) ∧ H' d = some (.dK kvs) ∧ Done n (n + 1 - i) l ∧ manyGo x (n + 1 - i) l = manyL x ∧ Known l (n + 1 - i) kvs ∧ kvs.length ≤ i + 1)
      ⟨Nat.zero_le _, s3, none, none, none, _, List.replicate (n + 1) 0, rfl, ?_, upd_same, done_start n, ?_, known0 _ _, Nat.le_refl _⟩ ?_ ?_
    · rw [upd_ne hrd, upd_same]
    · unfold manyL; rw [gx.len]; rfl
    · rintro i σ H' hi ⟨_, sH, v3, v4, v5, kvs, l, rfl, h1, h2, hD, hM, h3, h4⟩
      have ei : V.int (((n + 1 - 1 : Nat) : Int) + (i : Nat) * -1) = vn (n - i) := by congr 1; omega
      rw [ei]
      have em : n + 1 - i = (n - i) + 1 := by omega
      rw [em] at hD hM h3
      have hni : n - i < x.length := by rw [gx.len]; omega
      refine ⟨_, rfl, n - i, rfl, rfl, by omega, ?_⟩
      refine ⟨_, rfl, _, rfl, a, _, _, _, rfl, rfl, sH.seq hS, vns_getD hni, _, rfl, _, rfl, _, n - i, rfl, rfl, ?_⟩
      refine ⟨_, rfl, _, rfl, _, rfl, _, rfl, ?_⟩
      refine ⟨r, d, l, _, n - i + 1, kvs, rfl, SqL.of h1, h2, small512 (by omega), h3, fun q hq => ?_, fun kvs' h5 h6 => ?_⟩
      · rw [tb_clr, Bool.and_eq_true, decide_eq_true_eq] at hq
        have := (gx.bits (n - i)) q hq.1
        rw [hD.len]; omega
      · refine ⟨_, _, rfl, rfl, ?_⟩
        refine ⟨_, rfl, _, rfl, r, _, _, n - i, rfl, rfl, by rw [upd_ne hrd]; exact h1, ?_, ?_⟩
        · unfold ixN
          rw [if_pos (Int.natCast_nonneg _), if_pos (by rw [vns_len, hD.len]; omega)]
          rfl
        · have e2 : n + 1 - (i + 1) = n - i := by omega
          refine ⟨by omega, fun b' o e => ?_, _, _, _, kvs', l.set (n - i) (manyAt x l (n - i)), rfl, ?_, ?_, ?_, ?_, ?_, by omega⟩
          · rw [upd_ne (ne_of_none e hr0), upd_ne (ne_of_none e hd0)]
            exact sH b' o e
          · rw [upd_same, vns_set]
            rfl
          · rw [upd_ne (Ne.symm hrd), upd_same]
          · rw [e2]; exact hD.step (by omega) (gx.bits (n - i))
          · rw [e2]; exact hM
          · rw [e2]; exact h5.step
    · rintro σ H' ⟨_, sH, v3, v4, v5, kvs, l, rfl, h1, h2, hD, hM, h3, h4⟩
      refine ⟨_, rfl, ?_⟩
      refine k r H' hr0 sH ?_
      rw [h1, ← hM, Nat.sub_self]
      rfl
end
end Elx

set_option Elab.async false
set_option linter.all false
set_option maxRecDepth 100000
set_option maxHeartbeats 2000000
namespace Elx
open PySem PySem.Spec PyProof.Rows L2
open PySem.W (Codec)
theorem pe_const {X : Cx} {x : Str} {i : Int} {pos : Pos} (hg : Gl X x) (h : ∃ t, X.mg x = some (.int i t)) (hd : (x == ("__debug__" : Str)) = false := by decide) : PE X (.Name x pos) (tC (.int i)) := by
  obtain ⟨t, h⟩ := h
  exact pe_glob (v := .int i) hg h ⟨t, rfl⟩ hd
/-- the numbers of expression.py's top -/
structure CExpr (mg : Str → Option Value) : Prop where
  c0 : ∃ t, mg "NOTHING" = some (.int 0 t)
  c1 : ∃ t, mg "BYTE" = some (.int 1 t)
  c2 : ∃ t, mg "SEQ" = some (.int 2 t)
  c3 : ∃ t, mg "ALT" = some (.int 3 t)
  c4 : ∃ t, mg "MANY" = some (.int 4 t)
  size : ∃ t, mg "NODE_SIZE" = some (.int 5 t)
  most : ∃ t, mg "MOST_NODES" = some (.int 32 t)
  last : ∃ t, mg "LAST_BYTE" = some (.int 255 t)
def tupN (x : PN) : List V := [vn x.kind, vn x.lo, vn x.hi, vn x.a, vn x.b]
/-- the list at p holds the nodes xs -/
structure NodesAt (K : PySem.W.Frag) (H : Hp) (p : Addr) (xs : List PN) : Prop where
  ex : ∃ rs : List Addr, SqL K H p (rs.map V.ref) ∧ rs.length = xs.length ∧ ∀ (i : Nat) (r : Addr) (x : PN), rs[i]? = some r → xs[i]? = some x → H r = some (.tup (tupN x))
theorem NodesAt.same {K : PySem.W.Frag} {H H' : Hp} {p : Addr} {xs : List PN} (h : NodesAt K H p xs) (s : Same H H') : NodesAt K H' p xs := by
  obtain ⟨rs, h1, h2, h3⟩ := h.ex
  exact ⟨rs, s.seq h1, h2, fun i r x a b => s _ _ (h3 i r x a b)⟩
/-- the reaches so far: at r the list of the lists ls -/
structure ReachesAt (H_0 H : Hp) (r : Addr) (ls : List (List Nat)) : Prop where
  ex : ∃ qs : List Addr, H r = some (.lst (qs.map V.ref)) ∧ qs.length = ls.length ∧ (∀ q ∈ qs, q ≠ r ∧ H_0 q = none) ∧ ∀ (i : Nat) (q : Addr) (l : List Nat), qs[i]? = some q → ls[i]? = some l → H q = some (.lst (vns l))
theorem ReachesAt.get {K : PySem.W.Frag} {H_0 H : Hp} {r : Addr} {ls : List (List Nat)} (h : ReachesAt H_0 H r ls) {i : Nat} (hi : i < ls.length) : ∃ (xs : List V) (q : Addr), SqL K H r xs ∧ xs[i]? = some (.ref q) ∧ H q = some (.lst (vns (ls.getD i []))) := by
  obtain ⟨qs, h1, h2, h3, h4⟩ := h.ex
  have hq : qs[i]? = some qs[i] := List.getElem?_eq_getElem (by omega)
  refine ⟨_, qs[i], SqL.of h1, by rw [List.getElem?_map, hq]; rfl, h4 i _ _ hq ?_⟩
  rw [List.getD_eq_getElem?_getD, List.getElem?_eq_getElem hi]
  rfl
theorem ReachesAt.push {H_0 H H2 : Hp} {r p : Addr} {ls : List (List Nat)} {l : List Nat} (h : ReachesAt H_0 H r ls) (h0 : Same H_0 H) (hp : H p = none) (s : Same H H2) (hl : H2 p = some (.lst (vns l))) (hz : ls.length < sizeLine) :
    ∃ qs : List Addr, H2 r = some (.lst (qs.map V.ref)) ∧ (qs.map V.ref).length < sizeLine ∧ ReachesAt H_0 (upd H2 r (.lst (qs.map V.ref ++ [.ref p]))) r (ls ++ [l]) := by
  obtain ⟨qs, h1, h2, h3, h4⟩ := h.ex
  have hpr : p ≠ r := Ne.symm (ne_of_none h1 hp)
  refine ⟨qs, s _ _ h1, by rw [List.length_map]; omega, qs ++ [p], ?_, by simp [h2], ?_, ?_⟩
  · rw [upd_same, List.map_append]; rfl
  · intro q hq
    rcases List.mem_append.mp hq with hq | hq
    · exact h3 q hq
    · rw [List.mem_singleton.mp hq]; exact ⟨hpr, h0.free hp⟩
  · intro i q m hq hm
    by_cases hi : i < qs.length
    · rw [List.getElem?_append_left hi] at hq
      rw [List.getElem?_append_left (by omega)] at hm
      rw [upd_ne (h3 q (List.mem_of_getElem? hq)).1]
      exact s _ _ (h4 i q m hq hm)
    · have hi2 := (List.getElem?_eq_some_iff.mp hq).1
      have ei : i = qs.length := by simp at hi2; omega
      subst ei
      rw [List.getElem?_append_right (Nat.le_refl _), Nat.sub_self] at hq
      rw [h2, List.getElem?_append_right (Nat.le_refl _), Nat.sub_self] at hm
      have e1 : p = q := Option.some.inj hq
      have e2 : l = m := Option.some.inj hm
      subst e1 e2
      rw [upd_ne hpr]
      exact hl
section
variable {P : Program} {w : World} {K : PySem.W.Frag} {mg : Str → Option Value} {base : Heap}

/-! ### reach_of_expression -/
abbrev sExpr : Stmt := top 16
def spExpr (K : PySem.W.Frag) : Sp := fun vs H Q _ => ∃ (p a : Addr) (xs : List PN) (s : Lx.Bytes), vs = [.ref p, .ref a] ∧ NodesAt K H p xs ∧ SqL K H a (vns (bytesN s)) ∧ OkFrom 0 xs ∧ xs ≠ [] ∧ xs.length ≤ 32 ∧ s.length ≤ 512 ∧ NewL H (vns (reachL (bytesN s) xs)) Q
theorem scExpr : FnScope ["nodes", "text", "reaches", "kind", "lo", "hi", "a", "b"] ["nodes", "text"] (defScope sExpr) := ⟨rfl, rfl, rfl, by decide +kernel, rfl, by decide +kernel, by decide +kernel⟩
theorem okFrom_get : ∀ {xs : List PN} {k i : Nat} {x : PN}, OkFrom k xs → xs[i]? = some x → OkN (k + i) x
  | [], _, _, _, _, h => by simp at h
  | y :: r, k, 0, x, ok, h => by
    have e : y = x := Option.some.inj h
    subst e; exact ok.1
  | y :: r, k, i + 1, x, ok, h => by
    have := okFrom_get (xs := r) (k := k + 1) (i := i) ok.2 h
    rw [show k + (i + 1) = k + 1 + i by omega]; exact this
theorem okFrom_take : ∀ {xs : List PN} {k i : Nat}, OkFrom k xs → OkFrom k (xs.take i)
  | [], _, _, _ => by simp [OkFrom]
  | y :: r, k, 0, ok => trivial
  | y :: r, k, i + 1, ok => ⟨ok.1, okFrom_take (xs := r) ok.2⟩
theorem bytesN_len (s : Lx.Bytes) : (bytesN s).length = s.length := List.length_map ..
theorem ok_expr {f : Addr} {fd : FuncData} (F : Fun K "reach_of_expression" "reach_of_expression" sExpr f fd) (T : Own mg) (C : CExpr mg)
    (C0 : Callee P w K mg base 1 "reach_of_nothing" ["text"] (spNothing K)) (C1 : Callee P w K mg base 1 "reach_of_byte" ["lo", "hi", "text"] (spByte K)) (C2 : Callee P w K mg base 2 "reach_of_sequence" ["first", "second"] (spSeq K))
    (C3 : Callee P w K mg base 1 "reach_of_choice" ["one", "other"] (spChoice K)) (C4 : Callee P w K mg base 2 "reach_of_many" ["once"] (spMany K)) : FnOk P w K mg base CX0 3 f fd ["nodes", "text"] (spExpr K) := by
  refine F.ok scExpr (fun vs H Q E h => ?_) (fun cdv A outer s H vs Q E hr h => ?_)
  · obtain ⟨p, a, xs, t, rfl, _⟩ := h
    rfl
  · obtain ⟨p, a, xs, t, rfl, hN, hS, ok, hne, hx, hn, k⟩ := h
    have nd := scExpr.nd
    have hr1 : Room 1 _ := hr.mono (by decide)
    refine ⟨_, pss_cons (ps_set (i := 2) nd rfl (Or.inl rfl) (pe_lst pa_nil))
      (pss_cons (ps_for PassesOwn.never rfl (pi_list (pv 0)) (pg_names5 K rfl (i1 := 3) (i2 := 4) (i3 := 5) (i4 := 6) (i5 := 7) rfl nd rfl rfl rfl rfl rfl (Or.inl rfl) (Or.inl rfl) (Or.inl rfl) (Or.inl rfl) (Or.inl rfl) (Or.inl rfl) (Or.inl rfl) (Or.inl rfl) (Or.inl rfl) (Or.inl rfl))
        (pss_one (ps_if (pt_cmpR op_eqN (pv 3) (pe_const rfl C.c0) (nomark _))
          (pss_one (ps_expr (pe_bm PySem.F.plainAttrs_list PySem.F.slot_list_append PySem.F.type_list_append mt_append (pv 2) (pa_cons (pe_fn C0 hr1 rfl (pa_cons (pv 1) pa_nil)) pa_nil))))
        (pss_one (ps_if (pt_cmpR op_eqN (pv 3) (pe_const rfl C.c1) (nomark _))
          (pss_one (ps_expr (pe_bm PySem.F.plainAttrs_list PySem.F.slot_list_append PySem.F.type_list_append mt_append (pv 2) (pa_cons (pe_fn C1 hr1 rfl (pa_cons (pv 4) (pa_cons (pv 5) (pa_cons (pv 1) pa_nil)))) pa_nil))))
        (pss_one (ps_if (pt_cmpR op_eqN (pv 3) (pe_const rfl C.c2) (nomark _))
          (pss_one (ps_expr (pe_bm PySem.F.plainAttrs_list PySem.F.slot_list_append PySem.F.type_list_append mt_append (pv 2) (pa_cons (pe_fn C2 hr rfl (pa_cons (pe_ix ix_listN (pv 2) (pv 6) (fun _ _ => rfl)) (pa_cons (pe_ix ix_listN (pv 2) (pv 7) (fun _ _ => rfl)) pa_nil))) pa_nil))))
        (pss_one (ps_if (pt_cmpR op_eqN (pv 3) (pe_const rfl C.c3) (nomark _))
          (pss_one (ps_expr (pe_bm PySem.F.plainAttrs_list PySem.F.slot_list_append PySem.F.type_list_append mt_append (pv 2) (pa_cons (pe_fn C3 hr1 rfl (pa_cons (pe_ix ix_listN (pv 2) (pv 6) (fun _ _ => rfl)) (pa_cons (pe_ix ix_listN (pv 2) (pv 7) (fun _ _ => rfl)) pa_nil))) pa_nil))))
          (pss_one (ps_expr (pe_bm PySem.F.plainAttrs_list PySem.F.slot_list_append PySem.F.type_list_append mt_append (pv 2) (pa_cons (pe_fn C4 hr rfl (pa_cons (pe_ix ix_listN (pv 2) (pv 6) (fun _ _ => rfl)) pa_nil)) pa_nil)))))))))))))
      (pss_one (ps_ret (pe_ix ix_list (pv 2) (pe_un un_neg pe_int) (fun _ _ => rfl))))), ?_⟩
    -- reaches = []
    refine ⟨Nat.zero_le _, fun r hr0 => ?_⟩
    obtain ⟨rs, hL, hl, hT⟩ := hN.ex
    have s1 : Same H (upd H r (.lst [])) := Same.upd_new (Same.refl _) hr0
    refine ⟨_, rfl, p, rfl, ⟨_, s1.seq hL⟩, for_list (K := K) (a := p) (xs := rs.map V.ref) (fun i σ H' => Same H H' ∧ i ≤ xs.length ∧ ReachesAt H H' r (reaches (bytesN t) (xs.take i) []) ∧ ∃ v3 v4 v5 v6 v7 : Option V, σ = [some (.ref p), some (.ref a), some (.ref r), v3, v4, v5, v6, v7])
      ⟨s1, Nat.zero_le _, ⟨[], upd_same, rfl, fun q hq => by simp at hq, fun i q l hq => by simp at hq⟩, none, none, none, none, none, rfl⟩ (fun i σ H' _ ⟨s5, _⟩ => s5.seq hL) ?_ ?_⟩
    · rintro i y σ H' hi ⟨sH, hix, hR, v3, v4, v5, v6, v7, rfl⟩
      obtain ⟨c, hc, rfl⟩ : ∃ c, rs[i]? = some c ∧ y = V.ref c := by
        rw [List.getElem?_map] at hi
        cases e : rs[i]? with
        | none => rw [e] at hi; cases hi
        | some c => rw [e] at hi; exact ⟨c, rfl, (Option.some.inj hi).symm⟩
      have hlt : i < xs.length := by have := (List.getElem?_eq_some_iff.mp hc).1; omega
      have hx' : xs[i]? = some xs[i] := List.getElem?_eq_getElem hlt
      generalize xs[i] = x at hx'
      have hc2 := sH _ _ (hT i c x hc hx')
      have okx := okFrom_get ok hx'
      rw [Nat.zero_add] at okx
      have hlen : (reaches (bytesN t) (xs.take i) []).length = i := by rw [reaches_len, List.length_take]; simp; omega
      have hgood : ∀ j, j < i → Good t.length ((reaches (bytesN t) (xs.take i) []).getD j []) := fun j hj => good_reaches (okFrom_take ok) j (by rw [List.length_take]; omega)
      have hfin : ∀ (q : Addr) (H2 : Hp), H' q = none → Same H' H2 → H2 q = some (.lst (vns (reachOf (bytesN t) (reaches (bytesN t) (xs.take i) []) x))) →
          ∃ qs : List Addr, H2 r = some (.lst (qs.map V.ref)) ∧ (qs.map V.ref).length < sizeLine ∧ Same H (upd H2 r (.lst (qs.map V.ref ++ [.ref q]))) ∧ i + 1 ≤ xs.length ∧ ReachesAt H (upd H2 r (.lst (qs.map V.ref ++ [.ref q]))) r (reaches (bytesN t) (xs.take (i + 1)) []) := fun q H2 hq hs hl2 => by
        obtain ⟨qs, g1, g2, g3⟩ := hR.push sH hq hs hl2 (by rw [hlen]; exact small512 (by omega))
        refine ⟨qs, g1, g2, Same.upd_new (sH.trans hs) hr0, hlt, ?_⟩
        rw [take_snoc hx', reaches_snoc]
        exact g3
      obtain ⟨qs0, hq0, _⟩ := hR.ex
      refine ⟨c, _, rfl, SqT.of hc2, rfl, _, _, rfl, _, _, rfl, _, _, rfl, _, _, rfl, _, _, rfl, rfl, ?_⟩
      refine ⟨_, rfl, _, 0, rfl, rfl, _, rfl, ?_⟩
      by_cases k0 : x.kind = 0
      · rw [decide_eq_true k0]
        refine ⟨_, rfl, .inl ⟨rfl, _, SqL.of hq0⟩, _, rfl, a, _, rfl, sH.seq hS, by rw [bytesN_len]; exact hn, fun q H2 hq hs hl2 => ?_⟩
        have e : reachOf (bytesN t) (reaches (bytesN t) (xs.take i) []) x = nothingL (bytesN t).length := by unfold reachOf; rw [if_pos k0]
        rw [← e] at hl2
        obtain ⟨qs, g1, g2, g3, g4, g5⟩ := hfin q H2 hq hs hl2
        exact ⟨r, _, _, rfl, rfl, g1, g2, g3, g4, g5, _, _, _, _, _, rfl⟩
      · rw [decide_eq_false k0]
        refine ⟨_, rfl, _, 1, rfl, rfl, _, rfl, ?_⟩
        by_cases k1 : x.kind = 1
        · rw [decide_eq_true k1]
          refine ⟨_, rfl, .inl ⟨rfl, _, SqL.of hq0⟩, _, rfl, _, rfl, _, rfl, a, _, _, _, rfl, sH.seq hS, by rw [bytesN_len]; exact hn, fun q H2 hq hs hl2 => ?_⟩
          have e : reachOf (bytesN t) (reaches (bytesN t) (xs.take i) []) x = byteL x.lo x.hi (bytesN t) := by unfold reachOf; rw [if_neg k0, if_pos k1]
          rw [← e] at hl2
          obtain ⟨qs, g1, g2, g3, g4, g5⟩ := hfin q H2 hq hs hl2
          exact ⟨r, _, _, rfl, rfl, g1, g2, g3, g4, g5, _, _, _, _, _, rfl⟩
        · rw [decide_eq_false k1]
          refine ⟨_, rfl, _, 2, rfl, rfl, _, rfl, ?_⟩
          by_cases k2 : x.kind = 2
          · rw [decide_eq_true k2]
            have hab : x.a < i ∧ x.b < i := by
              rcases okx with h | ⟨h, _⟩ | ⟨h, h2, h3⟩ | ⟨h, _⟩ | ⟨h, _⟩
              · omega
              · omega
              · exact ⟨h2, h3⟩
              · omega
              · omega
            obtain ⟨xs1, q1, w1, w2, w3⟩ := hR.get (K := K) (i := x.a) (by rw [hlen]; exact hab.1)
            obtain ⟨xs2, q2, y1, y2, y3⟩ := hR.get (K := K) (i := x.b) (by rw [hlen]; exact hab.2)
            refine ⟨_, rfl, .inl ⟨rfl, _, SqL.of hq0⟩, _, rfl, _, rfl, r, _, _, _, rfl, rfl, w1, w2, _, rfl, _, rfl, r, _, _, _, rfl, rfl, y1, y2, q1, q2, _, _, t.length, rfl, SqL.of w3, SqL.of y3, hgood _ hab.1, hgood _ hab.2, hn, fun q H2 hq hs hl2 => ?_⟩
            have e : reachOf (bytesN t) (reaches (bytesN t) (xs.take i) []) x = seqL ((reaches (bytesN t) (xs.take i) []).getD x.a []) ((reaches (bytesN t) (xs.take i) []).getD x.b []) := by unfold reachOf; rw [if_neg k0, if_neg k1, if_pos k2]
            rw [← e] at hl2
            obtain ⟨qs, g1, g2, g3, g4, g5⟩ := hfin q H2 hq hs hl2
            exact ⟨r, _, _, rfl, rfl, g1, g2, g3, g4, g5, _, _, _, _, _, rfl⟩
          · rw [decide_eq_false k2]
            refine ⟨_, rfl, _, 3, rfl, rfl, _, rfl, ?_⟩
            by_cases k3 : x.kind = 3
            · rw [decide_eq_true k3]
              have hab : x.a < i ∧ x.b < i := by
                rcases okx with h | ⟨h, _⟩ | ⟨h, _⟩ | ⟨h, h2, h3⟩ | ⟨h, _⟩
                · omega
                · omega
                · omega
                · exact ⟨h2, h3⟩
                · omega
              obtain ⟨xs1, q1, w1, w2, w3⟩ := hR.get (K := K) (i := x.a) (by rw [hlen]; exact hab.1)
              obtain ⟨xs2, q2, y1, y2, y3⟩ := hR.get (K := K) (i := x.b) (by rw [hlen]; exact hab.2)
              have ga := hgood _ hab.1
              have gb := hgood _ hab.2
              refine ⟨_, rfl, .inl ⟨rfl, _, SqL.of hq0⟩, _, rfl, _, rfl, r, _, _, _, rfl, rfl, w1, w2, _, rfl, _, rfl, r, _, _, _, rfl, rfl, y1, y2, q1, q2, _, _, rfl, SqL.of w3, SqL.of y3, by rw [ga.len, gb.len], by rw [ga.len]; omega, fun q H2 hq hs hl2 => ?_⟩
              have e : reachOf (bytesN t) (reaches (bytesN t) (xs.take i) []) x = choiceL ((reaches (bytesN t) (xs.take i) []).getD x.a []) ((reaches (bytesN t) (xs.take i) []).getD x.b []) := by unfold reachOf; rw [if_neg k0, if_neg k1, if_neg k2, if_pos k3]
              rw [← e] at hl2
              obtain ⟨qs, g1, g2, g3, g4, g5⟩ := hfin q H2 hq hs hl2
              exact ⟨r, _, _, rfl, rfl, g1, g2, g3, g4, g5, _, _, _, _, _, rfl⟩
            · rw [decide_eq_false k3]
              have hab : x.a < i := by
                rcases okx with h | ⟨h, _⟩ | ⟨h, _⟩ | ⟨h, _⟩ | ⟨h, h2⟩
                · omega
                · omega
                · omega
                · omega
                · exact h2
              obtain ⟨xs1, q1, w1, w2, w3⟩ := hR.get (K := K) (i := x.a) (by rw [hlen]; exact hab)
              refine ⟨_, rfl, .inl ⟨rfl, _, SqL.of hq0⟩, _, rfl, _, rfl, r, _, _, _, rfl, rfl, w1, w2, q1, _, t.length, rfl, SqL.of w3, hgood _ hab, hn, fun q H2 hq hs hl2 => ?_⟩
              have e : reachOf (bytesN t) (reaches (bytesN t) (xs.take i) []) x = manyL ((reaches (bytesN t) (xs.take i) []).getD x.a []) := by unfold reachOf; rw [if_neg k0, if_neg k1, if_neg k2, if_neg k3]
              rw [← e] at hl2
              obtain ⟨qs, g1, g2, g3, g4, g5⟩ := hfin q H2 hq hs hl2
              exact ⟨r, _, _, rfl, rfl, g1, g2, g3, g4, g5, _, _, _, _, _, rfl⟩
    · rintro σ H' ⟨sH, hix, hR, v3, v4, v5, v6, v7, rfl⟩
      rw [List.length_map, hl, List.take_length] at hR
      obtain ⟨qs, g1, g2, g3, g4⟩ := hR.ex
      have hlen : (reaches (bytesN t) xs []).length = xs.length := by rw [reaches_len]; simp
      have h0 : xs.length ≠ 0 := fun z => hne (List.eq_nil_of_length_eq_zero z)
      have hq : qs[qs.length - 1]? = some qs[qs.length - 1] := List.getElem?_eq_getElem (by omega)
      generalize qs[qs.length - 1] = q at hq
      have e1 : (qs.map V.ref).getLast? = some (.ref q) := by rw [List.getLast?_map, List.getLast?_eq_getElem?, hq]; rfl
      have e2 : (reaches (bytesN t) xs [])[qs.length - 1]? = some (reachL (bytesN t) xs) := by
        unfold reachL
        rw [getLastD_get _ _ (fun z => by rw [z] at hlen; exact h0 hlen.symm), List.getD_eq_getElem?_getD, g2, hlen]
        rw [List.getElem?_eq_getElem (by omega)]
        rfl
      refine ⟨_, rfl, _, rfl, r, _, _, _, rfl, rfl, SqL.of g1, atI_neg1 e1, ?_⟩
      exact k q H' (g3 q (List.mem_of_getElem? hq)).2 sH (g4 _ _ _ hq e2)
end
end Elx

set_option Elab.async false
set_option linter.all false
set_option maxRecDepth 100000
set_option maxHeartbeats 2000000
namespace Elx
open PySem PySem.Spec PyProof.Rows L2
open PySem.W (Codec)
section
variable {P : Program} {w : World} {K : PySem.W.Frag} {mg : Str → Option Value} {base : Heap}
/-! ### longest -/
abbrev sLongest : Stmt := top 15
def spLongest : Sp := fun vs H Q _ => ∃ (e b : Nat), vs = [vn e, vn b] ∧ Q (vn (lenOf b e)) H
theorem scLongest : FnScope ["ends", "begin"] ["ends", "begin"] (defScope sLongest) := ⟨rfl, rfl, rfl, by decide +kernel, rfl, by decide +kernel, by decide +kernel⟩
theorem longest_eq (e b : Nat) : (if (0 : Int) > (bl e : Int) - 1 - (b : Int) then (0 : Int) else (bl e : Int) - 1 - (b : Int)) = ((lenOf b e : Nat) : Int) := by
  unfold bl lenOf
  by_cases h : e = 0
  · rw [if_pos h, if_pos h]
    split <;> omega
  · rw [if_neg h, if_neg h]
    split <;> omega
theorem ok_longest {f : Addr} {fd : FuncData} (F : Fun K "longest" "longest" sLongest f fd) (T : Own mg) : FnOk P w K mg base CX0 1 f fd ["ends", "begin"] spLongest := by
  refine F.ok scLongest (fun vs H Q E h => ?_) (fun cdv A outer s H vs Q E hr h => ?_)
  · obtain ⟨e, b, rfl, _⟩ := h
    rfl
  · obtain ⟨e, b, rfl, k⟩ := h
    refine ⟨_, pss_one (ps_ret (pe_callB (call_max2 rfl) rfl T.max PyProof.Rows.boot_max (pa_cons (pe_op op_sub (pe_op op_sub (pe_bm0 PySem.F.plainAttrs_int slot_int_bit_length type_int_bit_length mt_bitlenN (pv 0)) pe_int) (pv 1)) (pa_cons pe_int pa_nil)))), ?_⟩
    refine ⟨_, rfl, rfl, e, rfl, rfl, _, 1, rfl, rfl, _, rfl, _, _, rfl, rfl, _, _, rfl, ?_⟩
    rw [longest_eq]
    exact k

/-! ### longest_matches -/
abbrev sLms : Stmt := top 14
def spLms (K : PySem.W.Frag) : Sp := fun vs H Q _ => ∃ (p a : Addr) (xs : List PN) (s : Lx.Bytes), vs = [.ref p, .ref a] ∧ NodesAt K H p xs ∧ SqL K H a (vns (bytesN s)) ∧ OkFrom 0 xs ∧ xs ≠ [] ∧ xs.length ≤ 32 ∧ s.length ≤ 512 ∧ NewL H (vns (matchedL (bytesN s) xs)) Q
theorem scLms : FnScope ["nodes", "text", "reach", "begin", "ends"] ["nodes", "text"] (defScope sLms) := ⟨rfl, rfl, rfl, by decide +kernel, rfl, by decide +kernel, by decide +kernel⟩
theorem ok_lms {f : Addr} {fd : FuncData} (F : Fun K "longest_matches" "longest_matches" sLms f fd) (T : Own mg) (C1 : Callee P w K mg base 3 "reach_of_expression" ["nodes", "text"] (spExpr K)) (C2 : Callee P w K mg base 1 "longest" ["ends", "begin"] spLongest) : FnOk P w K mg base CX0 4 f fd ["nodes", "text"] (spLms K) := by
  refine F.ok scLms (fun vs H Q E h => ?_) (fun cdv A outer s H vs Q E hr h => ?_)
  · obtain ⟨p, a, xs, t, rfl, _⟩ := h
    rfl
  · obtain ⟨p, a, xs, t, rfl, hN, hS, ok, hne, hx, hn, k⟩ := h
    have nd := scLms.nd
    have hr1 : Room 1 _ := hr.mono (by decide)
    refine ⟨_, pss_cons (ps_set (i := 2) nd rfl (Or.inl rfl) (pe_fn C1 hr rfl (pa_cons (pv 0) (pa_cons (pv 1) pa_nil))))
      (pss_one (ps_ret (pe_lc (own := [("begin", 3), ("ends", 4)]) rfl nd (pi_enum rfl T.enum (pa_cons (pv 2) pa_nil))
        (show BlkOk ["nodes", "text", "reach", "begin", "ends"] (defScope sLms) _ _ from ⟨rfl, by decide +kernel, by decide +kernel, by decide +kernel, by decide +kernel⟩)
        (fun _ _ _ _ _ => pg_names2 K rfl (i := 3) (j := 4) rfl nd rfl rfl (Or.inl rfl) (Or.inl rfl) (Or.inr rfl) (Or.inr rfl)) (fun _ _ _ _ _ => pts_nil)
        (fun _ _ _ _ _ => pe_fn C2 hr1 rfl (pa_cons (pv 4) (pa_cons (pv 3) pa_nil)))))), ?_⟩
    refine ⟨_, rfl, _, rfl, p, a, xs, t, rfl, hN, hS, ok, hne, hx, hn, fun r H1 hr0 s1 hl1 => ?_⟩
    have hlen : (matchedL (bytesN t) xs).length = t.length + 1 := matched_len ok hne
    have hlen2 : (reachL (bytesN t) xs).length = t.length + 1 := (reachL_good ok hne).len
    refine ⟨_, rfl, r, _, rfl, SqL.of hl1, fun D hD => ?_⟩
    refine lc_list (vns (matchedL (bytesN t) xs)) (by rw [vns_len, hlen]; exact small512' (by omega)) hD (fun H' hs => ?_) (fun H' hs hl => k D H' (s1.free hD) (s1.trans hs) hl) (fun i x H' hx hs => ?_) (fun i x H' Q' hx hs hQ => ?_)
    · exact ⟨_, SqL.of (hs _ _ hl1), by rw [vns_len, vns_len, hlen, hlen2]; exact Nat.le_refl _⟩
    · obtain ⟨n, hy, rfl⟩ := vns_at hx
      have hi := (List.getElem?_eq_some_iff.mp hy).1
      rw [hlen] at hi
      exact ⟨_, _, SqL.of (hs _ _ hl1), vns_getD (by rw [hlen2]; exact hi)⟩
    · rintro z H2 ⟨d, c, rfl, ht, rfl, hc⟩
      obtain ⟨n, hy, rfl⟩ := vns_at hx
      have hc := hc _ (SqL.of (hs _ _ hl1))
      obtain ⟨c, hc2, rfl⟩ := vns_at hc
      have en : lenOf i c = n := by
        unfold matchedL at hy
        rw [zipIdx_map_get, hc2] at hy
        exact Option.some.inj hy
      have s2 : Same H' (upd H' d (.tup [.int (i : Nat), vn c])) := Same.upd_new (Same.refl _) ht
      refine ⟨d, _, rfl, SqT.of upd_same, rfl, _, _, rfl, _, _, rfl, rfl, rfl, ?_⟩
      refine ⟨_, rfl, _, rfl, c, i, rfl, ?_⟩
      rw [en]
      exact hQ _ s2
end
end Elx

set_option Elab.async false
set_option linter.all false
set_option maxRecDepth 100000
set_option maxHeartbeats 2000000
namespace Elx
open PySem PySem.Spec PyProof.Rows L2
open PySem.W (Codec)
/-! ### rows of things, apart from the addresses D -/
/-- what stands outside of D stays -/
def Keeps (D : Addr → Prop) (H H' : Hp) : Prop := ∀ b o, H b = some o → ¬ D b → H' b = some o
theorem Same.keeps {D : Addr → Prop} {H H' : Hp} (s : Same H H') : Keeps D H H' := fun b o e _ => s b o e
theorem Keeps.trans {D : Addr → Prop} {H H1 H2 : Hp} (a : Keeps D H H1) (b : Keeps D H1 H2) : Keeps D H H2 := fun c o h n => b c o (a c o h n) n
theorem keeps_upd {D : Addr → Prop} {H : Hp} {p : Addr} {o : HO} (h : D p) : Keeps D H (upd H p o) := fun b u e n => by
  rw [upd_ne (fun z => n (by rw [z]; exact h))]; exact e
abbrev Item (α : Type) := (Addr → Prop) → Hp → Addr → α → Prop
structure ItOk {α : Type} (I : Item α) : Prop where
  keep : ∀ {D : Addr → Prop} {H H' : Hp} {a : Addr} {x : α}, I D H a x → Keeps D H H' → I D H' a x
  mono : ∀ {D D' : Addr → Prop} {H : Hp} {a : Addr} {x : α}, I D H a x → (∀ b, D' b → D b) → I D' H a x
  out : ∀ {D : Addr → Prop} {H : Hp} {a : Addr} {x : α}, I D H a x → ¬ D a
/-- and k -/
def And1 (k : Addr) (D : Addr → Prop) : Addr → Prop := fun b => b = k ∨ D b
def RowAt {α : Type} (I : Item α) : Item (List α) := fun D H k xs => ¬ D k ∧ ∃ as : List Addr, H k = some (.lst (as.map V.ref)) ∧ as.length = xs.length ∧ ∀ (i : Nat) (a : Addr) (x : α), as[i]? = some a → xs[i]? = some x → I (And1 k D) H a x
theorem RowAt.ok {α : Type} {I : Item α} (ok : ItOk I) : ItOk (RowAt I) := by
  refine ⟨?_, ?_, fun h => h.1⟩
  · rintro D H H' a x ⟨h1, as, h2, h3, h4⟩ k
    exact ⟨h1, as, k _ _ h2 h1, h3, fun i b y hb hy => ok.keep (h4 i b y hb hy) fun c o e n => k c o e fun z => n (.inr z)⟩
  · rintro D D' H a x ⟨h1, as, h2, h3, h4⟩ k
    exact ⟨fun z => h1 (k _ z), as, h2, h3, fun i b y hb hy => ok.mono (h4 i b y hb hy) fun c z => z.imp id (k c)⟩
theorem row_nil {α : Type} {I : Item α} {D : Addr → Prop} {H : Hp} {k : Addr} (hk : ¬ D k) (h : H k = some (.lst [])) : RowAt I D H k ([] : List α) := ⟨hk, [], h, rfl, fun i a x h => by simp at h⟩
theorem row_push {α : Type} {I : Item α} (ok : ItOk I) {D : Addr → Prop} {H : Hp} {k a : Addr} {xs : List α} {x : α} (h : RowAt I D H k xs) (ha : I (And1 k D) H a x) :
    ∃ as : List Addr, H k = some (.lst (as.map V.ref)) ∧ (as.map V.ref).length = xs.length ∧ RowAt I D (upd H k (.lst (as.map V.ref ++ [.ref a]))) k (xs ++ [x]) := by
  obtain ⟨h1, as, h2, h3, h4⟩ := h
  have kp : Keeps (And1 k D) H (upd H k (.lst (as.map V.ref ++ [.ref a]))) := keeps_upd (.inl rfl)
  refine ⟨as, h2, by rw [List.length_map]; exact h3, h1, as ++ [a], ?_, by simp [h3], ?_⟩
  · rw [upd_same, List.map_append]; rfl
  · intro i b y hb hy
    by_cases hi : i < as.length
    · rw [List.getElem?_append_left hi] at hb
      rw [List.getElem?_append_left (by omega)] at hy
      exact ok.keep (h4 i b y hb hy) kp
    · have hi2 := (List.getElem?_eq_some_iff.mp hb).1
      have ei : i = as.length := by simp at hi2; omega
      subst ei
      rw [List.getElem?_append_right (Nat.le_refl _), Nat.sub_self] at hb
      rw [h3, List.getElem?_append_right (Nat.le_refl _), Nat.sub_self] at hy
      have e1 : a = b := Option.some.inj hb
      have e2 : x = y := Option.some.inj hy
      subst e1 e2
      exact ok.keep ha kp
theorem row_get {α : Type} {I : Item α} {D : Addr → Prop} {H : Hp} {k : Addr} {xs : List α} {i : Nat} {x : α} (h : RowAt I D H k xs) (hx : xs[i]? = some x) :
    ∃ (as : List Addr) (a : Addr), H k = some (.lst (as.map V.ref)) ∧ as.length = xs.length ∧ (as.map V.ref)[i]? = some (.ref a) ∧ I (And1 k D) H a x := by
  obtain ⟨h1, as, h2, h3, h4⟩ := h
  have hi := (List.getElem?_eq_some_iff.mp hx).1
  have hq : as[i]? = some as[i] := List.getElem?_eq_getElem (by omega)
  exact ⟨as, as[i], h2, h3, by rw [List.getElem?_map, hq]; rfl, h4 i _ _ hq hx⟩
theorem row_len {α : Type} {I : Item α} {D : Addr → Prop} {H : Hp} {k : Addr} {xs : List α} (h : RowAt I D H k xs) : ∃ vs : List V, H k = some (.lst vs) ∧ vs.length = xs.length := by
  obtain ⟨h1, as, h2, h3, h4⟩ := h
  exact ⟨_, h2, by rw [List.length_map]; exact h3⟩
/-! ### nodes, rules -/
def TupAt : Item PN := fun D H a x => ¬ D a ∧ H a = some (.tup (tupN x))
theorem tupAt_ok : ItOk TupAt := ⟨fun h k => ⟨h.1, k _ _ h.2 h.1⟩, fun h k => ⟨fun z => h.1 (k _ z), h.2⟩, fun h => h.1⟩
abbrev NodesIn : Item (List PN) := RowAt TupAt
theorem nodesIn_ok : ItOk NodesIn := RowAt.ok tupAt_ok
theorem NodesIn.at {K : PySem.W.Frag} {D : Addr → Prop} {H : Hp} {p : Addr} {xs : List PN} (h : NodesIn D H p xs) : NodesAt K H p xs := by
  obtain ⟨h1, as, h2, h3, h4⟩ := h
  exact ⟨as, SqL.of h2, h3, fun i r x a b => (h4 i r x a b).2⟩
abbrev RulesIn : Item (List (List PN)) := RowAt NodesIn
theorem rulesIn_ok : ItOk RulesIn := RowAt.ok nodesIn_ok
/-- all that is tracked -/
def Dom (H : Hp) : Addr → Prop := fun b => H b ≠ none
theorem Dom.new {H : Hp} {a : Addr} (h : H a = none) : ¬ Dom H a := fun z => z h
theorem Same.dom {H H' : Hp} (s : Same H H') : ∀ b, Dom H b → Dom H' b := fun b h z => h (s.free z)
theorem dom_of {H : Hp} {a : Addr} {o : HO} (h : H a = some o) : Dom H a := fun z => by rw [h] at z; cases z
end Elx

set_option Elab.async false
set_option linter.all false
set_option maxRecDepth 100000
set_option maxHeartbeats 2000000
namespace Elx
open PySem PySem.Spec PyProof.Rows L2
open PySem.W (Codec)
theorem cutV_nn {xs : List V} (a b : Nat) : cutV xs (some (a : Int)) (some (b : Int)) = (xs.drop a).take (b - a) := by
  unfold cutV
  rw [HT.sIx_nat, HT.sIx_nat]
  by_cases ha : a ≤ xs.length
  · rw [Nat.min_eq_left ha]
    by_cases hb : b ≤ xs.length
    · rw [Nat.min_eq_left hb]
    · rw [Nat.min_eq_right (by omega), List.take_of_length_le (by rw [List.length_drop]; omega), List.take_of_length_le (by rw [List.length_drop]; omega)]
  · rw [Nat.min_eq_right (a := a) (by omega), List.drop_of_length_le (Nat.le_refl _), List.drop_of_length_le (by omega), List.take_nil, List.take_nil]
theorem cutV_n0 {xs : List V} (a : Nat) : cutV xs (some (a : Int)) none = xs.drop a := by
  unfold cutV
  rw [HT.sIx_nat, HT.sIx_none]
  by_cases ha : a ≤ xs.length
  · rw [Nat.min_eq_left ha, List.take_of_length_le (by rw [List.length_drop]; omega)]
  · rw [Nat.min_eq_right (by omega), List.drop_of_length_le (Nat.le_refl _), List.drop_of_length_le (by omega), List.take_nil]
theorem cutV_0n {xs : List V} (b : Nat) : cutV xs none (some (b : Int)) = xs.take b := by
  unfold cutV
  rw [HT.sIx_nat, HT.sIx_none, List.drop_zero, Nat.sub_zero]
  by_cases hb : b ≤ xs.length
  · rw [Nat.min_eq_left hb]
  · rw [Nat.min_eq_right (by omega), List.take_of_length_le (Nat.le_refl _), List.take_of_length_le (by omega)]
theorem vns_drop (l : List Nat) (a : Nat) : (vns l).drop a = vns (l.drop a) := by show (l.map vn).drop a = _; rw [← List.map_drop]
theorem vns_take (l : List Nat) (a : Nat) : (vns l).take a = vns (l.take a) := by show (l.map vn).take a = _; rw [← List.map_take]
theorem pns_get : ∀ (i : Nat) (l : List Nat), l.length % 5 = 0 → i < l.length / 5 → ∃ x, (pnsOf l)[i]? = some x ∧ (l.drop (5 * i)).take 5 = [x.kind, x.lo, x.hi, x.a, x.b]
  | i, [], _, h => by simp at h
  | i, [_], h, _ => by simp at h
  | i, [_, _], h, _ => by simp at h
  | i, [_, _, _], h, _ => by simp at h
  | i, [_, _, _, _], h, _ => by simp at h
  | 0, k :: lo :: hi :: a :: b :: l, _, _ => ⟨⟨k, lo, hi, a, b⟩, rfl, rfl⟩
  | i + 1, k :: lo :: hi :: a :: b :: l, h, hi' => by
    simp at h hi'
    obtain ⟨x, h1, h2⟩ := pns_get i l (by omega) (by omega)
    refine ⟨x, h1, ?_⟩
    rw [show 5 * (i + 1) = 5 * i + 5 by omega]
    exact h2
section
variable {P : Program} {w : World} {K : PySem.W.Frag} {mg : Str → Option Value} {base : Heap}
/-! ### nodes_of -/
abbrev sNodes : Stmt := top 9
def spNodes (K : PySem.W.Frag) : Sp := fun vs H Q _ => ∃ (a : Addr) (l : List Nat), vs = [.ref a] ∧ SqL K H a (vns l) ∧ l.length % 5 = 0 ∧ l.length ≤ 160 ∧ ∀ (p : Addr) (H' : Hp), Same H H' → NodesIn (Dom H) H' p (pnsOf l) → Q (.ref p) H'
theorem scNodes : FnScope ["numbers", "begin"] ["numbers"] (defScope sNodes) := ⟨rfl, rfl, rfl, by decide +kernel, rfl, by decide +kernel, by decide +kernel⟩
theorem rgc5 {n : Nat} (h : n % 5 = 0) (h2 : n ≤ 160) : RgC 0 (n : Int) 5 (n / 5) := by
  have e : Builtin.Range.rangeSize 0 (n : Int) 5 = ((n / 5 : Nat) : Int) := by
    unfold Builtin.Range.rangeSize
    rw [if_pos (by decide)]
    split <;> omega
  refine ⟨by decide, by decide, ?_, e⟩
  have h : ∀ m : Fin 33, Builtin.Range.small 0 ((5 * m.val : Nat) : Int) 5 = true := by decide +kernel
  have q := h ⟨n / 5, by omega⟩
  rw [show 5 * (n / 5) = n by omega] at q
  exact q
theorem sl_listK {X : Cx} (K : PySem.W.Frag) (hK : X.K = K) : SlR X (rSlL K) := hK ▸ sl_list
theorem call_tuple_ofK {X : Cx} (K : PySem.W.Frag) (hK : X.K = K) : CallR X (.type "tuple") (fun xs H Q => ∃ p ys, xs = [.ref p] ∧ ((SqL K H p ys ∧ ∀ l, H l = none → Q (.ref l) (upd H l (.tup ys))) ∨ (SqT K H p ys ∧ Q (.ref p) H))) := hK ▸ call_tuple_of
theorem ok_nodes {f : Addr} {fd : FuncData} (F : Fun K "nodes_of" "nodes_of" sNodes f fd) (T : Own mg) (C : CExpr mg) : FnOk P w K mg base CX0 1 f fd ["numbers"] (spNodes K) := by
  refine F.ok scNodes (fun vs H Q E h => ?_) (fun cdv A outer s H vs Q E hr h => ?_)
  · obtain ⟨a, l, rfl, _⟩ := h
    rfl
  · obtain ⟨a, l, rfl, hS, h5, h160, k⟩ := h
    have nd := scNodes.nd
    refine ⟨_, pss_one (ps_ret (pe_lc (own := [("begin", 1)]) rfl nd (pi_range3 rfl T.range (pa_cons pe_int (pa_cons (pe_callB call_len_seq (by rfl) T.len PySem.boot_len (pa_cons (pv 0) pa_nil)) (pa_cons (pe_const rfl C.size) pa_nil))))
      (show BlkOk ["numbers", "begin"] (defScope sNodes) _ _ from ⟨rfl, by decide +kernel, by decide +kernel, by decide +kernel, by decide +kernel⟩) (fun _ _ _ _ _ => pg_name (i := 1) nd rfl (Or.inl rfl)) (fun _ _ _ _ _ => pts_nil)
      (fun _ _ _ _ _ => pe_callTy (call_tuple_ofK K rfl) rfl T.tuple PyProof.Rows.boot_tuple (pa_cons (pe_slice (sl_listK K rfl) (pv 0) (po_some (pv 1)) (po_some (pe_op op_addN (pv 1) (pe_const rfl C.size)))) pa_nil)))), ?_⟩
    refine ⟨_, rfl, a, _, rfl, .inl hS, _, _, _, l.length / 5, rfl, by rw [vns_len]; exact rgc5 h5 h160, fun D hD => ?_⟩
    have hpl : (pnsOf l).length = l.length / 5 := pns_len l.length l (Nat.le_refl _)
    refine lc_by (l.length / 5) (fun i H' => Same H H' ∧ RowAt TupAt (Dom H) H' D ((pnsOf l).take i)) ⟨Same.upd_new (Same.refl _) hD, row_nil (Dom.new hD) upd_same⟩ (fun H' ⟨h1, h2⟩ => ⟨Nat.le_refl _, ?_⟩) (fun i H' hi ⟨h1, h2⟩ => ⟨hi, ?_⟩)
    · rw [List.take_of_length_le (by omega)] at h2
      exact k D H' h1 h2
    · rintro x H2 ⟨rfl, rfl⟩
      have e0 : V.int (0 + (i : Int) * 5) = vn (5 * i) := by show V.int _ = V.int _; congr 1; omega
      rw [e0]
      obtain ⟨x, hx, hx2⟩ := pns_get i l h5 hi
      refine ⟨rfl, _, rfl, _, rfl, _, rfl, _, rfl, _, 5, rfl, rfl, _, rfl, a, _, rfl, h1.seq hS, fun q hq => ?_⟩
      rw [cutV_nn, vns_drop, vns_take, show 5 * i + 5 - 5 * i = 5 by omega, hx2]
      refine ⟨q, _, rfl, .inl ⟨SqL.of upd_same, fun r hr2 => ?_⟩⟩
      have s2 : Same H2 (upd H2 q (.lst (vns [x.kind, x.lo, x.hi, x.a, x.b]))) := Same.upd_new (Same.refl _) hq
      have s3 := Same.upd_new (o := .tup (vns [x.kind, x.lo, x.hi, x.a, x.b])) s2 (s2.free hr2)
      have h3 := (RowAt.ok tupAt_ok).keep h2 (Same.keeps s3)
      obtain ⟨w1, w2, w3, w4⟩ := h2
      have hne : r ≠ D := Ne.symm (ne_of_none w3 (s2.free hr2))
      obtain ⟨as, g1, g2, g3⟩ := row_push tupAt_ok h3 (a := r) (x := x) ⟨fun z => z.elim hne fun z => z (h1.free (s2.free hr2)), upd_same⟩
      refine ⟨_, g1, by rw [g2, List.length_take]; exact small512 (by omega), Same.upd_new (h1.trans s3) hD, ?_⟩
      rw [take_snoc hx]
      exact g3
end
end Elx

set_option Elab.async false
set_option linter.all false
set_option maxRecDepth 100000
set_option maxHeartbeats 2000000
namespace Elx
open PySem PySem.Spec PyProof.Rows L2
open PySem.W (Codec)
section
variable {P : Program} {w : World} {K : PySem.W.Frag} {mg : Str → Option Value} {base : Heap}
/-! ### is_node -/
abbrev sIsNode : Stmt := top 11
def spIsNode (K : PySem.W.Frag) : Sp := fun vs H Q _ => ∃ (a : Addr) (x : PN) (i : Nat), vs = [.ref a, vn i] ∧ SqT K H a (tupN x) ∧ Q (.bl (okNB i x)) H
theorem scIsNode : FnScope ["node", "place", "kind", "lo", "hi", "a", "b"] ["node", "place"] (defScope sIsNode) := ⟨rfl, rfl, rfl, by decide +kernel, rfl, by decide +kernel, by decide +kernel⟩
theorem ok_isNode {f : Addr} {fd : FuncData} (F : Fun K "is_node" "is_node" sIsNode f fd) (C : CExpr mg) : FnOk P w K mg base CX0 1 f fd ["node", "place"] (spIsNode K) := by
  refine F.ok scIsNode (fun vs H Q E h => ?_) (fun cdv A outer s H vs Q E hr h => ?_)
  · obtain ⟨a, x, i, rfl, _⟩ := h
    rfl
  · obtain ⟨a, x, i, rfl, hT, k⟩ := h
    have nd := scIsNode.nd
    refine ⟨_, pss_cons (ps_asg (pv 0) (pg_names5 K rfl (i1 := 2) (i2 := 3) (i3 := 4) (i4 := 5) (i5 := 6) rfl nd rfl rfl rfl rfl rfl (Or.inl rfl) (Or.inl rfl) (Or.inl rfl) (Or.inl rfl) (Or.inl rfl) (Or.inl rfl) (Or.inl rfl) (Or.inl rfl) (Or.inl rfl) (Or.inl rfl)))
      (pss_cons (ps_if (pt_cmpR op_eqN (pv 2) (pe_const rfl C.c0) (nomark _)) (pss_one (ps_ret pe_bl)) pss_nil)
      (pss_cons (ps_if (pt_cmpR op_eqN (pv 2) (pe_const rfl C.c1) (nomark _)) (pss_one (ps_ret (pe_and (pe_cmpR op_leN (pv 3) (pv 4) (nomark _)) (pe_one (pe_cmpR op_leN (pv 4) (pe_const rfl C.last) (nomark _)))))) pss_nil)
      (pss_cons (ps_if (PW.pt (pw_or (pt_cmpR op_eqN (pv 2) (pe_const rfl C.c2) (nomark _)) (pw_or1 (pt_cmpR op_eqN (pv 2) (pe_const rfl C.c3) (nomark _))))) (pss_one (ps_ret (pe_and (pe_cmpR op_ltN (pv 5) (pv 1) (nomark _)) (pe_one (pe_cmpR op_ltN (pv 6) (pv 1) (nomark _)))))) pss_nil)
      (pss_cons (ps_if (pt_cmpR op_eqN (pv 2) (pe_const rfl C.c4) (nomark _)) (pss_one (ps_ret (pe_cmpR op_ltN (pv 5) (pv 1) (nomark _)))) pss_nil)
      (pss_one (ps_ret pe_bl)))))), ?_⟩
    refine ⟨_, rfl, a, _, rfl, hT, rfl, _, _, rfl, _, _, rfl, _, _, rfl, _, _, rfl, _, _, rfl, rfl, ?_⟩
    unfold okNB at k
    refine ⟨_, rfl, _, 0, rfl, rfl, _, rfl, ?_⟩
    by_cases k0 : x.kind = 0
    · rw [decide_eq_true k0]
      rw [if_pos k0] at k
      exact k
    · rw [decide_eq_false k0]
      rw [if_neg k0] at k
      refine ⟨_, rfl, _, 1, rfl, rfl, _, rfl, ?_⟩
      by_cases k1 : x.kind = 1
      · rw [decide_eq_true k1]
        rw [if_pos k1] at k
        refine ⟨_, rfl, _, rfl, _, _, rfl, rfl, _, rfl, ?_⟩
        by_cases hl : x.lo ≤ x.hi
        · rw [decide_eq_true hl] at k ⊢
          refine ⟨_, rfl, _, 255, rfl, rfl, ?_⟩
          rw [Bool.true_and] at k
          exact k
        · rw [decide_eq_false hl] at k ⊢
          exact k
      · rw [decide_eq_false k1]
        rw [if_neg k1] at k
        have ab : (x.kind = 2 ∨ x.kind = 3) → (∃ v, (some (vn x.a) : Option V) = some v ∧ True) ∧ Q (.bl (decide (x.a < i) && decide (x.b < i))) H := fun h => by
          rw [if_pos h] at k; exact ⟨⟨_, rfl, trivial⟩, k⟩
        refine ⟨_, rfl, _, 2, rfl, rfl, _, rfl, ?_⟩
        by_cases k2 : x.kind = 2
        · rw [decide_eq_true k2]
          have k := (ab (.inl k2)).2
          refine ⟨_, rfl, _, rfl, _, _, rfl, rfl, _, rfl, ?_⟩
          by_cases hl : x.a < i
          · rw [decide_eq_true hl] at k ⊢
            rw [Bool.true_and] at k
            exact ⟨_, rfl, _, rfl, _, _, rfl, rfl, k⟩
          · rw [decide_eq_false hl] at k ⊢
            exact k
        · rw [decide_eq_false k2]
          refine ⟨_, rfl, _, 3, rfl, rfl, _, rfl, ?_⟩
          by_cases k3 : x.kind = 3
          · rw [decide_eq_true k3]
            have k := (ab (.inr k3)).2
            refine ⟨_, rfl, _, rfl, _, _, rfl, rfl, _, rfl, ?_⟩
            by_cases hl : x.a < i
            · rw [decide_eq_true hl] at k ⊢
              rw [Bool.true_and] at k
              exact ⟨_, rfl, _, rfl, _, _, rfl, rfl, k⟩
            · rw [decide_eq_false hl] at k ⊢
              exact k
          · rw [decide_eq_false k3]
            rw [if_neg (fun z => z.elim k2 k3)] at k
            refine ⟨_, rfl, _, 4, rfl, rfl, _, rfl, ?_⟩
            by_cases k4 : x.kind = 4
            · rw [decide_eq_true k4]
              rw [if_pos k4] at k
              exact ⟨_, rfl, _, rfl, _, _, rfl, rfl, k⟩
            · rw [decide_eq_false k4]
              rw [if_neg k4] at k
              exact k
end
end Elx

set_option Elab.async false
set_option linter.all false
set_option maxRecDepth 100000
set_option maxHeartbeats 2000000
namespace Elx
open PySem PySem.Spec PyProof.Rows L2
open PySem.W (Codec)
theorem op_mod5 {X : Cx} : OpR X (binaryOp .Mod) (fun x y H Q => ∃ a : Nat, x = vn a ∧ y = .int 5 ∧ Q (vn (a % 5)) H) := opImp op_mod fun x y H Q ⟨a, hx, hy, q⟩ => ⟨a, 5, hx, hy, (show (0 : Int) < 5 by decide), by show Q (.int ((a : Int) % 5)) H; rw [show (a : Int) % 5 = ((a % 5 : Nat) : Int) by omega]; exact q⟩
theorem zipIdx_map_getG {α β : Type} (l : List α) (f : α × Nat → β) (p : Nat) : (l.zipIdx.map f)[p]? = l[p]?.map fun x => f (x, p) := by
  rw [List.getElem?_map, List.getElem?_zipIdx]
  cases l[p]? with
  | none => rfl
  | some x => simp
def okBits (xs : List PN) : List Bool := xs.zipIdx.map fun (x : PN × Nat) => okNB x.2 x.1
theorem okAll_bits : ∀ (xs : List PN) (k : Nat), okAllB k xs = ((xs.zipIdx k).map fun (x : PN × Nat) => okNB x.2 x.1).all id
  | [], _ => rfl
  | x :: r, k => by
    show (okNB k x && okAllB (k + 1) r) = (okNB k x && (((r.zipIdx (k + 1)).map fun (x : PN × Nat) => okNB x.2 x.1).all id))
    rw [okAll_bits r]
theorem bls_at {l : List Bool} {i : Nat} {x : V} (h : (l.map V.bl)[i]? = some x) : ∃ n, l[i]? = some n ∧ x = V.bl n := by
  rw [List.getElem?_map] at h
  cases e : l[i]? with
  | none => rw [e] at h; cases h
  | some n => rw [e] at h; exact ⟨n, rfl, (Option.some.inj h).symm⟩
theorem bls_getD {l : List Bool} {i : Nat} (h : i < l.length) : (l.map V.bl)[i]? = some (.bl (l.getD i false)) := by
  rw [List.getElem?_map, List.getD_eq_getElem?_getD, List.getElem?_eq_getElem h]
  rfl
section
variable {P : Program} {w : World} {K : PySem.W.Frag} {mg : Str → Option Value} {base : Heap}
/-! ### is_expression -/
abbrev sIsExpr : Stmt := top 10
def spIsExpr (K : PySem.W.Frag) : Sp := fun vs H Q _ => ∃ (a : Addr) (l : List Nat), vs = [.ref a] ∧ SqL K H a (vns l) ∧ ∀ H' : Hp, Same H H' → Q (.bl (isExpr l)) H'
theorem scIsExpr : FnScope ["numbers", "place", "node"] ["numbers"] (defScope sIsExpr) := ⟨rfl, rfl, rfl, by decide +kernel, rfl, by decide +kernel, by decide +kernel⟩
theorem ok_isExpr {f : Addr} {fd : FuncData} (F : Fun K "is_expression" "is_expression" sIsExpr f fd) (T : Own mg) (C : CExpr mg) (C1 : Callee P w K mg base 1 "nodes_of" ["numbers"] (spNodes K)) (C2 : Callee P w K mg base 1 "is_node" ["node", "place"] (spIsNode K)) : FnOk P w K mg base CX0 2 f fd ["numbers"] (spIsExpr K) := by
  refine F.ok scIsExpr (fun vs H Q E h => ?_) (fun cdv A outer s H vs Q E hr h => ?_)
  · obtain ⟨a, l, rfl, _⟩ := h
    rfl
  · obtain ⟨a, l, rfl, hS, k⟩ := h
    have nd := scIsExpr.nd
    refine ⟨_, pss_cons (ps_if (PW.pt (pw_or (pt_cmpR op_eqN (pe_callB call_len_seq (by rfl) T.len PySem.boot_len (pa_cons (pv 0) pa_nil)) pe_int (nomark _))
        (pw_or1 (pt_cmpR op_gtN (pe_callB call_len_seq (by rfl) T.len PySem.boot_len (pa_cons (pv 0) pa_nil)) (pe_op op_mul (pe_const rfl C.most) (pe_const rfl C.size)) (nomark _))))) (pss_one (ps_ret pe_bl)) pss_nil)
      (pss_cons (ps_if (pt_cmpR op_neN (pe_op op_mod5 (pe_callB call_len_seq (by rfl) T.len PySem.boot_len (pa_cons (pv 0) pa_nil)) (pe_const rfl C.size)) pe_int (nomark _)) (pss_one (ps_ret pe_bl)) pss_nil)
      (pss_one (ps_ret (pe_callB (cr_all rfl) rfl T.all PyProof.Rows.boot_all (pa_cons (pe_lc (own := [("place", 1), ("node", 2)]) rfl nd (pi_enum rfl T.enum (pa_cons (pe_fn C1 hr rfl (pa_cons (pv 0) pa_nil)) pa_nil))
        (show BlkOk ["numbers", "place", "node"] (defScope sIsExpr) _ _ from ⟨rfl, by decide +kernel, by decide +kernel, by decide +kernel, by decide +kernel⟩)
        (fun _ _ _ _ _ => pg_names2 K rfl (i := 1) (j := 2) rfl nd rfl rfl (Or.inl rfl) (Or.inl rfl) (Or.inr rfl) (Or.inr rfl)) (fun _ _ _ _ _ => pts_nil)
        (fun _ _ _ _ _ => pe_fn C2 hr rfl (pa_cons (pv 2) (pa_cons (pv 1) pa_nil)))) pa_nil))))), ?_⟩
    refine ⟨_, rfl, a, _, rfl, .inl hS, _, 0, rfl, rfl, _, rfl, ?_⟩
    rw [vns_len]
    have hE : isExpr l = (!(decide (l.length = 0) || decide (160 < l.length)) && decide (l.length % 5 = 0) && okAllB 0 (pnsOf l)) := by
      unfold isExpr
      congr 4
      cases l with
      | nil => rfl
      | cons x r => simp
    rw [hE] at k
    by_cases h0 : l.length = 0
    · rw [decide_eq_true h0] at k ⊢
      exact k H (Same.refl _)
    · rw [decide_eq_false h0] at k ⊢
      refine ⟨_, rfl, a, _, rfl, .inl hS, _, _, rfl, rfl, .inl ⟨by decide, by decide⟩, _, 160, rfl, rfl, _, rfl, ?_⟩
      rw [vns_len]
      by_cases h1 : 160 < l.length
      · rw [decide_eq_true h1] at k ⊢
        exact k H (Same.refl _)
      · rw [decide_eq_false h1] at k ⊢
        refine ⟨_, rfl, a, _, rfl, .inl hS, _, rfl, rfl, _, 0, rfl, rfl, _, rfl, ?_⟩
        rw [vns_len]
        by_cases h2 : l.length % 5 = 0
        · rw [decide_eq_true h2] at k ⊢
          refine ⟨_, rfl, a, l, rfl, hS, h2, by omega, fun p H1 s1 hN => ?_⟩
          obtain ⟨w1, as, w2, w3, w4⟩ := hN
          refine ⟨p, _, rfl, SqL.of w2, fun D hD => ?_⟩
          have hpl : (pnsOf l).length = l.length / 5 := pns_len l.length l (Nat.le_refl _)
          have hbl : (okBits (pnsOf l)).length = (pnsOf l).length := by unfold okBits; simp
          refine lc_list ((okBits (pnsOf l)).map V.bl) (by rw [List.length_map, hbl, hpl]; exact small512' (by omega)) hD (fun H' hs => ?_) (fun H' hs hl => ?_) (fun i x H' hx hs => ?_) (fun i x H' Q' hx hs hQ => ?_)
          · exact ⟨_, SqL.of (hs _ _ w2), by rw [List.length_map, List.length_map, hbl, w3]; exact Nat.le_refl _⟩
          · refine ⟨D, _, rfl, SqL.of hl, ?_⟩
            have e : (okBits (pnsOf l)).all id = okAllB 0 (pnsOf l) := (okAll_bits (pnsOf l) 0).symm
            rw [e]
            exact k H' (s1.trans hs)
          · obtain ⟨b, hb, rfl⟩ := bls_at hx
            have hi := (List.getElem?_eq_some_iff.mp hb).1
            exact ⟨_, _, SqL.of (hs _ _ w2), by rw [List.getElem?_map, List.getElem?_eq_getElem (show i < as.length by omega)]; rfl⟩
          · rintro z H2 ⟨d, c, rfl, ht, rfl, hc⟩
            obtain ⟨b, hb, rfl⟩ := bls_at hx
            have hi := (List.getElem?_eq_some_iff.mp hb).1
            have hc := hc _ (SqL.of (hs _ _ w2))
            have ha : as[i]? = some as[i] := List.getElem?_eq_getElem (show i < as.length by omega)
            rw [List.getElem?_map, ha] at hc
            have ec : V.ref as[i] = c := Option.some.inj hc
            subst ec
            have hx' : (pnsOf l)[i]? = some (pnsOf l)[i] := List.getElem?_eq_getElem (by omega)
            generalize (pnsOf l)[i] = x at hx'
            have g := w4 i _ x ha hx'
            have en : okNB i x = b := by
              unfold okBits at hb
              rw [zipIdx_map_getG, hx'] at hb
              exact Option.some.inj hb
            have s2 : Same H' (upd H' d (.tup [.int (i : Nat), .ref as[i]])) := Same.upd_new (Same.refl _) ht
            refine ⟨d, _, rfl, SqT.of upd_same, rfl, _, _, rfl, _, _, rfl, rfl, rfl, ?_⟩
            refine ⟨_, rfl, _, rfl, as[i], x, i, rfl, SqT.of (s2 _ _ (hs _ _ g.2)), ?_⟩
            rw [en]
            exact hQ _ s2
        · rw [decide_eq_false h2] at k ⊢
          exact k H (Same.refl _)
/-! ### matches_empty -/
abbrev sEmpty : Stmt := top 12
def spEmpty (K : PySem.W.Frag) : Sp := fun vs H Q _ => ∃ (p : Addr) (xs : List PN), vs = [.ref p] ∧ NodesAt K H p xs ∧ OkFrom 0 xs ∧ xs ≠ [] ∧ xs.length ≤ 32 ∧ ∀ H' : Hp, Same H H' → Q (.bl (emptyL xs)) H'
theorem scEmpty : FnScope ["nodes", "empty", "kind", "lo", "hi", "a", "b"] ["nodes"] (defScope sEmpty) := ⟨rfl, rfl, rfl, by decide +kernel, rfl, by decide +kernel, by decide +kernel⟩
theorem empties_snoc (xs : List PN) (x : PN) (t : List Bool) : empties (xs ++ [x]) t = empties xs t ++ [emptyOf (empties xs t) x] := by
  unfold empties; rw [List.foldl_append]; rfl
theorem ok_empty {f : Addr} {fd : FuncData} (F : Fun K "matches_empty" "matches_empty" sEmpty f fd) (C : CExpr mg) : FnOk P w K mg base CX0 1 f fd ["nodes"] (spEmpty K) := by
  refine F.ok scEmpty (fun vs H Q E h => ?_) (fun cdv A outer s H vs Q E hr h => ?_)
  · obtain ⟨p, xs, rfl, _⟩ := h
    rfl
  · obtain ⟨p, xs, rfl, hN, ok, hne, hx, k⟩ := h
    have nd := scEmpty.nd
    refine ⟨_, pss_cons (ps_set (i := 1) nd rfl (Or.inl rfl) (pe_lst pa_nil))
      (pss_cons (ps_for PassesOwn.never rfl (pi_list (pv 0)) (pg_names5 K rfl (i1 := 2) (i2 := 3) (i3 := 4) (i4 := 5) (i5 := 6) rfl nd rfl rfl rfl rfl rfl (Or.inl rfl) (Or.inl rfl) (Or.inl rfl) (Or.inl rfl) (Or.inl rfl) (Or.inl rfl) (Or.inl rfl) (Or.inl rfl) (Or.inl rfl) (Or.inl rfl))
        (pss_one (ps_if (pt_cmpR op_eqN (pv 2) (pe_const rfl C.c2) (nomark _))
          (pss_one (ps_expr (pe_bm PySem.F.plainAttrs_list PySem.F.slot_list_append PySem.F.type_list_append mt_append (pv 1) (pa_cons (pe_and (pe_ix ix_listN (pv 1) (pv 5) (fun _ _ => rfl)) (pe_one (pe_ix ix_listN (pv 1) (pv 6) (fun _ _ => rfl)))) pa_nil))))
        (pss_one (ps_if (pt_cmpR op_eqN (pv 2) (pe_const rfl C.c3) (nomark _))
          (pss_one (ps_expr (pe_bm PySem.F.plainAttrs_list PySem.F.slot_list_append PySem.F.type_list_append mt_append (pv 1) (pa_cons (pe_or (pe_ix ix_listN (pv 1) (pv 5) (fun _ _ => rfl)) (pe_one (pe_ix ix_listN (pv 1) (pv 6) (fun _ _ => rfl)))) pa_nil))))
          (pss_one (ps_expr (pe_bm PySem.F.plainAttrs_list PySem.F.slot_list_append PySem.F.type_list_append mt_append (pv 1) (pa_cons (pe_cmpR op_neN (pv 2) (pe_const rfl C.c1) (nomark _)) pa_nil)))))))))
      (pss_one (ps_ret (pe_ix ix_list (pv 1) (pe_un un_neg pe_int) (fun _ _ => rfl))))), ?_⟩
    refine ⟨Nat.zero_le _, fun r hr0 => ?_⟩
    obtain ⟨rs, hL, hl, hT⟩ := hN.ex
    have s1 : Same H (upd H r (.lst [])) := Same.upd_new (Same.refl _) hr0
    refine ⟨_, rfl, p, rfl, ⟨_, s1.seq hL⟩, for_list (K := K) (a := p) (xs := rs.map V.ref) (fun i σ H' => Same H H' ∧ i ≤ xs.length ∧ H' r = some (.lst ((empties (xs.take i) []).map V.bl)) ∧ ∃ v3 v4 v5 v6 v7 : Option V, σ = [some (.ref p), some (.ref r), v3, v4, v5, v6, v7])
      ⟨s1, Nat.zero_le _, upd_same, none, none, none, none, none, rfl⟩ (fun i σ H' _ ⟨s5, _⟩ => s5.seq hL) ?_ ?_⟩
    · rintro i y σ H' hi ⟨sH, hix, hR, v3, v4, v5, v6, v7, rfl⟩
      obtain ⟨c, hc, rfl⟩ : ∃ c, rs[i]? = some c ∧ y = V.ref c := by
        rw [List.getElem?_map] at hi
        cases e : rs[i]? with
        | none => rw [e] at hi; cases hi
        | some c => rw [e] at hi; exact ⟨c, rfl, (Option.some.inj hi).symm⟩
      have hlt : i < xs.length := by have := (List.getElem?_eq_some_iff.mp hc).1; omega
      have hx' : xs[i]? = some xs[i] := List.getElem?_eq_getElem hlt
      generalize xs[i] = x at hx'
      have hc2 := sH _ _ (hT i c x hc hx')
      have okx := okFrom_get ok hx'
      rw [Nat.zero_add] at okx
      have hlen : (empties (xs.take i) []).length = i := by rw [empties_len, List.length_take]; simp; omega
      have hz : ((empties (xs.take i) []).map V.bl).length < sizeLine := by rw [List.length_map, hlen]; exact small512 (by omega)
      have hfin : ∀ b : Bool, emptyOf (empties (xs.take i) []) x = b → Same H (upd H' r (.lst ((empties (xs.take i) []).map V.bl ++ [.bl b]))) ∧ i + 1 ≤ xs.length ∧ upd H' r (.lst ((empties (xs.take i) []).map V.bl ++ [.bl b])) r = some (.lst ((empties (xs.take (i + 1)) []).map V.bl)) := fun b hb => by
        refine ⟨Same.upd_new sH hr0, hlt, ?_⟩
        rw [upd_same, take_snoc hx', empties_snoc, hb, List.map_append]
        rfl
      refine ⟨c, _, rfl, SqT.of hc2, rfl, _, _, rfl, _, _, rfl, _, _, rfl, _, _, rfl, _, _, rfl, rfl, ?_⟩
      refine ⟨_, rfl, _, 2, rfl, rfl, _, rfl, ?_⟩
      by_cases k2 : x.kind = 2
      · rw [decide_eq_true k2]
        have hab : x.a < i ∧ x.b < i := by
          rcases okx with h | ⟨h, _⟩ | ⟨h, h2, h3⟩ | ⟨h, _⟩ | ⟨h, _⟩
          · omega
          · omega
          · exact ⟨h2, h3⟩
          · omega
          · omega
        have e : emptyOf (empties (xs.take i) []) x = ((empties (xs.take i) []).getD x.a false && (empties (xs.take i) []).getD x.b false) := by unfold emptyOf; rw [if_pos k2]
        refine ⟨_, rfl, .inl ⟨rfl, _, SqL.of hR⟩, _, rfl, _, rfl, r, _, _, _, rfl, rfl, SqL.of hR, bls_getD (by omega), _, rfl, ?_⟩
        cases e1 : (empties (xs.take i) []).getD x.a false with
        | true =>
          refine ⟨_, rfl, _, rfl, r, _, _, _, rfl, rfl, SqL.of hR, bls_getD (by omega), r, _, _, rfl, rfl, hR, hz, ?_⟩
          obtain ⟨g1, g2, g3⟩ := hfin _ (by rw [e, e1, Bool.true_and])
          exact ⟨g1, g2, g3, _, _, _, _, _, rfl⟩
        | false =>
          refine ⟨r, _, _, rfl, rfl, hR, hz, ?_⟩
          obtain ⟨g1, g2, g3⟩ := hfin false (by rw [e, e1, Bool.false_and])
          exact ⟨g1, g2, g3, _, _, _, _, _, rfl⟩
      · rw [decide_eq_false k2]
        refine ⟨_, rfl, _, 3, rfl, rfl, _, rfl, ?_⟩
        by_cases k3 : x.kind = 3
        · rw [decide_eq_true k3]
          have hab : x.a < i ∧ x.b < i := by
            rcases okx with h | ⟨h, _⟩ | ⟨h, _⟩ | ⟨h, h2, h3⟩ | ⟨h, _⟩
            · omega
            · omega
            · omega
            · exact ⟨h2, h3⟩
            · omega
          have e : emptyOf (empties (xs.take i) []) x = ((empties (xs.take i) []).getD x.a false || (empties (xs.take i) []).getD x.b false) := by unfold emptyOf; rw [if_neg k2, if_pos k3]
          refine ⟨_, rfl, .inl ⟨rfl, _, SqL.of hR⟩, _, rfl, _, rfl, r, _, _, _, rfl, rfl, SqL.of hR, bls_getD (by omega), _, rfl, ?_⟩
          cases e1 : (empties (xs.take i) []).getD x.a false with
          | true =>
            refine ⟨r, _, _, rfl, rfl, hR, hz, ?_⟩
            obtain ⟨g1, g2, g3⟩ := hfin true (by rw [e, e1, Bool.true_or])
            exact ⟨g1, g2, g3, _, _, _, _, _, rfl⟩
          | false =>
            refine ⟨_, rfl, _, rfl, r, _, _, _, rfl, rfl, SqL.of hR, bls_getD (by omega), r, _, _, rfl, rfl, hR, hz, ?_⟩
            obtain ⟨g1, g2, g3⟩ := hfin _ (by rw [e, e1, Bool.false_or])
            exact ⟨g1, g2, g3, _, _, _, _, _, rfl⟩
        · rw [decide_eq_false k3]
          have e : emptyOf (empties (xs.take i) []) x = !decide (x.kind = 1) := by unfold emptyOf; rw [if_neg k2, if_neg k3]
          refine ⟨_, rfl, .inl ⟨rfl, _, SqL.of hR⟩, _, rfl, _, 1, rfl, rfl, r, _, _, rfl, rfl, hR, hz, ?_⟩
          obtain ⟨g1, g2, g3⟩ := hfin _ e
          exact ⟨g1, g2, g3, _, _, _, _, _, rfl⟩
    · rintro σ H' ⟨sH, hix, hR, v3, v4, v5, v6, v7, rfl⟩
      rw [List.length_map, hl, List.take_length] at hR
      have hlen : (empties xs []).length = xs.length := by rw [empties_len]; simp
      have h0 : xs.length ≠ 0 := fun z => hne (List.eq_nil_of_length_eq_zero z)
      have e1 : ((empties xs []).map V.bl).getLast? = some (.bl (emptyL xs)) := by
        unfold emptyL
        rw [List.getLast?_map, List.getLastD_eq_getLast?]
        cases e : (empties xs []).getLast? with
        | none =>
          rw [List.getLast?_eq_none_iff] at e
          rw [e] at hlen
          exact absurd hlen.symm h0
        | some b => rfl
      refine ⟨_, rfl, _, rfl, r, _, _, _, rfl, rfl, SqL.of hR, atI_neg1 e1, ?_⟩
      exact k H' sH
end
end Elx

set_option Elab.async false
set_option linter.all false
set_option maxRecDepth 100000
set_option maxHeartbeats 2000000
namespace Elx
open PySem PySem.Spec PyProof.Rows L2
open PySem.W (Codec)
/-! ### what is asked of less is had of more -/
def MT (t : TT) : Prop := ∀ (σ : L2.St) (H : Hp) (Q1 Q2 : Bool → Hp → Prop), (∀ b H', Q1 b H' → Q2 b H') → t σ H Q1 → t σ H Q2
def ME (t : TE) : Prop := ∀ (σ : L2.St) (H : Hp) (Q1 Q2 : VK), (∀ b H', Q1 b H' → Q2 b H') → t σ H Q1 → t σ H Q2
def MA (t : TA) : Prop := ∀ (σ : L2.St) (H : Hp) (Q1 Q2 : List V → Hp → Prop), (∀ b H', Q1 b H' → Q2 b H') → t σ H Q1 → t σ H Q2
def MR (r : R2) : Prop := ∀ (x y : V) (H : Hp) (Q1 Q2 : VK), (∀ b H', Q1 b H' → Q2 b H') → r x y H Q1 → r x y H Q2
def MC (r : List V → Hp → VK → Prop) : Prop := ∀ (x : List V) (H : Hp) (Q1 Q2 : VK), (∀ b H', Q1 b H' → Q2 b H') → r x H Q1 → r x H Q2
theorem me_var {i : Nat} : ME (tVar i) := fun σ H Q1 Q2 hQ ⟨v, h, q⟩ => ⟨v, h, hQ _ _ q⟩
theorem me_c {v : V} : ME (tC v) := fun σ H Q1 Q2 hQ q => hQ _ _ q
theorem me_op {r : R2} {a b : TE} (hr : MR r) (ha : ME a) (hb : ME b) : ME (tOp r a b) := fun σ H Q1 Q2 hQ h => ha σ H _ _ (fun x H1 h1 => hb σ H1 _ _ (fun y H2 h2 => hr x y H2 _ _ hQ h2) h1) h
theorem mt_test {t : TE} (h : ME t) : MT (tTest t) := fun σ H Q1 Q2 hQ q => h σ H _ _ (fun x H1 ⟨k, e, z⟩ => ⟨k, e, hQ _ _ z⟩) q
theorem mt_and {t u : TT} (ht : MT t) (hu : MT u) : MT (tAnd t u) := fun σ H Q1 Q2 hQ q => ht σ H _ _ (fun c H1 z => by
  cases c with
  | true => exact iteT (hu σ H1 _ _ hQ ((if_pos rfl : (if true = true then u σ H1 Q1 else Q1 false H1) = _) ▸ z))
  | false => exact iteF (hQ _ _ ((if_neg Bool.false_ne_true : (if false = true then u σ H1 Q1 else Q1 false H1) = _) ▸ z))) q
theorem ma_nil : MA tNil := fun σ H Q1 Q2 hQ q => hQ _ _ q
theorem ma_cons {a : TE} {t : TA} (ha : ME a) (ht : MA t) : MA (tCons a t) := fun σ H Q1 Q2 hQ q => ha σ H _ _ (fun x H1 h1 => ht σ H1 _ _ (fun xs H2 h2 => hQ _ _ h2) h1) q
theorem me_cb {r : List V → Hp → VK → Prop} {t : TA} (hr : MC r) (ht : MA t) : ME (tCB r t) := fun σ H Q1 Q2 hQ q => ht σ H _ _ (fun vs H1 h1 => hr vs H1 _ _ hQ h1) q
theorem me_call {sp : Sp} {t : TA} (hs : ∀ vs H Q1 Q2, (∀ b H', Q1 b H' → Q2 b H') → sp vs H Q1 E0 → sp vs H Q2 E0) (ht : MA t) : ME (tCall sp [] E0 t) := fun σ H Q1 Q2 hQ q => ht σ H _ _ (fun vs H1 h1 => hs _ H1 _ _ hQ h1) q
theorem mr_ab {f : Nat → Nat → V} : MR (fun x y H Q => ∃ a b : Nat, x = vn a ∧ y = vn b ∧ Q (f a b) H) := fun x y H Q1 Q2 hQ ⟨a, b, h1, h2, q⟩ => ⟨a, b, h1, h2, hQ _ _ q⟩
theorem mr_sub : MR (fun x y H Q => ∃ a b : Nat, x = vn a ∧ y = vn b ∧ b ≤ a ∧ Q (vn (a - b)) H) := fun x y H Q1 Q2 hQ ⟨a, b, h1, h2, h3, q⟩ => ⟨a, b, h1, h2, h3, hQ _ _ q⟩
theorem mr_ix {K : PySem.W.Frag} : MR (fun x y H Q => ∃ (p : Addr) (xs : List V) (j : Nat) (v : V), x = .ref p ∧ y = vn j ∧ SqL K H p xs ∧ xs[j]? = some v ∧ Q v H) := fun x y H Q1 Q2 hQ ⟨p, xs, j, v, h1, h2, h3, h4, q⟩ => ⟨p, xs, j, v, h1, h2, h3, h4, hQ _ _ q⟩
theorem mc_len {K : PySem.W.Frag} : MC (fun xs H Q => ∃ p ys, xs = [.ref p] ∧ (SqL K H p ys ∨ SqT K H p ys) ∧ Q (.int ys.length) H) := fun x H Q1 Q2 hQ ⟨p, ys, h1, h2, q⟩ => ⟨p, ys, h1, h2, hQ _ _ q⟩
/-- the turns of enumerate over a list -/
theorem for_enum {K : PySem.W.Frag} {a : Addr} {xs : List V} {g : TG} {tb : TS} {D : Ends} {σ : L2.St} {H : Hp} (Pv : Nat → L2.St → Hp → Prop) (h0 : Pv 0 σ H) (hl : ∀ i σ H, i ≤ xs.length → Pv i σ H → SqL K H a xs)
    (hs : ∀ i x σ H T, xs[i]? = some x → Pv i σ H → H T = none → g (.ref T) σ (upd H T (.tup [.int (i : Nat), x])) fun σ2 H2 => tb { D with nx := Pv (i + 1), ct := Pv (i + 1), bk := D.nx } σ2 H2) (hd : ∀ σ H, Pv xs.length σ H → D.nx σ H) :
    ∃ W : Nat → Nat → L2.St → Hp → Prop, (∃ m, W 0 m σ H) ∧ ∀ i m σ H, W i m σ H →
      ((Ite K a).stop i H ∧ D.nx σ H) ∨ ((Ite K a).go i H ∧ ∃ N : L2.St → Hp → Prop, (∀ σ' H', N σ' H' → ∃ m', m' < m ∧ W (i + 1) m' σ' H') ∧ ∀ x H', (Ite K a).yld i H x H' → g x σ H' fun σ2 H2 => tb { D with nx := N, ct := N, bk := D.nx } σ2 H2) := by
  refine ⟨fun i m σ H => m = xs.length - i ∧ i ≤ xs.length ∧ Pv i σ H, ⟨xs.length, by simp, Nat.zero_le _, h0⟩, ?_⟩
  rintro i m σ H ⟨rfl, hi, p⟩
  by_cases hlt : i < xs.length
  · have hx : xs[i]? = some xs[i] := List.getElem?_eq_getElem hlt
    refine .inr ⟨⟨xs, _, hl i σ H hi p, hx⟩, Pv (i + 1), fun σ' H' p' => ⟨xs.length - (i + 1), by omega, rfl, hlt, p'⟩, fun x H' y => ?_⟩
    obtain ⟨T, x, rfl, hT, rfl, hy⟩ := y
    exact hs i x σ _ T (hy _ (hl i σ H hi p)) p hT
  · have e : i = xs.length := by omega
    subst e
    exact .inl ⟨⟨xs, hl _ σ H hi p, Nat.le_refl _⟩, hd σ H p⟩
/-- f below i, g from it on -/
def mixL (n : Nat) (f g : Nat → Nat) (i : Nat) : List Nat := (List.range n).map fun p => if p < i then f p else g p
theorem mix_len (n : Nat) (f g : Nat → Nat) (i : Nat) : (mixL n f g i).length = n := by unfold mixL; simp
theorem mix_get {n : Nat} {f g : Nat → Nat} {i p : Nat} (h : p < n) : (mixL n f g i)[p]? = some (if p < i then f p else g p) := by
  unfold mixL; rw [List.getElem?_map, List.getElem?_range h]; rfl
theorem mix_same {n : Nat} {f g : Nat → Nat} {i : Nat} (h : f i = g i) : mixL n f g (i + 1) = mixL n f g i := by
  unfold mixL
  apply List.map_congr_left
  intro p _
  by_cases e : p = i
  · subst e; rw [if_pos (by omega), if_neg (by omega), h]
  · by_cases e2 : p < i
    · rw [if_pos (by omega), if_pos e2]
    · rw [if_neg (by omega), if_neg e2]
theorem mix_set {n : Nat} {f g : Nat → Nat} {i : Nat} : (mixL n f g i).set i (f i) = mixL n f g (i + 1) := by
  apply List.ext_getElem?
  intro p
  by_cases hp : p < n
  · rw [mix_get hp, List.getElem?_set]
    by_cases e : i = p
    · subst e
      rw [if_pos rfl, if_pos (by rw [mix_len]; exact hp), if_pos (by omega)]
    · rw [if_neg e, mix_get hp]
      by_cases e2 : p < i
      · rw [if_pos e2, if_pos (show p < i + 1 by omega)]
      · rw [if_neg e2, if_neg (show ¬ p < i + 1 by omega)]
  · rw [List.getElem?_eq_none (by rw [List.length_set, mix_len]; omega), List.getElem?_eq_none (by rw [mix_len]; omega)]
theorem mix_zero (n : Nat) (f g : Nat → Nat) : mixL n f g 0 = (List.range n).map g := by
  unfold mixL
  apply List.map_congr_left
  intro p _
  rw [if_neg (by omega)]
theorem mix_all (n : Nat) (f g : Nat → Nat) : mixL n f g n = (List.range n).map f := by
  unfold mixL
  apply List.map_congr_left
  intro p hp
  rw [if_pos (List.mem_range.mp hp)]
def sizesL (rs : List (List PN)) (s : Lx.Bytes) : List Nat := (List.range s.length).map fun p => (bp (matchedAll rs s) p).1
def ownersL (rs : List (List PN)) (s : Lx.Bytes) : List Nat := (List.range s.length).map fun p => (bp (matchedAll rs s) p).2
theorem sizes_len (rs : List (List PN)) (s : Lx.Bytes) : (sizesL rs s).length = s.length := by unfold sizesL; simp
theorem owners_len (rs : List (List PN)) (s : Lx.Bytes) : (ownersL rs s).length = s.length := by unfold ownersL; simp
theorem range0 (n : Nat) : (List.range n).map (fun _ => 0) = List.replicate n 0 := by rw [List.map_const', List.length_range]
structure RulesAt (K : PySem.W.Frag) (H : Hp) (r : Addr) (rs : List (List PN)) : Prop where
  ex : ∃ qs : List Addr, SqL K H r (qs.map V.ref) ∧ qs.length = rs.length ∧ ∀ (i : Nat) (q : Addr) (xs : List PN), qs[i]? = some q → rs[i]? = some xs → NodesAt K H q xs
theorem RulesIn.at {K : PySem.W.Frag} {D : Addr → Prop} {H : Hp} {p : Addr} {rs : List (List PN)} (h : RulesIn D H p rs) : RulesAt K H p rs := by
  obtain ⟨h1, as, h2, h3, h4⟩ := h
  exact ⟨as, SqL.of h2, h3, fun i r x a b => NodesIn.at (h4 i r x a b)⟩
theorem RulesAt.same {K : PySem.W.Frag} {H H' : Hp} {p : Addr} {rs : List (List PN)} (h : RulesAt K H p rs) (s : Same H H') : RulesAt K H' p rs := by
  obtain ⟨qs, h1, h2, h3⟩ := h.ex
  exact ⟨qs, s.seq h1, h2, fun i q xs a b => (h3 i q xs a b).same s⟩
/-- scanning.py's number -/
structure CScan (mg : Str → Option Value) : Prop where
  no : ∃ t, mg "NO_RULE" = some (.int 0 t)
/-- what the rules must be -/
structure RulesFit (rs : List (List PN)) : Prop where
  ok : RulesOk rs
  few : ∀ xs ∈ rs, xs.length ≤ 32
  most : rs.length ≤ 8
section
variable {P : Program} {w : World} {K : PySem.W.Frag} {mg : Str → Option Value} {base : Heap}
/-! ### best_matches -/
abbrev sBest : Stmt := top 28
def spBest (K : PySem.W.Frag) : Sp := fun vs H Q _ => ∃ (a r : Addr) (s : Lx.Bytes) (rs : List (List PN)), vs = [.ref a, .ref r] ∧ SqL K H a (vns (bytesN s)) ∧ s.length ≤ 512 ∧ RulesAt K H r rs ∧ RulesFit rs ∧
  ∀ (t p q : Addr) (H' : Hp), Same H H' → H' t = some (.tup [.ref p, .ref q]) → H' p = some (.lst (vns (sizesL rs s))) → H' q = some (.lst (vns (ownersL rs s))) → Q (.ref t) H'
theorem scBest : FnScope ["text", "rules", "sizes", "owners", "number", "nodes", "matched", "place"] ["text", "rules"] (defScope sBest) := ⟨rfl, rfl, rfl, by decide +kernel, rfl, by decide +kernel, by decide +kernel⟩
theorem ok_best {f : Addr} {fd : FuncData} (F : Fun K "best_matches" "best_matches" sBest f fd) (T : Own mg) (C : CScan mg) (C1 : Callee P w K mg base 4 "longest_matches" ["nodes", "text"] (spLms K)) : FnOk P w K mg base CX0 5 f fd ["text", "rules"] (spBest K) := by
  refine F.ok scBest (fun vs H Q E h => ?_) (fun cdv A outer s H vs Q E hr h => ?_)
  · obtain ⟨a, r, t, rs, rfl, _⟩ := h
    rfl
  · obtain ⟨a, r, t, rs, rfl, hS, hn, hR, fit, k⟩ := h
    have nd := scBest.nd
    refine ⟨_, pss_cons (ps_set (i := 2) nd rfl (Or.inl rfl) (pe_op op_rep (pe_lst (pa_cons pe_int pa_nil)) (pe_callB call_len_seq (by rfl) T.len PySem.boot_len (pa_cons (pv 0) pa_nil))))
      (pss_cons (ps_set (i := 3) nd rfl (Or.inl rfl) (pe_op op_rep (pe_lst (pa_cons (pe_const rfl C.no) pa_nil)) (pe_callB call_len_seq (by rfl) T.len PySem.boot_len (pa_cons (pv 0) pa_nil))))
      (pss_cons (ps_for PassesOwn.never rfl (pi_enum rfl T.enum (pa_cons (pv 1) pa_nil)) (pg_names2 K rfl (i := 4) (j := 5) rfl nd rfl rfl (Or.inl rfl) (Or.inl rfl) (Or.inl rfl) (Or.inl rfl))
        (pss_cons (ps_set (i := 6) nd rfl (Or.inl rfl) (pe_fn C1 hr rfl (pa_cons (pv 5) (pa_cons (pv 0) pa_nil))))
        (pss_one (ps_for PassesOwn.never rfl (pi_range1 rfl T.range (pa_cons (pe_callB call_len_seq (by rfl) T.len PySem.boot_len (pa_cons (pv 0) pa_nil)) pa_nil)) (pg_name (i := 7) nd rfl (Or.inl rfl))
          (pss_one (ps_if (pt_cmpR op_gtN (pe_ix ix_listN (pv 6) (pv 7) (fun _ _ => rfl)) (pe_ix ix_listN (pv 2) (pv 7) (fun _ _ => rfl)) (nomark _))
            (pss_cons (ps_asg (pe_ix ix_listN (pv 6) (pv 7) (fun _ _ => rfl)) (pg_sub (pv 2) (pv 7) set_list))
            (pss_one (ps_asg (pe_op op_addN (pv 4) pe_int) (pg_sub (pv 3) (pv 7) set_list)))) pss_nil))))))
      (pss_one (ps_ret (pe_tup (pa_cons (pv 2) (pa_cons (pv 3) pa_nil))))))), ?_⟩
    have hbn : (bytesN t).length = t.length := bytesN_len t
    -- sizes
    refine ⟨Nat.succ_le_of_lt (Nat.two_pow_pos 24), fun q0 hq0 => ?_⟩
    have s1 : Same H (upd H q0 (.lst [V.int 0])) := Same.upd_new (Same.refl _) hq0
    refine ⟨_, rfl, a, _, rfl, .inl (s1.seq hS), ?_⟩
    rw [vns_len, hbn]
    refine ⟨q0, (t.length : Int), _, rfl, rfl, upd_same, by omega, by omega, by show 1 * t.length ≤ 2 ^ 24; omega, fun p hp => ?_⟩
    rw [show (t.length : Int).toNat = t.length from rfl, flat1]
    have hp0 : H p = none := s1.free hp
    have s2 : Same H (upd (upd H q0 (.lst [V.int 0])) p (.lst (vns (List.replicate t.length 0)))) := Same.upd_new s1 hp0
    have e2 : (upd (upd H q0 (.lst [V.int 0])) p (.lst (vns (List.replicate t.length 0)))) p = some (.lst (vns (List.replicate t.length 0))) := upd_same
    generalize upd (upd H q0 (.lst [V.int 0])) p (.lst (vns (List.replicate t.length 0))) = H2 at s2 e2
    -- owners
    refine ⟨Nat.succ_le_of_lt (Nat.two_pow_pos 24), fun q1 hq1 => ?_⟩
    have s3 : Same H2 (upd H2 q1 (.lst [V.int 0])) := Same.upd_new (Same.refl _) hq1
    refine ⟨_, rfl, a, _, rfl, .inl ((s2.trans s3).seq hS), ?_⟩
    rw [vns_len, hbn]
    refine ⟨q1, (t.length : Int), _, rfl, rfl, upd_same, by omega, by omega, by show 1 * t.length ≤ 2 ^ 24; omega, fun q hq => ?_⟩
    rw [show (t.length : Int).toNat = t.length from rfl, flat1]
    have hpq : p ≠ q := ne_of_none (s3 _ _ e2) hq
    have hq0 : H q = none := (s2.trans s3).free hq
    have s4 : Same H (upd (upd H2 q1 (.lst [V.int 0])) q (.lst (vns (List.replicate t.length 0)))) := Same.upd_new (s2.trans s3) hq0
    have e4 : (upd (upd H2 q1 (.lst [V.int 0])) q (.lst (vns (List.replicate t.length 0)))) q = some (.lst (vns (List.replicate t.length 0))) := upd_same
    have e3 : (upd (upd H2 q1 (.lst [V.int 0])) q (.lst (vns (List.replicate t.length 0)))) p = some (.lst (vns (List.replicate t.length 0))) := by rw [upd_ne hpq]; exact s3 _ _ e2
    generalize upd (upd H2 q1 (.lst [V.int 0])) q (.lst (vns (List.replicate t.length 0))) = H3 at s4 e4 e3
    -- for number, nodes in enumerate(rules)
    obtain ⟨qs, hQ, hql, hqn⟩ := hR.ex
    have hml : (matchedAll rs t).length = rs.length := by unfold matchedAll; rw [List.length_map]
    refine ⟨_, rfl, r, _, rfl, s4.seq hQ, for_enum (K := K) (a := r) (xs := qs.map V.ref) (fun j σ H' => Same H H' ∧ (∃ v4 v5 v6 v7 : Option V, σ = [some (.ref a), some (.ref r), some (.ref p), some (.ref q), v4, v5, v6, v7]) ∧
        H' p = some (.lst (vns ((List.range t.length).map fun x => (bp ((matchedAll rs t).take j) x).1))) ∧ H' q = some (.lst (vns ((List.range t.length).map fun x => (bp ((matchedAll rs t).take j) x).2))))
      ⟨s4, ⟨none, none, none, none, rfl⟩, ?_, ?_⟩ (fun j σ H' _ h => h.1.seq hQ) ?_ ?_⟩
    · rw [e3, ← range0]; rfl
    · rw [e4, ← range0]; rfl
    · rintro j y σ H' Tt hj ⟨sH, ⟨v4, v5, v6, v7, rfl⟩, hP, hO⟩ hT
      obtain ⟨c, hc, rfl⟩ : ∃ c, qs[j]? = some c ∧ y = V.ref c := by
        rw [List.getElem?_map] at hj
        cases e : qs[j]? with
        | none => rw [e] at hj; cases hj
        | some c => rw [e] at hj; exact ⟨c, rfl, (Option.some.inj hj).symm⟩
      have hlt : j < rs.length := by have := (List.getElem?_eq_some_iff.mp hc).1; omega
      have hx : rs[j]? = some rs[j] := List.getElem?_eq_getElem hlt
      generalize rs[j] = xs at hx
      have hmem : xs ∈ rs := List.mem_of_getElem? hx
      obtain ⟨ok1, ok2⟩ := fit.ok xs hmem
      have s5 : Same H' (upd H' Tt (.tup [.int (j : Nat), .ref c])) := Same.upd_new (Same.refl _) hT
      refine ⟨Tt, _, rfl, SqT.of upd_same, rfl, _, _, rfl, _, _, rfl, rfl, ?_⟩
      refine ⟨_, rfl, _, rfl, c, a, xs, t, rfl, (hqn j c xs hc hx).same (sH.trans s5), (sH.trans s5).seq hS, ok1, ok2, fit.few xs hmem, hn, fun m H4 hm0 s6 hm => ?_⟩
      have s7 : Same H H4 := (sH.trans s5).trans s6
      have hP4 := s6 _ _ (s5 _ _ hP)
      have hO4 := s6 _ _ (s5 _ _ hO)
      have hmp : m ≠ p := Ne.symm (ne_of_none (s5 _ _ hP) hm0)
      have hmq : m ≠ q := Ne.symm (ne_of_none (s5 _ _ hO) hm0)
      have hmt : (matchedAll rs t)[j]? = some (matchedL (bytesN t) xs) := by unfold matchedAll; rw [List.getElem?_map, hx]; rfl
      have htk : ((matchedAll rs t).take j).length = j := by rw [List.length_take, hml]; omega
      have hbp : ∀ x, bp ((matchedAll rs t).take (j + 1)) x = bestStep ((matchedL (bytesN t) xs).getD x 0) j (bp ((matchedAll rs t).take j) x) := fun x => by rw [take_snoc hmt, bp_snoc, htk]
      have hml2 : (matchedL (bytesN t) xs).length = t.length + 1 := matched_len ok1 ok2
      -- for place in range(len(text))
      refine ⟨_, rfl, a, _, rfl, .inl (s7.seq hS), _, rfl, ?_⟩
      rw [vns_len, hbn]
      refine ⟨by omega, by omega, ?_⟩
      rw [show (t.length : Int).toNat = t.length from rfl]
      refine for_range (lo := 0) (n := t.length) (fun i σ H' => Same H H' ∧ H' m = some (.lst (vns (matchedL (bytesN t) xs))) ∧ (∃ v7 : Option V, σ = [some (.ref a), some (.ref r), some (.ref p), some (.ref q), some (vn j), some (.ref c), some (.ref m), v7]) ∧
        H' p = some (.lst (vns (mixL t.length (fun x => (bp ((matchedAll rs t).take (j + 1)) x).1) (fun x => (bp ((matchedAll rs t).take j) x).1) i))) ∧ H' q = some (.lst (vns (mixL t.length (fun x => (bp ((matchedAll rs t).take (j + 1)) x).2) (fun x => (bp ((matchedAll rs t).take j) x).2) i))))
        ⟨s7, hm, ⟨_, rfl⟩, by rw [mix_zero]; exact hP4, by rw [mix_zero]; exact hO4⟩ ?_ ?_
      · rintro i σ H5 hi ⟨s8, hm5, ⟨v7, rfl⟩, hP5, hO5⟩
        have e0 : V.int (0 + (i : Int)) = vn i := by rw [Int.zero_add]
        rw [e0]
        have gm : (vns (matchedL (bytesN t) xs))[i]? = some (vn ((matchedL (bytesN t) xs).getD i 0)) := vns_getD (by omega)
        have gs := vns_get (mix_get (f := fun x => (bp ((matchedAll rs t).take (j + 1)) x).1) (g := fun x => (bp ((matchedAll rs t).take j) x).1) (i := i) hi)
        rw [if_neg (Nat.lt_irrefl _)] at gs
        refine ⟨_, rfl, _, rfl, m, _, i, _, rfl, rfl, SqL.of hm5, gm, _, rfl, _, rfl, p, _, i, _, rfl, rfl, SqL.of hP5, gs, _, _, rfl, rfl, _, rfl, ?_⟩
        have hst := hbp i
        unfold bestStep at hst
        by_cases hg : (bp ((matchedAll rs t).take j) i).1 < (matchedL (bytesN t) xs).getD i 0
        · rw [decide_eq_true hg]
          rw [if_pos hg] at hst
          refine ⟨_, rfl, _, rfl, m, _, i, _, rfl, rfl, SqL.of hm5, gm, _, rfl, _, rfl, p, _, _, i, rfl, rfl, hP5, ?_, ?_⟩
          · unfold ixN
            rw [if_pos (Int.natCast_nonneg _), if_pos (by rw [vns_len, mix_len]; omega)]
            rfl
          · refine ⟨_, rfl, j, 1, rfl, rfl, _, rfl, _, rfl, q, _, _, i, rfl, rfl, by rw [upd_ne (Ne.symm hpq)]; exact hO5, ?_, ?_⟩
            · unfold ixN
              rw [if_pos (Int.natCast_nonneg _), if_pos (by rw [vns_len, mix_len]; omega)]
              rfl
            · refine ⟨Same.upd_new (Same.upd_new s8 hp0) hq0, by rw [upd_ne hmq, upd_ne hmp]; exact hm5, ⟨_, rfl⟩, ?_, ?_⟩
              · rw [upd_ne hpq, upd_same, vns_set]
                congr 3
                have e7 : (matchedL (bytesN t) xs).getD i 0 = (bp ((matchedAll rs t).take (j + 1)) i).1 := by rw [hst]
                rw [e7]
                exact mix_set (f := fun x => (bp ((matchedAll rs t).take (j + 1)) x).1)
              · rw [upd_same, vns_set]
                congr 3
                have e7 : j + 1 = (bp ((matchedAll rs t).take (j + 1)) i).2 := by rw [hst]
                rw [show (mixL t.length (fun x => (bp ((matchedAll rs t).take (j + 1)) x).2) (fun x => (bp ((matchedAll rs t).take j) x).2) i).set i (j + 1) = (mixL t.length (fun x => (bp ((matchedAll rs t).take (j + 1)) x).2) (fun x => (bp ((matchedAll rs t).take j) x).2) i).set i ((bp ((matchedAll rs t).take (j + 1)) i).2) from by rw [← e7]]
                exact mix_set (f := fun x => (bp ((matchedAll rs t).take (j + 1)) x).2)
        · rw [decide_eq_false hg]
          rw [if_neg hg] at hst
          refine ⟨s8, hm5, ⟨_, rfl⟩, ?_, ?_⟩
          · rw [mix_same (by show (bp _ i).1 = (bp _ i).1; rw [hst])]; exact hP5
          · rw [mix_same (by show (bp _ i).2 = (bp _ i).2; rw [hst])]; exact hO5
      · rintro σ H5 ⟨s8, hm5, ⟨v7, rfl⟩, hP5, hO5⟩
        rw [mix_all] at hP5 hO5
        exact ⟨s8, ⟨_, _, _, _, rfl⟩, hP5, hO5⟩
    · rintro σ H' ⟨sH, ⟨v4, v5, v6, v7, rfl⟩, hP, hO⟩
      rw [List.length_map, hql, ← hml, List.take_length] at hP hO
      refine ⟨_, rfl, _, rfl, (by show 2 ≤ sizeLine; decide), fun tt ht => ?_⟩
      have s9 : Same H' (upd H' tt (.tup [.ref p, .ref q])) := Same.upd_new (Same.refl _) ht
      exact k tt p q _ (sH.trans s9) upd_same (s9 _ _ hP) (s9 _ _ hO)
/-! ### end_of_unmatched -/
abbrev sEnd : Stmt := top 29
/-- the next place from i on where an owner stands, at most f places on -/
def nextOwner (l : List Nat) : Nat → Nat → Nat
  | 0, i => i
  | f + 1, i => if i < l.length ∧ l.getD i 0 = 0 then nextOwner l f (i + 1) else i
def spEnd (K : PySem.W.Frag) : Sp := fun vs H Q _ => ∃ (a : Addr) (l : List Nat) (b : Nat), vs = [.ref a, vn b] ∧ SqL K H a (vns l) ∧ b ≤ l.length ∧ ∀ e : Nat, b ≤ e → e ≤ l.length → (∀ i, b ≤ i → i < e → l.getD i 0 = 0) → (e = l.length ∨ l.getD e 0 ≠ 0) → Q (vn e) H
theorem scEnd : FnScope ["owners", "begin", "end"] ["owners", "begin"] (defScope sEnd) := ⟨rfl, rfl, rfl, by decide +kernel, rfl, by decide +kernel, by decide +kernel⟩
theorem ok_end {f : Addr} {fd : FuncData} (F : Fun K "end_of_unmatched" "end_of_unmatched" sEnd f fd) (T : Own mg) (C : CScan mg) : FnOk P w K mg base CX0 1 f fd ["owners", "begin"] (spEnd K) := by
  refine F.ok scEnd (fun vs H Q E h => ?_) (fun cdv A outer s H vs Q E hr h => ?_)
  · obtain ⟨a, l, b, rfl, _⟩ := h
    rfl
  · obtain ⟨a, l, b, rfl, hS, hb, k⟩ := h
    have nd := scEnd.nd
    refine ⟨_, pss_cons (ps_set (i := 2) nd rfl (Or.inl rfl) (pv 1))
      (pss_cons (ps_while PassesOwn.never (PW.pt (pw_and (pt_cmpR op_ltN (pv 2) (pe_callB call_len_seq (by rfl) T.len PySem.boot_len (pa_cons (pv 0) pa_nil)) (nomark _)) (pw_and1 (pt_cmpR op_eqN (pe_ix ix_listN (pv 0) (pv 2) (fun _ _ => rfl)) (pe_const rfl C.no) (nomark _)))))
        (pss_one (ps_set (i := 2) nd rfl (Or.inl rfl) (pe_op op_addN (pv 2) pe_int))))
      (pss_one (ps_ret (pv 2)))), ?_⟩
    refine ⟨_, rfl, ?_⟩
    refine while_by (fun σ H' => H' = H ∧ ∃ e : Nat, σ = [some (.ref a), some (vn b), some (vn e)] ∧ b ≤ e ∧ e ≤ l.length ∧ ∀ i, b ≤ i → i < e → l.getD i 0 = 0)
      (fun (σ : L2.St) (_ : Hp) => match σ[2]? with | some (some (V.int i)) => l.length - i.toNat | _ => 0) ⟨rfl, b, rfl, Nat.le_refl _, hb, fun i h1 h2 => by omega⟩ ?_ ?_
    · rintro σ H' ⟨rfl, e, rfl, h1, h2, h3⟩
      refine ⟨_, rfl, _, rfl, a, _, rfl, .inl hS, _, _, rfl, rfl, _, rfl, ?_⟩
      rw [vns_len]
      by_cases hl : e < l.length
      · rw [decide_eq_true hl]
        refine ⟨_, rfl, _, rfl, a, _, e, _, rfl, rfl, hS, vns_getD hl, _, 0, rfl, rfl, _, rfl, ?_⟩
        by_cases h0 : l.getD e 0 = 0
        · rw [decide_eq_true h0]
          refine ⟨_, rfl, e, 1, rfl, rfl, ?_⟩
          refine ⟨⟨rfl, e + 1, rfl, by omega, by omega, fun i a1 a2 => ?_⟩, ?_⟩
          · by_cases hi : i = e
            · subst hi; exact h0
            · exact h3 i a1 (by omega)
          · show l.length - ((e + 1 : Nat) : Int).toNat < l.length - (e : Int).toNat
            omega
        · rw [decide_eq_false h0]
          exact ⟨_, rfl, k e h1 h2 h3 (.inr h0)⟩
      · rw [decide_eq_false hl]
        exact ⟨_, rfl, k e h1 h2 h3 (.inl (by omega))⟩
    · exact mt_and (mt_test (me_op mr_ab me_var (me_cb mc_len (ma_cons me_var ma_nil)))) (mt_test (me_op mr_ab (me_op mr_ix me_var me_var) me_c))
end
end Elx

set_option Elab.async false
set_option linter.all false
set_option maxRecDepth 100000
set_option maxHeartbeats 2000000
namespace Elx
open PySem PySem.Spec PyProof.Rows L2
open PySem.W (Codec)
/-! ### tokens with where they begin -/
def begins : Nat → List Lx.Tok → List (Nat × Lx.Tok)
  | _, [] => []
  | b, t :: r => (b, t) :: begins (b + t.bytes.length) r
theorem begins_len : ∀ (b : Nat) (ts : List Lx.Tok), (begins b ts).length = ts.length
  | _, [] => rfl
  | b, t :: r => by show (begins _ r).length + 1 = r.length + 1; rw [begins_len]
theorem begins_snoc : ∀ (b : Nat) (ts : List Lx.Tok) (t : Lx.Tok), begins b (ts ++ [t]) = begins b ts ++ [(b + (ts.map fun (t : Lx.Tok) => t.bytes.length).sum, t)]
  | b, [], t => by show [(b, t)] = [(b + 0, t)]; rfl
  | b, x :: r, t => by
    show (b, x) :: begins _ (r ++ [t]) = (b, x) :: (begins _ r ++ _)
    rw [begins_snoc]
    congr 3
    rw [List.map_cons, List.sum_cons, Nat.add_assoc]
theorem startOf_cons (x : Lx.Tok) (r : List Lx.Tok) (i : Nat) : Lx.startOf (x :: r) (i + 1) = x.bytes.length + Lx.startOf r i := by
  unfold Lx.startOf
  rw [List.take_succ_cons, List.map_cons, List.sum_cons]
theorem begins_get : ∀ (ts : List Lx.Tok) (b i : Nat), (begins b ts)[i]? = ts[i]?.map fun t => (b + Lx.startOf ts i, t)
  | [], _, _ => by simp [begins]
  | x :: r, b, 0 => rfl
  | x :: r, b, i + 1 => by
    show (begins _ r)[i]? = (r[i]?).map _
    rw [begins_get r]
    congr 1
    funext t
    rw [startOf_cons, Nat.add_assoc]
theorem begins_at {ts : List Lx.Tok} {i : Nat} {t : Lx.Tok} (h : ts[i]? = some t) : (begins 0 ts)[i]? = some (Lx.startOf ts i, t) := by
  rw [begins_get, h, Nat.zero_add]
  rfl
/-! ### the class Token -/
def tf (b : Nat) (q : Addr) (r : Nat) : List (Str × V) := putF "rule" (vn r) (putF "piece" (.ref q) (putF "begin" (vn b) []))
theorem tf_rule (b : Nat) (q : Addr) (r : Nat) : (tf b q r).lookup ("rule" : Str) = some (vn r) := by unfold tf; rw [lookup_putF, if_pos rfl]
theorem tf_piece (b : Nat) (q : Addr) (r : Nat) : (tf b q r).lookup ("piece" : Str) = some (.ref q) := by unfold tf; rw [lookup_putF, if_neg (by decide +kernel), lookup_putF, if_pos rfl]
theorem tf_begin (b : Nat) (q : Addr) (r : Nat) : (tf b q r).lookup ("begin" : Str) = some (vn b) := by unfold tf; rw [lookup_putF, if_neg (by decide +kernel), lookup_putF, if_neg (by decide +kernel), lookup_putF, if_pos rfl]
structure TokT (K : PySem.W.Frag) (C : Addr) : Prop where
  cl : Cls K C
  nb : NoAttr K C "begin"
  np : NoAttr K C "piece"
  nr : NoAttr K C "rule"
def TokAt (C : Addr) : Item (Nat × Lx.Tok) := fun D H a x => ¬ D a ∧ ∃ dx q, H a = some (.ins C dx (tf x.1 q (Lx.ruleNo x.2))) ∧ ¬ D q ∧ H q = some (.lst (vns (bytesN x.2.bytes)))
theorem tokAt_ok (C : Addr) : ItOk (TokAt C) := by
  refine ⟨?_, ?_, fun h => h.1⟩
  · rintro D H H' a x ⟨h1, dx, q, h2, h3, h4⟩ k
    exact ⟨h1, dx, q, k _ _ h2 h1, h3, k _ _ h4 h3⟩
  · rintro D D' H a x ⟨h1, dx, q, h2, h3, h4⟩ k
    exact ⟨fun z => h1 (k _ z), dx, q, h2, fun z => h3 (k _ z), h4⟩
abbrev TokensIn (C : Addr) : Item (List (Nat × Lx.Tok)) := RowAt (TokAt C)
theorem tokensIn_ok (C : Addr) : ItOk (TokensIn C) := RowAt.ok (tokAt_ok C)
theorem ruleNo_inj {x y : Lx.Tok} : Lx.ruleNo x = Lx.ruleNo y ↔ x.rule = y.rule := by
  unfold Lx.ruleNo
  cases x.rule with
  | none => cases y.rule <;> simp
  | some a => cases y.rule <;> simp
theorem bytesN_inj {x y : Lx.Bytes} : bytesN x = bytesN y ↔ x = y := by
  constructor
  · intro h
    unfold bytesN at h
    exact List.map_inj_right (fun a b e => UInt8.toNat_inj.mp e) |>.mp h
  · intro h; rw [h]
theorem tok_eq {x y : Lx.Tok} : x = y ↔ Lx.ruleNo x = Lx.ruleNo y ∧ bytesN x.bytes = bytesN y.bytes := by
  rw [ruleNo_inj, bytesN_inj]
  cases x; cases y; simp
def natD (l : List Nat) : PyData := .list (l.map fun (n : Nat) => PyData.int (n : Int))
theorem natD_ints (l : List Nat) : natD l = .list ((l.map fun (n : Nat) => (n : Int)).map PyData.int) := by unfold natD; rw [List.map_map]; rfl
theorem natD_shaped (l : List Nat) : SeqAt.shaped (natD l) = true := by rw [natD_ints]; exact PySem.W.ke_shaped_ints _
theorem natD_all {K : PySem.W.Frag} {H : Hp} : ∀ l : List Nat, DpAll K H (vns l) (l.map fun (n : Nat) => PyData.int (n : Int))
  | [] => .nil
  | n :: r => .cons (.int _) (natD_all r)
theorem natD_eqvAll : ∀ (l m : List Nat), PyData.eqvAll (l.map fun (n : Nat) => PyData.int (n : Int)) (m.map fun (n : Nat) => PyData.int (n : Int)) = decide (l = m)
  | [], [] => by simp [PyData.eqvAll]
  | [], _ :: _ => by simp [PyData.eqvAll]
  | _ :: _, [] => by simp [PyData.eqvAll]
  | a :: l, b :: m => by
    show (((a : Int) == (b : Int)) && PyData.eqvAll (l.map fun (n : Nat) => PyData.int (n : Int)) (m.map fun (n : Nat) => PyData.int (n : Int))) = _
    rw [natD_eqvAll l m]
    by_cases h : a = b
    · subst h; simp
    · have : ((a : Int) == (b : Int)) = false := by rw [beq_eq_false_iff_ne]; omega
      rw [this]; simp [h]
theorem natD_eqv (l m : List Nat) : PyData.eqv (natD l) (natD m) = decide (l = m) := natD_eqvAll l m
def MakerTok (P : Program) (w : World) (K : PySem.W.Frag) (mg : Str → Option Value) (base : Heap) (C : Addr) (sp : Sp) : Prop :=
  ∃ f fd, FnOk P w K mg base CX0 1 f fd ["self", "begin", "piece", "rule"] sp ∧ mg "Token" = some (.ref C) ∧ Mk K C f ∧ Binds K fd ["self", "begin", "piece", "rule"] []
section
variable {P : Program} {w : World} {K : PySem.W.Frag} {mg : Str → Option Value} {base : Heap}
abbrev sTokInit : Stmt := inClass (top 25) 0
def spTokInit (C : Addr) : Sp := fun vs H Q _ => ∃ (p dx q : Addr) (b r : Nat), vs = [.ref p, vn b, .ref q, vn r] ∧ H p = some (.ins C dx []) ∧ Q .non (upd H p (.ins C dx (tf b q r)))
theorem scTokInit : FnScope ["self", "begin", "piece", "rule"] ["self", "begin", "piece", "rule"] (defScope sTokInit) := ⟨rfl, rfl, rfl, by decide +kernel, rfl, by decide +kernel, by decide +kernel⟩
theorem ok_tokInit {f C : Addr} {fd : FuncData} (F : Fun K "__init__" "Token.__init__" sTokInit f fd) (T : TokT K C) : FnOk P w K mg base CX0 1 f fd ["self", "begin", "piece", "rule"] (spTokInit C) := by
  refine F.ok scTokInit (fun vs H Q E h => ?_) (fun cdv A outer s H vs Q E hr h => ?_)
  · obtain ⟨p, dx, q, b, r, rfl, _⟩ := h
    rfl
  · obtain ⟨p, dx, q, b, r, rfl, hp, k⟩ := h
    refine ⟨_, pss_cons (ps_fld (pv 0) (pv 1) rfl) (pss_cons (ps_fld (pv 0) (pv 2) rfl) (pss_one (ps_fld (pv 0) (pv 3) rfl))), ?_⟩
    refine ⟨_, rfl, _, rfl, p, C, dx, _, rfl, hp, T.cl, T.nb, (by show 0 < 1000; decide), ?_⟩
    refine ⟨_, rfl, _, rfl, p, C, dx, _, rfl, upd_same, T.cl, T.np, (by show 1 < 1000; decide), ?_⟩
    refine ⟨_, rfl, _, rfl, p, C, dx, _, rfl, upd_same, T.cl, T.nr, (by show 2 < 1000; decide), ?_⟩
    rw [upd_upd, upd_upd]
    exact k
/-! ### same -/
abbrev sSame : Stmt := top 26
def spSame (C : Addr) : Sp := fun vs H Q _ => ∃ (a b : Addr) (D D' : Addr → Prop) (x y : Nat × Lx.Tok), vs = [.ref a, .ref b] ∧ TokAt C D H a x ∧ TokAt C D' H b y ∧ Q (.bl (decide (x.2 = y.2))) H
theorem scSame : FnScope ["one", "other"] ["one", "other"] (defScope sSame) := ⟨rfl, rfl, rfl, by decide +kernel, rfl, by decide +kernel, by decide +kernel⟩
theorem ok_same {f C : Addr} {fd : FuncData} (F : Fun K "same" "same" sSame f fd) (T : TokT K C) : FnOk P w K mg base CX0 1 f fd ["one", "other"] (spSame C) := by
  refine F.ok scSame (fun vs H Q E h => ?_) (fun cdv A outer s H vs Q E hr h => ?_)
  · obtain ⟨a, b, D, D', x, y, rfl, _⟩ := h
    rfl
  · obtain ⟨a, b, D, D', x, y, rfl, ⟨h1, dx, q, h2, h3, h4⟩, ⟨g1, dy, p, g2, g3, g4⟩, k⟩ := h
    refine ⟨_, pss_one (ps_ret (pe_and (pe_cmpR op_eqN (pe_fld (pv 0) rfl) (pe_fld (pv 1) rfl) (nomark _)) (pe_one (pe_cmpR (op_eqD hr.units) (pe_fld (pv 0) rfl) (pe_fld (pv 1) rfl) (nomark _))))), ?_⟩
    refine ⟨_, rfl, a, C, dx, _, _, rfl, h2, T.cl, T.nr, tf_rule _ _ _, _, rfl, b, C, dy, _, _, rfl, g2, T.cl, T.nr, tf_rule _ _ _, _, _, rfl, rfl, _, rfl, ?_⟩
    by_cases e : Lx.ruleNo x.2 = Lx.ruleNo y.2
    · rw [decide_eq_true e]
      refine ⟨_, rfl, a, C, dx, _, _, rfl, h2, T.cl, T.np, tf_piece _ _ _, _, rfl, b, C, dy, _, _, rfl, g2, T.cl, T.np, tf_piece _ _ _, natD (bytesN x.2.bytes), natD (bytesN y.2.bytes), .lst (SqL.of h4) (natD_all _), .lst (SqL.of g4) (natD_all _), natD_shaped _, natD_shaped _, ?_⟩
      rw [natD_eqv, dec_congr (show bytesN x.2.bytes = bytesN y.2.bytes ↔ x.2 = y.2 from ⟨fun z => tok_eq.mpr ⟨e, z⟩, fun z => (tok_eq.mp z).2⟩)]
      exact k
    · rw [decide_eq_false e]
      rw [decide_eq_false (fun z => e (tok_eq.mp z).1)] at k
      exact k
end
end Elx

set_option Elab.async false
set_option linter.all false
set_option maxRecDepth 100000
set_option maxHeartbeats 2000000
namespace Elx
open PySem PySem.Spec PyProof.Rows L2
open PySem.W (Codec)
theorem bytesN_cut (s : Lx.Bytes) (b e : Nat) : ((vns (bytesN s)).drop b).take (e - b) = vns (bytesN (cut s b e)) := by
  rw [vns_drop, vns_take, cut_eq]
  unfold bytesN
  rw [List.map_take, List.map_drop]
theorem range_getD {n : Nat} {f : Nat → Nat} {i : Nat} (h : i < n) : ((List.range n).map f).getD i 0 = f i := by
  rw [List.getD_eq_getElem?_getD, List.getElem?_map, List.getElem?_range h]; rfl
section
variable {P : Program} {w : World} {K : PySem.W.Frag} {mg : Str → Option Value} {base : Heap}
/-! ### tokens_of -/
abbrev sToks : Stmt := top 27
def spToks (K : PySem.W.Frag) (C : Addr) : Sp := fun vs H Q _ => ∃ (a r : Addr) (s : Lx.Bytes) (rs : List (List PN)), vs = [.ref a, .ref r] ∧ SqL K H a (vns (bytesN s)) ∧ s.length ≤ 512 ∧ RulesAt K H r rs ∧ RulesFit rs ∧
  ∀ (k : Addr) (H' : Hp), Same H H' → TokensIn C (Dom H) H' k (begins 0 (Lx.tokens (specRules rs) s)) → (Lx.tokens (specRules rs) s).length ≤ s.length → ((Lx.tokens (specRules rs) s).map fun (t : Lx.Tok) => t.bytes.length).sum = s.length → Q (.ref k) H'
theorem scToks : FnScope ["text", "rules", "sizes", "owners", "tokens", "begin", "end"] ["text", "rules"] (defScope sToks) := ⟨rfl, rfl, rfl, by decide +kernel, rfl, by decide +kernel, by decide +kernel⟩
theorem ok_toks {f C : Addr} {fd : FuncData} (F : Fun K "tokens_of" "tokens_of" sToks f fd) (T : Own mg) (CC : CScan mg) (C1 : Callee P w K mg base 5 "best_matches" ["text", "rules"] (spBest K)) (C2 : Callee P w K mg base 1 "end_of_unmatched" ["owners", "begin"] (spEnd K))
    (C3 : MakerTok P w K mg base C (spTokInit C)) : FnOk P w K mg base CX0 6 f fd ["text", "rules"] (spToks K C) := by
  obtain ⟨fI, fdI, GI, mgC, M, bI⟩ := C3
  refine F.ok scToks (fun vs H Q E h => ?_) (fun cdv A outer s H vs Q E hr h => ?_)
  · obtain ⟨a, r, t, rs, rfl, _⟩ := h
    rfl
  · obtain ⟨a, r, t, rs, rfl, hS, hn, hR, fit, k⟩ := h
    have nd := scToks.nd
    have hr1 : Room 1 _ := hr.mono (by decide)
    have hr2 : Room 2 _ := hr.mono (by decide)
    refine ⟨_, pss_cons (ps_asg (pe_fn C1 hr rfl (pa_cons (pv 0) (pa_cons (pv 1) pa_nil))) (pg_names2 K rfl (i := 2) (j := 3) rfl nd rfl rfl (Or.inl rfl) (Or.inl rfl) (Or.inl rfl) (Or.inl rfl)))
      (pss_cons (ps_set (i := 4) nd rfl (Or.inl rfl) (pe_lst pa_nil))
      (pss_cons (ps_set (i := 5) nd rfl (Or.inl rfl) pe_int)
      (pss_cons (ps_while PassesOwn.never (pt_cmpR op_ltN (pv 5) (pe_callB call_len_seq (by rfl) T.len PySem.boot_len (pa_cons (pv 0) pa_nil)) (nomark _))
        (pss_cons (ps_set (i := 6) nd rfl (Or.inl rfl) (pe_op op_addN (pv 5) (pe_ix ix_listN (pv 2) (pv 5) (fun _ _ => rfl))))
        (pss_cons (ps_if (pt_cmpR op_eqN (pe_ix ix_listN (pv 3) (pv 5) (fun _ _ => rfl)) (pe_const rfl CC.no) (nomark _))
          (pss_one (ps_set (i := 6) nd rfl (Or.inl rfl) (pe_fn C2 hr1 rfl (pa_cons (pv 3) (pa_cons (pv 5) pa_nil))))) pss_nil)
        (pss_cons (ps_expr (pe_bm PySem.F.plainAttrs_list PySem.F.slot_list_append PySem.F.type_list_append mt_append (pv 4) (pa_cons (pe_make M GI hr2 rfl mgC bI .nil pass0 (pa_cons (pv 5) (pa_cons (pe_slice sl_list (pv 0) (po_some (pv 5)) (po_some (pv 6))) (pa_cons (pe_ix ix_listN (pv 3) (pv 5) (fun _ _ => rfl)) pa_nil)))) pa_nil)))
        (pss_one (ps_set (i := 5) nd rfl (Or.inl rfl) (pv 6)))))))
      (pss_one (ps_ret (pv 4)))))), ?_⟩
    have hbn : (bytesN t).length = t.length := bytesN_len t
    refine ⟨_, rfl, _, rfl, a, r, t, rs, rfl, hS, hn, hR, fit, fun tt p q H1 s1 ht hp hq => ?_⟩
    refine ⟨tt, _, rfl, SqT.of ht, rfl, _, _, rfl, _, _, rfl, rfl, ?_⟩
    refine ⟨Nat.zero_le _, fun kk hk => ?_⟩
    have hk0 : H kk = none := s1.free hk
    have hpk : p ≠ kk := ne_of_none hp hk
    have hqk : q ≠ kk := ne_of_none hq hk
    have s2 : Same H (upd H1 kk (.lst [])) := Same.upd_new s1 hk0
    have s12 : Same H1 (upd H1 kk (.lst [])) := Same.upd_new (Same.refl _) hk
    have hszl := sizes_len rs t
    have howl := owners_len rs t
    refine while_by (fun σ H' => Same H H' ∧ H' p = some (.lst (vns (sizesL rs t))) ∧ H' q = some (.lst (vns (ownersL rs t))) ∧ ∃ (b : Nat) (ts : List Lx.Tok) (v6 : Option V), σ = [some (.ref a), some (.ref r), some (.ref p), some (.ref q), some (.ref kk), some (vn b), v6] ∧ Told rs t b ts ∧ ts.length ≤ b ∧ RowAt (TokAt C) (Dom H) H' kk (begins 0 ts))
      (fun (σ : L2.St) (_ : Hp) => match σ[5]? with | some (some (V.int i)) => t.length - i.toNat | _ => 0) ⟨s2, s12 _ _ hp, s12 _ _ hq, 0, [], none, rfl, told_start rs t, Nat.le_refl _, row_nil (Dom.new hk0) upd_same⟩ ?_ ?_
    · rintro σ H' ⟨sH, hp', hq', b, ts, v6, rfl, told, htl, row⟩
      refine ⟨_, rfl, _, rfl, a, _, rfl, .inl (sH.seq hS), _, _, rfl, rfl, _, rfl, ?_⟩
      rw [vns_len, hbn]
      by_cases hb : b < t.length
      · rw [decide_eq_true hb]
        have gs : (vns (sizesL rs t))[b]? = some (vn (bp (matchedAll rs t) b).1) := by rw [vns_getD (by omega)]; unfold sizesL; rw [range_getD hb]
        have go : (vns (ownersL rs t))[b]? = some (vn (bp (matchedAll rs t) b).2) := by rw [vns_getD (by omega)]; unfold ownersL; rw [range_getD hb]
        have god : (ownersL rs t).getD b 0 = (bp (matchedAll rs t) b).2 := by unfold ownersL; rw [range_getD hb]
        -- what is left once the end e is known
        have fin : ∀ (e : Nat) (tok : Lx.Tok), Told rs t e (ts ++ [tok]) → b < e → tok.bytes = cut t b e → Lx.ruleNo tok = (bp (matchedAll rs t) b).2 → ∀ D : L2.Ends,
            (∀ H2, (Same H H2 ∧ H2 p = some (.lst (vns (sizesL rs t))) ∧ H2 q = some (.lst (vns (ownersL rs t))) ∧ RowAt (TokAt C) (Dom H) H2 kk (begins 0 (ts ++ [tok]))) → D.nx [some (.ref a), some (.ref r), some (.ref p), some (.ref q), some (.ref kk), some (vn e), some (vn e)] H2) →
            tSeq (tDrop (tBM K "list" rAppend (tVar 4) (tCons (tMake C (spTokInit C) [] E0 (tCons (tVar 5) (tCons (tSl (rSlL K) (tVar 0) (tPart (tVar 5)) (tPart (tVar 6))) (tCons (tOp (fun x y H Q => ∃ (p : Addr) (xs : List V) (j : Nat) (v : V), x = .ref p ∧ y = vn j ∧ SqL K H p xs ∧ xs[j]? = some v ∧ Q v H) (tVar 3) (tVar 5)) tNil)))) tNil))) (tAsg (tVar 6) (gName 5)) D
              [some (.ref a), some (.ref r), some (.ref p), some (.ref q), some (.ref kk), some (vn b), some (vn e)] H' := by
          intro e tok told' hbe htb hrn D hD
          obtain ⟨w1, as, w2, w3, w4⟩ := id row
          refine ⟨_, rfl, .inl ⟨rfl, _, SqL.of w2⟩, _, rfl, _, rfl, _, rfl, _, rfl, _, rfl, _, rfl, a, _, rfl, sH.seq hS, fun pc hpc => ?_⟩
          rw [cutV_nn, bytesN_cut]
          have s3 : Same H' (upd H' pc (.lst (vns (bytesN (cut t b e))))) := Same.upd_new (Same.refl _) hpc
          have e3 : (upd H' pc (.lst (vns (bytesN (cut t b e))))) pc = some (.lst (vns (bytesN (cut t b e)))) := upd_same
          generalize upd H' pc (.lst (vns (bytesN (cut t b e)))) = H3 at s3 e3
          refine ⟨_, rfl, _, rfl, q, _, b, _, rfl, rfl, SqL.of (s3 _ _ hq'), go, ?_⟩
          intro x dx hx hdx hne
          refine ⟨x, dx, pc, b, _, rfl, upd_same, rfl, ?_⟩
          rw [upd_upd]
          have s4 : Same H3 (upd (upd H3 dx (.own x)) x (.ins C dx (tf b pc (bp (matchedAll rs t) b).2))) := Same.upd_new (Same.upd_new (Same.refl _) hdx) hx
          have e4 : (upd (upd H3 dx (.own x)) x (.ins C dx (tf b pc (bp (matchedAll rs t) b).2))) x = some (.ins C dx (tf b pc (bp (matchedAll rs t) b).2)) := upd_same
          have s5 := s3.trans s4
          have e5 := s4 _ _ e3
          generalize upd (upd H3 dx (.own x)) x (.ins C dx (tf b pc (bp (matchedAll rs t) b).2)) = H4 at s4 e4 s5 e5
          have hxk : x ≠ kk := Ne.symm (ne_of_none (s3 _ _ w2) hx)
          have hpk2 : pc ≠ kk := Ne.symm (ne_of_none w2 hpc)
          obtain ⟨as2, g1, g2, g3⟩ := row_push (tokAt_ok C) ((RowAt.ok (tokAt_ok C)).keep row (Same.keeps s5)) (a := x) (x := (b, tok))
            ⟨fun z => z.elim hxk fun z => z ((sH.trans s3).free hx), dx, pc, by rw [hrn]; exact e4, fun z => z.elim hpk2 fun z => z (sH.free hpc), by rw [htb]; exact e5⟩
          rw [begins_len] at g2
          have hts : ts.length < sizeLine := small512 (by have := told.le; omega)
          refine ⟨kk, _, _, rfl, rfl, g1, by rw [g2]; exact hts, ?_⟩
          refine ⟨_, rfl, ?_⟩
          refine hD _ ⟨Same.upd_new (sH.trans s5) hk0, by rw [upd_ne hpk]; exact s5 _ _ hp', by rw [upd_ne hqk]; exact s5 _ _ hq', ?_⟩
          rw [begins_snoc, told.sum, Nat.zero_add]
          exact g3
        refine ⟨_, rfl, _, rfl, _, rfl, p, _, b, _, rfl, rfl, SqL.of hp', gs, _, _, rfl, rfl, ?_⟩
        refine ⟨_, rfl, _, rfl, q, _, b, _, rfl, rfl, SqL.of hq', go, _, 0, rfl, rfl, _, rfl, ?_⟩
        by_cases h0 : (bp (matchedAll rs t) b).2 = 0
        · rw [decide_eq_true h0]
          refine ⟨_, rfl, _, rfl, q, _, b, rfl, SqL.of hq', by omega, fun e he1 he2 he3 he4 => ?_⟩
          rw [howl] at he2 he4
          have hbe : b < e := by
            rcases Nat.lt_or_ge b e with h | h
            · exact h
            · have : e = b := by omega
              subst this
              rcases he4 with z | z
              · omega
              · exact absurd (god.trans h0) z
          have told' := told_none fit.ok told hbe he2 (fun i h1 h2 => by
            have := he3 i h1 h2
            unfold ownersL at this
            rw [range_getD (by omega)] at this
            exact this) (by
            rcases he4 with z | z
            · exact .inl (by omega)
            · by_cases hz : t.length ≤ e
              · exact .inl hz
              · right
                unfold ownersL at z
                rw [range_getD (by omega)] at z
                exact z)
          refine fin e _ told' hbe rfl (by rw [h0]; rfl) _ fun H2 ⟨g1, g2, g3, g4⟩ => ?_
          refine ⟨⟨g1, g2, g3, e, _, _, rfl, told', by rw [List.length_append]; show ts.length + 1 ≤ e; omega, g4⟩, ?_⟩
          show t.length - (e : Int).toNat < t.length - (b : Int).toNat
          omega
        · rw [decide_eq_false h0]
          obtain ⟨sz, ow, hbp⟩ : ∃ sz ow, bp (matchedAll rs t) b = (sz, ow + 1) := ⟨(bp (matchedAll rs t) b).1, (bp (matchedAll rs t) b).2 - 1, by rw [Nat.sub_add_cancel (Nat.pos_of_ne_zero h0)]⟩
          obtain ⟨told', hsz⟩ := told_rule fit.ok told hb hbp
          have e1 : (bp (matchedAll rs t) b).1 = sz := by rw [hbp]
          have e2 : (bp (matchedAll rs t) b).2 = ow + 1 := by rw [hbp]
          rw [e1]
          refine fin (b + sz) _ told' (by omega) rfl (by rw [e2]; rfl) _ fun H2 ⟨g1, g2, g3, g4⟩ => ?_
          refine ⟨⟨g1, g2, g3, b + sz, _, _, rfl, told', by rw [List.length_append]; show ts.length + 1 ≤ b + sz; omega, g4⟩, ?_⟩
          show t.length - ((b + sz : Nat) : Int).toNat < t.length - (b : Int).toNat
          omega
      · rw [decide_eq_false hb]
        refine ⟨_, rfl, ?_⟩
        have et := told_end told (by omega)
        subst et
        exact k kk H' sH row (by have := told.le; omega) (by have := told.sum; have := told.le; omega)
    · exact mt_test (me_op mr_ab me_var (me_cb mc_len (ma_cons me_var ma_nil)))
end
end Elx

set_option Elab.async false
set_option linter.all false
set_option maxRecDepth 100000
set_option maxHeartbeats 2000000
namespace Elx
open PySem PySem.Spec PyProof.Rows L2
open PySem.W (Codec)
theorem tokens_get {C : Addr} {D : Addr → Prop} {H : Hp} {k : Addr} {ts : List Lx.Tok} {i : Nat} {t : Lx.Tok} (h : TokensIn C D H k (begins 0 ts)) (hx : ts[i]? = some t) :
    ∃ (xs : List V) (a : Addr), H k = some (.lst xs) ∧ xs.length = ts.length ∧ xs[i]? = some (.ref a) ∧ TokAt C (And1 k D) H a (Lx.startOf ts i, t) := by
  obtain ⟨as, a, h1, h2, h3, h4⟩ := row_get h (begins_at hx)
  exact ⟨_, a, h1, by rw [List.length_map, h2, begins_len], h3, h4⟩
theorem tokens_len {C : Addr} {D : Addr → Prop} {H : Hp} {k : Addr} {ts : List Lx.Tok} (h : TokensIn C D H k (begins 0 ts)) : ∃ xs : List V, H k = some (.lst xs) ∧ xs.length = ts.length := by
  obtain ⟨xs, h1, h2⟩ := row_len h
  exact ⟨xs, h1, by rw [h2, begins_len]⟩
section
variable {P : Program} {w : World} {K : PySem.W.Frag} {mg : Str → Option Value} {base : Heap}
theorem mt_b {t : TE} (h : ME t) : MT (tB t) := fun σ H Q1 Q2 hQ q => h σ H _ _ (fun x H1 ⟨k, e, z⟩ => ⟨k, e, hQ _ _ z⟩) q
theorem same_mono {C : Addr} : ∀ vs H Q1 Q2, (∀ b H', Q1 b H' → Q2 b H') → spSame C vs H Q1 E0 → spSame C vs H Q2 E0 := fun vs H Q1 Q2 hQ ⟨a, b, D, D', x, y, h1, h2, h3, q⟩ => ⟨a, b, D, D', x, y, h1, h2, h3, hQ _ _ q⟩
abbrev sChanged : Stmt := top 30
def chL (xs ys : List Lx.Tok) : List Nat := [(Lx.change xs ys).first, (Lx.change xs ys).gone, (Lx.change xs ys).come]
def spChanged (C : Addr) : Sp := fun vs H Q _ => ∃ (a b : Addr) (D D' : Addr → Prop) (xs ys : List Lx.Tok), vs = [.ref a, .ref b] ∧ TokensIn C D H a (begins 0 xs) ∧ TokensIn C D' H b (begins 0 ys) ∧ NewL H (vns (chL xs ys)) Q
theorem scChanged : FnScope ["before", "after", "shorter", "first", "last"] ["before", "after"] (defScope sChanged) := ⟨rfl, rfl, rfl, by decide +kernel, rfl, by decide +kernel, by decide +kernel⟩
theorem min_eq (a b : Nat) : (if (b : Int) < (a : Int) then (b : Int) else (a : Int)) = ((min a b : Nat) : Int) := by
  split <;> omega
theorem ok_changed {f C : Addr} {fd : FuncData} (F : Fun K "changed" "changed" sChanged f fd) (T : Own mg) (C1 : Callee P w K mg base 1 "same" ["one", "other"] (spSame C)) : FnOk P w K mg base CX0 2 f fd ["before", "after"] (spChanged C) := by
  refine F.ok scChanged (fun vs H Q E h => ?_) (fun cdv A outer s H vs Q E hr h => ?_)
  · obtain ⟨a, b, D, D', xs, ys, rfl, _⟩ := h
    rfl
  · obtain ⟨a, b, D, D', xs, ys, rfl, hX, hY, k⟩ := h
    have nd := scChanged.nd
    refine ⟨_, pss_cons (ps_set (i := 2) nd rfl (Or.inl rfl) (pe_callB (call_min2 rfl) rfl T.min PyProof.Rows.boot_min (pa_cons (pe_callB call_len_seq (by rfl) T.len PySem.boot_len (pa_cons (pv 0) pa_nil)) (pa_cons (pe_callB call_len_seq (by rfl) T.len PySem.boot_len (pa_cons (pv 1) pa_nil)) pa_nil))))
      (pss_cons (ps_set (i := 3) nd rfl (Or.inl rfl) pe_int)
      (pss_cons (ps_while PassesOwn.never (PW.pt (pw_and (pt_cmpR op_ltN (pv 3) (pv 2) (nomark _)) (pw_and1 (pt_val (pe_fn C1 hr rfl (pa_cons (pe_ix ix_listN (pv 0) (pv 3) (fun _ _ => rfl)) (pa_cons (pe_ix ix_listN (pv 1) (pv 3) (fun _ _ => rfl)) pa_nil)))))))
        (pss_one (ps_set (i := 3) nd rfl (Or.inl rfl) (pe_op op_addN (pv 3) pe_int))))
      (pss_cons (ps_set (i := 4) nd rfl (Or.inl rfl) pe_int)
      (pss_cons (ps_while PassesOwn.never (PW.pt (pw_and (pt_cmpR op_ltN (pv 4) (pe_op op_subN (pv 2) (pv 3)) (nomark _)) (pw_and1 (pt_val (pe_fn C1 hr rfl
            (pa_cons (pe_ix ix_listN (pv 0) (pe_op op_subN (pe_op op_subN (pe_callB call_len_seq (by rfl) T.len PySem.boot_len (pa_cons (pv 0) pa_nil)) pe_int) (pv 4)) (fun _ _ => rfl))
            (pa_cons (pe_ix ix_listN (pv 1) (pe_op op_subN (pe_op op_subN (pe_callB call_len_seq (by rfl) T.len PySem.boot_len (pa_cons (pv 1) pa_nil)) pe_int) (pv 4)) (fun _ _ => rfl)) pa_nil)))))))
        (pss_one (ps_set (i := 4) nd rfl (Or.inl rfl) (pe_op op_addN (pv 4) pe_int))))
      (pss_one (ps_ret (pe_lst (pa_cons (pv 3) (pa_cons (pe_op op_subN (pe_op op_subN (pe_callB call_len_seq (by rfl) T.len PySem.boot_len (pa_cons (pv 0) pa_nil)) (pv 3)) (pv 4))
        (pa_cons (pe_op op_subN (pe_op op_subN (pe_callB call_len_seq (by rfl) T.len PySem.boot_len (pa_cons (pv 1) pa_nil)) (pv 3)) (pv 4)) pa_nil)))))))))), ?_⟩
    obtain ⟨vx, hx, lx⟩ := tokens_len hX
    obtain ⟨vy, hy, ly⟩ := tokens_len hY
    refine ⟨_, rfl, a, _, rfl, .inl (SqL.of hx), _, rfl, b, _, rfl, .inl (SqL.of hy), _, _, rfl, ?_⟩
    rw [lx, ly, min_eq]
    -- first
    refine while_by (fun σ H' => H' = H ∧ ∃ f : Nat, σ = [some (.ref a), some (.ref b), some (vn (min xs.length ys.length)), some (vn f), none] ∧ f ≤ xs.length ∧ f ≤ ys.length ∧ ∀ i, i < f → xs[i]? = ys[i]?)
      (fun (σ : L2.St) (_ : Hp) => match σ[3]? with | some (some (V.int i)) => xs.length - i.toNat | _ => 0) ⟨rfl, 0, rfl, Nat.zero_le _, Nat.zero_le _, fun i h => by omega⟩ ?_ ?_
    · rintro σ H' ⟨rfl, f, rfl, hfx, hfy, hs⟩
      -- what is left once first is known
      have rest : (f = xs.length ∨ f = ys.length ∨ xs[f]? ≠ ys[f]?) → ∀ D : L2.Ends, D.rt = Q → (tSeq (tAsg (tC (V.int 0)) (gName 4)) (tSeq (tWhile (tAnd (tTest (tOp (fun x y H Q => ∃ a b : Nat, x = vn a ∧ y = vn b ∧ Q (.bl (decide (a < b))) H) (tVar 4) (tOp (fun x y H Q => ∃ a b : Nat, x = vn a ∧ y = vn b ∧ b ≤ a ∧ Q (vn (a - b)) H) (tVar 2) (tVar 3))))
          (tB (tCall (spSame C) [] E0 (tCons (tOp (fun x y H Q => ∃ (p : Addr) (xs : List V) (j : Nat) (v : V), x = .ref p ∧ y = vn j ∧ SqL K H p xs ∧ xs[j]? = some v ∧ Q v H) (tVar 0) (tOp (fun x y H Q => ∃ a b : Nat, x = vn a ∧ y = vn b ∧ b ≤ a ∧ Q (vn (a - b)) H) (tOp (fun x y H Q => ∃ a b : Nat, x = vn a ∧ y = vn b ∧ b ≤ a ∧ Q (vn (a - b)) H) (tCB (fun xs H Q => ∃ p ys, xs = [.ref p] ∧ (SqL K H p ys ∨ SqT K H p ys) ∧ Q (.int ys.length) H) (tCons (tVar 0) tNil)) (tC (.int 1))) (tVar 4)))
            (tCons (tOp (fun x y H Q => ∃ (p : Addr) (xs : List V) (j : Nat) (v : V), x = .ref p ∧ y = vn j ∧ SqL K H p xs ∧ xs[j]? = some v ∧ Q v H) (tVar 1) (tOp (fun x y H Q => ∃ a b : Nat, x = vn a ∧ y = vn b ∧ b ≤ a ∧ Q (vn (a - b)) H) (tOp (fun x y H Q => ∃ a b : Nat, x = vn a ∧ y = vn b ∧ b ≤ a ∧ Q (vn (a - b)) H) (tCB (fun xs H Q => ∃ p ys, xs = [.ref p] ∧ (SqL K H p ys ∨ SqT K H p ys) ∧ Q (.int ys.length) H) (tCons (tVar 1) tNil)) (tC (.int 1))) (tVar 4))) tNil)))))
          (tAsg (tOp (fun x y H Q => ∃ a b : Nat, x = vn a ∧ y = vn b ∧ Q (vn (a + b)) H) (tVar 4) (tC (.int 1))) (gName 4)))
          (tRet (tLst (tCons (tVar 3) (tCons (tOp (fun x y H Q => ∃ a b : Nat, x = vn a ∧ y = vn b ∧ b ≤ a ∧ Q (vn (a - b)) H) (tOp (fun x y H Q => ∃ a b : Nat, x = vn a ∧ y = vn b ∧ b ≤ a ∧ Q (vn (a - b)) H) (tCB (fun xs H Q => ∃ p ys, xs = [.ref p] ∧ (SqL K H p ys ∨ SqT K H p ys) ∧ Q (.int ys.length) H) (tCons (tVar 0) tNil)) (tVar 3)) (tVar 4))
            (tCons (tOp (fun x y H Q => ∃ a b : Nat, x = vn a ∧ y = vn b ∧ b ≤ a ∧ Q (vn (a - b)) H) (tOp (fun x y H Q => ∃ a b : Nat, x = vn a ∧ y = vn b ∧ b ≤ a ∧ Q (vn (a - b)) H) (tCB (fun xs H Q => ∃ p ys, xs = [.ref p] ∧ (SqL K H p ys ∨ SqT K H p ys) ∧ Q (.int ys.length) H) (tCons (tVar 1) tNil)) (tVar 3)) (tVar 4)) tNil)))))))
          D [some (.ref a), some (.ref b), some (vn (min xs.length ys.length)), some (vn f), none] H' := by
        intro hf D hD
        have cf := common_of f xs ys hfx hfy hs hf
        refine while_by (fun σ H2 => H2 = H' ∧ ∃ g : Nat, σ = [some (.ref a), some (.ref b), some (vn (min xs.length ys.length)), some (vn f), some (vn g)] ∧ f + g ≤ xs.length ∧ f + g ≤ ys.length ∧ ∀ i, i < g → xs[xs.length - 1 - i]? = ys[ys.length - 1 - i]?)
          (fun (σ : L2.St) (_ : Hp) => match σ[4]? with | some (some (V.int i)) => xs.length - i.toNat | _ => 0) ⟨rfl, 0, rfl, hfx, hfy, fun i h => by omega⟩ ?_ ?_
        · rintro σ H2 ⟨rfl, g, rfl, hgx, hgy, hb⟩
          have done : (f + g = xs.length ∨ f + g = ys.length ∨ xs[xs.length - 1 - g]? ≠ ys[ys.length - 1 - g]?) → ∀ p : Addr, H2 p = none → Q (.ref p) (upd H2 p (.lst [vn f, vn (xs.length - f - g), vn (ys.length - f - g)])) := fun hg p hp => by
            have cb := common_back hgx hgy hb hg
            have e : chL xs ys = [f, xs.length - f - g, ys.length - f - g] := by
              unfold chL Lx.change
              simp only [cf, cb]
            have := k p (upd H2 p (.lst (vns (chL xs ys)))) hp (Same.upd_new (Same.refl _) hp) upd_same
            rw [e] at this
            exact this
          refine ⟨_, rfl, _, rfl, _, rfl, _, _, rfl, rfl, by omega, _, _, rfl, rfl, _, rfl, ?_⟩
          by_cases hl : g < min xs.length ys.length - f
          · rw [decide_eq_true hl]
            have ix : xs[xs.length - 1 - g]? = some xs[xs.length - 1 - g] := List.getElem?_eq_getElem (by omega)
            have iy : ys[ys.length - 1 - g]? = some ys[ys.length - 1 - g] := List.getElem?_eq_getElem (by omega)
            obtain ⟨vx2, ax, q1, q2, q3, q4⟩ := tokens_get hX ix
            obtain ⟨vy2, ay, r1, r2, r3, r4⟩ := tokens_get hY iy
            refine ⟨_, rfl, _, rfl, a, _, rfl, .inl (SqL.of q1), _, 1, rfl, rfl, by omega, _, rfl, _, _, rfl, rfl, by omega, ?_⟩
            rw [q2]
            refine ⟨a, _, _, _, rfl, rfl, SqL.of q1, q3, ?_⟩
            refine ⟨_, rfl, _, rfl, b, _, rfl, .inl (SqL.of r1), _, 1, rfl, rfl, by omega, _, rfl, _, _, rfl, rfl, by omega, ?_⟩
            rw [r2]
            refine ⟨b, _, _, _, rfl, rfl, SqL.of r1, r3, ?_⟩
            refine ⟨ax, ay, _, _, _, _, rfl, q4, r4, _, rfl, ?_⟩
            show if decide (xs[xs.length - 1 - g] = ys[ys.length - 1 - g]) = true then _ else _
            by_cases he : xs[xs.length - 1 - g] = ys[ys.length - 1 - g]
            · rw [decide_eq_true he]
              refine ⟨_, rfl, g, 1, rfl, rfl, ?_⟩
              refine ⟨⟨rfl, g + 1, rfl, by omega, by omega, fun i hi => ?_⟩, ?_⟩
              · by_cases hig : i = g
                · subst hig; rw [ix, iy, he]
                · exact hb i (by omega)
              · show xs.length - ((g + 1 : Nat) : Int).toNat < xs.length - (g : Int).toNat
                omega
            · rw [decide_eq_false he]
              refine ⟨_, rfl, _, rfl, a, _, rfl, .inl (SqL.of hx), _, rfl, _, _, rfl, rfl, by omega, _, rfl, _, _, rfl, rfl, by omega, ?_⟩
              refine ⟨_, rfl, b, _, rfl, .inl (SqL.of hy), _, rfl, _, _, rfl, rfl, by omega, _, rfl, _, _, rfl, rfl, by omega, (by show 3 ≤ sizeLine; decide), fun p hp => ?_⟩
              rw [lx, ly, hD]
              exact done (.inr (.inr (by rw [ix, iy]; exact fun z => he (Option.some.inj z)))) p hp
          · rw [decide_eq_false hl]
            refine ⟨_, rfl, _, rfl, a, _, rfl, .inl (SqL.of hx), _, rfl, _, _, rfl, rfl, by omega, _, rfl, _, _, rfl, rfl, by omega, ?_⟩
            refine ⟨_, rfl, b, _, rfl, .inl (SqL.of hy), _, rfl, _, _, rfl, rfl, by omega, _, rfl, _, _, rfl, rfl, by omega, (by show 3 ≤ sizeLine; decide), fun p hp => ?_⟩
            rw [lx, ly, hD]
            refine done ?_ p hp
            by_cases h1 : f + g = xs.length
            · exact .inl h1
            · exact .inr (.inl (by omega))
        · exact mt_and (mt_test (me_op mr_ab me_var (me_op mr_sub me_var me_var))) (mt_b (me_call same_mono (ma_cons (me_op mr_ix me_var (me_op mr_sub (me_op mr_sub (me_cb mc_len (ma_cons me_var ma_nil)) me_c) me_var)) (ma_cons (me_op mr_ix me_var (me_op mr_sub (me_op mr_sub (me_cb mc_len (ma_cons me_var ma_nil)) me_c) me_var)) ma_nil))))
      refine ⟨_, rfl, _, rfl, _, _, rfl, rfl, _, rfl, ?_⟩
      by_cases hl : f < min xs.length ys.length
      · rw [decide_eq_true hl]
        have ix : xs[f]? = some xs[f] := List.getElem?_eq_getElem (by omega)
        have iy : ys[f]? = some ys[f] := List.getElem?_eq_getElem (by omega)
        obtain ⟨vx2, ax, q1, q2, q3, q4⟩ := tokens_get hX ix
        obtain ⟨vy2, ay, r1, r2, r3, r4⟩ := tokens_get hY iy
        refine ⟨_, rfl, _, rfl, a, _, f, _, rfl, rfl, SqL.of q1, q3, _, rfl, _, rfl, b, _, f, _, rfl, rfl, SqL.of r1, r3, ?_⟩
        refine ⟨ax, ay, _, _, _, _, rfl, q4, r4, _, rfl, ?_⟩
        show if decide (xs[f] = ys[f]) = true then _ else _
        by_cases he : xs[f] = ys[f]
        · rw [decide_eq_true he]
          refine ⟨_, rfl, f, 1, rfl, rfl, ?_⟩
          refine ⟨⟨rfl, f + 1, rfl, by omega, by omega, fun i hi => ?_⟩, ?_⟩
          · by_cases hig : i = f
            · subst hig; rw [ix, iy, he]
            · exact hs i (by omega)
          · show xs.length - ((f + 1 : Nat) : Int).toNat < xs.length - (f : Int).toNat
            omega
        · rw [decide_eq_false he]
          exact rest (.inr (.inr (by rw [ix, iy]; exact fun z => he (Option.some.inj z)))) _ rfl
      · rw [decide_eq_false hl]
        refine rest ?_ _ rfl
        by_cases h1 : f = xs.length
        · exact .inl h1
        · exact .inr (.inl (by omega))
    · exact mt_and (mt_test (me_op mr_ab me_var me_var)) (mt_b (me_call same_mono (ma_cons (me_op mr_ix me_var me_var) (ma_cons (me_op mr_ix me_var me_var) ma_nil))))
end
end Elx

set_option Elab.async false
set_option linter.all false
set_option maxRecDepth 100000
set_option maxHeartbeats 2000000
namespace Elx
open PySem PySem.Spec PyProof.Rows L2
open PySem.W (Codec)
/-! ### the class EditedText -/
def ef (r t k : Addr) : List (Str × V) := putF "tokens" (.ref k) (putF "text" (.ref t) (putF "rules" (.ref r) []))
theorem ef_tokens (r t k : Addr) : (ef r t k).lookup ("tokens" : Str) = some (.ref k) := by unfold ef; rw [lookup_putF, if_pos rfl]
theorem ef_text (r t k : Addr) : (ef r t k).lookup ("text" : Str) = some (.ref t) := by unfold ef; rw [lookup_putF, if_neg (by decide +kernel), lookup_putF, if_pos rfl]
theorem ef_rules (r t k : Addr) : (ef r t k).lookup ("rules" : Str) = some (.ref r) := by unfold ef; rw [lookup_putF, if_neg (by decide +kernel), lookup_putF, if_neg (by decide +kernel), lookup_putF, if_pos rfl]
theorem ef_no (r t k : Addr) {m : Str} (h1 : ¬ m = "tokens") (h2 : ¬ m = "text") (h3 : ¬ m = "rules") : (ef r t k).lookup m = none := by
  unfold ef; rw [lookup_putF, if_neg h1, lookup_putF, if_neg h2, lookup_putF, if_neg h3]; rfl
theorem putF_hit (f : Str) (v x : V) (l : List (Str × V)) : putF f v ((f, x) :: l) = (f, v) :: l := by
  show (if f = f then (f, v) :: l else (f, x) :: putF f v l) = _
  rw [if_pos rfl]
theorem putF_miss {f g : Str} (v x : V) (l : List (Str × V)) (h : ¬ g = f) : putF f v ((g, x) :: l) = (g, x) :: putF f v l := by
  show (if g = f then (g, v) :: l else (g, x) :: putF f v l) = _
  rw [if_neg h]
theorem ef_eq (r t k : Addr) : ef r t k = [(("rules" : Str), .ref r), ("text", .ref t), ("tokens", .ref k)] := by
  unfold ef
  rw [show putF "rules" (.ref r) [] = [(("rules" : Str), V.ref r)] from rfl, putF_miss _ _ _ (by decide +kernel), show putF "text" (.ref t) [] = [(("text" : Str), V.ref t)] from rfl,
    putF_miss _ _ _ (by decide +kernel), putF_miss _ _ _ (by decide +kernel)]
  rfl
theorem ef_putText (r t k x : Addr) : putF "text" (.ref x) (ef r t k) = ef r x k := by
  rw [ef_eq, ef_eq, putF_miss _ _ _ (by decide +kernel), putF_hit]
theorem ef_putTokens (r t k x : Addr) : putF "tokens" (.ref x) (ef r t k) = ef r t x := by
  rw [ef_eq, ef_eq, putF_miss _ _ _ (by decide +kernel), putF_miss _ _ _ (by decide +kernel), putF_hit]
theorem ef_len (r t k : Addr) : (ef r t k).length < 1000 := by rw [ef_eq]; show 3 < 1000; decide
structure EdT (K : PySem.W.Frag) (E : Addr) : Prop where
  cl : Cls K E
  nr : NoAttr K E "rules"
  nt : NoAttr K E "text"
  nk : NoAttr K E "tokens"
/-- the tokens of a state -/
abbrev toksOf (rs : List (List PN)) (s : Lx.Bytes) : List Lx.Tok := Lx.tokens (specRules rs) s
/-- what is known of the text and its rules -/
structure Fit (rs : List (List PN)) (s : Lx.Bytes) : Prop where
  rules : RulesFit rs
  len : s.length ≤ 512
  toks : (toksOf rs s).length ≤ s.length
  sum : ((toksOf rs s).map fun (t : Lx.Tok) => t.bytes.length).sum = s.length
/-- at p stands the object, apart from D -/
structure StateAt (C E : Addr) (D : Addr → Prop) (H : Hp) (p dx r t k : Addr) (rs : List (List PN)) (s : Lx.Bytes) : Prop where
  out : ¬ D p
  self : H p = some (.ins E dx (ef r t k))
  rules : RulesIn (And1 p D) H r rs
  tout : ¬ And1 r (And1 p D) t
  text : H t = some (.lst (vns (bytesN s)))
  toks : TokensIn C (And1 r (And1 p D)) H k (begins 0 (toksOf rs s))
theorem StateAt.keep {C E : Addr} {D : Addr → Prop} {H H' : Hp} {p dx r t k : Addr} {rs : List (List PN)} {s : Lx.Bytes} (h : StateAt C E D H p dx r t k rs s) (kp : Keeps D H H') : StateAt C E D H' p dx r t k rs s :=
  ⟨h.out, kp _ _ h.self h.out, rulesIn_ok.keep h.rules fun b o e n => kp b o e fun z => n (.inr z), h.tout, kp _ _ h.text fun z => h.tout (.inr (.inr z)), (tokensIn_ok C).keep h.toks fun b o e n => kp b o e fun z => n (.inr (.inr z))⟩
theorem StateAt.mono {C E : Addr} {D D' : Addr → Prop} {H : Hp} {p dx r t k : Addr} {rs : List (List PN)} {s : Lx.Bytes} (h : StateAt C E D H p dx r t k rs s) (m : ∀ b, D' b → D b) : StateAt C E D' H p dx r t k rs s :=
  ⟨fun z => h.out (m _ z), h.self, rulesIn_ok.mono h.rules fun b z => z.imp id (m b), fun z => h.tout (z.imp id fun z => z.imp id (m _)), h.text, (tokensIn_ok C).mono h.toks fun b z => z.imp id fun z => z.imp id (m b)⟩
/-- the object, with what is known -/
def Obj8 (C E : Addr) (D : Addr → Prop) (H : Hp) (p : Addr) (rs : List (List PN)) (s : Lx.Bytes) : Prop := Fit rs s ∧ ∃ dx r t k, StateAt C E D H p dx r t k rs s
theorem Obj8.keep {C E : Addr} {D : Addr → Prop} {H H' : Hp} {p : Addr} {rs : List (List PN)} {s : Lx.Bytes} (h : Obj8 C E D H p rs s) (kp : Keeps D H H') : Obj8 C E D H' p rs s := by
  obtain ⟨f, dx, r, t, k, h⟩ := h
  exact ⟨f, dx, r, t, k, h.keep kp⟩
/-- what is answered, and what stands then -/
def Ans (C E : Addr) (D : Addr → Prop) (H : Hp) (p : Addr) (rs : List (List PN)) (s : Lx.Bytes) (ans : List Int) (Q : VK) : Prop :=
  ∀ (q : Addr) (H' : Hp), (∀ b o, D b → H b = some o → H' b = some o) → Obj8 C E D H' p rs s → ¬ D q → H' q = some (.lst (ans.map V.int)) → Q (.ref q) H'
/-- a call upon the object: c is the specification's -/
def Does (C E : Addr) (D : Addr → Prop) (H : Hp) (p : Addr) (c : Lx.Call) (Q : VK) : Prop :=
  ∃ (rs : List (List PN)) (s : Lx.Bytes), Obj8 C E D H p rs s ∧ (∀ b, D b → Dom H b) ∧
    ∀ (rs' : List (List PN)) (s' : Lx.Bytes), (Lx.step ⟨specRules rs, s⟩ c).1 = ⟨specRules rs', s'⟩ → Ans C E D H p rs' s' (LxNeutral.numbers (Lx.step ⟨specRules rs, s⟩ c).2) Q
/-- one that only reads: a new list, all else as it was -/
theorem Does.reads {C E : Addr} {D : Addr → Prop} {H : Hp} {p : Addr} {rs : List (List PN)} {s : Lx.Bytes} {a : Lx.Answer} {Q : VK} (ans : List Int) (o : Obj8 C E D H p rs s) (dm : ∀ b, D b → Dom H b)
    {y : Lx.State × Lx.Answer} (k : ∀ (rs' : List (List PN)) (s' : Lx.Bytes), y.1 = ⟨specRules rs', s'⟩ → Ans C E D H p rs' s' (LxNeutral.numbers y.2) Q)
    (h1 : y = (⟨specRules rs, s⟩, a)) (h2 : LxNeutral.numbers a = ans) {q : Addr} {H' : Hp} (hq : H q = none) (sm : Same H H') (e : H' q = some (.lst (ans.map V.int))) : Q (.ref q) H' := by
  subst h1 h2
  exact k rs s rfl q H' (fun b o _ e => sm b o e) (o.keep (Same.keeps sm)) (fun z => dm q z hq) e
theorem neg_list {H : Hp} {q : Addr} (i : Int) : (upd H q (.lst [V.int (-i)])) q = some (.lst ([-i].map V.int)) := upd_same
/-- edited.py's numbers -/
structure CEd (mg : Str → Option Value) : Prop where
  rules : ∃ t, mg "MOST_RULES" = some (.int 8 t)
  bytes : ∃ t, mg "MOST_BYTES" = some (.int 512 t)

/-! ### which token a byte is in -/
theorem startOf_mono (ts : List Lx.Tok) : ∀ {i j : Nat}, i ≤ j → Lx.startOf ts i ≤ Lx.startOf ts j := by
  induction ts with
  | nil => intro i j _; simp [Lx.startOf]
  | cons x r ih =>
    intro i j h
    cases i with
    | zero => show 0 ≤ _; exact Nat.zero_le _
    | succ i =>
      cases j with
      | zero => omega
      | succ j => rw [startOf_cons, startOf_cons]; have := @ih i j (by omega); omega
theorem begins_from : ∀ (ts : List Lx.Tok) (b p : Nat), p < b → ((begins b ts).filter fun x => decide (x.1 ≤ p)) = []
  | [], _, _, _ => rfl
  | x :: r, b, p, h => by
    show List.filter _ ((b, x) :: begins _ r) = []
    rw [List.filter_cons, if_neg (by simp; omega), begins_from r _ p (by omega)]
theorem at_math : ∀ (ts : List Lx.Tok) (b p : Nat), b ≤ p → p < b + (ts.map fun (t : Lx.Tok) => t.bytes.length).sum →
    ∃ i, i < ts.length ∧ ((begins b ts).filter fun x => decide (x.1 ≤ p)).length = i + 1 ∧ b + Lx.startOf ts i ≤ p ∧ p < b + Lx.startOf ts (i + 1)
  | [], b, p, h1, h2 => by simp at h2; omega
  | x :: r, b, p, h1, h2 => by
    rw [List.map_cons, List.sum_cons] at h2
    have e : ((begins b (x :: r)).filter fun x => decide (x.1 ≤ p)) = (b, x) :: ((begins (b + x.bytes.length) r).filter fun x => decide (x.1 ≤ p)) := by
      show List.filter _ ((b, x) :: begins _ r) = _
      rw [List.filter_cons, if_pos (by simp; omega)]
    rw [e]
    by_cases hp : p < b + x.bytes.length
    · refine ⟨0, by simp, by rw [begins_from r _ p hp]; rfl, h1, ?_⟩
      rw [startOf_cons]; omega
    · obtain ⟨i, g1, g2, g3, g4⟩ := at_math r (b + x.bytes.length) p (by omega) (by omega)
      refine ⟨i + 1, by simp; omega, by rw [List.length_cons, g2], ?_, ?_⟩
      · rw [startOf_cons]; omega
      · rw [startOf_cons]; omega
theorem find_range {n i : Nat} {f : Nat → Bool} (h1 : i < n) (h2 : f i = true) (h3 : ∀ j, j < i → f j = false) : (List.range n).find? f = some i := by
  rw [List.find?_range_eq_some]
  exact ⟨h2, by simpa using h1, fun j hj => by rw [h3 j hj]; rfl⟩
theorem find_range_none {n : Nat} {f : Nat → Bool} (h : ∀ j, j < n → f j = false) : (List.range n).find? f = none := by
  rw [List.find?_eq_none]
  intro x hx
  rw [h x (List.mem_range.mp hx)]
  exact Bool.false_ne_true
theorem startOf_all (ts : List Lx.Tok) : Lx.startOf ts ts.length = (ts.map fun (t : Lx.Tok) => t.bytes.length).sum := by unfold Lx.startOf; rw [List.take_length]
end Elx

set_option Elab.async false
set_option linter.all false
set_option maxRecDepth 100000
set_option maxHeartbeats 2000000
namespace Elx
open PySem PySem.Spec PyProof.Rows L2
open PySem.W (Codec)
theorem vns_ints (l : List Nat) : vns l = (LxNeutral.ints l).map V.int := by
  unfold LxNeutral.ints; rw [List.map_map]; rfl
section
variable {P : Program} {w : World} {K : PySem.W.Frag} {mg : Str → Option Value} {base : Heap}
/-! ### __init__ -/
abbrev sEdInit : Stmt := inClass (top 34) 0
def spEdInit (C E : Addr) : Sp := fun vs H Q _ => ∃ (p dx : Addr), vs = [.ref p] ∧ H p = some (.ins E dx []) ∧ ∀ (r t k : Addr) (H' : Hp), H r = none → H t = none → H k = none → (∀ b o, H b = some o → b ≠ p → H' b = some o) →
  StateAt C E (fun b => b ≠ p ∧ b ≠ r ∧ b ≠ t ∧ b ≠ k) H' p dx r t k [] [] → Q .non H'
theorem scEdInit : FnScope ["self"] ["self"] (defScope sEdInit) := ⟨rfl, rfl, rfl, by decide +kernel, rfl, by decide +kernel, by decide +kernel⟩
theorem ok_edInit {f C E : Addr} {fd : FuncData} (F : Fun K "__init__" "EditedText.__init__" sEdInit f fd) (T : EdT K E) : FnOk P w K mg base CX0 1 f fd ["self"] (spEdInit C E) := by
  refine F.ok scEdInit (fun vs H Q E h => ?_) (fun cdv A outer s H vs Q _ hr h => ?_)
  · obtain ⟨p, dx, rfl, _⟩ := h
    rfl
  · obtain ⟨p, dx, rfl, hp, k⟩ := h
    refine ⟨_, pss_cons (ps_fld (pv 0) (pe_lst pa_nil) rfl) (pss_cons (ps_fld (pv 0) (pe_lst pa_nil) rfl) (pss_one (ps_fld (pv 0) (pe_lst pa_nil) rfl))), ?_⟩
    refine ⟨Nat.zero_le _, fun r hr0 => ?_⟩
    have hrp : r ≠ p := Ne.symm (ne_of_none hp hr0)
    refine ⟨_, rfl, p, E, dx, [], rfl, by rw [upd_ne (Ne.symm hrp)]; exact hp, T.cl, T.nr, (by show 0 < 1000; decide), ?_⟩
    have a1 : (upd (upd H r (.lst [])) p (.ins E dx (putF "rules" (.ref r) []))) p = some (.ins E dx (putF "rules" (.ref r) [])) := upd_same
    have a2 : (upd (upd H r (.lst [])) p (.ins E dx (putF "rules" (.ref r) []))) r = some (.lst []) := by rw [upd_ne hrp, upd_same]
    have a3 : ∀ b o, H b = some o → b ≠ p → (upd (upd H r (.lst [])) p (.ins E dx (putF "rules" (.ref r) []))) b = some o := fun b o e n => by rw [upd_ne n, upd_ne (ne_of_none e hr0)]; exact e
    generalize upd (upd H r (.lst [])) p (.ins E dx (putF "rules" (.ref r) [])) = H1 at a1 a2 a3
    have free1 : ∀ x, H1 x = none → H x = none := fun x hx => by
      cases e : H x with
      | none => rfl
      | some o =>
        by_cases hxp : x = p
        · subst hxp; rw [a1] at hx; cases hx
        · rw [a3 x o e hxp] at hx; cases hx
    refine ⟨Nat.zero_le _, fun t ht0 => ?_⟩
    have htp : t ≠ p := Ne.symm (ne_of_none a1 ht0)
    have htr : t ≠ r := Ne.symm (ne_of_none a2 ht0)
    refine ⟨_, rfl, p, E, dx, _, rfl, by rw [upd_ne (Ne.symm htp)]; exact a1, T.cl, T.nt, (by show 1 < 1000; decide), ?_⟩
    have b1 : (upd (upd H1 t (.lst [])) p (.ins E dx (putF "text" (.ref t) (putF "rules" (.ref r) [])))) p = some (.ins E dx (putF "text" (.ref t) (putF "rules" (.ref r) []))) := upd_same
    have b2 : (upd (upd H1 t (.lst [])) p (.ins E dx (putF "text" (.ref t) (putF "rules" (.ref r) [])))) t = some (.lst []) := by rw [upd_ne htp, upd_same]
    have b3 : ∀ b o, H1 b = some o → b ≠ p → (upd (upd H1 t (.lst [])) p (.ins E dx (putF "text" (.ref t) (putF "rules" (.ref r) [])))) b = some o := fun b o e n => by rw [upd_ne n, upd_ne (ne_of_none e ht0)]; exact e
    generalize upd (upd H1 t (.lst [])) p (.ins E dx (putF "text" (.ref t) (putF "rules" (.ref r) []))) = H2 at b1 b2 b3
    have free2 : ∀ x, H2 x = none → H1 x = none := fun x hx => by
      cases e : H1 x with
      | none => rfl
      | some o =>
        by_cases hxp : x = p
        · subst hxp; rw [b1] at hx; cases hx
        · rw [b3 x o e hxp] at hx; cases hx
    refine ⟨Nat.zero_le _, fun kk hk0 => ?_⟩
    have hkp : kk ≠ p := Ne.symm (ne_of_none b1 hk0)
    have hkt : kk ≠ t := Ne.symm (ne_of_none b2 hk0)
    have hkr : kk ≠ r := Ne.symm (ne_of_none (b3 _ _ a2 hrp) hk0)
    refine ⟨_, rfl, p, E, dx, _, rfl, by rw [upd_ne (Ne.symm hkp)]; exact b1, T.cl, T.nk, (by show 2 < 1000; decide), ?_⟩
    refine k r t kk _ hr0 (free1 _ ht0) (free1 _ (free2 _ hk0)) (fun b o e n => ?_) ?_
    · rw [upd_ne n, upd_ne (ne_of_none (b3 _ _ (a3 _ _ e n) n) hk0)]
      exact b3 _ _ (a3 _ _ e n) n
    · have c2 : (upd (upd H2 kk (.lst [])) p (.ins E dx (putF "tokens" (.ref kk) (putF "text" (.ref t) (putF "rules" (.ref r) []))))) t = some (.lst []) := by rw [upd_ne htp, upd_ne (Ne.symm hkt)]; exact b2
      have c3 : (upd (upd H2 kk (.lst [])) p (.ins E dx (putF "tokens" (.ref kk) (putF "text" (.ref t) (putF "rules" (.ref r) []))))) r = some (.lst []) := by rw [upd_ne hrp, upd_ne (Ne.symm hkr)]; exact b3 _ _ a2 hrp
      have c4 : (upd (upd H2 kk (.lst [])) p (.ins E dx (putF "tokens" (.ref kk) (putF "text" (.ref t) (putF "rules" (.ref r) []))))) kk = some (.lst []) := by rw [upd_ne hkp, upd_same]
      exact ⟨fun z => z.1 rfl, upd_same, row_nil (fun z => z.elim hrp fun z => z.2.1 rfl) c3, fun z => z.elim htr fun z => z.elim htp fun z => z.2.2.1 rfl, c2, row_nil (fun z => z.elim hkr fun z => z.elim hkp fun z => z.2.2.2 rfl) c4⟩
/-! ### counts -/
abbrev sCounts : Stmt := inClass (top 34) 4
def spCounts (C E : Addr) : Sp := fun vs H Q _ => ∃ (p : Addr) (D : Addr → Prop), vs = [.ref p] ∧ Does C E D H p .counts Q
theorem scCounts : FnScope ["self"] ["self"] (defScope sCounts) := ⟨rfl, rfl, rfl, by decide +kernel, rfl, by decide +kernel, by decide +kernel⟩
theorem ok_counts {f C E : Addr} {fd : FuncData} (F : Fun K "counts" "EditedText.counts" sCounts f fd) (T : EdT K E) (O : Own mg) : FnOk P w K mg base CX0 1 f fd ["self"] (spCounts C E) := by
  refine F.ok scCounts (fun vs H Q E h => ?_) (fun cdv A outer s H vs Q _ hr h => ?_)
  · obtain ⟨p, D, rfl, _⟩ := h
    rfl
  · obtain ⟨p, D, rfl, rs, t, o, dm, k⟩ := h
    have o' := o
    obtain ⟨fit, dx, r, ta, ka, S⟩ := o'
    refine ⟨_, pss_one (ps_ret (pe_lst (pa_cons pe_int (pa_cons (pe_callB call_len_seq (by rfl) O.len PySem.boot_len (pa_cons (pe_fld (pv 0) rfl) pa_nil)) (pa_cons (pe_callB call_len_seq (by rfl) O.len PySem.boot_len (pa_cons (pe_fld (pv 0) rfl) pa_nil))
      (pa_cons (pe_callB call_len_seq (by rfl) O.len PySem.boot_len (pa_cons (pe_fld (pv 0) rfl) pa_nil)) pa_nil)))))), ?_⟩
    obtain ⟨vx, hx, lx⟩ := tokens_len S.toks
    obtain ⟨vr, hvr, lr⟩ := row_len S.rules
    refine ⟨_, rfl, p, E, dx, _, _, rfl, S.self, T.cl, T.nt, ef_text _ _ _, ta, _, rfl, .inl (SqL.of S.text), _, rfl, p, E, dx, _, _, rfl, S.self, T.cl, T.nk, ef_tokens _ _ _, ka, _, rfl, .inl (SqL.of hx),
      _, rfl, p, E, dx, _, _, rfl, S.self, T.cl, T.nr, ef_rules _ _ _, r, _, rfl, .inl (SqL.of hvr), (by show 4 ≤ sizeLine; decide), fun q hq => ?_⟩
    rw [vns_len, bytesN_len, lx, lr]
    refine Does.reads [0, (t.length : Int), ((toksOf rs t).length : Int), (rs.length : Int)] o dm k rfl ?_ hq (Same.upd_new (Same.refl _) hq) upd_same
    show (0 : Int) :: LxNeutral.ints [t.length, (toksOf rs t).length, (specRules rs).length] = _
    unfold specRules
    rw [List.length_map]
    rfl
/-! ### token -/
abbrev sToken : Stmt := inClass (top 34) 5
def spToken (C E : Addr) : Sp := fun vs H Q _ => ∃ (p : Addr) (D : Addr → Prop) (i : Nat), vs = [.ref p, vn i] ∧ Does C E D H p (.token i) Q
theorem scToken : FnScope ["self", "number", "found"] ["self", "number"] (defScope sToken) := ⟨rfl, rfl, rfl, by decide +kernel, rfl, by decide +kernel, by decide +kernel⟩
theorem ok_token {f C E : Addr} {fd : FuncData} (F : Fun K "token" "EditedText.token" sToken f fd) (T : EdT K E) (TT : TokT K C) (O : Own mg) : FnOk P w K mg base CX0 1 f fd ["self", "number"] (spToken C E) := by
  refine F.ok scToken (fun vs H Q E h => ?_) (fun cdv A outer s H vs Q _ hr h => ?_)
  · obtain ⟨p, D, i, rfl, _⟩ := h
    rfl
  · obtain ⟨p, D, i, rfl, rs, t, o, dm, k⟩ := h
    have nd := scToken.nd
    have o' := o
    obtain ⟨fit, dx, r, ta, ka, S⟩ := o'
    refine ⟨_, pss_cons (ps_if (pt_cmpR op_geN (pv 1) (pe_callB call_len_seq (by rfl) O.len PySem.boot_len (pa_cons (pe_fld (pv 0) rfl) pa_nil)) (nomark _)) (pss_one (ps_ret (pe_lst (pa_cons (pe_un un_neg pe_int) pa_nil)))) pss_nil)
      (pss_cons (ps_set (i := 2) nd rfl (Or.inl rfl) (pe_ix ix_listN (pe_fld (pv 0) rfl) (pv 1) (fun _ _ => rfl)))
      (pss_one (ps_ret (pe_lst (pa_cons pe_int (pa_cons (pe_fld (pv 2) rfl) (pa_cons (pe_callB call_len_seq (by rfl) O.len PySem.boot_len (pa_cons (pe_fld (pv 2) rfl) pa_nil)) (pa_cons (pe_fld (pv 2) rfl) pa_nil)))))))), ?_⟩
    obtain ⟨vx, hx, lx⟩ := tokens_len S.toks
    refine ⟨_, rfl, _, rfl, p, E, dx, _, _, rfl, S.self, T.cl, T.nk, ef_tokens _ _ _, ka, _, rfl, .inl (SqL.of hx), _, _, rfl, rfl, _, rfl, ?_⟩
    rw [lx]
    by_cases hi : (toksOf rs t).length ≤ i
    · rw [decide_eq_true hi]
      refine ⟨1, rfl, (by show 1 ≤ sizeLine; decide), fun q hq => ?_⟩
      refine Does.reads [-1] o dm k (a := Lx.says (-1)) ?_ rfl hq (Same.upd_new (Same.refl _) hq) upd_same
      show (_, _) = (_, _)
      congr 1
      show (match (toksOf rs t)[i]? with | some t_1 => _ | none => _) = _
      rw [List.getElem?_eq_none hi]
    · rw [decide_eq_false hi]
      have ix : (toksOf rs t)[i]? = some (toksOf rs t)[i] := List.getElem?_eq_getElem (by omega)
      generalize (toksOf rs t)[i] = tk at ix
      obtain ⟨vx2, a, q1, q2, q3, q4, da, qa, q5, q6, q7⟩ := tokens_get S.toks ix
      refine ⟨_, rfl, p, E, dx, _, _, rfl, S.self, T.cl, T.nk, ef_tokens _ _ _, _, rfl, ka, _, i, _, rfl, rfl, SqL.of q1, q3, ?_⟩
      refine ⟨_, rfl, a, C, da, _, _, rfl, q5, TT.cl, TT.nb, tf_begin _ _ _, _, rfl, a, C, da, _, _, rfl, q5, TT.cl, TT.np, tf_piece _ _ _, qa, _, rfl, .inl (SqL.of q7), _, rfl, a, C, da, _, _, rfl, q5, TT.cl, TT.nr, tf_rule _ _ _, (by show 4 ≤ sizeLine; decide), fun q hq => ?_⟩
      rw [vns_len, bytesN_len]
      refine Does.reads [0, (Lx.startOf (toksOf rs t) i : Int), (tk.bytes.length : Int), (Lx.ruleNo tk : Int)] o dm k (a := ⟨0, [Lx.startOf (toksOf rs t) i, tk.bytes.length, Lx.ruleNo tk], none⟩) ?_ rfl hq (Same.upd_new (Same.refl _) hq) upd_same
      show (_, _) = (_, _)
      congr 1
      show (match (toksOf rs t)[i]? with | some t_1 => _ | none => _) = _
      rw [ix]
/-! ### text_from -/
abbrev sText : Stmt := inClass (top 34) 9
def spText (C E : Addr) : Sp := fun vs H Q _ => ∃ (p : Addr) (D : Addr → Prop) (a n : Nat), vs = [.ref p, vn a, vn n] ∧ Does C E D H p (.text a n) Q
theorem scText : FnScope ["self", "at", "size"] ["self", "at", "size"] (defScope sText) := ⟨rfl, rfl, rfl, by decide +kernel, rfl, by decide +kernel, by decide +kernel⟩
theorem bytesN_ints (b : Lx.Bytes) : vns (bytesN b) = (LxNeutral.byteNums b).map V.int := by
  unfold LxNeutral.byteNums bytesN; rw [List.map_map]; show (b.map UInt8.toNat).map vn = _; rw [List.map_map]; rfl
theorem ok_text {f C E : Addr} {fd : FuncData} (F : Fun K "text_from" "EditedText.text_from" sText f fd) (T : EdT K E) (O : Own mg) : FnOk P w K mg base CX0 1 f fd ["self", "at", "size"] (spText C E) := by
  refine F.ok scText (fun vs H Q E h => ?_) (fun cdv A outer s H vs Q _ hr h => ?_)
  · obtain ⟨p, D, a, n, rfl, _⟩ := h
    rfl
  · obtain ⟨p, D, a, n, rfl, rs, t, o, dm, k⟩ := h
    have nd := scText.nd
    have o' := o
    obtain ⟨fit, dx, r, ta, ka, S⟩ := o'
    refine ⟨_, pss_cons (ps_if (pt_cmpR op_gtN (pe_op op_addN (pv 1) (pv 2)) (pe_callB call_len_seq (by rfl) O.len PySem.boot_len (pa_cons (pe_fld (pv 0) rfl) pa_nil)) (nomark _)) (pss_one (ps_ret (pe_lst (pa_cons (pe_un un_neg pe_int) pa_nil)))) pss_nil)
      (pss_one (ps_ret (pe_op op_cat (pe_lst (pa_cons pe_int (pa_cons (pv 2) pa_nil))) (pe_slice sl_list (pe_fld (pv 0) rfl) (po_some (pv 1)) (po_some (pe_op op_addN (pv 1) (pv 2))))))), ?_⟩
    refine ⟨_, rfl, _, rfl, _, _, rfl, rfl, _, rfl, p, E, dx, _, _, rfl, S.self, T.cl, T.nt, ef_text _ _ _, ta, _, rfl, .inl (SqL.of S.text), _, _, rfl, rfl, _, rfl, ?_⟩
    rw [vns_len, bytesN_len]
    by_cases hi : t.length < a + n
    · rw [decide_eq_true hi]
      refine ⟨1, rfl, (by show 1 ≤ sizeLine; decide), fun q hq => ?_⟩
      refine Does.reads [-1] o dm k (a := Lx.says (-1)) ?_ rfl hq (Same.upd_new (Same.refl _) hq) upd_same
      show (_, _) = (_, _)
      congr 1
      show (if t.length < a + n then _ else _) = _
      rw [if_pos hi]
    · rw [decide_eq_false hi]
      refine ⟨_, rfl, (by show 2 ≤ sizeLine; decide), fun q1 hq1 => ?_⟩
      have s1 : Same H (upd H q1 (.lst [V.int 0, vn n])) := Same.upd_new (Same.refl _) hq1
      have e1 : (upd H q1 (.lst [V.int 0, vn n])) q1 = some (.lst [V.int 0, vn n]) := upd_same
      generalize upd H q1 (.lst [V.int 0, vn n]) = H1 at s1 e1
      refine ⟨_, rfl, p, E, dx, _, _, rfl, s1 _ _ S.self, T.cl, T.nt, ef_text _ _ _, _, rfl, _, rfl, _, rfl, _, rfl, _, _, rfl, rfl, _, rfl, ta, _, rfl, SqL.of (s1 _ _ S.text), fun q2 hq2 => ?_⟩
      have s2 : Same H1 (upd H1 q2 (.lst (vns (bytesN ((t.drop a).take n))))) := Same.upd_new (Same.refl _) hq2
      have e2 : (upd H1 q2 (.lst (vns (bytesN ((t.drop a).take n))))) q2 = some (.lst (vns (bytesN ((t.drop a).take n)))) := upd_same
      rw [cutV_nn, vns_drop, vns_take, show a + n - a = n by omega, show ((bytesN t).drop a).take n = bytesN ((t.drop a).take n) by unfold bytesN; rw [List.map_take, List.map_drop]]
      generalize upd H1 q2 (.lst (vns (bytesN ((t.drop a).take n)))) = H2 at s2 e2
      have hl := fit.len
      have hl2 : ((t.drop a).take n).length = n := by rw [List.length_take, List.length_drop]; omega
      refine ⟨q1, q2, _, _, rfl, rfl, s2 _ _ e1, e2, by rw [vns_len, bytesN_len, hl2]; exact small512' (by show 2 + n ≤ _; omega), fun q hq => ?_⟩
      have hq0 : H q = none := (s1.trans s2).free hq
      refine Does.reads (0 :: LxNeutral.sized ((t.drop a).take n)) o dm k (a := ⟨0, [], some ((t.drop a).take n)⟩) ?_ rfl hq0 (Same.upd_new (s1.trans s2) hq0) ?_
      · show (_, _) = (_, _)
        congr 1
        show (if t.length < a + n then _ else _) = _
        rw [if_neg hi]
      · rw [upd_same, bytesN_ints]
        unfold LxNeutral.sized
        rw [hl2]
        rfl
end
end Elx

set_option Elab.async false
set_option linter.all false
set_option maxRecDepth 100000
set_option maxHeartbeats 2000000
namespace Elx
open PySem PySem.Spec PyProof.Rows L2
open PySem.W (Codec)
theorem pe_fldK {X : Cx} (K : PySem.W.Frag) (hK : X.K = K) {e : Expr} {f : Str} {pos : Pos} {ta : TE} (he : PE X e ta) (hb : attributeBase e f X.env (eval e X.env) = eval e X.env) : PE X (.Attribute e f pos) (tFld K ta f) := hK ▸ pe_fld he hb
theorem headD_getD {α : Type} (l : List (List α)) : l.headD [] = l.getD 0 [] := by cases l <;> rfl
theorem match_math {xs : List PN} {s : Lx.Bytes} (ok : OkFrom 0 xs) (h : xs ≠ []) : (match ((Lx.ruleEnds (xs.map toNode) s).headD []).getLast? with
      | some q => if q = 0 then Lx.says (-1) else Lx.says q
      | none => Lx.says (-1)) = if (matchedL (bytesN s) xs).getD 0 0 = 0 then Lx.says (-1) else Lx.says ((matchedL (bytesN s) xs).getD 0 0 : Nat) := by
  have e := ruleEnds_get (s := s) ok h 0
  rw [headD_getD, ← e]
  unfold endOf
  cases ((Lx.ruleEnds (xs.map toNode) s).getD 0 []).getLast? with
  | none => simp
  | some q => simp
theorem rules_get {rs : List (List PN)} {i : Nat} {xs : List PN} (h : rs[i]? = some xs) : (specRules rs)[i]? = some (xs.map toNode) := by
  unfold specRules; rw [List.getElem?_map, h]; rfl
section
variable {P : Program} {w : World} {K : PySem.W.Frag} {mg : Str → Option Value} {base : Heap}
/-! ### longest_match -/
abbrev sMatch : Stmt := inClass (top 34) 2
def spMatch (K : PySem.W.Frag) (C E : Addr) : Sp := fun vs H Q _ => ∃ (p a : Addr) (D : Addr → Prop) (n : Nat) (b : Lx.Bytes), vs = [.ref p, vn n, .ref a] ∧ SqL K H a (vns (bytesN b)) ∧ Does C E D H p (.match_ n b) Q
theorem scMatch : FnScope ["self", "number", "piece", "size"] ["self", "number", "piece"] (defScope sMatch) := ⟨rfl, rfl, rfl, by decide +kernel, rfl, by decide +kernel, by decide +kernel⟩
theorem ok_match {f C E : Addr} {fd : FuncData} (F : Fun K "longest_match" "EditedText.longest_match" sMatch f fd) (T : EdT K E) (O : Own mg) (CE : CEd mg) (C1 : Callee P w K mg base 4 "longest_matches" ["nodes", "text"] (spLms K)) : FnOk P w K mg base CX0 5 f fd ["self", "number", "piece"] (spMatch K C E) := by
  refine F.ok scMatch (fun vs H Q E h => ?_) (fun cdv A outer s H vs Q _ hr h => ?_)
  · obtain ⟨p, a, D, n, b, rfl, _⟩ := h
    rfl
  · obtain ⟨p, a, D, n, b, rfl, hA, rs, t, o, dm, k⟩ := h
    have nd := scMatch.nd
    have o' := o
    obtain ⟨fit, dx, r, ta, ka, S⟩ := o'
    refine ⟨_, pss_cons (ps_if (pt_cmpR op_geN (pv 1) (pe_callB call_len_seq (by rfl) O.len PySem.boot_len (pa_cons (pe_fld (pv 0) rfl) pa_nil)) (nomark _)) (pss_one (ps_ret (pe_lst (pa_cons (pe_un un_neg pe_int) pa_nil)))) pss_nil)
      (pss_cons (ps_if (pt_cmpR op_gtN (pe_callB call_len_seq (by rfl) O.len PySem.boot_len (pa_cons (pv 2) pa_nil)) (pe_const rfl CE.bytes) (nomark _)) (pss_one (ps_ret (pe_lst (pa_cons (pe_un un_neg pe_int) pa_nil)))) pss_nil)
      (pss_cons (ps_set (i := 3) nd rfl (Or.inl rfl) (pe_ix ix_listN (pe_fn C1 hr rfl (pa_cons (pe_ix ix_listN (pe_fld (pv 0) rfl) (pv 1) (fun _ _ => rfl)) (pa_cons (pv 2) pa_nil))) pe_int (fun _ _ => rfl)))
      (pss_cons (ps_if (pt_cmpR op_eqN (pv 3) pe_int (nomark _)) (pss_one (ps_ret (pe_lst (pa_cons (pe_un un_neg pe_int) pa_nil)))) pss_nil)
      (pss_one (ps_ret (pe_lst (pa_cons (pv 3) pa_nil))))))), ?_⟩
    obtain ⟨vr, hvr, lr⟩ := row_len S.rules
    refine ⟨_, rfl, _, rfl, p, E, dx, _, _, rfl, S.self, T.cl, T.nr, ef_rules _ _ _, r, _, rfl, .inl (SqL.of hvr), _, _, rfl, rfl, _, rfl, ?_⟩
    rw [lr]
    have hst : Lx.step ⟨specRules rs, t⟩ (.match_ n b) = (⟨specRules rs, t⟩, match (specRules rs)[n]? with
      | none => Lx.says (-2)
      | some r => if Lx.TEXT < b.length then Lx.says (-3) else match ((Lx.ruleEnds r b).headD []).getLast? with
        | some q => if q = 0 then Lx.says (-1) else Lx.says q
        | none => Lx.says (-1)) := rfl
    by_cases hi : rs.length ≤ n
    · rw [decide_eq_true hi]
      refine ⟨2, rfl, (by show 1 ≤ sizeLine; decide), fun q hq => ?_⟩
      refine Does.reads [-2] o dm k (a := Lx.says (-2)) ?_ rfl hq (Same.upd_new (Same.refl _) hq) upd_same
      rw [hst, List.getElem?_eq_none (by unfold specRules; rw [List.length_map]; exact hi)]
    · rw [decide_eq_false hi]
      have ix : rs[n]? = some rs[n] := List.getElem?_eq_getElem (by omega)
      generalize rs[n] = xs at ix
      rw [rules_get ix] at hst
      refine ⟨_, rfl, a, _, rfl, .inl hA, _, 512, rfl, rfl, _, rfl, ?_⟩
      rw [vns_len, bytesN_len]
      by_cases hb : 512 < b.length
      · rw [decide_eq_true hb]
        refine ⟨3, rfl, (by show 1 ≤ sizeLine; decide), fun q hq => ?_⟩
        refine Does.reads [-3] o dm k (a := Lx.says (-3)) ?_ rfl hq (Same.upd_new (Same.refl _) hq) upd_same
        rw [hst]
        show (_, if 512 < b.length then _ else _) = _
        rw [if_pos hb]
      · rw [decide_eq_false hb]
        have hst2 : Lx.step ⟨specRules rs, t⟩ (.match_ n b) = (⟨specRules rs, t⟩, if (matchedL (bytesN b) xs).getD 0 0 = 0 then Lx.says (-1) else Lx.says ((matchedL (bytesN b) xs).getD 0 0 : Nat)) := by
          rw [hst, ← match_math (fit.rules.ok xs (List.mem_of_getElem? ix)).1 (fit.rules.ok xs (List.mem_of_getElem? ix)).2]
          show (_, if 512 < b.length then _ else _) = _
          rw [if_neg hb]
        obtain ⟨ok1, ok2⟩ := fit.rules.ok xs (List.mem_of_getElem? ix)
        obtain ⟨as, q0, g1, g2, g3, g4⟩ := row_get S.rules ix
        refine ⟨_, rfl, p, E, dx, _, _, rfl, S.self, T.cl, T.nr, ef_rules _ _ _, _, rfl, r, _, n, _, rfl, rfl, SqL.of g1, g3, _, rfl, q0, a, xs, b, rfl, NodesIn.at g4, hA, ok1, ok2, fit.rules.few xs (List.mem_of_getElem? ix), by omega, fun m H1 hm0 s1 hm => ?_⟩
        have hml : (matchedL (bytesN b) xs).length = b.length + 1 := matched_len ok1 ok2
        refine ⟨m, _, 0, _, rfl, rfl, SqL.of hm, vns_getD (by omega), ?_⟩
        refine ⟨_, rfl, _, 0, rfl, rfl, _, rfl, ?_⟩
        by_cases h0 : (matchedL (bytesN b) xs).getD 0 0 = 0
        · rw [decide_eq_true h0]
          refine ⟨1, rfl, (by show 1 ≤ sizeLine; decide), fun q hq => ?_⟩
          refine Does.reads [-1] o dm k (a := Lx.says (-1)) ?_ rfl (s1.free hq) (Same.upd_new s1 (s1.free hq)) upd_same
          rw [hst2, if_pos h0]
        · rw [decide_eq_false h0]
          refine ⟨_, rfl, (by show 1 ≤ sizeLine; decide), fun q hq => ?_⟩
          refine Does.reads [((matchedL (bytesN b) xs).getD 0 0 : Nat)] o dm k (a := Lx.says ((matchedL (bytesN b) xs).getD 0 0 : Nat)) ?_ rfl (s1.free hq) (Same.upd_new s1 (s1.free hq)) upd_same
          rw [hst2, if_neg h0]
/-! ### token_at -/
abbrev sAt : Stmt := inClass (top 34) 6
def spAt (C E : Addr) : Sp := fun vs H Q _ => ∃ (p : Addr) (D : Addr → Prop) (i : Nat), vs = [.ref p, vn i] ∧ Does C E D H p (.at_ i) Q
theorem scAt : FnScope ["self", "place", "begun", "token"] ["self", "place"] (defScope sAt) := ⟨rfl, rfl, rfl, by decide +kernel, rfl, by decide +kernel, by decide +kernel⟩
theorem ok_at {f C E : Addr} {fd : FuncData} (F : Fun K "token_at" "EditedText.token_at" sAt f fd) (T : EdT K E) (TT : TokT K C) (O : Own mg) : FnOk P w K mg base CX0 1 f fd ["self", "place"] (spAt C E) := by
  refine F.ok scAt (fun vs H Q E h => ?_) (fun cdv A outer s H vs Q _ hr h => ?_)
  · obtain ⟨p, D, i, rfl, _⟩ := h
    rfl
  · obtain ⟨p, D, pl, rfl, rs, t, o, dm, k⟩ := h
    have nd := scAt.nd
    have o' := o
    obtain ⟨fit, dx, r, ta, ka, S⟩ := o'
    refine ⟨_, pss_cons (ps_if (pt_cmpR op_geN (pv 1) (pe_callB call_len_seq (by rfl) O.len PySem.boot_len (pa_cons (pe_fld (pv 0) rfl) pa_nil)) (nomark _)) (pss_one (ps_ret (pe_lst (pa_cons (pe_un un_neg pe_int) pa_nil)))) pss_nil)
      (pss_cons (ps_setLc (i := 2) (own := [("token", 3)]) rfl nd rfl rfl rfl (pi_list (pe_fld (pv 0) rfl))
        (show BlkOk ["self", "place", "begun", "token"] (defScope sAt) _ _ from ⟨rfl, by decide +kernel, by decide +kernel, by decide +kernel, by decide +kernel⟩)
        (fun _ _ _ _ _ => pg_name (i := 3) nd rfl (Or.inl rfl)) (fun _ _ _ _ _ => pts_one (pt_cmpR op_leN (pe_fldK K rfl (pv 3) rfl) (pv 1) (nomark _))) (fun _ _ _ _ _ => pv 3))
      (pss_one (ps_ret (pe_lst (pa_cons (pe_op op_subN (pe_callB call_len_seq (by rfl) O.len PySem.boot_len (pa_cons (pv 2) pa_nil)) pe_int) pa_nil))))), ?_⟩
    refine ⟨_, rfl, _, rfl, p, E, dx, _, _, rfl, S.self, T.cl, T.nt, ef_text _ _ _, ta, _, rfl, .inl (SqL.of S.text), _, _, rfl, rfl, _, rfl, ?_⟩
    rw [vns_len, bytesN_len]
    have hst : Lx.step ⟨specRules rs, t⟩ (.at_ pl) = (⟨specRules rs, t⟩, Lx.orNo ((List.range (toksOf rs t).length).find? fun (i : Nat) => decide (pl < Lx.startOf (toksOf rs t) (i + 1)))) := rfl
    by_cases hi : t.length ≤ pl
    · rw [decide_eq_true hi]
      refine ⟨1, rfl, (by show 1 ≤ sizeLine; decide), fun q hq => ?_⟩
      refine Does.reads [-1] o dm k (a := Lx.says (-1)) ?_ rfl hq (Same.upd_new (Same.refl _) hq) upd_same
      rw [hst, find_range_none]
      · rfl
      · intro j hj
        refine decide_eq_false ?_
        have h1 := startOf_mono (toksOf rs t) (i := j + 1) (j := (toksOf rs t).length) (by omega)
        rw [startOf_all, fit.sum] at h1
        omega
    · rw [decide_eq_false hi]
      obtain ⟨n, m1, m2, m3, m4⟩ := at_math (toksOf rs t) 0 pl (Nat.zero_le _) (by rw [fit.sum]; omega)
      rw [Nat.zero_add] at m3 m4
      have S7 := S.toks
      obtain ⟨w1, as, w2, w3, w4⟩ := S7
      rw [begins_len] at w3
      have htl := fit.toks
      have hlen := fit.len
      refine ⟨_, rfl, p, E, dx, _, _, rfl, S.self, T.cl, T.nk, ef_tokens _ _ _, ka, rfl, ⟨_, SqL.of w2⟩, fun D1 hD1 => ?_⟩
      refine lc_by (toksOf rs t).length (fun i H' => Same H H' ∧ ∃ acc : List V, H' D1 = some (.lst acc) ∧ acc.length = (((begins 0 (toksOf rs t)).take i).filter fun x => decide (x.1 ≤ pl)).length ∧ acc.length ≤ i) ⟨Same.upd_new (Same.refl _) hD1, [], upd_same, rfl, Nat.le_refl _⟩ (fun H' ⟨s1, acc, h1, h2, h3⟩ => ⟨?_, ?_⟩) (fun i H' hi ⟨s1, acc, h1, h2, h3⟩ => ⟨?_, ?_⟩)
      · exact ⟨_, SqL.of (s1 _ _ w2), by rw [List.length_map, w3]; exact Nat.le_refl _⟩
      · rw [List.take_of_length_le (by rw [begins_len]; exact Nat.le_refl _), m2] at h2
        refine ⟨_, rfl, D1, _, rfl, .inl (SqL.of h1), _, 1, rfl, rfl, by omega, (by show 1 ≤ sizeLine; decide), fun q hq => ?_⟩
        rw [h2]
        refine Does.reads [((n : Nat) : Int)] o dm k (a := Lx.says (n : Nat)) ?_ rfl (s1.free hq) (Same.upd_new s1 (s1.free hq)) upd_same
        rw [hst, find_range (f := fun (i : Nat) => decide (pl < Lx.startOf (toksOf rs t) (i + 1))) m1 (decide_eq_true m4) (fun j hj => decide_eq_false ?_)]
        · rfl
        · have := startOf_mono (toksOf rs t) (i := j + 1) (j := n) (by omega)
          omega
      · exact ⟨_, _, SqL.of (s1 _ _ w2), by rw [List.getElem?_map, List.getElem?_eq_getElem (show i < as.length by omega)]; rfl⟩
      · rintro x H2 ⟨rfl, hy⟩
        have hy := hy _ (SqL.of (s1 _ _ w2))
        have ha : as[i]? = some as[i] := List.getElem?_eq_getElem (show i < as.length by omega)
        rw [List.getElem?_map, ha] at hy
        have ex : V.ref as[i] = x := Option.some.inj hy
        subst ex
        obtain ⟨tk, hx'⟩ : ∃ tk, (begins 0 (toksOf rs t))[i]? = some tk := ⟨_, List.getElem?_eq_getElem (show i < (begins 0 (toksOf rs t)).length by rw [begins_len]; exact hi)⟩
        obtain ⟨g1, da, qa, g2, g3, g4⟩ := w4 i _ tk ha hx'
        refine ⟨rfl, _, rfl, as[i], C, da, _, _, rfl, s1 _ _ g2, TT.cl, TT.nb, tf_begin _ _ _, _, rfl, _, _, rfl, rfl, _, rfl, ?_⟩
        have e := take_snoc hx'
        by_cases hle : tk.1 ≤ pl
        · rw [decide_eq_true hle]
          refine ⟨_, rfl, acc, h1, small512 (by omega), Same.upd_new s1 hD1, _, upd_same, ?_, ?_⟩
          · rw [e, List.filter_append, List.length_append, List.length_append, h2, List.filter_cons, if_pos (decide_eq_true hle)]
            rfl
          · rw [List.length_append]; show acc.length + 1 ≤ _; omega
        · rw [decide_eq_false hle]
          refine ⟨s1, acc, h1, ?_, by omega⟩
          rw [e, List.filter_append, List.length_append, h2, List.filter_cons, if_neg (by rw [decide_eq_false hle]; exact Bool.false_ne_true)]
          rfl
/-! ### tally -/
abbrev sTally : Stmt := inClass (top 34) 8
def spTally (C E : Addr) : Sp := fun vs H Q _ => ∃ (p : Addr) (D : Addr → Prop) (i : Nat), vs = [.ref p, vn i] ∧ Does C E D H p (.tally i) Q
theorem scTally : FnScope ["self", "rule", "token"] ["self", "rule"] (defScope sTally) := ⟨rfl, rfl, rfl, by decide +kernel, rfl, by decide +kernel, by decide +kernel⟩
theorem ok_tally {f C E : Addr} {fd : FuncData} (F : Fun K "tally" "EditedText.tally" sTally f fd) (T : EdT K E) (TT : TokT K C) (O : Own mg) : FnOk P w K mg base CX0 1 f fd ["self", "rule"] (spTally C E) := by
  refine F.ok scTally (fun vs H Q E h => ?_) (fun cdv A outer s H vs Q _ hr h => ?_)
  · obtain ⟨p, D, i, rfl, _⟩ := h
    rfl
  · obtain ⟨p, D, ru, rfl, rs, t, o, dm, k⟩ := h
    have nd := scTally.nd
    have o' := o
    obtain ⟨fit, dx, r, ta, ka, S⟩ := o'
    refine ⟨_, pss_one (ps_ret (pe_lst (pa_cons (pe_callB call_len_seq (by rfl) O.len PySem.boot_len (pa_cons (pe_lc (own := [("token", 2)]) rfl nd (pi_list (pe_fld (pv 0) rfl))
        (show BlkOk ["self", "rule", "token"] (defScope sTally) _ _ from ⟨rfl, by decide +kernel, by decide +kernel, by decide +kernel, by decide +kernel⟩)
        (fun _ _ _ _ _ => pg_name (i := 2) nd rfl (Or.inl rfl)) (fun _ _ _ _ _ => pts_one (pt_cmpR op_eqN (pe_fldK K rfl (pv 2) rfl) (pv 1) (nomark _))) (fun _ _ _ _ _ => pv 2)) pa_nil)) pa_nil))), ?_⟩
    have hst : Lx.step ⟨specRules rs, t⟩ (.tally ru) = (⟨specRules rs, t⟩, Lx.says (((toksOf rs t).filter fun (t : Lx.Tok) => Lx.ruleNo t == ru).length : Nat)) := rfl
    have S7 := S.toks
    obtain ⟨w1, as, w2, w3, w4⟩ := S7
    rw [begins_len] at w3
    have htl := fit.toks
    have hlen := fit.len
    refine ⟨_, rfl, p, E, dx, _, _, rfl, S.self, T.cl, T.nk, ef_tokens _ _ _, ka, rfl, ⟨_, SqL.of w2⟩, fun D1 hD1 => ?_⟩
    refine lc_by (toksOf rs t).length (fun i H' => Same H H' ∧ ∃ acc : List V, H' D1 = some (.lst acc) ∧ acc.length = (((toksOf rs t).take i).filter fun (t : Lx.Tok) => Lx.ruleNo t == ru).length ∧ acc.length ≤ i) ⟨Same.upd_new (Same.refl _) hD1, [], upd_same, rfl, Nat.le_refl _⟩ (fun H' ⟨s1, acc, h1, h2, h3⟩ => ⟨?_, ?_⟩) (fun i H' hi ⟨s1, acc, h1, h2, h3⟩ => ⟨?_, ?_⟩)
    · exact ⟨_, SqL.of (s1 _ _ w2), by rw [List.length_map, w3]; exact Nat.le_refl _⟩
    · rw [List.take_length] at h2
      refine ⟨D1, _, rfl, .inl (SqL.of h1), (by show 1 ≤ sizeLine; decide), fun q hq => ?_⟩
      rw [h2]
      exact Does.reads [((((toksOf rs t).filter fun (t : Lx.Tok) => Lx.ruleNo t == ru).length : Nat) : Int)] o dm k hst rfl (s1.free hq) (Same.upd_new s1 (s1.free hq)) upd_same
    · exact ⟨_, _, SqL.of (s1 _ _ w2), by rw [List.getElem?_map, List.getElem?_eq_getElem (show i < as.length by omega)]; rfl⟩
    · rintro x H2 ⟨rfl, hy⟩
      have hy := hy _ (SqL.of (s1 _ _ w2))
      have ha : as[i]? = some as[i] := List.getElem?_eq_getElem (show i < as.length by omega)
      rw [List.getElem?_map, ha] at hy
      have ex : V.ref as[i] = x := Option.some.inj hy
      subst ex
      have hx : (toksOf rs t)[i]? = some (toksOf rs t)[i] := List.getElem?_eq_getElem hi
      generalize (toksOf rs t)[i] = tk at hx
      obtain ⟨g1, da, qa, g2, g3, g4⟩ := w4 i _ _ ha (begins_at hx)
      refine ⟨rfl, _, rfl, as[i], C, da, _, _, rfl, s1 _ _ g2, TT.cl, TT.nr, tf_rule _ _ _, _, rfl, _, _, rfl, rfl, _, rfl, ?_⟩
      have e := take_snoc hx
      by_cases hle : Lx.ruleNo tk = ru
      · rw [decide_eq_true hle]
        refine ⟨_, rfl, acc, h1, small512 (by omega), Same.upd_new s1 hD1, _, upd_same, ?_, ?_⟩
        · rw [e, List.filter_append, List.length_append, List.length_append, h2, List.filter_cons, if_pos (beq_iff_eq.mpr hle)]
          rfl
        · rw [List.length_append]; show acc.length + 1 ≤ _; omega
      · rw [decide_eq_false hle]
        refine ⟨s1, acc, h1, ?_, by omega⟩
        rw [e, List.filter_append, List.length_append, h2, List.filter_cons, if_neg (fun z => hle (beq_iff_eq.mp z))]
        rfl
/-! ### find_token -/
abbrev sFind : Stmt := inClass (top 34) 7
def spFind (C E : Addr) : Sp := fun vs H Q _ => ∃ (p : Addr) (D : Addr → Prop) (i n : Nat), vs = [.ref p, vn i, vn n] ∧ n < 4294967296 ∧ Does C E D H p (.find i n) Q
theorem scFind : FnScope ["self", "rule", "begin_at", "number"] ["self", "rule", "begin_at"] (defScope sFind) := ⟨rfl, rfl, rfl, by decide +kernel, rfl, by decide +kernel, by decide +kernel⟩
theorem ok_find {f C E : Addr} {fd : FuncData} (F : Fun K "find_token" "EditedText.find_token" sFind f fd) (T : EdT K E) (TT : TokT K C) (O : Own mg) : FnOk P w K mg base CX0 1 f fd ["self", "rule", "begin_at"] (spFind C E) := by
  refine F.ok scFind (fun vs H Q E h => ?_) (fun cdv A outer s H vs Q _ hr h => ?_)
  · obtain ⟨p, D, i, n, rfl, _⟩ := h
    rfl
  · obtain ⟨p, D, ru, n, rfl, hn, rs, t, o, dm, k⟩ := h
    have nd := scFind.nd
    have o' := o
    obtain ⟨fit, dx, r, ta, ka, S⟩ := o'
    refine ⟨_, pss_cons (ps_for PassesOwn.never rfl (pi_range2 rfl O.range (pa_cons (pv 2) (pa_cons (pe_callB call_len_seq (by rfl) O.len PySem.boot_len (pa_cons (pe_fld (pv 0) rfl) pa_nil)) pa_nil))) (pg_name (i := 3) nd rfl (Or.inl rfl))
        (pss_one (ps_if (pt_cmpR op_eqN (pe_fld (pe_ix ix_listN (pe_fld (pv 0) rfl) (pv 3) (fun _ _ => rfl)) rfl) (pv 1) (nomark _)) (pss_one (ps_ret (pe_lst (pa_cons (pv 3) pa_nil)))) pss_nil)))
      (pss_one (ps_ret (pe_lst (pa_cons (pe_un un_neg pe_int) pa_nil)))), ?_⟩
    have hst : Lx.step ⟨specRules rs, t⟩ (.find ru n) = (⟨specRules rs, t⟩, Lx.orNo ((List.range (toksOf rs t).length).find? fun (i : Nat) => decide (n ≤ i) && ((toksOf rs t)[i]?).any fun (t : Lx.Tok) => Lx.ruleNo t == ru)) := rfl
    obtain ⟨vx, hx, lx⟩ := tokens_len S.toks
    have htl := fit.toks
    have hlen := fit.len
    refine ⟨_, rfl, _, rfl, p, E, dx, _, _, rfl, S.self, T.cl, T.nk, ef_tokens _ _ _, ka, _, rfl, .inl (SqL.of hx), _, _, rfl, ?_⟩
    rw [lx]
    refine ⟨⟨by omega, by omega, by omega, by omega⟩, ?_⟩
    have en : (((toksOf rs t).length : Int) - (n : Int)).toNat = (toksOf rs t).length - n := by omega
    rw [en]
    refine for_range (lo := (n : Int)) (n := (toksOf rs t).length - n) (fun i σ H' => H' = H ∧ (∃ v3 : Option V, σ = [some (.ref p), some (vn ru), some (vn n), v3]) ∧ ∀ j tk, j < n + i → n ≤ j → (toksOf rs t)[j]? = some tk → Lx.ruleNo tk ≠ ru) ⟨rfl, ⟨none, rfl⟩, fun j tk h1 h2 => by omega⟩ ?_ ?_
    · rintro i σ H' hi ⟨rfl, ⟨v3, rfl⟩, hno⟩
      have e0 : V.int ((n : Int) + (i : Int)) = vn (n + i) := by show V.int _ = V.int _; congr 1
      rw [e0]
      have ix : (toksOf rs t)[n + i]? = some (toksOf rs t)[n + i] := List.getElem?_eq_getElem (by omega)
      generalize (toksOf rs t)[n + i] = tk at ix
      obtain ⟨vx2, a, q1, q2, q3, q4, da, qa, q5, q6, q7⟩ := tokens_get S.toks ix
      refine ⟨_, rfl, p, E, dx, _, _, rfl, S.self, T.cl, T.nk, ef_tokens _ _ _, _, rfl, ka, _, n + i, _, rfl, rfl, SqL.of q1, q3, a, C, da, _, _, rfl, q5, TT.cl, TT.nr, tf_rule _ _ _, _, rfl, _, _, rfl, rfl, _, rfl, ?_⟩
      by_cases hle : Lx.ruleNo tk = ru
      · show if decide (Lx.ruleNo tk = ru) = true then _ else _
        rw [decide_eq_true hle]
        refine ⟨_, rfl, (by show 1 ≤ sizeLine; decide), fun q hq => ?_⟩
        refine Does.reads [((n + i : Nat) : Int)] o dm k (a := Lx.says (n + i : Nat)) ?_ rfl hq (Same.upd_new (Same.refl _) hq) upd_same
        rw [hst, find_range (f := fun (i : Nat) => decide (n ≤ i) && ((toksOf rs t)[i]?).any fun (t : Lx.Tok) => Lx.ruleNo t == ru) (i := n + i) (by omega) ?_ (fun j hj => ?_)]
        · rfl
        · show (decide (n ≤ n + i) && ((toksOf rs t)[n + i]?).any fun (t : Lx.Tok) => Lx.ruleNo t == ru) = true
          rw [ix, decide_eq_true (by omega)]
          exact beq_iff_eq.mpr hle
        · by_cases hjn : n ≤ j
          · cases e : (toksOf rs t)[j]? with
            | none => simp
            | some tj =>
              have := hno j tj hj hjn e
              simp [this]
          · show (decide (n ≤ j) && _) = false
            rw [decide_eq_false hjn, Bool.false_and]
      · show if decide (Lx.ruleNo tk = ru) = true then _ else _
        rw [decide_eq_false hle]
        refine ⟨rfl, ⟨_, rfl⟩, fun j tj h1 h2 h3 => ?_⟩
        by_cases hj : j = n + i
        · subst hj; rw [ix] at h3; rw [← Option.some.inj h3]; exact hle
        · exact hno j tj (by omega) h2 h3
    · rintro σ H' ⟨rfl, ⟨v3, rfl⟩, hno⟩
      refine ⟨1, rfl, (by show 1 ≤ sizeLine; decide), fun q hq => ?_⟩
      refine Does.reads [-1] o dm k (a := Lx.says (-1)) ?_ rfl hq (Same.upd_new (Same.refl _) hq) upd_same
      rw [hst, find_range_none]
      · rfl
      · intro j hj
        by_cases hjn : n ≤ j
        · cases e : (toksOf rs t)[j]? with
          | none => simp
          | some tj =>
            have := hno j tj (by omega) hjn e
            simp [this]
        · rw [decide_eq_false hjn, Bool.false_and]
end
end Elx

set_option Elab.async false
set_option linter.all false
set_option maxRecDepth 100000
set_option maxHeartbeats 2000000
namespace Elx
open PySem PySem.Spec PyProof.Rows L2
open PySem.W (Codec)
theorem toks_nil (rs : List (List PN)) : toksOf rs [] = [] := rfl
theorem spec_snoc (rs : List (List PN)) (xs : List PN) : specRules (rs ++ [xs]) = specRules rs ++ [xs.map toNode] := by unfold specRules; rw [List.map_append]; rfl
theorem spec_len (rs : List (List PN)) : (specRules rs).length = rs.length := by unfold specRules; rw [List.length_map]
theorem Keeps.mono {D D' : Addr → Prop} {H H' : Hp} (k : Keeps D H H') (m : ∀ b, D b → D' b) : Keeps D' H H' := fun b o e n => k b o e fun z => n (m b z)
abbrev Just (p : Addr) : Addr → Prop := fun b => b = p
section
variable {P : Program} {w : World} {K : PySem.W.Frag} {mg : Str → Option Value} {base : Heap}
/-! ### add_rule -/
abbrev sRule : Stmt := inClass (top 34) 1
def spRule (K : PySem.W.Frag) (C E : Addr) : Sp := fun vs H Q _ => ∃ (p a : Addr) (D : Addr → Prop) (l : List Nat), vs = [.ref p, .ref a] ∧ SqL K H a (vns l) ∧ Does C E D H p (.rule l) Q
theorem scRule : FnScope ["self", "numbers", "nodes"] ["self", "numbers"] (defScope sRule) := ⟨rfl, rfl, rfl, by decide +kernel, rfl, by decide +kernel, by decide +kernel⟩
theorem ok_rule {f C E : Addr} {fd : FuncData} (F : Fun K "add_rule" "EditedText.add_rule" sRule f fd) (T : EdT K E) (O : Own mg) (CE : CEd mg) (C1 : Callee P w K mg base 2 "is_expression" ["numbers"] (spIsExpr K)) (C2 : Callee P w K mg base 1 "nodes_of" ["numbers"] (spNodes K)) (C3 : Callee P w K mg base 1 "matches_empty" ["nodes"] (spEmpty K)) :
    FnOk P w K mg base CX0 3 f fd ["self", "numbers"] (spRule K C E) := by
  refine F.ok scRule (fun vs H Q E h => ?_) (fun cdv A outer s H vs Q _ hr h => ?_)
  · obtain ⟨p, a, D, l, rfl, _⟩ := h
    rfl
  · obtain ⟨p, a, D, l, rfl, hA, rs, t, o, dm, k⟩ := h
    have nd := scRule.nd
    have hr1 : Room 1 _ := hr.mono (by decide)
    have o' := o
    obtain ⟨fit, dx, r, ta, ka, S⟩ := o'
    refine ⟨_, pss_cons (ps_if (pt_cmpR op_gtN (pe_callB call_len_seq (by rfl) O.len PySem.boot_len (pa_cons (pe_fld (pv 0) rfl) pa_nil)) pe_int (nomark _)) (pss_one (ps_ret (pe_lst (pa_cons (pe_un un_neg pe_int) pa_nil)))) pss_nil)
      (pss_cons (ps_if (pt_cmpR op_eqN (pe_callB call_len_seq (by rfl) O.len PySem.boot_len (pa_cons (pe_fld (pv 0) rfl) pa_nil)) (pe_const rfl CE.rules) (nomark _)) (pss_one (ps_ret (pe_lst (pa_cons (pe_un un_neg pe_int) pa_nil)))) pss_nil)
      (pss_cons (ps_if (pt_not (pt_val (pe_fn C1 hr rfl (pa_cons (pv 1) pa_nil)))) (pss_one (ps_ret (pe_lst (pa_cons (pe_un un_neg pe_int) pa_nil)))) pss_nil)
      (pss_cons (ps_set (i := 2) nd rfl (Or.inl rfl) (pe_fn C2 hr1 rfl (pa_cons (pv 1) pa_nil)))
      (pss_cons (ps_if (pt_val (pe_fn C3 hr1 rfl (pa_cons (pv 2) pa_nil))) (pss_one (ps_ret (pe_lst (pa_cons (pe_un un_neg pe_int) pa_nil)))) pss_nil)
      (pss_cons (ps_expr (pe_bm PySem.F.plainAttrs_list PySem.F.slot_list_append PySem.F.type_list_append mt_append (pe_fld (pv 0) rfl) (pa_cons (pv 2) pa_nil)))
      (pss_one (ps_ret (pe_lst (pa_cons (pe_op op_subN (pe_callB call_len_seq (by rfl) O.len PySem.boot_len (pa_cons (pe_fld (pv 0) rfl) pa_nil)) pe_int) pa_nil))))))))), ?_⟩
    have hst : Lx.step ⟨specRules rs, t⟩ (.rule l) = if t.isEmpty = false then (⟨specRules rs, t⟩, Lx.says (-1)) else if Lx.RULES ≤ (specRules rs).length then (⟨specRules rs, t⟩, Lx.says (-2)) else (match Lx.nodesIn l with
      | none => (⟨specRules rs, t⟩, Lx.says (-3))
      | some r => if Lx.matchesNothing r = true then (⟨specRules rs, t⟩, Lx.says (-4)) else (⟨specRules rs ++ [r], t⟩, Lx.says (specRules rs).length)) := rfl
    rw [nodesIn_eq, spec_len] at hst
    obtain ⟨vr, hvr, lr⟩ := row_len S.rules
    refine ⟨_, rfl, p, E, dx, _, _, rfl, S.self, T.cl, T.nt, ef_text _ _ _, ta, _, rfl, .inl (SqL.of S.text), _, 0, rfl, rfl, _, rfl, ?_⟩
    rw [vns_len, bytesN_len]
    by_cases h1 : 0 < t.length
    · rw [decide_eq_true h1]
      refine ⟨1, rfl, (by show 1 ≤ sizeLine; decide), fun q hq => ?_⟩
      refine Does.reads [-1] o dm k (a := Lx.says (-1)) ?_ rfl hq (Same.upd_new (Same.refl _) hq) upd_same
      rw [hst, if_pos]
      cases t with
      | nil => simp at h1
      | cons x y => rfl
    · rw [decide_eq_false h1]
      have ht : t = [] := List.eq_nil_of_length_eq_zero (by omega)
      subst ht
      rw [if_neg (by decide)] at hst
      refine ⟨_, rfl, p, E, dx, _, _, rfl, S.self, T.cl, T.nr, ef_rules _ _ _, r, _, rfl, .inl (SqL.of hvr), _, 8, rfl, rfl, _, rfl, ?_⟩
      rw [lr]
      have h8 := fit.rules.most
      by_cases h2 : rs.length = 8
      · rw [decide_eq_true h2]
        refine ⟨2, rfl, (by show 1 ≤ sizeLine; decide), fun q hq => ?_⟩
        refine Does.reads [-2] o dm k (a := Lx.says (-2)) ?_ rfl hq (Same.upd_new (Same.refl _) hq) upd_same
        rw [hst, if_pos (by show 8 ≤ _; omega)]
      · rw [decide_eq_false h2]
        rw [if_neg (by show ¬ 8 ≤ _; omega)] at hst
        refine ⟨_, rfl, a, l, rfl, hA, fun H1 s1 => ⟨_, rfl, ?_⟩⟩
        cases hE : isExpr l with
        | false =>
          rw [hE, if_neg Bool.false_ne_true] at hst
          refine ⟨3, rfl, (by show 1 ≤ sizeLine; decide), fun q hq => ?_⟩
          refine Does.reads [-3] o dm k (a := Lx.says (-3)) ?_ rfl (s1.free hq) (Same.upd_new s1 (s1.free hq)) upd_same
          rw [hst]
        | true =>
          rw [hE, if_pos rfl] at hst
          obtain ⟨ok, hne, hl1, hl2⟩ := isExpr_ok hE
          have hpl : (pnsOf l).length = l.length / 5 := pns_len l.length l (Nat.le_refl _)
          refine ⟨_, rfl, a, l, rfl, s1.seq hA, hl2, hl1, fun nq H2 s2 hN => ?_⟩
          refine ⟨_, rfl, nq, pnsOf l, rfl, NodesIn.at hN, ok, hne, by omega, fun H3 s3 => ⟨_, rfl, ?_⟩⟩
          have s23 := s2.trans s3
          have s13 := s1.trans s23
          have hm := matchesNothing_eq ok hne
          cases hM : emptyL (pnsOf l) with
          | true =>
            refine ⟨4, rfl, (by show 1 ≤ sizeLine; decide), fun q hq => ?_⟩
            refine Does.reads [-4] o dm k (a := Lx.says (-4)) ?_ rfl (s13.free hq) (Same.upd_new s13 (s13.free hq)) upd_same
            rw [hst]
            show (if Lx.matchesNothing ((pnsOf l).map toNode) = true then _ else _) = _
            rw [hm, hM, if_pos rfl]
          | false =>
            have hst2 : Lx.step ⟨specRules rs, []⟩ (.rule l) = (⟨specRules rs ++ [(pnsOf l).map toNode], []⟩, Lx.says rs.length) := by
              rw [hst]
              show (if Lx.matchesNothing ((pnsOf l).map toNode) = true then _ else _) = _
              rw [hm, hM, if_neg Bool.false_ne_true]
            have S3 := S.keep (Same.keeps s13)
            have hsub : ∀ b, And1 r (And1 p D) b → Dom H1 b := fun b z => by
              rcases z with rfl | rfl | z
              · exact dom_of (s1 _ _ hvr)
              · exact dom_of (s1 _ _ S.self)
              · exact Same.dom s1 b (dm b z)
            have hN3 : NodesIn (And1 r (And1 p D)) H3 nq (pnsOf l) := nodesIn_ok.keep (nodesIn_ok.mono hN hsub) (Same.keeps s3)
            obtain ⟨as, g1, g2, g3⟩ := row_push nodesIn_ok S3.rules hN3
            refine ⟨_, rfl, p, E, dx, _, _, rfl, S3.self, T.cl, T.nr, ef_rules _ _ _, .inl ⟨rfl, _, SqL.of g1⟩, _, rfl, r, _, _, rfl, rfl, g1, by rw [g2]; exact small512 (by omega), ?_⟩
            have kp : Keeps (And1 r (And1 p D)) H3 (upd H3 r (.lst (as.map V.ref ++ [.ref nq]))) := keeps_upd (.inl rfl)
            have hrp : p ≠ r := fun z => S3.rules.1 (.inl z.symm)
            have S4 : StateAt C E D (upd H3 r (.lst (as.map V.ref ++ [.ref nq]))) p dx r ta ka (rs ++ [pnsOf l]) [] :=
              ⟨S3.out, by rw [upd_ne hrp]; exact S3.self, g3, S3.tout, kp _ _ S3.text S3.tout, (tokensIn_ok C).keep S3.toks kp⟩
            have g5 : (upd H3 r (.lst (as.map V.ref ++ [.ref nq]))) r = some (.lst (as.map V.ref ++ [.ref nq])) := upd_same
            have fr : ∀ b o, D b → H b = some o → (upd H3 r (.lst (as.map V.ref ++ [.ref nq]))) b = some o := fun b o d e => by
              rw [upd_ne (fun z => S3.rules.1 (by rw [← z]; exact .inr d))]; exact s13 _ _ e
            generalize upd H3 r (.lst (as.map V.ref ++ [.ref nq])) = H4 at S4 g5 fr
            refine ⟨_, rfl, p, E, dx, _, _, rfl, S4.self, T.cl, T.nr, ef_rules _ _ _, r, _, rfl, .inl (SqL.of g5), _, 1, rfl, rfl, by rw [List.length_append]; exact Nat.le_add_left _ _, (by show 1 ≤ sizeLine; decide), fun q hq => ?_⟩
            have s5 : Same H4 (upd H4 q (.lst [vn ((as.map V.ref ++ [V.ref nq]).length - 1)])) := Same.upd_new (Same.refl _) hq
            rw [hst2] at k
            refine k (rs ++ [pnsOf l]) [] (by rw [spec_snoc]) q _ (fun b o d e => s5 _ _ (fr b o d e)) ⟨⟨⟨?_, ?_, ?_⟩, Nat.zero_le _, by rw [toks_nil]; exact Nat.le_refl _, rfl⟩, dx, r, ta, ka, S4.keep (Same.keeps s5)⟩ (fun z => ?_) ?_
            · intro xs hx
              rcases List.mem_append.mp hx with hx | hx
              · exact fit.rules.ok xs hx
              · rw [List.mem_singleton.mp hx]; exact ⟨ok, hne⟩
            · intro xs hx
              rcases List.mem_append.mp hx with hx | hx
              · exact fit.rules.few xs hx
              · rw [List.mem_singleton.mp hx]; omega
            · rw [List.length_append]; show rs.length + 1 ≤ 8; omega
            · have := dm q z
              cases e : H q with
              | none => exact this e
              | some oo => rw [fr q oo z e] at hq; cases hq
            · rw [upd_same, List.length_append, g2]
              rfl
/-! ### edit -/
abbrev sEdit : Stmt := inClass (top 34) 3
def spEdit (K : PySem.W.Frag) (C E : Addr) : Sp := fun vs H Q _ => ∃ (p a : Addr) (D : Addr → Prop) (i n : Nat) (b : Lx.Bytes), vs = [.ref p, vn i, vn n, .ref a] ∧ H a = some (.lst (vns (bytesN b))) ∧ Does C E D H p (.edit i n b) Q
theorem scEdit : FnScope ["self", "at", "remove", "piece", "before"] ["self", "at", "remove", "piece"] (defScope sEdit) := ⟨rfl, rfl, rfl, by decide +kernel, rfl, by decide +kernel, by decide +kernel⟩
theorem ok_edit {f C E : Addr} {fd : FuncData} (F : Fun K "edit" "EditedText.edit" sEdit f fd) (T : EdT K E) (O : Own mg) (CE : CEd mg) (C1 : Callee P w K mg base 6 "tokens_of" ["text", "rules"] (spToks K C)) (C2 : Callee P w K mg base 2 "changed" ["before", "after"] (spChanged C)) :
    FnOk P w K mg base CX0 7 f fd ["self", "at", "remove", "piece"] (spEdit K C E) := by
  refine F.ok scEdit (fun vs H Q E h => ?_) (fun cdv A outer s H vs Q _ hr h => ?_)
  · obtain ⟨p, a, D, i, n, b, rfl, _⟩ := h
    rfl
  · obtain ⟨p, a, D, i, n, b, rfl, hA, rs, t, o, dm, k⟩ := h
    have nd := scEdit.nd
    have hr2 : Room 2 _ := hr.mono (by decide)
    have o' := o
    obtain ⟨fit, dx, r, ta, ka, S⟩ := o'
    refine ⟨_, pss_cons (ps_if (pt_cmpR op_gtN (pe_op op_addN (pv 1) (pv 2)) (pe_callB call_len_seq (by rfl) O.len PySem.boot_len (pa_cons (pe_fld (pv 0) rfl) pa_nil)) (nomark _)) (pss_one (ps_ret (pe_lst (pa_cons (pe_un un_neg pe_int) pa_nil)))) pss_nil)
      (pss_cons (ps_if (PW.pt (pw_or (pt_cmpR op_gtN (pe_callB call_len_seq (by rfl) O.len PySem.boot_len (pa_cons (pv 3) pa_nil)) (pe_const rfl CE.bytes) (nomark _))
          (pw_or1 (pt_cmpR op_gtN (pe_op op_addN (pe_op op_subN (pe_callB call_len_seq (by rfl) O.len PySem.boot_len (pa_cons (pe_fld (pv 0) rfl) pa_nil)) (pv 2)) (pe_callB call_len_seq (by rfl) O.len PySem.boot_len (pa_cons (pv 3) pa_nil))) (pe_const rfl CE.bytes) (nomark _)))))
        (pss_one (ps_ret (pe_lst (pa_cons (pe_un un_neg pe_int) pa_nil)))) pss_nil)
      (pss_cons (ps_set (i := 4) nd rfl (Or.inl rfl) (pe_fld (pv 0) rfl))
      (pss_cons (ps_fld (pv 0) (pe_op op_cat (pe_op op_cat (pe_slice sl_list (pe_fld (pv 0) rfl) po_none (po_some (pv 1))) (pv 3)) (pe_slice sl_list (pe_fld (pv 0) rfl) (po_some (pe_op op_addN (pv 1) (pv 2))) po_none)) rfl)
      (pss_cons (ps_fld (pv 0) (pe_fn C1 hr rfl (pa_cons (pe_fld (pv 0) rfl) (pa_cons (pe_fld (pv 0) rfl) pa_nil))) rfl)
      (pss_one (ps_ret (pe_op op_cat (pe_lst (pa_cons pe_int pa_nil)) (pe_fn C2 hr2 rfl (pa_cons (pv 4) (pa_cons (pe_fld (pv 0) rfl) pa_nil)))))))))), ?_⟩
    have hst : Lx.step ⟨specRules rs, t⟩ (.edit i n b) = if t.length < i + n then (⟨specRules rs, t⟩, Lx.says (-1)) else if 512 < b.length ∨ 512 < t.length - n + b.length then (⟨specRules rs, t⟩, Lx.says (-2)) else
      (⟨specRules rs, Lx.edited t i n b⟩, ⟨0, chL (toksOf rs t) (toksOf rs (Lx.edited t i n b)), none⟩) := rfl
    refine ⟨_, rfl, _, rfl, _, _, rfl, rfl, _, rfl, p, E, dx, _, _, rfl, S.self, T.cl, T.nt, ef_text _ _ _, ta, _, rfl, .inl (SqL.of S.text), _, _, rfl, rfl, _, rfl, ?_⟩
    rw [vns_len, bytesN_len]
    by_cases h1 : t.length < i + n
    · rw [decide_eq_true h1]
      refine ⟨1, rfl, (by show 1 ≤ sizeLine; decide), fun q hq => ?_⟩
      refine Does.reads [-1] o dm k (a := Lx.says (-1)) ?_ rfl hq (Same.upd_new (Same.refl _) hq) upd_same
      rw [hst, if_pos h1]
    · rw [decide_eq_false h1]
      rw [if_neg h1] at hst
      refine ⟨_, rfl, a, _, rfl, .inl (SqL.of hA), _, 512, rfl, rfl, _, rfl, ?_⟩
      rw [vns_len, bytesN_len]
      by_cases h2 : 512 < b.length
      · rw [decide_eq_true h2]
        refine ⟨2, rfl, (by show 1 ≤ sizeLine; decide), fun q hq => ?_⟩
        refine Does.reads [-2] o dm k (a := Lx.says (-2)) ?_ rfl hq (Same.upd_new (Same.refl _) hq) upd_same
        rw [hst, if_pos (.inl h2)]
      · rw [decide_eq_false h2]
        refine ⟨_, rfl, p, E, dx, _, _, rfl, S.self, T.cl, T.nt, ef_text _ _ _, ta, _, rfl, .inl (SqL.of S.text), _, rfl, _, _, rfl, rfl, by rw [vns_len, bytesN_len]; omega, _, rfl, a, _, rfl, .inl (SqL.of hA), _, _, rfl, rfl, _, 512, rfl, rfl, _, rfl, ?_⟩
        rw [vns_len, bytesN_len, vns_len, bytesN_len]
        by_cases h3 : 512 < t.length - n + b.length
        · rw [decide_eq_true h3]
          refine ⟨2, rfl, (by show 1 ≤ sizeLine; decide), fun q hq => ?_⟩
          refine Does.reads [-2] o dm k (a := Lx.says (-2)) ?_ rfl hq (Same.upd_new (Same.refl _) hq) upd_same
          rw [hst, if_pos (.inr h3)]
        · rw [decide_eq_false h3]
          rw [if_neg (fun z => z.elim h2 h3)] at hst
          have hlen := fit.len
          refine ⟨_, rfl, p, E, dx, _, _, rfl, S.self, T.cl, T.nk, ef_tokens _ _ _, ?_⟩
          -- self.text[:at] + piece + self.text[at + remove:]
          refine ⟨_, rfl, p, E, dx, _, _, rfl, S.self, T.cl, T.nt, ef_text _ _ _, _, rfl, _, rfl, ta, _, rfl, SqL.of S.text, fun q1 hq1 => ?_⟩
          rw [cutV_0n, vns_take]
          have s1 : Same H (upd H q1 (.lst (vns ((bytesN t).take i)))) := Same.upd_new (Same.refl _) hq1
          have e1 : (upd H q1 (.lst (vns ((bytesN t).take i)))) q1 = some (.lst (vns ((bytesN t).take i))) := upd_same
          generalize upd H q1 (.lst (vns ((bytesN t).take i))) = H1 at s1 e1
          refine ⟨_, rfl, q1, a, _, _, rfl, rfl, e1, s1 _ _ hA, by rw [vns_len, vns_len, List.length_take, bytesN_len, bytesN_len]; exact small512' (by omega), fun q2 hq2 => ?_⟩
          have s2 : Same H (upd H1 q2 (.lst (vns ((bytesN t).take i) ++ vns (bytesN b)))) := Same.upd_new s1 (s1.free hq2)
          have e2 : (upd H1 q2 (.lst (vns ((bytesN t).take i) ++ vns (bytesN b)))) q2 = some (.lst (vns ((bytesN t).take i) ++ vns (bytesN b))) := upd_same
          generalize upd H1 q2 (.lst (vns ((bytesN t).take i) ++ vns (bytesN b))) = H2 at s2 e2
          refine ⟨_, rfl, p, E, dx, _, _, rfl, s2 _ _ S.self, T.cl, T.nt, ef_text _ _ _, _, rfl, _, rfl, _, _, rfl, rfl, _, rfl, ta, _, rfl, SqL.of (s2 _ _ S.text), fun q3 hq3 => ?_⟩
          rw [cutV_n0, vns_drop]
          have s3' : Same H2 (upd H2 q3 (.lst (vns ((bytesN t).drop (i + n))))) := Same.upd_new (Same.refl _) hq3
          have s3 : Same H (upd H2 q3 (.lst (vns ((bytesN t).drop (i + n))))) := s2.trans s3'
          have e3 : (upd H2 q3 (.lst (vns ((bytesN t).drop (i + n))))) q3 = some (.lst (vns ((bytesN t).drop (i + n)))) := upd_same
          have e23 := s3' _ _ e2
          generalize upd H2 q3 (.lst (vns ((bytesN t).drop (i + n)))) = H3 at s3 s3' e3 e23
          have htx : (vns ((bytesN t).take i) ++ vns (bytesN b)) ++ vns ((bytesN t).drop (i + n)) = vns (bytesN (Lx.edited t i n b)) := by
            unfold Lx.edited bytesN
            show (((t.map UInt8.toNat).take i).map vn ++ (b.map UInt8.toNat).map vn) ++ ((t.map UInt8.toNat).drop (i + n)).map vn = _
            rw [← List.map_append, ← List.map_append, ← List.map_take, ← List.map_drop, ← List.map_append, ← List.map_append]
          have hel : (Lx.edited t i n b).length = t.length - n + b.length := by
            unfold Lx.edited
            rw [List.length_append, List.length_append, List.length_take, List.length_drop]
            omega
          refine ⟨q2, q3, _, _, rfl, rfl, e23, e3, by rw [List.length_append, vns_len, vns_len, vns_len, List.length_take, List.length_drop, bytesN_len, bytesN_len]; exact small512' (by omega), fun q4 hq4 => ?_⟩
          rw [htx]
          generalize Lx.edited t i n b = t' at hst hel
          have hq40 : H q4 = none := s3.free hq4
          have s4 : Same H (upd H3 q4 (.lst (vns (bytesN t')))) := Same.upd_new s3 hq40
          have e4 : (upd H3 q4 (.lst (vns (bytesN t')))) q4 = some (.lst (vns (bytesN t'))) := upd_same
          generalize upd H3 q4 (.lst (vns (bytesN t'))) = H4 at s4 e4
          -- self.text = ..
          refine ⟨_, rfl, p, E, dx, _, rfl, s4 _ _ S.self, T.cl, T.nt, ef_len _ _ _, ?_⟩
          rw [ef_putText]
          have hq4p : q4 ≠ p := Ne.symm (ne_of_none S.self hq40)
          have kp1 : Keeps (Just p) H4 (upd H4 p (.ins E dx (ef r q4 ka))) := keeps_upd rfl
          have kq : Keeps (Just p) H (upd H4 p (.ins E dx (ef r q4 ka))) := (Same.keeps s4).trans kp1
          have e5 : (upd H4 p (.ins E dx (ef r q4 ka))) p = some (.ins E dx (ef r q4 ka)) := upd_same
          have e6 : (upd H4 p (.ins E dx (ef r q4 ka))) q4 = some (.lst (vns (bytesN t'))) := by rw [upd_ne hq4p]; exact e4
          have fr1 : ∀ x, (upd H4 p (.ins E dx (ef r q4 ka))) x = none → H x = none := fun x hx => by
            cases e : H x with
            | none => rfl
            | some oo =>
              by_cases z : x = p
              · rw [z, upd_same] at hx; cases hx
              · rw [upd_ne z, s4 _ _ e] at hx; cases hx
          generalize upd H4 p (.ins E dx (ef r q4 ka)) = H5 at kp1 kq e5 e6 fr1
          have R5 : RulesIn (And1 p D) H5 r rs := rulesIn_ok.keep S.rules (kq.mono fun b z => .inl z)
          -- self.tokens = tokens_of(self.text, self.rules)
          refine ⟨_, rfl, p, E, dx, _, _, rfl, e5, T.cl, T.nt, ef_text _ _ _, _, rfl, p, E, dx, _, _, rfl, e5, T.cl, T.nr, ef_rules _ _ _, q4, r, t', rs, rfl, SqL.of e6, by omega, RulesIn.at R5, fit.rules, fun kk H6 s6 hK hkl hks => ?_⟩
          refine ⟨_, rfl, p, E, dx, _, rfl, s6 _ _ e5, T.cl, T.nk, ef_len _ _ _, ?_⟩
          rw [ef_putTokens]
          have kp2 : Keeps (Just p) H6 (upd H6 p (.ins E dx (ef r q4 kk))) := keeps_upd rfl
          have kq2 : Keeps (Just p) H5 (upd H6 p (.ins E dx (ef r q4 kk))) := (Same.keeps s6).trans kp2
          have hsub : ∀ x, And1 r (And1 p D) x → Dom H5 x := fun x z => by
            obtain ⟨_, hr5, _⟩ := row_len R5
            rcases z with rfl | rfl | z
            · obtain ⟨vr, hvr, _⟩ := row_len R5; exact dom_of hvr
            · exact dom_of e5
            · intro hn'; exact dm x z (fr1 x hn')
          have e7 : (upd H6 p (.ins E dx (ef r q4 kk))) p = some (.ins E dx (ef r q4 kk)) := upd_same
          have hq4o : ¬ And1 r (And1 p D) q4 := fun z => by
            rcases z with z | z | z
            · obtain ⟨vr, hvr, _⟩ := row_len S.rules
              rw [z, hvr] at hq40; cases hq40
            · exact hq4p z
            · exact dm q4 z hq40
          have S7 : StateAt C E D (upd H6 p (.ins E dx (ef r q4 kk))) p dx r q4 kk rs t' :=
            ⟨S.out, e7, rulesIn_ok.keep R5 (kq2.mono fun b z => .inl z), hq4o, by rw [upd_ne hq4p]; exact s6 _ _ e6, (tokensIn_ok C).keep ((tokensIn_ok C).mono hK hsub) (keeps_upd (.inr (.inl rfl)))⟩
          have kq3 : Keeps (Just p) H (upd H6 p (.ins E dx (ef r q4 kk))) := kq.trans kq2
          have B7 : TokensIn C (And1 r (And1 p D)) (upd H6 p (.ins E dx (ef r q4 kk))) ka (begins 0 (toksOf rs t)) := (tokensIn_ok C).keep S.toks fun x oo e nn => kq3 x oo e fun z => nn (.inr (.inl z))
          have fr2 : ∀ x, (upd H6 p (.ins E dx (ef r q4 kk))) x = none → H x = none := fun x hx => by
            cases e : H x with
            | none => rfl
            | some oo =>
              by_cases z : x = p
              · rw [z, upd_same] at hx; cases hx
              · rw [upd_ne z] at hx
                exact absurd (fr1 x (s6.free hx)) (by rw [e]; exact fun z => by cases z)
          generalize upd H6 p (.ins E dx (ef r q4 kk)) = H7 at S7 kq3 B7 fr2
          -- return [0] + changed(before, self.tokens)
          refine ⟨Nat.succ_le_of_lt (Nat.two_pow_pos 24), fun q5 hq5 => ?_⟩
          have s8 : Same H7 (upd H7 q5 (.lst [V.int 0])) := Same.upd_new (Same.refl _) hq5
          have e8 : (upd H7 q5 (.lst [V.int 0])) q5 = some (.lst [V.int 0]) := upd_same
          generalize upd H7 q5 (.lst [V.int 0]) = H8 at s8 e8
          have S8 := S7.keep (Same.keeps s8)
          refine ⟨_, rfl, _, rfl, p, E, dx, _, _, rfl, S8.self, T.cl, T.nk, ef_tokens _ _ _, ka, kk, _, _, toksOf rs t, toksOf rs t', rfl, (tokensIn_ok C).keep B7 (Same.keeps s8), S8.toks, fun q6 H9 hq6 s9 e9 => ?_⟩
          refine ⟨q5, q6, _, _, rfl, rfl, s9 _ _ e8, e9, small512' (by show 1 + 3 ≤ 600; decide), fun q hq => ?_⟩
          have s89 := s8.trans s9
          have s10 : Same H7 (upd H9 q (.lst ([V.int 0] ++ vns (chL (toksOf rs t) (toksOf rs t'))))) := Same.upd_new s89 (s89.free hq)
          rw [hst] at k
          refine k rs t' rfl q _ (fun x oo d e => s10 _ _ (kq3 x oo e fun z => S.out (by rw [← (show x = p from z)]; exact d))) ⟨⟨fit.rules, by omega, hkl, hks⟩, dx, r, q4, kk, S7.keep (Same.keeps s10)⟩ (fun z => dm q z (fr2 q (s89.free hq))) ?_
          rw [upd_same]
          rfl
end
end Elx

set_option Elab.async false
set_option linter.all false
set_option maxRecDepth 100000
set_option maxHeartbeats 2000000
namespace Elx
/-! ### the calls, one behind another -/
inductive CallIs : Nat → List Nat → List Nat → Lx.Call → Prop
  | rule (l : List Nat) : CallIs 1 [] l (.rule l)
  | match_ (k : Nat) (b : Lx.Bytes) : CallIs 2 [k] (bytesN b) (.match_ k b)
  | edit (a n : Nat) (b : Lx.Bytes) : CallIs 3 [a, n] (bytesN b) (.edit a n b)
  | counts : CallIs 4 [] [] .counts
  | token (i : Nat) : CallIs 5 [i] [] (.token i)
  | at_ (i : Nat) : CallIs 6 [i] [] (.at_ i)
  | find (k i : Nat) (h : i < 4294967296) : CallIs 7 [k, i] [] (.find k i)
  | tally (k : Nat) : CallIs 8 [k] [] (.tally k)
  | text (a n : Nat) : CallIs 9 [a, n] [] (.text a n)
/-- how many whole numbers, and is there a row -/
def shp (p : Nat) : Option (Nat × Bool) := match p with
  | 1 => some (0, true)
  | 2 => some (1, true)
  | 3 => some (2, true)
  | 4 => some (0, false)
  | 5 => some (1, false)
  | 6 => some (1, false)
  | 7 => some (2, false)
  | 8 => some (1, false)
  | 9 => some (2, false)
  | _ => none
theorem shp_eq (p : Nat) : PyWqakaf.shape (p : Int) = (shp p).map fun x => (x.1, if x.2 = true then 1 else 0) := by
  match p with
  | 0 => rfl
  | 1 => rfl
  | 2 => rfl
  | 3 => rfl
  | 4 => rfl
  | 5 => rfl
  | 6 => rfl
  | 7 => rfl
  | 8 => rfl
  | 9 => rfl
  | p + 10 =>
    unfold PyWqakaf.shape
    rw [if_neg (by omega), if_neg (by omega), if_neg (by omega), if_neg (by omega), if_neg (by omega), if_neg (by omega), if_neg (by omega), if_neg (by omega), if_neg (by omega)]
    rfl
theorem ints_take (l : List Nat) (n : Nat) : (LxNeutral.ints l).take n = LxNeutral.ints (l.take n) := by unfold LxNeutral.ints; rw [List.map_take]
theorem ints_drop (l : List Nat) (n : Nat) : (LxNeutral.ints l).drop n = LxNeutral.ints (l.drop n) := by unfold LxNeutral.ints; rw [List.map_drop]
theorem ints_len (l : List Nat) : (LxNeutral.ints l).length = l.length := by unfold LxNeutral.ints; rw [List.length_map]
theorem ints_toNat (l : List Nat) : LxNeutral.natsOf (LxNeutral.ints l) = l := by
  unfold LxNeutral.natsOf LxNeutral.ints
  rw [List.map_map]
  have : (Int.toNat ∘ fun (n : Nat) => (n : Int)) = id := by funext n; rfl
  rw [this, List.map_id]
theorem bytes_of {l : List Nat} (h : LxNeutral.byteRow (LxNeutral.ints l) = true) : bytesN (LxNeutral.bytesOf (LxNeutral.ints l)) = l := by
  unfold LxNeutral.byteRow LxNeutral.ints at h
  rw [List.all_map, List.all_eq_true] at h
  unfold bytesN LxNeutral.bytesOf LxNeutral.ints
  rw [List.map_map, List.map_map]
  conv => rhs; rw [← List.map_id l]
  apply List.map_congr_left
  intro n hn
  have := h n hn
  simp at this
  show (UInt8.ofNat (n : Int).toNat).toNat = n
  rw [Int.toNat_natCast, UInt8.toNat_ofNat']
  exact Nat.mod_eq_of_lt (by omega)
theorem whole_id (c : List (List Int)) : PyWqakaf.whole c = c := by
  unfold PyWqakaf.whole
  split <;> rfl
theorem call0 {p n : Nat} {r : List Nat} {c : List (List Int)} {t : List Int} (hs : shp p = some (n, false)) (h : PyFlat.call PyWqakaf.shape (LxNeutral.ints (p :: r)) = some (c, t)) :
    n ≤ r.length ∧ c = [LxNeutral.ints (p :: r.take n)] ∧ t = LxNeutral.ints (r.drop n) := by
  have e : PyFlat.call PyWqakaf.shape (LxNeutral.ints (p :: r)) = match PyWqakaf.shape (p : Int) with
    | none => none
    | some (n, k) => if (LxNeutral.ints r).length < n then none else match PyFlat.rows k ((LxNeutral.ints r).drop n) with
      | none => none
      | some (xs, t) => some (((p : Int) :: (LxNeutral.ints r).take n) :: xs, t) := rfl
  rw [e, shp_eq, hs] at h
  have h : (if (LxNeutral.ints r).length < n then none else some (((p : Int) :: (LxNeutral.ints r).take n) :: ([] : List (List Int)), (LxNeutral.ints r).drop n)) = some (c, t) := h
  by_cases hl : (LxNeutral.ints r).length < n
  · rw [if_pos hl] at h; cases h
  · rw [if_neg hl] at h
    have h := Option.some.inj h
    rw [ints_len] at hl
    refine ⟨by omega, ?_, ?_⟩
    · rw [← (Prod.mk.inj h).1, ints_take]; rfl
    · rw [← (Prod.mk.inj h).2, ints_drop]
theorem call1 {p n : Nat} {r : List Nat} {c : List (List Int)} {t : List Int} (hs : shp p = some (n, true)) (h : PyFlat.call PyWqakaf.shape (LxNeutral.ints (p :: r)) = some (c, t)) :
    n ≤ r.length ∧ ∃ m r2, r.drop n = m :: r2 ∧ m ≤ r2.length ∧ c = [LxNeutral.ints (p :: r.take n), LxNeutral.ints (r2.take m)] ∧ t = LxNeutral.ints (r2.drop m) := by
  have e : PyFlat.call PyWqakaf.shape (LxNeutral.ints (p :: r)) = match PyWqakaf.shape (p : Int) with
    | none => none
    | some (n, k) => if (LxNeutral.ints r).length < n then none else match PyFlat.rows k ((LxNeutral.ints r).drop n) with
      | none => none
      | some (xs, t) => some (((p : Int) :: (LxNeutral.ints r).take n) :: xs, t) := rfl
  rw [e, shp_eq, hs] at h
  have h : (if (LxNeutral.ints r).length < n then none else match (match PyFlat.row ((LxNeutral.ints r).drop n) with
      | none => none
      | some (x, s) => some ([x], s)) with
      | none => none
      | some (xs, t) => some (((p : Int) :: (LxNeutral.ints r).take n) :: xs, t)) = some (c, t) := h
  by_cases hl : (LxNeutral.ints r).length < n
  · rw [if_pos hl] at h; cases h
  · rw [if_neg hl, ints_drop] at h
    rw [ints_len] at hl
    refine ⟨by omega, ?_⟩
    cases e2 : r.drop n with
    | nil => rw [e2] at h; cases h
    | cons m r2 =>
      rw [e2] at h
      have e3 : PyFlat.row (LxNeutral.ints (m :: r2)) = if 0 ≤ (m : Int) ∧ (m : Int).toNat ≤ (LxNeutral.ints r2).length then some ((LxNeutral.ints r2).take (m : Int).toNat, (LxNeutral.ints r2).drop (m : Int).toNat) else none := rfl
      rw [e3] at h
      by_cases hm : 0 ≤ (m : Int) ∧ (m : Int).toNat ≤ (LxNeutral.ints r2).length
      · rw [if_pos hm] at h
        have h := Option.some.inj h
        rw [Int.toNat_natCast, ints_len] at hm
        refine ⟨m, r2, rfl, hm.2, ?_, ?_⟩
        · rw [← (Prod.mk.inj h).1, Int.toNat_natCast, ints_take, ints_take]; rfl
        · rw [← (Prod.mk.inj h).2, Int.toNat_natCast, ints_drop]
      · rw [if_neg hm] at h; cases h
theorem take1 {r : List Nat} (h : 1 ≤ r.length) : ∃ x, r.take 1 = [x] := by
  cases r with
  | nil => simp at h
  | cons x r => exact ⟨x, rfl⟩
theorem take2 {r : List Nat} (h : 2 ≤ r.length) : ∃ x y, r.take 2 = [x, y] := by
  match r, h with
  | x :: y :: r, _ => exact ⟨x, y, rfl⟩
/-- what the next call is -/
structure Next (ns : List Nat) (cs : List (List (List Int))) (p n : Nat) (b : Bool) (r t rw : List Nat) (c : List (List Int)) (cs' : List (List (List Int))) (x : Lx.Call) : Prop where
  eq : ns = p :: r
  cs : cs = c :: cs'
  shp : shp p = some (n, b)
  len : n ≤ r.length
  rest : ∃ f, PyFlat.calls PyWqakaf.shape f (LxNeutral.ints t) = some cs'
  row : (b = false ∧ t = r.drop n ∧ rw = []) ∨ (b = true ∧ ∃ m r2, r.drop n = m :: r2 ∧ m ≤ r2.length ∧ rw = r2.take m ∧ t = r2.drop m)
  call : LxNeutral.callOf c = some x
  is : CallIs p (r.take n) rw x
theorem next_of {f : Nat} {ns : List Nat} {cs : List (List (List Int))} (hn : ns ≠ []) (h : PyFlat.calls PyWqakaf.shape f (LxNeutral.ints ns) = some cs) (ask : ∀ c ∈ cs, LxNeutral.asked1 c = true) : ∃ p n b r t rw c cs' x, Next ns cs p n b r t rw c cs' x := by
  cases ns with
  | nil => exact absurd rfl hn
  | cons p r =>
    cases f with
    | zero => cases h
    | succ f =>
      have e : PyFlat.calls PyWqakaf.shape (f + 1) (LxNeutral.ints (p :: r)) = match PyFlat.call PyWqakaf.shape (LxNeutral.ints (p :: r)) with
        | none => none
        | some (c, t) => match PyFlat.calls PyWqakaf.shape f t with
          | none => none
          | some cs => some (c :: cs) := rfl
      rw [e] at h
      cases e1 : PyFlat.call PyWqakaf.shape (LxNeutral.ints (p :: r)) with
      | none => rw [e1] at h; cases h
      | some ct =>
        obtain ⟨c, t0⟩ := ct
        rw [e1] at h
        have h : (match PyFlat.calls PyWqakaf.shape f t0 with
          | none => none
          | some cs => some (c :: cs)) = some cs := h
        cases e2 : PyFlat.calls PyWqakaf.shape f t0 with
        | none => rw [e2] at h; cases h
        | some cs' =>
          rw [e2] at h
          have h : c :: cs' = cs := Option.some.inj h
          subst h
          have ha := ask c (List.mem_cons_self ..)
          have none_no : ∀ q : Nat, p = q + 10 ∨ p = 0 → False := fun q hp => by
            have e3 : PyFlat.call PyWqakaf.shape (LxNeutral.ints (p :: r)) = match PyWqakaf.shape (p : Int) with
              | none => none
              | some (n, k) => if (LxNeutral.ints r).length < n then none else match PyFlat.rows k ((LxNeutral.ints r).drop n) with
                | none => none
                | some (xs, t) => some (((p : Int) :: (LxNeutral.ints r).take n) :: xs, t) := rfl
            have e4 : shp p = none := by
              rcases hp with hp | hp
              · subst hp; rfl
              · subst hp; rfl
            rw [e3, shp_eq, e4] at e1
            cases e1
          match p, none_no, e1 with
          | 0, no, e1 => exact (no 0 (.inr rfl)).elim
          | 1, _, e1 =>
            obtain ⟨h1, m, r2, h2, h3, h4, h5⟩ := call1 (n := 0) rfl e1
            subst h4 h5
            refine ⟨1, 0, true, r, r2.drop m, r2.take m, _, cs', .rule (r2.take m), ⟨rfl, rfl, rfl, h1, ⟨f, e2⟩, .inr ⟨rfl, m, r2, h2, h3, rfl, rfl⟩, ?_, .rule _⟩⟩
            show some (Lx.Call.rule (LxNeutral.natsOf (LxNeutral.ints (r2.take m)))) = _
            rw [ints_toNat]
          | 2, _, e1 =>
            obtain ⟨h1, m, r2, h2, h3, h4, h5⟩ := call1 (n := 1) rfl e1
            obtain ⟨k, hk⟩ := take1 h1
            subst h4 h5
            rw [hk] at ha
            have ha : (LxNeutral.whole32 (k : Int) && LxNeutral.byteRow (LxNeutral.ints (r2.take m))) = true := ha
            rw [Bool.and_eq_true] at ha
            have hb := bytes_of ha.2
            refine ⟨2, 1, true, r, r2.drop m, r2.take m, _, cs', .match_ k (LxNeutral.bytesOf (LxNeutral.ints (r2.take m))), ⟨rfl, rfl, rfl, h1, ⟨f, e2⟩, .inr ⟨rfl, m, r2, h2, h3, rfl, rfl⟩, ?_, ?_⟩⟩
            · rw [hk]; rfl
            · rw [hk]
              have := CallIs.match_ k (LxNeutral.bytesOf (LxNeutral.ints (r2.take m)))
              rw [hb] at this
              exact this
          | 3, _, e1 =>
            obtain ⟨h1, m, r2, h2, h3, h4, h5⟩ := call1 (n := 2) rfl e1
            obtain ⟨k, n, hk⟩ := take2 h1
            subst h4 h5
            rw [hk] at ha
            have ha : (LxNeutral.whole32 (k : Int) && (LxNeutral.whole32 (n : Int) && LxNeutral.byteRow (LxNeutral.ints (r2.take m)))) = true := ha
            rw [Bool.and_eq_true, Bool.and_eq_true] at ha
            have hb := bytes_of ha.2.2
            refine ⟨3, 2, true, r, r2.drop m, r2.take m, _, cs', .edit k n (LxNeutral.bytesOf (LxNeutral.ints (r2.take m))), ⟨rfl, rfl, rfl, h1, ⟨f, e2⟩, .inr ⟨rfl, m, r2, h2, h3, rfl, rfl⟩, ?_, ?_⟩⟩
            · rw [hk]; rfl
            · rw [hk]
              have := CallIs.edit k n (LxNeutral.bytesOf (LxNeutral.ints (r2.take m)))
              rw [hb] at this
              exact this
          | 4, _, e1 =>
            obtain ⟨h1, h4, h5⟩ := call0 (n := 0) rfl e1
            subst h4 h5
            exact ⟨4, 0, false, r, r, [], _, cs', .counts, ⟨rfl, rfl, rfl, h1, ⟨f, e2⟩, .inl ⟨rfl, rfl, rfl⟩, rfl, .counts⟩⟩
          | 5, _, e1 =>
            obtain ⟨h1, h4, h5⟩ := call0 (n := 1) rfl e1
            obtain ⟨k, hk⟩ := take1 h1
            subst h4 h5
            exact ⟨5, 1, false, r, _, [], _, cs', .token k, ⟨rfl, rfl, rfl, h1, ⟨f, e2⟩, .inl ⟨rfl, rfl, rfl⟩, by rw [hk]; rfl, by rw [hk]; exact .token k⟩⟩
          | 6, _, e1 =>
            obtain ⟨h1, h4, h5⟩ := call0 (n := 1) rfl e1
            obtain ⟨k, hk⟩ := take1 h1
            subst h4 h5
            exact ⟨6, 1, false, r, _, [], _, cs', .at_ k, ⟨rfl, rfl, rfl, h1, ⟨f, e2⟩, .inl ⟨rfl, rfl, rfl⟩, by rw [hk]; rfl, by rw [hk]; exact .at_ k⟩⟩
          | 7, _, e1 =>
            obtain ⟨h1, h4, h5⟩ := call0 (n := 2) rfl e1
            obtain ⟨k, n, hk⟩ := take2 h1
            subst h4 h5
            rw [hk] at ha
            have ha : (LxNeutral.whole32 (k : Int) && LxNeutral.whole32 (n : Int)) = true := ha
            rw [Bool.and_eq_true] at ha
            have hb := ha.2
            unfold LxNeutral.whole32 at hb
            simp at hb
            exact ⟨7, 2, false, r, _, [], _, cs', .find k n, ⟨rfl, rfl, rfl, h1, ⟨f, e2⟩, .inl ⟨rfl, rfl, rfl⟩, by rw [hk]; rfl, by rw [hk]; exact .find k n (by omega)⟩⟩
          | 8, _, e1 =>
            obtain ⟨h1, h4, h5⟩ := call0 (n := 1) rfl e1
            obtain ⟨k, hk⟩ := take1 h1
            subst h4 h5
            exact ⟨8, 1, false, r, _, [], _, cs', .tally k, ⟨rfl, rfl, rfl, h1, ⟨f, e2⟩, .inl ⟨rfl, rfl, rfl⟩, by rw [hk]; rfl, by rw [hk]; exact .tally k⟩⟩
          | 9, _, e1 =>
            obtain ⟨h1, h4, h5⟩ := call0 (n := 2) rfl e1
            obtain ⟨k, n, hk⟩ := take2 h1
            subst h4 h5
            exact ⟨9, 2, false, r, _, [], _, cs', .text k n, ⟨rfl, rfl, rfl, h1, ⟨f, e2⟩, .inl ⟨rfl, rfl, rfl⟩, by rw [hk]; rfl, by rw [hk]; exact .text k n⟩⟩
          | p + 10, no, e1 => exact (no p (.inl rfl)).elim
/-! ### the whole -/
theorem calls_eq (l : List Int) : PyWqakaf.calls l = PyFlat.calls PyWqakaf.shape l.length l := by
  unfold PyWqakaf.calls
  cases PyFlat.calls PyWqakaf.shape l.length l with
  | none => rfl
  | some cs =>
    show some (cs.map PyWqakaf.whole) = some cs
    have : PyWqakaf.whole = id := by funext c; exact whole_id c
    rw [this, List.map_id]
theorem asked_of {l : List Int} (h : PyWqakaf.answers_asked l = true) : ∃ cs, PyFlat.calls PyWqakaf.shape l.length l = some cs ∧ PyWqakaf.answers l = PyFlat.told (PyFlat.played LxNeutral.step LxNeutral.start cs) ∧ cs.length ≤ 400 ∧ ∀ c ∈ cs, LxNeutral.asked1 c = true := by
  unfold PyWqakaf.answers_asked at h
  unfold PyWqakaf.answers
  rw [calls_eq] at h ⊢
  cases e : PyFlat.calls PyWqakaf.shape l.length l with
  | none => rw [e] at h; cases h
  | some cs =>
    rw [e] at h
    have h : (PyFlat.atMost 400 cs && LxNeutral.asked cs) = true := h
    rw [Bool.and_eq_true] at h
    refine ⟨cs, rfl, rfl, of_decide_eq_true h.1, ?_⟩
    have h2 := h.2
    unfold LxNeutral.asked at h2
    rw [Bool.and_eq_true, Bool.and_eq_true, Bool.and_eq_true] at h2
    exact List.all_eq_true.mp h2.2.2.1
/-- how many numbers an answer has -/
theorem numbers_len (rs : List Lx.Rule) (s : Lx.Bytes) (x : Lx.Call) (h : s.length ≤ 512) : (LxNeutral.numbers (Lx.step ⟨rs, s⟩ x).2).length ≤ 520 := by
  have says : ∀ z, (LxNeutral.numbers (Lx.says z)).length ≤ 520 := fun z => by show 1 ≤ 520; decide
  have orNo : ∀ o, (LxNeutral.numbers (Lx.orNo o)).length ≤ 520 := fun o => by cases o <;> exact says _
  cases x with
  | rule l =>
    show (LxNeutral.numbers (if s.isEmpty = false then _ else if _ then _ else _ : Lx.State × Lx.Answer).2).length ≤ 520
    split
    · exact says _
    · split
      · exact says _
      · split
        · exact says _
        · split
          · exact says _
          · exact says _
  | match_ k b =>
    show (LxNeutral.numbers (match rs[k]? with | none => _ | some r => _)).length ≤ 520
    split
    · exact says _
    · split
      · exact says _
      · split
        · split
          · exact says _
          · exact says _
        · exact says _
  | edit a n b =>
    show (LxNeutral.numbers (if _ then _ else if _ then _ else _ : Lx.State × Lx.Answer).2).length ≤ 520
    split
    · exact says _
    · split
      · exact says _
      · show 4 ≤ 520; decide
  | counts => show 4 ≤ 520; decide
  | token i =>
    show (LxNeutral.numbers (match (Lx.tokens rs s)[i]? with | some t => _ | none => _)).length ≤ 520
    split
    · show 4 ≤ 520; decide
    · exact says _
  | at_ i => exact orNo _
  | find k i => exact orNo _
  | tally k => exact says _
  | text a n =>
    show (LxNeutral.numbers (if _ then _ else _)).length ≤ 520
    split
    · exact says _
    · show (0 :: ([] ++ LxNeutral.sized ((s.drop a).take n)) : List Int).length ≤ 520
      unfold LxNeutral.sized LxNeutral.byteNums
      simp
      omega
end Elx

set_option Elab.async false
set_option linter.all false
set_option maxRecDepth 100000
set_option maxHeartbeats 2000000
namespace Elx
open PySem PySem.Spec PyProof.Rows L2
open PySem.W (Codec)
/-! ### a dict of the text's top: ints to ints or truth values -/
def entryOk (e : DictEntry) (p : Int × V) : Bool := (match e.key with
  | .int k _ => k == p.1 && e.hash == hashInt p.1
  | _ => false) && (match e.val, p.2 with
  | .int v _, .int u => v == u
  | .bool v, .bl u => v == u
  | _, _ => false)
def tabOk : List DictEntry → List (Int × V) → Bool
  | [], [] => true
  | e :: es, p :: ps => entryOk e p && tabOk es ps
  | _, _ => false
def keyed (kvs : List (Int × V)) : List (Key × V) := kvs.map fun p => (Sum.inl p.1, p.2)
theorem entryOk_of {e : DictEntry} {p : Int × V} (h : entryOk e p = true) : (∃ t, e.key = .int p.1 t) ∧ e.hash = hashInt p.1 ∧ RelV p.2 e.val := by
  obtain ⟨hs, key, val⟩ := e
  obtain ⟨k, v⟩ := p
  unfold entryOk at h
  rw [Bool.and_eq_true] at h
  obtain ⟨h1, h2⟩ := h
  refine ⟨?_, ?_, ?_⟩
  · cases key <;> simp at h1
    exact ⟨_, by rw [h1.1]⟩
  · cases key <;> simp at h1
    exact h1.2
  · cases val <;> cases v <;> simp at h2
    · subst h2; rfl
    · exact ⟨_, by rw [h2]⟩
theorem tabOk_of {P : Program} {w : World} : ∀ {es : List DictEntry} {kvs : List (Int × V)}, tabOk es kvs = true → ∃ vs : List (Key × Value), KV (keyed kvs) vs ∧ Pairs (mixKind P w) es vs ∧ (∀ e ∈ es, ∃ k, (mixKind P w).is k e.key = true ∧ e.hash = (mixKind P w).hash k) ∧ vs.map (·.1) = (keyed kvs).map (·.1)
  | [], [], _ => ⟨[], .nil, .nil, fun e h => by simp at h, rfl⟩
  | [], _ :: _, h => by simp [tabOk] at h
  | _ :: _, [], h => by simp [tabOk] at h
  | e :: es, p :: ps, h => by
    unfold tabOk at h
    rw [Bool.and_eq_true] at h
    obtain ⟨⟨t, h1⟩, h2, h3⟩ := entryOk_of h.1
    obtain ⟨vs, g1, g2, g3, g4⟩ := tabOk_of (P := P) (w := w) h.2
    have hk : (mixKind P w).is (Sum.inl p.1) e.key = true := by rw [h1]; exact mixKind_int P w p.1 t
    refine ⟨(Sum.inl p.1, e.val) :: vs, .cons ⟨rfl, h3⟩ g1, .cons hk rfl g2, fun x hx => ?_, ?_⟩
    · rcases List.mem_cons.mp hx with rfl | hx
      · exact ⟨_, hk, h2⟩
      · exact g3 x hx
    · show _ :: vs.map (·.1) = _ :: (keyed ps).map (·.1)
      rw [g4]
/-- at a stands such a dict -/
structure TabK (K : PySem.W.Frag) (a : Addr) (kvs : List (Int × V)) : Prop where
  ex : ∃ (es : Array DictEntry) (ep : Nat), K.lookup a = some ⟨.type "dict", none, .dict es ep, #[]⟩ ∧ tabOk es.toList kvs = true
  nd : (kvs.map (·.1)).Nodup
theorem keyed_nodup {kvs : List (Int × V)} (h : (kvs.map (·.1)).Nodup) : ((keyed kvs).map (·.1)).Nodup := by
  have e : (keyed kvs).map (·.1) = (kvs.map (·.1)).map (Sum.inl : Int → Key) := by unfold keyed; rw [List.map_map, List.map_map]; rfl
  rw [e]
  exact List.Pairwise.map _ (fun a b hab z => hab (Sum.inl.inj z)) h
theorem TabK.dict {P : Program} {w : World} {K : PySem.W.Frag} {a : Addr} {kvs : List (Int × V)} {h : Heap} (T : TabK K a kvs) (hK : K.In h) : ∃ vs, KV (keyed kvs) vs ∧ h.DictOf (mixKind P w) a vs := by
  obtain ⟨es, ep, h1, h2⟩ := T.ex
  obtain ⟨vs, g1, g2, g3, g4⟩ := tabOk_of (P := P) (w := w) h2
  refine ⟨vs, g1, _, es, ep, hK a _ h1, ⟨rfl, rfl, rfl⟩, rfl, fun e he => g3 e (Array.mem_toList_iff.mpr he), g2, ?_⟩
  rw [g4]
  exact keyed_nodup T.nd
theorem keyed_val : ∀ {kvs : List (Int × V)} {k : Int} {v : V}, kvs.lookup k = some v → valV (keyed kvs) (Sum.inl k) = some v
  | [], _, _, h => by cases h
  | (i, x) :: r, k, v, h => by
    by_cases e : k = i
    · subst e
      have : List.lookup k ((k, x) :: r) = some x := by simp [List.lookup]
      rw [this] at h
      unfold valV keyed
      simp [h]
    · have hb : (k == i) = false := beq_eq_false_iff_ne.mpr e
      have e2 : List.lookup k ((i, x) :: r) = List.lookup k r := by simp only [List.lookup, hb]
      rw [e2] at h
      have ih := keyed_val h
      unfold valV keyed at ih ⊢
      have e3 : ¬ i = k := fun z => e z.symm
      simp [e3]
      simpa using ih
section
variable {X : Cx}
def tTab (kvs : List (Int × V)) (ty : TE) : TE := fun σ H Q => ty σ H fun y H2 => ∃ (k : Int) (v : V), y = .int k ∧ kvs.lookup k = some v ∧ Q v H2
theorem pe_tab {x : Str} {a : Addr} {kvs : List (Int × V)} {i : Expr} {ty : TE} {p pos : Pos} (T : TabK X.K a kvs) (hg : Gl X x) (hm : X.mg x = some (.ref a)) (hi : PE X i ty) (hs : NoSl i) (hd : (x == ("__debug__" : Str)) = false := by decide) : PE X (.Subscript (.Name x p) i pos) (tTab kvs ty) := by
  intro pins s σ H Q I h
  have ho : PE X (.Name x p) (tC (.ref a)) := pe_glob (v := .ref a) hg hm rfl hd
  refine subD_of PySem.F.slot_dict_getitem.lookup hs (thn (ho pins s σ H (fun v H' => v = .ref a ∧ H' = H) I ⟨rfl, rfl⟩) fun u s1 ⟨x1, H1, I1, rx, e1, e2⟩ => ?_)
  subst e1 e2
  obtain rfl : u = Value.ref a := rx
  refine thn (hi pins s1 σ H1 _ I1 h) fun iv s2 ⟨y, H2, I2, ry, k, v, ey, g, q2⟩ => ?_
  subst ey
  obtain ⟨vs, rel, dd⟩ := T.dict (P := X.prog) (w := X.w) I2.kIn
  obtain ⟨w', hw, rw'⟩ := RelO.some_of (v := v) (o := valueAt vs (Sum.inl k)) (by rw [← keyed_val g]; exact rel.val (Sum.inl k))
  exact ⟨dd.mapOf.typeIs, wpAny_getItem_of (kV_is (k := Sum.inl k) ry) dd.mapOf hw ⟨v, H2, I2.tok _, rw', q2⟩⟩
end
end Elx

set_option Elab.async false
set_option linter.all false
set_option maxRecDepth 100000
set_option maxHeartbeats 4000000
namespace Elx
open PySem PySem.Spec PyProof.Rows L2
open PySem.W (Codec)
/-- editor.py's numbers -/
structure CCall (mg : Str → Option Value) : Prop where
  c1 : ∃ t, mg "RULE" = some (.int 1 t)
  c2 : ∃ t, mg "MATCH" = some (.int 2 t)
  c3 : ∃ t, mg "EDIT" = some (.int 3 t)
  c4 : ∃ t, mg "COUNTS" = some (.int 4 t)
  c5 : ∃ t, mg "TOKEN" = some (.int 5 t)
  c6 : ∃ t, mg "AT" = some (.int 6 t)
  c7 : ∃ t, mg "FIND" = some (.int 7 t)
  c8 : ∃ t, mg "TALLY" = some (.int 8 t)
def Method (P : Program) (w : World) (K : PySem.W.Frag) (mg : Str → Option Value) (base : Heap) (E : Addr) (k : Nat) (x : Str) (ps : List Str) (sp : Sp) : Prop :=
  ∃ f fd, FnOk P w K mg base CX0 k f fd ps sp ∧ Meth K E x f ∧ Binds K fd ps []
structure Methods (P : Program) (w : World) (K : PySem.W.Frag) (mg : Str → Option Value) (base : Heap) (C E : Addr) : Prop where
  m1 : Method P w K mg base E 3 "add_rule" ["self", "numbers"] (spRule K C E)
  m2 : Method P w K mg base E 5 "longest_match" ["self", "number", "piece"] (spMatch K C E)
  m3 : Method P w K mg base E 7 "edit" ["self", "at", "remove", "piece"] (spEdit K C E)
  m4 : Method P w K mg base E 1 "counts" ["self"] (spCounts C E)
  m5 : Method P w K mg base E 1 "token" ["self", "number"] (spToken C E)
  m6 : Method P w K mg base E 1 "token_at" ["self", "place"] (spAt C E)
  m7 : Method P w K mg base E 1 "find_token" ["self", "rule", "begin_at"] (spFind C E)
  m8 : Method P w K mg base E 1 "tally" ["self", "rule"] (spTally C E)
  m9 : Method P w K mg base E 1 "text_from" ["self", "at", "size"] (spText C E)
section
variable {P : Program} {w : World} {K : PySem.W.Frag} {mg : Str → Option Value} {base : Heap}
abbrev sAnsOf : Stmt := top 47
def spAnsOf (C E : Addr) : Sp := fun vs H Q _ => ∃ (p nu ro : Addr) (c : Nat) (ns rw : List Nat) (x : Lx.Call) (D : Addr → Prop), vs = [.ref p, vn c, .ref nu, .ref ro] ∧ H nu = some (.lst (vns ns)) ∧ H ro = some (.lst (vns rw)) ∧ CallIs c ns rw x ∧ Does C E D H p x Q
theorem scAnsOf : FnScope ["edited", "call", "numbers", "row"] ["edited", "call", "numbers", "row"] (defScope sAnsOf) := ⟨rfl, rfl, rfl, by decide +kernel, rfl, by decide +kernel, by decide +kernel⟩
theorem ok_ansOf {f C E : Addr} {fd : FuncData} (F : Fun K "answer_of" "answer_of" sAnsOf f fd) (T : EdT K E) (CC : CCall mg) (MM : Methods P w K mg base C E) : FnOk P w K mg base CX0 8 f fd ["edited", "call", "numbers", "row"] (spAnsOf C E) := by
  obtain ⟨f1, fd1, G1, me1, b1⟩ := MM.m1
  obtain ⟨f2, fd2, G2, me2, b2⟩ := MM.m2
  obtain ⟨f3, fd3, G3, me3, b3⟩ := MM.m3
  obtain ⟨f4, fd4, G4, me4, b4⟩ := MM.m4
  obtain ⟨f5, fd5, G5, me5, b5⟩ := MM.m5
  obtain ⟨f6, fd6, G6, me6, b6⟩ := MM.m6
  obtain ⟨f7, fd7, G7, me7, b7⟩ := MM.m7
  obtain ⟨f8, fd8, G8, me8, b8⟩ := MM.m8
  obtain ⟨f9, fd9, G9, me9, b9⟩ := MM.m9
  refine F.ok scAnsOf (fun vs H Q E h => ?_) (fun cdv A outer s H vs Q _ hr h => ?_)
  · obtain ⟨p, nu, ro, c, ns, rw, x, D, rfl, _⟩ := h
    rfl
  · obtain ⟨p, nu, ro, c, ns, rw, x, D, rfl, hn, hw, is, does⟩ := h
    have hr1 : Room 1 _ := hr.mono (by decide)
    have hr3 : Room 3 _ := hr.mono (by decide)
    have hr5 : Room 5 _ := hr.mono (by decide)
    have o := does
    obtain ⟨rs, t, ⟨fit, dx, r, ta, ka, S⟩, _⟩ := o
    refine ⟨_, pss_cons (ps_if (pt_cmpR op_eqN (pv 1) (pe_const rfl CC.c1) (nomark _)) (pss_one (ps_ret (pe_meth (pv 0) T.cl me1 G1 hr3 b1 .nil pass0 (pa_cons (pv 3) pa_nil)))) pss_nil)
      (pss_cons (ps_if (pt_cmpR op_eqN (pv 1) (pe_const rfl CC.c2) (nomark _)) (pss_one (ps_ret (pe_meth (pv 0) T.cl me2 G2 hr5 b2 .nil pass0 (pa_cons (pe_ix ix_listN (pv 2) pe_int (fun _ _ => rfl)) (pa_cons (pv 3) pa_nil))))) pss_nil)
      (pss_cons (ps_if (pt_cmpR op_eqN (pv 1) (pe_const rfl CC.c3) (nomark _)) (pss_one (ps_ret (pe_meth (pv 0) T.cl me3 G3 hr b3 .nil pass0 (pa_cons (pe_ix ix_listN (pv 2) pe_int (fun _ _ => rfl)) (pa_cons (pe_ix ix_listN (pv 2) pe_int (fun _ _ => rfl)) (pa_cons (pv 3) pa_nil)))))) pss_nil)
      (pss_cons (ps_if (pt_cmpR op_eqN (pv 1) (pe_const rfl CC.c4) (nomark _)) (pss_one (ps_ret (pe_meth0 (pv 0) T.cl me4 G4 hr1 b4 .nil pass0))) pss_nil)
      (pss_cons (ps_if (pt_cmpR op_eqN (pv 1) (pe_const rfl CC.c5) (nomark _)) (pss_one (ps_ret (pe_meth (pv 0) T.cl me5 G5 hr1 b5 .nil pass0 (pa_cons (pe_ix ix_listN (pv 2) pe_int (fun _ _ => rfl)) pa_nil)))) pss_nil)
      (pss_cons (ps_if (pt_cmpR op_eqN (pv 1) (pe_const rfl CC.c6) (nomark _)) (pss_one (ps_ret (pe_meth (pv 0) T.cl me6 G6 hr1 b6 .nil pass0 (pa_cons (pe_ix ix_listN (pv 2) pe_int (fun _ _ => rfl)) pa_nil)))) pss_nil)
      (pss_cons (ps_if (pt_cmpR op_eqN (pv 1) (pe_const rfl CC.c7) (nomark _)) (pss_one (ps_ret (pe_meth (pv 0) T.cl me7 G7 hr1 b7 .nil pass0 (pa_cons (pe_ix ix_listN (pv 2) pe_int (fun _ _ => rfl)) (pa_cons (pe_ix ix_listN (pv 2) pe_int (fun _ _ => rfl)) pa_nil))))) pss_nil)
      (pss_cons (ps_if (pt_cmpR op_eqN (pv 1) (pe_const rfl CC.c8) (nomark _)) (pss_one (ps_ret (pe_meth (pv 0) T.cl me8 G8 hr1 b8 .nil pass0 (pa_cons (pe_ix ix_listN (pv 2) pe_int (fun _ _ => rfl)) pa_nil)))) pss_nil)
      (pss_one (ps_ret (pe_meth (pv 0) T.cl me9 G9 hr1 b9 .nil pass0 (pa_cons (pe_ix ix_listN (pv 2) pe_int (fun _ _ => rfl)) (pa_cons (pe_ix ix_listN (pv 2) pe_int (fun _ _ => rfl)) pa_nil)))))))))))), ?_⟩
    cases is with
    | rule l =>
      refine ⟨_, rfl, 1, 1, rfl, rfl, _, rfl, ?_⟩
      refine iteT ?_
      exact ⟨_, rfl, p, dx, _, rfl, S.self, ef_no _ _ _ (by decide +kernel) (by decide +kernel) (by decide +kernel), _, rfl, p, ro, D, _, rfl, SqL.of hw, does⟩
    | match_ k b =>
      refine ⟨_, rfl, 2, 1, rfl, rfl, _, rfl, ?_⟩
      refine iteF ?_
      refine ⟨_, rfl, 2, 2, rfl, rfl, _, rfl, ?_⟩
      refine iteT ?_
      exact ⟨_, rfl, p, dx, _, rfl, S.self, ef_no _ _ _ (by decide +kernel) (by decide +kernel) (by decide +kernel), _, rfl, nu, _, 0, _, rfl, rfl, SqL.of hn, rfl, _, rfl, p, ro, D, k, b, rfl, SqL.of hw, does⟩
    | edit a n b =>
      refine ⟨_, rfl, 3, 1, rfl, rfl, _, rfl, ?_⟩
      refine iteF ?_
      refine ⟨_, rfl, 3, 2, rfl, rfl, _, rfl, ?_⟩
      refine iteF ?_
      refine ⟨_, rfl, 3, 3, rfl, rfl, _, rfl, ?_⟩
      refine iteT ?_
      exact ⟨_, rfl, p, dx, _, rfl, S.self, ef_no _ _ _ (by decide +kernel) (by decide +kernel) (by decide +kernel), _, rfl, nu, _, 0, _, rfl, rfl, SqL.of hn, rfl, _, rfl, nu, _, 1, _, rfl, rfl, SqL.of hn, rfl, _, rfl, p, ro, D, a, n, b, rfl, hw, does⟩
    | counts =>
      refine ⟨_, rfl, 4, 1, rfl, rfl, _, rfl, ?_⟩
      refine iteF ?_
      refine ⟨_, rfl, 4, 2, rfl, rfl, _, rfl, ?_⟩
      refine iteF ?_
      refine ⟨_, rfl, 4, 3, rfl, rfl, _, rfl, ?_⟩
      refine iteF ?_
      refine ⟨_, rfl, 4, 4, rfl, rfl, _, rfl, ?_⟩
      refine iteT ?_
      exact ⟨_, rfl, p, dx, _, rfl, S.self, ef_no _ _ _ (by decide +kernel) (by decide +kernel) (by decide +kernel), p, D, rfl, does⟩
    | token i =>
      refine ⟨_, rfl, 5, 1, rfl, rfl, _, rfl, ?_⟩
      refine iteF ?_
      refine ⟨_, rfl, 5, 2, rfl, rfl, _, rfl, ?_⟩
      refine iteF ?_
      refine ⟨_, rfl, 5, 3, rfl, rfl, _, rfl, ?_⟩
      refine iteF ?_
      refine ⟨_, rfl, 5, 4, rfl, rfl, _, rfl, ?_⟩
      refine iteF ?_
      refine ⟨_, rfl, 5, 5, rfl, rfl, _, rfl, ?_⟩
      refine iteT ?_
      exact ⟨_, rfl, p, dx, _, rfl, S.self, ef_no _ _ _ (by decide +kernel) (by decide +kernel) (by decide +kernel), _, rfl, nu, _, 0, _, rfl, rfl, SqL.of hn, rfl, p, D, i, rfl, does⟩
    | at_ i =>
      refine ⟨_, rfl, 6, 1, rfl, rfl, _, rfl, ?_⟩
      refine iteF ?_
      refine ⟨_, rfl, 6, 2, rfl, rfl, _, rfl, ?_⟩
      refine iteF ?_
      refine ⟨_, rfl, 6, 3, rfl, rfl, _, rfl, ?_⟩
      refine iteF ?_
      refine ⟨_, rfl, 6, 4, rfl, rfl, _, rfl, ?_⟩
      refine iteF ?_
      refine ⟨_, rfl, 6, 5, rfl, rfl, _, rfl, ?_⟩
      refine iteF ?_
      refine ⟨_, rfl, 6, 6, rfl, rfl, _, rfl, ?_⟩
      refine iteT ?_
      exact ⟨_, rfl, p, dx, _, rfl, S.self, ef_no _ _ _ (by decide +kernel) (by decide +kernel) (by decide +kernel), _, rfl, nu, _, 0, _, rfl, rfl, SqL.of hn, rfl, p, D, i, rfl, does⟩
    | find k i hi =>
      refine ⟨_, rfl, 7, 1, rfl, rfl, _, rfl, ?_⟩
      refine iteF ?_
      refine ⟨_, rfl, 7, 2, rfl, rfl, _, rfl, ?_⟩
      refine iteF ?_
      refine ⟨_, rfl, 7, 3, rfl, rfl, _, rfl, ?_⟩
      refine iteF ?_
      refine ⟨_, rfl, 7, 4, rfl, rfl, _, rfl, ?_⟩
      refine iteF ?_
      refine ⟨_, rfl, 7, 5, rfl, rfl, _, rfl, ?_⟩
      refine iteF ?_
      refine ⟨_, rfl, 7, 6, rfl, rfl, _, rfl, ?_⟩
      refine iteF ?_
      refine ⟨_, rfl, 7, 7, rfl, rfl, _, rfl, ?_⟩
      refine iteT ?_
      exact ⟨_, rfl, p, dx, _, rfl, S.self, ef_no _ _ _ (by decide +kernel) (by decide +kernel) (by decide +kernel), _, rfl, nu, _, 0, _, rfl, rfl, SqL.of hn, rfl, _, rfl, nu, _, 1, _, rfl, rfl, SqL.of hn, rfl, p, D, k, i, rfl, hi, does⟩
    | tally k =>
      refine ⟨_, rfl, 8, 1, rfl, rfl, _, rfl, ?_⟩
      refine iteF ?_
      refine ⟨_, rfl, 8, 2, rfl, rfl, _, rfl, ?_⟩
      refine iteF ?_
      refine ⟨_, rfl, 8, 3, rfl, rfl, _, rfl, ?_⟩
      refine iteF ?_
      refine ⟨_, rfl, 8, 4, rfl, rfl, _, rfl, ?_⟩
      refine iteF ?_
      refine ⟨_, rfl, 8, 5, rfl, rfl, _, rfl, ?_⟩
      refine iteF ?_
      refine ⟨_, rfl, 8, 6, rfl, rfl, _, rfl, ?_⟩
      refine iteF ?_
      refine ⟨_, rfl, 8, 7, rfl, rfl, _, rfl, ?_⟩
      refine iteF ?_
      refine ⟨_, rfl, 8, 8, rfl, rfl, _, rfl, ?_⟩
      refine iteT ?_
      exact ⟨_, rfl, p, dx, _, rfl, S.self, ef_no _ _ _ (by decide +kernel) (by decide +kernel) (by decide +kernel), _, rfl, nu, _, 0, _, rfl, rfl, SqL.of hn, rfl, p, D, k, rfl, does⟩
    | text a n =>
      refine ⟨_, rfl, 9, 1, rfl, rfl, _, rfl, ?_⟩
      refine iteF ?_
      refine ⟨_, rfl, 9, 2, rfl, rfl, _, rfl, ?_⟩
      refine iteF ?_
      refine ⟨_, rfl, 9, 3, rfl, rfl, _, rfl, ?_⟩
      refine iteF ?_
      refine ⟨_, rfl, 9, 4, rfl, rfl, _, rfl, ?_⟩
      refine iteF ?_
      refine ⟨_, rfl, 9, 5, rfl, rfl, _, rfl, ?_⟩
      refine iteF ?_
      refine ⟨_, rfl, 9, 6, rfl, rfl, _, rfl, ?_⟩
      refine iteF ?_
      refine ⟨_, rfl, 9, 7, rfl, rfl, _, rfl, ?_⟩
      refine iteF ?_
      refine ⟨_, rfl, 9, 8, rfl, rfl, _, rfl, ?_⟩
      refine iteF ?_
      exact ⟨_, rfl, p, dx, _, rfl, S.self, ef_no _ _ _ (by decide +kernel) (by decide +kernel) (by decide +kernel), _, rfl, nu, _, 0, _, rfl, rfl, SqL.of hn, rfl, _, rfl, nu, _, 1, _, rfl, rfl, SqL.of hn, rfl, p, D, a, n, rfl, does⟩
end
end Elx

set_option Elab.async false
set_option linter.all false
set_option maxRecDepth 100000
set_option maxHeartbeats 4000000
namespace Elx
open PySem PySem.Spec PyProof.Rows L2
open PySem.W (Codec)
def wnT : List (Int × V) := [(1, .int 0), (2, .int 1), (3, .int 2), (4, .int 0), (5, .int 1), (6, .int 1), (7, .int 2), (8, .int 1), (9, .int 2)]
def hrT : List (Int × V) := [(1, .bl true), (2, .bl true), (3, .bl true), (4, .bl false), (5, .bl false), (6, .bl false), (7, .bl false), (8, .bl false), (9, .bl false)]
theorem tab_of {p n : Nat} {b : Bool} (h : shp p = some (n, b)) : wnT.lookup (p : Int) = some (vn n) ∧ hrT.lookup (p : Int) = some (.bl b) := by
  match p, h with
  | 1, h => cases h; exact ⟨rfl, rfl⟩
  | 2, h => cases h; exact ⟨rfl, rfl⟩
  | 3, h => cases h; exact ⟨rfl, rfl⟩
  | 4, h => cases h; exact ⟨rfl, rfl⟩
  | 5, h => cases h; exact ⟨rfl, rfl⟩
  | 6, h => cases h; exact ⟨rfl, rfl⟩
  | 7, h => cases h; exact ⟨rfl, rfl⟩
  | 8, h => cases h; exact ⟨rfl, rfl⟩
  | 9, h => cases h; exact ⟨rfl, rfl⟩
theorem drop_head {α : Type} {l r : List α} {i : Nat} {x : α} (h : l.drop i = x :: r) : l[i]? = some x ∧ l.drop (i + 1) = r ∧ i < l.length := by
  have hi : i < l.length := by
    rcases Nat.lt_or_ge i l.length with z | z
    · exact z
    · rw [List.drop_of_length_le z] at h; cases h
  rw [List.drop_eq_getElem_cons hi] at h
  exact ⟨by rw [List.getElem?_eq_getElem hi, (List.cons.inj h).1], (List.cons.inj h).2, hi⟩
theorem told_cons (a : List Int) (r : List (List Int)) : PyFlat.told (a :: r) = ((a.length : Int) :: a) ++ PyFlat.told r := by unfold PyFlat.told; rw [List.flatMap_cons]
theorem step_call {st : Lx.State} {c : List (List Int)} {x : Lx.Call} (h : LxNeutral.callOf c = some x) : LxNeutral.step st c = ((Lx.step st x).1, LxNeutral.numbers (Lx.step st x).2) := by unfold LxNeutral.step; rw [h]
def MakerEd (P : Program) (w : World) (K : PySem.W.Frag) (mg : Str → Option Value) (base : Heap) (E : Addr) (sp : Sp) : Prop :=
  ∃ f fd, FnOk P w K mg base CX0 1 f fd ["self"] sp ∧ mg "EditedText" = some (.ref E) ∧ Mk K E f ∧ Binds K fd ["self"] []
/-- between two calls -/
structure Turn8 (C E : Addr) (H : Hp) (ns : List Nat) (e td : Addr) (H' : Hp) (place : Nat) (rs : List (List PN)) (s : Lx.Bytes) (tl : List Int) (cs : List (List (List Int))) : Prop where
  same : Same H H'
  obj : Obj8 C E (fun b => b = td ∨ Dom H b) H' e rs s
  told : H' td = some (.lst (tl.map V.int))
  le : place ≤ ns.length
  calls : ∃ f, PyFlat.calls PyWqakaf.shape f (LxNeutral.ints (ns.drop place)) = some cs
  ask : ∀ c ∈ cs, LxNeutral.asked1 c = true
  eq : tl ++ PyFlat.told (PyFlat.played LxNeutral.step ⟨specRules rs, s⟩ cs) = PyWqakaf.answers (LxNeutral.ints ns)
  few : tl.length + 521 * cs.length ≤ 208400
section
variable {P : Program} {w : World} {K : PySem.W.Frag} {mg : Str → Option Value} {base : Heap}
abbrev sAnswers : Stmt := top 46
def spAnswers (K : PySem.W.Frag) : Sp := fun vs H Q _ => ∃ (a : Addr) (ns : List Nat), vs = [.ref a] ∧ SqL K H a (vns ns) ∧ PyWqakaf.answers_asked (LxNeutral.ints ns) = true ∧ ns.length ≤ 30000 ∧ ∀ (H' : Hp) (p : Addr), H' p = some (.lst ((PyWqakaf.answers (LxNeutral.ints ns)).map V.int)) → Q (.ref p) H'
theorem scAnswers : FnScope ["calls", "edited", "told", "place", "call", "row_place", "numbers", "row", "answer"] ["calls"] (defScope sAnswers) := ⟨rfl, rfl, rfl, by decide +kernel, rfl, by decide +kernel, by decide +kernel⟩
theorem ok_answers {f C E aW aH : Addr} {fd : FuncData} (F : Fun K "answers" "answers" sAnswers f fd) (O : Own mg) (T : EdT K E) (TW : TabK K aW wnT) (mW : mg "WHOLE_NUMBERS" = some (.ref aW)) (TH : TabK K aH hrT) (mH : mg "HAS_ROW" = some (.ref aH))
    (C1 : Callee P w K mg base 8 "answer_of" ["edited", "call", "numbers", "row"] (spAnsOf C E)) (ME : MakerEd P w K mg base E (spEdInit C E)) : FnOk P w K mg base CX0 9 f fd ["calls"] (spAnswers K) := by
  obtain ⟨fI, fdI, GI, mgE, M, bI⟩ := ME
  refine F.ok scAnswers (fun vs H Q E h => ?_) (fun cdv A outer s H vs Q _ hr h => ?_)
  · obtain ⟨a, ns, rfl, _⟩ := h
    rfl
  · obtain ⟨a, ns, rfl, hS, hask, hlen, k⟩ := h
    have nd := scAnswers.nd
    have hr2 : Room 2 _ := hr.mono (by decide)
    refine ⟨_, pss_cons (ps_set (i := 1) nd rfl (Or.inl rfl) (pe_make0 M GI hr2 rfl mgE bI .nil pass0))
      (pss_cons (ps_set (i := 2) nd rfl (Or.inl rfl) (pe_lst pa_nil))
      (pss_cons (ps_set (i := 3) nd rfl (Or.inl rfl) pe_int)
      (pss_cons (ps_while PassesOwn.never (pt_cmpR op_ltN (pv 3) (pe_callB call_len_seq (by rfl) O.len PySem.boot_len (pa_cons (pv 0) pa_nil)) (nomark _))
        (pss_cons (ps_set (i := 4) nd rfl (Or.inl rfl) (pe_ix ix_listN (pv 0) (pv 3) (fun _ _ => rfl)))
        (pss_cons (ps_set (i := 5) nd rfl (Or.inl rfl) (pe_op op_addN (pe_op op_addN (pv 3) pe_int) (pe_tab TW rfl mW (pv 4) (fun _ _ => rfl))))
        (pss_cons (ps_set (i := 6) nd rfl (Or.inl rfl) (pe_slice sl_list (pv 0) (po_some (pe_op op_addN (pv 3) pe_int)) (po_some (pv 5))))
        (pss_cons (ps_set (i := 7) nd rfl (Or.inl rfl) (pe_lst pa_nil))
        (pss_cons (ps_set (i := 3) nd rfl (Or.inl rfl) (pv 5))
        (pss_cons (ps_if (pt_val (pe_tab TH rfl mH (pv 4) (fun _ _ => rfl)))
          (pss_cons (ps_set (i := 3) nd rfl (Or.inl rfl) (pe_op op_addN (pe_op op_addN (pv 5) pe_int) (pe_ix ix_listN (pv 0) (pv 5) (fun _ _ => rfl))))
          (pss_one (ps_set (i := 7) nd rfl (Or.inl rfl) (pe_slice sl_list (pv 0) (po_some (pe_op op_addN (pv 5) pe_int)) (po_some (pv 3)))))) pss_nil)
        (pss_cons (ps_set (i := 8) nd rfl (Or.inl rfl) (pe_fn C1 hr rfl (pa_cons (pv 1) (pa_cons (pv 4) (pa_cons (pv 6) (pa_cons (pv 7) pa_nil))))))
        (pss_cons (ps_expr (pe_bm PySem.F.plainAttrs_list PySem.F.slot_list_append PySem.F.type_list_append mt_append (pv 2) (pa_cons (pe_callB call_len_seq (by rfl) O.len PySem.boot_len (pa_cons (pv 8) pa_nil)) pa_nil)))
        (pss_one (ps_expr (pe_bm PySem.F.plainAttrs_list PySem.F.slot_list_extend PySem.F.type_list_extend mt_extend (pv 2) (pa_cons (pv 8) pa_nil)))))))))))))
      (pss_one (ps_ret (pv 2)))))), ?_⟩
    obtain ⟨cs0, hc1, hc2, hc3, hc4⟩ := asked_of hask
    -- edited = EditedText()
    intro x dx hx hdx hne
    refine ⟨x, dx, rfl, upd_same, fun r t kk H1 hr0 ht0 hk0 fr St => ⟨rfl, ?_⟩⟩
    have fresh : ∀ y, (upd (upd H dx (.own x)) x (.ins E dx [])) y = none → H y = none := fun y hy => by
      cases e : H y with
      | none => rfl
      | some o =>
        rw [upd_ne (ne_of_none e hx), upd_ne (ne_of_none e hdx), e] at hy
        cases hy
    have s1 : Same H H1 := fun b o e => fr b o (by rw [upd_ne (ne_of_none e hx), upd_ne (ne_of_none e hdx)]; exact e) (ne_of_none e hx)
    -- told = []
    refine ⟨Nat.zero_le _, fun td htd => ?_⟩
    have htd0 : H td = none := s1.free htd
    have hdis : ∀ b, (b = td ∨ Dom H b) → (b ≠ x ∧ b ≠ r ∧ b ≠ t ∧ b ≠ kk) := fun b z => by
      obtain ⟨vr, hvr, _⟩ := row_len St.rules
      obtain ⟨vk, hvk, _⟩ := row_len St.toks
      rcases z with rfl | z
      · exact ⟨Ne.symm (ne_of_none St.self htd), Ne.symm (ne_of_none hvr htd), Ne.symm (ne_of_none St.text htd), Ne.symm (ne_of_none hvk htd)⟩
      · exact ⟨fun e => z (e ▸ hx), fun e => z (e ▸ fresh r hr0), fun e => z (e ▸ fresh t ht0), fun e => z (e ▸ fresh kk hk0)⟩
    have St2 : StateAt C E (fun b => b = td ∨ Dom H b) (upd H1 td (.lst [])) x dx r t kk [] [] := (St.mono hdis).keep (keeps_upd (.inl rfl))
    have tn0 : Turn8 C E H ns x td (upd H1 td (.lst [])) 0 [] [] [] cs0 := by
      refine ⟨Same.upd_new s1 htd0, ⟨⟨⟨fun xs h => (by simp at h), fun xs h => (by simp at h), Nat.zero_le _⟩, Nat.zero_le _, Nat.le_refl _, rfl⟩, dx, r, t, kk, St2⟩, upd_same, Nat.zero_le _, ⟨_, hc1⟩, hc4, hc2.symm, ?_⟩
      show 0 + 521 * cs0.length ≤ 208400
      omega
    generalize upd H1 td (.lst []) = H2 at tn0
    refine while_by (fun σ H' => ∃ (place : Nat) (rs : List (List PN)) (s : Lx.Bytes) (tl : List Int) (cs : List (List (List Int))) (v4 v5 v6 v7 v8 : Option V), σ = [some (.ref a), some (.ref x), some (.ref td), some (vn place), v4, v5, v6, v7, v8] ∧ Turn8 C E H ns x td H' place rs s tl cs)
      (fun (σ : L2.St) (_ : Hp) => match σ[3]? with | some (some (V.int i)) => ns.length - i.toNat | _ => 0) ⟨0, [], [], [], cs0, none, none, none, none, none, rfl, tn0⟩ ?_ ?_
    · rintro σ H' ⟨place, rs, sx, tl, cs, v4, v5, v6, v7, v8, rfl, tn⟩
      refine ⟨_, rfl, _, rfl, a, _, rfl, .inl (tn.same.seq hS), _, _, rfl, rfl, _, rfl, ?_⟩
      rw [vns_len]
      obtain ⟨f0, hcalls⟩ := tn.calls
      by_cases hp : place < ns.length
      · rw [decide_eq_true hp]
        obtain ⟨p, n, b, rr, rest, rw', c, cs', cx, N⟩ := next_of (fun z => by have := congrArg List.length z; simp at this; omega) hcalls tn.ask
        obtain ⟨g1, g2, _⟩ := drop_head N.eq
        obtain ⟨w1, w2⟩ := tab_of N.shp
        have hcs := N.cs
        subst hcs
        -- what is left once the row is known
        have fin : ∀ (pl : Nat) (nu ro : Addr) (H4 : Hp) (v8 : Option V), Same H' H4 → H4 nu = some (.lst (vns (rr.take n))) → H4 ro = some (.lst (vns rw')) → ns.drop pl = rest → place < pl → pl ≤ ns.length → ∀ D : L2.Ends,
            (∀ σ H5, (∃ (rs : List (List PN)) (s : Lx.Bytes) (tl : List Int) (v4 v5 v6 v7 v8 : Option V), σ = [some (.ref a), some (.ref x), some (.ref td), some (vn pl), v4, v5, v6, v7, v8] ∧ Turn8 C E H ns x td H5 pl rs s tl cs') → D.nx σ H5) →
            tSeq (tAsg (tCall (spAnsOf C E) [] E0 (tCons (tVar 1) (tCons (tVar 4) (tCons (tVar 6) (tCons (tVar 7) tNil))))) (gName 8)) (tSeq (tDrop (tBM K "list" rAppend (tVar 2) (tCons (tCB (fun xs H Q => ∃ p ys, xs = [.ref p] ∧ (SqL K H p ys ∨ SqT K H p ys) ∧ Q (.int ys.length) H) (tCons (tVar 8) tNil)) tNil)))
              (tDrop (tBM K "list" rExtend (tVar 2) (tCons (tVar 8) tNil)))) D [some (.ref a), some (.ref x), some (.ref td), some (vn pl), some (vn p), some (vn (place + 1 + n)), some (.ref nu), some (.ref ro), v8] H4 := by
          intro pl nu ro H4 v8 s4 hnu hro hrest hlt hle D hD
          refine ⟨_, rfl, _, rfl, _, rfl, _, rfl, x, nu, ro, p, _, _, cx, (fun b => b = td ∨ Dom H b), rfl, hnu, hro, N.is, rs, sx, tn.obj.keep (Same.keeps s4), fun b z => ?_, fun rs' s' hstep q H5 fr5 obj5 hq5 hans => ?_⟩
          · rcases z with rfl | z
            · exact dom_of (s4 _ _ tn.told)
            · exact Same.dom (tn.same.trans s4) b z
          have htd5 : H5 td = some (.lst (tl.map V.int)) := fr5 td _ (.inl rfl) (s4 _ _ tn.told)
          have hqt : q ≠ td := fun z => hq5 (.inl z)
          have hnl := numbers_len (specRules rs) sx cx tn.obj.1.len
          have few := tn.few
          rw [List.length_cons] at few
          generalize hans' : LxNeutral.numbers (Lx.step ⟨specRules rs, sx⟩ cx).2 = ans at hans hnl
          refine ⟨_, rfl, .inl ⟨rfl, _, SqL.of htd5⟩, _, rfl, q, _, rfl, .inl (SqL.of hans), td, _, _, rfl, rfl, htd5, ?_, ?_⟩
          · rw [List.length_map]
            show tl.length < 2 ^ 24
            omega
          refine ⟨_, rfl, .inl ⟨rfl, _, SqL.of upd_same⟩, _, rfl, td, q, _, _, rfl, rfl, upd_same, by rw [upd_ne hqt]; exact hans, ?_, ?_⟩
          · rw [List.length_append, List.length_map, List.length_map]
            show tl.length + 1 + ans.length ≤ 2 ^ 24
            omega
          rw [upd_upd]
          refine hD _ _ ⟨rs', s', tl ++ ((ans.length : Int) :: ans), _, _, _, _, _, rfl, ?_⟩
          refine ⟨fun b o e => ?_, obj5.keep (keeps_upd (.inl rfl)), ?_, hle, ?_, fun c hc => tn.ask c (List.mem_cons_of_mem _ hc), ?_, ?_⟩
          · rw [upd_ne (ne_of_none e htd0)]
            exact fr5 b o (.inr (dom_of e)) ((tn.same.trans s4) b o e)
          · rw [upd_same, List.map_append, List.length_map]
            congr 2
            rw [List.map_cons, List.append_assoc]
            rfl
          · rw [hrest]; exact N.rest
          · have e := tn.eq
            have e2 : PyFlat.played LxNeutral.step (⟨specRules rs, sx⟩ : Lx.State) (c :: cs') = ans :: PyFlat.played LxNeutral.step (⟨specRules rs', s'⟩ : Lx.State) cs' := by
              show (LxNeutral.step ⟨specRules rs, sx⟩ c).2 :: PyFlat.played LxNeutral.step (LxNeutral.step ⟨specRules rs, sx⟩ c).1 cs' = _
              rw [step_call N.call, hans', hstep]
            rw [e2, told_cons, ← List.append_assoc] at e
            exact e
          · rw [List.length_append, List.length_cons]
            omega
        -- call = calls[place]
        refine ⟨_, rfl, _, rfl, a, _, place, _, rfl, rfl, tn.same.seq hS, vns_get g1, ?_⟩
        -- row_place
        refine ⟨_, rfl, place, 1, rfl, rfl, _, rfl, (p : Int), vn n, rfl, w1, place + 1, n, rfl, rfl, ?_⟩
        -- numbers
        refine ⟨_, rfl, _, rfl, place, 1, rfl, rfl, _, rfl, _, rfl, _, rfl, a, _, rfl, tn.same.seq hS, fun nu hnu => ?_⟩
        rw [cutV_nn, vns_drop, vns_take, g2, show place + 1 + n - (place + 1) = n by omega]
        have s3 : Same H' (upd H' nu (.lst (vns (rr.take n)))) := Same.upd_new (Same.refl _) hnu
        have e3 : (upd H' nu (.lst (vns (rr.take n)))) nu = some (.lst (vns (rr.take n))) := upd_same
        generalize upd H' nu (.lst (vns (rr.take n))) = H3 at s3 e3
        -- row = []
        refine ⟨Nat.zero_le _, fun ro hro => ?_⟩
        have s4 : Same H3 (upd H3 ro (.lst [])) := Same.upd_new (Same.refl _) hro
        have e4 : (upd H3 ro (.lst [])) ro = some (.lst []) := upd_same
        have e34 := s4 _ _ e3
        have s34 := s3.trans s4
        generalize upd H3 ro (.lst []) = H4 at s4 e4 e34 s34
        refine ⟨_, rfl, ?_⟩
        refine ⟨_, rfl, (p : Int), _, rfl, w2, _, rfl, ?_⟩
        have hrl : rr.length = ns.length - (place + 1) := by rw [← g2, List.length_drop]
        have hnl := N.len
        have hdr : ns.drop (place + 1 + n) = rr.drop n := by rw [← g2, List.drop_drop]
        rcases N.row with ⟨hb, ht, hrw⟩ | ⟨hb, m, r2, h1, h2, hrw, ht⟩
        · subst hb
          refine iteF ?_
          refine fin (place + 1 + n) nu ro H4 _ s34 e34 (by rw [hrw]; exact e4) (by rw [hdr, ht]) (by omega) (by omega) _ fun σ H5 ⟨rs', s', tl', u4, u5, u6, u7, u8, hσ, tn'⟩ => ?_
          subst hσ
          refine ⟨⟨_, rs', s', tl', cs', u4, u5, u6, u7, u8, rfl, tn'⟩, ?_⟩
          show ns.length - ((place + 1 + n : Nat) : Int).toNat < ns.length - (place : Int).toNat
          omega
        · subst hb
          refine iteT ?_
          rw [h1] at hdr
          obtain ⟨q1, q2, q3⟩ := drop_head hdr
          have hr2l : r2.length = ns.length - (place + 1 + n + 1) := by rw [← q2, List.length_drop]
          refine ⟨_, rfl, place + 1 + n, 1, rfl, rfl, _, rfl, _, rfl, a, _, place + 1 + n, _, rfl, rfl, (tn.same.trans s34).seq hS, vns_get q1, place + 1 + n + 1, m, rfl, rfl, ?_⟩
          refine ⟨_, rfl, _, rfl, place + 1 + n, 1, rfl, rfl, _, rfl, _, rfl, _, rfl, a, _, rfl, (tn.same.trans s34).seq hS, fun ro2 hro2 => ?_⟩
          rw [cutV_nn, vns_drop, vns_take, q2, show place + 1 + n + 1 + m - (place + 1 + n + 1) = m by omega]
          have s5 : Same H4 (upd H4 ro2 (.lst (vns (r2.take m)))) := Same.upd_new (Same.refl _) hro2
          have e5 : (upd H4 ro2 (.lst (vns (r2.take m)))) ro2 = some (.lst (vns (r2.take m))) := upd_same
          have e35 := s5 _ _ e34
          generalize upd H4 ro2 (.lst (vns (r2.take m))) = H5 at s5 e5 e35
          refine fin (place + 1 + n + 1 + m) nu ro2 H5 _ (s34.trans s5) e35 (by rw [hrw]; exact e5) (by rw [ht, ← q2, List.drop_drop]) (by omega) (by omega) _ fun σ H6 ⟨rs', s', tl', u4, u5, u6, u7, u8, hσ, tn'⟩ => ?_
          subst hσ
          refine ⟨⟨_, rs', s', tl', cs', u4, u5, u6, u7, u8, rfl, tn'⟩, ?_⟩
          show ns.length - ((place + 1 + n + 1 + m : Nat) : Int).toNat < ns.length - (place : Int).toNat
          omega
      · rw [decide_eq_false hp]
        refine ⟨_, rfl, ?_⟩
        have hd : ns.drop place = [] := List.drop_of_length_le (by omega)
        rw [hd] at hcalls
        have hcs : cs = [] := by
          cases f0 with
          | zero => exact (Option.some.inj hcalls).symm
          | succ f0 => exact (Option.some.inj hcalls).symm
        subst hcs
        have e := tn.eq
        have e2 : tl = PyWqakaf.answers (LxNeutral.ints ns) := by rw [← e]; exact (List.append_nil _).symm
        refine k H' td ?_
        rw [← e2]
        exact tn.told
    · exact mt_test (me_op mr_ab me_var (me_cb mc_len (ma_cons me_var ma_nil)))
end
end Elx

set_option Elab.async false
set_option linter.all false
set_option maxRecDepth 100000
set_option maxHeartbeats 4000000
namespace Elx
open PySem PySem.Spec PyProof.Rows L2
open PySem.W (Codec)
/-! ### the text's top -/
def FnAt (K : PySem.W.Frag) (x : Str) (st : Stmt) : Prop := ∃ f fd, Fun K x x st f fd ∧ PySem.W.nsIn K mainGlobals x = some (some (.ref f))
theorem fnAt_mk {K : PySem.W.Frag} {x : Str} {st : Stmt} {f : Addr} {oc : Value} {od an : Option Addr} {osl : Array (Option Value)} {kV doc pm cdv ct : Value} (a : PySem.W.nsIn K mainGlobals x = some (some (.ref f)))
    (l : K.lookup f = some ⟨oc, od, .func (PySem.W.fnOf x x (defArgs st) (defBody st) (defScope st) .none kV doc pm an cdv ct), osl⟩) (c : PySem.W.codeIn K cdv x = true) (k : PySem.W.keepIn K (.ref f) = true) : FnAt K x st :=
  ⟨f, _, fun_mk l c k, a⟩
def MtAt (K : PySem.W.Frag) (C : Addr) (x qual : Str) (st : Stmt) : Prop := ∃ f fd, Fun K x qual st f fd ∧ PySem.W.findIn K (.ref C) x = some (some (.ref f)) ∧ PySem.W.isFn K (.ref f) = true
theorem mtAt_mk {K : PySem.W.Frag} {C : Addr} {x qual : Str} {st : Stmt} {f : Addr} {oc : Value} {od an : Option Addr} {osl : Array (Option Value)} {kV doc pm cdv ct : Value} (a : PySem.W.findIn K (.ref C) x = some (some (.ref f))) (i : PySem.W.isFn K (.ref f) = true)
    (l : K.lookup f = some ⟨oc, od, .func (PySem.W.fnOf x qual (defArgs st) (defBody st) (defScope st) .none kV doc pm an cdv ct), osl⟩) (c : PySem.W.codeIn K cdv qual = true) (k : PySem.W.keepIn K (.ref f) = true) : MtAt K C x qual st :=
  ⟨f, _, fun_mk l c k, a, i⟩
structure ClassK (K : PySem.W.Frag) (x : Str) (C : Addr) : Prop where
  ns : PySem.W.nsIn K mainGlobals x = some (some (.ref C))
  cl : Cls K C
  mks : PySem.W.makesIn K C = true
  kc : PySem.W.keepIn K (.ref C) = true
theorem classK_mk {K : PySem.W.Frag} {x : Str} {C : Addr} (ns : PySem.W.nsIn K mainGlobals x = some (some (.ref C))) (pg : PySem.W.plainGet K C Str.empty = true) (hd : PySem.W.hasDictIn K C = true) (po : PySem.W.plainOver K C = true)
    (sa : PySem.W.findIn K (.ref C) "__setattr__" = some (some (.builtin "object.__setattr__"))) (mk : PySem.W.makesIn K C = true) (kc : PySem.W.keepIn K (.ref C) = true) : ClassK K x C := ⟨ns, ⟨pg, hd, po, sa⟩, mk, kc⟩
structure TokK (K : PySem.W.Frag) (C : Addr) : Prop where
  c : ClassK K "Token" C
  nb : NoAttr K C "begin"
  np : NoAttr K C "piece"
  nr : NoAttr K C "rule"
  init : MtAt K C "__init__" "Token.__init__" sTokInit
structure EdK (K : PySem.W.Frag) (E : Addr) : Prop where
  c : ClassK K "EditedText" E
  nr : NoAttr K E "rules"
  nt : NoAttr K E "text"
  nk : NoAttr K E "tokens"
  m0 : MtAt K E "__init__" "EditedText.__init__" (inClass (top 34) 0)
  m1 : MtAt K E "add_rule" "EditedText.add_rule" (inClass (top 34) 1)
  m2 : MtAt K E "longest_match" "EditedText.longest_match" (inClass (top 34) 2)
  m3 : MtAt K E "edit" "EditedText.edit" (inClass (top 34) 3)
  m4 : MtAt K E "counts" "EditedText.counts" (inClass (top 34) 4)
  m5 : MtAt K E "token" "EditedText.token" (inClass (top 34) 5)
  m6 : MtAt K E "token_at" "EditedText.token_at" (inClass (top 34) 6)
  m7 : MtAt K E "find_token" "EditedText.find_token" (inClass (top 34) 7)
  m8 : MtAt K E "tally" "EditedText.tally" (inClass (top 34) 8)
  m9 : MtAt K E "text_from" "EditedText.text_from" (inClass (top 34) 9)
theorem tokK_mk {K : PySem.W.Frag} {C : Addr} (c : ClassK K "Token" C) (nb : PySem.W.findIn K (.ref C) "begin" = some none) (np : PySem.W.findIn K (.ref C) "piece" = some none) (nr : PySem.W.findIn K (.ref C) "rule" = some none) (init : MtAt K C "__init__" "Token.__init__" sTokInit) : ∃ C, TokK K C := ⟨C, c, nb, np, nr, init⟩
theorem edK_mk {K : PySem.W.Frag} {E : Addr} (c : ClassK K "EditedText" E) (nr : PySem.W.findIn K (.ref E) "rules" = some none) (nt : PySem.W.findIn K (.ref E) "text" = some none) (nk : PySem.W.findIn K (.ref E) "tokens" = some none)
    (m0 : MtAt K E "__init__" "EditedText.__init__" (inClass (top 34) 0)) (m1 : MtAt K E "add_rule" "EditedText.add_rule" (inClass (top 34) 1)) (m2 : MtAt K E "longest_match" "EditedText.longest_match" (inClass (top 34) 2)) (m3 : MtAt K E "edit" "EditedText.edit" (inClass (top 34) 3)) (m4 : MtAt K E "counts" "EditedText.counts" (inClass (top 34) 4)) (m5 : MtAt K E "token" "EditedText.token" (inClass (top 34) 5)) (m6 : MtAt K E "token_at" "EditedText.token_at" (inClass (top 34) 6)) (m7 : MtAt K E "find_token" "EditedText.find_token" (inClass (top 34) 7)) (m8 : MtAt K E "tally" "EditedText.tally" (inClass (top 34) 8)) (m9 : MtAt K E "text_from" "EditedText.text_from" (inClass (top 34) 9)) : ∃ E, EdK K E := ⟨E, c, nr, nt, nk, m0, m1, m2, m3, m4, m5, m6, m7, m8, m9⟩
def TabIn (K : PySem.W.Frag) (x : Str) (kvs : List (Int × V)) : Prop := ∃ a, PySem.W.nsIn K mainGlobals x = some (some (.ref a)) ∧ ∃ (es : Array DictEntry) (ep : Nat), K.lookup a = some ⟨.type "dict", none, .dict es ep, #[]⟩ ∧ tabOk es.toList kvs = true
theorem tabIn_mk {K : PySem.W.Frag} {x : Str} {kvs : List (Int × V)} {a : Addr} {es : Array DictEntry} {ep : Nat} (n : PySem.W.nsIn K mainGlobals x = some (some (.ref a))) (l : K.lookup a = some ⟨.type "dict", none, .dict es ep, #[]⟩) (t : tabOk es.toList kvs = true) : TabIn K x kvs := ⟨a, n, es, ep, l, t⟩
def ConIn (K : PySem.W.Frag) (x : Str) (i : Int) : Prop := ∃ t, PySem.W.nsIn K mainGlobals x = some (some (.int i t))
theorem conIn_mk {K : PySem.W.Frag} {x : Str} {i : Int} {t : Tok} (n : PySem.W.nsIn K mainGlobals x = some (some (.int i t))) : ConIn K x i := ⟨t, n⟩
theorem ConIn.mg {K : PySem.W.Frag} {h : Heap} {mg : Str → Option Value} {x : Str} {i : Int} (c : ConIn K x i) (X : K.In h) (G : h.Ns mainGlobals mg) : ∃ t, mg x = some (.int i t) := by
  obtain ⟨t, c⟩ := c
  exact ⟨t, PySem.W.mg_of X G c⟩
structure TopK (K : PySem.W.Frag) : Prop where
  o_len : PySem.W.nsIn K mainGlobals "len" = some none
  o_range : PySem.W.nsIn K mainGlobals "range" = some none
  o_enumerate : PySem.W.nsIn K mainGlobals "enumerate" = some none
  o_zip : PySem.W.nsIn K mainGlobals "zip" = some none
  o_all : PySem.W.nsIn K mainGlobals "all" = some none
  o_max : PySem.W.nsIn K mainGlobals "max" = some none
  o_min : PySem.W.nsIn K mainGlobals "min" = some none
  o_tuple : PySem.W.nsIn K mainGlobals "tuple" = some none
  c_NOTHING : ConIn K "NOTHING" 0
  c_BYTE : ConIn K "BYTE" 1
  c_SEQ : ConIn K "SEQ" 2
  c_ALT : ConIn K "ALT" 3
  c_MANY : ConIn K "MANY" 4
  c_NODE_SIZE : ConIn K "NODE_SIZE" 5
  c_MOST_NODES : ConIn K "MOST_NODES" 32
  c_LAST_BYTE : ConIn K "LAST_BYTE" 255
  c_NO_RULE : ConIn K "NO_RULE" 0
  c_MOST_RULES : ConIn K "MOST_RULES" 8
  c_MOST_BYTES : ConIn K "MOST_BYTES" 512
  c_RULE : ConIn K "RULE" 1
  c_MATCH : ConIn K "MATCH" 2
  c_EDIT : ConIn K "EDIT" 3
  c_COUNTS : ConIn K "COUNTS" 4
  c_TOKEN : ConIn K "TOKEN" 5
  c_AT : ConIn K "AT" 6
  c_FIND : ConIn K "FIND" 7
  c_TALLY : ConIn K "TALLY" 8
  f_nodes_of : FnAt K "nodes_of" (top 9)
  f_is_expression : FnAt K "is_expression" (top 10)
  f_is_node : FnAt K "is_node" (top 11)
  f_matches_empty : FnAt K "matches_empty" (top 12)
  f_longest_matches : FnAt K "longest_matches" (top 14)
  f_longest : FnAt K "longest" (top 15)
  f_reach_of_expression : FnAt K "reach_of_expression" (top 16)
  f_reach_of_nothing : FnAt K "reach_of_nothing" (top 17)
  f_reach_of_byte : FnAt K "reach_of_byte" (top 18)
  f_reach_of_choice : FnAt K "reach_of_choice" (top 19)
  f_reach_of_sequence : FnAt K "reach_of_sequence" (top 20)
  f_reach_of_many : FnAt K "reach_of_many" (top 21)
  f_united : FnAt K "united" (top 22)
  f_same : FnAt K "same" (top 26)
  f_tokens_of : FnAt K "tokens_of" (top 27)
  f_best_matches : FnAt K "best_matches" (top 28)
  f_end_of_unmatched : FnAt K "end_of_unmatched" (top 29)
  f_changed : FnAt K "changed" (top 30)
  f_answers : FnAt K "answers" (top 46)
  f_answer_of : FnAt K "answer_of" (top 47)
  tok : ∃ C, TokK K C
  ed : ∃ E, EdK K E
  tW : TabIn K "WHOLE_NUMBERS" wnT
  tH : TabIn K "HAS_ROW" hrT
section
variable {P : Program} {w : World} {K : PySem.W.Frag} {mg : Str → Option Value} {base : Heap}
theorem callee {k : Nat} {x : Str} {st : Stmt} {f : Addr} {fd : FuncData} {ps : List Str} {sp : Sp} {h : Heap} (X : K.In h) (G : h.Ns mainGlobals mg) (F : Fun K x x st f fd) (n : PySem.W.nsIn K mainGlobals x = some (some (.ref f))) (ok : FnOk P w K mg base CX0 k f fd ps sp)
    (b : Binds K fd ps []) : Callee P w K mg base k x ps sp := ⟨f, fd, ok, PySem.W.mg_of X G n, F.kp, b⟩
theorem all_ok {h : Heap} {fa : Addr} (T : TopK K) (X : K.In h) (G : h.Ns mainGlobals mg) (hfa : mg "answers" = some (.ref fa)) :
    ∃ fd : FuncData, (∀ (s : Shared) (us : List Value), us.length = (["calls"] : List Str).length → BindsTo s fd ⟨us, []⟩ ((["calls"] : List Str).zip us)) ∧ ∀ base : Heap, K.In base → base.Ns mainGlobals mg → FnOk P w K mg base CX0 9 fa fd ["calls"] (spAnswers K) := by
  have O : Own mg := ⟨PySem.W.mg_none_of X G T.o_len, PySem.W.mg_none_of X G T.o_range, PySem.W.mg_none_of X G T.o_enumerate, PySem.W.mg_none_of X G T.o_zip, PySem.W.mg_none_of X G T.o_all, PySem.W.mg_none_of X G T.o_max, PySem.W.mg_none_of X G T.o_min, PySem.W.mg_none_of X G T.o_tuple⟩
  have CE : CExpr mg := ⟨T.c_NOTHING.mg X G, T.c_BYTE.mg X G, T.c_SEQ.mg X G, T.c_ALT.mg X G, T.c_MANY.mg X G, T.c_NODE_SIZE.mg X G, T.c_MOST_NODES.mg X G, T.c_LAST_BYTE.mg X G⟩
  have CS : CScan mg := ⟨T.c_NO_RULE.mg X G⟩
  have CD : CEd mg := ⟨T.c_MOST_RULES.mg X G, T.c_MOST_BYTES.mg X G⟩
  have CC : CCall mg := ⟨T.c_RULE.mg X G, T.c_MATCH.mg X G, T.c_EDIT.mg X G, T.c_COUNTS.mg X G, T.c_TOKEN.mg X G, T.c_AT.mg X G, T.c_FIND.mg X G, T.c_TALLY.mg X G⟩
  obtain ⟨C, TK⟩ := T.tok
  obtain ⟨E, EK⟩ := T.ed
  have TT : TokT K C := ⟨TK.c.cl, TK.nb, TK.np, TK.nr⟩
  have ET : EdT K E := ⟨EK.c.cl, EK.nr, EK.nt, EK.nk⟩
  obtain ⟨aW, nW, esW, epW, lW, tW⟩ := T.tW
  obtain ⟨aH, nH, esH, epH, lH, tH⟩ := T.tH
  have TW : TabK K aW wnT := ⟨⟨esW, epW, lW, tW⟩, by decide +kernel⟩
  have TH : TabK K aH hrT := ⟨⟨esH, epH, lH, tH⟩, by decide +kernel⟩
  obtain ⟨f_nodes_of, d_nodes_of, F_nodes_of, n_nodes_of⟩ := T.f_nodes_of
  obtain ⟨f_is_expression, d_is_expression, F_is_expression, n_is_expression⟩ := T.f_is_expression
  obtain ⟨f_is_node, d_is_node, F_is_node, n_is_node⟩ := T.f_is_node
  obtain ⟨f_matches_empty, d_matches_empty, F_matches_empty, n_matches_empty⟩ := T.f_matches_empty
  obtain ⟨f_longest_matches, d_longest_matches, F_longest_matches, n_longest_matches⟩ := T.f_longest_matches
  obtain ⟨f_longest, d_longest, F_longest, n_longest⟩ := T.f_longest
  obtain ⟨f_reach_of_expression, d_reach_of_expression, F_reach_of_expression, n_reach_of_expression⟩ := T.f_reach_of_expression
  obtain ⟨f_reach_of_nothing, d_reach_of_nothing, F_reach_of_nothing, n_reach_of_nothing⟩ := T.f_reach_of_nothing
  obtain ⟨f_reach_of_byte, d_reach_of_byte, F_reach_of_byte, n_reach_of_byte⟩ := T.f_reach_of_byte
  obtain ⟨f_reach_of_choice, d_reach_of_choice, F_reach_of_choice, n_reach_of_choice⟩ := T.f_reach_of_choice
  obtain ⟨f_reach_of_sequence, d_reach_of_sequence, F_reach_of_sequence, n_reach_of_sequence⟩ := T.f_reach_of_sequence
  obtain ⟨f_reach_of_many, d_reach_of_many, F_reach_of_many, n_reach_of_many⟩ := T.f_reach_of_many
  obtain ⟨f_united, d_united, F_united, n_united⟩ := T.f_united
  obtain ⟨f_same, d_same, F_same, n_same⟩ := T.f_same
  obtain ⟨f_tokens_of, d_tokens_of, F_tokens_of, n_tokens_of⟩ := T.f_tokens_of
  obtain ⟨f_best_matches, d_best_matches, F_best_matches, n_best_matches⟩ := T.f_best_matches
  obtain ⟨f_end_of_unmatched, d_end_of_unmatched, F_end_of_unmatched, n_end_of_unmatched⟩ := T.f_end_of_unmatched
  obtain ⟨f_changed, d_changed, F_changed, n_changed⟩ := T.f_changed
  obtain ⟨f_answers, d_answers, F_answers, n_answers⟩ := T.f_answers
  obtain ⟨f_answer_of, d_answer_of, F_answer_of, n_answer_of⟩ := T.f_answer_of
  obtain ⟨f_ti, d_ti, F_ti, a_ti, i_ti⟩ := TK.init
  obtain ⟨fm0, dm0, Fm0, am0, im0⟩ := EK.m0
  obtain ⟨fm1, dm1, Fm1, am1, im1⟩ := EK.m1
  obtain ⟨fm2, dm2, Fm2, am2, im2⟩ := EK.m2
  obtain ⟨fm3, dm3, Fm3, am3, im3⟩ := EK.m3
  obtain ⟨fm4, dm4, Fm4, am4, im4⟩ := EK.m4
  obtain ⟨fm5, dm5, Fm5, am5, im5⟩ := EK.m5
  obtain ⟨fm6, dm6, Fm6, am6, im6⟩ := EK.m6
  obtain ⟨fm7, dm7, Fm7, am7, im7⟩ := EK.m7
  obtain ⟨fm8, dm8, Fm8, am8, im8⟩ := EK.m8
  obtain ⟨fm9, dm9, Fm9, am9, im9⟩ := EK.m9
  have e := hfa.symm.trans (PySem.W.mg_of X G n_answers)
  cases e
  have bnd : ∀ (s : Shared) (us : List Value), us.length = (["calls"] : List Str).length → BindsTo s d_answers ⟨us, []⟩ ((["calls"] : List Str).zip us) := by
    obtain ⟨oc, od, kV, doc, pm, an, cdv, ct, osl, rfl, lk, hcd⟩ := F_answers.ex
    exact fun s us hu => match us, hu with | [_], _ => .of_eq rfl
  refine ⟨d_answers, bnd, fun base _ _ => ?_⟩
  have K_united := callee (base := base) (P := P) (w := w) X G F_united n_united (ok_united F_united) (F_united.binds (ps := ["reach", "places", "known"]) fun _ _ _ _ _ _ us hl => match us, hl with | [_, _, _], _ => rfl)
  have K_nothing := callee (base := base) (P := P) (w := w) X G F_reach_of_nothing n_reach_of_nothing (ok_nothing F_reach_of_nothing O) (F_reach_of_nothing.binds (ps := ["text"]) fun _ _ _ _ _ _ us hl => match us, hl with | [_], _ => rfl)
  have K_byte := callee (base := base) (P := P) (w := w) X G F_reach_of_byte n_reach_of_byte (ok_byte F_reach_of_byte O) (F_reach_of_byte.binds (ps := ["lo", "hi", "text"]) fun _ _ _ _ _ _ us hl => match us, hl with | [_, _, _], _ => rfl)
  have K_choice := callee (base := base) (P := P) (w := w) X G F_reach_of_choice n_reach_of_choice (ok_choice F_reach_of_choice O) (F_reach_of_choice.binds (ps := ["one", "other"]) fun _ _ _ _ _ _ us hl => match us, hl with | [_, _], _ => rfl)
  have K_seq := callee (base := base) (P := P) (w := w) X G F_reach_of_sequence n_reach_of_sequence (ok_seq F_reach_of_sequence O K_united) (F_reach_of_sequence.binds (ps := ["first", "second"]) fun _ _ _ _ _ _ us hl => match us, hl with | [_, _], _ => rfl)
  have K_many := callee (base := base) (P := P) (w := w) X G F_reach_of_many n_reach_of_many (ok_many F_reach_of_many O K_united) (F_reach_of_many.binds (ps := ["once"]) fun _ _ _ _ _ _ us hl => match us, hl with | [_], _ => rfl)
  have K_expr := callee (base := base) (P := P) (w := w) X G F_reach_of_expression n_reach_of_expression (ok_expr F_reach_of_expression O CE K_nothing K_byte K_seq K_choice K_many) (F_reach_of_expression.binds (ps := ["nodes", "text"]) fun _ _ _ _ _ _ us hl => match us, hl with | [_, _], _ => rfl)
  have K_longest := callee (base := base) (P := P) (w := w) X G F_longest n_longest (ok_longest F_longest O) (F_longest.binds (ps := ["ends", "begin"]) fun _ _ _ _ _ _ us hl => match us, hl with | [_, _], _ => rfl)
  have K_lms := callee (base := base) (P := P) (w := w) X G F_longest_matches n_longest_matches (ok_lms F_longest_matches O K_expr K_longest) (F_longest_matches.binds (ps := ["nodes", "text"]) fun _ _ _ _ _ _ us hl => match us, hl with | [_, _], _ => rfl)
  have K_nodes := callee (base := base) (P := P) (w := w) X G F_nodes_of n_nodes_of (ok_nodes F_nodes_of O CE) (F_nodes_of.binds (ps := ["numbers"]) fun _ _ _ _ _ _ us hl => match us, hl with | [_], _ => rfl)
  have K_isNode := callee (base := base) (P := P) (w := w) X G F_is_node n_is_node (ok_isNode F_is_node CE) (F_is_node.binds (ps := ["node", "place"]) fun _ _ _ _ _ _ us hl => match us, hl with | [_, _], _ => rfl)
  have K_isExpr := callee (base := base) (P := P) (w := w) X G F_is_expression n_is_expression (ok_isExpr F_is_expression O CE K_nodes K_isNode) (F_is_expression.binds (ps := ["numbers"]) fun _ _ _ _ _ _ us hl => match us, hl with | [_], _ => rfl)
  have K_empty := callee (base := base) (P := P) (w := w) X G F_matches_empty n_matches_empty (ok_empty F_matches_empty CE) (F_matches_empty.binds (ps := ["nodes"]) fun _ _ _ _ _ _ us hl => match us, hl with | [_], _ => rfl)
  have K_best := callee (base := base) (P := P) (w := w) X G F_best_matches n_best_matches (ok_best F_best_matches O CS K_lms) (F_best_matches.binds (ps := ["text", "rules"]) fun _ _ _ _ _ _ us hl => match us, hl with | [_, _], _ => rfl)
  have K_end := callee (base := base) (P := P) (w := w) X G F_end_of_unmatched n_end_of_unmatched (ok_end F_end_of_unmatched O CS) (F_end_of_unmatched.binds (ps := ["owners", "begin"]) fun _ _ _ _ _ _ us hl => match us, hl with | [_, _], _ => rfl)
  have K_tok : MakerTok P w K mg base C (spTokInit C) := ⟨f_ti, d_ti, ok_tokInit F_ti TT, PySem.W.mg_of X G TK.c.ns, ⟨TK.c.mks, a_ti, i_ti, TK.c.kc⟩, (F_ti.binds (ps := ["self", "begin", "piece", "rule"]) fun _ _ _ _ _ _ us hl => match us, hl with | [_, _, _, _], _ => rfl)⟩
  have K_toks := callee (base := base) (P := P) (w := w) X G F_tokens_of n_tokens_of (ok_toks F_tokens_of O CS K_best K_end K_tok) (F_tokens_of.binds (ps := ["text", "rules"]) fun _ _ _ _ _ _ us hl => match us, hl with | [_, _], _ => rfl)
  have K_same := callee (base := base) (P := P) (w := w) X G F_same n_same (ok_same F_same TT) (F_same.binds (ps := ["one", "other"]) fun _ _ _ _ _ _ us hl => match us, hl with | [_, _], _ => rfl)
  have K_changed := callee (base := base) (P := P) (w := w) X G F_changed n_changed (ok_changed F_changed O K_same) (F_changed.binds (ps := ["before", "after"]) fun _ _ _ _ _ _ us hl => match us, hl with | [_, _], _ => rfl)
  have K_ed : MakerEd P w K mg base E (spEdInit C E) := ⟨fm0, dm0, ok_edInit Fm0 ET, PySem.W.mg_of X G EK.c.ns, ⟨EK.c.mks, am0, im0, EK.c.kc⟩, (Fm0.binds (ps := ["self"]) fun _ _ _ _ _ _ us hl => match us, hl with | [_], _ => rfl)⟩
  have MM : Methods P w K mg base C E := ⟨⟨fm1, dm1, ok_rule Fm1 ET O CD K_isExpr K_nodes K_empty, ⟨am1, im1, Fm1.kp⟩, (Fm1.binds (ps := ["self", "numbers"]) fun _ _ _ _ _ _ us hl => match us, hl with | [_, _], _ => rfl)⟩,
    ⟨fm2, dm2, ok_match Fm2 ET O CD K_lms, ⟨am2, im2, Fm2.kp⟩, (Fm2.binds (ps := ["self", "number", "piece"]) fun _ _ _ _ _ _ us hl => match us, hl with | [_, _, _], _ => rfl)⟩,
    ⟨fm3, dm3, ok_edit Fm3 ET O CD K_toks K_changed, ⟨am3, im3, Fm3.kp⟩, (Fm3.binds (ps := ["self", "at", "remove", "piece"]) fun _ _ _ _ _ _ us hl => match us, hl with | [_, _, _, _], _ => rfl)⟩,
    ⟨fm4, dm4, ok_counts Fm4 ET O, ⟨am4, im4, Fm4.kp⟩, (Fm4.binds (ps := ["self"]) fun _ _ _ _ _ _ us hl => match us, hl with | [_], _ => rfl)⟩,
    ⟨fm5, dm5, ok_token Fm5 ET TT O, ⟨am5, im5, Fm5.kp⟩, (Fm5.binds (ps := ["self", "number"]) fun _ _ _ _ _ _ us hl => match us, hl with | [_, _], _ => rfl)⟩,
    ⟨fm6, dm6, ok_at Fm6 ET TT O, ⟨am6, im6, Fm6.kp⟩, (Fm6.binds (ps := ["self", "place"]) fun _ _ _ _ _ _ us hl => match us, hl with | [_, _], _ => rfl)⟩,
    ⟨fm7, dm7, ok_find Fm7 ET TT O, ⟨am7, im7, Fm7.kp⟩, (Fm7.binds (ps := ["self", "rule", "begin_at"]) fun _ _ _ _ _ _ us hl => match us, hl with | [_, _, _], _ => rfl)⟩,
    ⟨fm8, dm8, ok_tally Fm8 ET TT O, ⟨am8, im8, Fm8.kp⟩, (Fm8.binds (ps := ["self", "rule"]) fun _ _ _ _ _ _ us hl => match us, hl with | [_, _], _ => rfl)⟩,
    ⟨fm9, dm9, ok_text Fm9 ET O, ⟨am9, im9, Fm9.kp⟩, (Fm9.binds (ps := ["self", "at", "size"]) fun _ _ _ _ _ _ us hl => match us, hl with | [_, _, _], _ => rfl)⟩⟩
  have K_ansOf := callee (base := base) (P := P) (w := w) X G F_answer_of n_answer_of (ok_ansOf F_answer_of ET CC MM) (F_answer_of.binds (ps := ["edited", "call", "numbers", "row"]) fun _ _ _ _ _ _ us hl => match us, hl with | [_, _, _, _], _ => rfl)
  exact ok_answers F_answers O ET TW (PySem.W.mg_of X G nW) TH (PySem.W.mg_of X G nH) K_ansOf K_ed
end
end Elx

open PySem PySem.W PyProof.Rows
set_option Elab.async false
set_option maxRecDepth 100000 in
set_option maxHeartbeats 0 in
theorem PySem.Challenge.cw_editedlex_s01_answers_holds : PySem.Challenge.rw_editedlex_s01_answers.Holds := by
  w_on; k_headS; (case hw => exact ⟨[.list [.int 4]], by decide +kernel, by decide +kernel⟩)
  k_fillS
  refine L2.walk_specK (r := PySem.Challenge.rw_editedlex_s01_answers) (k := 9) (CX := L2.CX0) (ps := ["calls"]) (sp := Elx.spAnswers) (by decide +kernel) rfl rfl ⟨rfl, by decide, by decide⟩ (fun w h Y => PySem.W.kIn_of Y) ?F ?S (fun _ _ _ _ z => z)
  case F =>
    intro w mg fa h Y KX G hmg
    have T : Elx.TopK (L2.KOf KX) := by
      dsimp only [L2.KOf]
      refine' ⟨?o0, ?o1, ?o2, ?o3, ?o4, ?o5, ?o6, ?o7, ?c0, ?c1, ?c2, ?c3, ?c4, ?c5, ?c6, ?c7, ?c8, ?c9, ?c10, ?c11, ?c12, ?c13, ?c14, ?c15, ?c16, ?c17, ?c18, ?f0, ?f1, ?f2, ?f3, ?f4, ?f5, ?f6, ?f7, ?f8, ?f9, ?f10, ?f11, ?f12, ?f13, ?f14, ?f15, ?f16, ?f17, ?f18, ?f19, ?tok, ?ed, ?tW, ?tH⟩
      (case o0 => k_is)
      (case o1 => k_is)
      (case o2 => k_is)
      (case o3 => k_is)
      (case o4 => k_is)
      (case o5 => k_is)
      (case o6 => k_is)
      (case o7 => k_is)
      (case c0 => refine' Elx.conIn_mk ?n; (case n => k_is))
      (case c1 => refine' Elx.conIn_mk ?n; (case n => k_is))
      (case c2 => refine' Elx.conIn_mk ?n; (case n => k_is))
      (case c3 => refine' Elx.conIn_mk ?n; (case n => k_is))
      (case c4 => refine' Elx.conIn_mk ?n; (case n => k_is))
      (case c5 => refine' Elx.conIn_mk ?n; (case n => k_is))
      (case c6 => refine' Elx.conIn_mk ?n; (case n => k_is))
      (case c7 => refine' Elx.conIn_mk ?n; (case n => k_is))
      (case c8 => refine' Elx.conIn_mk ?n; (case n => k_is))
      (case c9 => refine' Elx.conIn_mk ?n; (case n => k_is))
      (case c10 => refine' Elx.conIn_mk ?n; (case n => k_is))
      (case c11 => refine' Elx.conIn_mk ?n; (case n => k_is))
      (case c12 => refine' Elx.conIn_mk ?n; (case n => k_is))
      (case c13 => refine' Elx.conIn_mk ?n; (case n => k_is))
      (case c14 => refine' Elx.conIn_mk ?n; (case n => k_is))
      (case c15 => refine' Elx.conIn_mk ?n; (case n => k_is))
      (case c16 => refine' Elx.conIn_mk ?n; (case n => k_is))
      (case c17 => refine' Elx.conIn_mk ?n; (case n => k_is))
      (case c18 => refine' Elx.conIn_mk ?n; (case n => k_is))
      (case f0 => refine' Elx.fnAt_mk ?a ?l ?c ?k; (case a => k_is); (case l => k_is); (case c => k_is); (case k => k_is))
      (case f1 => refine' Elx.fnAt_mk ?a ?l ?c ?k; (case a => k_is); (case l => k_is); (case c => k_is); (case k => k_is))
      (case f2 => refine' Elx.fnAt_mk ?a ?l ?c ?k; (case a => k_is); (case l => k_is); (case c => k_is); (case k => k_is))
      (case f3 => refine' Elx.fnAt_mk ?a ?l ?c ?k; (case a => k_is); (case l => k_is); (case c => k_is); (case k => k_is))
      (case f4 => refine' Elx.fnAt_mk ?a ?l ?c ?k; (case a => k_is); (case l => k_is); (case c => k_is); (case k => k_is))
      (case f5 => refine' Elx.fnAt_mk ?a ?l ?c ?k; (case a => k_is); (case l => k_is); (case c => k_is); (case k => k_is))
      (case f6 => refine' Elx.fnAt_mk ?a ?l ?c ?k; (case a => k_is); (case l => k_is); (case c => k_is); (case k => k_is))
      (case f7 => refine' Elx.fnAt_mk ?a ?l ?c ?k; (case a => k_is); (case l => k_is); (case c => k_is); (case k => k_is))
      (case f8 => refine' Elx.fnAt_mk ?a ?l ?c ?k; (case a => k_is); (case l => k_is); (case c => k_is); (case k => k_is))
      (case f9 => refine' Elx.fnAt_mk ?a ?l ?c ?k; (case a => k_is); (case l => k_is); (case c => k_is); (case k => k_is))
      (case f10 => refine' Elx.fnAt_mk ?a ?l ?c ?k; (case a => k_is); (case l => k_is); (case c => k_is); (case k => k_is))
      (case f11 => refine' Elx.fnAt_mk ?a ?l ?c ?k; (case a => k_is); (case l => k_is); (case c => k_is); (case k => k_is))
      (case f12 => refine' Elx.fnAt_mk ?a ?l ?c ?k; (case a => k_is); (case l => k_is); (case c => k_is); (case k => k_is))
      (case f13 => refine' Elx.fnAt_mk ?a ?l ?c ?k; (case a => k_is); (case l => k_is); (case c => k_is); (case k => k_is))
      (case f14 => refine' Elx.fnAt_mk ?a ?l ?c ?k; (case a => k_is); (case l => k_is); (case c => k_is); (case k => k_is))
      (case f15 => refine' Elx.fnAt_mk ?a ?l ?c ?k; (case a => k_is); (case l => k_is); (case c => k_is); (case k => k_is))
      (case f16 => refine' Elx.fnAt_mk ?a ?l ?c ?k; (case a => k_is); (case l => k_is); (case c => k_is); (case k => k_is))
      (case f17 => refine' Elx.fnAt_mk ?a ?l ?c ?k; (case a => k_is); (case l => k_is); (case c => k_is); (case k => k_is))
      (case f18 => refine' Elx.fnAt_mk ?a ?l ?c ?k; (case a => k_is); (case l => k_is); (case c => k_is); (case k => k_is))
      (case f19 => refine' Elx.fnAt_mk ?a ?l ?c ?k; (case a => k_is); (case l => k_is); (case c => k_is); (case k => k_is))
      case tok =>
        refine' Elx.tokK_mk ?cc ?nb ?np ?nr ?init
        (case cc => refine' Elx.classK_mk ?ns ?pg ?hd ?po ?sa ?mk ?kc; (case ns => k_is); (case pg => k_is); (case hd => k_is); (case po => k_is); (case sa => k_is); (case mk => k_is); (case kc => k_is))
        (case nb => k_is); (case np => k_is); (case nr => k_is)
        (case init => refine' Elx.mtAt_mk ?a ?i ?l ?c ?k; (case a => k_is); (case i => k_is); (case l => k_is); (case c => k_is); (case k => k_is))
      case ed =>
        refine' Elx.edK_mk ?cc ?nr ?nt ?nk ?m0 ?m1 ?m2 ?m3 ?m4 ?m5 ?m6 ?m7 ?m8 ?m9
        (case cc => refine' Elx.classK_mk ?ns ?pg ?hd ?po ?sa ?mk ?kc; (case ns => k_is); (case pg => k_is); (case hd => k_is); (case po => k_is); (case sa => k_is); (case mk => k_is); (case kc => k_is))
        (case nr => k_is); (case nt => k_is); (case nk => k_is)
        (case m0 => refine' Elx.mtAt_mk ?a ?i ?l ?c ?k; (case a => k_is); (case i => k_is); (case l => k_is); (case c => k_is); (case k => k_is))
        (case m1 => refine' Elx.mtAt_mk ?a ?i ?l ?c ?k; (case a => k_is); (case i => k_is); (case l => k_is); (case c => k_is); (case k => k_is))
        (case m2 => refine' Elx.mtAt_mk ?a ?i ?l ?c ?k; (case a => k_is); (case i => k_is); (case l => k_is); (case c => k_is); (case k => k_is))
        (case m3 => refine' Elx.mtAt_mk ?a ?i ?l ?c ?k; (case a => k_is); (case i => k_is); (case l => k_is); (case c => k_is); (case k => k_is))
        (case m4 => refine' Elx.mtAt_mk ?a ?i ?l ?c ?k; (case a => k_is); (case i => k_is); (case l => k_is); (case c => k_is); (case k => k_is))
        (case m5 => refine' Elx.mtAt_mk ?a ?i ?l ?c ?k; (case a => k_is); (case i => k_is); (case l => k_is); (case c => k_is); (case k => k_is))
        (case m6 => refine' Elx.mtAt_mk ?a ?i ?l ?c ?k; (case a => k_is); (case i => k_is); (case l => k_is); (case c => k_is); (case k => k_is))
        (case m7 => refine' Elx.mtAt_mk ?a ?i ?l ?c ?k; (case a => k_is); (case i => k_is); (case l => k_is); (case c => k_is); (case k => k_is))
        (case m8 => refine' Elx.mtAt_mk ?a ?i ?l ?c ?k; (case a => k_is); (case i => k_is); (case l => k_is); (case c => k_is); (case k => k_is))
        (case m9 => refine' Elx.mtAt_mk ?a ?i ?l ?c ?k; (case a => k_is); (case i => k_is); (case l => k_is); (case c => k_is); (case k => k_is))
      case tW => refine' Elx.tabIn_mk ?n ?l ?t; (case n => k_is); (case l => k_is); (case t => decide +kernel)
      case tH => refine' Elx.tabIn_mk ?n ?l ?t; (case n => k_is); (case l => k_is); (case t => decide +kernel)
    exact Elx.all_ok T KX G hmg
  case S =>
    intro K H xs a hO hwi hask hx
    cases hx with
    | cons h1 h2 =>
      cases h2
      cases h1 with
      | lst hs ha =>
        have e := L2.ints_dw a.1 _ ha
        subst e
        have q : ((Codec.inLen 0 30000 a.1 && a.1.all (Codec.inInt 0 4294967295)) && true) = true := hwi
        rw [Bool.and_eq_true, Bool.and_eq_true] at q
        have en : LxNeutral.ints (a.1.map Int.toNat) = a.1 := by
          unfold LxNeutral.ints
          rw [List.map_map]
          conv => rhs; rw [← List.map_id a.1]
          apply List.map_congr_left
          intro z hz
          have := Codec.inInt_iff.mp (List.all_eq_true.mp q.1.2 z hz)
          show ((z.toNat : Nat) : Int) = z
          omega
        have ev : Elx.vns (a.1.map Int.toNat) = a.1.map L2.V.int := by rw [Elx.vns_ints, en]
        refine ⟨_, a.1.map Int.toNat, rfl, by rw [ev]; exact hs, by rw [en]; exact hask, by rw [List.length_map]; exact (Codec.inNat_iff.mp q.1.1).2, fun H' p hp => ?_⟩
        rw [en] at hp
        exact .lst (L2.SqL.of hp) (L2.dw_ints _)
#print axioms PySem.Challenge.cw_editedlex_s01_answers_holds

