import PyProof.Rows.All
import Wide.All
import OpenK.AllK
import Wide.FinOn
import PyProof.EqAt
import PyProof.EqKinds
import PyProof.TupleCall
import KE.BitLaws
import Open.SpecLaws
import KE.OsHead
import KE.OsGo
import KE.KSortKeySt
import KE.KLam
import PySem.Challenge.RW_measuredpay_s01_answers
set_option Elab.async false
set_option linter.all false
set_option maxRecDepth 100000
/-! THE HAND LAYER, for ints, bools, texts, own classes, lists, tuples, dicts, comprehensions, walks over dicts, enumerate, zip, reversed, texts, calls, loops. Paste it whole ahead of your own text; what your proof does not reach may be deleted. -/
namespace L2
open PySem PySem.Spec PyProof.Rows

/-- a key: an int or a str -/
abbrev Key := Sum Int Str
def keyIs : Key → Value → Bool
  | .inl k, v => Value.isInt k v
  | .inr x, v => Value.isStrOf x v
def keyH (w : World) : Key → Int
  | .inl k => hashInt k
  | .inr x => hashStr w x
theorem keyIs_shape : ∀ {k : Key} {v : Value}, keyIs k v = true → (∃ i t, k = Sum.inl i ∧ v = Value.int i t) ∨ (∃ x t, k = Sum.inr x ∧ v = Value.str x t)
  | .inl i, v, h => by
    obtain ⟨t, e⟩ := Value.isInt_shape (k := i) (v := v) h
    exact .inl ⟨i, t, rfl, e⟩
  | .inr x, v, h => by
    obtain ⟨t, e⟩ := Value.isStrOf_shape (x := x) (v := v) h
    exact .inr ⟨x, t, rfl, e⟩
theorem key_ll (a b : Int) : decide ((Sum.inl a : Key) = Sum.inl b) = (a == b) := by
  by_cases e : a = b
  · subst e; simp
  · have h : ¬ (Sum.inl a : Key) = Sum.inl b := fun q => e (Sum.inl.inj q)
    rw [decide_eq_false h]
    exact (beq_eq_false_iff_ne.mpr e).symm
theorem key_rr (a b : Str) : decide ((Sum.inr a : Key) = Sum.inr b) = decide (a = b) := by
  by_cases e : a = b
  · subst e; simp
  · have h : ¬ (Sum.inr a : Key) = Sum.inr b := fun q => e (Sum.inr.inj q)
    rw [decide_eq_false h, decide_eq_false e]
theorem key_lr (a : Int) (b : Str) : decide ((Sum.inl a : Key) = Sum.inr b) = false := decide_eq_false (fun q => nomatch q)
theorem key_rl (a : Str) (b : Int) : decide ((Sum.inr a : Key) = Sum.inl b) = false := decide_eq_false (fun q => nomatch q)

def mixKind (prog : Program) (w : World) : PySem.KeyKind prog w Key where
  is := keyIs
  hash := keyH w
  inj := fun v a b ha hb => by
    rcases keyIs_shape ha with ⟨i, t, rfl, rfl⟩ | ⟨x, t, rfl, rfl⟩
    · rcases keyIs_shape hb with ⟨j, u, rfl, e⟩ | ⟨y, u, rfl, e⟩
      · injection e with e1 _; rw [e1]
      · exact nomatch e
    · rcases keyIs_shape hb with ⟨j, u, rfl, e⟩ | ⟨y, u, rfl, e⟩
      · exact nomatch e
      · injection e with e1 _; rw [e1]
  byValue := fun k v h => by
    rcases keyIs_shape h with ⟨i, t, rfl, rfl⟩ | ⟨x, t, rfl, rfl⟩ <;> rfl
  pyHash := fun hv h => by
    rcases keyIs_shape hv with ⟨i, t, rfl, rfl⟩ | ⟨x, t, rfl, rfl⟩
    · exact wpAny_pyHash_int h
    · exact wpAny_pyHash_str h
  eqBool := fun hu hv h => by
    rcases keyIs_shape hu with ⟨i, t, rfl, rfl⟩ | ⟨x, t, rfl, rfl⟩
    · rcases keyIs_shape hv with ⟨j, u, rfl, rfl⟩ | ⟨y, u, rfl, rfl⟩
      · rw [key_ll] at h; exact wpAny_eqBool_int h
      · rw [key_lr] at h; exact SeqAt.EqAt.int_str i t y u _ _ _ _ h
    · rcases keyIs_shape hv with ⟨j, u, rfl, rfl⟩ | ⟨y, u, rfl, rfl⟩
      · rw [key_rl] at h; exact SeqAt.EqAt.str_int x t j u _ _ _ _ h
      · rw [key_rr] at h; exact wpAny_eqBool_str h
  «strs» := fun k x t v h => by
    rcases keyIs_shape h with ⟨i, u, rfl, e⟩ | ⟨y, u, rfl, e⟩
    · exact nomatch e
    · injection e with e1 _
      subst e1
      cases v <;> rfl

end L2

namespace L2
open PySem PySem.Spec PyProof.Rows

/-- a value, without the heap -/
inductive V where
  | non | bl (b : Bool) | int (i : Int) | str (x : Str) | byt (b : Array UInt8) | flt (b : UInt64) | ref (a : Addr) | ty (n : String)
  deriving DecidableEq

def RelV : V → Value → Prop
  | .non, u => u = Value.none
  | .bl b, u => u = Value.bool b
  | .int i, u => ∃ t, u = Value.int i t
  | .str x, u => ∃ t, u = Value.str x t
  | .byt b, u => ∃ t, u = Value.bytes b t
  | .flt b, u => ∃ t, u = Value.float b t
  | .ref a, u => u = Value.ref a
  | .ty n, u => u = Value.type n

abbrev Vals : List V → List Value → Prop := Paired RelV
theorem Vals.length {xs : List V} {us : List Value} (r : Vals xs us) : xs.length = us.length := Paired.length r
theorem Vals.get : ∀ {xs : List V} {us : List Value} {i : Nat} {x : V}, Vals xs us → xs[i]? = some x → ∃ u, us[i]? = some u ∧ RelV x u
  | _, _, _, _, .nil, e => by simp at e
  | _, _, 0, _, .cons r _, e => by simp at e; subst e; exact ⟨_, rfl, r⟩
  | _, _, i + 1, x, .cons _ t, e => by
    obtain ⟨u, h1, h2⟩ := Vals.get (i := i) (x := x) t (by simpa using e)
    exact ⟨u, by simpa using h1, h2⟩
theorem Vals.set {x : V} {u : Value} (r : RelV x u) : ∀ {xs : List V} {us : List Value} (i : Nat), Vals xs us → Vals (xs.set i x) (us.set i u)
  | _, _, _, .nil => .nil
  | _, _, 0, .cons _ t => .cons r t
  | _, _, i + 1, .cons q t => .cons q (Vals.set r i t)
theorem Vals.append : ∀ {xs ys : List V} {us ws : List Value}, Vals xs us → Vals ys ws → Vals (xs ++ ys) (us ++ ws)
  | _, _, _, _, .nil, s => s
  | _, _, _, _, .cons r t, s => .cons r (Vals.append t s)
theorem Vals.take : ∀ {xs : List V} {us : List Value} (n : Nat), Vals xs us → Vals (xs.take n) (us.take n)
  | _, _, 0, _ => .nil
  | _, _, _ + 1, .nil => .nil
  | _, _, n + 1, .cons r t => .cons r (Vals.take n t)
theorem Vals.drop : ∀ {xs : List V} {us : List Value} (n : Nat), Vals xs us → Vals (xs.drop n) (us.drop n)
  | _, _, 0, r => r
  | _, _, _ + 1, .nil => .nil
  | _, _, n + 1, .cons _ t => Vals.drop n t

def RelO : Option V → Option Value → Prop
  | some v, some u => RelV v u
  | none, none => True
  | _, _ => False
def KV {κ : Type} : List (κ × V) → List (κ × Value) → Prop := Paired fun (p : κ × V) (q : κ × Value) => p.1 = q.1 ∧ RelV p.2 q.2

/-- a key of a dict (00_mix): an int or a text -/
def kV : Key → V
  | .inl i => .int i
  | .inr x => .str x

/-- what stands at a tracked address -/
inductive HO where
  /-- a list -/
  | lst (xs : List V)
  /-- a tuple (never changes) -/
  | tup (xs : List V)
  /-- a dict whose keys are ints and texts; one whose keys are tuples of ints and texts (the empty one is both) -/
  | dK (kvs : List (Key × V)) | dT (kvs : List (List Key × V))
  /-- a set of ints: its members, its size -/
  | set (S : Int → Bool) (n : Nat)
  /-- an instance of the class at C, its dict at dx, its attributes -/
  | ins (C dx : Addr) (fs : List (Str × V))
  /-- the dict of the instance at x -/
  | own (x : Addr)
  /-- the dict of an exception -/
  | xd (fs : List (Str × V))
  /-- a bound method, f of x -/
  | met (f x : Addr)
  /-- a range object lo, lo + 1, .. below hi -/
  | rng (lo hi : Int)
  /-- a thing that is known to the object (the script; a dict while a loop walks it): read, never written while it is so -/
  | frz (o : Obj) (u : HO)
  /-- a code object's table -/
  | tbl (ps : Array Value)
  /-- any other thing, by what is true of its one object (a def of one's own: SetO a S n := HO.ext fun h => ..) -/
  | ext (φ : Heap → Prop)

abbrev Hp := Addr → Option HO
def upd (H : Hp) (a : Addr) (o : HO) : Hp := fun b => if b = a then some o else H b
theorem upd_same {H : Hp} {a : Addr} {o : HO} : upd H a o a = some o := by unfold upd; rw [if_pos rfl]
theorem upd_ne {H : Hp} {a b : Addr} {o : HO} (h : b ≠ a) : upd H a o b = H b := by unfold upd; rw [if_neg h]
/-- two objects of different content stand apart -/
theorem ne_of {H : Hp} {a b : Addr} {o u : HO} (h : H a = some o) (h' : H b = some u) (d : o ≠ u) : a ≠ b := by
  intro e; subst e; rw [h] at h'; exact d (Option.some.inj h')
theorem ne_of_none {H : Hp} {a b : Addr} {o : HO} (h : H a = some o) (h' : H b = none) : a ≠ b := by
  intro e; subst e; rw [h] at h'; cases h'

section
variable (P : Program) (w : World)
def ObjOk (H : Hp) (h : Heap) (a : Addr) : HO → Prop
  | .lst xs => xs.length ≤ sizeLine ∧ ∃ (its : List Value) (n : Nat), Vals xs its ∧ h.get? a = some { cls := .type "list", data := .seq its.toArray n }
  | .tup xs => xs.length ≤ sizeLine ∧ ∃ its : List Value, Vals xs its ∧ IsTup h a its.toArray
  | .dK kvs => kvs.length ≤ sizeLine ∧ (a == sysModules) = false ∧ ∃ vs, KV kvs vs ∧ h.DictOf (mixKind P w) a vs
  | .dT kvs => kvs.length ≤ sizeLine ∧ (a == sysModules) = false ∧ ∃ xs : List (List Key × Addr × Value),
      Paired (fun (p : List Key × V) (q : List Key × Addr × Value) => p.1 = q.1 ∧ H q.2.1 = some (.tup (p.1.map kV)) ∧ RelV p.2 q.2.2) kvs xs ∧
      ∃ o es ep, h.get? a = some o ∧ o.ExactDict ∧ o.data = .dict es ep ∧ es.toList = xs.map (entryOfKey (tupleKind (mixKind P w))) ∧ (xs.map (·.1)).Nodup
  | .set S n => h.SetOf (intKind P w) a S n
  | .ins C dx fs => H dx = some (.own a) ∧ fs.length ≤ 1000 ∧ dx ≠ a ∧ h.get? a = some (PySem.W.instObj C dx) ∧
      ∃ mA, h.Ns1 dx mA ∧ (∀ f, RelO (fs.lookup f) (mA f)) ∧ PySem.Within mA (fs.map (·.1))
  | .own _ => ∃ o, h.get? a = some o
  | .xd fs => ∃ mA, h.Ns1 a mA ∧ ∀ f, RelO (fs.lookup f) (mA f)
  | .rng lo hi => ∃ t u v, h.get? a = some { cls := .type "range", data := .fields #[.int lo t, .int hi u, .int 1 v] }
  | .frz o u => h.get? a = some o ∧ ObjOk H h a u
  | .tbl ps => h.get? a = some { cls := .none, data := .fields ps }
  | .met f x => h.get? a = some (PySem.W.methodObj (.ref f) (.ref x))
  | .ext φ => φ h ∧ (∃ o, h.get? a = some o) ∧ ∀ h1 h2 : Heap, φ h1 → (∀ o, h1.get? a = some o → h2.get? a = some o) → φ h2
/-- the abstract heap is held -/
def HOk (H : Hp) (h : Heap) : Prop := ∀ a o, H a = some o → ObjOk P w H h a o
end

section
variable {P : Program} {w : World} {H H' : Hp} {h h' : Heap} {a : Addr} {o : HO}
theorem ObjOk.lt (x : ObjOk P w H h a o) : a < h.objs.size := by
  cases o with
  | lst xs => obtain ⟨_, _, _, _, e⟩ := x; exact Heap.lt_size e
  | tup xs => obtain ⟨_, _, _, p⟩ := x; exact p.lt
  | dK kvs => obtain ⟨_, _, _, _, o, _, _, e, _⟩ := x; exact Heap.lt_size e
  | dT kvs => obtain ⟨_, _, _, _, o, _, _, e, _⟩ := x; exact Heap.lt_size e
  | set S n => obtain ⟨o, _, _, _, e, _⟩ := x; exact Heap.lt_size e
  | ins C dx fs => obtain ⟨_, _, _, e, _⟩ := x; exact Heap.lt_size e
  | own y => obtain ⟨_, e⟩ := x; exact Heap.lt_size e
  | xd fs => obtain ⟨_, ⟨_, _, _, e, _⟩, _⟩ := x; exact Heap.lt_size e
  | rng lo hi => obtain ⟨_, _, _, e⟩ := x; exact Heap.lt_size e
  | frz ob u => obtain ⟨e, _⟩ := x; exact Heap.lt_size e
  | tbl ps => exact Heap.lt_size (show h.get? a = some _ from x)
  | met f y => exact Heap.lt_size (show h.get? a = some _ from x)
  | ext φ => obtain ⟨_, ⟨_, e⟩, _⟩ := x; exact Heap.lt_size e
theorem Paired.mapP {α β : Type} {F G : α → β → Prop} : ∀ {l₁ : List α} {l₂ : List β}, Paired F l₁ l₂ → (∀ a b, F a b → G a b) → Paired G l₁ l₂
  | _, _, .nil, _ => .nil
  | _, _, .cons r t, f => .cons (f _ _ r) (Paired.mapP t f)
/-- what an object's description leans on: its own object, its own dict, the tuples -/
theorem ObjOk.stay (x : ObjOk P w H h a o) (k : ∀ b u, (b = a ∨ H b = some (.own a)) → h.get? b = some u → h'.get? b = some u)
    (ho : ∀ b, H b = some (.own a) → H' b = some (.own a)) (ht : ∀ b xs, H b = some (.tup xs) → H' b = some (.tup xs)) : ObjOk P w H' h' a o := by
  induction o with
  | lst xs => obtain ⟨z, its, n, r, e⟩ := x; exact ⟨z, its, n, r, k _ _ (.inl rfl) e⟩
  | tup xs => obtain ⟨z, its, r, ob, e, c⟩ := x; exact ⟨z, its, r, ob, k _ _ (.inl rfl) e, c⟩
  | dK kvs => obtain ⟨z, y, vs, r, ob, es, ep, e, c⟩ := x; exact ⟨z, y, vs, r, ob, es, ep, k _ _ (.inl rfl) e, c⟩
  | dT kvs =>
    obtain ⟨z, y, xs, r, ob, es, ep, e, c⟩ := x
    exact ⟨z, y, xs, Paired.mapP r fun p q z => ⟨z.1, ht _ _ z.2.1, z.2.2⟩, ob, es, ep, k _ _ (.inl rfl) e, c⟩
  | set S n => obtain ⟨ob, es, ep, t, e, c⟩ := x; exact ⟨ob, es, ep, t, k _ _ (.inl rfl) e, c⟩
  | ins C dx fs =>
    obtain ⟨d, z, ne, e, mA, ⟨od, es, ep, e2, c⟩, r⟩ := x
    exact ⟨ho _ d, z, ne, k _ _ (.inl rfl) e, mA, ⟨od, es, ep, k _ _ (.inr d) e2, c⟩, r⟩
  | own y => obtain ⟨ob, e⟩ := x; exact ⟨ob, k _ _ (.inl rfl) e⟩
  | xd fs => obtain ⟨mA, ⟨od, es, ep, e, c⟩, r⟩ := x; exact ⟨mA, ⟨od, es, ep, k _ _ (.inl rfl) e, c⟩, r⟩
  | rng lo hi => obtain ⟨t, u, v, e⟩ := x; exact ⟨t, u, v, k _ _ (.inl rfl) e⟩
  | frz ob u ih => obtain ⟨e, q⟩ := x; exact ⟨k _ _ (.inl rfl) e, ih q⟩
  | tbl ps =>
    have e : h.get? a = some { cls := .none, data := .fields ps } := x
    show h'.get? a = some { cls := .none, data := .fields ps }
    exact k a _ (.inl rfl) e
  | met f y =>
    have e : h.get? a = some (PySem.W.methodObj (.ref f) (.ref y)) := x
    show h'.get? a = some (PySem.W.methodObj (.ref f) (.ref y))
    exact k a _ (.inl rfl) e
  | ext φ => obtain ⟨p, ⟨o, e⟩, st⟩ := x; exact ⟨st _ _ p fun o q => k _ _ (.inl rfl) q, ⟨o, k _ _ (.inl rfl) e⟩, st⟩
theorem HOk.lt (x : HOk P w H h) (e : H a = some o) : a < h.objs.size := (x a o e).lt
theorem HOk.fresh (x : HOk P w H h) (e : h.objs.size ≤ a) : H a = none := by
  cases q : H a with
  | none => rfl
  | some u => exact absurd (Nat.lt_of_lt_of_le (x.lt q) e) (Nat.lt_irrefl _)
/-- every object of the heap is kept -/
theorem HOk.kept (x : HOk P w H h) (k : ∀ b u, h.get? b = some u → h'.get? b = some u) : HOk P w H h' := fun a o e =>
  (x a o e).stay (fun b u _ q => k b u q) (fun _ q => q) fun _ _ q => q
/-- a new object is laid and tracked -/
theorem HOk.laid (x : HOk P w H h) (k : ∀ b u, h.get? b = some u → h'.get? b = some u) (hp : h.objs.size ≤ a) (new : ObjOk P w (upd H a o) h' a o) : HOk P w (upd H a o) h' := fun b u e => by
  have hn := x.fresh hp
  by_cases hb : b = a
  · subst hb; rw [upd_same] at e; cases e; exact new
  · rw [upd_ne hb] at e
    exact (x b u e).stay (fun c v _ q => k c v q) (fun c q => by rw [upd_ne (ne_of_none q hn)]; exact q) fun c xs q => by rw [upd_ne (ne_of_none q hn)]; exact q
end

/-- what may be read as u: it is u, or a known u -/
def Rd (H : Hp) (a : Addr) (u : HO) : Prop := H a = some u ∨ ∃ o, H a = some (.frz o u)
theorem Rd.ok {P : Program} {w : World} {H : Hp} {h : Heap} {a : Addr} {u : HO} (r : Rd H a u) (x : HOk P w H h) : ObjOk P w H h a u := by
  rcases r with r | ⟨o, r⟩
  · exact x a u r
  · obtain ⟨_, q⟩ := x a _ r
    exact q
/-- what may be written -/
def Mut : Option HO → Prop
  | some (.lst _) => True
  | some (.dK _) => True
  | some (.dT _) => True
  | some (.set _ _) => True
  | some (.ins _ _ _) => True
  | some (.ext _) => True
  | _ => False
section
variable {P : Program} {w : World} {H : Hp} {h h' : Heap} {x e : Addr} {o' : HO}
/-- the object at e is changed: x itself, or the dict of the instance x -/
theorem HOk.write (ok : HOk P w H h) (mu : Mut (H x)) (he : e = x ∨ H e = some (.own x)) (k : ∀ b u, b ≠ e → h.get? b = some u → h'.get? b = some u) (heo : ∃ u, h'.get? e = some u)
    (new : ObjOk P w (upd H x o') h' x o') : HOk P w (upd H x o') h' := fun b u q => by
  have nown : ∀ c y, H c = some (.own y) → c ≠ x := fun c y r z => by subst z; rw [r] at mu; exact mu
  have ntup : ∀ c xs, H c = some (.tup xs) → c ≠ x := fun c xs r z => by subst z; rw [r] at mu; exact mu
  by_cases hb : b = x
  · subst hb; rw [upd_same] at q; cases q; exact new
  · rw [upd_ne hb] at q
    by_cases hbe : b = e
    · have q' : H b = some (.own x) := by
        rcases he with z | z
        · exact absurd (hbe.trans z) hb
        · rw [hbe]; exact z
      rw [q] at q'; cases q'
      obtain ⟨v, hv⟩ := heo
      exact ⟨v, by rw [hbe]; exact hv⟩
    · refine (ok b u q).stay (fun c v hc r => k c v ?_ r) (fun c r => by rw [upd_ne (nown c b r)]; exact r) fun c xs r => by rw [upd_ne (ntup c xs r)]; exact r
      rcases hc with rfl | hc
      · exact hbe
      · rintro rfl
        rcases he with z | z
        · exact nown c b hc z
        · rw [hc] at z; cases z; exact hb rfl
end

/-! ### kept unless tracked; of the frames at fs (the callers') the slots may change (an exception that passes writes there); of the records at ex (iterators) nothing is said -/
structure Un (fs ex : List Addr) (H H' : Hp) (h h' : Heap) : Prop where
  keep : ∀ b o, h.get? b = some o → H b = none → b ∉ fs → b ∉ ex → h'.get? b = some o
  slot : ∀ b o, h.get? b = some o → H b = none → b ∈ fs → b ∉ ex → ∃ sl, h'.get? b = some { o with slots := sl }
  free : ∀ b o, h.get? b = some o → H b = none → b ∉ ex → H' b = none
  there : ∀ b o, h.get? b = some o → b ∉ ex → ∃ o', h'.get? b = some o'
  tups : ∀ b xs, H b = some (.tup xs) → H' b = some (.tup xs)
  frzs : ∀ b o u, H b = some (.frz o u) → H' b = some (.frz o u)
  tbls : ∀ b ps, H b = some (.tbl ps) → ∃ more, H' b = some (.tbl (ps ++ more))
section
variable {fs fs' ex ex' : List Addr} {H H1 H2 : Hp} {h h1 h2 h' : Heap} {a x e : Addr} {o : HO}
theorem Un.any (u : Un fs ex H H1 h h1) {b : Addr} {ob : Obj} (q : h.get? b = some ob) (n : H b = none) (hx : b ∉ ex) : ∃ sl, h1.get? b = some { ob with slots := sl } := by
  by_cases hb : b ∈ fs
  · exact u.slot b ob q n hb hx
  · exact ⟨ob.slots, u.keep b ob q n hb hx⟩
theorem Un.kept (k : ∀ b u, h.get? b = some u → h'.get? b = some u) : Un fs ex H H h h' :=
  ⟨fun b ob q _ _ _ => k b ob q, fun b ob q _ _ _ => ⟨ob.slots, k b ob q⟩, fun _ _ _ n _ => n, fun b ob q _ => ⟨ob, k b ob q⟩, fun _ _ q => q, fun _ _ _ q => q, fun _ ps q => ⟨#[], by rw [q]; simp⟩⟩
theorem Un.refl : Un fs ex H H h h := Un.kept fun _ _ q => q
theorem Un.laid (k : ∀ b u, h.get? b = some u → h'.get? b = some u) (hp : h.objs.size ≤ a) (hn : H a = none) : Un fs ex H (upd H a o) h h' where
  keep := fun b u q _ _ _ => k b u q
  slot := fun b u q _ _ _ => ⟨u.slots, k b u q⟩
  free := fun b u q n _ => by rw [upd_ne (Nat.ne_of_lt (Nat.lt_of_lt_of_le (Heap.lt_size q) hp))]; exact n
  there := fun b u q _ => ⟨u, k b u q⟩
  tups := fun b xs q => by rw [upd_ne (ne_of_none q hn)]; exact q
  frzs := fun b u xs q => by rw [upd_ne (ne_of_none q hn)]; exact q
  tbls := fun b ps q => ⟨#[], by rw [upd_ne (ne_of_none q hn), q]; simp⟩
theorem Un.write (mu : Mut (H x)) (he : e = x ∨ H e = some (.own x)) (k : ∀ b u, b ≠ e → h.get? b = some u → h'.get? b = some u) (heo : ∃ u, h'.get? e = some u) : Un fs ex H (upd H x o) h h' := by
  have hx : ∀ b, H b = none → b ≠ x := fun b n z => by subst z; rw [n] at mu; exact mu
  have hb : ∀ b, H b = none → b ≠ e := fun b n z => by
    subst z
    rcases he with r | r
    · exact hx b n r
    · rw [n] at r; cases r
  have hm : ∀ b u, H b = some u → ¬ Mut (some u) → b ≠ x := fun b u q nm z => by subst z; rw [q] at mu; exact nm mu
  refine ⟨fun b u q n _ _ => k b u (hb b n) q, fun b u q n _ _ => ⟨u.slots, k b u (hb b n) q⟩, fun b u q n _ => by rw [upd_ne (hx b n)]; exact n, fun b u q _ => ?_,
    fun b xs q => by rw [upd_ne (hm b _ q fun z => z)]; exact q, fun b u xs q => by rw [upd_ne (hm b _ q fun z => z)]; exact q, fun b ps q => ⟨#[], by rw [upd_ne (hm b _ q fun z => z), q]; simp⟩⟩
  by_cases hbe : b = e
  · subst hbe; exact heo
  · exact ⟨u, k b u hbe q⟩
end

/-! ### the heap without what is tracked -/
def trk (h : Heap) (H : Hp) : List Addr := (List.range h.objs.size).filter fun a => (H a).isSome
def hidT (h : Heap) (H : Hp) : Heap := PySem.W.hideAll h (trk h H)
theorem hidT_size (h : Heap) (H : Hp) : (hidT h H).objs.size = h.objs.size := PySem.W.hideAll_size _ _
theorem hidT_get {h : Heap} {H : Hp} {b : Addr} {o : Obj} (e : h.get? b = some o) (n : H b = none) : (hidT h H).get? b = some o :=
  PySem.W.hideAll_get _ e fun hm => by
    have q : (H b).isSome = true := (List.mem_filter.mp hm).2
    rw [n] at q; simp at q
theorem of_hidT {h : Heap} {H : Hp} {b : Addr} {o : Obj} (e : (hidT h H).get? b = some o) : h.get? b = some o ∧ H b = none := by
  have e' : h.get? b = some o := PySem.W.of_hideAll (trk h H) e
  refine ⟨e', ?_⟩
  cases q : H b with
  | none => rfl
  | some x =>
    have hm : b ∈ trk h H := List.mem_filter.mpr ⟨List.mem_range.mpr (Heap.lt_size e'), by simp [q]⟩
    have z : (hidT h H).get? b = none := PySem.W.hideAll_none (trk h H) hm
    rw [z] at e; cases e

/-! ### OpenK's ledger, filled with every new object but one -/
end L2

namespace L2
open PySem PySem.Spec PyProof.Rows

/-- the module's facts, over the base: the heap at the law's entry without what is tracked there -/
structure Mod (K : PySem.W.Frag) (mg : Str → Option Value) (base : Heap) : Prop where
  kin : K.In base
  glob : base.Ns mainGlobals mg
  blt : ∃ mb, base.Ns builtinsNs mb ∧ ∀ x : Str, x ≠ "__name__" → mb x = bootBuiltins x
  nolimit : base.NoLimit

/-- the context: a def's body (or a comprehension's block) running. base: fixed through the whole law; s₀, H₀: the entry; outer: the frames whose slots others may change (a def's callers); stack: all frames that run;
   ex: iterators that were made ahead of the entry and are walked here (a comprehension's); fn: the names whose cells were made at the entry (a def: all; a comprehension's block: its own); calm: not within an except suite; pn: pins that every state bears; xe: what is wanted of an exception that leaves the code -/
structure Cx where
  prog : Program
  w : World
  K : PySem.W.Frag
  mg : Str → Option Value
  base : Heap
  A : Around
  N : List Str
  s_0 : Shared
  H_0 : Hp
  env : Env
  outer : List Env
  stack : List Env
  ex : List Addr
  fn : Str → Bool
  calm : Bool
  pn : List (Addr × Obj)
  xe : Value → Shared → Prop
/-- the callers' frames -/
def frs (l : List Env) : List Addr := l.filterMap (·.frame)
abbrev Cx.fs (X : Cx) : List Addr := frs X.outer

def Vis (sc : Scope) (x : Str) : Prop := sc.names.lookup x = some .local ∨ sc.names.lookup x = some .cell ∨ sc.names.lookup x = some .free
def Loc (sc : Scope) (x : Str) : Prop := sc.names.lookup x = some .local ∨ sc.names.lookup x = some .cell
def Look (env : Env) (h : Heap) (m : Str → Option Value) (x : Str) (u : Value) : Prop :=
  (env.kindOf x = some .local ∧ m x = some u) ∨ ((env.kindOf x = some .cell ∨ env.kindOf x = some .free) ∧ ∃ c, env.cells.lookup x = some c ∧ h.IsCell c (some u))

structure Cx.Ok (X : Cx) : Prop where
  mod : Mod X.K X.mg X.base
  kind : X.env.scope.kind = .function
  glob : X.env.globals = mainGlobals
  blt : X.env.builtins = builtinsNs
  above : X.s_0.heap.objs.size ≤ X.env.locals
  inj : ∀ x y c, X.env.cells.lookup x = some c → X.env.cells.lookup y = some c → x = y
  has : ∀ x, (X.env.kindOf x = some .cell ∨ X.env.kindOf x = some .free) → ∃ c, X.env.cells.lookup x = some c
  cab : ∀ x c, X.fn x = true → X.env.cells.lookup x = some c → X.s_0.heap.objs.size ≤ c
  hd : X.calm = true → X.A.handled = none
  frames : X.A.frames = some X.stack
  stk : X.stack = X.outer ∨ (X.stack = X.env :: X.outer ∧ X.env.frame = some X.env.locals)
  exf : ∀ b ∈ X.ex, b ≠ X.env.locals ∧ ∀ x c, X.env.cells.lookup x = some c → c ≠ b
  bs : ∀ b o, X.base.get? b = some o → X.s_0.heap.get? b = some o ∧ X.H_0 b = none
  bsz : X.base.objs.size ≤ X.s_0.heap.objs.size
  noex : ∀ b o, X.base.get? b = some o → b ∉ X.ex
  exfs : ∀ b ∈ X.ex, b ∉ X.fs
  funs : X.s_0.heap.FunFrames X.base X.outer
  frf : ∀ b ∈ X.fs, X.H_0 b = none

structure Inv (X : Cx) (pins : List (Addr × Obj)) (σ : List (Option V)) (H : Hp) (s : Shared) : Prop where
  ok : X.Ok
  os : s.os = X.s_0.os
  bare : AllBare s.gens
  base : Un X.fs X.ex X.H_0 H X.s_0.heap s.heap
  loc : ∃ m, s.heap.Ns X.env.locals m ∧ ∀ (i : Nat) (x : Str) (v : V), X.N[i]? = some x → σ[i]? = some (some v) → Vis X.env.scope x → ∃ u, RelV v u ∧ Look X.env s.heap m x u
  cell : ∀ x c, X.env.cells.lookup x = some c → ∃ v, s.heap.IsCell c v
  free : H X.env.locals = none
  freeC : ∀ x c, X.env.cells.lookup x = some c → H c = none
  pin : ∀ p ∈ X.pn ++ pins, s.heap.get? p.1 = some p.2 ∧ H p.1 = none ∧ p.1 ≠ X.env.locals ∧ p.1 ∉ X.fs ∧ ∀ v, p.2.data ≠ .cell v
  hok : HOk X.prog X.w H s.heap
  len : σ.length = X.N.length

section
variable {X : Cx} {pins : List (Addr × Obj)} {σ : List (Option V)} {H H' : Hp} {s : Shared} {h' : Heap}

theorem Cx.Ok.nofr (ok : X.Ok) {b : Addr} {o : Obj} (e : X.base.get? b = some o) : b ∉ X.fs := fun hb => by
  have := (ok.funs.mem hb).1
  rw [e] at this; cases this
theorem Inv.bs (I : Inv X pins σ H s) : ∀ b o, X.base.get? b = some o → s.heap.get? b = some o ∧ H b = none := fun b o e =>
  ⟨I.base.keep b o (I.ok.bs b o e).1 (I.ok.bs b o e).2 (I.ok.nofr e) (I.ok.noex b o e), I.base.free b o (I.ok.bs b o e).1 (I.ok.bs b o e).2 (I.ok.noex b o e)⟩
theorem Inv.bk (I : Inv X pins σ H s) : ∀ b o, X.base.get? b = some o → s.heap.get? b = some o := fun b o e => (I.bs b o e).1
theorem Inv.mod (I : Inv X pins σ H s) : Mod X.K X.mg X.base := I.ok.mod
theorem Inv.kIn (I : Inv X pins σ H s) : X.K.In s.heap := I.ok.mod.kin.keeps I.bk
theorem Inv.nolimit (I : Inv X pins σ H s) : s.heap.NoLimit := I.ok.mod.nolimit.keeps I.bk
theorem Inv.lt (I : Inv X pins σ H s) : X.env.locals < s.heap.objs.size := let ⟨_, hn, _⟩ := I.loc; hn.lt
theorem Inv.sz (I : Inv X pins σ H s) : X.s_0.heap.objs.size ≤ s.heap.objs.size := Nat.le_trans I.ok.above (Nat.le_of_lt I.lt)
theorem Inv.nofs (I : Inv X pins σ H s) {a : Addr} (h : s.heap.objs.size ≤ a) : a ∉ X.fs := fun hb => by
  obtain ⟨_, o, ho, _⟩ := I.ok.funs.mem hb
  exact absurd (Nat.lt_of_lt_of_le (Heap.lt_size ho) (Nat.le_trans I.sz h)) (Nat.lt_irrefl _)
theorem Inv.cne (I : Inv X pins σ H s) : ∀ x c, X.env.cells.lookup x = some c → c ≠ X.env.locals := fun x c e z => by
  obtain ⟨v, o, ho, hd⟩ := I.cell x c e
  obtain ⟨m, ⟨o', es, ep, ho', hd', _⟩, _⟩ := I.loc
  rw [z, ho'] at ho; cases ho; rw [hd'] at hd; cases hd
theorem Inv.funs (I : Inv X pins σ H s) : s.heap.FunFrames X.base X.outer := by
  have all : ∀ (l : List Env), (∀ b ∈ frs l, b ∈ X.fs) → X.s_0.heap.FunFrames X.base l → s.heap.FunFrames X.base l := by
    intro l
    induction l with
    | nil => intro _ _; trivial
    | cons env r ih =>
      intro hs hl
      obtain ⟨hk, ⟨L, o, hf, hn, ho, hd⟩, hr⟩ := hl
      have hL : L ∈ X.fs := hs L (by unfold frs; rw [List.filterMap_cons, hf]; exact List.mem_cons_self)
      obtain ⟨sl, e⟩ := I.base.slot L o ho (I.ok.frf L hL) hL fun z => I.ok.exfs L z hL
      exact ⟨hk, ⟨L, _, hf, hn, e, hd⟩, ih (fun b hb => hs b (by unfold frs; rw [List.filterMap_cons, hf]; exact List.mem_cons_of_mem _ hb)) hr⟩
  exact all X.outer (fun _ hb => hb) I.ok.funs

/-- the frames that run, for a call -/
theorem Inv.stack (I : Inv X pins σ H s) : s.heap.FunFrames X.base X.stack := by
  rcases I.ok.stk with e | ⟨e, hf⟩
  · rw [e]; exact I.funs
  · rw [e]
    obtain ⟨m, hn, _⟩ := I.loc
    refine .cons (by rw [I.ok.kind]; decide) hf hn ?_ I.funs
    exact Heap.get?_none_of_le (Nat.le_trans I.ok.bsz I.ok.above)
theorem Inv.stkSub (I : Inv X pins σ H s) : ∀ b ∈ frs X.stack, b ∈ X.env.locals :: X.fs := fun b hb => by
  rcases I.ok.stk with e | ⟨e, hf⟩
  · rw [e] at hb; exact List.mem_cons_of_mem _ hb
  · rw [e] at hb
    unfold frs at hb
    rw [List.filterMap_cons, hf] at hb
    exact hb
theorem Inv.stkFree (I : Inv X pins σ H s) : ∀ b ∈ frs X.stack, H b = none := fun b hb => by
  rcases List.mem_cons.mp (I.stkSub b hb) with e | hb
  · rw [e]; exact I.free
  · obtain ⟨_, o, ho, _⟩ := I.ok.funs.mem hb
    exact I.base.free b o ho (I.ok.frf b hb) fun z => I.ok.exfs b z hb

/-- THE STEP: the untracked objects but the frame and the records at ch are kept (the callers' frames up to slots), the frame's map is kept, the new abstract heap is held -/
theorem Inv.step {g' : Array GenState} {t' : Nat} {d' : Drawn} {ch : List Addr} (I : Inv X pins σ H s)
    (hch : ∀ b ∈ ch, (b ∈ X.ex ∨ X.s_0.heap.objs.size ≤ b) ∧ b ≠ X.env.locals ∧ (∀ x c, X.env.cells.lookup x = some c → c ≠ b) ∧ ∀ p ∈ X.pn ++ pins, p.1 ≠ b)
    (keep : ∀ b o, b ≠ X.env.locals → b ∉ X.fs → b ∉ ch → s.heap.get? b = some o → H b = none → h'.get? b = some o)
    (slot : ∀ b o, b ≠ X.env.locals → b ∈ X.fs → b ∉ ch → s.heap.get? b = some o → H b = none → ∃ sl, h'.get? b = some { o with slots := sl }) (free : ∀ b o, b ∉ ch → s.heap.get? b = some o → H b = none → H' b = none)
    (there : ∀ b o, b ∉ ch → s.heap.get? b = some o → ∃ o', h'.get? b = some o')
    (tups : ∀ b xs, H b = some (.tup xs) → H' b = some (.tup xs)) (frzs : ∀ b o u, H b = some (.frz o u) → H' b = some (.frz o u)) (tbls : ∀ b ps, H b = some (.tbl ps) → ∃ more, H' b = some (.tbl (ps ++ more)))
    (ns : ∀ m, s.heap.Ns X.env.locals m → h'.Ns X.env.locals m) (hok : HOk X.prog X.w H' h') (hg : AllBare g') :
    Inv X pins σ H' { s with heap := h', gens := g', drawn := d', toks := t' } := by
  have neL : ∀ b o, X.s_0.heap.get? b = some o → b ≠ X.env.locals := fun b o e => Nat.ne_of_lt (Nat.lt_of_lt_of_le (Heap.lt_size e) I.ok.above)
  have neC : ∀ b o, X.s_0.heap.get? b = some o → b ∉ X.ex → b ∉ ch := fun b o e hx hb => by
    rcases (hch b hb).1 with z | z
    · exact hx z
    · exact absurd (Nat.lt_of_lt_of_le (Heap.lt_size e) z) (Nat.lt_irrefl _)
  have cellK : ∀ x c, X.env.cells.lookup x = some c → ∀ v, s.heap.IsCell c v → h'.IsCell c v := fun x c e v ⟨o, ho, hd⟩ => by
    have nch : c ∉ ch := fun z => (hch c z).2.2.1 x c e rfl
    by_cases hc : c ∈ X.fs
    · obtain ⟨sl, q⟩ := slot c o (I.cne x c e) hc nch ho (I.freeC x c e)
      exact ⟨_, q, hd⟩
    · exact ⟨o, keep c o (I.cne x c e) hc nch ho (I.freeC x c e), hd⟩
  refine ⟨I.ok, I.os, hg, ⟨fun b o e n hb hx => ?_, fun b o e n hb hx => ?_, fun b o e n hx => ?_, fun b o e hx => ?_, fun b xs e => tups b xs (I.base.tups b xs e), fun b o xs e => frzs b o xs (I.base.frzs b o xs e), fun b ps e => ?_⟩, ?_, fun x c e => ?_, ?_, fun x c e => ?_, fun p hp => ?_, hok, I.len⟩
  · exact keep b o (neL b o e) hb (neC b o e hx) (I.base.keep b o e n hb hx) (I.base.free b o e n hx)
  · obtain ⟨sl, e1⟩ := I.base.slot b o e n hb hx
    obtain ⟨sl', e2⟩ := slot b _ (neL b o e) hb (neC b o e hx) e1 (I.base.free b o e n hx)
    exact ⟨sl', e2⟩
  · obtain ⟨o', e1⟩ := I.base.there b o e hx
    exact free b o' (neC b o e hx) e1 (I.base.free b o e n hx)
  · obtain ⟨o', e1⟩ := I.base.there b o e hx
    exact there b o' (neC b o e hx) e1
  · obtain ⟨m1, e1⟩ := I.base.tbls b ps e
    obtain ⟨m2, e2⟩ := tbls b _ e1
    exact ⟨m1 ++ m2, by rw [e2, Array.append_assoc]⟩
  · obtain ⟨m, hn, hl⟩ := I.loc
    refine ⟨m, ns m hn, fun i x v e1 e2 e3 => ?_⟩
    obtain ⟨u, r, l⟩ := hl i x v e1 e2 e3
    refine ⟨u, r, ?_⟩
    rcases l with l | ⟨k, c, e, z⟩
    · exact .inl l
    · exact .inr ⟨k, c, e, cellK x c e _ z⟩
  · obtain ⟨v, z⟩ := I.cell x c e
    exact ⟨v, cellK x c e v z⟩
  · obtain ⟨m, ⟨o, _, _, ho, _⟩, _⟩ := I.loc
    exact free _ o (fun z => (hch _ z).2.1 rfl) ho I.free
  · obtain ⟨v, o, ho, hd⟩ := I.cell x c e
    exact free c o (fun z => (hch c z).2.2.1 x c e rfl) ho (I.freeC x c e)
  · obtain ⟨e, n, ne, nf, d⟩ := I.pin p hp
    have nch : p.1 ∉ ch := fun z => (hch p.1 z).2.2.2 p hp rfl
    exact ⟨keep p.1 p.2 ne nf nch e n, free p.1 p.2 nch e n, ne, nf, d⟩
/-- .. where the frame's own object is kept too -/
theorem Inv.un {t' : Nat} (I : Inv X pins σ H s) (u : Un X.fs [] H H' s.heap h') (hok : HOk X.prog X.w H' h') : Inv X pins σ H' { s with heap := h', toks := t' } := by
  obtain ⟨m, ⟨o, es, ep, ho, r⟩, _⟩ := id I.loc
  obtain ⟨sl, hL⟩ := u.any ho I.free (by simp)
  exact I.step (g' := s.gens) (d' := s.drawn) (ch := []) (fun _ z => nomatch z) (fun b o _ hb _ e n => u.keep b o e n hb (by simp)) (fun b o _ hb _ e n => u.slot b o e n hb (by simp)) (fun b o _ e n => u.free b o e n (by simp)) (fun b o _ e => u.there b o e (by simp)) u.tups u.frzs u.tbls (fun m' hm => by
    obtain ⟨o', es', ep', ho', r'⟩ := hm
    rw [ho] at ho'; cases ho'
    exact ⟨_, es', ep', hL, r'⟩) hok I.bare
/-- behind a call (or a comprehension's block): the slots of this frame may have changed too, the records at ch may have turned -/
theorem Inv.call {g' : Array GenState} {t' : Nat} {d' : Drawn} {ch : List Addr} (I : Inv X pins σ H s) (u : Un (frs X.stack) ch H H' s.heap h') (hok : HOk X.prog X.w H' h') (hg : AllBare g')
    (hch : ∀ b ∈ ch, (b ∈ X.ex ∨ X.s_0.heap.objs.size ≤ b) ∧ b ≠ X.env.locals ∧ (∀ x c, X.env.cells.lookup x = some c → c ≠ b) ∧ ∀ p ∈ X.pn ++ pins, p.1 ≠ b) :
    Inv X pins σ H' { s with heap := h', gens := g', drawn := d', toks := t' } := by
  obtain ⟨m, ⟨o, es, ep, ho, r⟩, _⟩ := id I.loc
  obtain ⟨sl, hL⟩ := u.any ho I.free fun z => (hch _ z).2.1 rfl
  exact I.step (ch := ch) hch (fun b o hL hb hc e n => u.keep b o e n (fun z => (List.mem_cons.mp (I.stkSub b z)).elim hL hb) hc) (fun b o _ _ hc e n => u.any e n hc) (fun b o hc e n => u.free b o e n hc) (fun b o hc e => u.there b o e hc) u.tups u.frzs u.tbls (fun m' hm => by
    obtain ⟨o', es', ep', ho', r'⟩ := hm
    rw [ho] at ho'; cases ho'
    exact ⟨_, es', ep', hL, r'⟩) hok hg
/-- an untracked record of ours (an iterator) has turned -/
theorem Inv.turned {t' : Nat} {it : Addr} (I : Inv X pins σ H s) (k : ∀ b o, b ≠ it → s.heap.get? b = some o → h'.get? b = some o) (hn : H it = none) (hL : it ≠ X.env.locals)
    (h1 : it ∈ X.ex ∨ X.s_0.heap.objs.size ≤ it) (h2 : ∀ x c, X.env.cells.lookup x = some c → c ≠ it) (h3 : ∀ p ∈ X.pn ++ pins, p.1 ≠ it) : Inv X pins σ H { s with heap := h', toks := t' } := by
  have nit : ∀ b u, H b = some u → b ≠ it := fun b u e z => by rw [z, hn] at e; cases e
  refine I.step (g' := s.gens) (d' := s.drawn) (ch := [it]) (fun b hb => ?_) (fun b o _ _ hc e _ => k b o (fun z => hc (by simp [z])) e) (fun b o _ _ hc e _ => ⟨o.slots, k b o (fun z => hc (by simp [z])) e⟩) (fun _ _ _ _ n => n)
    (fun b o hc e => ⟨o, k b o (fun z => hc (by simp [z])) e⟩) (fun _ _ e => e) (fun _ _ _ e => e) (fun b ps e => ⟨#[], by rw [e]; simp⟩) (fun m hm => ?_) (fun b u e => ?_) I.bare
  · have e : b = it := by simpa using hb
    subst e
    exact ⟨h1, hL, h2, h3⟩
  · obtain ⟨o, es, ep, ho, r⟩ := hm
    exact ⟨o, es, ep, k _ o (Ne.symm hL) ho, r⟩
  · refine (I.hok b u e).stay (fun c v hc q => k c v ?_ q) (fun _ q => q) fun _ _ q => q
    rcases hc with z | z
    · rw [z]; exact nit b u e
    · exact nit c _ z
theorem Inv.tok (I : Inv X pins σ H s) (t : Nat) : Inv X pins σ H { s with toks := t } := I.un (h' := s.heap) (t' := t) Un.refl I.hok
/-- all objects kept -/
theorem Inv.kept {t' : Nat} (I : Inv X pins σ H s) (k : ∀ b u, s.heap.get? b = some u → h'.get? b = some u) : Inv X pins σ H { s with heap := h', toks := t' } := I.un (Un.kept k) (I.hok.kept k)
/-- a new object laid and tracked -/
theorem Inv.laid {a : Addr} {o : HO} {t' : Nat} (I : Inv X pins σ H s) (k : ∀ b u, s.heap.get? b = some u → h'.get? b = some u) (hp : s.heap.objs.size ≤ a) (new : ObjOk X.prog X.w (upd H a o) h' a o) :
    Inv X pins σ (upd H a o) { s with heap := h', toks := t' } := I.un (Un.laid k hp (I.hok.fresh hp)) (I.hok.laid k hp new)
/-- an object written -/
theorem Inv.write {x e : Addr} {o : HO} {t' : Nat} (I : Inv X pins σ H s) (mu : Mut (H x)) (he : e = x ∨ H e = some (.own x)) (k : ∀ b u, b ≠ e → s.heap.get? b = some u → h'.get? b = some u) (heo : ∃ u, h'.get? e = some u)
    (new : ObjOk X.prog X.w (upd H x o) h' x o) : Inv X pins σ (upd H x o) { s with heap := h', toks := t' } := I.un (Un.write mu he k heo) (I.hok.write mu he k heo new)
/-- forgetting slots, pins -/
theorem Inv.weak {σ' : List (Option V)} (I : Inv X pins σ H s) (hl : σ'.length = σ.length) (w : ∀ (i : Nat) v, σ'[i]? = some (some v) → σ[i]? = some (some v)) : Inv X pins σ' H s :=
  ⟨I.ok, I.os, I.bare, I.base, let ⟨m, hn, hl'⟩ := I.loc; ⟨m, hn, fun i x v e1 e2 e3 => hl' i x v e1 (w i v e2) e3⟩, I.cell, I.free, I.freeC, I.pin, I.hok, hl.trans I.len⟩
theorem Inv.pins_of {pins' : List (Addr × Obj)} (I : Inv X pins σ H s) (h : ∀ p ∈ pins', s.heap.get? p.1 = some p.2 ∧ H p.1 = none ∧ p.1 ≠ X.env.locals ∧ p.1 ∉ X.fs ∧ ∀ v, p.2.data ≠ .cell v) : Inv X pins' σ H s :=
  ⟨I.ok, I.os, I.bare, I.base, I.loc, I.cell, I.free, I.freeC, fun p hp => (List.mem_append.mp hp).elim (fun z => I.pin p (List.mem_append_left _ z)) (h p), I.hok, I.len⟩

theorem nodup_ix {N : List Str} (hN : N.Nodup) {i j : Nat} {x : Str} (a : N[i]? = some x) (b : N[j]? = some x) : i = j := by
  obtain ⟨h1, e1⟩ := List.getElem?_eq_some_iff.mp a
  obtain ⟨h2, e2⟩ := List.getElem?_eq_some_iff.mp b
  exact (List.getElem_inj hN).mp (e1.trans e2.symm)

/-- a name is stored; what changed -/
theorem store_ok2 {M : Model} {A : Around} {E : Value → Shared → Prop} {i : Nat} {x : Str} {v : V} {u : Value} {Q : Unit → Shared → Prop} (I : Inv X pins σ H s) (hN : X.N.Nodup) (hi : X.N[i]? = some x) (hx : Loc X.env.scope x) (r : RelV v u)
    (h : ∀ s', Inv X pins (σ.set i (some v)) H s' → (∃ a, Heap.SameBut a s.heap s'.heap ∧ (a = X.env.locals ∨ X.env.cells.lookup x = some a)) → Q () s') (hf : X.fn x = true ∨ X.env.scope.names.lookup x = some .local := by first | exact .inl rfl | exact .inr rfl | assumption) : wpAny M A (storeName X.env x u) Q E s := by
  obtain ⟨m, hn, hl⟩ := id I.loc
  have hcls : (X.env.scope.kind == .class || (X.env.scope.kind == .module && X.env.locals != X.env.globals)) = false := by rw [I.ok.kind]; rfl
  have hiσ : i < σ.length := by rw [I.len]; exact (List.getElem?_eq_some_iff.mp hi).1
  have cne := I.cne
  have tracked : ∀ {a : Addr} {h' : Heap}, (∃ o, s.heap.get? a = some o ∧ H a = none) → Heap.SameBut a s.heap h' → HOk X.prog X.w H h' := fun {a h'} ha hs b ob e => by
    obtain ⟨_, _, hfree⟩ := ha
    refine (I.hok b ob e).stay (fun c w' hc q => (hs.2 c ?_).trans q) (fun _ q => q) fun _ _ q => q
    rintro rfl
    rcases hc with rfl | hc
    · rw [hfree] at e; cases e
    · rw [hfree] at hc; cases hc
  rcases hx with hk | hk
  · refine wpAny_storeName_local hk hn (fun h' hn' hs => ?_) hcls
    obtain ⟨oL, _, _, hoL, _⟩ := id hn
    refine h _ ⟨I.ok, I.os, I.bare, ⟨fun b o e n hb hx => ?_, fun b o e n hb hx => ?_, I.base.free, fun b o e hx => ?_, I.base.tups, I.base.frzs, I.base.tbls⟩, ⟨_, hn', fun j y v' e1 e2 e3 => ?_⟩, fun y c e => ?_, I.free, I.freeC, fun p hp => ?_, tracked ⟨oL, hoL, I.free⟩ hs, by simpa using I.len⟩ ⟨_, hs, .inl rfl⟩
    · exact (hs.2 b (Nat.ne_of_lt (Nat.lt_of_lt_of_le (Heap.lt_size e) I.ok.above))).trans (I.base.keep b o e n hb hx)
    · obtain ⟨sl, e1⟩ := I.base.slot b o e n hb hx
      exact ⟨sl, (hs.2 b (Nat.ne_of_lt (Nat.lt_of_lt_of_le (Heap.lt_size e) I.ok.above))).trans e1⟩
    · obtain ⟨o', e1⟩ := I.base.there b o e hx
      exact ⟨o', (hs.2 b (Nat.ne_of_lt (Nat.lt_of_lt_of_le (Heap.lt_size e) I.ok.above))).trans e1⟩
    · by_cases hj : j = i
      · subst hj
        rw [hi] at e1; cases e1
        rw [List.getElem?_set_self hiσ] at e2
        cases e2
        exact ⟨u, r, .inl ⟨hk, by simp⟩⟩
      · rw [List.getElem?_set_ne (Ne.symm hj)] at e2
        obtain ⟨u', r', q⟩ := hl j y v' e1 e2 e3
        refine ⟨u', r', ?_⟩
        rcases q with ⟨k, e⟩ | ⟨k, c, e, z⟩
        · refine .inl ⟨k, ?_⟩
          have : y ≠ x := fun e => hj (nodup_ix hN e1 (e ▸ hi))
          simp [this, e]
        · exact .inr ⟨k, c, e, z.sameBut hs (cne y c e)⟩
    · obtain ⟨w', z⟩ := I.cell y c e
      exact ⟨w', z.sameBut hs (cne y c e)⟩
    · obtain ⟨e, n, ne, nf, d⟩ := I.pin p hp
      exact ⟨(hs.2 p.1 ne).trans e, n, ne, nf, d⟩
  · have hfn : X.fn x = true := by
      rcases hf with z | z
      · exact z
      · rw [z] at hk; cases hk
    obtain ⟨c, hc⟩ := I.ok.has x (.inl hk)
    obtain ⟨w', z⟩ := I.cell x c hc
    refine wpAny_storeName_cell I.ok.kind hk hc z (fun h' hc' hs => ?_)
    obtain ⟨oc, hoc, hocd⟩ := id z
    refine h { s with heap := h' } ⟨I.ok, I.os, I.bare, ⟨fun b o e n hb hx => ?_, fun b o e n hb hx => ?_, I.base.free, fun b o e hx => ?_, I.base.tups, I.base.frzs, I.base.tbls⟩, ⟨m, hn.sameBut hs (Ne.symm (cne x c hc)), fun j y v' e1 e2 e3 => ?_⟩, fun y c' e => ?_, I.free, I.freeC, fun p hp => ?_, tracked ⟨oc, hoc, I.freeC x c hc⟩ hs, by simpa using I.len⟩ ⟨c, hs, .inr hc⟩
    · exact (hs.2 b (Nat.ne_of_lt (Nat.lt_of_lt_of_le (Heap.lt_size e) (I.ok.cab x c hfn hc)))).trans (I.base.keep b o e n hb hx)
    · obtain ⟨sl, e1⟩ := I.base.slot b o e n hb hx
      exact ⟨sl, (hs.2 b (Nat.ne_of_lt (Nat.lt_of_lt_of_le (Heap.lt_size e) (I.ok.cab x c hfn hc)))).trans e1⟩
    · obtain ⟨o', e1⟩ := I.base.there b o e hx
      exact ⟨o', (hs.2 b (Nat.ne_of_lt (Nat.lt_of_lt_of_le (Heap.lt_size e) (I.ok.cab x c hfn hc)))).trans e1⟩
    · by_cases hj : j = i
      · subst hj
        rw [hi] at e1; cases e1
        rw [List.getElem?_set_self hiσ] at e2
        cases e2
        exact ⟨u, r, .inr ⟨.inl hk, c, hc, hc'⟩⟩
      · rw [List.getElem?_set_ne (Ne.symm hj)] at e2
        obtain ⟨u', r', q⟩ := hl j y v' e1 e2 e3
        refine ⟨u', r', ?_⟩
        rcases q with q | ⟨k, c', e, z'⟩
        · exact .inl q
        · refine .inr ⟨k, c', e, z'.sameBut hs ?_⟩
          rintro rfl
          exact hj (nodup_ix hN e1 (I.ok.inj _ _ _ e hc ▸ hi))
    · by_cases hcc : c' = c
      · subst hcc; exact ⟨_, hc'⟩
      · obtain ⟨w2, z2⟩ := I.cell y c' e
        exact ⟨w2, z2.sameBut hs hcc⟩
    · obtain ⟨e, n, ne, nf, d⟩ := I.pin p hp
      refine ⟨(hs.2 p.1 ?_).trans e, n, ne, nf, d⟩
      intro q
      rw [q, hoc] at e
      have q' : oc = p.2 := Option.some.inj e
      exact d w' (by rw [← q']; exact hocd)
theorem store_ok {M : Model} {A : Around} {E : Value → Shared → Prop} {i : Nat} {x : Str} {v : V} {u : Value} {Q : Unit → Shared → Prop} (I : Inv X pins σ H s) (hN : X.N.Nodup) (hi : X.N[i]? = some x) (hx : Loc X.env.scope x) (r : RelV v u)
    (h : ∀ s', Inv X pins (σ.set i (some v)) H s' → Q () s') (hf : X.fn x = true ∨ X.env.scope.names.lookup x = some .local := by first | exact .inl rfl | exact .inr rfl | assumption) : wpAny M A (storeName X.env x u) Q E s :=
  store_ok2 I hN hi hx r (fun s' I' _ => h s' I') hf
/-- behind a call or a block, the state as it is -/
theorem Inv.call' {s' : Shared} {ch : List Addr} (I : Inv X pins σ H s) (ho : s'.os = s.os) (u : Un (frs X.stack) ch H H' s.heap s'.heap) (hok : HOk X.prog X.w H' s'.heap) (hg : AllBare s'.gens)
    (hch : ∀ b ∈ ch, (b ∈ X.ex ∨ X.s_0.heap.objs.size ≤ b) ∧ b ≠ X.env.locals ∧ (∀ x c, X.env.cells.lookup x = some c → c ≠ b) ∧ ∀ p ∈ X.pn ++ pins, p.1 ≠ b) : Inv X pins σ H' s' := by
  obtain ⟨h', g', d', t', o'⟩ := s'
  have e : o' = s.os := ho
  subst e
  exact I.call (g' := g') (t' := t') (d' := d') u hok hg hch
end

/-! ### the judgements -/
/-- an exception: its class, its own dict's address (where it has one), the abstract heap behind it -/
abbrev XK := Value → Option Addr → Hp → Prop
abbrev St := List (Option V)
abbrev VK := V → Hp → Prop
/-- an expression's reading; a test's; an argument list's -/
abbrev TE := St → Hp → VK → Prop
abbrev TT := St → Hp → (Bool → Hp → Prop) → Prop
abbrev TA := St → Hp → (List V → Hp → Prop) → Prop
/-- what is wanted behind a statement -/
structure Ends where
  nx : St → Hp → Prop
  rt : VK
  bk : St → Hp → Prop := fun _ _ => False
  ct : St → Hp → Prop := fun _ _ => False
abbrev TS := Ends → St → Hp → Prop

def EP (X : Cx) (pins : List (Addr × Obj)) (σ : St) (Q : VK) (u : Value) (s' : Shared) : Prop := ∃ v H', Inv X pins σ H' s' ∧ RelV v u ∧ Q v H'
def TP (X : Cx) (pins : List (Addr × Obj)) (σ : St) (Q : Bool → Hp → Prop) (b : Bool) (s' : Shared) : Prop := ∃ H', Inv X pins σ H' s' ∧ Q b H'
def AP (X : Cx) (pins : List (Addr × Obj)) (σ : St) (Q : List V → Hp → Prop) (us : List Value) (s' : Shared) : Prop := ∃ vs H', Inv X pins σ H' s' ∧ Vals vs us ∧ Q vs H'
def SP (X : Cx) (pins : List (Addr × Obj)) (D : Ends) (f : Flow) (s' : Shared) : Prop :=
  match f with
  | .next => ∃ σ' H', Inv X pins σ' H' s' ∧ D.nx σ' H'
  | .brk => ∃ σ' H', Inv X pins σ' H' s' ∧ D.bk σ' H'
  | .cont => ∃ σ' H', Inv X pins σ' H' s' ∧ D.ct σ' H'
  | .ret u => ∃ v σ' H', Inv X pins σ' H' s' ∧ RelV v u ∧ D.rt v H'

def PE (X : Cx) (e : Expr) (t : TE) : Prop :=
  ∀ (pins : List (Addr × Obj)) (s : Shared) (σ : St) (H : Hp) (Q : VK), Inv X pins σ H s → t σ H Q → wpAny (model X.prog X.w) X.A (eval e X.env) (EP X pins σ Q) X.xe s
def PT (X : Cx) (e : Expr) (t : TT) : Prop :=
  ∀ (pins : List (Addr × Obj)) (s : Shared) (σ : St) (H : Hp) (Q : Bool → Hp → Prop), Inv X pins σ H s → t σ H Q → wpAny (model X.prog X.w) X.A (isTrue e X.env (eval e X.env)) (TP X pins σ Q) X.xe s
/-- a test whatever its 'whole' is (and, or) -/
def PW (X : Cx) (e : Expr) (t : TT) : Prop :=
  ∀ (whole : Sem Value) (pins : List (Addr × Obj)) (s : Shared) (σ : St) (H : Hp) (Q : Bool → Hp → Prop), Inv X pins σ H s → t σ H Q → wpAny (model X.prog X.w) X.A (isTrue e X.env whole) (TP X pins σ Q) X.xe s
theorem PW.pt {X : Cx} {e : Expr} {t : TT} (h : PW X e t) : PT X e t := h _
/-- an argument list (no star), from the left -/
def PA (X : Cx) (es : List Expr) (t : TA) : Prop :=
  ∀ (pos : Pos) (pins : List (Addr × Obj)) (s : Shared) (σ : St) (H : Hp) (Q : List V → Hp → Prop), Inv X pins σ H s → t σ H Q → wpAny (model X.prog X.w) X.A (spliced (backTo pos (starEach es X.env))) (AP X pins σ Q) X.xe s
def PS (X : Cx) (st : Stmt) (t : TS) : Prop :=
  ∀ (pins : List (Addr × Obj)) (s : Shared) (σ : St) (H : Hp) (D : Ends), Inv X pins σ H s → t D σ H → wpAny (model X.prog X.w) X.A (exec st X.env) (SP X pins D) X.xe s
def PSs (X : Cx) (st : List Stmt) (t : TS) : Prop :=
  ∀ (pins : List (Addr × Obj)) (s : Shared) (σ : St) (H : Hp) (D : Ends), Inv X pins σ H s → t D σ H → wpAny (model X.prog X.w) X.A (execs st X.env) (SP X pins D) X.xe s
/-- weaken the end -/
theorem thn {α : Type} {t : Sem α} {Q Q' : α → Shared → Prop} {M : Model} {A : Around} {E : Value → Shared → Prop} {s : Shared} (h : wpAny M A t Q E s) (hQ : ∀ a s, Q a s → Q' a s) : wpAny M A t Q' E s := wpAny_mono h hQ fun _ _ x => x
end L2

namespace L2
open PySem PySem.Spec PyProof.Rows
section
variable {X : Cx}


/-! ### names and constants -/
def tVar (i : Nat) : TE := fun σ H Q => ∃ v, σ[i]? = some (some v) ∧ Q v H
def tC (v : V) : TE := fun _ H Q => Q v H
theorem pe_var {i : Nat} {x : Str} {pos : Pos} (hN : X.N[i]? = some x) (hv : Vis X.env.scope x) (hd : (x == ("__debug__" : Str)) = false := by decide) (hcd : (x == ("__classdict__" : Str)) = false := by decide) : PE X (.Name x pos) (tVar i) := by
  intro pins s σ H Q I h
  obtain ⟨v, e, h⟩ := h
  obtain ⟨m, hn, hl⟩ := I.loc
  obtain ⟨u, r, l⟩ := hl i x v hN e hv
  have fin : EP X pins σ Q u s := ⟨v, H, I, r, h⟩
  rcases l with ⟨hk, hm⟩ | ⟨hk, c, hc, hcell⟩
  · exact wpAny_Name (wpAny_loadName_local I.ok.kind hk hn hm fin) hd
  · rcases hk with hk | hk
    · exact wpAny_Name (wpAny_loadName_cell I.ok.kind hk hc hcell fin) hd
    · exact wpAny_Name (wpAny_loadName_free I.ok.kind hk hc hcell fin hcd) hd
theorem pe_int {i j pos} : PE X (.Constant (.int i) j pos) (tC (.int i)) := fun _ _ _ H _ I h => wpAny_Constant_int ⟨.int i, H, I.tok _, ⟨_, rfl⟩, h⟩
theorem pe_bl {b j pos} : PE X (.Constant (.bool b) j pos) (tC (.bl b)) := fun _ _ _ H _ I h => Constant_bool ⟨.bl b, H, I, rfl, h⟩

/-- a global name of the def -/
def Gl (X : Cx) (x : Str) : Prop := X.env.kindOf x = some .globalImplicit
theorem ld_glob {E : Value → Shared → Prop} {pins : List (Addr × Obj)} {s : Shared} {σ : St} {H : Hp} {x : Str} {u : Value} {pos : Pos} {Q : Value → Shared → Prop} (I : Inv X pins σ H s) (hg : Gl X x) (hm : X.mg x = some u) (h : Q u s)
    (hd : (x == ("__debug__" : Str)) = false := by decide) : wpAny (model X.prog X.w) X.A (eval (.Name x pos) X.env) Q E s :=
  Calls.Name_function_global I.ok.kind hg (Calls.loadGlobal_global (by rw [I.ok.glob]; exact I.mod.glob.keeps I.bk) hm h) hd
theorem ld_blt {E : Value → Shared → Prop} {pins : List (Addr × Obj)} {s : Shared} {σ : St} {H : Hp} {x : Str} {u : Value} {pos : Pos} {Q : Value → Shared → Prop} (I : Inv X pins σ H s) (hg : Gl X x) (hm : X.mg x = none) (hv : bootBuiltins x = some u) (h : Q u s)
    (hn : x ≠ "__name__" := by decide) (hd : (x == ("__debug__" : Str)) = false := by decide) : wpAny (model X.prog X.w) X.A (eval (.Name x pos) X.env) Q E s := by
  obtain ⟨mb, h1, h2⟩ := I.mod.blt
  exact Calls.Name_function_global I.ok.kind hg (Calls.loadGlobal_builtin (by rw [I.ok.glob]; exact I.mod.glob.keeps I.bk) hm (by rw [I.ok.blt]; exact h1.keeps I.bk) ((h2 x hn).trans hv) h) hd
/-- a module's constant, a class, a function, as a value -/
theorem pe_glob {x : Str} {v : V} {u : Value} {pos : Pos} (hg : Gl X x) (hm : X.mg x = some u) (r : RelV v u) (hd : (x == ("__debug__" : Str)) = false := by decide) : PE X (.Name x pos) (tC v) :=
  fun _ _ _ H _ I h => ld_glob I hg hm ⟨v, H, I, r, h⟩ hd

/-! ### arithmetic -/
variable {a b : Expr} {ta tb : TE} {pos : Pos}

/-! ### comparisons -/
/-- a comparison as a value, as a test -/
def tB (t : TE) : TT := fun σ H Q => t σ H fun x H1 => ∃ c, x = .bl c ∧ Q c H1
/-- an expression whose value is a bool, as a test -/
theorem pt_val {e : Expr} {t : TE} (h : PE X e t) (he : ∀ whole, isTrue e X.env whole = (do let v ← whole; standAt e.pos; holding [v] (truthy v)) := by intro _; rfl) : PT X e (tB t) := by
  intro pins s σ H Q I hw
  refine isTrue_plain (thn (h pins s σ H _ I hw) fun v s1 ⟨x, H1, I1, r1, q1⟩ => ?_) (he _)
  obtain ⟨d, rfl, q⟩ := q1
  cases r1
  exact wpAny_truthy_bool ⟨H1, I1, q⟩

/-! ### and, or, not -/
variable {tA tB' : TT} {rest : List Expr}
def tAnd (t u : TT) : TT := fun σ H Q => t σ H fun c H1 => if c = true then u σ H1 Q else Q false H1
def tOr (t u : TT) : TT := fun σ H Q => t σ H fun c H1 => if c = true then Q true H1 else u σ H1 Q
def tNot (t : TT) : TT := fun σ H Q => t σ H fun c H1 => Q (!c) H1
theorem pw_and1 (ha : PT X a tA) : PW X (.BoolOp .And [a] pos) tA := by
  intro wh pins s σ H Q I h
  refine isTrue_and (thn (ha pins s σ H Q I h) fun c s1 e => ?_)
  cases c with
  | true => exact isTrue_and_nil e
  | false => exact e
theorem pw_or1 (ha : PT X a tA) : PW X (.BoolOp .Or [a] pos) tA := by
  intro wh pins s σ H Q I h
  refine isTrue_or (thn (ha pins s σ H Q I h) fun c s1 e => ?_)
  cases c with
  | false => exact isTrue_or_nil e
  | true => exact e
theorem pw_and (ha : PT X a tA) (hb : PW X (.BoolOp .And (b :: rest) pos) tB') : PW X (.BoolOp .And (a :: b :: rest) pos) (tAnd tA tB') := by
  intro wh pins s σ H Q I h
  refine isTrue_and (thn (ha pins s σ H _ I h) fun c s1 ⟨H1, I1, q1⟩ => ?_)
  cases c with
  | true => exact hb wh pins s1 σ H1 Q I1 q1
  | false => exact ⟨H1, I1, q1⟩
theorem pw_or (ha : PT X a tA) (hb : PW X (.BoolOp .Or (b :: rest) pos) tB') : PW X (.BoolOp .Or (a :: b :: rest) pos) (tOr tA tB') := by
  intro wh pins s σ H Q I h
  refine isTrue_or (thn (ha pins s σ H _ I h) fun c s1 ⟨H1, I1, q1⟩ => ?_)
  cases c with
  | true => exact ⟨H1, I1, q1⟩
  | false => exact hb wh pins s1 σ H1 Q I1 q1
theorem pt_not (ha : PT X a tA) : PT X (.UnaryOp .Not a pos) (tNot tA) := by
  intro pins s σ H Q I h
  exact isTrue_not (ha pins s σ H (fun c H1 => Q (!c) H1) I h)
/-- a if t else b -/
def tIf (t : TT) (ta tb : TE) : TE := fun σ H Q => t σ H fun c H1 => if c = true then ta σ H1 Q else tb σ H1 Q
theorem pe_ifExp {c : Expr} (hc : PT X c tA) (ha : PE X a ta) (hb : PE X b tb) : PE X (.IfExp c a b pos) (tIf tA ta tb) := by
  intro pins s σ H Q I h
  refine wpAny_IfExp (thn (hc pins s σ H _ I h) fun d s1 ⟨H1, I1, q1⟩ => ?_)
  cases d with
  | true => exact ha pins s1 σ H1 Q I1 q1
  | false => exact hb pins s1 σ H1 Q I1 q1
end
end L2

namespace L2
open PySem PySem.Spec PyProof.Rows

/-! ### a list, a tuple that is read: tracked, frozen, or an object of the module -/
def SqL (K : PySem.W.Frag) (H : Hp) (a : Addr) (xs : List V) : Prop :=
  Rd H a (.lst xs) ∨
    ∃ (o : Obj) (its : Array Value) (n : Nat), K.lookup a = some o ∧ o.cls = .type "list" ∧ o.dict = none ∧ o.data = .seq its n ∧ its.size ≤ sizeLine ∧ Vals xs its.toList
def SqT (K : PySem.W.Frag) (H : Hp) (a : Addr) (xs : List V) : Prop :=
  Rd H a (.tup xs) ∨
    ∃ (o : Obj) (its : Array Value) (n : Nat), K.lookup a = some o ∧ o.cls = .type "tuple" ∧ o.data = .seq its n ∧ its.size ≤ sizeLine ∧ Vals xs its.toList
def absV : Value → Option V
  | .none => some .non
  | .bool b => some (.bl b)
  | .int i _ => some (.int i)
  | .str x _ => some (.str x)
  | .bytes b _ => some (.byt b)
  | .float b _ => some (.flt b)
  | .ref a => some (.ref a)
  | .type n => some (.ty n)
  | _ => none
theorem RelV.abs {x : V} {u : Value} (r : RelV x u) : absV u = some x := by
  cases x with
  | non => cases r; rfl
  | bl _ => cases r; rfl
  | int _ => obtain ⟨t, rfl⟩ := r; rfl
  | str _ => obtain ⟨t, rfl⟩ := r; rfl
  | byt _ => obtain ⟨t, rfl⟩ := r; rfl
  | flt _ => obtain ⟨t, rfl⟩ := r; rfl
  | ref _ => cases r; rfl
  | ty _ => cases r; rfl
theorem RelV.inj {x y : V} {u : Value} (r : RelV x u) (q : RelV y u) : x = y := Option.some.inj (r.abs.symm.trans q.abs)
theorem Vals.inj : ∀ {xs ys : List V} {us : List Value}, Vals xs us → Vals ys us → xs = ys
  | _, _, _, .nil, .nil => rfl
  | _, _, _, .cons r t, .cons r' t' => by rw [r.inj r', Vals.inj t t']
section
variable {X : Cx} {pins : List (Addr × Obj)} {σ : St} {H : Hp} {s : Shared} {a : Addr} {xs ys : List V}
theorem SqL.of {K : PySem.W.Frag} (h : H a = some (.lst xs)) : SqL K H a xs := .inl (.inl h)
theorem Inv.list (I : Inv X pins σ H s) (h : SqL X.K H a xs) : ∃ its : List Value, Vals xs its ∧ PlainL s.heap a its.toArray ∧ xs.length ≤ sizeLine := by
  rcases h with h | ⟨o, its, n, hk, hc, hd, hs, hz, r⟩
  · obtain ⟨z, its, n, r, e⟩ := h.ok I.hok
    exact ⟨its, r, ⟨_, n, e, rfl, rfl, rfl⟩, z⟩
  · refine ⟨its.toList, r, ⟨o, n, I.kIn a o hk, hc, hd, by simpa using hs⟩, ?_⟩
    have e := r.length
    simp only [Array.length_toList] at e
    omega
theorem Inv.tuple (I : Inv X pins σ H s) (h : SqT X.K H a xs) : ∃ its : List Value, Vals xs its ∧ IsTup s.heap a its.toArray ∧ xs.length ≤ sizeLine := by
  rcases h with h | ⟨o, its, n, hk, hc, hs, hz, r⟩
  · obtain ⟨z, its, r, p⟩ := h.ok I.hok
    exact ⟨its, r, p, z⟩
  · refine ⟨its.toList, r, ⟨o, I.kIn a o hk, hc, n, by simpa using hs⟩, ?_⟩
    have e := r.length
    simp only [Array.length_toList] at e
    omega
theorem Inv.list_inj (I : Inv X pins σ H s) (h : SqL X.K H a xs) (h' : SqL X.K H a ys) : xs = ys := by
  obtain ⟨its, r, ⟨o, n, e, _, _, d⟩, _⟩ := I.list h
  obtain ⟨its', r', ⟨o', n', e', _, _, d'⟩, _⟩ := I.list h'
  rw [e] at e'; cases e'
  rw [d] at d'
  injection d' with d1 _
  have : its = its' := by simpa using congrArg Array.toList d1
  subst this
  exact r.inj r'
end

/-! ### another wish about exceptions -/
abbrev Cx.wish (X : Cx) (E : Value → Shared → Prop) : Cx := { X with xe := E }
/-- no exception leaves -/
abbrev Cx.nox (X : Cx) : Cx := X.wish fun _ _ => False
theorem Cx.Ok.wish {X : Cx} (ok : X.Ok) (E : Value → Shared → Prop) : (X.wish E).Ok :=
  ⟨ok.mod, ok.kind, ok.glob, ok.blt, ok.above, ok.inj, ok.has, ok.cab, ok.hd, ok.frames, ok.stk, ok.exf, ok.bs, ok.bsz, ok.noex, ok.exfs, ok.funs, ok.frf⟩
theorem Cx.Ok.unwish {X : Cx} {E : Value → Shared → Prop} (ok : (X.wish E).Ok) : X.Ok :=
  ⟨ok.mod, ok.kind, ok.glob, ok.blt, ok.above, ok.inj, ok.has, ok.cab, ok.hd, ok.frames, ok.stk, ok.exf, ok.bs, ok.bsz, ok.noex, ok.exfs, ok.funs, ok.frf⟩
section
variable {X : Cx} {pins : List (Addr × Obj)} {σ : St} {H : Hp} {s : Shared} {E : Value → Shared → Prop}
theorem Inv.wish (I : Inv X pins σ H s) (E : Value → Shared → Prop) : Inv (X.wish E) pins σ H s := ⟨I.ok.wish E, I.os, I.bare, I.base, I.loc, I.cell, I.free, I.freeC, I.pin, I.hok, I.len⟩
theorem Inv.unwish (I : Inv (X.wish E) pins σ H s) : Inv X pins σ H s := ⟨I.ok.unwish, I.os, I.bare, I.base, I.loc, I.cell, I.free, I.freeC, I.pin, I.hok, I.len⟩
theorem SP.unwish {D : Ends} {f : Flow} {s' : Shared} (h : SP (X.wish E) pins D f s') : SP X pins D f s' := by
  cases f with
  | next => obtain ⟨σ', H', I, q⟩ := h; exact ⟨σ', H', I.unwish, q⟩
  | brk => obtain ⟨σ', H', I, q⟩ := h; exact ⟨σ', H', I.unwish, q⟩
  | cont => obtain ⟨σ', H', I, q⟩ := h; exact ⟨σ', H', I.unwish, q⟩
  | ret u => obtain ⟨v, σ', H', I, r, q⟩ := h; exact ⟨v, σ', H', I.unwish, r, q⟩
theorem PSs.nox {st : List Stmt} {t : TS} (h : PSs X.nox st t) : PSs X st t := fun pins s σ H D I hw =>
  wpAny_mono (h pins s σ H D (I.wish _) hw) (fun _ _ q => q.unwish) fun _ _ z => False.elim z
end

/-! ### blocks and small statements -/
section
variable {X : Cx} {st : Stmt} {rest : List Stmt} {t u : TS} {e : Expr} {te : TE} {pos : Pos}
def tNext : TS := fun D σ H => D.nx σ H
def tSeq (t u : TS) : TS := fun D σ H => t { D with nx := u D } σ H
theorem pss_nil : PSs X [] tNext := fun _ _ σ H _ I h => wpAny_execs_nil ⟨σ, H, I, h⟩
theorem pss_cons (h1 : PS X st t) (h2 : PSs X rest u) : PSs X (st :: rest) (tSeq t u) := by
  intro pins s σ H D I h
  refine wpAny_execs_cons (thn (h1 pins s σ H { D with nx := u D } I h) fun f s1 q => ?_)
  cases f with
  | next =>
    obtain ⟨σ', H', I', q⟩ := q
    exact h2 pins s1 σ' H' D I' q
  | ret v => exact q
  | brk => exact q
  | cont => exact q
theorem pss_one (h1 : PS X st t) : PSs X [st] t := by
  intro pins s σ H D I h
  refine wpAny_execs_cons (thn (h1 pins s σ H D I h) fun f s1 q => ?_)
  cases f with
  | next => exact wpAny_execs_nil q
  | ret v => exact q
  | brk => exact q
  | cont => exact q
/-- in a def's body nothing is shown -/
theorem Inv.quiet {pins : List (Addr × Obj)} {σ : St} {H : Hp} {s : Shared} (I : Inv X pins σ H s) : interactive X.env = false := by simp [interactive, I.ok.kind]
/-- an expression whose value is dropped -/
def tDrop (te : TE) : TS := fun D σ H => te σ H fun _ H1 => D.nx σ H1
theorem ps_expr (he : PE X e te) (hs : swapsWith e none pos.line X.env = pure false := by rfl) : PS X (.Expr e pos) (tDrop te) := by
  intro pins s σ H D I h
  exact wpAny_Expr_any (thn (he pins s σ H _ I h) fun v s1 ⟨x, H1, I1, r1, q1⟩ => ⟨σ, H1, I1, q1⟩) I.quiet hs
def tRet (te : TE) : TS := fun D σ H => te σ H D.rt
theorem ps_ret (he : PE X e te) : PS X (.Return (some e) pos) (tRet te) := by
  intro pins s σ H D I h
  exact wpAny_Return_some (thn (he pins s σ H _ I h) fun v s1 ⟨x, H1, I1, r1, q1⟩ => ⟨x, σ, H1, I1, r1, q1⟩)
def tIfS (c : TT) (t u : TS) : TS := fun D σ H => c σ H fun b H1 => if b = true then t D σ H1 else u D σ H1
theorem ps_if {c : Expr} {a b : List Stmt} {tc : TT} (hc : PT X c tc) (ha : PSs X a t) (hb : PSs X b u) : PS X (.If c a b pos) (tIfS tc t u) := by
  intro pins s σ H D I h
  refine wpAny_If (thn (hc pins s σ H _ I h) fun d s1 ⟨H1, I1, q1⟩ => ?_)
  cases d with
  | true => exact ha pins s1 σ H1 D I1 q1
  | false => exact hb pins s1 σ H1 D I1 q1
end

/-! ### targets -/
abbrev TG := V → St → Hp → (St → Hp → Prop) → Prop
def PG (X : Cx) (target : Expr) (t : TG) : Prop :=
  ∀ (pins : List (Addr × Obj)) (s : Shared) (σ : St) (H : Hp) (v : V) (u : Value) (Q : St → Hp → Prop), Inv X pins σ H s → RelV v u → t v σ H Q →
    wpAny (model X.prog X.w) X.A (assign target X.env u) (fun _ s' => ∃ σ' H', Inv X pins σ' H' s' ∧ Q σ' H') X.xe s
/-- o[i] = v, by values -/
abbrev TSet := V → V → V → Hp → (Hp → Prop) → Prop
def PSet (X : Cx) (t : TSet) : Prop :=
  ∀ (pins : List (Addr × Obj)) (s : Shared) (σ : St) (H : Hp) (o i v : V) (ov iv u : Value) (Q : Hp → Prop), Inv X pins σ H s → RelV o ov → RelV i iv → RelV v u → t o i v H Q →
    wpAny (model X.prog X.w) X.A (setItem ov iv u) (fun _ s' => ∃ H', Inv X pins σ H' s' ∧ Q H') X.xe s
/-- a op= b, by values -/
abbrev TIp := V → V → Hp → VK → Prop
def PIp (X : Cx) (op : Operator) (t : TIp) : Prop :=
  ∀ (pins : List (Addr × Obj)) (s : Shared) (σ : St) (H : Hp) (x y : V) (v u : Value) (Q : VK), Inv X pins σ H s → RelV x v → RelV y u → t x y H Q →
    wpAny (model X.prog X.w) X.A (inplaceOp op v u) (EP X pins σ Q) X.xe s
section
variable {X : Cx} {pos : Pos}
def gName (i : Nat) : TG := fun v σ H Q => Q (σ.set i (some v)) H
theorem pg_name {i : Nat} {x : Str} (hN : X.N.Nodup) (hi : X.N[i]? = some x) (hx : Loc X.env.scope x) (hf : X.fn x = true ∨ X.env.scope.names.lookup x = some .local := by first | exact .inl rfl | exact .inr rfl | assumption) : PG X (.Name x pos) (gName i) := by
  intro pins s σ H v u Q I r h
  exact wpAny_assign_Name (store_ok I hN hi hx r (fun s' I' => ⟨_, H, I', h⟩) hf)
/-- target = value -/
def tAsg (te : TE) (g : TG) : TS := fun D σ H => te σ H fun x H1 => g x σ H1 D.nx
/-- name = value -/
theorem ps_set {i : Nat} {x : Str} {e : Expr} {te : TE} {pos' : Pos} (hN : X.N.Nodup) (hi : X.N[i]? = some x) (hx : Loc X.env.scope x) (he : PE X e te) (hs : swapsWith e (some (.Name x pos')) pos.line X.env = pure false := by rfl) (hf : X.fn x = true ∨ X.env.scope.names.lookup x = some .local := by first | exact .inl rfl | exact .inr rfl | assumption) :
    PS X (.Assign [.Name x pos'] e pos) (tAsg te (gName i)) := by
  intro pins s σ H D I h
  refine wpAny_Assign_Name (thn (he pins s σ H _ I h) fun v s1 ⟨y, H1, I1, r1, q1⟩ => ?_) hs
  exact store_ok I1 hN hi hx r1 (fun s2 I2 => ⟨_, H1, I2, q1⟩) hf
/-- o[i] op= e -/
def tAugS (to ti te : TE) (tget : V → V → Hp → VK → Prop) (tip : TIp) (tset : TSet) : TS := fun D σ H => to σ H fun o H1 => ti σ H1 fun i H2 => tget o i H2 fun x H3 => te σ H3 fun y H4 => tip x y H4 fun z H5 => tset o i z H5 fun H6 => D.nx σ H6
/-- o[i], by values -/
def PGet (X : Cx) (t : V → V → Hp → VK → Prop) : Prop :=
  ∀ (pins : List (Addr × Obj)) (s : Shared) (σ : St) (H : Hp) (o i : V) (ov iv : Value) (Q : VK), Inv X pins σ H s → RelV o ov → RelV i iv → t o i H Q →
    wpAny (model X.prog X.w) X.A (getItem ov iv) (EP X pins σ Q) X.xe s
theorem ps_augS {o i e : Expr} {to ti te : TE} {tget : V → V → Hp → VK → Prop} {tip : TIp} {tset : TSet} {op : Operator} {tpos : Pos} (ho : PE X o to) (hi : PE X i ti) (hg : PGet X tget) (he : PE X e te) (hp : PIp X op tip) (hs : PSet X tset)
    (ha : ∀ ov iv new, augStore i ov iv new = (do holding [new, ov, iv] (setItem ov iv new); release [new, ov, iv] []; pure .next) := by intros; rfl) : PS X (.AugAssign (.Subscript o i tpos) op e pos) (tAugS to ti te tget tip tset) := by
  intro pins s σ H D I h
  refine wpAny_AugAssign_SubscriptAny (thn (ho pins s σ H _ I h) fun ov s1 ⟨x1, H1, I1, r1, q1⟩ => ?_) ha
  refine thn (hi pins s1 σ H1 _ I1 q1) fun iv s2 ⟨x2, H2, I2, r2, q2⟩ => ?_
  refine thn (hg pins s2 σ H2 x1 x2 ov iv _ I2 r1 r2 q2) fun old s3 ⟨x3, H3, I3, r3, q3⟩ => ?_
  refine thn (he pins s3 σ H3 _ I3 q3) fun v s4 ⟨x4, H4, I4, r4, q4⟩ => ?_
  refine thn (hp pins s4 σ H4 x3 x4 old v _ I4 r3 r4 q4) fun new s5 ⟨x5, H5, I5, r5, q5⟩ => ?_
  exact thn (hs pins s5 σ H5 x1 x2 x5 ov iv new _ I5 r1 r2 r5 q5) fun _ s6 ⟨H6, I6, q6⟩ => ⟨σ, H6, I6, q6⟩
/-- ints -/
def ipI (f : Int → Int → Int) : TIp := fun x y H Q => ∃ i j, x = .int i ∧ y = .int j ∧ Q (.int (f i j)) H
theorem ip_add : PIp X .Add (ipI fun i j => i + j) := by
  intro pins s σ H x y v u Q I r1 r2 h
  obtain ⟨i, j, e1, e2, q⟩ := h
  subst e1; subst e2
  obtain ⟨t, rfl⟩ := r1
  obtain ⟨t', rfl⟩ := r2
  exact iadd_int ⟨.int _, H, I.tok _, ⟨_, rfl⟩, q⟩
end

/-! ### while -/
section
variable {X : Cx} {pos : Pos}
/-- the invariant W with its measure -/
def tWhile (c : TT) (tb : TS) : TS := fun D σ H => ∃ W : Nat → St → Hp → Prop, (∃ m, W m σ H) ∧ ∀ m σ H, W m σ H →
  c σ H fun b H1 => if b = true then ∃ N : St → Hp → Prop, (∀ σ' H', N σ' H' → ∃ m', m' < m ∧ W m' σ' H') ∧ tb { D with nx := N, ct := N, bk := D.nx } σ H1 else D.nx σ H1
theorem ps_while {c : Expr} {body : List Stmt} {tc : TT} {tb : TS} (hp : PassesOwn (model X.prog X.w) X.A X.env X.xe) (hc : PT X c tc) (hb : PSs X body tb) : PS X (.While c body [] pos) (tWhile tc tb) := by
  intro pins s σ H D I h
  obtain ⟨W, ⟨m0, w0⟩, turn⟩ := h
  refine wpAny_While (codeAny_whileLoop (fun n s' => ∃ σ' H', Inv X pins σ' H' s' ∧ W n σ' H') ?_ m0 ⟨σ, H, I, w0⟩)
  rintro n s1 ⟨σ1, H1, I1, w1⟩
  refine wpAny_passesOwn hp (thn (hc pins s1 σ1 H1 _ I1 (turn n σ1 H1 w1)) fun b s2 ⟨H2, I2, q2⟩ => ?_)
  cases b with
  | true =>
    obtain ⟨N, hN, q2⟩ := q2
    rw [if_pos rfl]
    refine wpAny_passesOwn hp (thn (hb pins s2 σ1 H2 _ I2 q2) fun f s3 q3 => ?_)
    cases f with
    | next =>
      obtain ⟨σ3, H3, I3, n3⟩ := q3
      obtain ⟨m', hm, w3⟩ := hN σ3 H3 n3
      exact ⟨m', hm, σ3, H3, I3, w3⟩
    | cont =>
      obtain ⟨σ3, H3, I3, n3⟩ := q3
      obtain ⟨m', hm, w3⟩ := hN σ3 H3 n3
      exact ⟨m', hm, σ3, H3, I3, w3⟩
    | brk => exact q3
    | ret v => exact q3
  | false =>
    rw [if_neg Bool.false_ne_true]
    exact wpAny_execs_nil ⟨σ1, H2, I2, q2⟩
end

/-! ### what a loop or a comprehension walks -/
/-- at turn i: it yields x (the heap may grow), or it stops -/
structure It where
  go : Nat → Hp → Prop
  yld : Nat → Hp → V → Hp → Prop
  stop : Nat → Hp → Prop
/-- the iterator's own objects may turn: they are not the frame's, not pinned, younger than the entry (or a comprehension's own) -/
def FpOk (X : Cx) (pins : List (Addr × Obj)) (H : Hp) (b : Addr) : Prop :=
  H b = none ∧ b ≠ X.env.locals ∧ b ∉ X.fs ∧ (b ∈ X.ex ∨ X.s_0.heap.objs.size ≤ b) ∧ (∀ x c, X.env.cells.lookup x = some c → c ≠ b) ∧ ∀ p ∈ X.pn ++ pins, p.1 ≠ b
theorem Inv.fpOk {X : Cx} {pins : List (Addr × Obj)} {σ : St} {H H' : Hp} {s : Shared} {b : Addr} (I : Inv X pins σ H s) (hb : s.heap.objs.size ≤ b) (hn : H' b = none) : FpOk X pins H' b := by
  refine ⟨hn, Nat.ne_of_gt (Nat.lt_of_lt_of_le I.lt hb), I.nofs hb, .inr (Nat.le_trans I.sz hb), fun x c e z => ?_, fun p hp z => ?_⟩
  · obtain ⟨v, q⟩ := I.cell x c e
    exact absurd (Nat.lt_of_lt_of_le q.lt (by rw [z]; exact hb)) (Nat.lt_irrefl _)
  · exact absurd (Nat.lt_of_lt_of_le (Heap.lt_size (I.pin p hp).1) (by rw [z]; exact hb)) (Nat.lt_irrefl _)
structure Turn (P : Program) (w : World) (K : PySem.W.Frag) (tg : Expr) (J : It) (fp : List Addr) (it : Addr) (tn : Nat → Heap → Prop) : Prop where
  mem : it ∈ fp
  obj : ∀ i h, tn i h → ∀ b ∈ fp, ∃ o, h.get? b = some o ∧ ∀ v, o.data ≠ .cell v
  keep : ∀ i h h', tn i h → (∀ b ∈ fp, ∀ o, h.get? b = some o → h'.get? b = some o) → tn i h'
  item : ∀ (X : Cx), X.prog = P → X.w = w → X.K = K → X.calm = true → ∀ (i : Nat) (pins : List (Addr × Obj)) (s : Shared) (σ : St) (H : Hp) (E : Value → Shared → Prop), Inv X pins σ H s → (∀ b ∈ fp, FpOk X pins H b) → tn i s.heap → J.go i H →
    wpAny (model P w) X.A (pyNext (.ref it)) (fun r s1 => ∃ u, r = some u ∧
      wpAny (model P w) X.A (letOwnedTupleGo tg (.ref it) u) (fun _ s2 => ∃ x H', Inv X pins σ H' s2 ∧ RelV x u ∧ J.yld i H x H' ∧ tn (i + 1) s2.heap ∧ ∀ b ∈ fp, H' b = none) E s1) E s
  done : ∀ (X : Cx), X.prog = P → X.w = w → X.K = K → X.calm = true → ∀ (i : Nat) (pins : List (Addr × Obj)) (s : Shared) (σ : St) (H : Hp) (E : Value → Shared → Prop), Inv X pins σ H s → (∀ b ∈ fp, FpOk X pins H b) → tn i s.heap → J.stop i H →
    wpAny (model P w) X.A (pyNext (.ref it)) (fun r s1 => r = none ∧ Inv X pins σ H s1) E s
  self : ∀ (A : Around) (i : Nat) (s : Shared) (Q : Value → Shared → Prop) (E : Value → Shared → Prop), tn i s.heap → Q (.ref it) s → wpAny (model P w) A (pyIter (.ref it)) Q E s
abbrev TI := St → Hp → (It → Hp → Prop) → Prop
/-- an iterator has come -/
def PIE (X : Cx) (pins : List (Addr × Obj)) (σ : St) (tg : Expr) (R : It → Hp → Prop) (itv : Value) (s2 : Shared) : Prop :=
  ∃ (it : Addr) (fp : List Addr) (tn : Nat → Heap → Prop) (J : It) (H' : Hp), itv = .ref it ∧ Inv X pins σ H' s2 ∧ Turn X.prog X.w X.K tg J fp it tn ∧ tn 0 s2.heap ∧ (∀ b ∈ fp, FpOk X pins H' b) ∧ R J H'
def PI (X : Cx) (tg iter : Expr) (wi : TI) : Prop :=
  ∀ (pins : List (Addr × Obj)) (s : Shared) (σ : St) (H : Hp) (R : It → Hp → Prop), Inv X pins σ H s → wi σ H R →
    wpAny (model X.prog X.w) X.A (eval iter X.env) (fun v s1 => wpAny (model X.prog X.w) X.A (pyIter v) (PIE X pins σ tg R) X.xe s1) X.xe s

/-- the step ahead of the store is nothing for an iterator that keeps no tuple -/
theorem go_of {M : Model} {A : Around} {E : Value → Shared → Prop} {s : Shared} {tg : Expr} {it : Addr} {u : Value} {o : Obj} {n : String} {vs : Array Value} {Q : Unit → Shared → Prop} (ho : s.heap.get? it = some o) (hc : o.cls = .type n) (hd : o.data = .fields vs)
    (hn : ["enumerate", "zip", "dict_itemiterator", "dict_reverseitemiterator", "odict_iterator", "itertools.zip_longest", "itertools.pairwise"].contains n = false) (hQ : Q () s) : wpAny M A (letOwnedTupleGo tg (.ref it) u) Q E s := by
  unfold letOwnedTupleGo
  cases tg <;> first
    | exact wpAny_pure hQ
    | (cases u <;> first
        | exact wpAny_pure hQ
        | (refine wpAny_bind (wpAny_load ho ?_)
           rw [hc, hd]
           show wpAny M A (if (["enumerate", "zip", "dict_itemiterator", "dict_reverseitemiterator", "odict_iterator", "itertools.zip_longest", "itertools.pairwise"].contains n && vs[0]? == some (rawInt _)) = true then _ else _) Q E s
           rw [if_neg (by intro h; rw [hn, Bool.false_and] at h; cases h)]
           exact wpAny_pure hQ))

/-- the list at a, as it stands at each turn (a loop may append to it) -/
def Itl (K : PySem.W.Frag) (a : Addr) : It :=
  ⟨fun i H => ∃ xs x, SqL K H a xs ∧ xs[i]? = some x, fun i H x H' => H' = H ∧ ∀ xs, SqL K H a xs → xs[i]? = some x, fun i H => ∃ xs, SqL K H a xs ∧ xs.length ≤ i⟩
/-- lo, lo + 1, .. (n of them) -/
def Itr (lo : Int) (n : Nat) : It := ⟨fun i _ => i < n, fun i H x H' => H' = H ∧ x = .int (lo + i), fun i _ => n ≤ i⟩
theorem turn_list {P : Program} {w : World} {K : PySem.W.Frag} {tg : Expr} (a it : Addr) : Turn P w K tg (Itl K a) [it] it (fun i h => h.IsListIter it a i) where
  mem := by simp
  obj := fun i h st b hb => by
    have e : b = it := by simpa using hb
    subst e
    obtain ⟨o, e, c, d⟩ := st
    exact ⟨o, e, fun v z => by rw [d] at z; cases z⟩
  keep := fun i h h' st k => st.at fun o e => k it (by simp) o e
  item := by
    intro X hP hw hK hc i pins s σ H E I hf st hg
    subst hP hw hK
    obtain ⟨xs, x, hq, hx⟩ := hg
    obtain ⟨its, rv, p, hz⟩ := I.list hq
    obtain ⟨u, hu, ru⟩ := rv.get hx
    obtain ⟨f0, f1, f2, f3, f4, f5⟩ := hf it (by simp)
    refine wpAny_pyNext_list_item st p.isList (x := u) (by simpa using hu) fun h' st' sb => ?_
    have I1 : Inv X pins σ H { s with heap := h' } := I.turned (t' := s.toks) (fun b o hb e => (sb.2 b hb).trans e) f0 f1 f3 f4 f5
    obtain ⟨o, e, c, d⟩ := id st'
    exact ⟨u, rfl, go_of (s := { s with heap := h' }) e c d (by decide) ⟨x, H, I1, ru, ⟨rfl, fun ys hy => by rw [I.list_inj hy hq]; exact hx⟩, st', fun b hb => (hf b hb).1⟩⟩
  done := by
    intro X hP hw hK hc i pins s σ H E I hf st hg
    subst hP hw hK
    obtain ⟨xs, hq, hx⟩ := hg
    obtain ⟨its, rv, p, hz⟩ := I.list hq
    obtain ⟨f0, f1, f2, f3, f4, f5⟩ := hf it (by simp)
    have hl := rv.length
    exact wpAny_pyNext_list_end (I.ok.hd hc) st p.isList (by simp; omega) fun h' eb => ⟨rfl, I.turned (t' := s.toks) (fun b o hb e => eb b o hb e) f0 f1 f3 f4 f5⟩
  self := fun _ _ _ _ _ st h => wpAny_pyIter_listiter st h
theorem turn_range {P : Program} {w : World} {K : PySem.W.Frag} {tg : Expr} (it : Addr) (lo : Int) (n : Nat) : Turn P w K tg (Itr lo n) [it] it (fun i h => IsRangeIter h it (lo + (i : Nat) * 1) ((n : Int) - (i : Nat)) 1) where
  mem := by simp
  obj := fun i h st b hb => by
    have e : b = it := by simpa using hb
    subst e
    exact ⟨_, st, fun v z => by
      have z' : Data.fields _ = Data.cell v := z
      cases z'⟩
  keep := fun i h h' st k => k it (by simp) _ st
  item := by
    intro X hP hw hK hc i pins s σ H E I hf st hg
    subst hP hw hK
    obtain ⟨f0, f1, f2, f3, f4, f5⟩ := hf it (by simp)
    have W := Walks.range (prog := X.prog) (w := X.w) (I.ok.hd hc) it lo 1 n
    refine W.item i s _ _ hg st fun v h' tk hv st' kk => ?_
    obtain ⟨t, rfl⟩ := hv
    have I1 : Inv X pins σ H { s with heap := h', toks := tk } := I.turned (fun b o hb e => kk b o (by simpa using hb) e) f0 f1 f3 f4 f5
    refine ⟨_, rfl, go_of (s := { s with heap := h', toks := tk }) (n := "range_iterator") st' rfl rfl (by decide) ⟨.int (lo + i), H, I1, ⟨t, ?_⟩, ⟨rfl, rfl⟩, st', fun b hb => (hf b hb).1⟩⟩
    rw [Int.mul_one]
  done := by
    intro X hP hw hK hc i pins s σ H E I hf st hg
    subst hP hw hK
    obtain ⟨f0, f1, f2, f3, f4, f5⟩ := hf it (by simp)
    exact wpAny_pyNext_range_end (I.ok.hd hc) st (by have : n ≤ i := hg; omega) fun h' eb => ⟨rfl, I.turned (t' := s.toks) (fun b o hb e => eb b o hb e) f0 f1 f3 f4 f5⟩
  self := fun _ _ _ _ _ st h => wpAny_pyIter_rangeiter st h
end L2

namespace L2
open PySem PySem.Spec PyProof.Rows
section
variable {X : Cx} {tg : Expr}
def iList (K : PySem.W.Frag) (tl : TE) : TI := fun σ H R => tl σ H fun x H1 => ∃ a, x = .ref a ∧ (∃ xs, SqL K H1 a xs) ∧ R (Itl K a) H1
theorem pi_list {l : Expr} {tl : TE} (hl : PE X l tl) : PI X tg l (iList X.K tl) := by
  intro pins s σ H R I h
  refine thn (hl pins s σ H _ I h) fun v s1 ⟨x, H1, I1, r1, q1⟩ => ?_
  obtain ⟨a, e, ⟨xs, hq⟩, q⟩ := q1
  subst e
  cases r1
  obtain ⟨its, rv, p, hz⟩ := I1.list hq
  refine wpAny_pyIter_list p.isList ?_
  refine ⟨s1.heap.objs.size, [s1.heap.objs.size], _, _, H1, rfl, I1.kept (t' := s1.toks) fun b o e => Heap.get?_push_of_some _ e, turn_list a _, ⟨_, Heap.get?_push_size _ rfl, rfl, rfl⟩, fun b hb => ?_, q⟩
  have e : b = s1.heap.objs.size := by simpa using hb
  subst e
  exact I1.fpOk (Nat.le_refl _) (I1.hok.fresh (Nat.le_refl _))
/-- a range object just made, walked -/
theorem range_it {pins : List (Addr × Obj)} {σ : St} {H : Hp} {s : Shared} {R : It → Hp → Prop} {E : Value → Shared → Prop} {lo hi : Int} {t u v : Tok} {tk : Nat} (I : Inv X pins σ H s) (h1 : -(2 ^ 62) ≤ lo) (h2 : lo < 2 ^ 62) (h3 : -(2 ^ 62) ≤ hi) (h4 : hi < 2 ^ 62)
    (q : R (Itr lo (hi - lo).toNat) H) : wpAny (model X.prog X.w) X.A (pyIter (.ref s.heap.objs.size)) (PIE X pins σ tg R) E { s with heap := s.heap.push { cls := .type "range", data := .fields #[.int lo t, .int hi u, .int 1 v] }, toks := tk } := by
  refine wpAny_pyIter_range (IsRange.new ..) (small_one h1 h2 h3 h4) ?_
  have I1 : Inv X pins σ H { s with heap := s.heap.push { cls := .type "range", data := .fields #[.int lo t, .int hi u, .int 1 v] }, toks := tk } := I.kept fun b o e => Heap.get?_push_of_some _ e
  refine ⟨(s.heap.push { cls := .type "range", data := .fields #[.int lo t, .int hi u, .int 1 v] }).objs.size, [(s.heap.push { cls := .type "range", data := .fields #[.int lo t, .int hi u, .int 1 v] }).objs.size], _, _, H, rfl,
    I1.kept (t' := tk) fun b o e => Heap.get?_push_of_some _ e, turn_range _ lo (hi - lo).toNat, ?_, fun b hb => ?_, q⟩
  · have e1 : lo + ((0 : Nat) : Int) * 1 = lo := by simp
    have e2 : (((hi - lo).toNat : Nat) : Int) - ((0 : Nat) : Int) = Builtin.Range.rangeSize lo hi 1 := by rw [rangeSize_one]; split <;> omega
    show IsRangeIter _ _ (lo + ((0 : Nat) : Int) * 1) ((((hi - lo).toNat : Nat) : Int) - ((0 : Nat) : Int)) 1
    rw [e1, e2]
    exact Heap.get?_push_size _ rfl
  · have e : b = (s.heap.push { cls := .type "range", data := .fields #[.int lo t, .int hi u, .int 1 v] }).objs.size := by simpa using hb
    subst e
    exact I1.fpOk (Nat.le_refl _) (I1.hok.fresh (Nat.le_refl _))
def iRng1 (ta : TA) : TI := fun σ H R => ta σ H fun vs H1 => ∃ j : Int, vs = [.int j] ∧ -(2 ^ 62) ≤ j ∧ j < 2 ^ 62 ∧ R (Itr 0 j.toNat) H1
theorem pi_range1 {a : Expr} {ta : TA} {p pos : Pos} (hg : Gl X "range") (hm : X.mg "range" = none) (ha : PA X [a] ta) (hs : starEach [a] X.env = [(false, eval a X.env)] := by rfl) : PI X tg (.Call (.Name "range" p) [a] [] pos) (iRng1 ta) := by
  intro pins s σ H R I h
  refine Call_ (ld_blt I hg hm boot_range (PyProof.Rows.callWith_type1 (thn (ha pos pins s σ H _ I h) fun us s1 ⟨vs, H1, I1, r1, q1⟩ => ?_) hs rfl))
  obtain ⟨j, e, q1, q2, q⟩ := q1
  subst e
  cases r1 with
  | cons r rr =>
    cases rr
    obtain ⟨t, rfl⟩ := r
    exact call_range_1 (range_it I1 (by omega) (by omega) q1 q2 (by simpa using q))

/-! ### for -/
/-- W: the invariant by the turn and a measure; N: what the body is to reach -/
def tFor (wi : TI) (g : TG) (tb : TS) : TS := fun D σ H => wi σ H fun J H1 => ∃ W : Nat → Nat → St → Hp → Prop, (∃ m, W 0 m σ H1) ∧ ∀ i m σ H, W i m σ H →
  (J.stop i H ∧ D.nx σ H) ∨ (J.go i H ∧ ∃ N : St → Hp → Prop, (∀ σ' H', N σ' H' → ∃ m', m' < m ∧ W (i + 1) m' σ' H') ∧ ∀ x H', J.yld i H x H' → g x σ H' fun σ2 H2 => tb { D with nx := N, ct := N, bk := D.nx } σ2 H2)
/-- the records at fp as they stand -/
def pinsAt (fp : List Addr) (h : Heap) : List (Addr × Obj) := fp.filterMap fun b => (h.get? b).map fun o => (b, o)
theorem mem_pinsAt {fp : List Addr} {h : Heap} {b : Addr} {o : Obj} (hb : b ∈ fp) (e : h.get? b = some o) : (b, o) ∈ pinsAt fp h := List.mem_filterMap.mpr ⟨b, hb, by rw [e]; rfl⟩
theorem of_pinsAt {fp : List Addr} {h : Heap} {p : Addr × Obj} (hp : p ∈ pinsAt fp h) : p.1 ∈ fp ∧ h.get? p.1 = some p.2 := by
  obtain ⟨b, hb, e⟩ := List.mem_filterMap.mp hp
  cases q : h.get? b with
  | none => rw [q] at e; cases e
  | some o =>
    rw [q] at e
    have e' : (b, o) = p := Option.some.inj e
    subst e'
    exact ⟨hb, q⟩
theorem Inv.pinned {pins : List (Addr × Obj)} {σ : St} {H : Hp} {s : Shared} {fp : List Addr} (I : Inv X pins σ H s) (hf : ∀ b ∈ fp, FpOk X pins H b) (ho : ∀ b ∈ fp, ∃ o, s.heap.get? b = some o ∧ ∀ v, o.data ≠ .cell v) : Inv X (pins ++ pinsAt fp s.heap) σ H s :=
  I.pins_of fun p hp => (List.mem_append.mp hp).elim (fun z => I.pin p (List.mem_append_right _ z)) fun z => by
    obtain ⟨hb, e⟩ := of_pinsAt z
    obtain ⟨f0, f1, f2, _⟩ := hf p.1 hb
    obtain ⟨o, e', d⟩ := ho p.1 hb
    rw [e] at e'; cases e'
    exact ⟨e, f0, f1, f2, d⟩
theorem Inv.unpinned {pins pl : List (Addr × Obj)} {σ : St} {H : Hp} {s : Shared} (I : Inv X (pins ++ pl) σ H s) : Inv X pins σ H s := I.pins_of fun p hp => I.pin p (List.mem_append_right _ (List.mem_append_left _ hp))
theorem ps_for {iter : Expr} {body : List Stmt} {wi : TI} {g : TG} {tb : TS} {pos : Pos} (hp : PassesOwn (model X.prog X.w) X.A X.env X.xe) (hc : X.calm = true) (hi : PI X tg iter wi) (hg : PG X tg g) (hb : PSs X body tb)
    (hs : ∀ x, foldedSetIterable iter X.env x = pure x := by intro _; rfl) : PS X (.For tg iter body [] pos) (tFor wi g tb) := by
  intro pins s σ H D I h
  refine wpAny_For (thn (hi pins s σ H _ I h) fun v s1 h1 => thn h1 fun itv s2 h2 => ?_) hs
  obtain ⟨it, fp, tn, J, H2, e, I2, T, st2, f2, W, ⟨m0, w0⟩, turn⟩ := h2
  subst e
  -- what stays true of the iterator's objects through the loop
  have stat : ∀ {H' : Hp}, (∀ b ∈ fp, H' b = none) → ∀ b ∈ fp, FpOk X pins H' b := fun hn b hb => ⟨hn b hb, (f2 b hb).2⟩
  refine codeAny_forLoop_any (fun n s' => ∃ i σ' H', Inv X pins σ' H' s' ∧ tn i s'.heap ∧ (∀ b ∈ fp, H' b = none) ∧ W i n σ' H') ?_ m0 ⟨0, σ, H2, I2, st2, fun b hb => (f2 b hb).1, w0⟩
  rintro n s3 ⟨i, σ3, H3, I3, st3, fr3, w3⟩
  rcases turn i n σ3 H3 w3 with ⟨stop, qn⟩ | ⟨go, N, hN, step⟩
  · refine wpAny_passesOwn hp (thn (T.done X rfl rfl rfl hc i pins s3 σ3 H3 X.xe I3 (stat fr3) st3 stop) fun r s4 ⟨hr, I4⟩ => ?_)
    subst hr
    exact wpAny_execs_nil ⟨σ3, H3, I4, qn⟩
  · refine wpAny_passesOwn hp (thn (T.item X rfl rfl rfl hc i pins s3 σ3 H3 X.xe I3 (stat fr3) st3 go) fun r s4 ⟨u, hr, h4⟩ => ?_)
    subst hr
    refine wpAny_passesOwn hp (thn h4 fun _ s5 ⟨x, H5, I5, r5, y5, st5, fr5⟩ => ?_)
    have I5' := I5.pinned (stat fr5) (T.obj _ _ st5)
    refine wpAny_passesOwn hp (thn (hg _ s5 σ3 H5 x u _ I5' r5 (step x H5 y5)) fun _ s6 ⟨σ6, H6, I6, q6⟩ => ?_)
    refine wpAny_passesOwn hp (thn (hb _ s6 σ6 H6 _ I6 q6) fun f s7 q7 => ?_)
    have again : ∀ {σ7 : St} {H7 : Hp}, Inv X (pins ++ pinsAt fp s5.heap) σ7 H7 s7 → N σ7 H7 → ∃ m, m < n ∧ ∃ i σ' H', Inv X pins σ' H' s7 ∧ tn i s7.heap ∧ (∀ b ∈ fp, H' b = none) ∧ W i m σ' H' := fun {σ7 H7} I7 n7 => by
      obtain ⟨m', hm, w7⟩ := hN σ7 H7 n7
      refine ⟨m', hm, i + 1, σ7, H7, I7.unpinned, T.keep _ _ _ st5 fun b hb o e => (I7.pin (b, o) (List.mem_append_right _ (List.mem_append_right _ (mem_pinsAt hb e)))).1, fun b hb => ?_, w7⟩
      obtain ⟨o, e, d⟩ := T.obj _ _ st5 b hb
      exact (I7.pin (b, o) (List.mem_append_right _ (List.mem_append_right _ (mem_pinsAt hb e)))).2.1
    cases f with
    | next => obtain ⟨σ7, H7, I7, n7⟩ := q7; exact again I7 n7
    | cont => obtain ⟨σ7, H7, I7, n7⟩ := q7; exact again I7 n7
    | brk => obtain ⟨σ7, H7, I7, q7⟩ := q7; exact ⟨σ7, H7, I7.unpinned, q7⟩
    | ret v => obtain ⟨x7, σ7, H7, I7, r7, q7⟩ := q7; exact ⟨x7, σ7, H7, I7.unpinned, r7, q7⟩
end

/-! ### the forms one uses -/
/-- over a list that the body leaves as it is -/
theorem for_list {K : PySem.W.Frag} {a : Addr} {xs : List V} {g : TG} {tb : TS} {D : Ends} {σ : St} {H : Hp} (Pv : Nat → St → Hp → Prop) (h0 : Pv 0 σ H) (hl : ∀ i σ H, i ≤ xs.length → Pv i σ H → SqL K H a xs)
    (hs : ∀ i x σ H, xs[i]? = some x → Pv i σ H → g x σ H fun σ2 H2 => tb { D with nx := Pv (i + 1), ct := Pv (i + 1), bk := D.nx } σ2 H2) (hd : ∀ σ H, Pv xs.length σ H → D.nx σ H) :
    ∃ W : Nat → Nat → St → Hp → Prop, (∃ m, W 0 m σ H) ∧ ∀ i m σ H, W i m σ H →
      ((Itl K a).stop i H ∧ D.nx σ H) ∨ ((Itl K a).go i H ∧ ∃ N : St → Hp → Prop, (∀ σ' H', N σ' H' → ∃ m', m' < m ∧ W (i + 1) m' σ' H') ∧ ∀ x H', (Itl K a).yld i H x H' → g x σ H' fun σ2 H2 => tb { D with nx := N, ct := N, bk := D.nx } σ2 H2) := by
  refine ⟨fun i m σ H => m = xs.length - i ∧ i ≤ xs.length ∧ Pv i σ H, ⟨xs.length, by simp, Nat.zero_le _, h0⟩, ?_⟩
  rintro i m σ H ⟨rfl, hi, p⟩
  have q := hl i σ H hi p
  by_cases hlt : i < xs.length
  · refine .inr ⟨⟨xs, xs[i], q, by simp [hlt]⟩, Pv (i + 1), fun σ' H' p' => ⟨xs.length - (i + 1), by omega, rfl, hlt, p'⟩, fun x H' y => ?_⟩
    obtain ⟨e, y⟩ := y
    subst e
    exact hs i x σ _ (y xs q) p
  · have e : i = xs.length := by omega
    subst e
    exact .inl ⟨⟨xs, q, Nat.le_refl _⟩, hd σ H p⟩
/-- while, by a word and a measure of the state -/
theorem while_by {c : TT} {tb : TS} {D : Ends} {σ : St} {H : Hp} (Pv : St → Hp → Prop) (μ : St → Hp → Nat) (h0 : Pv σ H)
    (hs : ∀ σ H, Pv σ H → c σ H fun b H1 => if b = true then tb { D with nx := fun σ' H' => Pv σ' H' ∧ μ σ' H' < μ σ H, ct := fun σ' H' => Pv σ' H' ∧ μ σ' H' < μ σ H, bk := D.nx } σ H1 else D.nx σ H1)
    (mono : ∀ σ H Q Q', (∀ b H1, Q b H1 → Q' b H1) → c σ H Q → c σ H Q') : tWhile c tb D σ H := by
  refine ⟨fun m σ H => m = μ σ H ∧ Pv σ H, ⟨_, rfl, h0⟩, ?_⟩
  rintro m σ H ⟨rfl, p⟩
  refine mono σ H _ _ (fun b H1 q => ?_) (hs σ H p)
  cases b with
  | true => exact ⟨_, fun σ' H' ⟨p', l⟩ => ⟨_, l, rfl, p'⟩, q⟩
  | false => exact q
end L2

namespace L2
open PySem PySem.Spec PyProof.Rows

abbrev R2 := V → V → Hp → VK → Prop
/-- a two-place operation on values: f is binaryOp op, inplaceOp op or compareOp op -/
def OpR (X : Cx) (f : Value → Value → Sem Value) (r : R2) : Prop :=
  ∀ (pins : List (Addr × Obj)) (s : Shared) (σ : St) (H : Hp) (x y : V) (v u : Value) (Q : VK), Inv X pins σ H s → RelV x v → RelV y u → r x y H Q →
    wpAny (model X.prog X.w) X.A (f v u) (EP X pins σ Q) X.xe s
/-- a call of a value that is known (a builtin, a type) with values -/
def CallR (X : Cx) (f : Value) (r : List V → Hp → VK → Prop) : Prop :=
  ∀ (pins : List (Addr × Obj)) (s : Shared) (σ : St) (H : Hp) (xs : List V) (us : List Value) (Q : VK), Inv X pins σ H s → Vals xs us → r xs H Q →
    wpAny (model X.prog X.w) X.A (call f us) (EP X pins σ Q) X.xe s

def tOp (r : R2) (ta tb : TE) : TE := fun σ H Q => ta σ H fun x H1 => tb σ H1 fun y H2 => r x y H2 Q
/-- ints in, under C, and a value out -/
def rI (C : Int → Int → Prop) (g : Int → Int → V) : R2 := fun x y H Q => ∃ i j, x = .int i ∧ y = .int j ∧ C i j ∧ Q (g i j) H
def rI0 (g : Int → Int → V) : R2 := fun x y H Q => ∃ i j, x = .int i ∧ y = .int j ∧ Q (g i j) H

section
variable {X : Cx} {a b c : Expr} {ta tb tc : TE} {pos : Pos}

theorem binT (ha : PE X a ta) (hb : PE X b tb) {pins : List (Addr × Obj)} {s : Shared} {σ : St} {H : Hp} {R : V → V → Hp → Prop} (I : Inv X pins σ H s)
    (h : ta σ H fun x H1 => tb σ H1 fun y H2 => R x y H2) {Q : Value → Shared → Prop} {f : Value → Value → Sem Value}
    (hf : ∀ v u s2 x y H2, Inv X pins σ H2 s2 → RelV x v → RelV y u → R x y H2 → wpAny (model X.prog X.w) X.A (f v u) Q X.xe s2) :
    wpAny (model X.prog X.w) X.A (eval a X.env) (fun v s₁ => wpAny (model X.prog X.w) X.A (eval b X.env) (fun u s₂ => wpAny (model X.prog X.w) X.A (f v u) Q X.xe s₂) X.xe s₁) X.xe s := by
  refine thn (ha pins s σ H _ I h) fun v s1 ⟨x, H1, I1, r1, q1⟩ => ?_
  refine thn (hb pins s1 σ H1 _ I1 q1) fun u s2 ⟨y, H2, I2, r2, q2⟩ => ?_
  exact hf v u s2 x y H2 I2 r1 r2 q2

theorem pe_op {op : Operator} {r : R2} (ho : OpR X (binaryOp op) r) (ha : PE X a ta) (hb : PE X b tb) : PE X (.BinOp a op b pos) (tOp r ta tb) := by
  intro pins s σ H Q I h
  exact wpAny_BinOp (binT ha hb I h fun v u s2 x y H2 I2 rx ry q => ho pins s2 σ H2 x y v u Q I2 rx ry q)

/-! ### ints -/
theorem opI {f : Value → Value → Sem Value} {C : Int → Int → Prop} {g : Int → Int → Int}
    (rule : ∀ (i j : Int) (t u : Tok) (s : Shared) (Q : Value → Shared → Prop) (E : Value → Shared → Prop), C i j → Q (.int (g i j) s.toks) { s with toks := s.toks + 1 } → wpAny (model X.prog X.w) X.A (f (.int i t) (.int j u)) Q E s) :
    OpR X f (rI C fun i j => .int (g i j)) := by
  intro pins s σ H x y v u Q I rx ry h
  obtain ⟨i, j, rfl, rfl, hc, q⟩ := h
  obtain ⟨t, rfl⟩ := rx
  obtain ⟨t', rfl⟩ := ry
  exact rule i j t t' s _ _ hc ⟨.int (g i j), H, I.tok _, ⟨_, rfl⟩, q⟩
theorem opI0 {f : Value → Value → Sem Value} {g : Int → Int → Int}
    (rule : ∀ (i j : Int) (t u : Tok) (s : Shared) (Q : Value → Shared → Prop) (E : Value → Shared → Prop), Q (.int (g i j) s.toks) { s with toks := s.toks + 1 } → wpAny (model X.prog X.w) X.A (f (.int i t) (.int j u)) Q E s) :
    OpR X f (rI0 fun i j => .int (g i j)) := by
  intro pins s σ H x y v u Q I rx ry h
  obtain ⟨i, j, rfl, rfl, q⟩ := h
  obtain ⟨t, rfl⟩ := rx
  obtain ⟨t', rfl⟩ := ry
  exact rule i j t t' s _ _ ⟨.int (g i j), H, I.tok _, ⟨_, rfl⟩, q⟩
theorem opB0 {f : Value → Value → Sem Value} {g : Int → Int → Bool}
    (rule : ∀ (i j : Int) (t u : Tok) (s : Shared) (Q : Value → Shared → Prop) (E : Value → Shared → Prop), Q (.bool (g i j)) s → wpAny (model X.prog X.w) X.A (f (.int i t) (.int j u)) Q E s) :
    OpR X f (rI0 fun i j => .bl (g i j)) := by
  intro pins s σ H x y v u Q I rx ry h
  obtain ⟨i, j, rfl, rfl, q⟩ := h
  obtain ⟨t, rfl⟩ := rx
  obtain ⟨t', rfl⟩ := ry
  exact rule i j t t' s _ _ ⟨.bl (g i j), H, I, rfl, q⟩

def CDiv (i j : Int) : Prop := 0 < j ∧ j < 1073741824
def CMul (i j : Int) : Prop := (-(2 ^ 64) < i ∧ i < 2 ^ 64) ∨ (-(2 ^ 64) < j ∧ j < 2 ^ 64)
theorem CMul.ok {i j : Int} (h : CMul i j) : IntMulOk i j := by
  rcases h with ⟨h1, h2⟩ | ⟨h1, h2⟩
  · exact .of_left (intBits_le_64 h1 h2)
  · exact .of_right (intBits_le_64 h1 h2)

theorem op_add : OpR X (binaryOp .Add) (rI0 fun i j => .int (i + j)) := opI0 fun _ _ _ _ _ _ _ q => add_int q
theorem op_sub : OpR X (binaryOp .Sub) (rI0 fun i j => .int (i - j)) := opI0 fun _ _ _ _ _ _ _ q => sub_int q
theorem op_mul : OpR X (binaryOp .Mult) (rI CMul fun i j => .int (i * j)) := opI fun _ _ _ _ _ _ _ hc q => mul_int q hc.ok
/-- // by a positive divisor -/
theorem op_fdiv : OpR X (binaryOp .FloorDiv) (rI CDiv fun i j => .int (i / j)) := opI fun i j _ _ _ _ _ hc q => by
  have h1 : (0 : Int) < j := hc.1
  have h2 : j < 1073741824 := hc.2
  exact floordiv_int (by omega) (by rw [Int.fdiv_eq_ediv_of_nonneg i (by omega)]; exact q) (.inl (PyProof.noPylong_small (by omega)))
/-- % by a positive divisor of any size -/
theorem op_mod : OpR X (binaryOp .Mod) (rI (fun _ j => 0 < j) fun i j => .int (i % j)) := opI fun i j _ _ _ _ _ hc q => by
  have h1 : (0 : Int) < j := hc
  exact mod_int' (by omega) (by rw [Int.fmod_eq_emod_of_nonneg i (by omega)]; exact q)



/-! ### bools among ints: n += (a < b) -/
end

/-! ### comparisons -/
/-- the scalars that == tells apart as data does -/
def scal : V → V → Bool
  | .non, .non => true | .non, .int _ => true | .int _, .non => true | .non, .bl _ => true | .bl _, .non => true | .non, .str _ => true | .str _, .non => true
  | .int _, .int _ => true | .bl _, .bl _ => true | .str _, .str _ => true | .byt _, .byt _ => true
  | .int _, .str _ => true | .str _, .int _ => true | .bl _, .str _ => true | .str _, .bl _ => true
  | _, _ => false
def rEq : R2 := fun x y H Q => scal x y = true ∧ Q (.bl (decide (x = y))) H
def rNe : R2 := fun x y H Q => scal x y = true ∧ Q (.bl (!decide (x = y))) H

theorem dec_int {i j : Int} : decide (V.int i = V.int j) = (i == j) := by
  rw [Bool.eq_iff_iff]
  simp
theorem dec_bl {i j : Bool} : decide (V.bl i = V.bl j) = (i == j) := by
  rw [Bool.eq_iff_iff]
  simp
theorem dec_str {i j : Str} : decide (V.str i = V.str j) = (i == j) := by
  rw [Bool.eq_iff_iff]
  simp
theorem dec_byt {i j : Array UInt8} : decide (V.byt i = V.byt j) = (i.toList == j.toList) := by
  rw [Bool.eq_iff_iff]
  cases i
  cases j
  simp

section
variable {X : Cx} {a b c : Expr} {ta tb tc : TE} {pos : Pos}
theorem fin_bl {pins : List (Addr × Obj)} {σ : St} {H : Hp} {s : Shared} {Q : VK} {k k' : Bool} (I : Inv X pins σ H s) (q : Q (.bl k) H) (e : k = k') : EP X pins σ Q (.bool k') s := by
  subst e
  exact ⟨.bl k, H, I, rfl, q⟩
theorem op_eq : OpR X (compareOp .Eq) rEq := by
  intro pins s σ H x y v u Q I rx ry h
  obtain ⟨hs, q⟩ := h
  cases x with
  | non =>
    cases rx
    cases y with
    | non => cases ry; exact PySem.EqNone.eq_none_none (fin_bl I q (by simp))
    | bl j => cases ry; exact PySem.EqNone.eq_none_bool (fin_bl I q (by simp))
    | int j => obtain ⟨t', rfl⟩ := ry; exact PySem.EqNone.eq_none_int (fin_bl I q (by simp))
    | str j => obtain ⟨t', rfl⟩ := ry; exact PySem.EqNone.eq_none_str (fin_bl I q (by simp))
    | _ => exact absurd (show false = true from hs) Bool.false_ne_true
  | bl i =>
    cases rx
    cases y with
    | non => cases ry; exact PySem.EqNone.eq_bool_none (fin_bl I q (by simp))
    | bl j => cases ry; exact eq_bool (fin_bl I q dec_bl)
    | str j => obtain ⟨t', rfl⟩ := ry; exact PySem.EqMixed.eq_bool_str (fin_bl I q (by simp))
    | _ => exact absurd (show false = true from hs) Bool.false_ne_true
  | int i =>
    obtain ⟨t, rfl⟩ := rx
    cases y with
    | non => cases ry; exact PySem.EqNone.eq_int_none (fin_bl I q (by simp))
    | int j => obtain ⟨t', rfl⟩ := ry; exact eq_int (fin_bl I q dec_int)
    | str j => obtain ⟨t', rfl⟩ := ry; exact PySem.EqMixed.eq_int_str (fin_bl I q (by simp))
    | _ => exact absurd (show false = true from hs) Bool.false_ne_true
  | str i =>
    obtain ⟨t, rfl⟩ := rx
    cases y with
    | non => cases ry; exact PySem.EqNone.eq_str_none (fin_bl I q (by simp))
    | bl j => cases ry; exact PySem.EqMixed.eq_str_bool (fin_bl I q (by simp))
    | int j => obtain ⟨t', rfl⟩ := ry; exact PySem.EqMixed.eq_str_int (fin_bl I q (by simp))
    | str j => obtain ⟨t', rfl⟩ := ry; exact eq_str (fin_bl I q dec_str)
    | _ => exact absurd (show false = true from hs) Bool.false_ne_true
  | byt i =>
    obtain ⟨t, rfl⟩ := rx
    cases y with
    | byt j => obtain ⟨t', rfl⟩ := ry; exact PySem.W.eq_bytes (fin_bl I q dec_byt)
    | _ => exact absurd (show false = true from hs) Bool.false_ne_true
  | _ => cases y <;> exact absurd (show false = true from hs) Bool.false_ne_true
theorem op_ne : OpR X (compareOp .NotEq) rNe := by
  intro pins s σ H x y v u Q I rx ry h
  obtain ⟨hs, q⟩ := h
  cases x with
  | non =>
    cases rx
    cases y with
    | non => cases ry; exact PySem.EqNone.ne_none_none (fin_bl I q (by simp))
    | bl j => cases ry; exact PySem.EqNone.ne_none_bool (fin_bl I q (by simp))
    | int j => obtain ⟨t', rfl⟩ := ry; exact PySem.EqNone.ne_none_int (fin_bl I q (by simp))
    | str j => obtain ⟨t', rfl⟩ := ry; exact PySem.EqNone.ne_none_str (fin_bl I q (by simp))
    | _ => exact absurd (show false = true from hs) Bool.false_ne_true
  | bl i =>
    cases rx
    cases y with
    | non => cases ry; exact PySem.EqNone.ne_bool_none (fin_bl I q (by simp))
    | bl j => cases ry; exact ne_bool (fin_bl I q (congrArg not dec_bl))
    | str j => obtain ⟨t', rfl⟩ := ry; exact PySem.EqMixed.ne_bool_str (fin_bl I q (by simp))
    | _ => exact absurd (show false = true from hs) Bool.false_ne_true
  | int i =>
    obtain ⟨t, rfl⟩ := rx
    cases y with
    | non => cases ry; exact PySem.EqNone.ne_int_none (fin_bl I q (by simp))
    | int j => obtain ⟨t', rfl⟩ := ry; exact ne_int (fin_bl I q (congrArg not dec_int))
    | str j => obtain ⟨t', rfl⟩ := ry; exact PySem.EqMixed.ne_int_str (fin_bl I q (by simp))
    | _ => exact absurd (show false = true from hs) Bool.false_ne_true
  | str i =>
    obtain ⟨t, rfl⟩ := rx
    cases y with
    | non => cases ry; exact PySem.EqNone.ne_str_none (fin_bl I q (by simp))
    | bl j => cases ry; exact PySem.EqMixed.ne_str_bool (fin_bl I q (by simp))
    | int j => obtain ⟨t', rfl⟩ := ry; exact PySem.EqMixed.ne_str_int (fin_bl I q (by simp))
    | str j => obtain ⟨t', rfl⟩ := ry; exact ne_str (fin_bl I q (congrArg not dec_str))
    | _ => exact absurd (show false = true from hs) Bool.false_ne_true
  | byt i =>
    obtain ⟨t, rfl⟩ := rx
    cases y with
    | byt j => obtain ⟨t', rfl⟩ := ry; exact PySem.W.ne_bytes (fin_bl I q (congrArg not dec_byt))
    | _ => exact absurd (show false = true from hs) Bool.false_ne_true
  | _ => cases y <;> exact absurd (show false = true from hs) Bool.false_ne_true

theorem op_lt : OpR X (compareOp .Lt) (rI0 fun i j => .bl (decide (i < j))) := opB0 fun _ _ _ _ _ _ _ q => lt_int q
theorem op_gt : OpR X (compareOp .Gt) (rI0 fun i j => .bl (decide (j < i))) := opB0 fun _ _ _ _ _ _ _ q => gt_int q
theorem op_ge : OpR X (compareOp .GtE) (rI0 fun i j => .bl (decide (j ≤ i))) := opB0 fun _ _ _ _ _ _ _ q => ge_int q




theorem nomark (b : Expr) {op : CmpOp} (h : op ≠ .In := by decide) (h2 : op ≠ .NotIn := by decide) : behindInMarks op b = false := by
  have e1 : (op == CmpOp.In) = false := by cases op <;> first | rfl | exact absurd rfl h
  have e2 : (op == CmpOp.NotIn) = false := by cases op <;> first | rfl | exact absurd rfl h2
  cases b <;> simp [behindInMarks, e1, e2]
/-- a comparison as a value; hm: nomark b, or (for in, not in) by with_unfolding_all rfl -/
theorem pe_cmpR {op : CmpOp} {r : R2} (ho : OpR X (compareOp op) r) (ha : PE X a ta) (hb : PE X b tb) (hm : behindInMarks op b = false) : PE X (.Compare a [op] [b] pos) (tOp r ta tb) := by
  intro pins s σ H Q I h
  exact wpAny_Compare1 (binT ha hb I h fun v u s2 x y H2 I2 rx ry q => ho pins s2 σ H2 x y v u Q I2 rx ry q) hm
/-- a reading of a value as a test -/
def tTest (t : TE) : TT := fun σ H Q => t σ H fun x H' => ∃ k, x = .bl k ∧ Q k H'
theorem pt_cmpR {op : CmpOp} {r : R2} (ho : OpR X (compareOp op) r) (ha : PE X a ta) (hb : PE X b tb) (hm : behindInMarks op b = false) : PT X (.Compare a [op] [b] pos) (tTest (tOp r ta tb)) := by
  intro pins s σ H Q I h
  refine wpAny_isTrue_Compare1 (thn (ha pins s σ H _ I h) fun v s1 ⟨x, H1, I1, r1, q1⟩ => thn (hb pins s1 σ H1 _ I1 q1) fun u s2 ⟨y, H2, I2, r2, q2⟩ =>
    thn (ho pins s2 σ H2 x y v u _ I2 r1 r2 q2) fun c s3 ⟨z, H3, I3, r3, k, e, q3⟩ => ?_) hm
  subst e
  cases r3
  exact wpAny_truthy_bool ⟨H3, I3, q3⟩

/-! ### truth -/
theorem line63 : (sizeLine : Nat) < 2 ^ 63 := by rw [sizeLine_eq]; decide

/-! ### strs and bytes -/


/-! ### scalar builtins, by CallR -/
theorem vals1 {x : V} {us : List Value} (r : Vals [x] us) : ∃ u, us = [u] ∧ RelV x u := by
  cases r with
  | cons r1 r2 => cases r2; exact ⟨_, rfl, r1⟩
theorem vals2 {x y : V} {us : List Value} (r : Vals [x, y] us) : ∃ u w', us = [u, w'] ∧ RelV x u ∧ RelV y w' := by
  cases r with
  | cons r1 r2 =>
    cases r2 with
    | cons r3 r4 => cases r4; exact ⟨_, _, rfl, r1, r3⟩
theorem call_max2 (hc : X.calm = true) : CallR X (.builtin "max") (fun xs H Q => ∃ i j, xs = [.int i, .int j] ∧ Q (.int (if j > i then j else i)) H) := by
  intro pins s σ H xs us Q I r h
  obtain ⟨i, j, rfl, q⟩ := h
  obtain ⟨u, w', rfl, ⟨t, rfl⟩, ⟨t', rfl⟩⟩ := vals2 r
  refine max_two_ints (I.ok.hd hc) fun h' tk k => ⟨_, H, I.kept k, ?_, q⟩
  by_cases hj : j > i
  · rw [if_pos hj, if_pos hj]; exact ⟨_, rfl⟩
  · rw [if_neg hj, if_neg hj]; exact ⟨_, rfl⟩
theorem call_min2 (hc : X.calm = true) : CallR X (.builtin "min") (fun xs H Q => ∃ i j, xs = [.int i, .int j] ∧ Q (.int (if j < i then j else i)) H) := by
  intro pins s σ H xs us Q I r h
  obtain ⟨i, j, rfl, q⟩ := h
  obtain ⟨u, w', rfl, ⟨t, rfl⟩, ⟨t', rfl⟩⟩ := vals2 r
  refine min_two_ints (I.ok.hd hc) fun h' tk k => ⟨_, H, I.kept k, ?_, q⟩
  by_cases hj : j < i
  · rw [if_pos hj, if_pos hj]; exact ⟨_, rfl⟩
  · rw [if_neg hj, if_neg hj]; exact ⟨_, rfl⟩
end
end L2

namespace L2
open PySem PySem.Spec PyProof.Rows

/-! ### an instance, its attributes a map -/
structure ObjM (h : Heap) (x dx C : Addr) (mA : Str → Option Value) : Prop where
  obj : h.get? x = some (PySem.W.instObj C dx)
  ns : h.Ns1 dx mA
  ne : dx ≠ x

theorem lookIn_ns {h : Heap} {dx : Addr} {mA : Str → Option Value} (n : h.Ns1 dx mA) : ∃ od, h.get? dx = some od ∧ ∀ name, PySem.W.lookIn name od = some (mA name) := by
  obtain ⟨o, es, ep, ho, hd, hk, _, hm⟩ := n
  refine ⟨o, ho, fun name => ?_⟩
  have e := hm name
  unfold nsFind findBy at e
  rw [← Array.find?_toList] at e
  unfold PySem.W.lookIn
  rw [hd]
  dsimp only
  split
  · rename_i y q
    rw [q] at e
    exact congrArg some e
  · rename_i q
    rw [q] at e
    have a : es.toList.any (·.refKey) = false := by
      rw [List.any_eq_false]
      intro y hy
      obtain ⟨z, t, hkey⟩ := hk y (Array.mem_toList_iff.mp hy)
      simp [DictEntry.refKey, hkey]
    have a' : ¬ es.toList.any (·.refKey) = true := by rw [a]; exact Bool.false_ne_true
    rw [if_neg a']
    exact congrArg some e

theorem ObjM.look {h : Heap} {x dx C : Addr} {mA : Str → Option Value} (I : ObjM h x dx C mA) : ∃ od, PySem.W.InstAt h x (PySem.W.instObj C dx) C (some od) ∧ ∀ name, PySem.W.lookIn name od = some (mA name) :=
  let ⟨od, ho, hl⟩ := lookIn_ns I.ns
  ⟨od, ⟨I.obj, rfl, rfl, ho⟩, hl⟩

section
variable {prog : Program} {w : World} {A : Around} {E : Value → Shared → Prop} {s : Shared} {K : PySem.W.Frag} {x dx C f : Addr} {mA : Str → Option Value} {name : Str} {v : Value}

theorem get_map {expr : Bool} {Q : Value → Shared → Prop} (X : K.In s.heap) (I : ObjM s.heap x dx C mA) (hg : PySem.W.plainGet K C name = true) (hh : PySem.W.hasDictIn K C = true)
    (ha : PySem.W.findIn K (.ref C) name = some none) (hv : mA name = some v) (hv' : PySem.W.handedIn v = true) (h : Q v { s with toks := s.toks + 1 }) :
    wpAny (model prog w) A (getAttr (.ref x) name expr) Q E s := by
  obtain ⟨od, J, hl⟩ := I.look
  exact PySem.W.get_value X J (PySem.W.plainGet_of hg).1 (PySem.W.findObj_own hh ha rfl (by rw [hl, hv])) hv' h


theorem get_meth {pl : Sem Bool} {Q : Value × List Value → Shared → Prop} (X : K.In s.heap) (I : ObjM s.heap x dx C mA) (hg : PySem.W.plainGet K C name = true)
    (hf : PySem.W.findIn K (.ref C) name = some (some (.ref f))) (ht : PySem.W.isFn K (.ref f) = true) (hv : mA name = none) (h : Q (.ref f, [.ref x]) s) :
    wpAny (model prog w) A (getMethod (.ref x) name pl) Q E s := by
  obtain ⟨od, J, hl⟩ := I.look
  exact PySem.W.method_fn X J (PySem.W.plainGet_of hg).1 (PySem.W.plainGet_of hg).2 hf (beq_iff_eq.mp ht) (by show (PySem.W.lookIn name od).map (·.isSome) = some false; rw [hl, hv]; rfl) h

theorem set_map {ns : List Str} {Q : Unit → Shared → Prop} (X : K.In s.heap) (I : ObjM s.heap x dx C mA)
    (hs : PySem.W.findIn K (.ref C) "__setattr__" = some (some (.builtin "object.__setattr__"))) (hp : PySem.W.plainOver K C = true) (ht : PySem.W.takerIn K C name = some none) (hh : PySem.W.hasDictIn K C = true)
    (hw : PySem.Within mA ns) (hsz : ns.length ≤ sizeLine)
    (h : ∀ h', ObjM h' x dx C (fun y => if y = name then some v else mA y) → Heap.SameBut dx s.heap h' → Q () { s with heap := h', toks := s.toks + 2 }) :
    wpAny (model prog w) A (setAttr (.ref x) name v) Q E s := by
  obtain ⟨od, J, hl⟩ := I.look
  refine PySem.W.set_plain X J hs (PySem.W.osa_open (s := { s with toks := s.toks + 1 }) (r := none) X J hp ht fun b => ?_)
  obtain ⟨cd, hc, hd'⟩ := PySem.W.any_some hh
  have hx : s.heap.get? x = some ⟨.ref C, some dx, .plain, #[]⟩ := I.obj
  refine wpAny_bind (wpAny_pure (wpAny_bind (wpAny_bind (wpAny_loadPart hx (wpAny_bind (PySem.W.Looks.here (s := { s with toks := s.toks + 1 }) (PySem.W.looks_clsIn X hc) ?_))))))
  rw [hd']
  refine wpAny_pure (a := some dx) (wpAny_bind (wpAny_pure (wpAny_bind ?_)))
  refine wpAny_nsSet1 (s := { s with toks := s.toks + 1 }) I.ns fun h' hn2 hs2 => ?_
  obtain ⟨oD, esD, epD, hoD, hdD, hcD⟩ := hn2.count (PySem.Within.cons name v hw)
  refine wpAny_bind (wpAny_lookBehind hoD (by rw [hdD]; exact pastItsLine_dict (Nat.le_trans hcD (by rw [List.length_cons]; omega))) ?_)
  exact wpAny_pure (h _ ⟨(hs2.2 _ (Ne.symm I.ne)).trans I.obj, hn2, I.ne⟩ hs2)

/-- C(..): the dict at the heap's end, the instance behind it; then its __init__ -/
theorem make_map {R : Result → Shared → Prop} {vs : List Value} {kw : List (Str × Value)} (X : K.In s.heap) (hm : PySem.W.makesIn K C = true)
    (hi : PySem.W.findIn K (.ref C) "__init__" = some (some (.ref f))) (hf : PySem.W.typeIn K (.ref f) = some (.type "function"))
    (h : codeAny (model prog w) (A.under (.builtin "type.__call__" ⟨.ref C :: vs, kw⟩)) (.call (.ref f) ⟨.ref (s.heap.objs.size + 1) :: vs, kw⟩) (PySem.W.InitBack (s.heap.objs.size + 1) R)
      { s with heap := (s.heap.push PySem.W.emptyDict).push (PySem.W.instObj C s.heap.objs.size) }) :
    codeAny (model prog w) A (.call (.ref C) ⟨vs, kw⟩) R s := by
  obtain ⟨hh, g, d, t, os⟩ := s
  exact PySem.W.make_core (PySem.W.makes_of X hm) (PySem.W.looks_findIn X hi) (fun self => PySem.W.bind_fn X self hf) (.inl rfl) h
end

/-! ### the attributes as a list of pairs -/
def putF (f : Str) (v : V) : List (Str × V) → List (Str × V)
  | [] => [(f, v)]
  | (g, x) :: r => if g = f then (g, v) :: r else (g, x) :: putF f v r
theorem lookup_putF (f g : Str) (v : V) : ∀ fs : List (Str × V), (putF f v fs).lookup g = if g = f then some v else fs.lookup g
  | [] => by
    show List.lookup g [(f, v)] = _
    by_cases h : g = f
    · have hb : (g == f) = true := beq_iff_eq.mpr h
      simp only [List.lookup, hb, if_pos h]
    · have hb : (g == f) = false := beq_eq_false_iff_ne.mpr h
      simp only [List.lookup, hb, if_neg h]
  | (k, x) :: r => by
    have ih := lookup_putF f g v r
    rw [show putF f v ((k, x) :: r) = (if k = f then (k, v) :: r else (k, x) :: putF f v r) from rfl]
    by_cases hk : k = f
    · rw [if_pos hk]
      by_cases h : g = k
      · have hb : (g == k) = true := beq_iff_eq.mpr h
        simp only [List.lookup, hb, if_pos (h.trans hk)]
      · have hb : (g == k) = false := beq_eq_false_iff_ne.mpr h
        simp only [List.lookup, hb, if_neg (fun e : g = f => h (e.trans hk.symm))]
    · rw [if_neg hk]
      by_cases h : g = k
      · have hb : (g == k) = true := beq_iff_eq.mpr h
        simp only [List.lookup, hb, if_neg (fun e : g = f => hk (h.symm.trans e))]
      · have hb : (g == k) = false := beq_eq_false_iff_ne.mpr h
        simp only [List.lookup, hb]
        exact ih
theorem keys_putF (f : Str) (v : V) : ∀ fs : List (Str × V), f ∈ (putF f v fs).map (·.1) ∧ ∀ g, g ∈ fs.map (·.1) → g ∈ (putF f v fs).map (·.1)
  | [] => ⟨by simp [putF], fun g h => by simp at h⟩
  | (k, x) :: r => by
    obtain ⟨i1, i2⟩ := keys_putF f v r
    rw [show putF f v ((k, x) :: r) = (if k = f then (k, v) :: r else (k, x) :: putF f v r) from rfl]
    by_cases hk : k = f
    · rw [if_pos hk]
      subst hk
      exact ⟨by simp, fun g h => by simpa using h⟩
    · rw [if_neg hk]
      refine ⟨?_, fun g h => ?_⟩
      · rw [List.map_cons]
        exact List.mem_cons_of_mem _ i1
      · rw [List.map_cons] at h ⊢
        rcases List.mem_cons.mp h with e | e
        · exact List.mem_cons.mpr (.inl e)
        · exact List.mem_cons_of_mem _ (i2 g e)
theorem length_putF (f : Str) (v : V) : ∀ fs : List (Str × V), (putF f v fs).length ≤ fs.length + 1
  | [] => by simp [putF]
  | (k, x) :: r => by
    have ih := length_putF f v r
    rw [show putF f v ((k, x) :: r) = (if k = f then (k, v) :: r else (k, x) :: putF f v r) from rfl]
    by_cases hk : k = f
    · rw [if_pos hk, List.length_cons, List.length_cons]; omega
    · rw [if_neg hk, List.length_cons, List.length_cons]; omega

theorem RelO.some_of {v : V} {o : Option Value} (r : RelO (some v) o) : ∃ u, o = some u ∧ RelV v u := by
  cases o with
  | none => exact (show False from r).elim
  | some u => exact ⟨u, rfl, r⟩
theorem RelO.none_of {o : Option Value} (r : RelO none o) : o = none := by
  cases o with
  | none => rfl
  | some u => exact (show False from r).elim
theorem handed_of {v : V} {u : Value} (r : RelV v u) : PySem.W.handedIn u = true := by
  cases v with
  | non => cases (show u = Value.none from r); rfl
  | bl b => cases (show u = Value.bool b from r); rfl
  | int i => obtain ⟨t, e⟩ := (show ∃ t, u = Value.int i t from r); cases e; rfl
  | str x => obtain ⟨t, e⟩ := (show ∃ t, u = Value.str x t from r); cases e; rfl
  | byt b => obtain ⟨t, e⟩ := (show ∃ t, u = Value.bytes b t from r); cases e; rfl
  | flt b => obtain ⟨t, e⟩ := (show ∃ t, u = Value.float b t from r); cases e; rfl
  | ref a => cases (show u = Value.ref a from r); rfl
  | ty n => cases (show u = Value.type n from r); rfl

section
variable {P : Program} {w : World} {H H' : Hp} {h h' : Heap} {a C dx : Addr} {fs fs' : List (Str × V)}
theorem ins_get (hok : HOk P w H h) (e : H a = some (.ins C dx fs)) : ∃ mA, ObjM h a dx C mA ∧ (∀ f, RelO (fs.lookup f) (mA f)) ∧ PySem.Within mA (fs.map (·.1)) ∧ fs.length ≤ 1000 ∧ H dx = some (.own a) := by
  obtain ⟨d, z, ne, ob, mA, n, r, q⟩ := (show ObjOk P w H h a (.ins C dx fs) from hok a _ e)
  exact ⟨mA, ⟨ob, n, ne⟩, r, q, z, d⟩
end

/-! ### what of the text a class must have -/
structure Cls (K : PySem.W.Frag) (C : Addr) : Prop where
  pg : PySem.W.plainGet K C Str.empty = true
  hd : PySem.W.hasDictIn K C = true
  po : PySem.W.plainOver K C = true
  sa : PySem.W.findIn K (.ref C) "__setattr__" = some (some (.builtin "object.__setattr__"))
theorem Cls.get {K : PySem.W.Frag} {C : Addr} (c : Cls K C) (f : Str) : PySem.W.plainGet K C f = true := c.pg
/-- no class of it has the name -/
def NoAttr (K : PySem.W.Frag) (C : Addr) (f : Str) : Prop := PySem.W.findIn K (.ref C) f = some none
theorem NoAttr.taker {K : PySem.W.Frag} {C : Addr} {f : Str} (n : NoAttr K C f) : PySem.W.takerIn K C f = some none := by
  unfold PySem.W.takerIn
  rw [show PySem.W.findIn K (.ref C) f = some none from n]
  rfl
/-- a method: a plain def of the class or of one above it -/
structure Meth (K : PySem.W.Frag) (C : Addr) (m : Str) (f : Addr) : Prop where
  at_ : PySem.W.findIn K (.ref C) m = some (some (.ref f))
  fn : PySem.W.isFn K (.ref f) = true
  kp : PySem.W.keepIn K (.ref f) = true

section
variable {X : Cx} {pins : List (Addr × Obj)} {σ : St} {H : Hp} {s : Shared} {a C dx : Addr} {fs : List (Str × V)} {f : Str} {v : V} {A : Around} {E : Value → Shared → Prop}

theorem getattr_ok {b : Bool} {Q : Value → Shared → Prop} (I : Inv X pins σ H s) (e : H a = some (.ins C dx fs)) (c : Cls X.K C) (n : NoAttr X.K C f) (l : fs.lookup f = some v)
    (h : ∀ u s', Inv X pins σ H s' → RelV v u → Q u s') : wpAny (model X.prog X.w) A (getAttr (.ref a) f b) Q E s := by
  obtain ⟨mA, O, r, _, _, _⟩ := ins_get I.hok e
  obtain ⟨u, hu, ru⟩ := RelO.some_of (v := v) (o := mA f) (by rw [← l]; exact r f)
  exact get_map I.kIn O (c.get f) c.hd n hu (handed_of ru) (h u _ (I.tok _) ru)


theorem getmeth_ok {m : Str} {g : Addr} {pl : Sem Bool} {Q : Value × List Value → Shared → Prop} (I : Inv X pins σ H s) (e : H a = some (.ins C dx fs)) (c : Cls X.K C) (k : Meth X.K C m g) (l : fs.lookup m = none)
    (h : Q (.ref g, [.ref a]) s) : wpAny (model X.prog X.w) A (getMethod (.ref a) m pl) Q E s := by
  obtain ⟨mA, O, r, _, _, _⟩ := ins_get I.hok e
  have hn : mA m = none := RelO.none_of (by rw [← l]; exact r m)
  exact get_meth I.kIn O (c.get m) k.at_ k.fn hn h

theorem setattr_ok {y : V} {u : Value} {Q : Unit → Shared → Prop} (I : Inv X pins σ H s) (e : H a = some (.ins C dx fs)) (c : Cls X.K C) (n : NoAttr X.K C f) (hl : fs.length < 1000) (ry : RelV y u)
    (h : ∀ s', Inv X pins σ (upd H a (.ins C dx (putF f y fs))) s' → Q () s') : wpAny (model X.prog X.w) A (setAttr (.ref a) f u) Q E s := by
  obtain ⟨mA, O, r, wi, _, ho⟩ := ins_get I.hok e
  have hz : (fs.map (·.1)).length ≤ sizeLine := by rw [List.length_map, sizeLine_eq]; omega
  refine set_map I.kIn O c.sa c.po n.taker c.hd wi hz fun h' O' sb => h _ ?_
  have hd : ∃ o, h'.get? dx = some o := let ⟨o, _, _, e', _⟩ := O'.ns; ⟨o, e'⟩
  refine I.write (x := a) (e := dx) (by rw [e]; exact True.intro) (.inr ho) (fun b q hb z => (sb.2 b hb).trans z) hd ?_
  refine ⟨by rw [upd_ne O.ne]; exact ho, ?_, O.ne, O'.obj, _, O'.ns, fun g => ?_, fun g hg => ?_⟩
  · have := length_putF f y fs; omega
  · show RelO ((putF f y fs).lookup g) (if g = f then some u else mA g)
    rw [lookup_putF]
    by_cases q : g = f
    · rw [if_pos q, if_pos q]; exact ry
    · rw [if_neg q, if_neg q]; exact r g
  · by_cases q : g = f
    · rw [q]; exact (keys_putF f y fs).1
    · refine (keys_putF f y fs).2 g (wi g fun z => hg ?_)
      show (if g = f then some u else mA g) = none
      rw [if_neg q]; exact z

/-- a new instance, tracked, without attributes -/
theorem Inv.made (I : Inv X pins σ H s) : Inv X pins σ (upd (upd H s.heap.objs.size (.own (s.heap.objs.size + 1))) (s.heap.objs.size + 1) (.ins C s.heap.objs.size []))
    { s with heap := (s.heap.push PySem.W.emptyDict).push (PySem.W.instObj C s.heap.objs.size) } := by
  have e1 : (s.heap.push PySem.W.emptyDict).get? s.heap.objs.size = some PySem.W.emptyDict := Heap.get?_push_size s.heap rfl
  have e2 : ((s.heap.push PySem.W.emptyDict).push (PySem.W.instObj C s.heap.objs.size)).get? (s.heap.objs.size + 1) = some (PySem.W.instObj C s.heap.objs.size) := by
    have := Heap.get?_push_size (s.heap.push PySem.W.emptyDict) (o := PySem.W.instObj C s.heap.objs.size) rfl
    rwa [Heap.size_push] at this
  have e3 : (s.heap.push PySem.W.emptyDict).Ns s.heap.objs.size (fun _ => none) := ⟨PySem.W.emptyDict, #[], _, e1, rfl, (fun e he => absurd he (by simp)), fun _ => rfl⟩
  have I1 := I.laid (a := s.heap.objs.size) (o := .own (s.heap.objs.size + 1)) (h' := s.heap.push PySem.W.emptyDict) (t' := s.toks) (fun b u q => Heap.get?_push_of_some _ q) (Nat.le_refl _) ⟨_, e1⟩
  refine I1.laid (a := s.heap.objs.size + 1) (o := .ins C s.heap.objs.size []) (t' := s.toks) (fun b u q => Heap.get?_push_of_some _ q) (Nat.le_of_eq (Heap.size_push _ _)) ?_
  have ne : s.heap.objs.size ≠ s.heap.objs.size + 1 := Nat.ne_of_lt (Nat.lt_succ_self _)
  refine ⟨by rw [upd_ne ne, upd_same], Nat.zero_le _, ne, e2, fun _ => none, (Heap.Ns1.of_empty e3).at fun o q => Heap.get?_push_of_some _ q, fun _ => True.intro, fun y hy => absurd rfl hy⟩

/-- e.f where nothing but the object is asked: through attributeBase (super) and the last hold -/
theorem attr_of {prog : Program} {w : World} {env : Env} {e : Expr} {f : Str} {pos : Pos} {s : Shared} {Q : Value → Shared → Prop} (hb : attributeBase e f env (eval e env) = eval e env)
    (h : wpAny (model prog w) A (eval e env) (fun o s₁ => wpAny (model prog w) A (getAttr o f true) Q E s₁) E s) : wpAny (model prog w) A (eval (.Attribute e f pos) env) Q E s :=
  Attribute_any_ h (by rw [arm_eval_Attribute, hb])
end

/-! ### readings and rules -/
/-- e.f, an attribute of the instance -/
def tFld (K : PySem.W.Frag) (ta : TE) (f : Str) : TE := fun σ H Q => ta σ H fun x H1 => ∃ a C dx fs v, x = .ref a ∧ H1 a = some (.ins C dx fs) ∧ Cls K C ∧ NoAttr K C f ∧ fs.lookup f = some v ∧ Q v H1
/-- e.f = value -/
def sFld (K : PySem.W.Frag) (ta tv : TE) (f : Str) : TS := fun D σ H => tv σ H fun y H1 => ta σ H1 fun x H2 => ∃ a C dx fs, x = .ref a ∧ H2 a = some (.ins C dx fs) ∧ Cls K C ∧ NoAttr K C f ∧ fs.length < 1000 ∧
  D.nx σ (upd H2 a (.ins C dx (putF f y fs)))
/-- an augmented operator on two values -/
def InOp (X : Cx) (op : Operator) (rd : V → V → Hp → VK → Prop) : Prop :=
  ∀ (pins : List (Addr × Obj)) (s : Shared) (σ : St) (H : Hp) (x y : V) (u v : Value) (Q : VK), Inv X pins σ H s → RelV x u → RelV y v → rd x y H Q → wpAny (model X.prog X.w) X.A (inplaceOp op u v) (EP X pins σ Q) X.xe s
/-- e.f op= value -/
def sFldAug (K : PySem.W.Frag) (ta tv : TE) (rd : V → V → Hp → VK → Prop) (f : Str) : TS := fun D σ H => ta σ H fun x H1 => ∃ a C dx fs v, x = .ref a ∧ H1 a = some (.ins C dx fs) ∧ Cls K C ∧ NoAttr K C f ∧ fs.lookup f = some v ∧
  tv σ H1 fun y H2 => rd v y H2 fun z H3 => ∃ dx' fs', H3 a = some (.ins C dx' fs') ∧ fs'.length < 1000 ∧ D.nx σ (upd H3 a (.ins C dx' (putF f z fs')))

section
variable {X : Cx} {o e value : Expr} {f : Str} {pos pos' tpos : Pos} {ta tv : TE}
theorem pe_fld (he : PE X e ta) (hb : attributeBase e f X.env (eval e X.env) = eval e X.env) : PE X (.Attribute e f pos) (tFld X.K ta f) := by
  intro pins s σ H Q I h
  refine attr_of hb (thn (he pins s σ H _ I h) fun u s1 ⟨x, H1, I1, rx, a, C, dx, fs, v, ex, ea, c, n, l, q⟩ => ?_)
  subst ex
  obtain rfl : u = Value.ref a := rx
  exact getattr_ok I1 ea c n l fun u' s2 I2 ru => ⟨v, H1, I2, ru, q⟩
theorem ps_fld (ha : PE X o ta) (hv : PE X value tv) (hs : swapsWith value (some (.Attribute o f pos')) pos.line X.env = pure false) : PS X (.Assign [.Attribute o f pos'] value pos) (sFld X.K ta tv f) := by
  intro pins s σ H D I h
  refine plainObj_wpAny_Assign_Attribute (thn (hv pins s σ H _ I h) fun u s1 ⟨y, H1, I1, ry, q⟩ => thn (ha pins s1 σ H1 _ I1 q) fun ov s2 ⟨x, H2, I2, rx, a, C, dx, fs, ex, ea, c, n, l, q2⟩ => ?_) hs
  subst ex
  obtain rfl : ov = Value.ref a := rx
  exact setattr_ok I2 ea c n l ry fun s3 I3 => ⟨σ, _, I3, q2⟩
theorem ps_fldaug {op : Operator} {rd : V → V → Hp → VK → Prop} (ha : PE X o ta) (hv : PE X value tv) (hop : InOp X op rd) : PS X (.AugAssign (.Attribute o f tpos) op value pos) (sFldAug X.K ta tv rd f) := by
  intro pins s σ H D I h
  refine wpAny_AugAssign_AttributeAny (thn (ha pins s σ H _ I h) fun ov s1 ⟨x, H1, I1, rx, a, C, dx, fs, v, ex, ea, c, n, l, q⟩ => ?_)
  subst ex
  obtain rfl : ov = Value.ref a := rx
  refine getattr_ok I1 ea c n l fun u s2 I2 ru => thn (hv pins s2 σ H1 _ I2 q) fun w3 s3 ⟨y, H2, I3, ry, q3⟩ => thn (hop pins s3 σ H2 v y u w3 _ I3 ru ry q3) fun w4 s4 ⟨z, H3, I4, rz, dx', fs', ea', l', q4⟩ => ?_
  exact setattr_ok I4 ea' c n l' rz fun s5 I5 => ⟨σ, _, I5, q4⟩
def rAdd : V → V → Hp → VK → Prop := fun x y H Q => ∃ i j, x = .int i ∧ y = .int j ∧ Q (.int (i + j)) H
theorem in_add : InOp X .Add rAdd := by
  rintro pins s σ H x y u v Q I rx ry ⟨i, j, rfl, rfl, q⟩
  obtain ⟨t, rfl⟩ := (show ∃ t, u = Value.int i t from rx)
  obtain ⟨t', rfl⟩ := (show ∃ t', v = Value.int j t' from ry)
  exact PyProof.Rows.iadd_int ⟨.int (i + j), H, I.tok _, ⟨_, rfl⟩, q⟩

end

/-! ### isinstance -/
section
variable {X : Cx} {pins : List (Addr × Obj)} {σ : St} {H : Hp} {s : Shared} {A : Around} {E : Value → Shared → Prop} {Q : Value → Shared → Prop} {c : Value} {b : Bool}
end
end L2

namespace L2
open PySem PySem.Spec PyProof.Rows

/-! ### room -/
structure Room (k : Nat) (A : Around) : Prop where
  hd : A.handled = none
  dp : A.depth + 3 * k + 5 < recursionLimit
  un : A.units + 16 * k + 200 < cLine
theorem Room.mono {j k : Nat} {A : Around} (r : Room k A) (h : j ≤ k) : Room j A := ⟨r.hd, by have := r.dp; omega, by have := r.un; omega⟩
theorem Room.deeper {k : Nat} {A : Around} (r : Room (k + 1) A) (env : Env) : Room k (A.deeper env) :=
  ⟨r.hd, by have := r.dp; show A.depth + 1 + 3 * k + 5 < _; omega, by have := r.un; show A.units + 3 + 16 * k + 200 < _; omega⟩
theorem Room.in1 {k : Nat} {A : Around} (r : Room (k + 1) A) : Room k A.in1 :=
  ⟨r.hd, by have := r.dp; show A.depth + 3 * k + 5 < _; omega, by have := r.un; show A.units + 1 + 16 * k + 200 < _; omega⟩
theorem make_depth {A : Around} {C : Addr} {us : List Value} {kw : List (Str × Value)} : (A.under (.builtin "type.__call__" ⟨.ref C :: us, kw⟩)).depth = A.depth + 1 := by
  first | rfl | simp [Around.under, Code.weight, Code.isCreation, Code.isGuard, Code.isCaller, Code.frames, Code.isFrame, guardIds]
theorem make_units {A : Around} {C : Addr} {us : List Value} {kw : List (Str × Value)} : (A.under (.builtin "type.__call__" ⟨.ref C :: us, kw⟩)).units = A.units + 1 := by
  first | rfl | simp [Around.under, Code.cUnits, Code.frames, Code.isFrame]
theorem Room.make {k : Nat} {A : Around} (r : Room (k + 1) A) (C : Addr) (us : List Value) (kw : List (Str × Value)) : Room k (A.under (.builtin "type.__call__" ⟨.ref C :: us, kw⟩)) :=
  ⟨r.hd, by have := r.dp; rw [make_depth]; omega, by have := r.un; rw [make_units]; omega⟩
theorem Room.depth {k : Nat} {A : Around} (r : Room k A) : A.depth < recursionLimit := by have := r.dp; omega

/-! ### argument lists and displays -/
def tNil : TA := fun _ H Q => Q [] H
def tCons (ta : TE) (tr : TA) : TA := fun σ H Q => ta σ H fun x H1 => tr σ H1 fun xs H2 => Q (x :: xs) H2
section
variable {X : Cx} {e : Expr} {es : List Expr} {te : TE} {t : TA} {pos : Pos}
theorem pa_nil : PA X [] tNil := fun _ _ _ _ H Q I h => Calls.spliced_nil ⟨[], H, I, .nil, h⟩
theorem pa_cons (ha : PE X e te) (hr : PA X es t) (hs : starEach (e :: es) X.env = (false, eval e X.env) :: starEach es X.env := by rfl) : PA X (e :: es) (tCons te t) := by
  intro pos pins s σ H Q I h
  rw [hs]
  show wpAny _ _ (spliced ((false, eval e X.env) :: backTo pos (starEach es X.env))) _ _ s
  refine Calls.spliced_cons (thn (ha pins s σ H _ I h) fun u s1 ⟨x, H1, I1, r1, q1⟩ => ?_)
  exact thn (hr pos pins s1 σ H1 _ I1 q1) fun us s2 ⟨xs, H2, I2, r2, q2⟩ => ⟨x :: xs, H2, I2, .cons r1 r2, q2⟩

def tLst (t : TA) : TE := fun σ H Q => t σ H fun xs H1 => xs.length ≤ sizeLine ∧ ∀ p, H1 p = none → Q (.ref p) (upd H1 p (.lst xs))
theorem pe_lst (h : PA X es t) : PE X (.List es pos) (tLst t) := by
  intro pins s σ H Q I hq
  refine wpAny_List_spliced (thn (h pos pins s σ H _ I hq) fun us s1 ⟨xs, H1, I1, r, z, q⟩ => ⟨by rw [← r.length]; exact z, ?_⟩)
  have hf : H1 s1.heap.objs.size = none := I1.hok.fresh (Nat.le_refl _)
  refine ⟨.ref s1.heap.objs.size, upd H1 s1.heap.objs.size (.lst xs), I1.laid (t' := s1.toks) (fun b u e => Heap.get?_push_of_some _ e) (Nat.le_refl _) ?_, rfl, q _ hf⟩
  exact ⟨z, us, 0, r, Heap.get?_push_size _ rfl⟩
end

/-! ### what a def promises -/
/-- a def's promise: the bound arguments in the parameters' order, the heap, the wanted end, the wanted exception -/
abbrev Sp := List V → Hp → VK → XK → Prop
/-- how an exception lies behind a call (file 08 gives it): the callers' frames, abstract heap and state ahead of the call, the wish, the exception, the state -/
abbrev CXT := List Env → Hp → Shared → XK → Value → Shared → Prop

/-- the state at a call -/
structure Env0 (P : Program) (w : World) (K : PySem.W.Frag) (mg : Str → Option Value) (base : Heap) (A : Around) (outer : List Env) (s : Shared) (H : Hp) : Prop where
  frames : A.frames = some outer
  mod : Mod K mg base
  bs : ∀ b o, base.get? b = some o → s.heap.get? b = some o ∧ H b = none
  bsz : base.objs.size ≤ s.heap.objs.size
  funs : s.heap.FunFrames base outer
  frf : ∀ b ∈ frs outer, H b = none
  hok : HOk P w H s.heap
  bare : AllBare s.gens
/-- a call's end -/
def CE (outer : List Env) (P : Program) (w : World) (H : Hp) (s : Shared) (Q : VK) (u : Value) (s' : Shared) : Prop :=
  ∃ v H', s'.os = s.os ∧ AllBare s'.gens ∧ Un (frs outer) [] H H' s.heap s'.heap ∧ HOk P w H' s'.heap ∧ RelV v u ∧ Q v H'
def CR (CX : CXT) (outer : List Env) (P : Program) (w : World) (H : Hp) (s : Shared) (Q : VK) (E : XK) (r : Result) (s' : Shared) : Prop :=
  match r with
  | .ok (.ret u) => CE outer P w H s Q u s'
  | .ok _ => False
  | .error e => CX outer H s E e s'
structure FnOk (P : Program) (w : World) (K : PySem.W.Frag) (mg : Str → Option Value) (base : Heap) (CX : CXT) (k : Nat) (f : Addr) (fd : FuncData) (ps : List Str) (sp : Sp) : Prop where
  len : ∀ vs H Q E, sp vs H Q E → vs.length = ps.length
  run : ∀ (A : Around) (outer : List Env) (s : Shared) (H : Hp) (args : Args) (us : List Value) (vs : List V) (Q : VK) (E : XK), Room k A → Env0 P w K mg base A outer s H → BindsTo s fd args (ps.zip us) → Vals vs us → sp vs H Q E →
    codeAny (model P w) A (.call (.ref f) args) (CR CX outer P w H s Q E) s
theorem FnOk.mono {P : Program} {w : World} {K : PySem.W.Frag} {mg : Str → Option Value} {base : Heap} {CX : CXT} {j k : Nat} {f : Addr} {fd : FuncData} {ps : List Str} {sp : Sp} (F : FnOk P w K mg base CX j f fd ps sp) (h : j ≤ k) :
    FnOk P w K mg base CX k f fd ps sp := ⟨F.len, fun A outer s H args us vs Q E hr => F.run A outer s H args us vs Q E (hr.mono h)⟩

theorem Env0.make {P : Program} {w : World} {K : PySem.W.Frag} {mg : Str → Option Value} {base : Heap} {A : Around} {outer : List Env} {s : Shared} {H : Hp} (e : Env0 P w K mg base A outer s H) (C : Addr) (us : List Value) (kw : List (Str × Value)) :
    Env0 P w K mg base (A.under (.builtin "type.__call__" ⟨.ref C :: us, kw⟩)) outer s H := ⟨by first | exact e.frames | (simpa [Around.under, Code.envs, Code.isFrame, pushEnvs] using e.frames), e.mod, e.bs, e.bsz, e.funs, e.frf, e.hok, e.bare⟩

section
variable {X : Cx} {pins : List (Addr × Obj)} {σ : St} {H : Hp} {s s' : Shared}
/-- from a body: what a callee wants -/
theorem Inv.env0 (I : Inv X pins σ H s) : Env0 X.prog X.w X.K X.mg X.base X.A X.stack s H :=
  ⟨I.ok.frames, I.ok.mod, I.bs, Nat.le_trans I.ok.bsz I.sz, I.stack, I.stkFree, I.hok, I.bare⟩
/-- behind a call -/
theorem Inv.after {Q : VK} {u : Value} (I : Inv X pins σ H s) (h : CE X.stack X.prog X.w H s Q u s') : EP X pins σ Q u s' := by
  obtain ⟨v, H', os, bare, un, hok, r, q⟩ := h
  obtain ⟨hh, g, d, t, os'⟩ := s'
  obtain rfl : os' = s.os := os
  exact ⟨v, H', I.call (h' := hh) (g' := g) (d' := d) (t' := t) (ch := []) un hok bare (fun b z => absurd z (by simp)), r, q⟩
end

/-! ### calls -/
/-- f(..): the written arguments, then the defaults dvs; E: what is wanted of an exception -/
def tCall (sp : Sp) (dvs : List V) (E : XK) (t : TA) : TE := fun σ H Q => t σ H fun vs H1 => sp (vs ++ dvs) H1 Q E
/-- o.m(..) of an instance of the class at C -/
def tMeth (C : Addr) (m : Str) (sp : Sp) (dvs : List V) (E : XK) (ta : TE) (t : TA) : TE := fun σ H Q => ta σ H fun x H1 => ∃ a dx fs, x = .ref a ∧ H1 a = some (.ins C dx fs) ∧ fs.lookup m = none ∧
  t σ H1 fun vs H2 => sp (x :: (vs ++ dvs)) H2 Q E
/-- C(..): a new instance and its dict, then __init__ -/
def tMake (C : Addr) (sp : Sp) (dvs : List V) (E : XK) (t : TA) : TE := fun σ H Q => t σ H fun vs H1 => ∀ x dx, H1 x = none → H1 dx = none → dx ≠ x →
  sp (.ref x :: (vs ++ dvs)) (upd (upd H1 dx (.own x)) x (.ins C dx [])) (fun v H2 => v = .non ∧ Q (.ref x) H2) E

/-- how the parameters are bound: us the positional arguments, kw the keywords' values by name, ds the defaults that fill up -/
def Binds (K : PySem.W.Frag) (fd : FuncData) (ps : List Str) (ds : List Value) : Prop :=
  ∀ (s : Shared) (us : List Value), K.In s.heap → (us ++ ds).length = ps.length → BindsTo s fd ⟨us, []⟩ (ps.zip (us ++ ds))
/-- every parameter is given -/
theorem Binds.all {K : PySem.W.Frag} {fd : FuncData} {ps : List Str} (h : ∀ us : List Value, us.length = ps.length → bindArgs fd ⟨us, []⟩ = pure (ps.zip us)) : Binds K fd ps [] := fun s us _ hl => by
  rw [List.append_nil] at hl ⊢
  exact .of_eq (h us hl)

/-- an exception of a callee reaches what this body wants of exceptions -/
def Passes (CX : CXT) (X : Cx) (E : XK) : Prop := ∀ (pins : List (Addr × Obj)) (σ : St) (H : Hp) (s : Shared) (e : Value) (s' : Shared), Inv X pins σ H s → CX X.stack H s E e s' → X.xe e s'

section
variable {X : Cx} {CX : CXT} {k : Nat} {f C : Addr} {fd : FuncData} {ps : List Str} {sp : Sp} {dvs : List V} {ds : List Value} {E : XK} {x m : Str} {p pos apos : Pos} {e o : Expr} {es : List Expr} {ta : TE} {t : TA}

/-- the callee runs -/
theorem run_fn {pins : List (Addr × Obj)} {σ : St} {H : Hp} {s : Shared} {Q : VK} {us : List Value} {vs : List V} (F : FnOk X.prog X.w X.K X.mg X.base CX k f fd ps sp) (hr : Room k X.A) (hb : Binds X.K fd ps ds) (hd : Vals dvs ds) (hx : Passes CX X E)
    (I : Inv X pins σ H s) (r : Vals vs us) (h : sp (vs ++ dvs) H Q E) : wpAny (model X.prog X.w) X.A (call (.ref f) us) (EP X pins σ Q) X.xe s := by
  have r2 : Vals (vs ++ dvs) (us ++ ds) := r.append hd
  have hl : (us ++ ds).length = ps.length := by rw [← r2.length]; exact F.len _ _ _ _ h
  refine wpAny_call (codeAny_mono (F.run X.A X.stack s H ⟨us, []⟩ (us ++ ds) (vs ++ dvs) Q E hr I.env0 (hb s us I.kIn hl) r2 h) fun r s' hq => ?_)
  cases r with
  | error e => exact hx pins σ H s e s' I hq
  | ok fl =>
    cases fl with
    | ret u => exact I.after hq
    | next => exact False.elim hq
    | brk => exact False.elim hq
    | cont => exact False.elim hq

theorem pe_call (F : FnOk X.prog X.w X.K X.mg X.base CX k f fd ps sp) (hr : Room k X.A) (hg : Gl X x) (hm : X.mg x = some (.ref f)) (hk : PySem.W.keepIn X.K (.ref f) = true) (hb : Binds X.K fd ps ds) (hd : Vals dvs ds) (hx : Passes CX X E)
    (ha : PA X (e :: es) t) (hdb : (x == ("__debug__" : Str)) = false := by decide) (he : starEach (e :: es) X.env = (false, eval e X.env) :: starEach es X.env := by rfl) (hpl : (backTo pos (starEach es X.env)).any (·.1) = false := by rfl) :
    PE X (.Call (.Name x p) (e :: es) [] pos) (tCall sp dvs E t) := by
  intro pins s σ H Q I h
  refine wpAny_Call_Name_kw (ld_glob I hg hm ?_ hdb)
  refine PySem.W.callWith_K (h₀ := X.base) I.ok.mod.kin hk (thn (ha pos pins s σ H _ I h) fun us s1 ⟨vs, H1, I1, r, q⟩ => ⟨I1.kIn, ?_⟩) he hpl
  exact run_fn F hr hb hd hx I1 r q

/-- o.m(e, ..) -/
theorem pe_meth {pl : Sem Bool} (he : PE X o ta) (c : Cls X.K C) (hm : Meth X.K C m f) (F : FnOk X.prog X.w X.K X.mg X.base CX k f fd ps sp) (hr : Room k X.A) (hb : Binds X.K fd ps ds) (hd : Vals dvs ds) (hx : Passes CX X E) (ha : PA X (e :: es) t)
    (hst : starEach (e :: es) X.env = (false, eval e X.env) :: starEach es X.env := by rfl) (hpl : (backTo pos (starEach es X.env)).any (·.1) = false := by rfl)
    (ht : eval (.Call (.Attribute o m apos) (e :: es) [] pos) X.env = (do
      let ov ← eval o X.env
      standAt apos.atName
      let (f, first) ← holding [ov] (getMethod ov m pl)
      callWith pos f first (backTo pos (starEach (e :: es) X.env)) (backToKw pos (keywordEach [] X.env))) := by rfl) :
    PE X (.Call (.Attribute o m apos) (e :: es) [] pos) (tMeth C m sp dvs E ta t) := by
  intro pins s σ H Q I h
  refine PySem.W.methodCall_KW (pl := pl) (thn (he pins s σ H _ I h) fun u s1 ⟨x, H1, I1, rx, a, dx, fs, ex, ea, l, q⟩ => ?_) ht
  subst ex
  obtain rfl : u = Value.ref a := rx
  refine getmeth_ok I1 ea c hm l ?_
  refine PySem.W.callWith_K (first := [.ref a]) (h₀ := X.base) I.ok.mod.kin hm.kp (thn (ha pos pins s1 σ H1 _ I1 q) fun us s2 ⟨vs, H2, I2, r, q2⟩ => ⟨I2.kIn, ?_⟩) hst hpl
  exact run_fn (us := .ref a :: us) (vs := .ref a :: vs) F hr hb hd hx I2 (.cons rfl r) q2
/-- o.m() -/
theorem pe_meth0 {pl : Sem Bool} (he : PE X o ta) (c : Cls X.K C) (hm : Meth X.K C m f) (F : FnOk X.prog X.w X.K X.mg X.base CX k f fd ps sp) (hr : Room k X.A) (hb : Binds X.K fd ps ds) (hd : Vals dvs ds) (hx : Passes CX X E)
    (ht : eval (.Call (.Attribute o m apos) [] [] pos) X.env = (do
      let ov ← eval o X.env
      standAt apos.atName
      let (f, first) ← holding [ov] (getMethod ov m pl)
      callWith pos f first (backTo pos (starEach [] X.env)) (backToKw pos (keywordEach [] X.env))) := by rfl) :
    PE X (.Call (.Attribute o m apos) [] [] pos) (tMeth C m sp dvs E ta tNil) := by
  intro pins s σ H Q I h
  refine PySem.W.methodCall_KW (pl := pl) (thn (he pins s σ H _ I h) fun u s1 ⟨x, H1, I1, rx, a, dx, fs, ex, ea, l, q⟩ => ?_) ht
  subst ex
  obtain rfl : u = Value.ref a := rx
  refine getmeth_ok I1 ea c hm l ?_
  exact PySem.W.callWith_K0 (first := [.ref a]) I1.kIn hm.kp (run_fn (us := [.ref a]) (vs := [.ref a]) F hr hb hd hx I1 (.cons rfl .nil) q)

/-- what a class must have to be made -/
structure Mk (K : PySem.W.Frag) (C f : Addr) : Prop where
  makes : PySem.W.makesIn K C = true
  init : PySem.W.findIn K (.ref C) "__init__" = some (some (.ref f))
  fn : PySem.W.isFn K (.ref f) = true
  kp : PySem.W.keepIn K (.ref C) = true

theorem run_make {pins : List (Addr × Obj)} {σ : St} {H : Hp} {s : Shared} {Q : VK} {us : List Value} {vs : List V} (M : Mk X.K C f) (F : FnOk X.prog X.w X.K X.mg X.base CX k f fd ps sp) (hr : Room (k + 1) X.A) (hb : Binds X.K fd ps ds) (hd : Vals dvs ds)
    (hx : Passes CX X E) (I : Inv X pins σ H s) (r : Vals vs us)
    (h : ∀ x dx, H x = none → H dx = none → dx ≠ x → sp (.ref x :: (vs ++ dvs)) (upd (upd H dx (.own x)) x (.ins C dx [])) (fun v H2 => v = .non ∧ Q (.ref x) H2) E) :
    wpAny (model X.prog X.w) X.A (call (.ref C) us) (EP X pins σ Q) X.xe s := by
  have hq := h (s.heap.objs.size + 1) s.heap.objs.size (I.hok.fresh (Nat.le_succ _)) (I.hok.fresh (Nat.le_refl _)) (Nat.ne_of_lt (Nat.lt_succ_self _))
  have I2 := Inv.made (C := C) I
  have r2 : Vals (V.ref (s.heap.objs.size + 1) :: (vs ++ dvs)) (Value.ref (s.heap.objs.size + 1) :: (us ++ ds)) := .cons rfl (r.append hd)
  have hl : (Value.ref (s.heap.objs.size + 1) :: us ++ ds).length = ps.length := by
    have e := r2.length
    rw [F.len _ _ _ _ hq] at e
    exact e.symm
  refine wpAny_call (make_map (f := f) I.kIn M.makes M.init (beq_iff_eq.mp M.fn) (codeAny_mono (F.run _ X.stack _ _ ⟨Value.ref (s.heap.objs.size + 1) :: us, []⟩ (Value.ref (s.heap.objs.size + 1) :: (us ++ ds)) _ _ E (hr.make C us [])
    (I2.env0.make C us []) (hb _ (Value.ref (s.heap.objs.size + 1) :: us) I2.kIn hl) r2 hq) fun r s' hq' => ?_))
  cases r with
  | error e => exact hx pins σ _ _ e s' I2 hq'
  | ok fl =>
    cases fl with
    | ret u =>
      obtain ⟨v, H', I3, rv, ev, q3⟩ := I2.after hq'
      subst ev
      exact ⟨rv, ⟨V.ref (s.heap.objs.size + 1), H', I3, rfl, q3⟩⟩
    | next => exact False.elim hq'
    | brk => exact False.elim hq'
    | cont => exact False.elim hq'
theorem pe_make (M : Mk X.K C f) (F : FnOk X.prog X.w X.K X.mg X.base CX k f fd ps sp) (hr : Room (k + 1) X.A) (hg : Gl X x) (hm : X.mg x = some (.ref C)) (hb : Binds X.K fd ps ds) (hd : Vals dvs ds) (hx : Passes CX X E)
    (ha : PA X (e :: es) t) (hdb : (x == ("__debug__" : Str)) = false := by decide) (he : starEach (e :: es) X.env = (false, eval e X.env) :: starEach es X.env := by rfl) (hpl : (backTo pos (starEach es X.env)).any (·.1) = false := by rfl) :
    PE X (.Call (.Name x p) (e :: es) [] pos) (tMake C sp dvs E t) := by
  intro pins s σ H Q I h
  refine wpAny_Call_Name_kw (ld_glob I hg hm ?_ hdb)
  refine PySem.W.callWith_K (h₀ := X.base) I.ok.mod.kin M.kp (thn (ha pos pins s σ H _ I h) fun us s1 ⟨vs, H1, I1, r, q⟩ => ⟨I1.kIn, ?_⟩) he hpl
  exact run_make M F hr hb hd hx I1 r q
theorem pe_make0 (M : Mk X.K C f) (F : FnOk X.prog X.w X.K X.mg X.base CX k f fd ps sp) (hr : Room (k + 1) X.A) (hg : Gl X x) (hm : X.mg x = some (.ref C)) (hb : Binds X.K fd ps ds) (hd : Vals dvs ds) (hx : Passes CX X E)
    (hdb : (x == ("__debug__" : Str)) = false := by decide) : PE X (.Call (.Name x p) [] [] pos) (tMake C sp dvs E tNil) := by
  intro pins s σ H Q I h
  refine wpAny_Call_Name_kw (ld_glob I hg hm ?_ hdb)
  exact PySem.W.callWith_K0 I.kIn M.kp (run_make (us := []) M F hr hb hd hx I .nil h)
end

/-! ### keywords -/
section
variable {X : Cx} {CX : CXT} {k : Nat} {f C : Addr} {fd : FuncData} {ps ks : List Str} {sp : Sp} {E : XK} {x m : Str} {p pos apos kpos : Pos} {e o : Expr} {es : List Expr} {kws : List Keyword} {te ta : TE} {t tk : TA} {nm : Option Str}

variable {g : List Value → List Value → List Value} {gV : List V → List V → List V}
end

/-! ### a def's body keeps its promise -/
/-- names: the parameters first -/
structure FnScope (N P : List Str) (sc : Scope) : Prop where
  kind : sc.kind = .function
  co : sc.isCoroutine = false
  gen : sc.isGenerator = false
  nd : N.Nodup
  pre : N.take P.length = P
  par : ∀ x ∈ P, sc.names.lookup x = some .local ∨ sc.names.lookup x = some .cell
  nofree : ∀ y ∈ sc.names, y.2 ≠ .free

theorem bindL_out {kindOf : Str → Option NameKind} {x : Str} : ∀ {binds : List (Str × Value)} {m : Str → Option Value}, (∀ v, (x, v) ∉ binds) → bindL kindOf binds m x = m x
  | [], _, _ => rfl
  | (n, v) :: r, m, h => by
    unfold bindL
    rw [bindL_out fun w hw => h w (List.mem_cons_of_mem _ hw)]
    split
    · have : x ≠ n := by rintro rfl; exact h v List.mem_cons_self
      simp [this]
    · rfl
theorem bindC_out {kindOf : Str → Option NameKind} {x : Str} : ∀ {binds : List (Str × Value)} {m : Str → Option Value}, (∀ v, (x, v) ∉ binds) → bindC kindOf binds m x = m x
  | [], _, _ => rfl
  | (n, v) :: r, m, h => by
    unfold bindC
    rw [bindC_out fun w hw => h w (List.mem_cons_of_mem _ hw)]
    split
    · rfl
    · have : x ≠ n := by rintro rfl; exact h v List.mem_cons_self
      simp [this]
theorem bindL_get {kindOf : Str → Option NameKind} {x : Str} {v : Value} : ∀ {P : List Str} {vs : List Value} {i : Nat} {m : Str → Option Value}, P.Nodup → P[i]? = some x → vs[i]? = some v → kindOf x = some .local →
    bindL kindOf (P.zip vs) m x = some v
  | [], _, _, _, _, h, _, _ => by simp at h
  | _ :: _, [], _, _, _, _, h, _ => by simp at h
  | p :: P, w :: vs, 0, m, nd, h1, h2, hk => by
    simp at h1 h2; subst h1; subst h2
    show bindL kindOf ((p, w) :: P.zip vs) m p = _
    unfold bindL
    rw [bindL_out fun v hv => (List.nodup_cons.mp nd).1 (List.of_mem_zip hv).1, if_pos hk]
    simp
  | p :: P, w :: vs, i + 1, m, nd, h1, h2, hk => by
    show bindL kindOf ((p, w) :: P.zip vs) m x = _
    unfold bindL
    exact bindL_get (i := i) (List.nodup_cons.mp nd).2 (by simpa using h1) (by simpa using h2) hk
theorem bindC_get {kindOf : Str → Option NameKind} {x : Str} {v : Value} : ∀ {P : List Str} {vs : List Value} {i : Nat} {m : Str → Option Value}, P.Nodup → P[i]? = some x → vs[i]? = some v → kindOf x ≠ some .local →
    bindC kindOf (P.zip vs) m x = some v
  | [], _, _, _, _, h, _, _ => by simp at h
  | _ :: _, [], _, _, _, _, h, _ => by simp at h
  | p :: P, w :: vs, 0, m, nd, h1, h2, hk => by
    simp at h1 h2; subst h1; subst h2
    show bindC kindOf ((p, w) :: P.zip vs) m p = _
    unfold bindC
    rw [bindC_out fun v hv => (List.nodup_cons.mp nd).1 (List.of_mem_zip hv).1, if_neg hk]
    simp
  | p :: P, w :: vs, i + 1, m, nd, h1, h2, hk => by
    show bindC kindOf ((p, w) :: P.zip vs) m x = _
    unfold bindC
    exact bindC_get (i := i) (List.nodup_cons.mp nd).2 (by simpa using h1) (by simpa using h2) hk

/-- the names' values at the entry -/
def start (N : List Str) (vs : List V) : St := vs.map some ++ List.replicate (N.length - vs.length) none

/-- the context of a def's body, at its entry; an exception leaves the frame, then lies as CX says -/
def cxOf (CX : CXT) (P : Program) (w : World) (K : PySem.W.Frag) (mg : Str → Option Value) (base : Heap) (N : List Str) (qual : Str) (scope : Scope) (f : Addr) (cd : Value) (A : Around) (outer : List Env) (s : Shared) (H : Hp) (E : XK) : Cx where
  prog := P
  w := w
  K := K
  mg := mg
  base := base
  A := A.deeper (envOfC qual scope s.heap.objs.size f cd)
  N := N
  s_0 := s
  H_0 := H
  env := envOfC qual scope s.heap.objs.size f cd
  outer := outer
  stack := envOfC qual scope s.heap.objs.size f cd :: outer
  ex := []
  calm := true
  fn := fun _ => true
  pn := []
  xe := fun e s' => wpAny (model P w) (A.deeper (envOfC qual scope s.heap.objs.size f cd)) (leaving (envOfC qual scope s.heap.objs.size f cd) e) (fun _ s'' => CX outer H s E e s'') (fun e' s'' => CX outer H s E e' s'') s'

theorem cell_has {sc : Scope} {n : Nat} {x : Str} (h : sc.names.lookup x = some .cell) : ∃ c, (cellsFrom n sc.names []).lookup x = some c := by
  have q := PySem.W.cellsFrom_some sc.names n [] (.inl h)
  exact Option.isSome_iff_exists.mp q

theorem inv_start {CX : CXT} {P : Program} {w : World} {K : PySem.W.Frag} {mg : Str → Option Value} {base : Heap} {N ps : List Str} {qual : Str} {scope : Scope} {f : Addr} {cd : Value} {A : Around} {outer : List Env} {s s1 : Shared} {H : Hp} {E : XK} {us : List Value} {vs : List V}
    (S : FnScope N ps scope) (hd : A.handled = none) (e0 : Env0 P w K mg base A outer s H) (hl : vs.length = ps.length) (r : Vals vs us)
    (x : InCallC s s.heap.objs.size (bindL (envOfC qual scope s.heap.objs.size f cd).kindOf (ps.zip us) fun _ => none) (cellsFrom (s.heap.objs.size + 1) scope.names []) (bindC (envOfC qual scope s.heap.objs.size f cd).kindOf (ps.zip us) fun _ => none) s1) :
    Inv (cxOf CX P w K mg base N qual scope f cd A outer s H E) [] (start N vs) H s1 := by
  have hpl : ps.length ≤ N.length := by have := congrArg List.length S.pre; rw [List.length_take] at this; omega
  obtain ⟨h1, tk, rfl, hk⟩ := x.done
  have noA : ∀ b : Addr, b ∉ (cxOf CX P w K mg base N qual scope f cd A outer s H E).ex := fun b z => absurd (show b ∈ ([] : List Addr) from z) (by simp)
  refine ⟨⟨e0.mod, S.kind, rfl, rfl, Nat.le_refl _, fun y z c h1 h2 => ?_, fun y hy => ?_, fun y c _ h => ?_, fun _ => hd, Around.frames_deeper e0.frames, .inr ⟨rfl, rfl⟩, fun b z => absurd z (noA b), e0.bs, e0.bsz, fun b _ _ => noA b, fun b z => absurd z (noA b), e0.funs, e0.frf⟩,
    rfl, e0.bare, Un.kept hk, ⟨_, x.toInCall.ns, fun i y v h1 h2 h3 => ?_⟩, fun y c h => ⟨_, x.cell y c h⟩, e0.hok.fresh (Nat.le_refl _), fun y c h => ?_, fun p hp => absurd (show p ∈ ([] : List (Addr × Obj)) from hp) (by simp), e0.hok.kept hk, ?_⟩
  · exact name_of_addr x.apart (PySem.mem_of_lookup h1) (PySem.mem_of_lookup h2)
  · have hy : scope.names.lookup y = some .cell ∨ scope.names.lookup y = some .free := hy
    rcases hy with hy | hy
    · exact cell_has hy
    · exact absurd rfl (S.nofree _ (PySem.mem_of_lookup hy))
  · exact Nat.le_of_lt (x.above y c (PySem.mem_of_lookup h))
  · have hi : i < vs.length := by
      unfold start at h2
      by_cases hi : i < vs.length
      · exact hi
      · rw [List.getElem?_append_right (by simpa using hi)] at h2
        rw [List.getElem?_replicate] at h2
        split at h2 <;> cases h2
    have ha : vs[i]? = some v := by
      unfold start at h2
      rw [List.getElem?_append_left (by simpa using hi), List.getElem?_map] at h2
      cases e : vs[i]? with
      | none => rw [e] at h2; cases h2
      | some a => rw [e] at h2; cases h2; rfl
    obtain ⟨u, hu, rv⟩ := r.get ha
    have hp : ps[i]? = some y := by
      rw [← S.pre, List.getElem?_take_of_lt (by omega)]; exact h1
    have ndP : ps.Nodup := by rw [← S.pre]; exact S.nd.sublist (List.take_sublist _ _)
    refine ⟨u, rv, ?_⟩
    rcases S.par y (List.mem_of_getElem? hp) with k | k
    · exact .inl ⟨k, bindL_get ndP hp hu k⟩
    · obtain ⟨c, e⟩ := cell_has (n := s.heap.objs.size + 1) k
      refine .inr ⟨.inl k, c, e, ?_⟩
      have q := x.cell y c e
      rw [bindC_get ndP hp hu (by show scope.names.lookup y ≠ _; rw [k]; decide)] at q
      exact q
  · exact e0.hok.fresh (Nat.le_of_lt (x.above y c (PySem.mem_of_lookup h)))
  · unfold start
    show _ = N.length
    rw [List.length_append, List.length_map, List.length_replicate]
    omega

/-- THE RULE: a def (or a method) of the text, by its body. The body's reading t is chosen for each entry; it is run at the parameters' values -/
theorem fn_of {CX : CXT} {P : Program} {w : World} {K : PySem.W.Frag} {mg : Str → Option Value} {base : Heap} {k : Nat} {f : Addr} {name qual : Str} {params : Arguments} {body : List Stmt} {scope : Scope} {dV kV doc pm cdv ct oc : Value} {an od : Option Addr}
    {osl : Array (Option Value)} {N ps : List Str} {sp : Sp} (lk : K.lookup f = some ⟨oc, od, .func (PySem.W.fnOf name qual params body scope dV kV doc pm an cdv ct), osl⟩) (hcd : PySem.W.codeIn K cdv qual = true) (S : FnScope N ps scope)
    (len : ∀ vs H Q E, sp vs H Q E → vs.length = ps.length)
    (hbody : ∀ (A : Around) (outer : List Env) (s : Shared) (H : Hp) (vs : List V) (Q : VK) (E : XK), Room k (A.deeper (envOfC qual scope s.heap.objs.size f cdv)) → sp vs H Q E →
      ∃ t, PSs (cxOf CX P w K mg base N qual scope f cdv A outer s H E) body t ∧ t { nx := fun _ H' => Q .non H', rt := Q } (start N vs) H) :
    FnOk P w K mg base CX (k + 1) f (PySem.W.fnOf name qual params body scope dV kV doc pm an cdv ct) ps sp := by
  refine ⟨len, fun A outer s H args us vs Q E hr e0 hb r hsp => ?_⟩
  have hl := len _ _ _ _ hsp
  have KX : K.In s.heap := e0.mod.kin.keeps fun b o e => (e0.bs b o e).1
  have lim : s.heap.NoLimit := e0.mod.nolimit.keeps fun b o e => (e0.bs b o e).1
  have hkind : ∀ y ∈ ps.zip us, scope.names.lookup y.1 = some .local ∨ (scope.names.lookup y.1 = some .cell ∧ ((cellsFrom (s.heap.objs.size + 1) scope.names []).lookup y.1).isSome = true) := fun ⟨n, v⟩ hy => by
    rcases S.par n (List.of_mem_zip hy).1 with q | q
    · exact .inl q
    · exact .inr ⟨q, PySem.W.cellsFrom_some _ _ _ (.inl q)⟩
  refine codeAny_call_function hr.depth (KX _ _ lk) rfl S.co S.gen rfl (PySem.W.codeRec_of KX hcd) (hb _ _ _ _ ?_)
  refine wpAny_newFunctionEnv_cells S.kind hkind fun env he s1 x => ?_
  subst he
  refine ⟨lim.keeps x.toInCall.keep, codeAny_func ?_⟩
  obtain ⟨t, ht, hq⟩ := hbody A outer s H vs Q E (hr.deeper _) hsp
  have I : Inv (cxOf CX P w K mg base N qual scope f cdv A outer s H E) [] (start N vs) H s1 := inv_start S hr.hd e0 hl r x
  refine wpAny_mono (ht [] s1 (start N vs) H _ I hq) (fun fl s' hs => ?_) fun e s' hs => hs
  have fin : ∀ {σ' : St} {H' : Hp} {v : V} {u : Value}, Inv (cxOf CX P w K mg base N qual scope f cdv A outer s H E) [] σ' H' s' → RelV v u → Q v H' → CE outer P w H s Q u s' :=
    fun {σ' H' v u} J rv q => ⟨v, H', J.os, J.bare, J.base, J.hok, rv, q⟩
  cases fl with
  | ret u =>
    obtain ⟨v, σ', H', J, rv, q⟩ := hs
    exact fin J rv q
  | next =>
    obtain ⟨σ', H', J, q⟩ := hs
    exact fin (v := V.non) (u := Value.none) J rfl q
  | brk =>
    obtain ⟨_, _, _, q⟩ := hs
    exact False.elim q
  | cont =>
    obtain ⟨_, _, _, q⟩ := hs
    exact False.elim q
end L2

namespace L2
open PySem PySem.Spec PyProof.Rows
section
variable {X : Cx} {x : Str} {p pos : Pos} {e : Expr} {es : List Expr} {t : TA} {id T : String} {r : List V → Hp → VK → Prop}

def tCB (r : List V → Hp → VK → Prop) (t : TA) : TE := fun σ H Q => t σ H fun vs H1 => r vs H1 Q
/-- f(e, ..), f a built-in function -/
theorem pe_callB (hc : CallR X (.builtin id) r) (hg : Gl X x) (hm : X.mg x = none) (hv : bootBuiltins x = some (.builtin id)) (ha : PA X (e :: es) t) (hn : x ≠ "__name__" := by decide) (hdb : (x == ("__debug__" : Str)) = false := by decide)
    (he : starEach (e :: es) X.env = (false, eval e X.env) :: starEach es X.env := by rfl) (hpl : (backTo pos (starEach es X.env)).any (·.1) = false := by rfl) : PE X (.Call (.Name x p) (e :: es) [] pos) (tCB r t) := by
  intro pins s σ H Q I h
  refine wpAny_Call_Name_kw (ld_blt I hg hm hv ?_ hn hdb)
  exact PyProof.Rows.callWith_builtin1 (thn (ha pos pins s σ H _ I h) fun us s1 ⟨vs, H1, I1, r1, q1⟩ => hc pins s1 σ H1 vs us Q I1 r1 q1) he hpl
end
end L2

namespace HT
open PySem PyProof.Rows



section
open PySem.SeqAt
open PySem.AutoSeq1 (wpAny_loadPart')
open PySem.MeetsSeq PySem.MeetsSeq2 PySem.MeetsSeq3

end

section
variable {prog : Program} {w : World} {A : Around} {E : Value → Shared → Prop} {s : Shared}



/-! ### t[a:b], not the whole -/
/-- a slice's bound as a place among n (d where it is left out) -/
def sIx (n d : Nat) : Option Int → Nat
  | none => d
  | some v => if v < 0 then (v + (n : Int)).toNat else min v.toNat n
theorem sIx_none (n d : Nat) : sIx n d none = d := rfl
theorem sIx_nat (n d k : Nat) : sIx n d (some (k : Int)) = min k n := by
  show (if (k : Int) < 0 then ((k : Int) + (n : Int)).toNat else min (k : Int).toNat n) = min k n
  rw [if_neg (by omega), Int.toNat_natCast]

end
end HT

namespace L2
open PySem PySem.Spec PyProof.Rows

/-! ### the parts of a slice -/
abbrev TO := St → Hp → (Option Int → Hp → Prop) → Prop
/-- a slice's part (left out, or an int) -/
def PO (X : Cx) (e : Option Expr) (t : TO) : Prop :=
  ∀ (pins : List (Addr × Obj)) (s : Shared) (σ : St) (H : Hp) (Q : Option Int → Hp → Prop), Inv X pins σ H s → t σ H Q →
    wpAny (model X.prog X.w) X.A (evalPart e X.env) (fun u s' => ∃ o H', Inv X pins σ H' s' ∧ IsPart u o ∧ Q o H') X.xe s
def tNoPart : TO := fun _ H Q => Q none H
def tPart (t : TE) : TO := fun σ H Q => t σ H fun x H1 => ∃ i, x = .int i ∧ Q (some i) H1


section
variable {X : Cx} {e : Expr} {te : TE} {lo hi : Option Expr} {tl th : TO} {pos p2 : Pos}

theorem po_none : PO X none tNoPart := by
  intro pins s σ H Q I h
  rw [evalPart_none]
  exact wpAny_pure ⟨none, H, I, .none, h⟩
theorem po_some (h : PE X e te) : PO X (some e) (tPart te) := by
  intro pins s σ H Q I hw
  rw [evalPart_some]
  refine thn (h pins s σ H _ I hw) fun u s1 ⟨x, H1, I1, r1, q1⟩ => ?_
  obtain ⟨i, rfl, q⟩ := q1
  obtain ⟨t, rfl⟩ := r1
  exact ⟨some i, H1, I1, .int i t, q⟩

/-- what a slice of a value is, by values: the slice object stands at sl -/
def SlR (X : Cx) (r : V → Option Int → Option Int → Hp → VK → Prop) : Prop :=
  ∀ (pins : List (Addr × Obj)) (s : Shared) (σ : St) (H : Hp) (x : V) (v vl vu : Value) (lo hi : Option Int) (sl : Addr) (Q : VK), Inv X pins σ H s → RelV x v → s.heap.IsSliceOf sl vl vu .none → IsPart vl lo → IsPart vu hi → r x lo hi H Q →
    ∃ T id, typeLookup (.type T) "__getitem__" = pure (some (.builtin id)) ∧ s.TypeIs v T ∧ wpAny (model X.prog X.w) X.A (getItem v (.ref sl)) (EP X pins σ Q) X.xe s
def tSl (r : V → Option Int → Option Int → Hp → VK → Prop) (te : TE) (tl th : TO) : TE := fun σ H Q => te σ H fun x H1 => tl σ H1 fun l H2 => th σ H2 fun u H3 => r x l u H3 Q
/-- a[lo:hi], any a -/
theorem pe_slice {r : V → Option Int → Option Int → Hp → VK → Prop} (hr : SlR X r) (he : PE X e te) (hl : PO X lo tl) (hu : PO X hi th) : PE X (.Subscript e (.Slice lo hi none p2) pos) (tSl r te tl th) := by
  intro pins s σ H Q I h
  refine Subscript_ (thn (he pins s σ H _ I h) fun v s1 ⟨x, H1, I1, r1, q1⟩ => ?_)
  refine wpAny_Slice (thn (hl pins s1 σ H1 _ I1 q1) fun vl s2 ⟨l, H2, I2, pl, q2⟩ => thn (hu pins s2 σ H2 _ I2 q2) fun vu s3 ⟨u, H3, I3, pu, q3⟩ => ?_)
  rw [evalPart_none]
  refine wpAny_pure ?_
  have I4 : Inv X pins σ H3 { s3 with heap := s3.heap.push { cls := .type "slice", data := .fields #[vl, vu, .none] } } := I3.kept (t' := s3.toks) fun b ob q => Heap.get?_push_of_some _ q
  obtain ⟨T, id, hT, ht, hg⟩ := hr pins { s3 with heap := s3.heap.push { cls := .type "slice", data := .fields #[vl, vu, .none] } } σ H3 x v vl vu l u s3.heap.objs.size Q I4 r1 (Heap.IsSliceOf.new ..) pl pu q3
  show wpAny (model X.prog X.w) X.A (subscriptTail e (.Slice lo hi none p2) v (.ref s3.heap.objs.size)) (EP X pins σ Q) X.xe { s3 with heap := s3.heap.push { cls := .type "slice", data := .fields #[vl, vu, .none] } }
  exact tail_any (ops := [.ref s3.heap.objs.size, v]) ht hT hg (by with_unfolding_all rfl)

/-- the items of xs[lo:hi] -/
def cutV (xs : List V) (lo hi : Option Int) : List V := (xs.drop (HT.sIx xs.length 0 lo)).take (HT.sIx xs.length xs.length hi - HT.sIx xs.length 0 lo)
theorem cutV_length (xs : List V) (lo hi : Option Int) : (cutV xs lo hi).length ≤ xs.length := by
  unfold cutV
  rw [List.length_take, List.length_drop]
  omega

/-! ### t < u, t + u -/
end
end L2

namespace L2
open PySem PySem.Spec PyProof.Rows

/-! ### places -/
/-- the place that an index of any sign means -/
def ixN (n : Nat) (i : Int) : Option Nat := if 0 ≤ i then (if i < n then some i.toNat else none) else if -(n : Int) ≤ i then some (i + n).toNat else none
def atI {α : Type} (xs : List α) (i : Int) : Option α := (ixN xs.length i).bind fun j => xs[j]?
theorem ixN_seq {n : Nat} {i : Int} {j : Nat} (h : ixN n i = some j) : seqIndex? i n = some j ∧ j < n ∧ -(n : Int) ≤ i ∧ i < n := by
  unfold ixN at h
  by_cases h0 : 0 ≤ i
  · rw [if_pos h0] at h
    by_cases h1 : i < n
    · rw [if_pos h1] at h
      have e : i.toNat = j := Option.some.inj h
      exact ⟨by rw [seqIndex_of h0 h1, e], by omega, by omega, h1⟩
    · rw [if_neg h1] at h; cases h
  · rw [if_neg h0] at h
    by_cases h1 : -(n : Int) ≤ i
    · rw [if_pos h1] at h
      have e : (i + n).toNat = j := Option.some.inj h
      exact ⟨by rw [seqIndex_neg (by omega) h1, e], by omega, h1, by omega⟩
    · rw [if_neg h1] at h; cases h
theorem atI_get {α : Type} {xs : List α} {i : Int} {v : α} (h : atI xs i = some v) : ∃ j, seqIndex? i xs.length = some j ∧ xs[j]? = some v ∧ j < xs.length ∧ -(xs.length : Int) ≤ i ∧ i < xs.length := by
  unfold atI at h
  cases e : ixN xs.length i with
  | none => rw [e] at h; cases h
  | some j =>
    rw [e] at h
    obtain ⟨h1, h2, h3, h4⟩ := ixN_seq e
    exact ⟨j, h1, h, h2, h3, h4⟩
theorem atI_nat {α : Type} {xs : List α} {j : Nat} {v : α} (h : xs[j]? = some v) : atI xs (j : Int) = some v := by
  have hj : j < xs.length := (List.getElem?_eq_some_iff.mp h).1
  have e : ixN xs.length (j : Int) = some j := by
    unfold ixN
    rw [if_pos (by omega), if_pos (by omega)]; simp
  unfold atI; rw [e]; exact h

/-! ### what may be subscripted -/
/-- what stands as an index of a plain subscript -/
def PlainIx (b : Expr) : Prop := ∀ o i, subscripted b false o i = operate [o, i] (getItem o i)
/-- a subscript by values -/
def IxR (X : Cx) (r : R2) : Prop :=
  ∀ (value slice : Expr) (pins : List (Addr × Obj)) (s : Shared) (σ : St) (H : Hp) (x y : V) (v u : Value) (Q : VK), Inv X pins σ H s → RelV x v → RelV y u → r x y H Q →
    subscripted slice false v u = operate [v, u] (getItem v u) → wpAny (model X.prog X.w) X.A (subscriptTail value slice v u) (EP X pins σ Q) X.xe s
/-- a call of a builtin's method by values: the receiver, the arguments -/
def MtR (X : Cx) (id : String) (r : V → List V → Hp → VK → Prop) : Prop :=
  ∀ (pins : List (Addr × Obj)) (s : Shared) (σ : St) (H : Hp) (x : V) (xs : List V) (v : Value) (us : List Value) (Q : VK), Inv X pins σ H s → RelV x v → Vals xs us → r x xs H Q →
    wpAny (model X.prog X.w) X.A (call (.builtin id) (v :: us)) (EP X pins σ Q) X.xe s
section
variable {X : Cx} {a b : Expr} {ta tb : TE} {pos : Pos}
/-- a[b] -/
theorem pe_ix {r : R2} (hr : IxR X r) (ha : PE X a ta) (hb : PE X b tb) (hs : PlainIx b) : PE X (.Subscript a b pos) (tOp r ta tb) := by
  intro pins s σ H Q I h
  exact Subscript_ (binT ha hb I h fun v u s2 x y H2 I2 rx ry q => hr a b pins s2 σ H2 x y v u Q I2 rx ry q (hs _ _))

def rIxL (K : PySem.W.Frag) : R2 := fun x y H Q => ∃ p xs i v, x = .ref p ∧ y = .int i ∧ SqL K H p xs ∧ atI xs i = some v ∧ Q v H
def rIxT (K : PySem.W.Frag) : R2 := fun x y H Q => ∃ p xs i v, x = .ref p ∧ y = .int i ∧ SqT K H p xs ∧ atI xs i = some v ∧ Q v H
theorem ix_list : IxR X (rIxL X.K) := by
  intro value slice pins s σ H x y v u Q I rx ry h hs
  obtain ⟨p, xs, i, z, rfl, rfl, hq, he, q⟩ := h
  cases rx
  obtain ⟨t, rfl⟩ := ry
  obtain ⟨its, r, pl, hz⟩ := I.list hq
  obtain ⟨j, h1, h2, h3, h4, h5⟩ := atI_get he
  obtain ⟨w, ew, rw'⟩ := r.get h2
  have hl := r.length
  have hn := line63
  have fin : EP X pins σ Q w s := ⟨z, H, I, rw', q⟩
  by_cases h0 : 0 ≤ i
  · have hj : i.toNat = j := by
      rw [seqIndex_of h0 h5] at h1
      exact Option.some.inj h1
    exact item_listR pl.isList h0 (by omega) (by rw [hj]; simpa using ew) fin hs
  · have hj : (i + (its.toArray.size : Int)).toNat = j := by
      rw [seqIndex_neg (by omega) h4] at h1
      rw [List.size_toArray, ← hl]
      exact Option.some.inj h1
    exact subscriptTail_builtinR (x := w) pl.isList.typeIs slot_list_getitem.lookup
      (wpAny_getItem_list_neg (Q := fun r s' => r = w ∧ EP X pins σ Q r s') pl.isList (by omega) (by rw [List.size_toArray] <;> omega) (by omega) (by rw [hj]; simpa using ew) ⟨rfl, fin⟩) hs
theorem ix_tup : IxR X (rIxT X.K) := by
  intro value slice pins s σ H x y v u Q I rx ry h hs
  obtain ⟨p, xs, i, z, rfl, rfl, hq, he, q⟩ := h
  cases rx
  obtain ⟨t, rfl⟩ := ry
  obtain ⟨its, r, pl, hz⟩ := I.tuple hq
  obtain ⟨j, h1, h2, h3, h4, h5⟩ := atI_get he
  obtain ⟨w, ew, rw'⟩ := r.get h2
  have hl := r.length
  have hn := line63
  have fin : EP X pins σ Q w s := ⟨z, H, I, rw', q⟩
  exact subscriptTail_builtinR (x := w) pl.typeIs slot_tuple_getitem.lookup
    (getItem_tuple (j := j) (Q := fun r s' => r = w ∧ EP X pins σ Q r s') pl (by omega) (by omega) (by rw [List.size_toArray, ← hl]; exact h1) (by simpa using ew) ⟨rfl, fin⟩) hs

/-! ### xs[i] = v, any sign -/
/-- the list's object behind a store -/
theorem mapSeq_set (its : List Value) (n j : Nat) (u : Value) : Obj.mapSeq (·.setIfInBounds j u) { cls := .type "list", data := .seq its.toArray n } = { cls := .type "list", data := .seq (its.set j u).toArray n } := by
  simp [Obj.mapSeq]
theorem Inv.lst {pins : List (Addr × Obj)} {σ : St} {H : Hp} {s : Shared} {p : Addr} {xs : List V} (I : Inv X pins σ H s) (h : H p = some (.lst xs)) :
    ∃ (its : List Value) (n : Nat), Vals xs its ∧ s.heap.get? p = some { cls := .type "list", data := .seq its.toArray n } ∧ xs.length ≤ sizeLine := by
  obtain ⟨z, its, n, r, e⟩ := I.hok p _ h
  exact ⟨its, n, r, e, z⟩
/-- the list at p is written by an update of its object -/
theorem Inv.lstUpd {pins : List (Addr × Obj)} {σ : St} {H : Hp} {s : Shared} {p : Addr} {xs ys : List V} {its its' : List Value} {n n' : Nat} {f : Obj → Obj} (I : Inv X pins σ H s) (h : H p = some (.lst xs))
    (ho : s.heap.get? p = some { cls := .type "list", data := .seq its.toArray n }) (hf : f { cls := .type "list", data := .seq its.toArray n } = { cls := .type "list", data := .seq its'.toArray n' }) (r : Vals ys its') (hz : ys.length ≤ sizeLine) (t : Nat) :
    Inv X pins σ (upd H p (.lst ys)) { s with heap := s.heap.update p f, toks := t } := by
  have e : (s.heap.update p f).get? p = some { cls := .type "list", data := .seq its'.toArray n' } := by
    rw [Heap.get?_update_self f ho (by rw [hf] <;> rfl), hf]
  refine I.write (x := p) (e := p) (by rw [h]; trivial) (.inl rfl) (fun b u hb q => (Heap.get?_update_other _ _ (Ne.symm hb)).trans q) ⟨_, e⟩ ?_
  exact ⟨hz, its', n', r, e⟩
def rSetL : V → V → V → Hp → (Hp → Prop) → Prop := fun o i v H Q => ∃ p xs k j, o = .ref p ∧ i = .int k ∧ H p = some (.lst xs) ∧ ixN xs.length k = some j ∧ Q (upd H p (.lst (xs.set j v)))
theorem set_list : PSet X rSetL := by
  intro pins s σ H o i v ov iv u Q I ro ri rv h
  obtain ⟨p, xs, k, j, rfl, rfl, hp, hj, q⟩ := h
  cases ro
  obtain ⟨t, rfl⟩ := ri
  obtain ⟨its, n, r, ho, hz⟩ := I.lst hp
  obtain ⟨h1, h2, h3, h4⟩ := ixN_seq hj
  have hl := r.length
  have hn := line63
  have I' : Inv X pins σ (upd H p (.lst (xs.set j v))) { s with heap := s.heap.update p (Obj.mapSeq (·.setIfInBounds j u)) } :=
    I.lstUpd hp ho (mapSeq_set its n j u) (r.set rv j) (by rw [List.length_set]; exact hz) s.toks
  by_cases h0 : 0 ≤ k
  · have hk : k.toNat = j := by
      rw [seqIndex_of h0 h4] at h1
      exact Option.some.inj h1
    exact PySem.W.ki_setAt ho h0 (by omega) (by rw [List.size_toArray, ← hl]; exact h4) (by rw [hk]; exact ⟨_, I', q⟩)
  · have hk : (k + (its.toArray.size : Int)).toNat = j := by
      rw [seqIndex_neg (by omega) h3] at h1
      rw [List.size_toArray, ← hl]
      exact Option.some.inj h1
    exact PySem.W.ki_setBack ho (by omega) (by rw [List.size_toArray, ← hl]; exact h3) (by omega) (by rw [hk]; exact ⟨_, I', q⟩)

/-! ### slices -/
theorem slice_bounds (lo hi : Option Int) (n : Nat) : (sliceBounds lo hi none n).1 = ((HT.sIx n 0 lo : Nat) : Int) ∧ (sliceBounds lo hi none n).2.1 = ((HT.sIx n n hi : Nat) : Int) ∧ (sliceBounds lo hi none n).2.2 = 1 := by
  refine ⟨?_, ?_, rfl⟩
  · cases lo with
    | none => simp [sliceBounds, HT.sIx]
    | some i =>
      simp only [sliceBounds, HT.sIx, Option.getD_none, show (1 : Int) > 0 by decide, if_true]
      by_cases h : i < 0
      · simp only [h, if_true] <;> omega
      · simp only [h, if_false] <;> omega
  · cases hi with
    | none => simp [sliceBounds, HT.sIx]
    | some i =>
      simp only [sliceBounds, HT.sIx, Option.getD_none, show (1 : Int) > 0 by decide, if_true]
      by_cases h : i < 0
      · simp only [h, if_true] <;> omega
      · simp only [h, if_false] <;> omega
theorem slicePick_cut (its : List Value) (lo hi : Option Int) : slicePick its.toArray lo hi none = ((its.drop (HT.sIx its.length 0 lo)).take (HT.sIx its.length its.length hi - HT.sIx its.length 0 lo)).toArray := by
  obtain ⟨h1, h2, h3⟩ := slice_bounds lo hi its.toArray.size
  unfold slicePick
  rw [h1, h2, h3]
  simp only [sliceRange_one, pick_run, List.size_toArray] <;> rfl
/-- xs[lo:hi] of a list: a new list -/
def rSlL (K : PySem.W.Frag) : V → Option Int → Option Int → Hp → VK → Prop := fun x lo hi H Q => ∃ a xs, x = .ref a ∧ SqL K H a xs ∧ ∀ p, H p = none → Q (.ref p) (upd H p (.lst (cutV xs lo hi)))
theorem sl_list : SlR X (rSlL X.K) := by
  intro pins s σ H x v vl vu lo hi sl Q I rx hs pl pu h
  obtain ⟨a, xs, rfl, hx, q⟩ := h
  cases rx
  obtain ⟨its, r, ht, hz⟩ := I.list hx
  have hlen := r.length
  refine ⟨"list", _, slot_list_getitem.lookup, ht.isList.typeIs, ?_⟩
  refine wpAny_getItem_list_slice ht.isList hs pl pu .none (by simp) ?_ (by rw [List.size_toArray] <;> omega)
  rw [slicePick_cut, ← hlen]
  refine ⟨.ref s.heap.objs.size, _, I.laid (t' := s.toks) (o := .lst (cutV xs lo hi)) (fun b ob q => Heap.get?_push_of_some _ q) (Nat.le_refl _) ?_, rfl, q _ (I.hok.fresh (Nat.le_refl _))⟩
  exact ⟨Nat.le_trans (cutV_length xs lo hi) hz, _, 0, (r.drop (HT.sIx xs.length 0 lo)).take (HT.sIx xs.length xs.length hi - HT.sIx xs.length 0 lo), Heap.get?_push_size _ rfl⟩

/-! ### in, not in: flat items -/

/-! ### len, list(x), tuple(x) of any list or tuple that is read -/
theorem call_len_seq : CallR X (.builtin "len") (fun xs H Q => ∃ p ys, xs = [.ref p] ∧ (SqL X.K H p ys ∨ SqT X.K H p ys) ∧ Q (.int ys.length) H) := by
  intro pins s σ H xs us Q I r h
  obtain ⟨p, ys, rfl, hq, q⟩ := h
  obtain ⟨u, rfl, rx⟩ := vals1 r
  cases rx
  have hn := line63
  rcases hq with hq | hq
  · obtain ⟨its, r', pl, hz⟩ := I.list hq
    have hlen := r'.length
    exact Calls.call_len_list pl.isList (by simp only [List.size_toArray] <;> omega) ⟨.int ys.length, H, I.tok _, ⟨s.toks + 1, by rw [List.size_toArray, hlen]⟩, q⟩
  · obtain ⟨its, r', pl, hz⟩ := I.tuple hq
    have hlen := r'.length
    exact len_tuple pl (by simp only [List.size_toArray] <;> omega) ⟨.int ys.length, H, I.tok _, ⟨s.toks + 1, by rw [List.size_toArray, hlen]⟩, q⟩

/-! ### the call of a builtin's method: o.m(..) -/
/-- the value is of that builtin type -/
def tyV (K : PySem.W.Frag) (T : String) (x : V) (H : Hp) : Prop := match x with
  | .str _ => T = "str"
  | .int _ => T = "int"
  | .ref p => (T = "list" ∧ ∃ xs, SqL K H p xs) ∨ (T = "tuple" ∧ ∃ o, K.lookup p = some o ∧ o.cls = .type "tuple" ∧ o.dict = none) ∨
      (T = "dict" ∧ ((∃ kvs, H p = some (.dK kvs)) ∨ ∃ kvs, H p = some (.dT kvs))) ∨ (T = "set" ∧ ∃ S n, H p = some (.set S n))
  | _ => False
theorem tyV_is {pins : List (Addr × Obj)} {σ : St} {H : Hp} {s : Shared} {T : String} {x : V} {v : Value} (I : Inv X pins σ H s) (r : RelV x v) (ty : tyV X.K T x H) :
    s.TypeIs v T ∧ ∀ a, v = .ref a → ∃ ob, s.heap.get? a = some ob ∧ ob.dict = none := by
  cases x with
  | str z =>
    obtain ⟨t, rfl⟩ := r
    cases (show T = "str" from ty)
    exact ⟨typeIs_str s z t, fun _ e => nomatch e⟩
  | int i =>
    obtain ⟨t, rfl⟩ := r
    cases (show T = "int" from ty)
    exact ⟨typeIs_int s i t, fun _ e => nomatch e⟩
  | ref p =>
    cases r
    rcases ty with ⟨rfl, xs, hq⟩ | ⟨rfl, o, hk, hc, hd⟩ | ⟨rfl, hk⟩ | ⟨rfl, S, n, hk⟩
    · obtain ⟨its, _, pl, _⟩ := I.list hq
      refine ⟨pl.isList.typeIs, fun a e => ?_⟩
      cases e
      obtain ⟨o, n, e, c, hd, _⟩ := pl
      exact ⟨o, e, hd⟩
    · refine ⟨⟨o, I.kIn p o hk, hc⟩, fun a e => ?_⟩
      cases e
      exact ⟨o, I.kIn _ o hk, hd⟩
    · have z : ∃ o, s.heap.get? p = some o ∧ o.ExactDict := by
        rcases hk with ⟨kvs, hk⟩ | ⟨kvs, hk⟩
        · obtain ⟨_, _, _, _, o, _, _, e, ex, _⟩ := I.hok p _ hk
          exact ⟨o, e, ex⟩
        · obtain ⟨_, _, _, _, o, _, _, e, ex, _⟩ := I.hok p _ hk
          exact ⟨o, e, ex⟩
      obtain ⟨o, e, ex⟩ := z
      refine ⟨⟨o, e, ex.1⟩, fun a e2 => ?_⟩
      cases e2
      exact ⟨o, e, ex.2.1⟩
    · obtain ⟨o, _, _, _, e, ex, _⟩ := I.hok p _ hk
      refine ⟨⟨o, e, ex.1⟩, fun a e2 => ?_⟩
      cases e2
      exact ⟨o, e, ex.2.1⟩
  | _ => exact False.elim ty
def tBM (K : PySem.W.Frag) (T : String) (r : V → List V → Hp → VK → Prop) (to : TE) (t : TA) : TE := fun σ H Q => to σ H fun x H1 => tyV K T x H1 ∧ t σ H1 fun xs H2 => r x xs H2 Q
variable {o e : Expr} {es : List Expr} {to : TE} {t : TA} {name : Str} {apos cpos : Pos} {T id : String} {r : V → List V → Hp → VK → Prop}
theorem pe_bm (pa : PlainAttrs T) (slot : Slot T name id) (hty : typeOf (.builtin id) = pure (.type "method_descriptor")) (hm : MtR X id r) (ho : PE X o to) (ha : PA X (e :: es) t)
    (hbase : attributeBase o name X.env (eval o X.env) = eval o X.env := by rfl)
    (hfew : ((backTo cpos (starEach (e :: es) X.env)).all (fun x => !x.1) && (backToKw cpos (keywordEach [] X.env)).all (fun x => x.1.isSome)
      && decide ((e :: es).length + ([] : List Keyword).length + (if ([] : List Keyword).isEmpty then 0 else 1) < 30)) = true := by rfl)
    (hline : (apos.endLine == cpos.line) = true := by rfl) (hs : starEach (e :: es) X.env = (false, eval e X.env) :: starEach es X.env := by rfl) (hplain : (backTo cpos (starEach es X.env)).any (·.1) = false := by rfl) :
    PE X (.Call (.Attribute o name apos) (e :: es) [] cpos) (tBM X.K T r to t) := by
  intro pins s σ H Q I h
  refine wpAny_Call_method_late hbase hfew hline rfl (thn (ho pins s σ H _ I h) fun v s1 ⟨x, H1, I1, r1, ty, q1⟩ => ?_)
  obtain ⟨h1, h2⟩ := tyV_is I1 r1 ty
  refine ⟨T, id, pa, slot, hty, h1, h2, ?_⟩
  have hA := ha cpos pins s1 σ H1 _ I1 q1
  rw [hs] at hA ⊢
  refine Calls.callWith_builtin (by show (false || (backTo cpos (starEach es X.env)).any (·.1)) = false; rw [hplain] <;> rfl) (Calls.evalArgs_plain ?_)
  exact thn hA fun us s2 ⟨vs, H2, I2, r2, q2⟩ => hm pins s2 σ H2 x vs v us Q I2 r1 r2 q2
/- xs.append(e), list.index on a module's tuple .. are MtR facts of 06m -/
end
end L2

namespace L2
open PySem PySem.Spec PyProof.Rows

def MtM (X : Cx) (id : String) (r : V → List V → Hp → VK → Prop) : Prop :=
  ∀ (pins : List (Addr × Obj)) (s : Shared) (σ : St) (H : Hp) (x : V) (xs : List V) (v : Value) (us : List Value) (Q : VK), Inv X pins σ H s → RelV x v → Vals xs us → r x xs H Q →
    wpAny (model X.prog X.w) X.A (call (.builtin id) (v :: us)) (EP X pins σ Q) X.xe s

/-! ### lists of values -/
theorem Vals.one : ∀ {x : V} {us : List Value}, Vals [x] us → ∃ u, us = [u] ∧ RelV x u
  | _, _, .cons r .nil => ⟨_, rfl, r⟩

section
variable {X : Cx} {pins : List (Addr × Obj)} {σ : St} {H : Hp} {s : Shared} {l b : Addr} {xs ys zs : List V}

/-! ### the two steps: a tracked list is rewritten, a new list is laid -/
theorem Inv.lset {its its' : List Value} {n : Nat} {f : Array Value → Array Value} {t' : Nat} (I : Inv X pins σ H s) (hH : H l = some (.lst xs))
    (e : s.heap.get? l = some { cls := .type "list", data := .seq its.toArray n }) (hf : f its.toArray = its'.toArray) (hv : Vals ys its') (hz : ys.length ≤ sizeLine) :
    Inv X pins σ (upd H l (.lst ys)) { s with heap := s.heap.update l (Obj.mapSeq f), toks := t' } := by
  have q := PySem.IsL.update e f
  rw [hf] at q
  refine I.write (x := l) (e := l) (by rw [hH]; exact trivial) (.inl rfl) (fun b' u hb hu => (Heap.get?_update_other s.heap (Obj.mapSeq f) (Ne.symm hb)).trans hu) ⟨_, q⟩ ?_
  exact ⟨hz, its', _, hv, q⟩
theorem Inv.lnew {its : List Value} {t' : Nat} (I : Inv X pins σ H s) (hv : Vals ys its) (hz : ys.length ≤ sizeLine) :
    Inv X pins σ (upd H s.heap.objs.size (.lst ys)) { s with heap := s.heap.push { cls := .type "list", data := .seq its.toArray }, toks := t' } :=
  I.laid (fun _ _ q => Heap.get?_push_of_some _ q) (Nat.le_refl _) ⟨hz, its, 0, hv, Heap.get?_push_size _ rfl⟩
theorem Inv.fresh (I : Inv X pins σ H s) : H s.heap.objs.size = none := I.hok.fresh (Nat.le_refl _)
theorem Inv.lstM (I : Inv X pins σ H s) (hH : H l = some (.lst xs)) : xs.length ≤ sizeLine ∧ ∃ (its : List Value) (n : Nat), Vals xs its ∧ xs.length = its.length ∧ s.heap.get? l = some { cls := .type "list", data := .seq its.toArray n } := by
  obtain ⟨z, its, n, r, e⟩ := I.hok l _ hH
  exact ⟨z, its, n, r, r.length, e⟩

theorem notLongL {n : Nat} (h : n ≤ sizeLine) : Builtin.List.listTooLong n = false := by
  unfold Builtin.List.listTooLong
  exact decide_eq_false (by omega)
end

section
variable {X : Cx}

/-! ### methods -/
def rAppend : V → List V → Hp → VK → Prop := fun x vs H Q => ∃ l xs y, x = .ref l ∧ vs = [y] ∧ H l = some (.lst xs) ∧ xs.length < sizeLine ∧ Q .non (upd H l (.lst (xs ++ [y])))
theorem mt_append : MtM X "list.append" rAppend := by
  intro pins s σ H x vs v us Q I rx rv h
  obtain ⟨l, xs, y, rfl, rfl, hH, hz, q⟩ := h
  cases rx
  obtain ⟨u, rfl, ru⟩ := rv.one
  obtain ⟨z, its, n, r, hl, e⟩ := I.lstM hH
  refine call_meets F.slot_list_append ⟨_, e, rfl⟩ F.entry_list_append (F.args_list_append_2 _ _) (PySem.list_append l its.toArray n u (by rw [List.size_toArray]; omega)) ⟨e, ?_⟩
  refine ⟨.non, _, I.lset (its' := its ++ [u]) hH e (by simp) (r.append (.cons ru .nil)) ?_, rfl, q⟩
  rw [List.length_append, List.length_singleton]
  omega

def rExtend : V → List V → Hp → VK → Prop := fun x vs H Q => ∃ l b xs zs, x = .ref l ∧ vs = [.ref b] ∧ H l = some (.lst xs) ∧ H b = some (.lst zs) ∧ xs.length + zs.length ≤ sizeLine ∧ Q .non (upd H l (.lst (xs ++ zs)))
theorem mt_extend : MtM X "list.extend" rExtend := by
  intro pins s σ H x vs v us Q I rx rv h
  obtain ⟨l, b, xs, zs, rfl, rfl, hH, hB, hz, q⟩ := h
  cases rx
  obtain ⟨u, rfl, ru⟩ := rv.one
  cases ru
  obtain ⟨z, its, n, r, hl, e⟩ := I.lstM hH
  obtain ⟨z2, its2, n2, r2, hl2, e2⟩ := I.lstM hB
  have hsz : its.toArray.size + its2.toArray.size ≤ sizeLine := by rw [List.size_toArray, List.size_toArray]; omega
  have hlong : ¬ (!its.toArray.isEmpty && Builtin.List.listTooLong (its.toArray.size + its2.toArray.size)) = true := by
    rw [notLongL hsz, Bool.and_false]
    exact Bool.false_ne_true
  refine call_meets F.slot_list_extend ⟨_, e, rfl⟩ F.entry_list_extend (F.args_list_extend_2 _ _)
    (AutoSeq1.list_extend_list_list_0 l its.toArray n b its2.toArray n2 hlong (by rw [List.size_toArray]; omega) (by omega)) ⟨e, e2, ?_⟩
  refine ⟨.non, _, I.lset (its' := its ++ its2) hH e (by simp) (r.append r2) ?_, rfl, q⟩
  rw [List.length_append]
  omega





/-! ### list + list, list += list, list * int -/
def rCat : R2 := fun x y H Q => ∃ l b xs zs, x = .ref l ∧ y = .ref b ∧ H l = some (.lst xs) ∧ H b = some (.lst zs) ∧ xs.length + zs.length ≤ sizeLine ∧ ∀ p, H p = none → Q (.ref p) (upd H p (.lst (xs ++ zs)))
theorem op_cat : OpR X (binaryOp .Add) rCat := by
  intro pins s σ H x y v u Q I rx ry h
  obtain ⟨l, b, xs, zs, rfl, rfl, hH, hB, hz, q⟩ := h
  cases rx
  cases ry
  obtain ⟨z, its, n, r, hl, e⟩ := I.lstM hH
  obtain ⟨z2, its2, n2, r2, hl2, e2⟩ := I.lstM hB
  refine PySem.P.add_list e e2 ?_ (by rw [List.size_toArray, List.size_toArray]; omega)
  have ea : its.toArray ++ its2.toArray = (its ++ its2).toArray := by simp
  rw [ea]
  exact ⟨.ref _, _, I.lnew (t' := s.toks) (r.append r2) (by rw [List.length_append]; omega), rfl, q _ I.fresh⟩

/-! ### del xs[i] -/
end

/-! ### xs[a:b] = ys -/
section
variable {prog : Program} {w : World} {A : Around} {E : Value → Shared → Prop} {s : Shared}
set_option maxRecDepth 100000 in
end

section
variable {X : Cx}
end
end L2

namespace L2
open PySem PySem.Spec PyProof.Rows

theorem Vals.ints : ∀ {ns : List Int} {us : List Value}, Vals (ns.map V.int) us → IntsAre us ns
  | [], us, h => by
    rw [List.map_nil] at h
    cases h
    exact IntsAre.nil
  | n :: ns, us, h => by
    rw [List.map_cons] at h
    cases h with
    | cons r t =>
      obtain ⟨k, rfl⟩ := r
      exact IntsAre.cons n k (Vals.ints t)
theorem vals_of_ints : ∀ {us : List Value} {ns : List Int}, IntsAre us ns → Vals (ns.map V.int) us
  | _, _, .nil => by rw [List.map_nil]; exact Paired.nil
  | _, _, .cons n t h => by rw [List.map_cons]; exact Paired.cons (show RelV (V.int n) (Value.int n t) from ⟨t, rfl⟩) (vals_of_ints h)
theorem Vals.bls : ∀ {bs : List Bool} {us : List Value}, Vals (bs.map V.bl) us → us = bs.map Value.bool
  | [], us, h => by
    rw [List.map_nil] at h
    cases h
    rfl
  | b :: bs, us, h => by
    rw [List.map_cons] at h
    cases h with
    | cons r t =>
      cases r
      rw [Vals.bls t, List.map_cons]
theorem Vals.ref1 {a : Addr} {us : List Value} (r : Vals [V.ref a] us) : us = [Value.ref a] := by
  cases r with
  | cons r t =>
    cases t
    cases r
    rfl

/-! ### the library's walks over a list of ints, kept objects alone -/
section
variable {prog : Program} {w : World} {A : Around} {E : Value → Shared → Prop} {s : Shared} {l : Addr} {its : List Value} {ns : List Int} {Q : Value → Shared → Prop}
theorem sum_raw (hh : A.handled = none) (hl : s.heap.IsList l its.toArray) (hi : IntsAre its ns)
    (h : ∀ h' tk t', (∀ b o, s.heap.get? b = some o → h'.get? b = some o) → Q (.int ns.sum t') { s with heap := h', toks := tk }) : wpAny (model prog w) A (call (.builtin "sum") [.ref l]) Q E s := by
  obtain ⟨xs, e⟩ := hi.allInts.items
  have hn : numsOf (intItems xs).toList = ns := by rw [← e]; exact hi.numsOf
  rw [nums_intItems] at hn
  rw [e] at hl
  refine PySem.sum_intListG hh hl fun h' tk t' hk => ?_
  have := h h' tk t' hk
  rw [preSum_eq, List.take_of_length_le (by simp), hn]; exact this
end

/-! ### the calls, by values (CallR of 03t; MtR of 06l) -/
section
variable {X : Cx}
/-- sum(xs) of a list of ints -/
def rSum (K : PySem.W.Frag) : List V → Hp → VK → Prop := fun vs H Q => ∃ (a : Addr) (ns : List Int), vs = [V.ref a] ∧ SqL K H a (ns.map V.int) ∧ Q (.int ns.sum) H
theorem cr_sum (hc : X.calm = true) : CallR X (.builtin "sum") (rSum X.K) := by
  intro pins s σ H vs us Q I r h
  obtain ⟨a, ns, rfl, hs, q⟩ := h
  obtain ⟨its, rv, hl, _⟩ := I.list hs
  rw [Vals.ref1 r]
  exact sum_raw (I.ok.hd hc) hl.isList rv.ints fun h' tk t' hk => ⟨.int _, H, I.kept hk, ⟨_, rfl⟩, q⟩

/-! sorted, sort (fewer than 64 items: the library's own bound) -/
end

/-! ### list.index, flat items -/
section
variable {X : Cx}
end

/-! ### type(x) of an own instance; is, is not of a module's class -/
section
variable {X : Cx}
end

/-! ### any(xs), all(xs) of a list of bools -/
theorem iter_any {prog : Program} {w : World} {A : Around} {E : Value → Shared → Prop} {s : Shared} {l : Addr} {items : Array Value} {Q : Value → Shared → Prop} (hl : s.heap.IsList l items)
    (h : ∀ s₂ : Shared, s₂ = { s with heap := s.heap.push { cls := .type "list_iterator", data := .fields #[.ref l, .int 0 0] } } →
      (s₂.heap.IsListIter s.heap.objs.size l 0 ∧ s₂.heap.IsList l items) → l ≠ s.heap.objs.size → Q (.ref s.heap.objs.size) s₂) : wpAny (model prog w) A (pyIter (.ref l)) Q E s := by
  have hlt : l < s.heap.objs.size := by obtain ⟨_, e, _⟩ := hl; exact Heap.lt_size e
  exact wpAny_pyIter_list hl (h _ rfl ⟨⟨_, Heap.get?_push_size _ rfl, rfl, rfl⟩, hl.push _⟩ (Nat.ne_of_lt hlt))
theorem truth_bools {prog : Program} {w : World} {A : Around} {bs : List Bool} {its : List Value} (e : its = bs.map Value.bool) :
    TruthOf prog w A (fun i v => its.toArray[i]? = some v) (fun i => bs.getD i false) := fun i v s Q E hv hq => by
  have hv' : its[i]? = some v := by simpa using hv
  rw [e, List.getElem?_map] at hv'
  obtain ⟨b, hb, rfl⟩ := Option.map_eq_some_iff.mp hv'
  have hg : bs.getD i false = b := by rw [List.getD_eq_getElem?_getD, hb] <;> rfl
  have hq' : Q (bs.getD i false) s := hq
  rw [hg] at hq'
  exact wpAny_truthy_bool hq'
theorem all_range : ∀ bs : List Bool, (List.range bs.length).all (fun i => bs.getD i false) = bs.all id
  | [] => rfl
  | b :: bs => by
    rw [List.length_cons, List.range_succ_eq_map, List.all_cons, List.all_map, List.all_cons, ← all_range bs]
    all_goals rfl
section
variable {X : Cx}
def rAll (K : PySem.W.Frag) : List V → Hp → VK → Prop := fun vs H Q => ∃ (a : Addr) (bs : List Bool), vs = [V.ref a] ∧ SqL K H a (bs.map V.bl) ∧ Q (.bl (bs.all id)) H
theorem cr_all (hc : X.calm = true) : CallR X (.builtin "all") (rAll X.K) := by
  intro pins s σ H vs us Q I r h
  obtain ⟨a, bs, rfl, hs, q⟩ := h
  obtain ⟨its, rv, hl, _⟩ := I.list hs
  rw [Vals.ref1 r]
  have hb := rv.bls
  refine call_all_walk (iter_any hl.isList fun s₂ e2 st hne => ?_)
  subst e2
  refine ⟨_, _, _, _, _, _, _, rfl, Walks.list (A := X.A.in1) (I.ok.hd hc) _ a hne its.toArray, st, truth_bools hb, fun h' tk hk => ?_⟩
  refine ⟨.bl _, H, I.kept fun b o eo => hk b o (fun hmem => ?_) (Heap.get?_push_of_some _ eo), ?_, q⟩
  · rcases List.mem_cons.mp hmem with e1 | hmem
    · exact absurd (e1 ▸ Heap.lt_size eo) (Nat.lt_irrefl _)
    · cases hmem
  · show Value.bool _ = Value.bool _
    rw [← all_range, hb, List.size_toArray, List.length_map]
end

/-! ### == and != of data at any depth: none, bools, ints, texts, lists, tuples -/
section
variable {X : Cx} {pins : List (Addr × Obj)} {σ : St} {H : Hp} {s : Shared}
end
section
variable {X : Cx}
end
end L2

namespace L2
open PySem PySem.Spec PyProof.Rows
abbrev CellAt (h : Heap) (c : Addr) (v : Option Value) : Prop := h.IsCell c v
def relS (scope sc : Scope) : Scope :=
  { scope with names := scope.names.map fun (n, k) => if (k == .free && sc.kind == .function && sc.names.lookup n == some .cell) then (n, .cell) else (n, k) }

def cloFrom (cells : List (Str × Addr)) : List (Str × NameKind) → List (Str × Addr) → List (Str × Addr)
  | [], acc => acc
  | (n, k) :: r, acc => if k == .free then cloFrom cells r ((n, (cells.lookup n).getD 0) :: acc) else cloFrom cells r acc

theorem closure_loop (env : Env) (f : Str × NameKind → List (Str × Addr) → Sem (ForInStep (List (Str × Addr))))
    (hf : ∀ n k c, f (n, k) c = if k == .free then (do let a ← cellOf env n; pure (.yield ((n, a) :: c))) else pure (.yield c)) :
    ∀ (names : List (Str × NameKind)) (acc : List (Str × Addr)), (∀ y ∈ names, y.2 = .free → ∃ c, env.cells.lookup y.1 = some c) → forIn names acc f = pure (cloFrom env.cells names acc)
  | [], acc, _ => by rw [List.forIn_nil]; rfl
  | (n, k) :: r, acc, h => by
    rw [List.forIn_cons, hf]
    have ih := fun acc => closure_loop env f hf r acc fun y hy => h y (List.mem_cons_of_mem _ hy)
    unfold cloFrom
    by_cases hk : (k == NameKind.free) = true
    · rw [if_pos hk, if_pos hk]
      obtain ⟨c, hc⟩ := h (n, k) List.mem_cons_self (by simpa using hk)
      have e : cellOf env n = pure c := by unfold cellOf; rw [hc]
      rw [e]
      have e2 : (env.cells.lookup n).getD 0 = c := by rw [hc]; rfl
      rw [e2]
      exact ih _
    · rw [if_neg hk, if_neg hk]
      exact ih _
theorem closure_ok {scope : Scope} {env : Env} (h : ∀ y ∈ scope.names, y.2 = .free → ∃ c, env.cells.lookup y.1 = some c) : closureFor scope env = pure (cloFrom env.cells scope.names []) := by
  simp only [closureFor]
  rw [closure_loop env _ (fun n k c => rfl) scope.names [] h]
  rfl

theorem mem_lookup {α : Type} : ∀ {l : List (Str × α)} {n : Str} {c : α}, (n, c) ∈ l → ∃ c', l.lookup n = some c'
  | (k, v) :: r, n, c, h => by
    rw [List.lookup_cons]
    cases hb : n == k with
    | true => exact ⟨_, rfl⟩
    | false =>
      rcases List.mem_cons.mp h with e | h
      · cases e; simp at hb
      · exact mem_lookup h

theorem cloFrom_mem {cells : List (Str × Addr)} : ∀ {names : List (Str × NameKind)} {acc : List (Str × Addr)} {n : Str} {c : Addr}, (n, c) ∈ cloFrom cells names acc → (n, c) ∈ acc ∨ ((n, .free) ∈ names ∧ c = (cells.lookup n).getD 0)
  | [], _, _, _, h => .inl h
  | (m, k) :: r, acc, n, c, h => by
    unfold cloFrom at h
    split at h
    · rename_i hk
      have hk : k = .free := by simpa using hk
      rcases cloFrom_mem h with h | ⟨h1, h2⟩
      · rcases List.mem_cons.mp h with e | h
        · cases e; exact .inr ⟨hk ▸ List.mem_cons_self, rfl⟩
        · exact .inl h
      · exact .inr ⟨List.mem_cons_of_mem _ h1, h2⟩
    · rcases cloFrom_mem h with h | ⟨h1, h2⟩
      · exact .inl h
      · exact .inr ⟨List.mem_cons_of_mem _ h1, h2⟩
theorem cloFrom_acc {cells : List (Str × Addr)} : ∀ {names : List (Str × NameKind)} {acc : List (Str × Addr)} {p : Str × Addr}, p ∈ acc → p ∈ cloFrom cells names acc
  | [], _, _, h => h
  | (m, k) :: r, acc, p, h => by
    unfold cloFrom
    split
    · exact cloFrom_acc (List.mem_cons_of_mem _ h)
    · exact cloFrom_acc h
theorem cloFrom_has {cells : List (Str × Addr)} : ∀ {names : List (Str × NameKind)} {acc : List (Str × Addr)} {n : Str}, (n, .free) ∈ names → (n, (cells.lookup n).getD 0) ∈ cloFrom cells names acc
  | (m, k) :: r, acc, n, h => by
    unfold cloFrom
    rcases List.mem_cons.mp h with e | h
    · cases e
      exact cloFrom_acc List.mem_cons_self
    · split
      · exact cloFrom_has h
      · exact cloFrom_has h

theorem cells_mem : ∀ {names : List (Str × NameKind)} {h : Heap} {acc : List (Str × Addr)} {x : Str} {c : Addr}, (x, c) ∈ cellsFrom h.objs.size names acc →
    (x, c) ∈ acc ∨ ((x, .cell) ∈ names ∧ h.objs.size ≤ c ∧ CellAt (pushCells h names) c none)
  | [], _, _, _, _, h => .inl h
  | (n, k) :: r, h, acc, x, c, hm => by
    unfold cellsFrom at hm
    unfold pushCells
    split at hm
    · rename_i hk
      rw [if_pos hk]
      have hk : k = .cell := by simpa using hk
      rw [← Heap.size_push h { cls := .type "cell", data := .cell none }] at hm
      rcases cells_mem hm with hm | ⟨h1, h2, h3⟩
      · rcases List.mem_cons.mp hm with e | hm
        · cases e
          exact .inr ⟨hk ▸ List.mem_cons_self, Nat.le_refl _, _, pushCells_keeps r _ _ _ (Heap.get?_push_size _ rfl), rfl⟩
        · exact .inl hm
      · rw [Heap.size_push] at h2
        exact .inr ⟨List.mem_cons_of_mem _ h1, Nat.le_of_succ_le h2, h3⟩
    · rename_i hk
      rw [if_neg hk]
      rcases cells_mem hm with hm | ⟨h1, h2, h3⟩
      · exact .inl hm
      · exact .inr ⟨List.mem_cons_of_mem _ h1, h2, h3⟩
theorem cells_acc : ∀ {names : List (Str × NameKind)} {n : Nat} {acc : List (Str × Addr)} {p : Str × Addr}, p ∈ acc → p ∈ cellsFrom n names acc
  | [], _, _, _, h => h
  | (m, k) :: r, n, acc, p, h => by
    unfold cellsFrom
    split
    · exact cells_acc (List.mem_cons_of_mem _ h)
    · exact cells_acc h
theorem cells_has : ∀ {names : List (Str × NameKind)} {n : Nat} {acc : List (Str × Addr)} {x : Str}, (x, .cell) ∈ names → ∃ c, (x, c) ∈ cellsFrom n names acc
  | (m, k) :: r, n, acc, x, h => by
    unfold cellsFrom
    rcases List.mem_cons.mp h with e | h
    · cases e
      exact ⟨n, cells_acc List.mem_cons_self⟩
    · split
      · exact cells_has h
      · exact cells_has h
theorem cells_inj : ∀ {names : List (Str × NameKind)} {h : Heap} {acc : List (Str × Addr)} {x y : Str} {c : Addr}, (∀ p ∈ acc, p.2 < h.objs.size) → (∀ x y c, (x, c) ∈ acc → (y, c) ∈ acc → x = y) →
    (x, c) ∈ cellsFrom h.objs.size names acc → (y, c) ∈ cellsFrom h.objs.size names acc → x = y
  | [], _, _, _, _, _, _, hi, h1, h2 => hi _ _ _ h1 h2
  | (n, k) :: r, h, acc, x, y, c, hl, hi, h1, h2 => by
    unfold cellsFrom at h1 h2
    split at h1
    · rename_i hk
      rw [if_pos hk] at h2
      rw [← Heap.size_push h { cls := .type "cell", data := .cell none }] at h1 h2
      refine cells_inj (h := h.push _) (fun p hp => ?_) (fun x y c a b => ?_) h1 h2
      · rw [Heap.size_push]
        rcases List.mem_cons.mp hp with rfl | hp
        · exact Nat.lt_succ_self _
        · exact Nat.lt_succ_of_lt (hl p hp)
      · rcases List.mem_cons.mp a with e | a <;> rcases List.mem_cons.mp b with e' | b
        · cases e; cases e'; rfl
        · cases e; exact absurd (hl _ b) (Nat.lt_irrefl _)
        · cases e'; exact absurd (hl _ a) (Nat.lt_irrefl _)
        · exact hi _ _ _ a b
    · rename_i hk
      rw [if_neg hk] at h2
      exact cells_inj hl hi h1 h2

theorem newEnv_comp {M : Model} {A : Around} {E : Value → Shared → Prop} {s : Shared} {scope : Scope} {globals : Addr} {closure : List (Str × Addr)} {qual : Str} {func : Option Addr} {code : Value} {around : Env} {builtins : Addr} {Q : Env → Shared → Prop}
    (h : Q (newEnv scope s.heap.objs.size globals (cellsFrom (s.heap.objs.size + 1) scope.names closure) qual func code (some around) builtins)
      { s with heap := pushCells (s.heap.push { cls := .type "dict", data := .dict #[] }) scope.names }) :
    wpAny M A (newFunctionEnv scope globals closure [] qual func code (some around) builtins) Q E s := by
  simp only [newFunctionEnv, Option.isSome_some, if_true]
  refine wpAny_bind (wpAny_alloc ?_)
  refine wpAny_bind (wpAny_layCells _ (fun n k c => rfl) scope.names closure _ _ ?_)
  rw [show ({ s with heap := s.heap.push { cls := .type "dict", data := .dict #[] } } : Shared).heap.objs.size = s.heap.objs.size + 1 from Heap.size_push ..]
  rw [List.forIn_nil]
  exact wpAny_bind (wpAny_pure (wpAny_pure h))

/-- every name of the written scope, in the scope that runs -/
theorem lookup_relS {sc : Scope} : ∀ {names : List (Str × NameKind)} {x : Str} {k : NameKind},
    (names.map fun (n, k) => if (k == NameKind.free && sc.kind == .function && sc.names.lookup n == some .cell) then (n, NameKind.cell) else (n, k)).lookup x = some k →
    ∃ k', names.lookup x = some k' ∧ (k = k' ∨ (k' = .free ∧ k = .cell))
  | [], _, _, h => by simp at h
  | (n, k₀) :: r, x, k, h => by
    have ih := @lookup_relS sc r x k
    have h' : List.lookup x ((if (k₀ == NameKind.free && sc.kind == .function && sc.names.lookup n == some .cell) = true then (n, NameKind.cell) else (n, k₀)) :: (r.map _)) = some k := h
    cases hx : x == n with
    | true =>
      simp only [List.lookup_cons, hx]
      by_cases hc : (k₀ == NameKind.free && sc.kind == .function && sc.names.lookup n == some .cell) = true
      · rw [if_pos hc] at h'
        simp only [List.lookup_cons, hx] at h'
        cases h'
        simp only [Bool.and_eq_true, beq_iff_eq] at hc
        exact ⟨k₀, rfl, .inr ⟨hc.1.1, rfl⟩⟩
      · rw [if_neg hc] at h'
        simp only [List.lookup_cons, hx] at h'
        cases h'
        exact ⟨_, rfl, .inl rfl⟩
    | false =>
      simp only [List.lookup_cons, hx]
      by_cases hc : (k₀ == NameKind.free && sc.kind == .function && sc.names.lookup n == some .cell) = true
      · rw [if_pos hc] at h'
        simp only [List.lookup_cons, hx] at h'
        exact ih h'
      · rw [if_neg hc] at h'
        simp only [List.lookup_cons, hx] at h'
        exact ih h'



/-- the names of a comprehension's block: its own (with their places in N), or captured -/
structure BlkOk (N : List Str) (sc scope : Scope) (own : List (Str × Nat)) : Prop where
  kind : scope.kind = .function
  uniq : ∀ y ∈ scope.names, scope.names.lookup y.1 = some y.2
  ix : ∀ p ∈ own, N[p.2]? = some p.1
  free : ∀ y ∈ scope.names, y.2 = .free → sc.names.lookup y.1 = some .cell ∨ sc.names.lookup y.1 = some .free
  own : ∀ y ∈ scope.names, y.2 = .local ∨ y.2 = .cell → y.1 ∈ own.map (·.1) ∨ y.1 ∉ N
/-- the slots of the block's own names forgotten -/
def wipe (σ : St) : List Nat → St
  | [] => σ
  | v :: vs => (wipe σ vs).set v none
theorem wipe_length (σ : St) : ∀ vs : List Nat, (wipe σ vs).length = σ.length
  | [] => rfl
  | v :: vs => by unfold wipe; rw [List.length_set, wipe_length σ vs]
theorem wipe_some {σ : St} {i : Nat} {x : V} : ∀ {vs : List Nat}, (wipe σ vs)[i]? = some (some x) → σ[i]? = some (some x) ∧ i ∉ vs
  | [], h => ⟨h, by simp⟩
  | v :: vs, h => by
    unfold wipe at h
    by_cases hi : v = i
    · subst hi
      by_cases hv : v < (wipe σ vs).length
      · rw [List.getElem?_set_self hv] at h; cases h
      · rw [List.getElem?_eq_none (by simpa using hv)] at h; cases h
    · rw [List.getElem?_set_ne hi] at h
      obtain ⟨h1, h2⟩ := wipe_some h
      exact ⟨h1, by simp only [List.mem_cons, not_or]; exact ⟨fun e => hi e.symm, h2⟩⟩

/-- the context of a block that starts at s, its iterator's objects at fp -/
abbrev Cx.blk (X : Cx) (s : Shared) (H : Hp) (scope : Scope) (cenv : Env) (fp : List Addr) : Cx := { X with s_0 := s, H_0 := H, env := cenv, outer := X.stack, ex := fp, fn := fun x => scope.names.lookup x == some .cell, pn := [], xe := fun _ _ => False }
section
variable {X : Cx} {pins : List (Addr × Obj)} {σ : St} {H : Hp} {s : Shared}
theorem block_start {scope : Scope} {own : List (Str × Nat)} {fp : List Addr} (I : Inv X pins σ H s) (ok : BlkOk X.N X.env.scope scope own) (hN : X.N.Nodup) (hfp : ∀ b ∈ fp, FpOk X pins H b ∧ b < s.heap.objs.size) :
    Inv (X.blk s H scope (compEnvC scope (cellsFrom (s.heap.objs.size + 1) scope.names (cloFrom X.env.cells scope.names [])) s.heap.objs.size X.env) fp) [] (wipe σ (own.map (·.2))) H { s with heap := pushCells (s.heap.push { cls := .type "dict", data := .dict #[] }) scope.names } := by
  have hfree : ∀ y ∈ scope.names, y.2 = .free → ∃ c, X.env.cells.lookup y.1 = some c := fun y hy e => by
    rcases ok.free y hy e with k | k
    · exact I.ok.has _ (.inl k)
    · exact I.ok.has _ (.inr k)
  generalize hcenv : compEnvC scope (cellsFrom (s.heap.objs.size + 1) scope.names (cloFrom X.env.cells scope.names [])) s.heap.objs.size X.env = cenv
  have kp : ∀ b o, s.heap.get? b = some o → (pushCells (s.heap.push { cls := .type "dict", data := .dict #[] }) scope.names).get? b = some o := fun b o e => pushCells_keeps _ _ _ _ (Heap.get?_push_of_some _ e)
  have hL : cenv.locals = s.heap.objs.size := by rw [← hcenv]; rfl
  have hcl : cenv.cells = cellsFrom (s.heap.objs.size + 1) scope.names (cloFrom X.env.cells scope.names []) := by rw [← hcenv]; rfl
  have hsc : cenv.scope = relS scope X.env.scope := by rw [← hcenv]; rfl
  rw [← Heap.size_push s.heap { cls := .type "dict", data := .dict #[] }] at hcl
  have cm : ∀ {y c}, (y, c) ∈ cloFrom X.env.cells scope.names [] → X.env.cells.lookup y = some c ∧ c < s.heap.objs.size := fun {y c} hm => by
    rcases cloFrom_mem hm with hm | ⟨h1, rfl⟩
    · cases hm
    · obtain ⟨c, hc⟩ := hfree _ h1 rfl
      rw [hc]
      obtain ⟨w, z⟩ := I.cell _ _ hc
      exact ⟨rfl, z.lt⟩
  have mem : ∀ {y c}, cenv.cells.lookup y = some c → (X.env.cells.lookup y = some c ∧ c < s.heap.objs.size) ∨ (s.heap.objs.size + 1 ≤ c ∧ CellAt (pushCells (s.heap.push { cls := .type "dict", data := .dict #[] }) scope.names) c none) := fun {y c} e => by
    rw [hcl] at e
    rcases cells_mem (PySem.mem_of_lookup e) with hm | ⟨_, h2, h3⟩
    · exact .inl (cm hm)
    · rw [Heap.size_push] at h2; exact .inr ⟨h2, h3⟩
  have look : ∀ {y}, scope.names.lookup y = some .free → ∃ c, cenv.cells.lookup y = some c ∧ X.env.cells.lookup y = some c := fun {y} hl => by
    have hy : (y, NameKind.free) ∈ scope.names := PySem.mem_of_lookup hl
    obtain ⟨c', e'⟩ := mem_lookup (cells_acc (names := scope.names) (n := (s.heap.push { cls := .type "dict", data := .dict #[] }).objs.size) (cloFrom_has (cells := X.env.cells) (acc := []) hy))
    rw [← hcl] at e'
    refine ⟨c', e', ?_⟩
    rw [hcl] at e'
    rcases cells_mem (PySem.mem_of_lookup e') with hm | ⟨h1, _, _⟩
    · exact (cm hm).1
    · have := ok.uniq _ h1
      rw [hl] at this; cases this
  have okB : (X.blk s H scope cenv fp).Ok := by
    refine ⟨I.ok.mod, by show cenv.scope.kind = _; rw [hsc]; exact ok.kind, by show cenv.globals = _; rw [← hcenv]; exact I.ok.glob, by show cenv.builtins = _; rw [← hcenv]; exact I.ok.blt, by show s.heap.objs.size ≤ cenv.locals; rw [hL]; exact Nat.le_refl _,
      fun y z c e1 e2 => ?_, fun y hy => ?_, fun y c z e => ?_, I.ok.hd, I.ok.frames, .inl rfl, fun b hb => ⟨?_, fun y c e z => ?_⟩, I.bs, Nat.le_trans I.ok.bsz I.sz, fun b o e hb => ?_, fun b hb z => ?_, I.stack, I.stkFree⟩
    · have e1 : cenv.cells.lookup y = some c := e1
      have e2 : cenv.cells.lookup z = some c := e2
      rw [hcl] at e1 e2
      refine cells_inj (fun p hp => ?_) (fun y z c a b => I.ok.inj y z c (cm a).1 (cm b).1) (PySem.mem_of_lookup e1) (PySem.mem_of_lookup e2)
      rw [Heap.size_push]
      exact Nat.lt_succ_of_lt (cm (y := p.1) (c := p.2) hp).2
    · show ∃ c, cenv.cells.lookup y = some c
      have key : ∀ k, cenv.kindOf y = some k → (k = .cell ∨ k = .free) → ∃ c, cenv.cells.lookup y = some c := fun k hk hk' => by
        unfold Env.kindOf at hk
        rw [hsc] at hk
        obtain ⟨k', e, r⟩ := lookup_relS hk
        have : k' = .cell ∨ k' = .free := by
          rcases r with rfl | ⟨rfl, _⟩
          · exact hk'
          · exact .inr rfl
        rcases this with rfl | rfl
        · obtain ⟨c, hm⟩ := cells_has (n := (s.heap.push { cls := .type "dict", data := .dict #[] }).objs.size) (acc := cloFrom X.env.cells scope.names []) (PySem.mem_of_lookup e)
          obtain ⟨c', e'⟩ := mem_lookup hm
          exact ⟨c', by rw [hcl]; exact e'⟩
        · obtain ⟨c, h1, _⟩ := look e
          exact ⟨c, h1⟩
      rcases hy with hy | hy
      · exact key _ hy (.inl rfl)
      · exact key _ hy (.inr rfl)
    · have z : (scope.names.lookup y == some NameKind.cell) = true := z
      have z : scope.names.lookup y = some .cell := by simpa using z
      have e : cenv.cells.lookup y = some c := e
      rw [hcl] at e
      rcases cells_mem (PySem.mem_of_lookup e) with hm | ⟨_, h2, _⟩
      · rcases cloFrom_mem hm with hm | ⟨h1, _⟩
        · cases hm
        · have q := ok.uniq _ h1
          rw [z] at q; cases q
      · rw [Heap.size_push] at h2
        exact Nat.le_of_succ_le h2
    · show b ≠ cenv.locals
      rw [hL]; exact Nat.ne_of_lt (hfp b hb).2
    · have e : cenv.cells.lookup y = some c := e
      rcases mem e with ⟨h1, _⟩ | ⟨h1, _⟩
      · exact (hfp b hb).1.2.2.2.2.1 y c h1 z
      · have h2 : s.heap.objs.size + 1 ≤ b := by rw [← z]; exact h1
        exact absurd (Nat.lt_of_lt_of_le (hfp b hb).2 (Nat.le_of_succ_le h2)) (Nat.lt_irrefl _)
    · rcases (hfp b hb).1.2.2.2.1 with z | z
      · exact I.ok.noex b o e z
      · exact absurd (Nat.lt_of_lt_of_le (Heap.lt_size e) (Nat.le_trans I.ok.bsz z)) (Nat.lt_irrefl _)
    · rcases List.mem_cons.mp (I.stkSub b z) with z | z
      · exact (hfp b hb).1.2.1 z
      · exact (hfp b hb).1.2.2.1 z
  refine ⟨okB, rfl, I.bare, Un.kept kp, ⟨fun _ => none, ?_, fun i y av e1 e2 e3 => ?_⟩, fun y c e => ?_, ?_, fun y c e => ?_, fun p hp => ?_, I.hok.kept kp, by rw [wipe_length]; exact I.len⟩
  · show Heap.Ns _ cenv.locals _
    rw [hL]
    exact Heap.Ns.keeps (Heap.Ns.new ..) fun b o e => pushCells_keeps _ _ _ _ e
  · obtain ⟨e2, hne⟩ := wipe_some e2
    have hfr : scope.names.lookup y = some .free ∧ (cenv.kindOf y = some .cell ∨ cenv.kindOf y = some .free) := by
      have key : ∀ k, cenv.scope.names.lookup y = some k → k = .local ∨ k = .cell ∨ k = .free → scope.names.lookup y = some .free ∧ (cenv.kindOf y = some .cell ∨ cenv.kindOf y = some .free) := fun k hk hk' => by
        have hk0 := hk
        rw [hsc] at hk
        obtain ⟨k', e, r⟩ := lookup_relS hk
        have no : ¬ (k' = .local ∨ k' = .cell) := fun hh => by
          rcases ok.own _ (PySem.mem_of_lookup e) hh with e' | e'
          · obtain ⟨p, hp, hpy⟩ := List.mem_map.mp e'
            have e3 := ok.ix p hp
            have : p.1 = y := hpy
            rw [this] at e3
            exact hne (List.mem_map.mpr ⟨p, hp, nodup_ix hN e3 e1⟩)
          · exact e' (List.mem_of_getElem? e1)
        rcases r with rfl | ⟨rfl, rfl⟩
        · rcases hk' with rfl | rfl | rfl
          · exact absurd (.inl rfl) no
          · exact absurd (.inr rfl) no
          · exact ⟨e, .inr hk0⟩
        · exact ⟨e, .inl hk0⟩
      have e3 : Vis cenv.scope y := e3
      rcases e3 with e3 | e3 | e3
      · exact key _ e3 (.inl rfl)
      · exact key _ e3 (.inr (.inl rfl))
      · exact key _ e3 (.inr (.inr rfl))
    obtain ⟨m, hn, hl⟩ := I.loc
    have hvis : Vis X.env.scope y := (ok.free _ (PySem.mem_of_lookup hfr.1) rfl).elim (fun k => .inr (.inl k)) (fun k => .inr (.inr k))
    obtain ⟨w, r, q⟩ := hl i y av e1 e2 hvis
    refine ⟨w, r, .inr ⟨hfr.2, ?_⟩⟩
    obtain ⟨c, h1, h2⟩ := look hfr.1
    rcases q with ⟨k, _⟩ | ⟨_, c', e', z⟩
    · have k : X.env.scope.names.lookup y = some .local := k
      rcases ok.free _ (PySem.mem_of_lookup hfr.1) rfl with k' | k' <;> rw [show X.env.scope.names.lookup y = _ from k'] at k <;> cases k
    · rw [h2] at e'; cases e'
      exact ⟨c, h1, z.keeps kp⟩
  · have e : cenv.cells.lookup y = some c := e
    rcases mem e with ⟨h1, _⟩ | ⟨_, z⟩
    · obtain ⟨w, z⟩ := I.cell y c h1
      exact ⟨w, z.keeps kp⟩
    · exact ⟨_, z⟩
  · show H cenv.locals = none
    rw [hL]; exact I.hok.fresh (Nat.le_refl _)
  · have e : cenv.cells.lookup y = some c := e
    rcases mem e with ⟨h1, _⟩ | ⟨h1, _⟩
    · exact I.freeC y c h1
    · exact I.hok.fresh (Nat.le_of_succ_le h1)
  · exact absurd (show p ∈ ([] : List (Addr × Obj)) ++ [] from hp) (by simp)

/-- an item appended to a tracked list -/
theorem app_ok {E : Value → Shared → Prop} {D : Addr} {xs : List V} {y : V} {v : Value} {Q : Value → Shared → Prop} (I : Inv X pins σ H s) (hD : H D = some (.lst xs)) (hz : xs.length < sizeLine) (r : RelV y v)
    (h : ∀ s', Inv X pins σ (upd H D (.lst (xs ++ [y]))) s' → Q .none s') : wpAny (model X.prog X.w) X.A (call (.builtin "list.append") [.ref D, v]) Q E s := by
  obtain ⟨hz', its, n, ri, e⟩ := I.hok D _ hD
  have hl := ri.length
  refine append_at (hsz := by rw [List.size_toArray]; omega) e fun h' sb ho' => ?_
  refine h { s with heap := h' } (I.write (t' := s.toks) (by rw [hD]; trivial) (.inl rfl) (fun b u hb q => (sb.2 b hb).trans q) ⟨_, ho'⟩ ⟨by rw [List.length_append]; exact hz, its ++ [v], n + 1, ri.append (.cons r .nil), ?_⟩)
  rw [ho']
  simp

/-- a clause's tests -/
def PTs (X : Cx) (ifs : List Expr) (t : TT) : Prop :=
  ∀ (pins : List (Addr × Obj)) (s : Shared) (σ : St) (H : Hp) (Q : Bool → Hp → Prop), Inv X pins σ H s → t σ H Q →
    wpAny (model X.prog X.w) X.A (forIn ifs true fun c r => if r = true then do let ok ← isTrue c X.env (eval c X.env); pure (ForInStep.yield ok) else pure (ForInStep.yield r)) (TP X pins σ Q) X.xe s
def tYes : TT := fun _ H Q => Q true H
theorem pts_nil : PTs X [] tYes := fun _ _ _ H _ I h => wpAny_tests_nil ⟨H, I, h⟩
theorem pts_one {c : Expr} {t : TT} (h : PT X c t) : PTs X [c] t := fun pins s σ H Q I hw => wpAny_tests_one (h pins s σ H Q I hw)
end

theorem thnF {α : Type} {t : Sem α} {Q Q' : α → Shared → Prop} {M : Model} {A : Around} {E : Value → Shared → Prop} {s : Shared} (h : wpAny M A t Q (fun _ _ => False) s) (hQ : ∀ a s, Q a s → Q' a s) : wpAny M A t Q' E s := wpAny_mono h hQ fun _ _ z => False.elim z

/-- the loop of a list comprehension's block, the target of any form (codeAny_compLoop_tests asks a target that no tuple goes to; statement and proof follow it, PyProof/CompMap.lean:41-61, with the step letOwnedTupleGo kept) -/
theorem compLoop_any {prog : Program} {w : World} {A : Around} {R : Result → Shared → Prop} {s : Shared} {elt target iter : Expr} {ifs : List Expr} {scope : Scope} {pos : Pos} {it acc : Value} {env : Env} (I : Nat → Shared → Prop)
    (turn : ∀ n s, I n s → wpAny (model prog w) A (pyNext it) (fun r s₁ => match r with
      | none => R (.ok .next) s₁
      | some v => wpAny (model prog w) A (letOwnedTupleGo target it v) (fun _ s₁' => wpAny (model prog w) A (assign target env v) (fun _ s₂ =>
          wpAny (model prog w) A (forIn ifs true fun c r => if r = true then do let ok ← isTrue c env (eval c env); pure (ForInStep.yield ok) else pure (ForInStep.yield r)) (fun ok s₃ =>
            if ok = true then wpAny (model prog w) A (eval elt env) (fun x s₄ =>
              wpAny (model prog w) A (call (.builtin "list.append") [acc, x]) (fun _ s₅ => ∃ m, m < n ∧ I m s₅) (notedBy (model prog w) A env fun e s' => R (.error e) s') s₄) (notedBy (model prog w) A env fun e s' => R (.error e) s') s₃
            else ∃ m, m < n ∧ I m s₃) (notedBy (model prog w) A env fun e s' => R (.error e) s') s₂) (notedBy (model prog w) A env fun e s' => R (.error e) s') s₁') (notedBy (model prog w) A env fun e s' => R (.error e) s') s₁) (notedBy (model prog w) A env fun e s' => R (.error e) s') s)
    (n : Nat) (h : I n s) :
    codeAny (model prog w) A (.compLoop (.ListComp elt [⟨target, iter, ifs, 0⟩] scope pos) 0 it acc env) R s := by
  refine codeAny_loop rfl I (fun n s hI => ?_) n h
  show wpAny _ A ((compTurn (.ListComp elt [⟨target, iter, ifs, 0⟩] scope pos) 0 it acc env).onRaise (fun x => do noteFrame x env; theTreesLotGoes x)) _ _ s
  refine wpAny_noted ?_
  rw [compTurn_list]
  refine wpAny_bind (wpAny_standAt (wpAny_bind (wpAny_mono (turn n s hI) (fun r s₁ h₁ => ?_) fun _ _ h' => h')))
  cases r with
  | none => exact wpAny_pure h₁
  | some v =>
    refine wpAny_bind (wpAny_mono h₁ (fun _ s₁' h₁' => ?_) fun _ _ h' => h')
    refine wpAny_bind (wpAny_mono h₁' (fun _ s₂ h₂ => wpAny_bind (wpAny_mono h₂ (fun ok s₃ h₃ => ?_) fun _ _ h' => h')) fun _ _ h' => h')
    cases ok with
    | false => exact wpAny_pure ⟨rfl, h₃⟩
    | true =>
      exact wpAny_bind (wpAny_bind (wpAny_mono h₃ (fun x s₄ h₄ => wpAny_bind (wpAny_mono h₄ (fun _ s₅ h₅ => wpAny_pure (wpAny_pure ⟨rfl, h₅⟩)) fun _ _ h' => h')) fun _ _ h' => h'))

section
variable {X : Cx}
/-- [elt for target in iter if ..]: D the new list; W by the turn and a measure, Nx what a turn is to reach -/
def tLc (wi : TI) (g : TG) (tt : TT) (te : TE) (vs : List Nat) : TE := fun σ H Q => wi σ H fun J H1 => ∀ D, H1 D = none → ∃ W : Nat → Nat → Hp → Prop, (∃ m, W 0 m (upd H1 D (.lst []))) ∧ ∀ i m H, W i m H →
  (J.stop i H ∧ Q (.ref D) H) ∨ (J.go i H ∧ ∃ Nx : Hp → Prop, (∀ H', Nx H' → ∃ m', m' < m ∧ W (i + 1) m' H') ∧ ∀ x H', J.yld i H x H' → g x (wipe σ vs) H' fun σ2 H2 => wipe σ2 vs = wipe σ vs ∧ tt σ2 H2 fun b H3 =>
    if b = true then te σ2 H3 fun y H4 => ∃ acc, H4 D = some (.lst acc) ∧ acc.length < sizeLine ∧ Nx (upd H4 D (.lst (acc ++ [y]))) else Nx H3)
theorem lc_core {pins : List (Addr × Obj)} {s : Shared} {σ : St} {H : Hp} {Q : VK} {elt tg iter : Expr} {ifs : List Expr} {scope : Scope} {own : List (Str × Nat)} {pos pos' : Pos} {wi : TI} {g : TG} {tt : TT} {te : TE} {use : Option (Value → Sem Unit)} {Qf : Value → Shared → Prop}
    (hc : X.calm = true) (hN : X.N.Nodup) (I : Inv X pins σ H s) (hi : PI X tg iter wi) (ok : BlkOk X.N X.env.scope scope own)
    (hg : ∀ (s : Shared) (H : Hp) (C : Addr) (cl : List (Str × Addr)) (fp : List Addr), PG (X.blk s H scope (compEnvC scope cl C X.env) fp) tg g) (ht : ∀ (s : Shared) (H : Hp) (C : Addr) (cl : List (Str × Addr)) (fp : List Addr), PTs (X.blk s H scope (compEnvC scope cl C X.env) fp) ifs tt)
    (he : ∀ (s : Shared) (H : Hp) (C : Addr) (cl : List (Str × Addr)) (fp : List Addr), PE (X.blk s H scope (compEnvC scope cl C X.env) fp) elt te) (hs : ∀ x, foldedSetIterable iter X.env x = pure x)
    (h : tLc wi g tt te (own.map (·.2)) σ H Q)
    (hRR : ∀ D C s' m H', Inv X pins σ H' s' → Q (.ref D) H' → s'.heap.Ns C m → FpOk X pins H' C → compPost (model X.prog X.w) X.A X.xe use Qf (.ref D) C (.ok .next) s') :
    wpAny (model X.prog X.w) X.A (comprehension (.ListComp elt [⟨tg, iter, ifs, 0⟩] scope pos) scope X.env pos' (newList []) false (eval iter X.env) use) Qf X.xe s := by
  have hfree : ∀ y ∈ scope.names, y.2 = .free → ∃ c, X.env.cells.lookup y.1 = some c := fun y hy e => by
    rcases ok.free y hy e with k | k
    · exact I.ok.has _ (.inl k)
    · exact I.ok.has _ (.inr k)
  refine wpAny_comprehension_free (use := use) rfl hs (closure_ok hfree) ok.kind (fun y hy e => by rw [ok.uniq y hy, e])
    (thn (hi pins s σ H _ I h) fun xv s1 hx => thn hx fun itv s2 h2 => ?_)
  obtain ⟨it, fp, tn, J, H2, e, I2, T, st2, f2, q⟩ := h2
  subst e
  refine wpAny_newObj_type (newEnv_comp ?_) (by show 0 ≤ sizeLine; decide)
  generalize hD : s2.heap.objs.size = D
  have hDn : H2 D = none := I2.hok.fresh (Nat.le_of_eq hD)
  obtain ⟨W, ⟨m0, w0⟩, turn⟩ := q D hDn
  -- the new list
  generalize hs3 : ({ s2 with heap := s2.heap.push { cls := .type "list", data := .seq ([] : List Value).toArray } } : Shared) = s3
  have I3 : Inv X pins σ (upd H2 D (.lst [])) s3 := by
    rw [← hs3]
    refine I2.laid (t' := s2.toks) (fun b o e => Heap.get?_push_of_some _ e) (Nat.le_of_eq hD) ⟨Nat.zero_le _, [], 0, .nil, ?_⟩
    rw [← hD]
    exact Heap.get?_push_size _ rfl
  have h3 : s3.heap = s2.heap.push { cls := .type "list", data := .seq ([] : List Value).toArray } := by rw [← hs3]
  have sz : ∀ b ∈ fp, b < s2.heap.objs.size := fun b hb => by
    obtain ⟨o, e, _⟩ := T.obj _ _ st2 b hb
    exact Heap.lt_size e
  have f3 : ∀ b ∈ fp, FpOk X pins (upd H2 D (.lst [])) b ∧ b < s3.heap.objs.size := fun b hb => by
    have hlt := sz b hb
    refine ⟨⟨?_, (f2 b hb).2⟩, by rw [h3, Heap.size_push]; exact Nat.lt_succ_of_lt hlt⟩
    rw [upd_ne (by rw [← hD]; exact Nat.ne_of_lt hlt)]
    exact (f2 b hb).1
  have st3 : tn 0 s3.heap := T.keep _ _ _ st2 fun b _ o e => by rw [h3]; exact Heap.get?_push_of_some _ e
  have I4 := block_start I3 ok hN f3
  have pg := hg s3 (upd H2 D (.lst [])) s3.heap.objs.size (cellsFrom (s3.heap.objs.size + 1) scope.names (cloFrom X.env.cells scope.names [])) fp
  have pt := ht s3 (upd H2 D (.lst [])) s3.heap.objs.size (cellsFrom (s3.heap.objs.size + 1) scope.names (cloFrom X.env.cells scope.names [])) fp
  have pe := he s3 (upd H2 D (.lst [])) s3.heap.objs.size (cellsFrom (s3.heap.objs.size + 1) scope.names (cloFrom X.env.cells scope.names [])) fp
  show codeAny _ _ (.compStart (.ListComp elt [⟨tg, iter, ifs, 0⟩] scope pos) 0 (.ref it) (.ref D) (compEnvC scope (cellsFrom (s3.heap.objs.size + 1) scope.names (cloFrom X.env.cells scope.names [])) s3.heap.objs.size X.env)) (compPost (model X.prog X.w) X.A X.xe use Qf (.ref D) s3.heap.objs.size) { s3 with heap := pushCells (s3.heap.push { cls := .type "dict", data := .dict #[] }) scope.names }
  have nfp : ∀ b ∈ fp, (upd H2 D (.lst [])) b = none := fun b hb => (f3 b hb).1.1
  generalize hce : compEnvC scope (cellsFrom (s3.heap.objs.size + 1) scope.names (cloFrom X.env.cells scope.names [])) s3.heap.objs.size X.env = ce at I4 pg pt pe ⊢
  have cL : ce.locals = s3.heap.objs.size := by subst hce; rfl
  generalize hH3 : upd H2 D (.lst []) = H3 at I3 I4 pg pt pe w0 nfp f3
  generalize hs4 : ({ s3 with heap := pushCells (s3.heap.push { cls := .type "dict", data := .dict #[] }) scope.names } : Shared) = s4 at I4 ⊢
  have st4 : tn 0 s4.heap := T.keep _ _ _ st3 fun b _ o e => by rw [← hs4]; exact pushCells_keeps _ _ _ _ (Heap.get?_push_of_some _ e)
  have stat : ∀ {σ' : St} {H' : Hp} {s' : Shared}, Inv (X.blk s3 H3 scope ce fp) [] σ' H' s' → (∀ b ∈ fp, H' b = none) → ∀ b ∈ fp, FpOk (X.blk s3 H3 scope ce fp) [] H' b := fun {σ' H' s'} I' hn b hb =>
    ⟨hn b hb, (I'.ok.exf b hb).1, I'.ok.exfs b hb, .inl hb, fun x c e => (I'.ok.exf b hb).2 x c e, fun p hp => absurd (show p ∈ ([] : List (Addr × Obj)) ++ [] from hp) (by simp)⟩
  have loop : codeAny (model X.prog X.w) X.A (.compLoop (.ListComp elt [⟨tg, iter, ifs, 0⟩] scope pos) 0 (.ref it) (.ref D) ce) (compPost (model X.prog X.w) X.A X.xe use Qf (.ref D) s3.heap.objs.size) s4 := by
    refine compLoop_any (fun n s' => ∃ i H', Inv (X.blk s3 H3 scope ce fp) [] (wipe σ (own.map (·.2))) H' s' ∧ tn i s'.heap ∧ (∀ b ∈ fp, H' b = none) ∧ W i n H') ?_ m0 ⟨0, H3, I4, st4, nfp, w0⟩
    rintro n s5 ⟨i, H5, I5, st5, n5, w5⟩
    rcases turn i n H5 w5 with ⟨stop, qq⟩ | ⟨go, Nx, hNx, step⟩
    · have td := T.done (X.blk s3 H3 scope ce fp) rfl rfl rfl hc i [] s5 _ H5 (fun _ _ => False) I5 (stat I5 n5) st5 stop
      refine thnF td fun r s6 ⟨hr, I6⟩ => ?_
      subst hr
      -- back in the def's context
      have I7 : Inv X pins σ H5 s6 := I3.call' (ch := fp) I6.os I6.base I6.hok I6.bare fun b hb => ⟨(f3 b hb).1.2.2.2.1, (f3 b hb).1.2.1, (f3 b hb).1.2.2.2.2.1, (f3 b hb).1.2.2.2.2.2⟩
      have nC : H5 s3.heap.objs.size = none := by
        have z : H5 ce.locals = none := I6.free
        rw [cL] at z
        exact z
      obtain ⟨m, hn, _⟩ := I6.loc
      have hn : s6.heap.Ns ce.locals m := hn
      rw [cL] at hn
      exact hRR D s3.heap.objs.size s6 m H5 I7 qq hn (I3.fpOk (Nat.le_refl _) nC)
    · have ti := T.item (X.blk s3 H3 scope ce fp) rfl rfl rfl hc i [] s5 _ H5 (fun _ _ => False) I5 (stat I5 n5) st5 go
      refine thnF ti fun r s6 ⟨u, hr, h6⟩ => ?_
      subst hr
      refine thnF h6 fun _ s7 ⟨x, H7, I7, r7, y7, st7, n7⟩ => ?_
      have I7' := I7.pinned (stat I7 n7) (T.obj _ _ st7)
      refine thnF (pg _ s7 _ H7 x u _ I7' r7 (step x H7 y7)) fun _ s8 ⟨σ8, H8, I8, hw8, q8⟩ => ?_
      refine thnF (pt _ s8 σ8 H8 _ I8 q8) fun b s9 ⟨H9, I9, q9⟩ => ?_
      -- the turn's end
      have fin : ∀ {s' : Shared} {H' : Hp}, Inv (X.blk s3 H3 scope ce fp) ([] ++ pinsAt fp s7.heap) σ8 H' s' → Nx H' → ∃ m, m < n ∧ ∃ i H', Inv (X.blk s3 H3 scope ce fp) [] (wipe σ (own.map (·.2))) H' s' ∧ tn i s'.heap ∧ (∀ b ∈ fp, H' b = none) ∧ W i m H' := fun {s' H'} I' nx => by
        obtain ⟨m', hm, w'⟩ := hNx H' nx
        have pin' : ∀ b ∈ fp, ∀ o, s7.heap.get? b = some o → s'.heap.get? b = some o ∧ H' b = none := fun b hb o e =>
          let z := I'.pin (b, o) (List.mem_append_right _ (List.mem_append_right _ (mem_pinsAt hb e)))
          ⟨z.1, z.2.1⟩
        have hl : (wipe σ (own.map (·.2))).length = σ8.length := by rw [← hw8, wipe_length]
        refine ⟨m', hm, i + 1, H', (I'.unpinned (pins := [])).weak hl (fun j v e => ?_), T.keep _ _ _ st7 fun b hb o e => (pin' b hb o e).1, fun b hb => ?_, w'⟩
        · rw [← hw8] at e
          exact (wipe_some e).1
        · obtain ⟨o, e, _⟩ := T.obj _ _ st7 b hb
          exact (pin' b hb o e).2
      cases b with
      | false =>
        simp only [Bool.false_eq_true, if_false] at q9 ⊢
        exact fin I9 q9
      | true =>
        simp only [if_true] at q9 ⊢
        refine thnF (pe _ s9 σ8 H9 _ I9 q9) fun z s10 ⟨yv, H10, I10, r10, acc, hD10, hz10, nx⟩ => ?_
        exact app_ok (X := X.blk s3 H3 scope ce fp) I10 hD10 hz10 r10 fun s11 I11 => fin I11 nx
  exact codeAny_compStart_list loop (T.self X.A 0 _ _ _ st4 loop)
/-- as a value -/
theorem pe_lc {elt tg iter : Expr} {ifs : List Expr} {scope : Scope} {own : List (Str × Nat)} {pos : Pos} {wi : TI} {g : TG} {tt : TT} {te : TE} (hc : X.calm = true) (hN : X.N.Nodup) (hi : PI X tg iter wi) (ok : BlkOk X.N X.env.scope scope own)
    (hg : ∀ (s : Shared) (H : Hp) (C : Addr) (cl : List (Str × Addr)) (fp : List Addr), PG (X.blk s H scope (compEnvC scope cl C X.env) fp) tg g) (ht : ∀ (s : Shared) (H : Hp) (C : Addr) (cl : List (Str × Addr)) (fp : List Addr), PTs (X.blk s H scope (compEnvC scope cl C X.env) fp) ifs tt)
    (he : ∀ (s : Shared) (H : Hp) (C : Addr) (cl : List (Str × Addr)) (fp : List Addr), PE (X.blk s H scope (compEnvC scope cl C X.env) fp) elt te) (hs : ∀ x, foldedSetIterable iter X.env x = pure x := by intro _; rfl) :
    PE X (.ListComp elt [⟨tg, iter, ifs, 0⟩] scope pos) (tLc wi g tt te (own.map (·.2))) := by
  intro pins s σ H Q I h
  rw [eval_ListComp]
  refine lc_core hc hN I hi ok hg ht he hs h fun D C s' m H' I' q hn f => ⟨m, hn, fun h'' sb => ?_⟩
  obtain ⟨f0, f1, f2, f3, f4, f5⟩ := f
  exact ⟨.ref D, H', I'.turned (t' := s'.toks) (fun b o hb e => (sb.2 b hb).trans e) f0 f1 f3 f4 f5, rfl, q⟩
/-- name = [..] on one line, the name a local -/
theorem ps_setLc {i : Nat} {y : Str} {py : Pos} {elt tg iter : Expr} {ifs : List Expr} {scope : Scope} {own : List (Str × Nat)} {pos spos : Pos} {wi : TI} {g : TG} {tt : TT} {te : TE} (hc : X.calm = true) (hN : X.N.Nodup) (hy : X.N[i]? = some y) (hyl : X.env.scope.names.lookup y = some .local)
    (hsw : swapsWith (.ListComp elt [⟨tg, iter, ifs, 0⟩] scope pos) (some (.Name y py)) spos.line X.env = pure true) (hi : PI X tg iter wi) (ok : BlkOk X.N X.env.scope scope own)
    (hg : ∀ (s : Shared) (H : Hp) (C : Addr) (cl : List (Str × Addr)) (fp : List Addr), PG (X.blk s H scope (compEnvC scope cl C X.env) fp) tg g) (ht : ∀ (s : Shared) (H : Hp) (C : Addr) (cl : List (Str × Addr)) (fp : List Addr), PTs (X.blk s H scope (compEnvC scope cl C X.env) fp) ifs tt)
    (he : ∀ (s : Shared) (H : Hp) (C : Addr) (cl : List (Str × Addr)) (fp : List Addr), PE (X.blk s H scope (compEnvC scope cl C X.env) fp) elt te) (hs : ∀ x, foldedSetIterable iter X.env x = pure x := by intro _; rfl) :
    PS X (.Assign [.Name y py] (.ListComp elt [⟨tg, iter, ifs, 0⟩] scope pos) spos) (tAsg (tLc wi g tt te (own.map (·.2))) (gName i)) := by
  intro pins s σ H D I h
  rw [exec_Assign_Name_used _ _ _ _ hsw]
  refine wpAny_bind (wpAny_standAt (wpAny_bind ?_))
  show wpAny _ X.A (do let _ ← comprehension (.ListComp elt [⟨tg, iter, ifs, 0⟩] scope pos) scope X.env (firstIterPos [⟨tg, iter, ifs, 0⟩] pos) (newList []) false (eval iter X.env) (some (assign (.Name y py) X.env))) _ _ s
  have h : tLc wi g tt te (own.map (·.2)) σ H (fun x H1 => gName i x σ H1 D.nx) := h
  refine wpAny_bind (thn (lc_core (Qf := fun _ s' => SP X pins D .next s') hc hN I hi ok hg ht he hs h fun L C s' m H' I' q hn f => ?_) fun _ s' hq => wpAny_pure (wpAny_pure hq))
  show wpAny _ _ (assign (.Name y py) X.env (.ref L)) _ _ _
  refine wpAny_assign_Name (store_ok2 (v := V.ref L) I' hN hy (.inl hyl) rfl (fun s2 I2 ⟨a, sb, ha⟩ => ?_) (.inr hyl))
  obtain ⟨f0, f1, f2, f3, f4, f5⟩ := f
  have haC : C ≠ a := by
    rcases ha with z | z
    · rw [z]; exact f1
    · exact fun e => f4 y a z e.symm
  refine ⟨m, hn.sameBut sb haC, fun h3 sb3 => ?_⟩
  exact ⟨_, H', I2.turned (t' := s2.toks) (fun b o hb e => (sb3.2 b hb).trans e) f0 f1 f3 f4 f5, q⟩
theorem sw_true {elt : Expr} {gs : List Comprehension} {scope : Scope} {pos py : Pos} {y : Str} {l : Nat} {env : Env} (hk : env.scope.kind = .function) (hy : env.scope.names.lookup y = some .local) (hl : (py.line == pos.line) = true)
    (ha : (scope.names.any fun (n, k) => n == y && (k == .local || k == .cell)) = false) : swapsWith (.ListComp elt gs scope pos) (some (.Name y py)) l env = pure true := by
  have ky : env.kindOf y = some .local := hy
  have hb : env.blockKind = .function := by unfold Env.blockKind; rw [hk]; rfl
  unfold swapsWith
  simp only [hb, ky, ha, Expr.pos, hl]
  rfl
end

/-! ### the forms one uses -/
/-- over a range: Pv by the turn and the heap (the new list at D within) -/
theorem lc_range {lo : Int} {n : Nat} {g : TG} {tt : TT} {te : TE} {vs : List Nat} {σ : St} {H1 : Hp} {D : Addr} {Qd : Hp → Prop} (Pv : Nat → Hp → Prop) (h0 : Pv 0 (upd H1 D (.lst [])))
    (hs : ∀ i H, i < n → Pv i H → g (.int (lo + i)) (wipe σ vs) H fun σ2 H2 => wipe σ2 vs = wipe σ vs ∧ tt σ2 H2 fun b H3 =>
      if b = true then te σ2 H3 fun y H4 => ∃ acc, H4 D = some (.lst acc) ∧ acc.length < sizeLine ∧ Pv (i + 1) (upd H4 D (.lst (acc ++ [y]))) else Pv (i + 1) H3) (hd : ∀ H, Pv n H → Qd H) :
    ∃ W : Nat → Nat → Hp → Prop, (∃ m, W 0 m (upd H1 D (.lst []))) ∧ ∀ i m H, W i m H →
      ((Itr lo n).stop i H ∧ Qd H) ∨ ((Itr lo n).go i H ∧ ∃ Nx : Hp → Prop, (∀ H', Nx H' → ∃ m', m' < m ∧ W (i + 1) m' H') ∧ ∀ x H', (Itr lo n).yld i H x H' → g x (wipe σ vs) H' fun σ2 H2 => wipe σ2 vs = wipe σ vs ∧ tt σ2 H2 fun b H3 =>
        if b = true then te σ2 H3 fun y H4 => ∃ acc, H4 D = some (.lst acc) ∧ acc.length < sizeLine ∧ Nx (upd H4 D (.lst (acc ++ [y]))) else Nx H3) := by
  refine ⟨fun i m H => m = n - i ∧ i ≤ n ∧ Pv i H, ⟨n, by simp, Nat.zero_le _, h0⟩, ?_⟩
  rintro i m H ⟨rfl, hi, p⟩
  by_cases hlt : i < n
  · refine .inr ⟨hlt, Pv (i + 1), fun H' p' => ⟨n - (i + 1), by omega, rfl, hlt, p'⟩, fun x H' y => ?_⟩
    obtain ⟨e, y⟩ := y
    subst e y
    exact hs i _ hlt p
  · have e : i = n := by omega
    subst e
    exact .inl ⟨Nat.le_refl _, hd H p⟩
/-- over a list that the block leaves as it is -/
theorem lc_list {K : PySem.W.Frag} {a : Addr} {xs : List V} {g : TG} {tt : TT} {te : TE} {vs : List Nat} {σ : St} {H1 : Hp} {D : Addr} {Qd : Hp → Prop} (Pv : Nat → Hp → Prop) (h0 : Pv 0 (upd H1 D (.lst []))) (hl : ∀ i H, i ≤ xs.length → Pv i H → SqL K H a xs)
    (hs : ∀ i x H, xs[i]? = some x → Pv i H → g x (wipe σ vs) H fun σ2 H2 => wipe σ2 vs = wipe σ vs ∧ tt σ2 H2 fun b H3 =>
      if b = true then te σ2 H3 fun y H4 => ∃ acc, H4 D = some (.lst acc) ∧ acc.length < sizeLine ∧ Pv (i + 1) (upd H4 D (.lst (acc ++ [y]))) else Pv (i + 1) H3) (hd : ∀ H, Pv xs.length H → Qd H) :
    ∃ W : Nat → Nat → Hp → Prop, (∃ m, W 0 m (upd H1 D (.lst []))) ∧ ∀ i m H, W i m H →
      ((Itl K a).stop i H ∧ Qd H) ∨ ((Itl K a).go i H ∧ ∃ Nx : Hp → Prop, (∀ H', Nx H' → ∃ m', m' < m ∧ W (i + 1) m' H') ∧ ∀ x H', (Itl K a).yld i H x H' → g x (wipe σ vs) H' fun σ2 H2 => wipe σ2 vs = wipe σ vs ∧ tt σ2 H2 fun b H3 =>
        if b = true then te σ2 H3 fun y H4 => ∃ acc, H4 D = some (.lst acc) ∧ acc.length < sizeLine ∧ Nx (upd H4 D (.lst (acc ++ [y]))) else Nx H3) := by
  refine ⟨fun i m H => m = xs.length - i ∧ i ≤ xs.length ∧ Pv i H, ⟨xs.length, by simp, Nat.zero_le _, h0⟩, ?_⟩
  rintro i m H ⟨rfl, hi, p⟩
  have q := hl i H hi p
  by_cases hlt : i < xs.length
  · refine .inr ⟨⟨xs, xs[i], q, by simp [hlt]⟩, Pv (i + 1), fun H' p' => ⟨xs.length - (i + 1), by omega, rfl, hlt, p'⟩, fun x H' y => ?_⟩
    obtain ⟨e, y⟩ := y
    subst e
    exact hs i x _ (y xs q) p
  · have e : i = xs.length := by omega
    subst e
    exact .inl ⟨⟨xs, q, Nat.le_refl _⟩, hd H p⟩
def blkC (N : List Str) (sc scope : Scope) (own : List (Str × Nat)) : Bool :=
  (match scope.kind with | .function => true | _ => false) && (scope.names.all fun y => decide (scope.names.lookup y.1 = some y.2)) && (own.all fun p => decide (N[p.2]? = some p.1)) &&
    (scope.names.all fun y => match y.2 with
      | .free => (match sc.names.lookup y.1 with | some .cell => true | some .free => true | _ => false)
      | .local => decide (y.1 ∈ own.map (·.1)) || decide (y.1 ∉ N)
      | .cell => decide (y.1 ∈ own.map (·.1)) || decide (y.1 ∉ N)
      | _ => true)
theorem blkOk_by {N : List Str} {sc scope : Scope} {own : List (Str × Nat)} (h : blkC N sc scope own = true) : BlkOk N sc scope own := by
  unfold blkC at h
  simp only [Bool.and_eq_true, List.all_eq_true, decide_eq_true_eq] at h
  obtain ⟨⟨⟨h1, h2⟩, h3⟩, h4⟩ := h
  refine ⟨?_, h2, h3, fun y hy e => ?_, fun y hy e => ?_⟩
  · split at h1
    · assumption
    · cases h1
  · have q := h4 y hy
    simp only [e] at q
    split at q <;> first | exact .inl (by assumption) | exact .inr (by assumption) | cases q
  · have q := h4 y hy
    rcases e with e | e <;> (simp only [e, Bool.or_eq_true, decide_eq_true_eq] at q; exact q)
end L2

namespace L2
open PySem PySem.Spec PyProof.Rows


section
variable {prog : Program} {w : World} {A : Around} {R : Result → Shared → Prop} {s : Shared} {elt t0 i0 t1 i1 : Expr} {ifs0 ifs1 : List Expr} {scope : Scope} {pos : Pos} {it acc : Value} {env : Env}
end

section
variable {X : Cx}
end
end L2

namespace L2
open PySem PySem.Spec PyProof.Rows

/-! ### lists of pairs as tables -/
section
variable {κ : Type} [DecidableEq κ]



end


/-! ### a tracked dict, its keys ints and texts or tuples of these -/


section
variable {P : Program} {w : World} {H : Hp} {h : Heap} {a : Addr}
end



section
variable {X : Cx} {pins : List (Addr × Obj)} {σ : St} {H : Hp} {s : Shared} {a : Addr} {y v : V} {u r : Value} {o : Option V} {A : Around} {E : Value → Shared → Prop}


end

section
variable {X : Cx} {pins : List (Addr × Obj)} {σ : St} {H : Hp} {s : Shared} {a : Addr} {kvs : List (Key × V)} {k : Key} {u : Value} {A : Around} {E : Value → Shared → Prop}
end


/-! ### readings and rules -/



section
variable {X : Cx} {o i e value : Expr} {pos pos' tpos : Pos} {td ty tv : TE}
end


/-! ### displays -/
section
variable {X : Cx} {pos : Pos}
end




/-! ### methods -/


section
variable {X : Cx} {pins : List (Addr × Obj)} {σ : St} {H : Hp} {s : Shared} {a : Addr} {y d : V} {u r : Value} {o : Option V} {A : Around} {E : Value → Shared → Prop}
end

section
variable {X : Cx} {o e f : Expr} {apos cpos : Pos} {td ty tx : TE}
end

/-! ### dict(d): a copy -/
section
variable {X : Cx} {pins : List (Addr × Obj)} {σ : St} {H : Hp} {s : Shared} {a : Addr} {kvs : List (Key × V)} {A : Around} {E : Value → Shared → Prop}
end


section
variable {X : Cx} {pins : List (Addr × Obj)} {σ : St} {H : Hp} {s : Shared} {a : Addr} {y : V} {u : Value} {A : Around} {E : Value → Shared → Prop}
end
end L2

namespace L2
open PySem PySem.Spec PyProof.Rows


section
variable {prog : Program} {w : World} {A : Around} {E : Value → Shared → Prop}


end

section
variable {X : Cx}
end
end L2

namespace L2
open PySem PySem.Spec PyProof.Rows


section
variable {X : Cx} {pins : List (Addr × Obj)} {σ : St} {H : Hp} {s : Shared} {h' : Heap}

/-! ### locking a thing while a statement runs -/
end
section
variable {X : Cx}

/-! ### one iterator just laid -/
end

/-! ### range with a step -/
section
variable {X : Cx} {tg : Expr}
end

/-! ### reversed(list) -/
section
variable {X : Cx} {tg : Expr}
end

/-! ### a str -/

/-! ### a dict's keys: any dict's entries -/
section
variable {prog : Program} {w : World} {A : Around} {E : Value → Shared → Prop} {s : Shared}
end

/-! ### a locked dict -/
section
variable {X : Cx} {pins : List (Addr × Obj)} {σ : St} {H : Hp} {s : Shared} {d : Addr} {o : Obj}
end

section
variable {P : Program} {w : World} {K : PySem.W.Frag} {tg : Expr} {d : Addr} {o : Obj} {es : Array DictEntry} {ep : Nat}
end

/-! ### for k in d, d.keys(), d.values(), d.items() -/
section
variable {X : Cx} {tg e : Expr} {td : TE} {apos cpos : Pos}
end

/-! ### enumerate(list) -/
/-! ### zip(list, list) -/
end L2

section 
namespace Bits
open PySem PyProof.Rows








end Bits
end 

section 
namespace TL
open PySem PySem.Builtin PySem.Builtin.Str PySem.StrLaws


/-! ### the list functions -/




/-! ### the model's split and partition are these -/




/-! ### computing spl and par -/


/-! ### digits -/

/-! ### words: x.split() -/
end TL
end 

namespace L2
open PySem PySem.Spec PyProof.Rows




section
variable {X : Cx} {pins : List (Addr × Obj)} {σ : St} {H : Hp} {s : Shared} {Q : VK}
end

section
variable {X : Cx}





/-! ### of a text alone -/

/-! ### of a text and a text -/

end

section
variable {X : Cx} {o e : Expr} {to te : TE}

end
end L2

namespace L2
open PySem PySem.Spec PyProof.Rows

section
variable {X : Cx}
end

/-! ### slices of a text -/


end L2

namespace Att
open PySem PySem.W PySem.Calls PyProof.Rows

/-! ### the script -/



/-! ### the attachment: holds_open's last premise (the goal 'hc' behind k_head) from a wpAny of the law's body -/



/-! ### rules over ANY heap (no ledger) from facts about the written part K: the library's own take a ledger (News) for what they write -/
section
variable {prog : Program} {w : World} {A : Around} {E : Value → Shared → Prop} {s : Shared} {K : Frag}





/-! the whole heap as the ledger: makes every rule that writes through a ledger a rule over any heap -/
def noObjs (h : Heap) : Heap := { h with objs := #[] }
theorem noObjs_get (h : Heap) (b : Addr) : (noObjs h).get? b = none := by
  cases e : (noObjs h).get? b with
  | none => rfl
  | some o => exact absurd (Heap.lt_size e) (Nat.not_lt_zero _)
def ledger (h : Heap) (L d : Addr) : List (Addr × Obj) := (List.range h.objs.size).filterMap fun a => if a = L ∨ a = d then none else (h.get? a).map fun o => (a, o)
theorem mem_ledger {h : Heap} {L d a : Addr} {o : Obj} : (a, o) ∈ ledger h L d ↔ a ≠ L ∧ a ≠ d ∧ h.get? a = some o := by
  unfold ledger
  rw [List.mem_filterMap]
  constructor
  · rintro ⟨b, _, e⟩
    split at e
    · cases e
    · rename_i hb
      obtain ⟨o', ho, e'⟩ := Option.map_eq_some_iff.mp e
      cases e'
      exact ⟨fun q => hb (.inl q), fun q => hb (.inr q), ho⟩
  · rintro ⟨n1, n2, ho⟩
    refine ⟨a, List.mem_range.mpr (Heap.lt_size ho), ?_⟩
    rw [if_neg (show ¬ (a = L ∨ a = d) from fun q => q.elim n1 n2), ho] <;> rfl
theorem news_ledger {h : Heap} {L d : Addr} {od : Obj} (hne : d ≠ L) (ho : h.get? d = some od) : News (noObjs h) L h ([] ++ (d, od) :: ledger h L d) := by
  rintro ⟨a, o⟩ hp
  rcases List.mem_cons.mp hp with e | hp
  · cases e
    exact ⟨ho, hne, noObjs_get _ _⟩
  · obtain ⟨n1, n2, e⟩ := mem_ledger.mp hp
    exact ⟨e, n1, noObjs_get _ _⟩
theorem fr_all {h : Heap} {L : Addr} {m : Str → Option Value} (n : h.Ns L m) : Fr (noObjs h) L h m :=
  ⟨n, fun b o e => (by rw [noObjs_get] at e; cases e), Nat.zero_le _⟩

end
end Att

namespace L2
open PySem PySem.Spec PyProof.Rows



end L2

namespace L2
open PySem PySem.Spec PyProof.Rows


end L2

/- THE LAST THEOREM (shape; LID, My.* are yours):
   My.Adr: a structure of the addresses that your layer names (classes, functions); My.Txt K t: a structure (Prop) of the equations over K;
   My.txt_mk : {K} {implicit addresses ..} (e1 : nsIn K mainGlobals "law" = some (some (.ref f))) (e2 : K.lookup f = some ⟨oc, od, .func (fnOf "law" "law" params body scope dV kV doc pm an cdv ct), sl⟩) (e3 : codeIn K cdv "law" = true) .. : ∃ t, My.Txt K t

set_option maxRecDepth 100000 in
set_option maxHeartbeats 0 in
theorem PySem.Challenge.cw_LID_holds : PySem.Challenge.rw_LID.Holds := by
  w_on; o_law; k_head; (case hw => w_witness2)
  k_fill
  refine L2.walk_of (l := PySem.Challenge.rw_LID) (n := 63) (k := 40) (x := "script") (CX := fun w => ..) (sp := fun _ => My.sp_law) rfl (by decide) rfl ⟨rfl, by decide, by decide⟩ (fun w h Y => PySem.W.kIn_of Y) ?F ?S ?C
  case F =>
    intro w mg fa h KX G hmg
    have T : ∃ t, My.Txt (L2.KOf KX) t := by
      dsimp only [L2.KOf]                          -- K must stand as «<heap const> w.params» for k_is
      refine' My.txt_mk ?e1 ?e2 ?e3 ..
      (case e1 => PySem.W.k_is)                    -- in the order: a name -> its address -> its object -> its parts
      (case e2 => PySem.W.k_is)
      ..
    obtain ⟨t, T⟩ := T
    have e0 := hmg.symm.trans (PySem.W.mg_of KX G T.law)
    cases e0                                       -- fa is the law's own address
    exact ⟨_, fun s u => .of_eq rfl, fun base kb nb => My.law_fn T kb nb⟩     -- if «.of_eq rfl» comes too early: refine' ⟨_, ?b, fun base kb nb => My.law_fn T kb nb⟩; exact fun s u => .of_eq rfl
  case S => exact fun w H a ns hl hO hS => ..
  case C => exact ..
(the tactic k_is has no namespace: write k_is) -/

/-! SHORT WORDS over the layer: a def of the text, its body, what a loop and a test want. -/
namespace L2
open PySem PySem.Spec PyProof.Rows

/-! ### the text by places -/
/-- the j-th statement of a class's body -/
def inClass (s : Stmt) (j : Nat) : Stmt := match s with
  | .ClassDef _ _ _ body _ _ _ _ _ _ _ => body.getD j (.Pass ⟨0, 0, 0, 0⟩)
  | _ => .Pass ⟨0, 0, 0, 0⟩
def defArgs (s : Stmt) : Arguments := match s with
  | .FunctionDef _ a _ _ _ _ _ _ _ _ => a
  | _ => { posonlyargs := [], args := [], vararg := none, kwonlyargs := [], kw_defaults := [], kwarg := none, defaults := [] }
def defBody (s : Stmt) : List Stmt := match s with
  | .FunctionDef _ _ b _ _ _ _ _ _ _ => b
  | _ => []
def defScope (s : Stmt) : Scope := match s with
  | .FunctionDef _ _ _ _ _ _ sc _ _ _ => sc
  | _ => { kind := .function, names := [], isGenerator := false, isCoroutine := false }

/-! ### no exception leaves a def -/
abbrev CX0 : CXT := fun _ _ _ _ _ _ => False
abbrev E0 : XK := fun _ _ _ => False
theorem pass0 {X : Cx} : Passes CX0 X E0 := fun _ _ _ _ _ _ _ h => h.elim

/-! ### a def (or method) of the text as it stands behind the top -/
structure Fun (K : PySem.W.Frag) (x qual : Str) (st : Stmt) (f : Addr) (fd : FuncData) : Prop where
  ex : ∃ (oc : Value) (od : Option Addr) (kV doc pm : Value) (an : Option Addr) (cdv ct : Value) (osl : Array (Option Value)),
    fd = PySem.W.fnOf x qual (defArgs st) (defBody st) (defScope st) .none kV doc pm an cdv ct ∧ K.lookup f = some ⟨oc, od, .func fd, osl⟩ ∧ PySem.W.codeIn K cdv qual = true
  kp : PySem.W.keepIn K (.ref f) = true
section
variable {P : Program} {w : World} {K : PySem.W.Frag} {mg : Str → Option Value} {base : Heap}
/-- THE RULE for a def: its body as a term of rules, and the reading of that term -/
theorem Fun.ok {x qual : Str} {st : Stmt} {f : Addr} {fd : FuncData} {N ps : List Str} {k : Nat} {sp : Sp} (F : Fun K x qual st f fd) (S : FnScope N ps (defScope st)) (len : ∀ vs H Q E, sp vs H Q E → vs.length = ps.length)
    (hbody : ∀ (cdv : Value) (A : Around) (outer : List Env) (s : Shared) (H : Hp) (vs : List V) (Q : VK) (E : XK), Room k (A.deeper (envOfC qual (defScope st) s.heap.objs.size f cdv)) → sp vs H Q E →
      ∃ t, PSs (cxOf CX0 P w K mg base N qual (defScope st) f cdv A outer s H E).nox (defBody st) t ∧ t { nx := fun _ H' => Q .non H', rt := Q } (start N vs) H) : FnOk P w K mg base CX0 (k + 1) f fd ps sp := by
  obtain ⟨oc, od, kV, doc, pm, an, cdv, ct, osl, rfl, lk, hcd⟩ := F.ex
  refine fn_of lk hcd S len fun A outer s H vs Q E hr hsp => ?_
  obtain ⟨t, h, q⟩ := hbody cdv A outer s H vs Q E hr hsp
  exact ⟨t, h.nox, q⟩
/-- how its arguments bind (no defaults): h is «fun _ _ _ _ _ _ us hl => match us, hl with | [_, _], _ => rfl», one _ a parameter -/
theorem Fun.binds {x qual : Str} {st : Stmt} {f : Addr} {fd : FuncData} {ps : List Str} (F : Fun K x qual st f fd)
    (h : ∀ (kV doc pm : Value) (an : Option Addr) (cdv ct : Value) (us : List Value), us.length = ps.length → bindArgs (PySem.W.fnOf x qual (defArgs st) (defBody st) (defScope st) .none kV doc pm an cdv ct) ⟨us, []⟩ = pure (ps.zip us)) : Binds K fd ps [] := by
  obtain ⟨oc, od, kV, doc, pm, an, cdv, ct, osl, rfl, lk, hcd⟩ := F.ex
  exact .all (h kV doc pm an cdv ct)
theorem fun_mk {x qual : Str} {st : Stmt} {f : Addr} {oc : Value} {od an : Option Addr} {osl : Array (Option Value)} {kV doc pm cdv ct : Value} (l : K.lookup f = some ⟨oc, od, .func (PySem.W.fnOf x qual (defArgs st) (defBody st) (defScope st) .none kV doc pm an cdv ct), osl⟩)
    (c : PySem.W.codeIn K cdv qual = true) (k : PySem.W.keepIn K (.ref f) = true) : Fun K x qual st f (PySem.W.fnOf x qual (defArgs st) (defBody st) (defScope st) .none kV doc pm an cdv ct) := ⟨⟨oc, od, kV, doc, pm, an, cdv, ct, osl, rfl, l, c⟩, k⟩
end
theorem small1000 {n : Nat} (h : n ≤ 1000) : n < sizeLine := Nat.lt_of_le_of_lt h (by decide)

/-! ### expressions in short: the name that stands in the i-th slot -/
section
variable {X : Cx}
theorem pv (i : Nat) {x : Str} {pos : Pos} (hN : X.N[i]? = some x := by rfl) (hv : Vis X.env.scope x := by first | exact Or.inl rfl | exact Or.inr (Or.inl rfl) | exact Or.inr (Or.inr rfl)) (hd : (x == ("__debug__" : Str)) = false := by decide)
    (hcd : (x == ("__classdict__" : Str)) = false := by decide) : PE X (.Name x pos) (tVar i) := pe_var hN hv hd hcd
end

/-! ### tests -/
theorem iteF {A B : Prop} (h : B) : if false = true then A else B := by
  rw [if_neg Bool.false_ne_true]
  exact h
theorem iteT {A B : Prop} (h : A) : if true = true then A else B := by
  rw [if_pos rfl]
  exact h
theorem ite2 {c A B : Prop} [Decidable c] (h1 : c → A) (h2 : ¬ c → B) : if c then A else B := by
  by_cases h : c
  · rw [if_pos h]
    exact h1 h
  · rw [if_neg h]
    exact h2 h

/-! ### heaps -/
/-- all that was tracked is as it was -/
def Same (H H' : Hp) : Prop := ∀ b o, H b = some o → H' b = some o
theorem Same.refl (H : Hp) : Same H H := fun _ _ h => h
theorem Same.trans {H H1 H2 : Hp} (a : Same H H1) (b : Same H1 H2) : Same H H2 := fun c o h => b c o (a c o h)
theorem Same.seq {K : PySem.W.Frag} {H H' : Hp} {a : Addr} {xs : List V} (e : Same H H') (h : SqL K H a xs) : SqL K H' a xs := by
  rcases h with (h | ⟨o, h⟩) | h
  · exact .inl (.inl (e _ _ h))
  · exact .inl (.inr ⟨o, e _ _ h⟩)
  · exact .inr h

/-! ### a dict's pairs: keys that differ -/
section
variable {κ : Type} [DecidableEq κ]
end
/-! ### lists -/
theorem at_of {xs : List V} {z : Int} {j : Nat} {v : V} (e : z = (j : Int)) (h : xs[j]? = some v) : atI xs z = some v := by
  rw [e]
  exact atI_nat h
/-- a new instance and its __init__ leave all that was tracked as it was -/
theorem Same.made {H H1 : Hp} {x dx C : Addr} (nx : H x = Option.none) (nd : H dx = Option.none) (k : ∀ b o, (upd (upd H dx (.own x)) x (.ins C dx [])) b = some o → b ≠ x → H1 b = some o) : Same H H1 := fun b o e =>
  k b o (by rw [upd_ne (ne_of_none e nx), upd_ne (ne_of_none e nd)]; exact e) (ne_of_none e nx)
end L2

section
set_option Elab.async false
set_option linter.all false
set_option maxRecDepth 100000
set_option maxHeartbeats 2000000
namespace L2
open PySem PySem.Spec PyProof.Rows
open PySem.W (WData Codec OpenSpec Well WellAll ReadsW ReadsAllW)
/-! ### an answer as data -/
mutual
/-- x stands for the datum d, lists and tuples all the way -/
inductive Dw (K : PySem.W.Frag) (H : Hp) : V → WData → Prop
  | non : Dw K H .non .none
  | bl (b : Bool) : Dw K H (.bl b) (.bool b)
  | int (i : Int) : Dw K H (.int i) (.int i)
  | str (x : Str) : Dw K H (.str x) (.str x)
  | byt (b : Array UInt8) : Dw K H (.byt b) (.bytes b.toList)
  | lst {a : Addr} {xs : List V} {ds : List WData} : SqL K H a xs → DwAll K H xs ds → Dw K H (.ref a) (.list ds)
  | tup {a : Addr} {xs : List V} {ds : List WData} : SqT K H a xs → DwAll K H xs ds → Dw K H (.ref a) (.tuple ds)
inductive DwAll (K : PySem.W.Frag) (H : Hp) : List V → List WData → Prop
  | nil : DwAll K H [] []
  | cons {v : V} {vs : List V} {d : WData} {ds : List WData} : Dw K H v d → DwAll K H vs ds → DwAll K H (v :: vs) (d :: ds)
end
theorem dw_ints {K : PySem.W.Frag} {H : Hp} : ∀ ns : List Int, DwAll K H (ns.map V.int) (ns.map WData.int)
  | [] => .nil
  | n :: r => .cons (.int n) (dw_ints r)
theorem ints_dw {K : PySem.W.Frag} {H : Hp} : ∀ (ns : List Int) (xs : List V), DwAll K H xs (ns.map WData.int) → xs = ns.map V.int
  | [], xs, h => by
    cases h
    rfl
  | n :: r, xs, h => by
    cases h with
    | cons h1 h2 =>
      cases h1
      rw [ints_dw r _ h2] <;> rfl
section
variable {P : Program} {w : World} {K : PySem.W.Frag} {H : Hp} {h : Heap} {R : PySem.W.WRecords} {cl : Str → Option Addr}
theorem sqL_at {a : Addr} {xs : List V} (hok : HOk P w H h) (KX : K.In h) (q : SqL K H a xs) : ∃ (its : List Value) (o : Obj) (n : Nat), Vals xs its ∧ h.get? a = some o ∧ o.cls = .type "list" ∧ o.data = .seq its.toArray n := by
  rcases q with q | ⟨o, its, n, e, hc, _, hd, _, hv⟩
  · obtain ⟨_, its, n, hv, e⟩ := (show ObjOk P w H h a (.lst xs) from q.ok hok)
    exact ⟨its, _, n, hv, e, rfl, rfl⟩
  · exact ⟨its.toList, o, n, hv, KX _ _ e, hc, by simp [hd]⟩
theorem sqT_at {a : Addr} {xs : List V} (hok : HOk P w H h) (KX : K.In h) (q : SqT K H a xs) : ∃ (its : List Value) (o : Obj) (n : Nat), Vals xs its ∧ h.get? a = some o ∧ o.cls = .type "tuple" ∧ o.data = .seq its.toArray n := by
  rcases q with q | ⟨o, its, n, e, hc, hd, _, hv⟩
  · obtain ⟨_, its, hv, o, e, hc, n, hd⟩ := (show ObjOk P w H h a (.tup xs) from q.ok hok)
    exact ⟨its, o, n, hv, e, hc, hd⟩
  · exact ⟨its.toList, o, n, hv, KX _ _ e, hc, by simp [hd]⟩
mutual
theorem Dw.reads (hok : HOk P w H h) (KX : K.In h) : ∀ (d : WData) (v : V) (u : Value), Dw K H v d → RelV v u → ∃ as, ReadsW R cl h u d as
  | .none, _, _, x, r => by
    cases x
    cases r
    exact ⟨_, ReadsW.none⟩
  | .bool b, _, _, x, r => by
    cases x
    cases r
    exact ⟨_, ReadsW.bool b⟩
  | .int i, _, _, x, r => by
    cases x
    obtain ⟨t, rfl⟩ := r
    exact ⟨_, ReadsW.int i t⟩
  | .str s, _, _, x, r => by
    cases x
    obtain ⟨t, rfl⟩ := r
    exact ⟨_, ReadsW.str s t⟩
  | .bytes b, _, _, x, r => by
    cases x
    obtain ⟨t, rfl⟩ := r
    exact ⟨_, ReadsW.bytes _ t⟩
  | .list ds, _, _, x, r => by
    cases x with
    | lst hs ha =>
      cases r
      obtain ⟨its, o, n, rv, ho, hc, hd⟩ := sqL_at hok KX hs
      obtain ⟨as, hr⟩ := Dw.readsAll hok KX ds _ its ha rv
      exact ⟨_, ReadsW.list ho hc hd hr⟩
  | .tuple ds, _, _, x, r => by
    cases x with
    | tup hs ha =>
      cases r
      obtain ⟨its, o, n, rv, ho, hc, hd⟩ := sqT_at hok KX hs
      obtain ⟨as, hr⟩ := Dw.readsAll hok KX ds _ its ha rv
      exact ⟨_, ReadsW.tuple ho hc hd hr⟩
  | .float _, _, _, x, _ => by cases x
  | .dict _, _, _, x, _ => by cases x
  | .bytearray _, _, _, x, _ => by cases x
  | .set _, _, _, x, _ => by cases x
  | .frozenset _, _, _, x, _ => by cases x
  | .obj _ _, _, _, x, _ => by cases x
theorem Dw.readsAll (hok : HOk P w H h) (KX : K.In h) : ∀ (ds : List WData) (vs : List V) (us : List Value), DwAll K H vs ds → Vals vs us → ∃ as, ReadsAllW R cl h us ds as
  | [], _, _, x, r => by
    cases x
    cases r
    exact ⟨_, ReadsAllW.nil⟩
  | d :: ds, _, _, x, r => by
    cases x with
    | cons h1 h2 =>
      cases r with
      | cons r1 r2 =>
        obtain ⟨as, q1⟩ := Dw.reads hok KX d _ _ h1 r1
        obtain ⟨bs, q2⟩ := Dw.readsAll hok KX ds _ _ h2 r2
        exact ⟨_, ReadsAllW.cons q1 q2⟩
end
end
/-! ### the arguments -/
mutual
/-- data that a codec tells -/
def plW : WData → Bool
  | .none => true
  | .bool _ => true
  | .int _ => true
  | .str _ => true
  | .bytes _ => true
  | .list xs => plWs xs
  | .tuple xs => plWs xs
  | _ => false
def plWs : List WData → Bool
  | [] => true
  | x :: r => plW x && plWs r
end
theorem weight_mem : ∀ {xs : List WData} {d : WData}, d ∈ xs → d.weight ≤ WData.weightAll xs
  | [], d, h => absurd h (by simp)
  | x :: r, d, h => by
    show d.weight ≤ x.weight + 1 + WData.weightAll r
    rcases List.mem_cons.mp h with e | m
    · rw [e]
      omega
    · have z := weight_mem m
      omega
def toV : Value → V
  | .none => .non
  | .bool b => .bl b
  | .int i _ => .int i
  | .str x _ => .str x
  | .bytes b _ => .byt b
  | .ref a => .ref a
  | _ => .non
/-- a value of the arguments, its objects among A -/
def OkU (A : List Addr) : Value → Prop
  | .none => True
  | .bool _ => True
  | .int _ _ => True
  | .str _ _ => True
  | .bytes _ _ => True
  | .ref a => a ∈ A
  | _ => False
theorem OkU.mono {A B : List Addr} (h : ∀ a ∈ A, a ∈ B) : ∀ {u : Value}, OkU A u → OkU B u := fun {u} x => by
  cases u with
  | ref a => exact h a x
  | none => trivial
  | bool b => trivial
  | int i t => trivial
  | str s t => trivial
  | bytes b t => trivial
  | _ => exact False.elim x
theorem relV_toV {A : List Addr} {u : Value} (x : OkU A u) : RelV (toV u) u := by
  cases u with
  | ref a => rfl
  | none => rfl
  | bool b => rfl
  | int i t => exact ⟨t, rfl⟩
  | str s t => exact ⟨t, rfl⟩
  | bytes b t => exact ⟨t, rfl⟩
  | _ => exact False.elim x
theorem vals_toV {A : List Addr} : ∀ {vs : List Value}, (∀ u ∈ vs, OkU A u) → Vals (vs.map toV) vs
  | [], _ => .nil
  | u :: r, h => .cons (relV_toV (h u (List.mem_cons_self ..))) (vals_toV fun x hx => h x (List.mem_cons_of_mem _ hx))
/-- an object of the arguments -/
def ArgOb (h : Heap) (A : List Addr) (a : Addr) : Prop := ∃ vs : List Value, vs.length ≤ sizeLine ∧ (∀ u ∈ vs, OkU A u) ∧
  (h.get? a = some { cls := .type "list", data := .seq vs.toArray } ∨ h.get? a = some { cls := .type "tuple", data := .seq vs.toArray })
theorem ArgOb.mono {h : Heap} {A B : List Addr} {a : Addr} (k : ∀ a ∈ A, a ∈ B) (x : ArgOb h A a) : ArgOb h B a := by
  obtain ⟨vs, h1, h2, h3⟩ := x
  exact ⟨vs, h1, fun u hu => (h2 u hu).mono k, h3⟩
theorem wellAll_len {P : Params} {h : Heap} : ∀ {vs : List Value} {ds : List WData}, WellAll P h vs ds → vs.length = ds.length
  | _, _, .nil => rfl
  | _, _, .cons _ b => by
    show _ + 1 = _ + 1
    rw [wellAll_len b]
theorem well_list {P : Params} {h : Heap} {v : Value} {ds : List WData} (x : Well P h v (.list ds)) : ∃ (a : Addr) (vs : List Value), v = .ref a ∧ h.get? a = some { cls := .type "list", data := .seq vs.toArray } ∧ WellAll P h vs ds := by
  cases x with
  | list ho hall => exact ⟨_, _, rfl, ho, hall⟩
theorem well_tuple {P : Params} {h : Heap} {v : Value} {ds : List WData} (x : Well P h v (.tuple ds)) : ∃ (a : Addr) (vs : List Value), v = .ref a ∧ h.get? a = some { cls := .type "tuple", data := .seq vs.toArray } ∧ WellAll P h vs ds := by
  cases x with
  | tuple ho hall => exact ⟨_, _, rfl, ho, hall⟩
theorem well_cons {P : Params} {h : Heap} {us : List Value} {d : WData} {ds : List WData} (x : WellAll P h us (d :: ds)) : ∃ (v : Value) (vs : List Value), us = v :: vs ∧ Well P h v d ∧ WellAll P h vs ds := by
  cases x with
  | cons a b => exact ⟨_, _, rfl, a, b⟩
theorem line_of {n : Nat} (h : n ≤ 1048576) : n ≤ sizeLine := Nat.le_trans h (by decide)
section
variable {P : Params} {h : Heap}
mutual
theorem area_one : ∀ (d : WData) (v : Value), Well P h v d → plW d = true → d.weight ≤ 1048576 → ∃ A : List Addr, OkU A v ∧ ∀ a ∈ A, ArgOb h A a
  | .none, _, x, _, _ => by
    cases x
    exact ⟨[], trivial, fun a m => absurd m (by simp)⟩
  | .bool b, _, x, _, _ => by
    cases x
    exact ⟨[], trivial, fun a m => absurd m (by simp)⟩
  | .int i, _, x, _, _ => by
    cases x
    exact ⟨[], trivial, fun a m => absurd m (by simp)⟩
  | .str s, _, x, _, _ => by
    cases x
    exact ⟨[], trivial, fun a m => absurd m (by simp)⟩
  | .bytes b, _, x, _, _ => by
    cases x
    exact ⟨[], trivial, fun a m => absurd m (by simp)⟩
  | .list ds, _, x, p, z => by
    obtain ⟨a, vs, rfl, ho, hall⟩ := well_list x
    have z2 : WData.weightAll ds ≤ 1048576 := z
    obtain ⟨A, h1, h2⟩ := area_all ds _ hall p fun d hd => Nat.le_trans (weight_mem hd) z2
    have k : ∀ b ∈ A, b ∈ a :: A := fun b hb => List.mem_cons_of_mem _ hb
    refine ⟨a :: A, List.mem_cons_self .., fun b hb => ?_⟩
    rcases List.mem_cons.mp hb with e | m
    · rw [e]
      exact ⟨vs, line_of (by rw [wellAll_len hall]; exact Nat.le_trans (PySem.W.length_le_weightAllW ds) z2), fun u hu => (h1 u hu).mono k, .inl ho⟩
    · exact (h2 b m).mono k
  | .tuple ds, _, x, p, z => by
    obtain ⟨a, vs, rfl, ho, hall⟩ := well_tuple x
    have z2 : WData.weightAll ds ≤ 1048576 := z
    obtain ⟨A, h1, h2⟩ := area_all ds _ hall p fun d hd => Nat.le_trans (weight_mem hd) z2
    have k : ∀ b ∈ A, b ∈ a :: A := fun b hb => List.mem_cons_of_mem _ hb
    refine ⟨a :: A, List.mem_cons_self .., fun b hb => ?_⟩
    rcases List.mem_cons.mp hb with e | m
    · rw [e]
      exact ⟨vs, line_of (by rw [wellAll_len hall]; exact Nat.le_trans (PySem.W.length_le_weightAllW ds) z2), fun u hu => (h1 u hu).mono k, .inr ho⟩
    · exact (h2 b m).mono k
  | .float _, _, _, p, _ => Bool.noConfusion (show false = true from p)
  | .dict _, _, _, p, _ => Bool.noConfusion (show false = true from p)
  | .bytearray _, _, _, p, _ => Bool.noConfusion (show false = true from p)
  | .set _, _, _, p, _ => Bool.noConfusion (show false = true from p)
  | .frozenset _, _, _, p, _ => Bool.noConfusion (show false = true from p)
  | .obj _ _, _, _, p, _ => Bool.noConfusion (show false = true from p)
theorem area_all : ∀ (ds : List WData) (vs : List Value), WellAll P h vs ds → plWs ds = true → (∀ d ∈ ds, d.weight ≤ 1048576) → ∃ A : List Addr, (∀ u ∈ vs, OkU A u) ∧ ∀ a ∈ A, ArgOb h A a
  | [], _, x, _, _ => by
    cases x
    exact ⟨[], fun u m => absurd m (by simp), fun a m => absurd m (by simp)⟩
  | d :: ds, _, x, p, z => by
    obtain ⟨v, vs, rfl, x1, x2⟩ := well_cons x
    have q : plW d = true ∧ plWs ds = true := Bool.and_eq_true_iff.mp p
    obtain ⟨A, a1, a2⟩ := area_one d v x1 q.1 (z d (List.mem_cons_self ..))
    obtain ⟨B, b1, b2⟩ := area_all ds vs x2 q.2 fun e he => z e (List.mem_cons_of_mem _ he)
    have kA : ∀ b ∈ A, b ∈ A ++ B := fun b hb => List.mem_append.mpr (.inl hb)
    have kB : ∀ b ∈ B, b ∈ A ++ B := fun b hb => List.mem_append.mpr (.inr hb)
    refine ⟨A ++ B, fun u hu => ?_, fun b hb => ?_⟩
    · rcases List.mem_cons.mp hu with e | m
      · rw [e]
        exact a1.mono kA
      · exact (b1 u m).mono kB
    · rcases List.mem_append.mp hb with m | m
      · exact (a2 b m).mono kA
      · exact (b2 b m).mono kB
end
end
/-- what is tracked of an argument's object -/
def hoOf (o : Obj) : Option HO := match o.data with
  | .seq vs _ => if (o.cls == Value.type "list") = true then some (.frz o (.lst (vs.toList.map toV))) else some (.frz o (.tup (vs.toList.map toV)))
  | _ => none
def argH (K : PySem.W.Frag) (h : Heap) (A : List Addr) : Hp := fun b => if b ∈ A then (if (K.lookup b).isNone = true then (h.get? b).bind hoOf else none) else none
/-- nothing is tracked but what is known to the object -/
def OnlyF (H : Hp) : Prop := ∀ b, H b = none ∨ ∃ o u, H b = some (.frz o u)
theorem hoOf_lst (vs : List Value) : hoOf { cls := .type "list", data := .seq vs.toArray } = some (.frz { cls := .type "list", data := .seq vs.toArray } (.lst (vs.map toV))) := by
  show (if (Value.type "list" == Value.type "list") = true then some (HO.frz { cls := .type "list", data := .seq vs.toArray } (.lst (vs.toArray.toList.map toV))) else some (HO.frz { cls := .type "list", data := .seq vs.toArray } (.tup (vs.toArray.toList.map toV)))) = _
  rw [if_pos (beq_self_eq_true _)]
theorem hoOf_tup (vs : List Value) : hoOf { cls := .type "tuple", data := .seq vs.toArray } = some (.frz { cls := .type "tuple", data := .seq vs.toArray } (.tup (vs.map toV))) := by
  show (if (Value.type "tuple" == Value.type "list") = true then some (HO.frz { cls := .type "tuple", data := .seq vs.toArray } (.lst (vs.toArray.toList.map toV))) else some (HO.frz { cls := .type "tuple", data := .seq vs.toArray } (.tup (vs.toArray.toList.map toV)))) = _
  rw [if_neg (by decide)]
section
variable {P : Program} {w : World} {K : PySem.W.Frag} {h : Heap} {A : List Addr}
theorem argH_at {b : Addr} {o : Obj} (hb : b ∈ A) (hk : K.lookup b = none) (e : h.get? b = some o) : argH K h A b = hoOf o := by
  unfold argH
  rw [if_pos hb, hk, if_pos (show (none : Option Obj).isNone = true from rfl), e] <;> rfl
theorem of_argH {b : Addr} {u : HO} (q : argH K h A b = some u) : b ∈ A ∧ K.lookup b = none := by
  unfold argH at q
  by_cases hb : b ∈ A
  · rw [if_pos hb] at q
    cases hk : K.lookup b with
    | none => exact ⟨hb, rfl⟩
    | some o =>
      rw [hk, if_neg (by simp)] at q
      cases q
  · rw [if_neg hb] at q
    cases q
/-- what stands tracked -/
theorem argH_is (ar : ∀ a ∈ A, ArgOb h A a) {b : Addr} {u : HO} (q : argH K h A b = some u) : K.lookup b = none ∧ ∃ vs : List Value, vs.length ≤ sizeLine ∧ (∀ u ∈ vs, OkU A u) ∧
    ((h.get? b = some { cls := .type "list", data := .seq vs.toArray } ∧ u = .frz { cls := .type "list", data := .seq vs.toArray } (.lst (vs.map toV))) ∨
     (h.get? b = some { cls := .type "tuple", data := .seq vs.toArray } ∧ u = .frz { cls := .type "tuple", data := .seq vs.toArray } (.tup (vs.map toV)))) := by
  obtain ⟨hb, hk⟩ := of_argH q
  obtain ⟨vs, h1, h2, h3⟩ := ar b hb
  refine ⟨hk, vs, h1, h2, ?_⟩
  rcases h3 with e | e
  · rw [argH_at hb hk e, hoOf_lst] at q
    exact .inl ⟨e, (Option.some.inj q).symm⟩
  · rw [argH_at hb hk e, hoOf_tup] at q
    exact .inr ⟨e, (Option.some.inj q).symm⟩
theorem argH_only (ar : ∀ a ∈ A, ArgOb h A a) : OnlyF (argH K h A) := fun b => by
  cases q : argH K h A b with
  | none => exact .inl rfl
  | some u =>
    obtain ⟨_, vs, _, _, ⟨_, e⟩ | ⟨_, e⟩⟩ := argH_is ar q
    · exact .inr ⟨_, _, by rw [e]⟩
    · exact .inr ⟨_, _, by rw [e]⟩
theorem argH_ok (ar : ∀ a ∈ A, ArgOb h A a) : HOk P w (argH K h A) h := fun b u q => by
  obtain ⟨_, vs, h1, h2, ⟨e, rfl⟩ | ⟨e, rfl⟩⟩ := argH_is ar q
  · exact ⟨e, by rw [List.length_map]; exact h1, vs, _, vals_toV h2, e⟩
  · exact ⟨e, by rw [List.length_map]; exact h1, vs, vals_toV h2, _, e, rfl, _, rfl⟩
theorem seq_inj {c c' : Value} {vs us : List Value} (e : (some { cls := c, data := .seq vs.toArray } : Option Obj) = some { cls := c', data := .seq us.toArray }) : c = c' ∧ vs = us := by
  have e1 := Option.some.inj e
  have e2 : c = c' := congrArg Obj.cls e1
  have e3 : Data.seq vs.toArray = Data.seq us.toArray := congrArg Obj.data e1
  injection e3 with e4
  refine ⟨e2, ?_⟩
  have e5 := congrArg Array.toList e4
  simpa using e5
/-- a list argument -/
theorem argL (KX : K.In h) (ar : ∀ a ∈ A, ArgOb h A a) {a : Addr} {vs : List Value} (ha : a ∈ A) (e : h.get? a = some { cls := .type "list", data := .seq vs.toArray }) : (∀ u ∈ vs, OkU A u) ∧ SqL K (argH K h A) a (vs.map toV) := by
  obtain ⟨us, h1, h2, h3⟩ := ar a ha
  have hu : us = vs := by
    rcases h3 with q | q
    · rw [e] at q
      exact (seq_inj q).2.symm
    · rw [e] at q
      exact absurd (Value.type.inj (seq_inj q).1) (by decide)
  subst hu
  refine ⟨h2, ?_⟩
  cases hk : K.lookup a with
  | none => exact .inl (.inr ⟨_, by rw [argH_at ha hk e, hoOf_lst]⟩)
  | some o =>
    have e2 := KX a o hk
    rw [e] at e2
    obtain rfl := Option.some.inj e2
    exact .inr ⟨_, us.toArray, _, hk, rfl, rfl, rfl, by rw [List.size_toArray]; exact h1, by simpa using vals_toV h2⟩
theorem argT (KX : K.In h) (ar : ∀ a ∈ A, ArgOb h A a) {a : Addr} {vs : List Value} (ha : a ∈ A) (e : h.get? a = some { cls := .type "tuple", data := .seq vs.toArray }) : (∀ u ∈ vs, OkU A u) ∧ SqT K (argH K h A) a (vs.map toV) := by
  obtain ⟨us, h1, h2, h3⟩ := ar a ha
  have hu : us = vs := by
    rcases h3 with q | q
    · rw [e] at q
      exact absurd (Value.type.inj (seq_inj q).1) (by decide)
    · rw [e] at q
      exact (seq_inj q).2.symm
  subst hu
  refine ⟨h2, ?_⟩
  cases hk : K.lookup a with
  | none => exact .inl (.inr ⟨_, by rw [argH_at ha hk e, hoOf_tup]⟩)
  | some o =>
    have e2 := KX a o hk
    rw [e] at e2
    obtain rfl := Option.some.inj e2
    exact .inr ⟨_, us.toArray, _, hk, rfl, rfl, by rw [List.size_toArray]; exact h1, by simpa using vals_toV h2⟩
mutual
theorem dw_one {Pm : Params} (KX : K.In h) (ar : ∀ a ∈ A, ArgOb h A a) : ∀ (d : WData) (v : Value), Well Pm h v d → plW d = true → OkU A v → Dw K (argH K h A) (toV v) d
  | .none, _, x, _, _ => by
    cases x
    exact .non
  | .bool b, _, x, _, _ => by
    cases x
    exact .bl b
  | .int i, _, x, _, _ => by
    cases x
    exact .int i
  | .str s, _, x, _, _ => by
    cases x
    exact .str s
  | .bytes b, _, x, _, _ => by
    cases x
    have z := Dw.byt (K := K) (H := argH K h A) b.toArray
    exact z
  | .list ds, _, x, p, hu => by
    obtain ⟨a, vs, rfl, ho, hall⟩ := well_list x
    obtain ⟨h2, hs⟩ := argL KX ar hu ho
    exact .lst hs (dw_all KX ar ds _ hall p h2)
  | .tuple ds, _, x, p, hu => by
    obtain ⟨a, vs, rfl, ho, hall⟩ := well_tuple x
    obtain ⟨h2, hs⟩ := argT KX ar hu ho
    exact .tup hs (dw_all KX ar ds _ hall p h2)
  | .float _, _, _, p, _ => Bool.noConfusion (show false = true from p)
  | .dict _, _, _, p, _ => Bool.noConfusion (show false = true from p)
  | .bytearray _, _, _, p, _ => Bool.noConfusion (show false = true from p)
  | .set _, _, _, p, _ => Bool.noConfusion (show false = true from p)
  | .frozenset _, _, _, p, _ => Bool.noConfusion (show false = true from p)
  | .obj _ _, _, _, p, _ => Bool.noConfusion (show false = true from p)
theorem dw_all {Pm : Params} (KX : K.In h) (ar : ∀ a ∈ A, ArgOb h A a) : ∀ (ds : List WData) (vs : List Value), WellAll Pm h vs ds → plWs ds = true → (∀ u ∈ vs, OkU A u) → DwAll K (argH K h A) (vs.map toV) ds
  | [], _, x, _, _ => by
    cases x
    exact .nil
  | d :: ds, _, x, p, hu => by
    obtain ⟨v, vs, rfl, x1, x2⟩ := well_cons x
    have q : plW d = true ∧ plWs ds = true := Bool.and_eq_true_iff.mp p
    exact .cons (dw_one KX ar d v x1 q.1 (hu _ (List.mem_cons_self ..))) (dw_all KX ar ds vs x2 q.2 fun u m => hu u (List.mem_cons_of_mem _ m))
end
end
/-! ### the call -/
/-! ### the row -/
theorem layable_weight {ds : List WData} (h : WData.layableAll ds = true) : ∀ d ∈ ds, d.weight ≤ 1048576 := fun d hd =>
  (PySem.W.layableW_iff.mp (List.all_eq_true.mp h d hd)).2.2
end L2
end
/-! The mathematics of the bill: sums, bounds, shares to the cent, the calls one behind another. Plain Lean. -/
namespace Mp
open Kp223

/-! ### sums -/
theorem foldl_add (l : List Nat) : ∀ a : Nat, l.foldl (fun (a x : Nat) => a + x) a = a + l.sum := by
  induction l with
  | nil => intro a; simp
  | cons x l ih => intro a; rw [List.foldl_cons, ih, List.sum_cons]; omega
theorem sumOf_eq (l : List Nat) : sumOf l = l.sum := by
  unfold sumOf; rw [foldl_add]; omega
theorem sum_cast {α : Type} (f : α → Nat) (l : List α) : (l.map fun x => ((f x : Nat) : Int)).sum = ((sumOf (l.map f) : Nat) : Int) := by
  rw [sumOf_eq]
  induction l with
  | nil => rfl
  | cons x l ih =>
    rw [List.map_cons, List.sum_cons, ih, List.map_cons, List.sum_cons]; omega
theorem foldl_addI (l : List Int) : ∀ a : Int, l.foldl (fun (a x : Int) => a + x) a = a + l.sum := by
  induction l with
  | nil => intro a; simp
  | cons x l ih => intro a; rw [List.foldl_cons, ih, List.sum_cons]; omega
theorem sum_le_mul {α : Type} (f : α → Nat) (m : Nat) (l : List α) (h : ∀ x ∈ l, f x ≤ m) : (l.map f).sum ≤ l.length * m := by
  induction l with
  | nil => simp
  | cons x l ih =>
    have h1 := h x (List.mem_cons_self ..)
    have h2 := ih fun y hy => h y (List.mem_cons_of_mem _ hy)
    rw [List.map_cons, List.sum_cons, List.length_cons, Nat.succ_mul]
    omega
theorem sum_le_sum {α : Type} (f g : α → Nat) (l : List α) (h : ∀ x ∈ l, f x ≤ g x) : (l.map f).sum ≤ (l.map g).sum := by
  induction l with
  | nil => simp
  | cons x l ih =>
    have h1 := h x (List.mem_cons_self ..)
    have h2 := ih fun y hy => h y (List.mem_cons_of_mem _ hy)
    rw [List.map_cons, List.sum_cons, List.map_cons, List.sum_cons]
    omega

/-! ### what is kept of a bill -/
structure WfI (x : Item) : Prop where
  o : x.ordered ≤ 10000
  r : x.rate ≤ 1000000
  d : x.done ≤ x.ordered
  t : x.trade < 4
structure WfC (c : Cert) : Prop where
  l : c.trades.length = 4
  p : c.paid ≤ c.amount
structure Wf (b : Bill) : Prop where
  keep : b.keep ≤ 200
  most : b.most ≤ 200
  ni : b.items.length ≤ 10
  it : ∀ x ∈ b.items, WfI x
  nc : b.certs.length ≤ 40
  ct : ∀ c ∈ b.certs, WfC c

theorem mul_le_bound {x y : Nat} (hx : x ≤ 10000) (hy : y ≤ 1000000) : x * y ≤ 10000000000 :=
  Nat.le_trans (Nat.mul_le_mul hx hy) (by decide)
theorem worth_le {x : Item} (h : WfI x) : worth x ≤ 10000000000 := mul_le_bound (Nat.le_trans h.d h.o) h.r
theorem value_le {b : Bill} (h : Wf b) : value b ≤ 100000000000 := by
  unfold value
  rw [sumOf_eq]
  refine Nat.le_trans (sum_le_mul worth 10000000000 b.items fun x hx => worth_le (h.it x hx)) ?_
  have := h.ni
  omega
theorem contract_le {b : Bill} (h : Wf b) : contract b ≤ 100000000000 := by
  unfold contract
  rw [sumOf_eq]
  refine Nat.le_trans (sum_le_mul (fun x : Item => x.ordered * x.rate) 10000000000 b.items fun x hx => mul_le_bound (h.it x hx).o (h.it x hx).r) ?_
  have := h.ni
  omega
theorem value_le_contract {b : Bill} (h : Wf b) : value b ≤ contract b := by
  unfold value contract
  rw [sumOf_eq, sumOf_eq]
  exact sum_le_sum _ _ b.items fun x hx => Nat.mul_le_mul_right _ (h.it x hx).d
theorem keptFull_le {b : Bill} (h : Wf b) : keptFull b ≤ value b := by
  unfold keptFull
  refine Nat.le_trans (Nat.min_le_left _ _) ?_
  have h1 : value b * b.keep ≤ value b * 1000 := Nat.mul_le_mul_left _ (Nat.le_trans h.keep (by decide))
  have h2 : value b * b.keep / 1000 ≤ value b * 1000 / 1000 := Nat.div_le_div_right h1
  rw [Nat.mul_div_cancel _ (by decide)] at h2
  exact h2
theorem kept_le {b : Bill} (h : Wf b) : kept b ≤ value b := by
  have k := keptFull_le h
  unfold kept
  split
  · omega
  · split
    · have : keptFull b / 2 ≤ keptFull b := Nat.div_le_self _ _
      omega
    · exact k
/-- what is kept, as the program reckons it -/
theorem kept_int (b : Bill) : ((kept b : Nat) : Int) = if b.closed = true then 0 else
    (let w : Int := if ((contract b : Nat) : Int) * (b.most : Nat) / 1000 < ((value b : Nat) : Int) * (b.keep : Nat) / 1000 then ((contract b : Nat) : Int) * (b.most : Nat) / 1000 else ((value b : Nat) : Int) * (b.keep : Nat) / 1000
     if b.handed = true then w / 2 else w) := by
  have e1 : ((value b : Nat) : Int) * ((b.keep : Nat) : Int) / 1000 = ((value b * b.keep / 1000 : Nat) : Int) := by
    rw [← Int.natCast_mul]; exact (Int.natCast_ediv _ _).symm
  have e2 : ((contract b : Nat) : Int) * ((b.most : Nat) : Int) / 1000 = ((contract b * b.most / 1000 : Nat) : Int) := by
    rw [← Int.natCast_mul]; exact (Int.natCast_ediv _ _).symm
  have e3 : (if ((contract b * b.most / 1000 : Nat) : Int) < ((value b * b.keep / 1000 : Nat) : Int) then ((contract b * b.most / 1000 : Nat) : Int) else ((value b * b.keep / 1000 : Nat) : Int)) = ((keptFull b : Nat) : Int) := by
    unfold keptFull
    split
    · rw [Nat.min_eq_right (by omega)]
    · rw [Nat.min_eq_left (by omega)]
  rw [e1, e2, e3]
  unfold kept
  cases b.closed with
  | true => rfl
  | false =>
    cases b.handed with
    | true => simp only [Bool.false_eq_true, if_false, if_true]; exact Int.natCast_ediv _ _
    | false => rfl
theorem owed_int {b : Bill} (h : Wf b) : ((owed b : Nat) : Int) = ((value b : Nat) : Int) - ((kept b : Nat) : Int) := by
  have := kept_le h
  unfold owed; omega
theorem due_int (b : Bill) : ((due b : Nat) : Int) = if ((owed b : Nat) : Int) - ((certified b : Nat) : Int) > 0 then ((owed b : Nat) : Int) - ((certified b : Nat) : Int) else 0 := by
  unfold due
  split <;> omega
theorem left_int {b : Bill} (h : Wf b) : ((contract b - value b : Nat) : Int) = ((contract b : Nat) : Int) - ((value b : Nat) : Int) := by
  have := value_le_contract h
  omega

/-! ### the trades' values are the value -/
theorem trade_sum (l : List Item) (h : ∀ x ∈ l, x.trade < 4) :
    (l.map worth).sum = ((l.filter fun x => x.trade == 0).map worth).sum + ((l.filter fun x => x.trade == 1).map worth).sum + ((l.filter fun x => x.trade == 2).map worth).sum + ((l.filter fun x => x.trade == 3).map worth).sum := by
  induction l with
  | nil => rfl
  | cons x l ih =>
    have h0 := h x (List.mem_cons_self ..)
    have ih := ih fun y hy => h y (List.mem_cons_of_mem _ hy)
    rw [List.map_cons, List.sum_cons, ih]
    have hx : x.trade = 0 ∨ x.trade = 1 ∨ x.trade = 2 ∨ x.trade = 3 := by omega
    rcases hx with e | e | e | e <;> simp [e] <;> omega
theorem value_trades {b : Bill} (h : Wf b) : value b = tradeValue b 0 + tradeValue b 1 + tradeValue b 2 + tradeValue b 3 := by
  unfold value tradeValue
  simp only [sumOf_eq]
  exact trade_sum b.items fun x hx => (h.it x hx).t
def worths (b : Bill) : List Nat := (List.range 4).map (tradeValue b)
theorem worths_eq (b : Bill) : worths b = [tradeValue b 0, tradeValue b 1, tradeValue b 2, tradeValue b 3] := rfl
theorem worths_sum {b : Bill} (h : Wf b) : (worths b).sum = value b := by
  rw [worths_eq, value_trades h]
  simp only [List.sum_cons, List.sum_nil]
  omega

/-! ### a stable sort of 0, 1, 2, 3 -/
theorem strict_of {g : Int → Int} : ∀ {o : List Int}, o.Pairwise (fun x y => g x ≤ g y) → (∀ z, (o.filter (fun x => g x == z)).Pairwise (· < ·)) →
    o.Pairwise (fun x y => g x < g y ∨ (g x = g y ∧ x < y))
  | [], _, _ => List.Pairwise.nil
  | x :: l, hs, hst => by
    obtain ⟨h1, h2⟩ := List.pairwise_cons.mp hs
    refine List.pairwise_cons.mpr ⟨fun y hy => ?_, strict_of h2 fun z => ?_⟩
    · have hle := h1 y hy
      by_cases e : g x = g y
      · right
        refine ⟨e, ?_⟩
        have q := hst (g x)
        rw [List.filter_cons, if_pos (by simp)] at q
        exact (List.pairwise_cons.mp q).1 y (List.mem_filter.mpr ⟨hy, by simp [e]⟩)
      · left; omega
    · have q := hst z
      rw [List.filter_cons] at q
      split at q
      · exact (List.pairwise_cons.mp q).2
      · exact q
/-- u comes ahead of t -/
def ahead (g : Int → Int) (t u : Int) : Bool := decide (g u < g t) || (g u == g t && decide (u < t))
theorem ahead_iff {g : Int → Int} {t u : Int} : ahead g t u = true ↔ g u < g t ∨ (g u = g t ∧ u < t) := by
  unfold ahead; simp
theorem rank_of {g : Int → Int} : ∀ {o : List Int} {i : Nat} {t : Int}, o.Pairwise (fun x y => g x < g y ∨ (g x = g y ∧ x < y)) → o[i]? = some t → (o.filter (ahead g t)).length = i
  | [], i, t, _, e => by simp at e
  | x :: l, 0, t, hs, e => by
    have e : x = t := by simpa using e
    subst e
    obtain ⟨h1, _⟩ := List.pairwise_cons.mp hs
    rw [List.length_eq_zero_iff, List.filter_eq_nil_iff]
    intro y hy
    rw [ahead_iff]
    rcases List.mem_cons.mp hy with rfl | hy
    · omega
    · have := h1 y hy; omega
  | x :: l, i + 1, t, hs, e => by
    have e : l[i]? = some t := by simpa using e
    obtain ⟨h1, h2⟩ := List.pairwise_cons.mp hs
    have q := h1 t (List.mem_of_getElem? e)
    rw [List.filter_cons, if_pos (ahead_iff.mpr q), List.length_cons, rank_of h2 e]
theorem mem_take_iff {α : Type} {l : List α} (hn : l.Nodup) {i k : Nat} {x : α} (h : l[i]? = some x) : x ∈ l.take k ↔ i < k := by
  constructor
  · intro hx
    obtain ⟨j, hj⟩ := List.mem_iff_getElem?.mp hx
    rw [List.getElem?_take] at hj
    split at hj
    · rename_i hjk
      obtain ⟨h1, e1⟩ := List.getElem?_eq_some_iff.mp h
      obtain ⟨h2, e2⟩ := List.getElem?_eq_some_iff.mp hj
      have := (List.getElem_inj (h₀ := h1) (h₁ := h2) hn).mp (e1.trans e2.symm)
      omega
    · cases hj
  · intro hk
    exact List.mem_iff_getElem?.mpr ⟨i, by rw [List.getElem?_take, if_pos hk]; exact h⟩
def four : List Int := [0, 1, 2, 3]
theorem take_iff {g : Int → Int} {o : List Int} (hp : o.Perm four) (hs : o.Pairwise (fun x y => g x ≤ g y)) (hst : ∀ z, o.filter (fun x => g x == z) = four.filter (fun x => g x == z)) (k : Nat) (t : Int) (ht : t ∈ four) :
    t ∈ o.take k ↔ (four.filter (ahead g t)).length < k := by
  have h4 : four.Pairwise (· < ·) := by decide
  have hn : o.Nodup := hp.nodup_iff.mpr (by decide)
  have hst' := strict_of hs fun z => by rw [hst z]; exact h4.sublist List.filter_sublist
  obtain ⟨i, hi⟩ := List.mem_iff_getElem?.mp (hp.mem_iff.mpr ht)
  rw [mem_take_iff hn hi, ← (hp.filter (ahead g t)).length_eq, rank_of hst' hi]

/-! ### shares, to the cent -/
def fl (a : Nat) (ws : List Nat) (t : Nat) : Nat := a * ws.getD t 0 / ws.sum
def rs (a : Nat) (ws : List Nat) (t : Nat) : Nat := a * ws.getD t 0 % ws.sum
def over (a : Nat) (ws : List Nat) : Nat := a - ((List.range 4).map (fl a ws)).sum
def bef (a : Nat) (ws : List Nat) (t u : Nat) : Bool := decide (rs a ws u < rs a ws t) || (rs a ws u == rs a ws t && decide (t < u))
def shareOf (a : Nat) (ws : List Nat) (t : Nat) : Nat := fl a ws t + if ((List.range 4).filter fun u => bef a ws u t).length < over a ws then 1 else 0
def shares (a : Nat) (ws : List Nat) : List Nat := (List.range 4).map (shareOf a ws)
theorem worths_getD (b : Bill) {t : Nat} (h : t < 4) : (worths b).getD t 0 = tradeValue b t := by
  have : t = 0 ∨ t = 1 ∨ t = 2 ∨ t = 3 := by omega
  rcases this with rfl | rfl | rfl | rfl <;> rfl
theorem floorOf_eq {b : Bill} (hb : Wf b) (hv : value b ≠ 0) (a : Nat) {t : Nat} (h : t < 4) : floorOf b a t = fl a (worths b) t := by
  unfold floorOf fl
  rw [if_neg hv, worths_getD b h, worths_sum hb]
theorem restOf_eq {b : Bill} (hb : Wf b) (hv : value b ≠ 0) (a : Nat) {t : Nat} (h : t < 4) : restOf b a t = rs a (worths b) t := by
  unfold restOf rs
  rw [if_neg hv, worths_getD b h, worths_sum hb]
theorem share_eq {b : Bill} (hb : Wf b) (hv : value b ≠ 0) (a : Nat) {t : Nat} (h : t < 4) : share b a t = shareOf a (worths b) t := by
  have e1 : missing b a = over a (worths b) := by
    unfold missing over
    rw [if_neg hv, sumOf_eq]
    congr 2
    exact List.map_congr_left fun x hx => floorOf_eq hb hv a (List.mem_range.mp hx)
  have e2 : ((List.range TRADES).filter fun u => before b a u t) = ((List.range 4).filter fun u => bef a (worths b) u t) := by
    refine List.filter_congr fun u hu => ?_
    have hu4 : u < 4 := List.mem_range.mp hu
    unfold before bef
    rw [restOf_eq hb hv a hu4, restOf_eq hb hv a h]
  unfold share shareOf
  rw [e1, e2, floorOf_eq hb hv a h]
theorem shares_eq {b : Bill} (hb : Wf b) (hv : value b ≠ 0) (a : Nat) : (List.range TRADES).map (share b a) = shares a (worths b) :=
  List.map_congr_left fun _ hx => share_eq hb hv a (List.mem_range.mp hx)
/-- the parts, rounded down, are no more than the whole -/
theorem floors_le (a : Nat) (ws : List Nat) (h4 : ws.length = 4) (hs : 0 < ws.sum) : ((List.range 4).map (fl a ws)).sum ≤ a := by
  match ws, h4 with
  | [w0, w1, w2, w3], _ =>
    have hS : ([w0, w1, w2, w3] : List Nat).sum = w0 + w1 + w2 + w3 := by simp only [List.sum_cons, List.sum_nil]; omega
    show (([0, 1, 2, 3] : List Nat).map (fl a [w0, w1, w2, w3])).sum ≤ a
    unfold fl
    rw [hS] at hs ⊢
    simp only [List.map_cons, List.map_nil, List.sum_cons, List.sum_nil, List.getD_cons_zero, List.getD_cons_succ]
    have d0 := Nat.mul_div_le (a * w0) (w0 + w1 + w2 + w3)
    have d1 := Nat.mul_div_le (a * w1) (w0 + w1 + w2 + w3)
    have d2 := Nat.mul_div_le (a * w2) (w0 + w1 + w2 + w3)
    have d3 := Nat.mul_div_le (a * w3) (w0 + w1 + w2 + w3)
    refine Nat.le_of_mul_le_mul_left (c := w0 + w1 + w2 + w3) ?_ hs
    have e : (w0 + w1 + w2 + w3) * a = a * w0 + a * w1 + a * w2 + a * w3 := by
      rw [Nat.mul_comm, Nat.mul_add, Nat.mul_add, Nat.mul_add]
    rw [e]
    simp only [Nat.mul_add, Nat.mul_zero]
    omega
end Mp

namespace Mp
open Kp223

/-! ### shares as the program reckons them -/
theorem flI (a w s : Nat) : ((a : Nat) : Int) * ((w : Nat) : Int) / ((s : Nat) : Int) = ((a * w / s : Nat) : Int) := by
  rw [← Int.natCast_mul]; exact (Int.natCast_ediv _ _).symm
theorem rsI (a w s : Nat) : ((a : Nat) : Int) * ((w : Nat) : Int) % ((s : Nat) : Int) = ((a * w % s : Nat) : Int) := by
  rw [← Int.natCast_mul]; exact (Int.natCast_emod _ _).symm
theorem map_getD {α : Type} (f : Nat → α) (ws : List Nat) (h4 : ws.length = 4) : ws.map f = (List.range 4).map fun t => f (ws.getD t 0) := by
  match ws, h4 with
  | [w0, w1, w2, w3], _ => rfl
theorem over_int (a : Nat) (ws : List Nat) (h4 : ws.length = 4) (hs : 0 < ws.sum) : ((a : Nat) : Int) - (((List.range 4).map fun t => ((fl a ws t : Nat) : Int)).sum) = ((over a ws : Nat) : Int) := by
  have h := floors_le a ws h4 hs
  have e : (((List.range 4).map fun t => ((fl a ws t : Nat) : Int)).sum) = ((((List.range 4).map (fl a ws)).sum : Nat) : Int) := by
    rw [sum_cast, sumOf_eq]
  rw [e]
  unfold over
  omega
/-- the key by which the cents that are left are dealt -/
def key (a : Nat) (ws : List Nat) (t : Int) : Int := -((rs a ws t.toNat : Nat) : Int)
theorem ahead_bef (a : Nat) (ws : List Nat) (t u : Nat) : ahead (key a ws) (t : Int) (u : Int) = bef a ws u t := by
  unfold ahead bef key
  simp only [Int.toNat_natCast]
  by_cases h1 : rs a ws t < rs a ws u
  · have e1 : decide (-((rs a ws u : Nat) : Int) < -((rs a ws t : Nat) : Int)) = true := decide_eq_true (by omega)
    rw [e1, decide_eq_true h1]; rfl
  · have e1 : decide (-((rs a ws u : Nat) : Int) < -((rs a ws t : Nat) : Int)) = false := decide_eq_false (by omega)
    rw [e1, decide_eq_false h1]
    by_cases h2 : rs a ws t = rs a ws u
    · rw [h2]; simp
    · have e2 : (-((rs a ws u : Nat) : Int) == -((rs a ws t : Nat) : Int)) = false := by
        rw [beq_eq_false_iff_ne]; omega
      have e3 : (rs a ws t == rs a ws u) = false := by rw [beq_eq_false_iff_ne]; exact h2
      rw [e2, e3]; simp
theorem four_eq : four = (List.range 4).map fun t => ((t : Nat) : Int) := rfl
theorem dealt_iff {a : Nat} {ws : List Nat} {o : List Int} (hp : o.Perm four) (hs : o.Pairwise (fun x y => key a ws x ≤ key a ws y)) (hst : ∀ z, o.filter (fun x => key a ws x == z) = four.filter (fun x => key a ws x == z)) (k : Nat) {t : Nat} (ht : t < 4) :
    ((t : Nat) : Int) ∈ o.take k ↔ ((List.range 4).filter fun u => bef a ws u t).length < k := by
  rw [take_iff hp hs hst k (t : Int) (by rw [four_eq]; exact List.mem_map.mpr ⟨t, List.mem_range.mpr ht, rfl⟩)]
  have e : (four.filter (ahead (key a ws) (t : Int))).length = ((List.range 4).filter fun u => bef a ws u t).length := by
    rw [four_eq, List.filter_map, List.length_map]
    congr 1
    exact List.filter_congr fun u _ => ahead_bef a ws t u
  rw [e]
/-- the parts when the first k of the order have got their cent -/
def dealt (a : Nat) (ws : List Nat) (o : List Int) (k : Nat) : List Int := (List.range 4).map fun t => ((fl a ws t : Nat) : Int) + if ((t : Nat) : Int) ∈ o.take k then 1 else 0
theorem dealt_len (a : Nat) (ws : List Nat) (o : List Int) (k : Nat) : (dealt a ws o k).length = 4 := by unfold dealt; simp
theorem dealt_zero (a : Nat) (ws : List Nat) (o : List Int) : dealt a ws o 0 = (List.range 4).map fun t => ((fl a ws t : Nat) : Int) := by
  unfold dealt
  exact List.map_congr_left fun t _ => by simp
theorem dealt_get (a : Nat) (ws : List Nat) (o : List Int) (k : Nat) {t : Nat} (h : t < 4) : (dealt a ws o k)[t]? = some (((fl a ws t : Nat) : Int) + if ((t : Nat) : Int) ∈ o.take k then 1 else 0) := by
  unfold dealt
  rw [List.getElem?_map, List.getElem?_range h]; rfl
theorem dealt_step {a : Nat} {ws : List Nat} {o : List Int} {k t : Nat} (hn : o.Nodup) (h4 : t < 4) (hk : o[k]? = some ((t : Nat) : Int)) {z : Int} (hz : (dealt a ws o k)[t]? = some z) : (dealt a ws o k).set t (z + 1) = dealt a ws o (k + 1) := by
  apply List.ext_getElem?
  intro i
  by_cases hi : i < 4
  · rw [dealt_get a ws o (k + 1) hi]
    by_cases e : i = t
    · subst e
      rw [List.getElem?_set_self (by rw [dealt_len]; exact hi)]
      rw [dealt_get a ws o k hi] at hz
      have hz := Option.some.inj hz
      have h1 : ¬ ((i : Nat) : Int) ∈ o.take k := fun q => by
        have := (mem_take_iff hn hk).mp q; omega
      have h2 : ((i : Nat) : Int) ∈ o.take (k + 1) := (mem_take_iff hn hk).mpr (by omega)
      rw [if_neg h1] at hz
      rw [if_pos h2]
      congr 1
      omega
    · rw [List.getElem?_set_ne (fun q => e q.symm), dealt_get a ws o k hi]
      congr 2
      have q : (((i : Nat) : Int) ∈ o.take k) = (((i : Nat) : Int) ∈ o.take (k + 1)) := by
        rw [List.take_add_one, hk]
        apply propext
        constructor
        · intro h; exact List.mem_append_left _ h
        · intro h
          rcases List.mem_append.mp h with h | h
          · exact h
          · have h : ((i : Nat) : Int) = ((t : Nat) : Int) := by simpa using h
            exact absurd (by omega) e
      simp only [q]
  · rw [List.getElem?_eq_none (by rw [List.length_set, dealt_len]; omega), List.getElem?_eq_none (by rw [dealt_len]; omega)]
theorem dealt_done {a : Nat} {ws : List Nat} {o : List Int} (hp : o.Perm four) (hs : o.Pairwise (fun x y => key a ws x ≤ key a ws y)) (hst : ∀ z, o.filter (fun x => key a ws x == z) = four.filter (fun x => key a ws x == z)) :
    dealt a ws o (over a ws) = (shares a ws).map fun n => ((n : Nat) : Int) := by
  unfold dealt shares
  rw [List.map_map]
  refine List.map_congr_left fun t ht => ?_
  have h4 : t < 4 := List.mem_range.mp ht
  show _ = ((shareOf a ws t : Nat) : Int)
  unfold shareOf
  have q := dealt_iff hp hs hst (over a ws) h4
  by_cases h : ((t : Nat) : Int) ∈ o.take (over a ws)
  · rw [if_pos h, if_pos (q.mp h)]; omega
  · rw [if_neg h, if_neg (fun z => h (q.mpr z))]; omega

/-! ### what a trade got so far -/
theorem got_eq (b : Bill) (t : Nat) : (b.certs.map fun c => c.trades.getD t 0).sum = tradeSoFar b t := by
  unfold tradeSoFar
  rw [foldl_addI]; omega
theorem due_pos {b : Bill} (h : due b ≠ 0) : value b ≠ 0 := by
  unfold due owed at h
  omega

/-! ### the calls keep what is kept -/
theorem getD_mem' {α : Type} {l : List α} {i : Nat} (d : α) (h : i < l.length) : l.getD i d ∈ l := by
  rw [List.getD_eq_getElem?_getD, List.getElem?_eq_getElem h]
  exact List.getElem_mem h
theorem mem_set_of {α : Type} {l : List α} {i : Nat} {x y : α} (h : y ∈ l.set i x) : y ∈ l ∨ y = x := List.mem_or_eq_of_mem_set h
theorem wf_begin {k m : Nat} (hk : k ≤ 200) (hm : m ≤ 200) : Wf ⟨k, m, [], [], false, false⟩ := ⟨hk, hm, by simp, by simp, by simp, by simp⟩
theorem wf_item {b : Bill} (h : Wf b) {o r t : Nat} (ho : o ≤ 10000) (hr : r ≤ 1000000) (ht : t < 4) (hl : b.items.length < 10) : Wf { b with items := b.items ++ [⟨o, r, 0, t⟩] } := by
  refine ⟨h.keep, h.most, ?_, ?_, h.nc, h.ct⟩
  · show (b.items ++ [_]).length ≤ 10
    rw [List.length_append, List.length_singleton]; omega
  · intro x hx
    rcases List.mem_append.mp hx with hx | hx
    · exact h.it x hx
    · have : x = ⟨o, r, 0, t⟩ := by simpa using hx
      subst this
      exact ⟨ho, hr, Nat.zero_le _, ht⟩
theorem wf_set {b : Bill} (h : Wf b) {i : Nat} {x : Item} (hx : WfI x) : Wf (Kp223.set b i x) := by
  refine ⟨h.keep, h.most, ?_, ?_, h.nc, h.ct⟩
  · show (b.items.set i x).length ≤ 10
    rw [List.length_set]; exact h.ni
  · intro y hy
    rcases mem_set_of hy with q | rfl
    · exact h.it y q
    · exact hx
theorem wf_cert {b : Bill} (h : Wf b) {c : Cert} (hc : WfC c) (hl : b.certs.length < 40) : Wf { b with certs := b.certs ++ [c] } := by
  refine ⟨h.keep, h.most, h.ni, h.it, ?_, ?_⟩
  · show (b.certs ++ [c]).length ≤ 40
    rw [List.length_append, List.length_singleton]; omega
  · intro x hx
    rcases List.mem_append.mp hx with hx | hx
    · exact h.ct x hx
    · have : x = c := by simpa using hx
      subst this
      exact hc
theorem wf_setCert {b : Bill} (h : Wf b) {n : Nat} {c : Cert} (hc : WfC c) : Wf { b with certs := b.certs.set n c } := by
  refine ⟨h.keep, h.most, h.ni, h.it, ?_, ?_⟩
  · show (b.certs.set n c).length ≤ 40
    rw [List.length_set]; exact h.nc
  · intro y hy
    rcases mem_set_of hy with q | rfl
    · exact h.ct y q
    · exact hc
theorem wf_handed {b : Bill} (h : Wf b) : Wf { b with handed := true } := ⟨h.keep, h.most, h.ni, h.it, h.nc, h.ct⟩
theorem wf_closed {b : Bill} (h : Wf b) : Wf { b with closed := true } := ⟨h.keep, h.most, h.ni, h.it, h.nc, h.ct⟩
theorem wf_next (b : Bill) : WfC (nextCert b) := ⟨by unfold nextCert; simp [TRADES], Nat.zero_le _⟩

/-! ### the calls one behind another -/
def arity : Nat → Nat
  | 0 => 2 | 1 => 3 | 2 => 2 | 3 => 2 | 10 => 2 | 11 => 1 | 12 => 1 | 13 => 1 | 17 => 1
  | _ => 0
theorem shape_some {p : Int} {n k : Nat} (h : PyKp223.shape p = some (n, k)) : ∃ j : Nat, p = (j : Int) ∧ j < 19 ∧ n = arity j ∧ k = 0 := by
  unfold PyKp223.shape at h
  by_cases e0 : p = 0
  · rw [if_pos e0] at h; cases h; exact ⟨0, e0, by decide, rfl, rfl⟩
  rw [if_neg e0] at h
  by_cases e1 : p = 1
  · rw [if_pos e1] at h; cases h; exact ⟨1, e1, by decide, rfl, rfl⟩
  rw [if_neg e1] at h
  by_cases e2 : p = 2
  · rw [if_pos e2] at h; cases h; exact ⟨2, e2, by decide, rfl, rfl⟩
  rw [if_neg e2] at h
  by_cases e3 : p = 3
  · rw [if_pos e3] at h; cases h; exact ⟨3, e3, by decide, rfl, rfl⟩
  rw [if_neg e3] at h
  by_cases e4 : p = 4
  · rw [if_pos e4] at h; cases h; exact ⟨4, e4, by decide, rfl, rfl⟩
  rw [if_neg e4] at h
  by_cases e5 : p = 5
  · rw [if_pos e5] at h; cases h; exact ⟨5, e5, by decide, rfl, rfl⟩
  rw [if_neg e5] at h
  by_cases e6 : p = 6
  · rw [if_pos e6] at h; cases h; exact ⟨6, e6, by decide, rfl, rfl⟩
  rw [if_neg e6] at h
  by_cases e7 : p = 7
  · rw [if_pos e7] at h; cases h; exact ⟨7, e7, by decide, rfl, rfl⟩
  rw [if_neg e7] at h
  by_cases e8 : p = 8
  · rw [if_pos e8] at h; cases h; exact ⟨8, e8, by decide, rfl, rfl⟩
  rw [if_neg e8] at h
  by_cases e9 : p = 9
  · rw [if_pos e9] at h; cases h; exact ⟨9, e9, by decide, rfl, rfl⟩
  rw [if_neg e9] at h
  by_cases e10 : p = 10
  · rw [if_pos e10] at h; cases h; exact ⟨10, e10, by decide, rfl, rfl⟩
  rw [if_neg e10] at h
  by_cases e11 : p = 11
  · rw [if_pos e11] at h; cases h; exact ⟨11, e11, by decide, rfl, rfl⟩
  rw [if_neg e11] at h
  by_cases e12 : p = 12
  · rw [if_pos e12] at h; cases h; exact ⟨12, e12, by decide, rfl, rfl⟩
  rw [if_neg e12] at h
  by_cases e13 : p = 13
  · rw [if_pos e13] at h; cases h; exact ⟨13, e13, by decide, rfl, rfl⟩
  rw [if_neg e13] at h
  by_cases e14 : p = 14
  · rw [if_pos e14] at h; cases h; exact ⟨14, e14, by decide, rfl, rfl⟩
  rw [if_neg e14] at h
  by_cases e15 : p = 15
  · rw [if_pos e15] at h; cases h; exact ⟨15, e15, by decide, rfl, rfl⟩
  rw [if_neg e15] at h
  by_cases e16 : p = 16
  · rw [if_pos e16] at h; cases h; exact ⟨16, e16, by decide, rfl, rfl⟩
  rw [if_neg e16] at h
  by_cases e17 : p = 17
  · rw [if_pos e17] at h; cases h; exact ⟨17, e17, by decide, rfl, rfl⟩
  rw [if_neg e17] at h
  by_cases e18 : p = 18
  · rw [if_pos e18] at h; cases h; exact ⟨18, e18, by decide, rfl, rfl⟩
  rw [if_neg e18] at h
  cases h
/-- one call taken off -/
theorem calls_cons {f : Nat} {p : Int} {r : List Int} {cs : List (List (List Int))} (h : PyFlat.calls PyKp223.shape f (p :: r) = some cs) :
    ∃ (j f' : Nat) (cs' : List (List (List Int))), p = (j : Int) ∧ j < 19 ∧ arity j ≤ r.length ∧ cs = [(p :: r.take (arity j))] :: cs' ∧ PyFlat.calls PyKp223.shape f' (r.drop (arity j)) = some cs' := by
  cases f with
  | zero => cases h
  | succ f =>
    have h : (match PyFlat.call PyKp223.shape (p :: r) with
      | none => none
      | some (c, t) => match PyFlat.calls PyKp223.shape f t with
        | none => none
        | some cs => some (c :: cs)) = some cs := h
    cases e : PyFlat.call PyKp223.shape (p :: r) with
    | none => rw [e] at h; cases h
    | some ct =>
      obtain ⟨c, t⟩ := ct
      rw [e] at h
      dsimp only at h
      have e : (match PyKp223.shape p with
        | none => none
        | some (n, k) => if r.length < n then none else match PyFlat.rows k (r.drop n) with
          | none => none
          | some (xs, t) => some ((p :: r.take n) :: xs, t)) = some (c, t) := e
      cases es : PyKp223.shape p with
      | none => rw [es] at e; cases e
      | some nk =>
        obtain ⟨n, k⟩ := nk
        obtain ⟨j, ej, hj, en, ek⟩ := shape_some es
        subst en ek
        rw [es] at e
        dsimp only at e
        split at e
        · cases e
        · rename_i hn
          have e : some ([p :: r.take (arity j)], r.drop (arity j)) = some (c, t) := e
          have e := Option.some.inj e
          injection e with e1 e2
          subst e1 e2
          cases ec : PyFlat.calls PyKp223.shape f (r.drop (arity j)) with
          | none => rw [ec] at h; cases h
          | some cs' =>
            rw [ec] at h
            exact ⟨j, f, cs', ej, hj, by omega, (Option.some.inj h).symm, ec⟩
theorem told_cons (a : List Int) (l : List (List Int)) : PyFlat.told (a :: l) = ((a.length : Int) :: a) ++ PyFlat.told l := by
  unfold PyFlat.told; rw [List.flatMap_cons]
end Mp

namespace Mp
open Kp223
/-! ### one call, by its number and its whole numbers -/
def said (y : State × Ans) : State × List Int := (y.1, y.2.num :: y.2.nums)
def stepN (p : Nat) (ns : List Nat) (st : State) : State × List Int := Kp223Neutral.step st (PyKp223.whole [((p : Nat) : Int) :: ns.map (fun n => ((n : Nat) : Int))])
theorem step0 (st : State) (a b : Nat) : stepN 0 [a, b] st = said (Kp223.step st (.begin_ a b)) := rfl
theorem step1 (st : State) (a b c : Nat) : stepN 1 [a, b, c] st = said (Kp223.step st (.item a b c)) := rfl
theorem step2 (st : State) (a b : Nat) : stepN 2 [a, b] st = said (Kp223.step st (.change a b)) := rfl
theorem step3 (st : State) (a b : Nat) : stepN 3 [a, b] st = said (Kp223.step st (.measure a b)) := rfl
theorem step4 (st : State) : stepN 4 [] st = said (Kp223.step st .value) := rfl
theorem step5 (st : State) : stepN 5 [] st = said (Kp223.step st .contract) := rfl
theorem step6 (st : State) : stepN 6 [] st = said (Kp223.step st .left) := rfl
theorem step7 (st : State) : stepN 7 [] st = said (Kp223.step st .kept) := rfl
theorem step8 (st : State) : stepN 8 [] st = said (Kp223.step st .due) := rfl
theorem step9 (st : State) : stepN 9 [] st = said (Kp223.step st .certify) := rfl
theorem step10 (st : State) (a b : Nat) : stepN 10 [a, b] st = said (Kp223.step st (.pay a b)) := rfl
theorem step11 (st : State) (a : Nat) : stepN 11 [a] st = said (Kp223.step st (.open_ a)) := rfl
theorem step12 (st : State) (a : Nat) : stepN 12 [a] st = said (Kp223.step st (.split a)) := rfl
theorem step13 (st : State) (a : Nat) : stepN 13 [a] st = said (Kp223.step st (.trade a)) := rfl
theorem step14 (st : State) : stepN 14 [] st = said (Kp223.step st .hand) := rfl
theorem step15 (st : State) : stepN 15 [] st = said (Kp223.step st .close) := rfl
theorem step16 (st : State) : stepN 16 [] st = said (Kp223.step st .sums) := rfl
theorem step17 (st : State) (a : Nat) : stepN 17 [a] st = said (Kp223.step st (.look a)) := rfl
theorem step18 (st : State) : stepN 18 [] st = said (Kp223.step st .state) := rfl
/-- before a begin all else is -11 -/
theorem step_none {p : Nat} {ns : List Nat} (h0 : p ≠ 0) (hp : p < 19) (hl : ns.length = arity p) : stepN p ns none = (none, [-11]) := by
  match p, h0, hp with
  | 0, h0, _ => exact absurd rfl h0
  | p + 19, _, hp => exact absurd hp (by omega)
  | 1, _, _ => match ns, hl with | [a, b, c], _ => rfl
  | 2, _, _ => match ns, hl with | [a, b], _ => rfl
  | 3, _, _ => match ns, hl with | [a, b], _ => rfl
  | 4, _, _ => match ns, hl with | [], _ => rfl
  | 5, _, _ => match ns, hl with | [], _ => rfl
  | 6, _, _ => match ns, hl with | [], _ => rfl
  | 7, _, _ => match ns, hl with | [], _ => rfl
  | 8, _, _ => match ns, hl with | [], _ => rfl
  | 9, _, _ => match ns, hl with | [], _ => rfl
  | 10, _, _ => match ns, hl with | [a, b], _ => rfl
  | 11, _, _ => match ns, hl with | [a], _ => rfl
  | 12, _, _ => match ns, hl with | [a], _ => rfl
  | 13, _, _ => match ns, hl with | [a], _ => rfl
  | 14, _, _ => match ns, hl with | [], _ => rfl
  | 15, _, _ => match ns, hl with | [], _ => rfl
  | 16, _, _ => match ns, hl with | [], _ => rfl
  | 17, _, _ => match ns, hl with | [a], _ => rfl
  | 18, _, _ => match ns, hl with | [], _ => rfl
/-- the state that a begun flag and a bill stand for -/
def stOf (g : Bool) (b : Bill) : State := if g = true then some b else none
end Mp

namespace Mp
open Kp223
theorem certAt_len {b : Bill} (W : Wf b) (n : Nat) : (certAt b n).trades.length ≤ 4 := by
  unfold certAt
  rw [List.getD_eq_getElem?_getD]
  cases e : b.certs[n]? with
  | none => simp
  | some c =>
    have := (W.ct c (List.mem_of_getElem? e)).l
    simp [this]
theorem nums_len {b : Bill} (W : Wf b) (c : Kp223.Call) : (Kp223.step (some b) c).2.nums.length ≤ 4 := by
  have ct := certAt_len W
  cases c with
  | begin_ k m => simp only [Kp223.step]; split <;> simp [Kp223.say]
  | item o r t => simp only [Kp223.step]; split <;> (try split) <;> (try split) <;> simp [Kp223.say]
  | change i o => simp only [Kp223.step]; split <;> (try split) <;> (try split) <;> (try split) <;> simp [Kp223.say]
  | measure i d => simp only [Kp223.step]; split <;> (try split) <;> (try split) <;> simp [Kp223.say]
  | value => simp [Kp223.step]
  | contract => simp [Kp223.step]
  | left => simp [Kp223.step]
  | kept => simp [Kp223.step]
  | due => simp [Kp223.step]
  | certify => simp only [Kp223.step]; split <;> (try split) <;> simp [Kp223.say]
  | pay n x => simp only [Kp223.step]; split <;> (try split) <;> simp [Kp223.say]
  | open_ n => simp only [Kp223.step]; split <;> simp [Kp223.say]
  | split n => simp only [Kp223.step]; split <;> simp [Kp223.say, ct n]
  | trade t => simp only [Kp223.step]; split <;> simp [Kp223.say]
  | hand => simp only [Kp223.step]; split <;> (try split) <;> simp [Kp223.say]
  | close => simp only [Kp223.step]; split <;> (try split) <;> simp [Kp223.say]
  | sums => simp [Kp223.step, Kp223.ints]
  | look i => simp only [Kp223.step]; split <;> simp [Kp223.say, Kp223.ints]
  | state => simp [Kp223.step, Kp223.ints]
theorem said_len (y : State × Ans) : (said y).2.length = y.2.nums.length + 1 := rfl
theorem ans_len {b : Bill} {g : Bool} (W : Wf b) {p : Nat} {ns : List Nat} (hp : p < 19) (hl : ns.length = arity p) : (stepN p ns (stOf g b)).2.length ≤ 5 := by
  cases g with
  | false =>
    by_cases h0 : p = 0
    · subst h0
      match ns, hl with
      | [a, c], _ =>
        rw [step0, said_len]
        simp only [Kp223.step]
        split <;> simp [Kp223.say]
    · rw [show stOf false b = none from rfl, step_none h0 hp hl]; decide
  | true =>
    have key : ∀ c, (said (Kp223.step (some b) c)).2.length ≤ 5 := fun c => by rw [said_len]; exact Nat.succ_le_succ (nums_len W c)
    show (stepN p ns (some b)).2.length ≤ 5
    match p, hp with
    | 0, _ => match ns, hl with | [a, c], _ => exact key _
    | 1, _ => match ns, hl with | [a, c, d], _ => exact key _
    | 2, _ => match ns, hl with | [a, c], _ => exact key _
    | 3, _ => match ns, hl with | [a, c], _ => exact key _
    | 4, _ => match ns, hl with | [], _ => exact key _
    | 5, _ => match ns, hl with | [], _ => exact key _
    | 6, _ => match ns, hl with | [], _ => exact key _
    | 7, _ => match ns, hl with | [], _ => exact key _
    | 8, _ => match ns, hl with | [], _ => exact key _
    | 9, _ => match ns, hl with | [], _ => exact key _
    | 10, _ => match ns, hl with | [a, c], _ => exact key _
    | 11, _ => match ns, hl with | [a], _ => exact key _
    | 12, _ => match ns, hl with | [a], _ => exact key _
    | 13, _ => match ns, hl with | [a], _ => exact key _
    | 14, _ => match ns, hl with | [], _ => exact key _
    | 15, _ => match ns, hl with | [], _ => exact key _
    | 16, _ => match ns, hl with | [], _ => exact key _
    | 17, _ => match ns, hl with | [a], _ => exact key _
    | 18, _ => match ns, hl with | [], _ => exact key _
    | q + 19, h => exact absurd h (by omega)
/-- whole numbers, none below 0, are casts -/
theorem nats_of : ∀ {l : List Int}, (∀ x ∈ l, 0 ≤ x) → ∃ ns : List Nat, l = ns.map fun n => ((n : Nat) : Int)
  | [], _ => ⟨[], rfl⟩
  | x :: l, h => by
    obtain ⟨ns, e⟩ := nats_of (l := l) fun y hy => h y (List.mem_cons_of_mem _ hy)
    have hx := h x (List.mem_cons_self ..)
    exact ⟨x.toNat :: ns, by rw [List.map_cons, ← e, Int.toNat_of_nonneg hx]⟩
/-- the answers from a place on -/
structure From (ns : List Int) (at_ : Nat) (st : State) (told : List Int) : Prop where
  ex : ∃ (f : Nat) (cs : List (List (List Int))), PyFlat.calls PyKp223.shape f (ns.drop at_) = some cs ∧ PyKp223.answers ns = told ++ PyFlat.told (PyFlat.played Kp223Neutral.step st (cs.map PyKp223.whole))
theorem from_start {ns : List Int} (h : PyKp223.answers_asked ns = true) : From ns 0 none [] := by
  unfold PyKp223.answers_asked at h
  cases e : PyFlat.calls PyKp223.shape ns.length ns with
  | none => rw [e] at h; cases h
  | some raw =>
    refine ⟨ns.length, raw, e, ?_⟩
    unfold PyKp223.answers PyKp223.calls
    rw [e]; rfl
theorem from_end {ns : List Int} {st : State} {told : List Int} {k : Nat} (h : From ns k st told) (hk : ns.length ≤ k) : PyKp223.answers ns = told := by
  obtain ⟨f, cs, e1, e2⟩ := h.ex
  rw [List.drop_eq_nil_of_le hk] at e1
  have : cs = [] := by
    cases f with
    | zero => exact (Option.some.inj e1).symm
    | succ f => exact (Option.some.inj e1).symm
  subst this
  rw [e2]
  show told ++ [] = told
  rw [List.append_nil]
/-- one call more -/
theorem from_step {ns : List Int} {k : Nat} {st : State} {told : List Int} (h : From ns k st told) (hn : ∀ x ∈ ns, 0 ≤ x) (hk : k < ns.length) :
    ∃ (j : Nat) (ms : List Nat), ns[k]? = some (j : Int) ∧ j < 19 ∧ k + 1 + arity j ≤ ns.length ∧ ms.length = arity j ∧ (ns.drop (k + 1)).take (arity j) = (ms.map fun n => ((n : Nat) : Int)) ∧
      From ns (k + 1 + arity j) (stepN j ms st).1 (told ++ (((stepN j ms st).2.length : Int) :: (stepN j ms st).2)) := by
  obtain ⟨f, cs, e1, e2⟩ := h.ex
  rw [List.drop_eq_getElem_cons hk] at e1
  obtain ⟨j, f', cs', ej, hj, hl, rfl, e3⟩ := calls_cons e1
  have hlen : (ns.drop (k + 1)).length = ns.length - (k + 1) := List.length_drop
  rw [hlen] at hl
  obtain ⟨ms, em⟩ := nats_of (l := (ns.drop (k + 1)).take (arity j)) fun x hx => hn x (List.mem_of_mem_drop (List.mem_of_mem_take hx))
  have lm : ms.length = arity j := by
    have := congrArg List.length em
    rw [List.length_take, List.length_map, hlen] at this
    omega
  refine ⟨j, ms, by rw [List.getElem?_eq_getElem hk, ej], hj, by omega, lm, em, ⟨f', cs', ?_, ?_⟩⟩
  · rw [List.drop_drop] at e3
    rw [show k + 1 + arity j = k + 1 + arity j from rfl]
    exact e3
  · rw [e2, List.map_cons, em, ej]
    show told ++ PyFlat.told (PyFlat.played Kp223Neutral.step st (PyKp223.whole [((j : Nat) : Int) :: ms.map fun n => ((n : Nat) : Int)] :: cs'.map PyKp223.whole)) = _
    show told ++ PyFlat.told ((stepN j ms st).2 :: PyFlat.played Kp223Neutral.step (stepN j ms st).1 (cs'.map PyKp223.whole)) = _
    rw [told_cons, List.append_assoc]
end Mp

set_option linter.all false
set_option maxRecDepth 100000
namespace Mp
open PySem L2

/-! ### attributes as keys and values -/
theorem lk_at {k : Str} : ∀ {ks : List Str} {vs : List V} {i : Nat} {v : V}, ks.findIdx? (fun g => k == g) = some i → vs[i]? = some v → (ks.zip vs).lookup k = some v
  | [], _, _, _, h, _ => by cases h
  | g :: ks, [], i, v, _, hv => by simp at hv
  | g :: ks, w :: vs, i, v, h, hv => by
    rw [List.findIdx?_cons] at h
    rw [List.zip_cons_cons, List.lookup_cons]
    cases e : k == g with
    | true =>
      rw [e, if_pos rfl] at h
      cases h
      simpa using hv
    | false =>
      rw [e, if_neg (by decide)] at h
      cases q : ks.findIdx? (fun g => k == g) with
      | none => rw [q] at h; cases h
      | some j =>
        rw [q] at h
        have h : j + 1 = i := Option.some.inj h
        subst h
        exact lk_at q (by simpa using hv)
theorem lk_no {k : Str} : ∀ {ks : List Str} {vs : List V}, ks.findIdx? (fun g => k == g) = none → (ks.zip vs).lookup k = none
  | [], vs, _ => by rw [List.zip_nil_left]; rfl
  | g :: ks, [], _ => by rw [List.zip_nil_right]; rfl
  | g :: ks, w :: vs, h => by
    rw [List.findIdx?_cons] at h
    rw [List.zip_cons_cons, List.lookup_cons]
    cases e : k == g with
    | true => rw [e, if_pos rfl] at h; cases h
    | false =>
      rw [e, if_neg (by decide)] at h
      cases q : ks.findIdx? (fun g => k == g) with
      | none => exact lk_no q
      | some j => rw [q] at h; cases h
theorem put_at {k : Str} {v : V} : ∀ {ks : List Str} {vs : List V} {i : Nat}, ks.findIdx? (fun g => k == g) = some i → ks.length = vs.length → putF k v (ks.zip vs) = ks.zip (vs.set i v)
  | [], _, _, h, _ => by cases h
  | g :: ks, [], i, _, hl => by cases hl
  | g :: ks, w :: vs, i, h, hl => by
    rw [List.findIdx?_cons] at h
    rw [List.zip_cons_cons]
    have hl : ks.length = vs.length := Nat.succ.inj hl
    cases e : k == g with
    | true =>
      rw [e, if_pos rfl] at h
      cases h
      have e' : g = k := (eq_of_beq e).symm
      show (if g = k then (g, v) :: ks.zip vs else (g, w) :: putF k v (ks.zip vs)) = _
      rw [if_pos e']
      rfl
    | false =>
      rw [e, if_neg (by decide)] at h
      cases q : ks.findIdx? (fun g => k == g) with
      | none => rw [q] at h; cases h
      | some j =>
        rw [q] at h
        have h : j + 1 = i := Option.some.inj h
        subst h
        have e' : ¬ g = k := fun z => by rw [z] at e; simp at e
        show (if g = k then (g, v) :: ks.zip vs else (g, w) :: putF k v (ks.zip vs)) = _
        rw [if_neg e', put_at q hl]
        rfl
theorem put_new {k : Str} {v : V} : ∀ {ks : List Str} {vs : List V}, ks.findIdx? (fun g => k == g) = none → ks.length = vs.length → putF k v (ks.zip vs) = (ks ++ [k]).zip (vs ++ [v])
  | [], [], _, _ => rfl
  | [], w :: vs, _, hl => by cases hl
  | g :: ks, [], _, hl => by cases hl
  | g :: ks, w :: vs, h, hl => by
    rw [List.findIdx?_cons] at h
    rw [List.zip_cons_cons]
    have hl : ks.length = vs.length := Nat.succ.inj hl
    cases e : k == g with
    | true => rw [e, if_pos rfl] at h; cases h
    | false =>
      rw [e, if_neg (by decide)] at h
      cases q : ks.findIdx? (fun g => k == g) with
      | some j => rw [q] at h; cases h
      | none =>
        have e' : ¬ g = k := fun z => by rw [z] at e; simp at e
        show (if g = k then (g, v) :: ks.zip vs else (g, w) :: putF k v (ks.zip vs)) = _
        rw [if_neg e', put_new q hl]
        rfl
theorem zip_len {ks : List Str} {vs : List V} (h : ks.length = vs.length) : (ks.zip vs).length = ks.length := by
  rw [List.length_zip, h, Nat.min_self]

/-! ### the objects of a bill -/
abbrev itemK : List Str := ["ordered", "rate", "trade", "done"]
abbrev certK : List Str := ["amount", "parts", "paid"]
abbrev billK : List Str := ["begun", "keep", "most", "entries", "certificates", "handed", "closed"]
abbrev itV (x : Kp223.Item) : List V := [.int (x.ordered : Nat), .int (x.rate : Nat), .int (x.trade : Nat), .int (x.done : Nat)]
abbrev ceV (c : Kp223.Cert) (q : Addr) : List V := [.int (c.amount : Nat), .ref q, .int (c.paid : Nat)]
/-- the classes -/
structure Cl where
  I : Addr
  C : Addr
  B : Addr
/-- where the lists, the items, the certificates, and the certificates' parts stand -/
structure Lay where
  le : Addr
  lc : Addr
  is : List Addr
  cs : List Addr
  ps : List Addr
abbrev biV (g : Bool) (b : Kp223.Bill) (L : Lay) : List V := [.bl g, .int (b.keep : Nat), .int (b.most : Nat), .ref L.le, .ref L.lc, .bl b.handed, .bl b.closed]
def foot (p : Addr) (L : Lay) : List Addr := p :: L.le :: L.lc :: (L.is ++ (L.cs ++ L.ps))
structure BillAt (C : Cl) (H : Hp) (p : Addr) (L : Lay) (g : Bool) (b : Kp223.Bill) : Prop where
  ob : ∃ dx, H p = some (.ins C.B dx (billK.zip (biV g b L)))
  le : H L.le = some (.lst (L.is.map V.ref))
  lc : H L.lc = some (.lst (L.cs.map V.ref))
  ni : L.is.length = b.items.length
  nc : L.cs.length = b.certs.length
  np : L.ps.length = b.certs.length
  it : ∀ (j : Nat) (a : Addr) (x : Kp223.Item), L.is[j]? = some a → b.items[j]? = some x → ∃ dx, H a = some (.ins C.I dx (itemK.zip (itV x)))
  ct : ∀ (j : Nat) (a q : Addr) (c : Kp223.Cert), L.cs[j]? = some a → L.ps[j]? = some q → b.certs[j]? = some c → (∃ dx, H a = some (.ins C.C dx (certK.zip (ceV c q)))) ∧ H q = some (.lst (c.trades.map V.int))
  nd : (foot p L).Nodup
section
variable {C : Cl} {H H' : Hp} {p : Addr} {L : Lay} {g : Bool} {b : Kp223.Bill}
theorem foot_p : p ∈ foot p L := List.mem_cons_self ..
theorem foot_le : L.le ∈ foot p L := List.mem_cons_of_mem _ (List.mem_cons_self ..)
theorem foot_lc : L.lc ∈ foot p L := List.mem_cons_of_mem _ (List.mem_cons_of_mem _ (List.mem_cons_self ..))
theorem foot_is {a : Addr} (h : a ∈ L.is) : a ∈ foot p L := List.mem_cons_of_mem _ (List.mem_cons_of_mem _ (List.mem_cons_of_mem _ (List.mem_append_left _ h)))
theorem foot_cs {a : Addr} (h : a ∈ L.cs) : a ∈ foot p L := List.mem_cons_of_mem _ (List.mem_cons_of_mem _ (List.mem_cons_of_mem _ (List.mem_append_right _ (List.mem_append_left _ h))))
theorem foot_ps {a : Addr} (h : a ∈ L.ps) : a ∈ foot p L := List.mem_cons_of_mem _ (List.mem_cons_of_mem _ (List.mem_cons_of_mem _ (List.mem_append_right _ (List.mem_append_right _ h))))
theorem foot_iff {a : Addr} : a ∈ foot p L ↔ a = p ∨ a = L.le ∨ a = L.lc ∨ a ∈ L.is ∨ a ∈ L.cs ∨ a ∈ L.ps := by
  unfold foot
  simp only [List.mem_cons, List.mem_append]
/-- what differs -/
structure Apart (p : Addr) (L : Lay) : Prop where
  p_le : p ≠ L.le
  p_lc : p ≠ L.lc
  le_lc : L.le ≠ L.lc
  p_is : ∀ a ∈ L.is, a ≠ p
  p_cs : ∀ a ∈ L.cs, a ≠ p
  p_ps : ∀ a ∈ L.ps, a ≠ p
  le_is : ∀ a ∈ L.is, a ≠ L.le
  le_cs : ∀ a ∈ L.cs, a ≠ L.le
  le_ps : ∀ a ∈ L.ps, a ≠ L.le
  lc_is : ∀ a ∈ L.is, a ≠ L.lc
  lc_cs : ∀ a ∈ L.cs, a ≠ L.lc
  lc_ps : ∀ a ∈ L.ps, a ≠ L.lc
  is_cs : ∀ a ∈ L.is, ∀ c ∈ L.cs, a ≠ c
  is_ps : ∀ a ∈ L.is, ∀ c ∈ L.ps, a ≠ c
  cs_ps : ∀ a ∈ L.cs, ∀ c ∈ L.ps, a ≠ c
  nis : L.is.Nodup
  ncs : L.cs.Nodup
  nps : L.ps.Nodup
theorem apart_of (h : (foot p L).Nodup) : Apart p L := by
  unfold foot at h
  simp only [List.nodup_cons, List.mem_cons, List.mem_append, List.nodup_append, not_or] at h
  obtain ⟨⟨h1, h2, h3, h4, h5⟩, ⟨h6, h7, h8, h9⟩, ⟨h10, h11, h12⟩, h13, ⟨h14, h15, h16⟩, h17⟩ := h
  exact ⟨h1, h2, h6, fun a ha e => h3 (e ▸ ha), fun a ha e => h4 (e ▸ ha), fun a ha e => h5 (e ▸ ha), fun a ha e => h7 (e ▸ ha), fun a ha e => h8 (e ▸ ha), fun a ha e => h9 (e ▸ ha),
    fun a ha e => h10 (e ▸ ha), fun a ha e => h11 (e ▸ ha), fun a ha e => h12 (e ▸ ha), fun a ha c hc => h17 a ha c (.inl hc), fun a ha c hc => h17 a ha c (.inr hc), h16, h13, h14, h15⟩
theorem nodup_of (x : Apart p L) : (foot p L).Nodup := by
  unfold foot
  simp only [List.nodup_cons, List.mem_cons, List.mem_append, List.nodup_append, not_or]
  exact ⟨⟨x.p_le, x.p_lc, fun h => x.p_is _ h rfl, fun h => x.p_cs _ h rfl, fun h => x.p_ps _ h rfl⟩, ⟨x.le_lc, fun h => x.le_is _ h rfl, fun h => x.le_cs _ h rfl, fun h => x.le_ps _ h rfl⟩,
    ⟨fun h => x.lc_is _ h rfl, fun h => x.lc_cs _ h rfl, fun h => x.lc_ps _ h rfl⟩, x.nis, ⟨x.ncs, x.nps, x.cs_ps⟩, fun a ha c hc => hc.elim (x.is_cs a ha c) (x.is_ps a ha c)⟩
theorem BillAt.ap (B : BillAt C H p L g b) : Apart p L := apart_of B.nd
/-- every object of it is there -/
theorem BillAt.there (B : BillAt C H p L g b) {a : Addr} (h : a ∈ foot p L) : ∃ o, H a = some o := by
  rcases foot_iff.mp h with rfl | rfl | rfl | h | h | h
  · obtain ⟨dx, e⟩ := B.ob; exact ⟨_, e⟩
  · exact ⟨_, B.le⟩
  · exact ⟨_, B.lc⟩
  · obtain ⟨j, hj⟩ := List.mem_iff_getElem?.mp h
    have hlt := (List.getElem?_eq_some_iff.mp hj).1
    rw [B.ni] at hlt
    obtain ⟨dx, e⟩ := B.it j a _ hj (List.getElem?_eq_getElem hlt)
    exact ⟨_, e⟩
  · obtain ⟨j, hj⟩ := List.mem_iff_getElem?.mp h
    have hlt := (List.getElem?_eq_some_iff.mp hj).1
    rw [B.nc] at hlt
    obtain ⟨⟨dx, e⟩, _⟩ := B.ct j a _ _ hj (List.getElem?_eq_getElem (by rw [B.np]; exact hlt)) (List.getElem?_eq_getElem hlt)
    exact ⟨_, e⟩
  · obtain ⟨j, hj⟩ := List.mem_iff_getElem?.mp h
    have hlt := (List.getElem?_eq_some_iff.mp hj).1
    rw [B.np] at hlt
    obtain ⟨_, e⟩ := B.ct j _ a _ (List.getElem?_eq_getElem (by rw [B.nc]; exact hlt)) hj (List.getElem?_eq_getElem hlt)
    exact ⟨_, e⟩
theorem BillAt.mono (B : BillAt C H p L g b) (k : ∀ a ∈ foot p L, ∀ o, H a = some o → H' a = some o) : BillAt C H' p L g b := by
  refine ⟨?_, k _ foot_le _ B.le, k _ foot_lc _ B.lc, B.ni, B.nc, B.np, fun j a x h1 h2 => ?_, fun j a q c h1 h2 h3 => ?_, B.nd⟩
  · obtain ⟨dx, e⟩ := B.ob; exact ⟨dx, k _ foot_p _ e⟩
  · obtain ⟨dx, e⟩ := B.it j a x h1 h2; exact ⟨dx, k _ (foot_is (List.mem_of_getElem? h1)) _ e⟩
  · obtain ⟨⟨dx, e⟩, e2⟩ := B.ct j a q c h1 h2 h3
    exact ⟨⟨dx, k _ (foot_cs (List.mem_of_getElem? h1)) _ e⟩, k _ (foot_ps (List.mem_of_getElem? h2)) _ e2⟩
theorem BillAt.same (B : BillAt C H p L g b) (s : Same H H') : BillAt C H' p L g b := B.mono fun a _ o e => s a o e
/-- an item written anew -/
theorem BillAt.setItem (B : BillAt C H p L g b) {i : Nat} {a dx : Addr} {x : Kp223.Item} (ha : L.is[i]? = some a) : BillAt C (upd H a (.ins C.I dx (itemK.zip (itV x)))) p L g (Kp223.set b i x) := by
  have A := B.ap
  have ma := List.mem_of_getElem? ha
  refine ⟨?_, by rw [upd_ne (A.le_is a ma).symm]; exact B.le, by rw [upd_ne (A.lc_is a ma).symm]; exact B.lc, ?_, B.nc, B.np, fun j c y h1 h2 => ?_, fun j c q y h1 h2 h3 => ?_, B.nd⟩
  · obtain ⟨d, e⟩ := B.ob
    exact ⟨d, by rw [upd_ne (A.p_is a ma).symm]; exact e⟩
  · show L.is.length = (b.items.set i x).length
    rw [List.length_set]; exact B.ni
  · have h2 : (b.items.set i x)[j]? = some y := h2
    by_cases hj : j = i
    · subst hj
      have e : c = a := Option.some.inj (h1.symm.trans ha)
      subst e
      have hlt : j < b.items.length := by rw [← B.ni]; exact (List.getElem?_eq_some_iff.mp h1).1
      rw [List.getElem?_set_self hlt] at h2
      cases h2
      exact ⟨dx, upd_same⟩
    · rw [List.getElem?_set_ne (fun q => hj q.symm)] at h2
      have ne : c ≠ a := fun e => by
        obtain ⟨l1, e1⟩ := List.getElem?_eq_some_iff.mp h1
        obtain ⟨l2, e2⟩ := List.getElem?_eq_some_iff.mp ha
        exact hj ((List.getElem_inj (h₀ := l1) (h₁ := l2) A.nis).mp (e1.trans (e.trans e2.symm)))
      rw [upd_ne ne]
      exact B.it j c y h1 h2
  · obtain ⟨⟨d, e⟩, e2⟩ := B.ct j c q y h1 h2 h3
    exact ⟨⟨d, by rw [upd_ne (fun z => A.is_cs a ma c (List.mem_of_getElem? h1) z.symm)]; exact e⟩, by rw [upd_ne (fun z => A.is_ps a ma q (List.mem_of_getElem? h2) z.symm)]; exact e2⟩
/-- a certificate written anew, its parts as they were -/
theorem BillAt.setCert (B : BillAt C H p L g b) {i : Nat} {a q dx : Addr} {c c' : Kp223.Cert} (ha : L.cs[i]? = some a) (hq : L.ps[i]? = some q) (hc : b.certs[i]? = some c) (ht : c'.trades = c.trades) :
    BillAt C (upd H a (.ins C.C dx (certK.zip (ceV c' q)))) p L g { b with certs := b.certs.set i c' } := by
  have A := B.ap
  have ma := List.mem_of_getElem? ha
  refine ⟨?_, by rw [upd_ne (A.le_cs a ma).symm]; exact B.le, by rw [upd_ne (A.lc_cs a ma).symm]; exact B.lc, B.ni, ?_, ?_, fun j d y h1 h2 => ?_, fun j d r y h1 h2 h3 => ?_, B.nd⟩
  · obtain ⟨d, e⟩ := B.ob
    exact ⟨d, by rw [upd_ne (A.p_cs a ma).symm]; exact e⟩
  · show L.cs.length = (b.certs.set i c').length
    rw [List.length_set]; exact B.nc
  · show L.ps.length = (b.certs.set i c').length
    rw [List.length_set]; exact B.np
  · obtain ⟨e0, e⟩ := B.it j d y h1 h2
    exact ⟨e0, by rw [upd_ne (A.is_cs d (List.mem_of_getElem? h1) a ma)]; exact e⟩
  · have h3 : (b.certs.set i c')[j]? = some y := h3
    by_cases hj : j = i
    · subst hj
      have e : d = a := Option.some.inj (h1.symm.trans ha)
      subst e
      have e : r = q := Option.some.inj (h2.symm.trans hq)
      subst e
      rw [List.getElem?_set_self (List.getElem?_eq_some_iff.mp hc).1] at h3
      cases h3
      obtain ⟨_, e2⟩ := B.ct j d r c h1 h2 hc
      exact ⟨⟨dx, upd_same⟩, by rw [upd_ne (fun z => A.cs_ps d ma r (List.mem_of_getElem? h2) z.symm), ht]; exact e2⟩
    · rw [List.getElem?_set_ne (fun z => hj z.symm)] at h3
      have ne : d ≠ a := fun e => by
        obtain ⟨l1, e1⟩ := List.getElem?_eq_some_iff.mp h1
        obtain ⟨l2, e2⟩ := List.getElem?_eq_some_iff.mp ha
        exact hj ((List.getElem_inj (h₀ := l1) (h₁ := l2) A.ncs).mp (e1.trans (e.trans e2.symm)))
      obtain ⟨⟨d0, e⟩, e2⟩ := B.ct j d r y h1 h2 h3
      exact ⟨⟨d0, by rw [upd_ne ne]; exact e⟩, by rw [upd_ne (fun z => A.cs_ps a ma r (List.mem_of_getElem? h2) z.symm)]; exact e2⟩
/-- the bill's own attributes written anew, the lists as they were -/
theorem BillAt.setOwn (B : BillAt C H p L g b) {dx : Addr} {g' : Bool} {b' : Kp223.Bill} (h1 : b'.items = b.items) (h2 : b'.certs = b.certs) : BillAt C (upd H p (.ins C.B dx (billK.zip (biV g' b' L)))) p L g' b' := by
  have A := B.ap
  refine ⟨⟨dx, upd_same⟩, by rw [upd_ne A.p_le.symm]; exact B.le, by rw [upd_ne A.p_lc.symm]; exact B.lc, by rw [h1]; exact B.ni, by rw [h2]; exact B.nc, by rw [h2]; exact B.np, fun j d y e1 e2 => ?_, fun j d r y e1 e2 e3 => ?_, B.nd⟩
  · rw [h1] at e2
    obtain ⟨e0, e⟩ := B.it j d y e1 e2
    exact ⟨e0, by rw [upd_ne (A.p_is d (List.mem_of_getElem? e1))]; exact e⟩
  · rw [h2] at e3
    obtain ⟨⟨d0, e⟩, e4⟩ := B.ct j d r y e1 e2 e3
    exact ⟨⟨d0, by rw [upd_ne (A.p_cs d (List.mem_of_getElem? e1))]; exact e⟩, by rw [upd_ne (A.p_ps r (List.mem_of_getElem? e2))]; exact e4⟩
/-- one item more -/
theorem BillAt.addItem (B : BillAt C H p L g b) {a dx : Addr} {x : Kp223.Item} (na : a ∉ foot p L) (hk : ∀ c ∈ foot p L, ∀ o, H c = some o → H' c = some o) (ha : H' a = some (.ins C.I dx (itemK.zip (itV x)))) :
    BillAt C (upd H' L.le (.lst (L.is.map V.ref ++ [.ref a]))) p { L with is := L.is ++ [a] } g { b with items := b.items ++ [x] } := by
  have A := B.ap
  have B' := B.mono hk
  simp only [foot_iff, not_or] at na
  obtain ⟨n1, n2, n3, n4, n5, n6⟩ := na
  refine ⟨?_, ?_, by rw [upd_ne A.le_lc.symm]; exact B'.lc, ?_, B.nc, B.np, fun j d y h1 h2 => ?_, fun j d r y h1 h2 h3 => ?_, nodup_of ⟨A.p_le, A.p_lc, A.le_lc, ?_, A.p_cs, A.p_ps, ?_, A.le_cs, A.le_ps, ?_, A.lc_cs, A.lc_ps, ?_, ?_, A.cs_ps, ?_, A.ncs, A.nps⟩⟩
  · obtain ⟨d, e⟩ := B'.ob
    exact ⟨d, by rw [upd_ne A.p_le]; exact e⟩
  · show upd H' L.le _ L.le = some (.lst ((L.is ++ [a]).map V.ref))
    rw [upd_same, List.map_append]; rfl
  · show (L.is ++ [a]).length = (b.items ++ [x]).length
    rw [List.length_append, List.length_append, B.ni]; rfl
  · have h1 : (L.is ++ [a])[j]? = some d := h1
    have h2 : (b.items ++ [x])[j]? = some y := h2
    by_cases hj : j < L.is.length
    · rw [List.getElem?_append_left hj] at h1
      rw [List.getElem?_append_left (by rw [← B.ni]; exact hj)] at h2
      obtain ⟨d0, e⟩ := B'.it j d y h1 h2
      exact ⟨d0, by rw [upd_ne (A.le_is d (List.mem_of_getElem? h1))]; exact e⟩
    · have hl := (List.getElem?_eq_some_iff.mp h1).1
      rw [List.length_append, List.length_singleton] at hl
      have ej : j = L.is.length := by omega
      subst ej
      rw [List.getElem?_append_right (Nat.le_refl _), Nat.sub_self] at h1
      rw [B.ni, List.getElem?_append_right (Nat.le_refl _), Nat.sub_self] at h2
      have e1 : a = d := by simpa using h1
      have e2 : x = y := by simpa using h2
      subst e1 e2
      exact ⟨dx, by rw [upd_ne n2]; exact ha⟩
  · obtain ⟨⟨d0, e⟩, e4⟩ := B'.ct j d r y h1 h2 h3
    exact ⟨⟨d0, by rw [upd_ne (A.le_cs d (List.mem_of_getElem? h1))]; exact e⟩, by rw [upd_ne (A.le_ps r (List.mem_of_getElem? h2))]; exact e4⟩
  · intro c hc
    rcases List.mem_append.mp hc with hc | hc
    · exact A.p_is c hc
    · rw [List.mem_singleton.mp hc]; exact n1
  · intro c hc
    rcases List.mem_append.mp hc with hc | hc
    · exact A.le_is c hc
    · rw [List.mem_singleton.mp hc]; exact n2
  · intro c hc
    rcases List.mem_append.mp hc with hc | hc
    · exact A.lc_is c hc
    · rw [List.mem_singleton.mp hc]; exact n3
  · intro c hc d hd
    rcases List.mem_append.mp hc with hc | hc
    · exact A.is_cs c hc d hd
    · rw [List.mem_singleton.mp hc]; exact fun e => n5 (e ▸ hd)
  · intro c hc d hd
    rcases List.mem_append.mp hc with hc | hc
    · exact A.is_ps c hc d hd
    · rw [List.mem_singleton.mp hc]; exact fun e => n6 (e ▸ hd)
  · refine List.nodup_append.mpr ⟨A.nis, by simp, fun c hc d hd => ?_⟩
    rw [List.mem_singleton.mp hd]
    exact fun e => n4 (e ▸ hc)
/-- one certificate more -/
theorem BillAt.addCert (B : BillAt C H p L g b) {a q dx : Addr} {c : Kp223.Cert} (na : a ∉ foot p L) (nq : q ∉ foot p L) (naq : a ≠ q) (hk : ∀ c ∈ foot p L, ∀ o, H c = some o → H' c = some o) (ha : H' a = some (.ins C.C dx (certK.zip (ceV c q)))) (hq : H' q = some (.lst (c.trades.map V.int))) :
    BillAt C (upd H' L.lc (.lst (L.cs.map V.ref ++ [.ref a]))) p { L with cs := L.cs ++ [a], ps := L.ps ++ [q] } g { b with certs := b.certs ++ [c] } := by
  have A := B.ap
  have B' := B.mono hk
  simp only [foot_iff, not_or] at na nq
  obtain ⟨n1, n2, n3, n4, n5, n6⟩ := na
  obtain ⟨m1, m2, m3, m4, m5, m6⟩ := nq
  refine ⟨?_, by rw [upd_ne A.le_lc]; exact B'.le, ?_, B.ni, ?_, ?_, fun j d y h1 h2 => ?_, fun j d r y h1 h2 h3 => ?_, nodup_of ⟨A.p_le, A.p_lc, A.le_lc, A.p_is, ?_, ?_, A.le_is, ?_, ?_, A.lc_is, ?_, ?_, ?_, ?_, ?_, A.nis, ?_, ?_⟩⟩
  · obtain ⟨d, e⟩ := B'.ob
    exact ⟨d, by rw [upd_ne A.p_lc]; exact e⟩
  · show upd H' L.lc _ L.lc = some (.lst ((L.cs ++ [a]).map V.ref))
    rw [upd_same, List.map_append]; rfl
  · show (L.cs ++ [a]).length = (b.certs ++ [c]).length
    rw [List.length_append, List.length_append, B.nc]; rfl
  · show (L.ps ++ [q]).length = (b.certs ++ [c]).length
    rw [List.length_append, List.length_append, B.np]; rfl
  · obtain ⟨d0, e⟩ := B'.it j d y h1 h2
    exact ⟨d0, by rw [upd_ne (A.lc_is d (List.mem_of_getElem? h1))]; exact e⟩
  · have h1 : (L.cs ++ [a])[j]? = some d := h1
    have h2 : (L.ps ++ [q])[j]? = some r := h2
    have h3 : (b.certs ++ [c])[j]? = some y := h3
    by_cases hj : j < b.certs.length
    · rw [List.getElem?_append_left (by rw [B.nc]; exact hj)] at h1
      rw [List.getElem?_append_left (by rw [B.np]; exact hj)] at h2
      rw [List.getElem?_append_left hj] at h3
      obtain ⟨⟨d0, e⟩, e4⟩ := B'.ct j d r y h1 h2 h3
      exact ⟨⟨d0, by rw [upd_ne (A.lc_cs d (List.mem_of_getElem? h1))]; exact e⟩, by rw [upd_ne (A.lc_ps r (List.mem_of_getElem? h2))]; exact e4⟩
    · have hl := (List.getElem?_eq_some_iff.mp h3).1
      rw [List.length_append, List.length_singleton] at hl
      have ej : j = b.certs.length := by omega
      subst ej
      rw [← B.nc, List.getElem?_append_right (Nat.le_refl _), Nat.sub_self] at h1
      rw [← B.np, List.getElem?_append_right (Nat.le_refl _), Nat.sub_self] at h2
      rw [List.getElem?_append_right (Nat.le_refl _), Nat.sub_self] at h3
      have e1 : a = d := by simpa using h1
      have e2 : q = r := by simpa using h2
      have e3 : c = y := by simpa using h3
      subst e1 e2 e3
      exact ⟨⟨dx, by rw [upd_ne n3]; exact ha⟩, by rw [upd_ne m3]; exact hq⟩
  · intro c hc
    rcases List.mem_append.mp hc with hc | hc
    · exact A.p_cs c hc
    · rw [List.mem_singleton.mp hc]; exact n1
  · intro c hc
    rcases List.mem_append.mp hc with hc | hc
    · exact A.p_ps c hc
    · rw [List.mem_singleton.mp hc]; exact m1
  · intro c hc
    rcases List.mem_append.mp hc with hc | hc
    · exact A.le_cs c hc
    · rw [List.mem_singleton.mp hc]; exact n2
  · intro c hc
    rcases List.mem_append.mp hc with hc | hc
    · exact A.le_ps c hc
    · rw [List.mem_singleton.mp hc]; exact m2
  · intro c hc
    rcases List.mem_append.mp hc with hc | hc
    · exact A.lc_cs c hc
    · rw [List.mem_singleton.mp hc]; exact n3
  · intro c hc
    rcases List.mem_append.mp hc with hc | hc
    · exact A.lc_ps c hc
    · rw [List.mem_singleton.mp hc]; exact m3
  · intro c hc d hd
    rcases List.mem_append.mp hd with hd | hd
    · exact A.is_cs c hc d hd
    · rw [List.mem_singleton.mp hd]; exact fun e => n4 (e ▸ hc)
  · intro c hc d hd
    rcases List.mem_append.mp hd with hd | hd
    · exact A.is_ps c hc d hd
    · rw [List.mem_singleton.mp hd]; exact fun e => m4 (e ▸ hc)
  · intro c hc d hd
    rcases List.mem_append.mp hc with hc | hc
    · rcases List.mem_append.mp hd with hd | hd
      · exact A.cs_ps c hc d hd
      · rw [List.mem_singleton.mp hd]; exact fun e => m5 (e ▸ hc)
    · rw [List.mem_singleton.mp hc]
      rcases List.mem_append.mp hd with hd | hd
      · exact fun e => n6 (e ▸ hd)
      · rw [List.mem_singleton.mp hd]; exact naq
  · refine List.nodup_append.mpr ⟨A.ncs, by simp, fun c hc d hd => ?_⟩
    rw [List.mem_singleton.mp hd]
    exact fun e => n5 (e ▸ hc)
  · refine List.nodup_append.mpr ⟨A.nps, by simp, fun c hc d hd => ?_⟩
    rw [List.mem_singleton.mp hd]
    exact fun e => m6 (e ▸ hc)
/-- a bill begun -/
theorem BillAt.fresh {p dx le lc : Addr} {b : Kp223.Bill} (hb : H p = some (.ins C.B dx (billK.zip (biV g b ⟨le, lc, [], [], []⟩)))) (h1 : H le = some (.lst [])) (h2 : H lc = some (.lst [])) (n : le ≠ lc) (e1 : b.items = []) (e2 : b.certs = []) :
    BillAt C H p ⟨le, lc, [], [], []⟩ g b := by
  have n1 : p ≠ le := ne_of hb h1 (by intro z; cases z)
  have n2 : p ≠ lc := ne_of hb h2 (by intro z; cases z)
  refine ⟨⟨dx, hb⟩, h1, h2, by rw [e1]; rfl, by rw [e2]; rfl, by rw [e2]; rfl, fun j a x h => ?_, fun j a q c h => ?_, ?_⟩
  · simp at h
  · simp at h
  · unfold foot
    simp [n1, n2, n]
end
end Mp

set_option Elab.async false
set_option linter.all false
set_option maxRecDepth 100000
set_option maxHeartbeats 2000000
/-! Rules of our own over the layer: a call of what an expression gives, a division by a greater divisor, a sort by the key «-rests[t]». -/
namespace Mp
open PySem PySem.Spec PyProof.Rows L2

/-! ### f(..) where f is any expression -/
def tCallV (X : Cx) (tf : TE) (t : TA) : TE := fun σ H Q => tf σ H fun v H1 => ∃ (f : Addr) (fd : FuncData) (ps : List Str) (sp : Sp) (k : Nat), v = .ref f ∧ FnOk X.prog X.w X.K X.mg X.base CX0 k f fd ps sp ∧ Room k X.A ∧
  PySem.W.keepIn X.K (.ref f) = true ∧ Binds X.K fd ps [] ∧ t σ H1 fun vs H2 => sp vs H2 Q E0
theorem pe_callV {X : Cx} {func e : Expr} {es : List Expr} {tf : TE} {t : TA} {pos : Pos} (hf : PE X func tf) (ha : PA X (e :: es) t)
    (he : starEach (e :: es) X.env = (false, eval e X.env) :: starEach es X.env := by rfl) (hpl : (backTo pos (starEach es X.env)).any (·.1) = false := by rfl)
    (hc : eval (.Call func (e :: es) [] pos) X.env = (do callWith pos (← eval func X.env) [] (backTo pos (starEach (e :: es) X.env)) (backToKw pos (keywordEach [] X.env))) := by rfl) :
    PE X (.Call func (e :: es) [] pos) (tCallV X tf t) := by
  intro pins s σ H Q I h
  refine Call_ (thn (hf pins s σ H _ I h) fun v s1 ⟨x, H1, I1, r1, f, fd, ps, sp, k, ex, F, hr, hk, hb, q1⟩ => ?_) hc
  subst ex
  obtain rfl : v = Value.ref f := r1
  refine PySem.W.callWith_K (h₀ := X.base) I1.ok.mod.kin hk (thn (ha pos pins s1 σ H1 _ I1 q1) fun us s2 ⟨vs, H2, I2, r, q2⟩ => ⟨I2.kIn, ?_⟩) he hpl
  exact run_fn (E := E0) F hr hb .nil pass0 I2 r (by rw [List.append_nil]; exact q2)

/-! ### // by a positive divisor below 2 ^ 64 -/
theorem log2_lt {n : Nat} (h : n < 2 ^ 64) : n.log2 < 9000 := by
  by_cases h0 : n = 0
  · subst h0; decide
  · have := (Nat.log2_lt h0).mpr h
    omega
theorem op_fdivW {X : Cx} : OpR X (binaryOp .FloorDiv) (rI (fun _ j => 0 < j ∧ j < 2 ^ 64) fun i j => .int (i / j)) := opI fun i j _ _ _ _ _ hc q => by
  have h1 : (0 : Int) < j := hc.1
  have h2 : j < 2 ^ 64 := hc.2
  exact floordiv_int (by omega) (by rw [Int.fdiv_eq_ediv_of_nonneg i (by omega)]; exact q) (.inl (PyProof.noPylong_of_log2 (log2_lt (by omega))))

/-! ### the code table of a def grows -/
theorem Inv.table {X : Cx} {pins : List (Addr × Obj)} {σ : L2.St} {H : Hp} {s : Shared} {h' : Heap} {P : Addr} {ps more : Array Value} {t' : Nat} (I : Inv X pins σ H s) (hP : H P = some (.tbl ps)) (k : ∀ b o, b ≠ P → s.heap.get? b = some o → h'.get? b = some o)
    (hn : h'.get? P = some { cls := .none, data := .fields (ps ++ more) }) : Inv X pins σ (upd H P (.tbl (ps ++ more))) { s with heap := h', toks := t' } := by
  have ne : ∀ b, H b = none → b ≠ P := fun b n z => by rw [z, hP] at n; cases n
  refine I.un ⟨fun b o q n _ _ => k b o (ne b n) q, fun b o q n _ _ => ⟨o.slots, k b o (ne b n) q⟩, fun b o q n _ => by rw [upd_ne (ne b n)]; exact n, fun b o q _ => ?_,
    fun b xs q => by rw [upd_ne (ne_of q hP (by intro z; cases z))]; exact q, fun b o u q => by rw [upd_ne (ne_of q hP (by intro z; cases z))]; exact q, fun b qs q => ?_⟩ ?_
  · by_cases hb : b = P
    · subst hb; exact ⟨_, hn⟩
    · exact ⟨o, k b o hb q⟩
  · by_cases hb : b = P
    · subst hb
      rw [hP] at q
      cases q
      exact ⟨more, upd_same⟩
    · exact ⟨#[], by rw [upd_ne hb, q]; simp⟩
  · intro b u q
    by_cases hb : b = P
    · subst hb
      rw [upd_same] at q
      cases q
      exact hn
    · rw [upd_ne hb] at q
      refine (I.hok b u q).stay (fun c v hc r => k c v ?_ r) (fun c r => by rw [upd_ne (ne_of r hP (by intro z; cases z))]; exact r) fun c xs r => by rw [upd_ne (ne_of r hP (by intro z; cases z))]; exact r
      rcases hc with z | z
      · rw [z]; exact hb
      · exact ne_of z hP (by intro z; cases z)

/-! ### a lambda's code and function objects, tracked -/
def CodeO (c : Addr) (qual : Str) : HO := .ext fun h => h.CodeRec (.ref c) qual
/-- the table of the code at hand: still empty, or with the lambda's code in it -/
def Tab (lpos : Pos) (qual : Str) (P : Addr) (H : Hp) : Prop :=
  H P = some (.tbl #[]) ∨ ∃ c, H P = some (.tbl #[rawInt lpos.line, rawInt lpos.col, .ref c]) ∧ H c = some (CodeO c qual)
theorem Tab.mono {lpos : Pos} {qual : Str} {P : Addr} {H H' : Hp} (t : Tab lpos qual P H) (k : ∀ b o, H b = some o → (b = P ∨ (∃ q c, o = CodeO c q)) → H' b = some o) : Tab lpos qual P H' := by
  rcases t with t | ⟨c, t1, t2⟩
  · exact .inl (k _ _ t (.inl rfl))
  · exact .inr ⟨c, k _ _ t1 (.inl rfl), k _ _ t2 (.inr ⟨_, _, rfl⟩)⟩
/-- what the base tells of the def's code and of the builtins -/
structure LamOk (mg : Str → Option Value) (base : Heap) (c P : Addr) : Prop where
  hd : PySem.W.CodeHd base c P
  gP : mainGlobals ≠ P
  bt : base.BuiltinsAt mg P
theorem codeRec_stay {c : Addr} {qual : Str} {h1 h2 : Heap} (x : h1.CodeRec (.ref c) qual) (k : ∀ o, h1.get? c = some o → h2.get? c = some o) : h2.CodeRec (.ref c) qual := by
  obtain ⟨c', oc, vs, tq, e, ho, r⟩ := x
  cases e
  exact ⟨_, oc, vs, tq, rfl, k _ ho, r⟩
theorem codeRec_at {c : Addr} {qual : Str} {h : Heap} (x : h.CodeRec (.ref c) qual) : ∃ o, h.get? c = some o := by
  obtain ⟨c', oc, vs, tq, e, ho, r⟩ := x
  cases e
  exact ⟨_, ho⟩
theorem codeAmong_hit (p : Pos) (c : Addr) : codeAmong p (#[rawInt p.line, rawInt p.col, .ref c] : Array Value).toList = some (.ref c) := by
  show codeAmong p [Value.int (p.line : Nat) 0, Value.int (p.col : Nat) 0, .ref c] = some (.ref c)
  simp [codeAmong]
theorem triples0 : TriplesOk (#[] : Array Value).toList := by first | exact trivial | simp [TriplesOk]
theorem triples1 (p : Pos) (c : Addr) : TriplesOk (#[rawInt p.line, rawInt p.col, .ref c] : Array Value).toList := by
  first | exact trivial | simp [TriplesOk]
end Mp

set_option Elab.async false
set_option linter.all false
set_option maxRecDepth 100000
set_option maxHeartbeats 4000000
namespace Mp
open PySem PySem.Spec PyProof.Rows L2

/-! ### the key's lambda: «-R[t]», R a name around it -/
/-- what the lambda's text is -/
structure LamText (params : Arguments) (scope : Scope) (t R : Str) : Prop where
  bind : ∀ (name qual : Str) (body : Expr) (cl : List (Str × Addr)) (pm cd ct u : Value), bindArgs (PySem.W.kla_fn name qual params body scope cl pm cd ct) ⟨[u], []⟩ = pure [(t, u)]
  dflt : ∀ env, defaultsOf params env = ([], [])
  kind : scope.kind = .function
  co : scope.isCoroutine = false
  gen : scope.isGenerator = false
  tl : scope.names.lookup t = some .local
  rl : scope.names.lookup R = some .free
  nc : ∀ x ∈ scope.names, x.2 ≠ .cell
  dt : (t == ("__debug__" : Str)) = false
  dR : (R == ("__debug__" : Str)) = false
  cR : (R == ("__classdict__" : Str)) = false
abbrev lamBody (R t : Str) (p1 p2 p3 p4 : Pos) : Expr := .UnaryOp .USub (.Subscript (.Name R p1) (.Name t p2) p3) p4

/-- the lambda called at an index: the item there, its sign turned; the heap grows -/
theorem lam_call {prog : Program} {w : World} {A : Around} {E : Value → Shared → Prop} {s : Shared} {Q : Value → Shared → Prop} {params : Arguments} {scope : Scope} {t R qual : Str} {p1 p2 p3 p4 : Pos} {f c cc lr : Addr} {pm ctv : Value} {its : List Value} {n : Nat} {k : Int} {tn tk0 : Tok}
    (T : LamText params scope t R) (hroom : A.depth < recursionLimit) (hlim : s.heap.NoLimit)
    (hf : s.heap.get? f = some (PySem.W.kla_obj "<lambda>" qual params (lamBody R t p1 p2 p3 p4) scope [(R, cc)] pm c ctv)) (hcd : s.heap.CodeRec (.ref c) qual)
    (hcell : s.heap.IsCell cc (some (.ref lr))) (hl : s.heap.IsList lr its.toArray) (hn : (n : Int) < 2 ^ 63) (hi : its[n]? = some (.int k tk0))
    (h : ∀ h' tk t', (∀ b o, s.heap.get? b = some o → h'.get? b = some o) → Q (.int (-k) t') { s with heap := h', toks := tk }) :
    wpAny (model prog w) A (call (.ref f) [.int n tn]) Q E s := by
  refine wpAny_call (PySem.W.kla_callFunE hroom hf rfl T.co T.gen rfl hcd ?_)
  rw [T.bind]
  refine wpAny_pure (wpAny_newFunctionEnv T.nc (fun x hx => ?_) (fun h1 hns hsb => ?_) T.kind)
  · have e : x = (t, Value.int n tn) := by simpa using hx
    subst e
    exact T.tl
  · have hk : ∀ b o, s.heap.get? b = some o → h1.get? b = some o := fun b o e => hsb.extBut b o (Nat.ne_of_lt (Heap.lt_size e)) (Heap.get?_push_of_some _ e)
    refine ⟨hlim.keeps hk, PySem.W.kla_codeExpr ?_⟩
    refine UnaryOp_ (Subscript_ (wpAny_Name (wpAny_loadName_free (c := cc) T.kind T.rl ?_ (hcell.keeps hk) ?_ T.cR) T.dR))
    · show List.lookup R [(R, cc)] = some cc
      simp [List.lookup]
    · refine wpAny_Name (wpAny_loadName_local T.kind T.tl hns (v := .int n tn) ?_ ?_) T.dt
      · show List.lookup t [(t, Value.int n tn)] = some (.int n tn)
        simp [List.lookup]
      · have hl1 : h1.IsList lr its.toArray := let ⟨o, e, r⟩ := hl; ⟨o, hk _ _ e, r⟩
        refine item_listR (x := .int k tk0) hl1 (by omega) hn (by simpa using hi) ?_ rfl
        exact neg_int (h h1 _ _ hk)
end Mp

set_option Elab.async false
set_option linter.all false
set_option maxRecDepth 100000
set_option maxHeartbeats 4000000
namespace Mp
open PySem PySem.Spec PyProof.Rows L2

section
variable {X : Cx} {pins : List (Addr × Obj)} {σ : L2.St} {H : Hp} {s : Shared}
/-- the function object of the lambda, tracked -/
def FunO (f : Addr) (qual : Str) (params : Arguments) (body : Expr) (scope : Scope) (clos : List (Str × Addr)) (c : Addr) : HO :=
  .ext fun h => ∃ pm ctv, h.get? f = some (PySem.W.kla_obj "<lambda>" qual params body scope clos pm c ctv)
theorem ext_ok {H : Hp} {h : Heap} {a : Addr} {φ : Heap → Prop} (p : φ h) (o : ∃ o, h.get? a = some o) (st : ∀ h1 h2 : Heap, φ h1 → (∀ o, h1.get? a = some o → h2.get? a = some o) → φ h2) : ObjOk X.prog X.w H h a (.ext φ) := ⟨p, o, st⟩
theorem codeO_ok {H : Hp} {h : Heap} {c : Addr} {qual : Str} (x : h.CodeRec (.ref c) qual) : ObjOk X.prog X.w H h c (CodeO c qual) :=
  ⟨x, codeRec_at x, fun _ _ p k => codeRec_stay p k⟩
theorem funO_ok {H : Hp} {h : Heap} {f c : Addr} {qual : Str} {params : Arguments} {body : Expr} {scope : Scope} {clos : List (Str × Addr)} {pm ctv : Value} (x : h.get? f = some (PySem.W.kla_obj "<lambda>" qual params body scope clos pm c ctv)) :
    ObjOk X.prog X.w H h f (FunO f qual params body scope clos c) :=
  ⟨⟨pm, ctv, x⟩, ⟨_, x⟩, fun _ _ ⟨pm, ctv, p⟩ k => ⟨pm, ctv, k _ p⟩⟩

/-- the lambda made: its code is in the table behind it -/
theorem lam_make {params : Arguments} {body : Expr} {scope : Scope} {lpos : Pos} {clos : List (Str × Addr)} {cd P : Addr} {Q : Value → Shared → Prop} (I : Inv X pins σ H s) (L : LamOk X.mg X.base cd P) (hcode : X.env.code = .ref cd)
    (hdef : defaultsOf params X.env = ([], [])) (hcl : closureFor scope X.env = pure clos) (tab : Tab lpos (X.env.qual ++ "<lambda>") P H)
    (h : ∀ (f c : Addr) (H' : Hp) (s' : Shared), Inv X pins σ H' s' → Tab lpos (X.env.qual ++ "<lambda>") P H' → (∀ b o, H b = some o → b ≠ P → H' b = some o) → H f = none → H' f = some (FunO f (X.env.qual ++ "<lambda>") params body scope clos c) → H' c = some (CodeO c (X.env.qual ++ "<lambda>")) → Q (.ref f) s') :
    wpAny (model X.prog X.w) X.A (eval (.Lambda params body scope lpos) X.env) Q X.xe s := by
  refine PySem.W.kla_eval hdef ?_
  have hg : s.heap.Ns mainGlobals X.mg := I.mod.glob.keeps I.bk
  have hb : s.heap.BuiltinsAt X.mg P := L.bt.keeps I.bk
  have C : PySem.W.CodeHd s.heap cd P := L.hd.keeps I.bk
  rcases tab with hP | ⟨c, hP, hc⟩
  · have e0 : s.heap.get? P = some (PySem.W.tabObj #[]) := I.hok P _ hP
    refine PySem.W.kla_makeFunction (mg := X.mg) hcl I.ok.glob hg hcode C e0 triples0 rfl L.gP hb fun c ctv h' tk hx hge hlt hrec htb => ?_
    have kp : ∀ b o, b ≠ P → s.heap.get? b = some o → h'.get? b = some o := fun b o hb' e => hx b o hb' e
    have I1 : Inv X pins σ (upd H P (.tbl (#[] ++ #[rawInt lpos.line, rawInt lpos.col, .ref c]))) { s with heap := h', toks := tk } := Mp.Inv.table I hP kp htb
    have nP : P < s.heap.objs.size := Heap.lt_size e0
    have ncP : c ≠ P := fun z => by rw [z] at hge; exact absurd nP (Nat.not_lt.mpr hge)
    have Hc : H c = none := I.hok.fresh hge
    -- the code object, tracked
    have I2 : Inv X pins σ (upd (upd H P (.tbl (#[] ++ #[rawInt lpos.line, rawInt lpos.col, .ref c]))) c (CodeO c (X.env.qual ++ "<lambda>"))) { s with heap := h', toks := tk } := by
      have Hc1 : upd H P (.tbl (#[] ++ #[rawInt lpos.line, rawInt lpos.col, .ref c])) c = none := by rw [upd_ne ncP]; exact Hc
      refine I.step (g' := s.gens) (d' := s.drawn) (ch := []) (fun _ z => nomatch z) (fun b o _ _ _ e n => kp b o (fun z => by rw [z, hP] at n; cases n) e) (fun b o _ _ _ e n => ⟨o.slots, kp b o (fun z => by rw [z, hP] at n; cases n) e⟩)
        (fun b o _ e n => ?_) (fun b o _ e => ?_) (fun b xs e => ?_) (fun b o u e => ?_) (fun b ps e => ?_) (fun m hm => ?_) (fun b u e => ?_) I.bare
      · have n1 : b ≠ c := Nat.ne_of_lt (Nat.lt_of_lt_of_le (Heap.lt_size e) hge)
        have n2 : b ≠ P := fun z => by rw [z, hP] at n; cases n
        rw [upd_ne n1, upd_ne n2]; exact n
      · by_cases hb' : b = P
        · subst hb'; exact ⟨_, htb⟩
        · exact ⟨o, kp b o hb' e⟩
      · rw [upd_ne (ne_of_none e Hc), upd_ne (ne_of e hP (by intro z; cases z))]; exact e
      · rw [upd_ne (ne_of_none e Hc), upd_ne (ne_of e hP (by intro z; cases z))]; exact e
      · by_cases hb' : b = P
        · subst hb'
          rw [hP] at e
          cases e
          exact ⟨_, by rw [upd_ne ncP.symm, upd_same]⟩
        · exact ⟨#[], by rw [upd_ne (ne_of_none e Hc), upd_ne hb', e]; simp⟩
      · obtain ⟨o, es, ep, ho, r⟩ := hm
        refine ⟨o, es, ep, kp _ o (fun z => ?_) ho, r⟩
        have := I.free
        rw [z, hP] at this
        cases this
      · by_cases hb' : b = c
        · subst hb'
          rw [upd_same] at e
          cases e
          exact codeO_ok hrec
        · rw [upd_ne hb'] at e
          refine (I1.hok b u e).stay (fun _ _ _ q => q) (fun d q => ?_) fun d xs q => ?_
          · rw [upd_ne (ne_of_none q Hc1)]; exact q
          · rw [upd_ne (ne_of_none q Hc1)]; exact q
    have hsz : s.heap.objs.size ≤ h'.objs.size := Nat.le_trans hge (Nat.le_of_lt hlt)
    have Hf : H h'.objs.size = none := I.hok.fresh hsz
    have I3 := I2.laid (a := h'.objs.size) (o := FunO h'.objs.size (X.env.qual ++ "<lambda>") params body scope clos c) (t' := tk) (h' := h'.push (PySem.W.kla_obj "<lambda>" (X.env.qual ++ "<lambda>") params body scope clos ((X.mg "__name__").getD .none) c ctv))
      (fun b o e => Heap.get?_push_of_some _ e) (Nat.le_refl _) (funO_ok (pm := (X.mg "__name__").getD .none) (ctv := ctv) (Heap.get?_push_size _ rfl))
    have nfc : h'.objs.size ≠ c := Nat.ne_of_gt hlt
    have nfP : h'.objs.size ≠ P := Nat.ne_of_gt (Nat.lt_of_lt_of_le nP hsz)
    refine h h'.objs.size c _ _ I3 (.inr ⟨c, ?_, ?_⟩) (fun b o e hb' => ?_) Hf upd_same ?_
    · rw [upd_ne nfP.symm, upd_ne ncP.symm, upd_same]
      simp
    · rw [upd_ne nfc.symm, upd_same]
    · rw [upd_ne (ne_of_none e Hf), upd_ne (ne_of_none e Hc), upd_ne hb']; exact e
    · rw [upd_ne nfc.symm, upd_same]
  · have e0 : s.heap.get? P = some (PySem.W.tabObj #[rawInt lpos.line, rawInt lpos.col, .ref c]) := I.hok P _ hP
    refine PySem.W.kla_makeFunctionHit (mg := X.mg) (cv := .ref c) hcl I.ok.glob hg hcode C e0 (triples1 lpos c) (codeAmong_hit lpos c) hb fun ctv h' tk hk hsz => ?_
    have I1 : Inv X pins σ H { s with heap := h', toks := tk } := I.kept hk
    have Hf : H h'.objs.size = none := I.hok.fresh hsz
    have I3 := I1.laid (a := h'.objs.size) (o := FunO h'.objs.size (X.env.qual ++ "<lambda>") params body scope clos c) (t' := tk) (h' := h'.push (PySem.W.kla_obj "<lambda>" (X.env.qual ++ "<lambda>") params body scope clos ((X.mg "__name__").getD .none) c ctv))
      (fun b o e => Heap.get?_push_of_some _ e) (Nat.le_refl _) (funO_ok (pm := (X.mg "__name__").getD .none) (ctv := ctv) (Heap.get?_push_size _ rfl))
    refine h h'.objs.size c _ _ I3 (.inr ⟨c, ?_, ?_⟩) (fun b o e hb' => ?_) Hf upd_same ?_
    · rw [upd_ne (ne_of_none hP Hf)]; exact hP
    · rw [upd_ne (ne_of_none hc Hf)]; exact hc
    · rw [upd_ne (ne_of_none e Hf)]; exact e
    · rw [upd_ne (ne_of_none hc Hf)]; exact hc
end
end Mp

set_option Elab.async false
set_option linter.all false
set_option maxRecDepth 100000
set_option maxHeartbeats 4000000
namespace Mp
open PySem PySem.Spec PyProof.Rows L2

/-! ### the items of a range, collected -/
def upTo (n : Nat) : List Int := (List.range n).map fun i => ((i : Nat) : Int)
theorem intsAre_of {n : Nat} {acc : Array Value} (h : ItemsOf (fun i v => ∃ t, v = .int (0 + ((i : Nat) : Int) * 1) t) acc n) : IntsAre acc.toList (upTo n) := by
  obtain ⟨hs, hv⟩ := h
  have key : ∀ (l : List Value) (k : Nat), (∀ j v, l[j]? = some v → ∃ t, v = Value.int (((k + j : Nat)) : Int) t) → IntsAre l ((List.range' k l.length).map fun i => ((i : Nat) : Int)) := by
    intro l
    induction l with
    | nil => intro k _; exact .nil
    | cons x l ih =>
      intro k hx
      obtain ⟨t, e⟩ := hx 0 x rfl
      subst e
      show IntsAre _ (((k : Nat) : Int) :: (List.range' (k + 1) l.length).map fun i => ((i : Nat) : Int))
      refine .cons _ t (ih (k + 1) fun j v hj => ?_)
      obtain ⟨t', e'⟩ := hx (j + 1) v (by simpa using hj)
      exact ⟨t', by rw [e']; congr 1; omega⟩
  have q := key acc.toList 0 fun j v hj => by
    obtain ⟨t, e⟩ := hv j v (by simpa using hj)
    exact ⟨t, by rw [e]; congr 1; omega⟩
  rw [Array.length_toList, hs, ← List.range_eq_range'] at q
  exact q
theorem collect_range {prog : Program} {w : World} {A : Around} {E : Value → Shared → Prop} {s : Shared} {Q : List Value → Shared → Prop} {r : Addr} {n : Nat} {t u v : Tok} (hh : A.handled = none) (hr : IsRange s.heap r 0 (n : Int) 1 t u v) (hn : n ≤ 1000)
    (h : ∀ h' tk vs, (∀ b o, s.heap.get? b = some o → h'.get? b = some o) → s.heap.objs.size ≤ h'.objs.size → IntsAre vs (upTo n) → Q vs { s with heap := h', toks := tk }) :
    wpAny (model prog w) A (collect (.ref r)) Q E s := by
  have hsmall : Builtin.Range.small 0 (n : Int) 1 = true := small_one (by decide) (by decide) (by omega) (by omega)
  have hsize : Builtin.Range.rangeSize 0 (n : Int) 1 = (n : Int) := by rw [rangeSize_one]; split <;> omega
  unfold collect; refine wpAny_bind (wpAny_runValue (codeAny_builtin entry_proto_collect' ?_))
  show wpAny _ _ (do again (.builtin "list.__iadd__" ⟨[← newList [], .ref r], []⟩)) _ _ s; refine wpAny_bind (wpAny_newList (wpAny_pure ⟨Code.quiet_builtin _ (by decide +kernel), codeAny_builtin entry_list_iadd' ?_⟩))
  have hS : (s.heap.push (seqObj "list" #[] 0)).get? s.heap.objs.size = some (seqObj "list" #[] 0) := Heap.get?_push_size _ rfl
  refine wpAny_extend_range (prog := prog) (w := w) (A := A) (R := fun r s' => match r with
      | .ok (.ret v) => wpAny (model prog w) A (match v with
        | .ref a => (do
          let o ← load a
          match o.data with
          | .seq xs _ => pure xs.toList
          | _ => unsupported "internal:collect")
        | _ => unsupported "internal:collect") Q E s'
      | .ok _ => False
      | .error e => E e s') (s := { s with heap := s.heap.push (seqObj "list" #[] 0) }) (n := n) hh (Heap.get?_push_of_some _ hr) hsmall hsize (by omega) s.heap.objs.size (.ref s.heap.objs.size) 0 hS fun h' tk acc c hk hS' hit => ?_
  have kp : ∀ b o, s.heap.get? b = some o → h'.get? b = some o := fun b o e => hk b o (Nat.ne_of_lt (Heap.lt_size e)) (Heap.get?_push_of_some _ e)
  refine wpAny_bind (wpAny_load hS' ?_)
  exact wpAny_pure (h h' tk acc.toList kp (Nat.le_of_lt (Heap.lt_size hS')) (intsAre_of hit))

/-! ### what a sort by an int key gives -/
theorem zip_key (g : Int → Int) : ∀ {vs : List Value} {ns : List Int}, IntsAre vs ns → (∀ p ∈ (ns.map g).zip vs, p.1 = g (numOf p.2) ∧ ∃ t, p.2 = .int (numOf p.2) t) ∧ ((ns.map g).zip vs).map (fun p => numOf p.2) = ns
  | _, _, .nil => ⟨fun p hp => by simp at hp, rfl⟩
  | _, _, .cons n t r => by
    obtain ⟨h1, h2⟩ := zip_key g r
    refine ⟨fun p hp => ?_, ?_⟩
    · rw [List.map_cons, List.zip_cons_cons] at hp
      rcases List.mem_cons.mp hp with rfl | hp
      · exact ⟨rfl, t, rfl⟩
      · exact h1 p hp
    · rw [List.map_cons, List.zip_cons_cons, List.map_cons, h2]; rfl
theorem sorted_facts {g : Int → Int} {vs out : List Value} {ns : List Int} (hi : IntsAre vs ns) (k : KskOutSt false (ns.map g) vs out) :
    ∃ os : List Int, IntsAre out os ∧ os.Perm ns ∧ os.Pairwise (fun x y => g x ≤ g y) ∧ ∀ z, os.filter (fun x => g x == z) = ns.filter (fun x => g x == z) := by
  obtain ⟨ps, hp, ho, hs, hst⟩ := k
  obtain ⟨z1, z2⟩ := zip_key g hi
  have m : ∀ p ∈ ps, p.1 = g (numOf p.2) ∧ ∃ t, p.2 = .int (numOf p.2) t := fun p q => z1 p (hp.mem_iff.mp q)
  have fil : ∀ (l : List (Int × Value)) (z : Int), (∀ p ∈ l, p.1 = g (numOf p.2)) → (l.map fun p => numOf p.2).filter (fun x => g x == z) = (l.filter fun p => p.1 == z).map fun p => numOf p.2 := fun l z hl => by
    rw [List.filter_map]
    refine congrArg (List.map _) (List.filter_congr fun p q => ?_)
    show (g (numOf p.2) == z) = (p.1 == z)
    rw [hl p q]
  have allI : ∀ l : List (Int × Value), (∀ p ∈ l, ∃ t, p.2 = .int (numOf p.2) t) → IntsAre (l.map Prod.snd) (l.map fun p => numOf p.2) := fun l => by
    induction l with
    | nil => intro _; exact .nil
    | cons p l ih =>
      intro hl
      obtain ⟨t, e⟩ := hl p (List.mem_cons_self ..)
      rw [List.map_cons, List.map_cons]
      have r := ih fun q hq => hl q (List.mem_cons_of_mem _ hq)
      rw [e]
      exact .cons _ t r
  refine ⟨ps.map fun p => numOf p.2, ?_, ?_, ?_, fun z => ?_⟩
  · rw [ho]; exact allI ps fun p q => (m p q).2
  · have q := hp.map fun p : Int × Value => numOf p.2
    rw [z2] at q
    exact q
  · rw [List.pairwise_map]
    refine hs.imp_of_mem fun {a b} ha hb hab => ?_
    have hab : a.1 ≤ b.1 := hab
    rw [(m a ha).1, (m b hb).1] at hab
    exact hab
  · rw [fil ps z fun p q => (m p q).1, hst z, ← fil _ z fun p q => (z1 p q).1, z2]
end Mp

set_option Elab.async false
set_option linter.all false
set_option maxRecDepth 100000
set_option maxHeartbeats 4000000
namespace Mp
open PySem PySem.Spec PyProof.Rows L2

section
variable {X : Cx} {pins : List (Addr × Obj)} {σ : L2.St} {H : Hp} {s : Shared}
/-- -R[t] of the item at t -/
def negAt (rs : List Int) (t : Int) : Int := -(rs.getD t.toNat 0)
theorem sorted_key {Q : VK} {params : Arguments} {scope : Scope} {t R qual : Str} {p1 p2 p3 p4 : Pos} {r f c cc lr : Addr} {n : Nat} {rs : List Int} {k : Nat} (I : Inv X pins σ H s) (hc : X.calm = true) (hrm : Room (k + 2) X.A) (T : LamText params scope t R)
    (hr : H r = some (.rng 0 (n : Int))) (hn : n ≤ 1000) (hf : H f = some (FunO f qual params (lamBody R t p1 p2 p3 p4) scope [(R, cc)] c)) (hcd : H c = some (CodeO c qual)) (hce : X.env.cells.lookup R = some cc) (hcell : s.heap.IsCell cc (some (.ref lr)))
    (hl : H lr = some (.lst (rs.map V.int))) (hlen : n ≤ rs.length)
    (q : ∀ (D : Addr) (os : List Int), os.Perm (upTo n) → os.Pairwise (fun x y => negAt rs x ≤ negAt rs y) → (∀ z, os.filter (fun x => negAt rs x == z) = (upTo n).filter (fun x => negAt rs x == z)) → H D = none → Q (.ref D) (upd H D (.lst (os.map V.int)))) :
    wpAny (model X.prog X.w) X.A (call (.builtin "sorted") [.ref r] [(Str.ofString "key", .ref f)]) (EP X pins σ Q) X.xe s := by
  obtain ⟨ta, tb, tc, hrng⟩ := I.hok r _ hr
  obtain ⟨⟨pm, ctv, hfo⟩, _⟩ := I.hok f _ hf
  obtain ⟨hco, _⟩ := I.hok c _ hcd
  obtain ⟨its, nl, rv, hlo, _⟩ := Inv.lst I hl
  obtain ⟨m, hns, _⟩ := id I.loc
  have hh : X.A.handled = none := I.ok.hd hc
  refine call_function_entry_kw kind_sorted plain_sorted entry_sorted (ksk_s1 _ _) ?_
  unfold Builtin.«sorted»; refine wpAny_bind (m := checkCount "sorted" 1 1 _) (wpAny_pure (wpAny_bind (collect_range (A := X.A.in1) (n := n) hh hrng hn fun h1 tk1 vs kp1 hsz hi => ?_)))
  have hlv : vs.length = n := by rw [hi.length]; unfold upTo; simp
  refine wpAny_bind (wpAny_newList ?_ (by rw [hlv, sizeLine_eq]; omega))
  have hD : (h1.push (seqObj "list" vs.toArray 0)).get? h1.objs.size = some (seqObj "list" vs.toArray 0) := Heap.get?_push_size _ rfl
  have kp : ∀ b o, s.heap.get? b = some o → (h1.push (seqObj "list" vs.toArray 0)).get? b = some o := fun b o e => Heap.get?_push_of_some _ (kp1 b o e)
  have nL : h1.objs.size ≠ X.env.locals := Nat.ne_of_gt (Nat.lt_of_lt_of_le I.lt hsz)
  have neD : ∀ b o, s.heap.get? b = some o → b ≠ h1.objs.size := fun b o e => Nat.ne_of_lt (Nat.lt_of_lt_of_le (Heap.lt_size e) hsz)
  have neL : ∀ b u, H b = some u → b ≠ X.env.locals := fun b u e z => by rw [z, I.free] at e; cases e
  refine wpAny_bind (wpAny_holding (wpAny_call_entry_kw slot_list_sort ⟨_, hD, rfl⟩ entry_list_sort ?body (ksk_l1 _ _)))
  case body =>
    rw [ksk_t1]
    refine ksk_sortSt (s := { s with heap := h1.push (seqObj "list" vs.toArray 0), toks := tk1 }) (kz := (upTo n).map (negAt rs)) (news := Att.ledger (h1.push (seqObj "list" vs.toArray 0)) X.env.locals h1.objs.size) (Att.fr_all (hns.keeps kp))
      (fun p hp => Att.news_ledger nL hD p (List.mem_cons_of_mem _ hp)) hD nL (Att.noObjs_get _ _) (fun ⟨b, o⟩ hp => (Att.mem_ledger.mp hp).2.1) ?len (by rw [hlv, sizeLine_eq]; omega) (fun i v z hv hz h tk own F' N' => ?turn) (fun h' tk out ep F' N' ko => ⟨_, rfl, ?fin⟩)
    case len => rw [hlv, List.length_map]; unfold upTo; simp
    case turn =>
      have hi' : i < n := by
        have := (List.getElem?_eq_some_iff.mp hv).1
        omega
      have hu : (upTo n)[i]? = some ((i : Nat) : Int) := by
        unfold upTo
        rw [List.getElem?_map, List.getElem?_range hi']; rfl
      obtain ⟨tv, ev⟩ := hi.get i _ hu
      rw [ev] at hv
      cases hv
      rw [List.getElem?_map, hu] at hz
      have hz : negAt rs ((i : Nat) : Int) = z := Option.some.inj hz
      obtain ⟨y, hy⟩ : ∃ y, rs[i]? = some y := ⟨_, List.getElem?_eq_getElem (by omega)⟩
      have ey : z = -y := by
        rw [← hz]
        unfold negAt
        rw [Int.toNat_natCast, List.getD_eq_getElem?_getD, hy]; rfl
      obtain ⟨u, hu2, ru⟩ := rv.get (i := i) (x := V.int y) (by rw [List.getElem?_map, hy]; rfl)
      obtain ⟨tu, rfl⟩ := ru
      have kh : ∀ b o, b ≠ X.env.locals → s.heap.get? b = some o → h.get? b = some o := fun b o n e => (N' (b, o) (List.mem_append_left _ (Att.mem_ledger.mpr ⟨n, neD b o e, kp b o e⟩))).1
      have hlim : h.NoLimit := by
        obtain ⟨mc, hm, r⟩ := I.nolimit
        exact ⟨mc, (by
          obtain ⟨o, es, ep, ho, rr⟩ := hm
          by_cases e : cStatics = X.env.locals
          · rw [e] at ho ⊢
            have e1 := Heap.Ns.eq_nsMap (⟨o, es, ep, ho, rr⟩ : s.heap.Ns X.env.locals mc)
            have e2 := Heap.Ns.eq_nsMap hns
            rw [e1, ← e2]
            exact F'.ns
          · exact ⟨o, es, ep, kh _ o e ho, rr⟩), r⟩
      have hcc : h.IsCell cc (some (.ref lr)) := by
        obtain ⟨o, ho, hd⟩ := hcell
        exact ⟨o, kh _ o (I.cne R cc hce) ho, hd⟩
      refine lam_call (s := { s with heap := h, toks := tk }) (A := X.A.in1.in1) (k := y) (its := its) (pm := pm) (ctv := ctv) (c := c) (cc := cc) (lr := lr) T (Room.depth (Room.in1 (Room.in1 hrm))) hlim (kh _ _ (neL f _ hf) hfo) ?_ hcc ⟨_, kh _ _ (neL lr _ hl) hlo, rfl, nl, rfl⟩ (by omega) hu2 fun h' tk' t' kk => ?_
      · obtain ⟨c', oc, ws, tq, e, ho, r⟩ := hco
        cases e
        exact ⟨_, oc, ws, tq, rfl, kh _ _ (neL c _ hcd) ho, r⟩
      · rw [ey]
        exact ⟨h', tk', t', rfl, rfl, F'.kept kk, N'.grown kk⟩
    case fin =>
      obtain ⟨os, o1, o2, o3, o4⟩ := sorted_facts (g := negAt rs) hi ko
      have HD : H h1.objs.size = none := I.hok.fresh hsz
      have gD : h'.get? h1.objs.size = some (seqObj "list" out ep) := (N' _ (List.mem_cons_self ..)).1
      have kh : ∀ b o, b ≠ X.env.locals → s.heap.get? b = some o → h'.get? b = some o := fun b o n e => (N' (b, o) (List.mem_cons_of_mem _ (Att.mem_ledger.mpr ⟨n, neD b o e, kp b o e⟩))).1
      have olen : (os.map V.int).length ≤ sizeLine := by
        rw [List.length_map, o2.length_eq]
        unfold upTo
        rw [List.length_map, List.length_range, sizeLine_eq]
        omega
      have I2 : Inv X pins σ (upd H h1.objs.size (.lst (os.map V.int))) { s with heap := h', toks := tk } := by
        refine I.step (g' := s.gens) (d' := s.drawn) (ch := []) (fun _ z => nomatch z) (fun b o n _ _ e _ => kh b o n e) (fun b o n _ _ e _ => ⟨o.slots, kh b o n e⟩) (fun b o _ e n => by rw [upd_ne (neD b o e)]; exact n) (fun b o _ e => ?_)
          (fun b xs e => by rw [upd_ne (ne_of_none e HD)]; exact e) (fun b o u e => by rw [upd_ne (ne_of_none e HD)]; exact e) (fun b ps e => ⟨#[], by rw [upd_ne (ne_of_none e HD), e]; simp⟩) (fun m' hm' => ?_) (fun b u e => ?_) I.bare
        · by_cases n : b = X.env.locals
          · obtain ⟨o', es, ep', ho', _⟩ := F'.ns
            exact ⟨o', by rw [n]; exact ho'⟩
          · exact ⟨o, kh b o n e⟩
        · rw [Heap.Ns.eq_nsMap hm', ← Heap.Ns.eq_nsMap hns]
          exact F'.ns
        · by_cases hb : b = h1.objs.size
          · subst hb
            rw [upd_same] at e
            cases e
            exact ⟨olen, out.toList, ep, vals_of_ints o1, by rw [gD]⟩
          · rw [upd_ne hb] at e
            refine (I.hok b u e).stay (fun d v hd r => kh d v ?_ r) (fun d r => by rw [upd_ne (ne_of_none r HD)]; exact r) fun d xs r => by rw [upd_ne (ne_of_none r HD)]; exact r
            rcases hd with z | z
            · rw [z]; exact neL b u e
            · exact neL d _ z
      exact wpAny_pure ⟨_, rfl, .ref h1.objs.size, _, I2, rfl, q _ os o2 o3 o4 HD⟩
end
end Mp

set_option Elab.async false
set_option linter.all false
set_option maxRecDepth 100000
set_option maxHeartbeats 4000000
namespace Mp
open PySem PySem.Spec PyProof.Rows L2

/-! ### sorted(range(n), key=lambda t: -R[t]) -/
def tSortKey (P : Addr) (lpos : Pos) (qual : Str) (ir : Nat) (ta : TA) : TE := fun σ H Q => ta σ H fun vs H1 => ∃ (n : Nat) (lr : Addr) (rs : List Int), vs = [.int (n : Nat)] ∧ n ≤ 1000 ∧ σ[ir]? = some (some (.ref lr)) ∧ H1 lr = some (.lst (rs.map V.int)) ∧ n ≤ rs.length ∧ Tab lpos qual P H1 ∧
  ∀ (D : Addr) (H2 : Hp) (os : List Int), os.Perm (upTo n) → os.Pairwise (fun x y => negAt rs x ≤ negAt rs y) → (∀ z, os.filter (fun x => negAt rs x == z) = (upTo n).filter (fun x => negAt rs x == z)) → Tab lpos qual P H2 →
    (∀ b o, H1 b = some o → b ≠ P → H2 b = some o) → H1 D = none → H2 D = some (.lst (os.map V.int)) → Q (.ref D) H2
theorem Tab.at {lpos : Pos} {qual : Str} {P : Addr} {H : Hp} (t : Tab lpos qual P H) : ∃ ps, H P = some (.tbl ps) := by
  rcases t with t | ⟨c, t, _⟩
  · exact ⟨_, t⟩
  · exact ⟨_, t⟩
theorem Tab.same {lpos : Pos} {qual : Str} {P : Addr} {H H' : Hp} (t : Tab lpos qual P H) (s : Same H H') : Tab lpos qual P H' := t.mono fun b o e _ => s b o e
theorem pe_sortKey {X : Cx} {a : Expr} {ta : TA} {params : Arguments} {scope : Scope} {t R : Str} {p1 p2 p3 p4 p5 p6 p7 lpos kp pos : Pos} {cd P : Addr} {ir k : Nat} (hc : X.calm = true) (hrm : Room (k + 2) X.A) (T : LamText params scope t R) (L : LamOk X.mg X.base cd P) (hcode : X.env.code = .ref cd)
    (hgs : Gl X "sorted") (hms : X.mg "sorted" = none) (hgr : Gl X "range") (hmr : X.mg "range" = none) (hN : X.N[ir]? = some R) (hv : X.env.kindOf R = some .cell) (hcl : ∀ cc, X.env.cells.lookup R = some cc → closureFor scope X.env = pure [(R, cc)])
    (ha : PA X [a] ta) (hs : starEach [a] X.env = [(false, eval a X.env)] := by rfl) (hs2 : starEach [.Call (.Name "range" p6) [a] [] p7] X.env = [(false, eval (.Call (.Name "range" p6) [a] [] p7) X.env)] := by rfl) :
    PE X (.Call (.Name "sorted" p5) [.Call (.Name "range" p6) [a] [] p7] [⟨some "key", .Lambda params (lamBody R t p1 p2 p3 p4) scope lpos, kp⟩] pos) (tSortKey P lpos (X.env.qual ++ "<lambda>") ir ta) := by
  intro pins s σ H Q I h
  refine wpAny_Call_Name_kw (ld_blt I hgs hms boot_sorted ?_)
  refine PyProof.Rows.callWith_kw ?_ (by rw [hs2]; rfl) (by rw [hs2]; rfl)
  refine args_cons ?_ hs2
  refine Call_ (ld_blt I hgr hmr boot_range (PyProof.Rows.callWith_type1 (thn (ha _ pins s σ H _ I h) fun us s1 ⟨vs, H1, I1, r1, q1⟩ => ?_) hs rfl))
  obtain ⟨n, lr, rs, rfl, hn, hsl, hlr, hlen, tab, q⟩ := q1
  cases r1 with
  | cons r rr =>
    cases rr
    obtain ⟨tn, rfl⟩ := r
    refine call_range_1 (args_nil (kws_cons ?_))
    have fr1 : H1 s1.heap.objs.size = none := I1.hok.fresh (Nat.le_refl _)
    have I2 := I1.laid (a := s1.heap.objs.size) (o := .rng 0 (n : Int)) (t' := s1.toks + 1 + 1) (h' := s1.heap.push { cls := .type "range", data := .fields #[.int 0 s1.toks, .int (n : Int) tn, .int 1 (s1.toks + 1)] })
      (fun b o e => Heap.get?_push_of_some _ e) (Nat.le_refl _) ⟨_, _, _, Heap.get?_push_size _ rfl⟩
    have sm : Same H1 (upd H1 s1.heap.objs.size (.rng 0 (n : Int))) := fun b o e => by rw [upd_ne (ne_of_none e fr1)]; exact e
    obtain ⟨cc, hcc⟩ := I.ok.has R (.inl hv)
    refine lam_make I2 L hcode (T.dflt _) (hcl cc hcc) (tab.same sm) fun f c H' s' I' tab' k' nf hf hcd => ?_
    refine kws_nil ?_
    obtain ⟨psP, hP⟩ := (tab.same sm).at
    have hr' : H' s1.heap.objs.size = some (.rng 0 (n : Int)) := k' _ _ upd_same (ne_of (upd_same (o := HO.rng 0 (n : Int))) hP (by intro z; cases z))
    have hlr' : H' lr = some (.lst (rs.map V.int)) := k' _ _ (sm _ _ hlr) (ne_of (sm _ _ hlr) hP (by intro z; cases z))
    have hcell : s'.heap.IsCell cc (some (.ref lr)) := by
      obtain ⟨m, _, hl⟩ := I'.loc
      obtain ⟨u, ru, l⟩ := hl ir R (.ref lr) hN hsl (.inr (.inl hv))
      cases ru
      rcases l with ⟨z, _⟩ | ⟨_, c2, hc2, hcell⟩
      · rw [hv] at z; cases z
      · rw [hcc] at hc2
        cases hc2
        exact hcell
    refine sorted_key I' hc hrm T hr' hn hf hcd hcc hcell hlr' hlen fun D os o1 o2 o3 hD => ?_
    have hD1 : H1 D = none := by
      cases e : H1 D with
      | none => rfl
      | some o =>
        have e2 := sm _ _ e
        by_cases z : D = P
        · subst z
          obtain ⟨ps', e3⟩ := tab'.at
          rw [hD] at e3
          cases e3
        · rw [k' _ _ e2 z] at hD
          cases hD
    have sm2 : Same H' (upd H' D (.lst (os.map V.int))) := fun b o e => by rw [upd_ne (ne_of_none e hD)]; exact e
    exact q D _ os o1 o2 o3 (tab'.same sm2) (fun b o e hb => sm2 _ _ (k' _ _ (sm _ _ e) hb)) hD1 upd_same
end Mp

namespace Mp
open PySem L2
def top (i : Nat) : Stmt := PySem.Challenge.pw_measuredpay_s01_answers.main.body.getD i (.Pass ⟨0, 0, 0, 0⟩)
abbrev s_Item_init : Stmt := inClass (top 17) 0
abbrev s_Certificate_init : Stmt := inClass (top 18) 0
abbrev s_Certificate_unpaid : Stmt := inClass (top 18) 1
abbrev s_Bill_init : Stmt := inClass (top 19) 0
abbrev s_Bill_start : Stmt := inClass (top 19) 1
abbrev s_Bill_has_item : Stmt := inClass (top 19) 2
abbrev s_Bill_has_certificate : Stmt := inClass (top 19) 3
abbrev s_Bill_all_done : Stmt := inClass (top 19) 4
abbrev s_Bill_value : Stmt := inClass (top 19) 5
abbrev s_Bill_contract : Stmt := inClass (top 19) 6
abbrev s_Bill_kept : Stmt := inClass (top 19) 7
abbrev s_Bill_owed : Stmt := inClass (top 19) 8
abbrev s_Bill_certified : Stmt := inClass (top 19) 9
abbrev s_Bill_all_paid : Stmt := inClass (top 19) 10
abbrev s_Bill_due : Stmt := inClass (top 19) 11
abbrev s_Bill_trade_value : Stmt := inClass (top 19) 12
abbrev s_Bill_trade_got : Stmt := inClass (top 19) 13
abbrev s_shares : Stmt := top 20
abbrev lamAt_shares : Pos := ⟨94, 43, 94, 62⟩
abbrev lamSt_shares : Nat := 4
abbrev s_parts_by_trade : Stmt := top 21
abbrev s_begin : Stmt := top 22
abbrev s_item : Stmt := top 23
abbrev s_change : Stmt := top 24
abbrev s_measure : Stmt := top 25
abbrev s_value : Stmt := top 26
abbrev s_contract : Stmt := top 27
abbrev s_left : Stmt := top 28
abbrev s_kept : Stmt := top 29
abbrev s_due : Stmt := top 30
abbrev s_certify : Stmt := top 31
abbrev s_pay : Stmt := top 32
abbrev s_still_open : Stmt := top 33
abbrev s_split : Stmt := top 34
abbrev s_of_trade : Stmt := top 35
abbrev s_hand : Stmt := top 36
abbrev s_close : Stmt := top 37
abbrev s_sums : Stmt := top 38
abbrev s_look : Stmt := top 39
abbrev s_state : Stmt := top 40
abbrev s_answer : Stmt := top 42
abbrev s_answers : Stmt := top 43
end Mp

set_option Elab.async false
set_option linter.all false
set_option maxRecDepth 100000
set_option maxHeartbeats 4000000
namespace Mp
open PySem PySem.Spec PyProof.Rows L2

/-! ### a comprehension over a list that stands -/
theorem wipe1 {σ : L2.St} {i : Nat} {x : Option V} : wipe ((wipe σ [i]).set i x) [i] = wipe σ [i] := by
  show ((σ.set i none).set i x).set i none = σ.set i none
  rw [List.set_set, List.set_set]
theorem lc_filter {K : PySem.W.Frag} {a : Addr} {xs : List V} {g : TG} {tt : TT} {te : TE} {vs : List Nat} {σ : L2.St} {H1 : Hp} {D : Addr} {Qd : Hp → Prop} (ys : List (Option V)) (hl : SqL K H1 a xs) (hD : H1 D = none) (hlen : xs.length = ys.length) (hz : ys.length ≤ 1000)
    (hs : ∀ (i : Nat) (x : V) (y : Option V) (H : Hp), xs[i]? = some x → ys[i]? = some y → Same H1 H → ∀ (R : V → Hp → Prop) (S : Hp → Prop), (∀ v, y = some v → R v H) → (y = none → S H) →
      g x (wipe σ vs) H fun σ2 H2 => wipe σ2 vs = wipe σ vs ∧ tt σ2 H2 fun b H3 => if b = true then te σ2 H3 R else S H3)
    (hd : ∀ H, Same H1 H → H D = some (.lst (ys.filterMap id)) → Qd H) :
    ∃ W : Nat → Nat → Hp → Prop, (∃ m, W 0 m (upd H1 D (.lst []))) ∧ ∀ i m H, W i m H →
      ((Itl K a).stop i H ∧ Qd H) ∨ ((Itl K a).go i H ∧ ∃ Nx : Hp → Prop, (∀ H', Nx H' → ∃ m', m' < m ∧ W (i + 1) m' H') ∧ ∀ x H', (Itl K a).yld i H x H' → g x (wipe σ vs) H' fun σ2 H2 => wipe σ2 vs = wipe σ vs ∧ tt σ2 H2 fun b H3 =>
        if b = true then te σ2 H3 fun y H4 => ∃ acc, H4 D = some (.lst acc) ∧ acc.length < sizeLine ∧ Nx (upd H4 D (.lst (acc ++ [y]))) else Nx H3) := by
  have s0 : Same H1 (upd H1 D (.lst [])) := fun b o e => by rw [upd_ne (ne_of_none e hD)]; exact e
  refine lc_list (xs := xs) (fun i H => Same H1 H ∧ H D = some (.lst ((ys.take i).filterMap id))) ⟨s0, upd_same⟩ (fun i H _ p => p.1.seq hl) (fun i x H hx p => ?_) (fun H p => ?_)
  · have hi : i < ys.length := by rw [← hlen]; exact (List.getElem?_eq_some_iff.mp hx).1
    obtain ⟨y, hy⟩ : ∃ y, ys[i]? = some y := ⟨_, List.getElem?_eq_getElem hi⟩
    have et : ys.take (i + 1) = ys.take i ++ [y] := by rw [List.take_add_one, hy]; rfl
    refine hs i x y H hx hy p.1 (fun v H4 => ∃ acc, H4 D = some (.lst acc) ∧ acc.length < sizeLine ∧ (Same H1 (upd H4 D (.lst (acc ++ [v]))) ∧ upd H4 D (.lst (acc ++ [v])) D = some (.lst ((ys.take (i + 1)).filterMap id)))) (fun H3 => Same H1 H3 ∧ H3 D = some (.lst ((ys.take (i + 1)).filterMap id))) (fun v e => ?_) (fun e => ?_)
    · subst e
      refine ⟨_, p.2, ?_, fun b o e => by rw [upd_ne (ne_of_none e hD)]; exact p.1 b o e, ?_⟩
      · refine Nat.lt_of_le_of_lt (List.length_filterMap_le _ _) (by rw [List.length_take]; exact Nat.lt_of_le_of_lt (Nat.min_le_right _ _) (small1000 hz))
      · rw [upd_same, et, List.filterMap_append]; rfl
    · subst e
      refine ⟨p.1, ?_⟩
      rw [et, List.filterMap_append, p.2]
      simp
  · have e := p.2
    rw [hlen, List.take_length] at e
    exact hd H p.1 e
theorem lc_map {K : PySem.W.Frag} {a : Addr} {xs : List V} {g : TG} {tt : TT} {te : TE} {vs : List Nat} {σ : L2.St} {H1 : Hp} {D : Addr} {Qd : Hp → Prop} (ys : List V) (hl : SqL K H1 a xs) (hD : H1 D = none) (hlen : xs.length = ys.length) (hz : ys.length ≤ 1000)
    (hs : ∀ (i : Nat) (x y : V) (H : Hp), xs[i]? = some x → ys[i]? = some y → Same H1 H → ∀ (R : V → Hp → Prop) (S : Hp → Prop), R y H →
      g x (wipe σ vs) H fun σ2 H2 => wipe σ2 vs = wipe σ vs ∧ tt σ2 H2 fun b H3 => if b = true then te σ2 H3 R else S H3)
    (hd : ∀ H, Same H1 H → H D = some (.lst ys) → Qd H) :
    ∃ W : Nat → Nat → Hp → Prop, (∃ m, W 0 m (upd H1 D (.lst []))) ∧ ∀ i m H, W i m H →
      ((Itl K a).stop i H ∧ Qd H) ∨ ((Itl K a).go i H ∧ ∃ Nx : Hp → Prop, (∀ H', Nx H' → ∃ m', m' < m ∧ W (i + 1) m' H') ∧ ∀ x H', (Itl K a).yld i H x H' → g x (wipe σ vs) H' fun σ2 H2 => wipe σ2 vs = wipe σ vs ∧ tt σ2 H2 fun b H3 =>
        if b = true then te σ2 H3 fun y H4 => ∃ acc, H4 D = some (.lst acc) ∧ acc.length < sizeLine ∧ Nx (upd H4 D (.lst (acc ++ [y]))) else Nx H3) := by
  have e0 : (ys.map some).filterMap id = ys := by
    rw [List.filterMap_map]
    exact List.filterMap_some
  refine lc_filter (ys.map some) hl hD (by rw [List.length_map]; exact hlen) (by rw [List.length_map]; exact hz) (fun i x y H hx hy s R S r _ => ?_) (fun H s e => hd H s (by rw [e0] at e; exact e))
  rw [List.getElem?_map] at hy
  cases q : ys[i]? with
  | none => rw [q] at hy; cases hy
  | some v =>
    rw [q] at hy
    have hy : some v = y := Option.some.inj hy
    exact hs i x v H hx q s R S (r v hy.symm)
end Mp

set_option Elab.async false
set_option linter.all false
set_option maxRecDepth 100000
set_option maxHeartbeats 4000000
namespace Mp
open PySem PySem.Spec PyProof.Rows L2

/-- what the top has written of the classes, and the names that are Python's own -/
structure Txt (K : PySem.W.Frag) (mg : Str → Option Value) (C : Cl) : Prop where
  clI : Cls K C.I
  clC : Cls K C.C
  clB : Cls K C.B
  nI : ∀ f ∈ itemK, NoAttr K C.I f
  nC : ∀ f ∈ certK, NoAttr K C.C f
  nB : ∀ f ∈ billK, NoAttr K C.B f
  mgI : mg "Item" = some (.ref C.I)
  mgC : mg "Certificate" = some (.ref C.C)
  mgB : mg "Bill" = some (.ref C.B)
  bSum : mg "sum" = none
  bMin : mg "min" = none
  bMax : mg "max" = none
  bLen : mg "len" = none
  bRange : mg "range" = none
  bSorted : mg "sorted" = none
  bAll : mg "all" = none

theorem item_new (o r t d : V) : putF "done" d (putF "trade" t (putF "rate" r (putF "ordered" o []))) = itemK.zip [o, r, t, d] := by
  rw [show putF "ordered" o [] = (["ordered"] : List Str).zip [o] from rfl, put_new (by decide +kernel) rfl, put_new (by decide +kernel) rfl, put_new (by decide +kernel) rfl]
  rfl
theorem cert_new (a q d : V) : putF "paid" d (putF "parts" q (putF "amount" a [])) = certK.zip [a, q, d] := by
  rw [show putF "amount" a [] = (["amount"] : List Str).zip [a] from rfl, put_new (by decide +kernel) rfl, put_new (by decide +kernel) rfl]
  rfl
theorem bill_new (v0 v1 v2 v3 v4 v5 v6 : V) : putF "closed" v6 (putF "handed" v5 (putF "certificates" v4 (putF "entries" v3 (putF "most" v2 (putF "keep" v1 (putF "begun" v0 [])))))) = billK.zip [v0, v1, v2, v3, v4, v5, v6] := by
  rw [show putF "begun" v0 [] = (["begun"] : List Str).zip [v0] from rfl, put_new (by decide +kernel) rfl, put_new (by decide +kernel) rfl, put_new (by decide +kernel) rfl, put_new (by decide +kernel) rfl, put_new (by decide +kernel) rfl, put_new (by decide +kernel) rfl]
  rfl
theorem bill_again (v0 v1 v2 v3 v4 v5 v6 w0 w1 w2 w3 w4 w5 w6 : V) : putF "closed" v6 (putF "handed" v5 (putF "certificates" v4 (putF "entries" v3 (putF "most" v2 (putF "keep" v1 (putF "begun" v0 (billK.zip [w0, w1, w2, w3, w4, w5, w6]))))))) = billK.zip [v0, v1, v2, v3, v4, v5, v6] := by
  rw [put_at (i := 0) (by decide +kernel) rfl, put_at (i := 1) (by decide +kernel) rfl, put_at (i := 2) (by decide +kernel) rfl, put_at (i := 3) (by decide +kernel) rfl, put_at (i := 4) (by decide +kernel) rfl, put_at (i := 5) (by decide +kernel) rfl, put_at (i := 6) (by decide +kernel) rfl]
  rfl

section
variable {P : Program} {w : World} {K : PySem.W.Frag} {mg : Str → Option Value} {base : Heap} {C : Cl}

/-! ### Item, Certificate -/
def spItem (C : Cl) : Sp := fun vs H Q _ => ∃ (p dx : Addr) (o r t : Int), vs = [.ref p, .int o, .int r, .int t] ∧ H p = some (.ins C.I dx []) ∧
  ∀ H' : Hp, H' p = some (.ins C.I dx (itemK.zip [.int o, .int r, .int t, .int 0])) → (∀ b o, H b = some o → b ≠ p → H' b = some o) → Q .non H'
theorem sc_Item : FnScope ["self", "ordered", "rate", "trade"] ["self", "ordered", "rate", "trade"] (defScope s_Item_init) := ⟨rfl, rfl, rfl, by decide +kernel, rfl, by decide +kernel, by decide +kernel⟩
theorem ok_Item {f : Addr} {fd : FuncData} (F : Fun K "__init__" "Item.__init__" s_Item_init f fd) (T : Txt K mg C) : FnOk P w K mg base CX0 1 f fd ["self", "ordered", "rate", "trade"] (spItem C) := by
  refine F.ok sc_Item (fun vs H Q E h => ?_) (fun cdv A outer s H vs Q E hr h => ?_)
  · obtain ⟨p, dx, o, r, t, rfl, _⟩ := h
    rfl
  · obtain ⟨p, dx, o, r, t, rfl, hp, k⟩ := h
    refine ⟨_, pss_cons (ps_fld (pv 0) (pv 1) rfl) (pss_cons (ps_fld (pv 0) (pv 2) rfl) (pss_cons (ps_fld (pv 0) (pv 3) rfl) (pss_one (ps_fld (pv 0) pe_int rfl)))), ?_⟩
    refine ⟨_, rfl, _, rfl, p, C.I, dx, [], rfl, hp, T.clI, T.nI _ (by decide +kernel), (by decide), ?_⟩
    refine ⟨_, rfl, _, rfl, p, C.I, dx, _, rfl, upd_same, T.clI, T.nI _ (by decide +kernel), (by show (putF _ _ []).length < 1000; exact Nat.lt_of_le_of_lt (length_putF _ _ _) (by decide)), ?_⟩
    refine ⟨_, rfl, _, rfl, p, C.I, dx, _, rfl, upd_same, T.clI, T.nI _ (by decide +kernel), (by exact Nat.lt_of_le_of_lt (length_putF _ _ _) (Nat.lt_of_le_of_lt (Nat.succ_le_succ (length_putF _ _ _)) (by decide))), ?_⟩
    refine ⟨_, rfl, p, C.I, dx, _, rfl, upd_same, T.clI, T.nI _ (by decide +kernel), (by exact Nat.lt_of_le_of_lt (length_putF _ _ _) (Nat.lt_of_le_of_lt (Nat.succ_le_succ (length_putF _ _ _)) (Nat.lt_of_le_of_lt (Nat.succ_le_succ (Nat.succ_le_succ (length_putF _ _ _))) (by decide)))), ?_⟩
    refine k _ ?_ fun b o e hb => by rw [upd_ne hb, upd_ne hb, upd_ne hb, upd_ne hb]; exact e
    rw [upd_same]
    exact congrArg (fun q => some (HO.ins C.I dx q)) (item_new _ _ _ _)
def spCert (C : Cl) : Sp := fun vs H Q _ => ∃ (p dx q : Addr) (a : Int), vs = [.ref p, .int a, .ref q] ∧ H p = some (.ins C.C dx []) ∧
  ∀ H' : Hp, H' p = some (.ins C.C dx (certK.zip [.int a, .ref q, .int 0])) → (∀ b o, H b = some o → b ≠ p → H' b = some o) → Q .non H'
theorem sc_Cert : FnScope ["self", "amount", "parts"] ["self", "amount", "parts"] (defScope s_Certificate_init) := ⟨rfl, rfl, rfl, by decide +kernel, rfl, by decide +kernel, by decide +kernel⟩
theorem ok_Cert {f : Addr} {fd : FuncData} (F : Fun K "__init__" "Certificate.__init__" s_Certificate_init f fd) (T : Txt K mg C) : FnOk P w K mg base CX0 1 f fd ["self", "amount", "parts"] (spCert C) := by
  refine F.ok sc_Cert (fun vs H Q E h => ?_) (fun cdv A outer s H vs Q E hr h => ?_)
  · obtain ⟨p, dx, q, a, rfl, _⟩ := h
    rfl
  · obtain ⟨p, dx, q, a, rfl, hp, k⟩ := h
    refine ⟨_, pss_cons (ps_fld (pv 0) (pv 1) rfl) (pss_cons (ps_fld (pv 0) (pv 2) rfl) (pss_one (ps_fld (pv 0) pe_int rfl))), ?_⟩
    refine ⟨_, rfl, _, rfl, p, C.C, dx, [], rfl, hp, T.clC, T.nC _ (by decide +kernel), (by decide), ?_⟩
    refine ⟨_, rfl, _, rfl, p, C.C, dx, _, rfl, upd_same, T.clC, T.nC _ (by decide +kernel), (by exact Nat.lt_of_le_of_lt (length_putF _ _ _) (by decide)), ?_⟩
    refine ⟨_, rfl, p, C.C, dx, _, rfl, upd_same, T.clC, T.nC _ (by decide +kernel), (by exact Nat.lt_of_le_of_lt (length_putF _ _ _) (Nat.lt_of_le_of_lt (Nat.succ_le_succ (length_putF _ _ _)) (by decide))), ?_⟩
    refine k _ ?_ fun b o e hb => by rw [upd_ne hb, upd_ne hb, upd_ne hb]; exact e
    rw [upd_same]
    exact congrArg (fun q => some (HO.ins C.C dx q)) (cert_new _ _ _)
end
end Mp

set_option Elab.async false
set_option linter.all false
set_option maxRecDepth 100000
set_option maxHeartbeats 4000000
namespace Mp
open PySem PySem.Spec PyProof.Rows L2
section
variable {P : Program} {w : World} {K : PySem.W.Frag} {mg : Str → Option Value} {base : Heap} {C : Cl}

/-! ### Bill.start -/
theorem putF_small {f : Str} {v : V} {fs : List (Str × V)} {n : Nat} (h : fs.length ≤ n) (hn : n < 900) : (putF f v fs).length ≤ n + 1 := Nat.le_trans (length_putF _ _ _) (Nat.succ_le_succ h)
/-- the attributes of a new bill, or of one that is begun again -/
def OldF (fs : List (Str × V)) : Prop := fs = [] ∨ ∃ w0 w1 w2 w3 w4 w5 w6 : V, fs = billK.zip [w0, w1, w2, w3, w4, w5, w6]
theorem OldF.len {fs : List (Str × V)} (h : OldF fs) : fs.length ≤ 7 := by
  rcases h with rfl | ⟨_, _, _, _, _, _, _, rfl⟩
  · decide
  · exact Nat.le_refl 7
theorem OldF.put {fs : List (Str × V)} (h : OldF fs) (v0 v1 v2 v3 v4 v5 v6 : V) : putF "closed" v6 (putF "handed" v5 (putF "certificates" v4 (putF "entries" v3 (putF "most" v2 (putF "keep" v1 (putF "begun" v0 fs)))))) = billK.zip [v0, v1, v2, v3, v4, v5, v6] := by
  rcases h with rfl | ⟨_, _, _, _, _, _, _, rfl⟩
  · exact bill_new ..
  · exact bill_again ..
def spStart (C : Cl) : Sp := fun vs H Q _ => ∃ (p dx : Addr) (k m : Int) (fs : List (Str × V)), vs = [.ref p, .int k, .int m] ∧ H p = some (.ins C.B dx fs) ∧ OldF fs ∧
  ∀ (H' : Hp) (le lc : Addr), H' p = some (.ins C.B dx (billK.zip [.bl true, .int k, .int m, .ref le, .ref lc, .bl false, .bl false])) → H' le = some (.lst []) → H' lc = some (.lst []) → le ≠ lc → H le = none → H lc = none → (∀ b o, H b = some o → b ≠ p → H' b = some o) → Q .non H'
theorem sc_start : FnScope ["self", "keep", "most"] ["self", "keep", "most"] (defScope s_Bill_start) := ⟨rfl, rfl, rfl, by decide +kernel, rfl, by decide +kernel, by decide +kernel⟩
theorem ok_start {f : Addr} {fd : FuncData} (F : Fun K "start" "Bill.start" s_Bill_start f fd) (T : Txt K mg C) : FnOk P w K mg base CX0 1 f fd ["self", "keep", "most"] (spStart C) := by
  refine F.ok sc_start (fun vs H Q E h => ?_) (fun cdv A outer s H vs Q E hr h => ?_)
  · obtain ⟨p, dx, k, m, fs, rfl, _⟩ := h
    rfl
  · obtain ⟨p, dx, k, m, fs, rfl, hp, old, q⟩ := h
    have l0 := old.len
    refine ⟨_, pss_cons (ps_fld (pv 0) pe_bl rfl) (pss_cons (ps_fld (pv 0) (pv 1) rfl) (pss_cons (ps_fld (pv 0) (pv 2) rfl) (pss_cons (ps_fld (pv 0) (pe_lst pa_nil) rfl) (pss_cons (ps_fld (pv 0) (pe_lst pa_nil) rfl) (pss_cons (ps_fld (pv 0) pe_bl rfl) (pss_one (ps_fld (pv 0) pe_bl rfl))))))), ?_⟩
    have l1 := putF_small (f := "begun") (v := .bl true) l0 (by decide)
    have l2 := putF_small (f := "keep") (v := .int k) l1 (by decide)
    have l3 := putF_small (f := "most") (v := .int m) l2 (by decide)
    refine ⟨_, rfl, p, C.B, dx, fs, rfl, hp, T.clB, T.nB _ (by decide +kernel), Nat.lt_of_le_of_lt l0 (by decide), ?_⟩
    refine ⟨_, rfl, _, rfl, p, C.B, dx, _, rfl, upd_same, T.clB, T.nB _ (by decide +kernel), Nat.lt_of_le_of_lt l1 (by decide), ?_⟩
    refine ⟨_, rfl, _, rfl, p, C.B, dx, _, rfl, upd_same, T.clB, T.nB _ (by decide +kernel), Nat.lt_of_le_of_lt l2 (by decide), ?_⟩
    refine ⟨Nat.zero_le _, fun le hle => ?_⟩
    have nle : le ≠ p := fun z => by rw [z, upd_same] at hle; cases hle
    have Hle : H le = none := by rw [upd_ne nle, upd_ne nle, upd_ne nle] at hle; exact hle
    have l4 := putF_small (f := "entries") (v := .ref le) l3 (by decide)
    refine ⟨_, rfl, p, C.B, dx, _, rfl, (by rw [upd_ne nle.symm, upd_same]), T.clB, T.nB _ (by decide +kernel), Nat.lt_of_le_of_lt l3 (by decide), ?_⟩
    refine ⟨Nat.zero_le _, fun lc hlc => ?_⟩
    have nlc : lc ≠ p := fun z => by rw [z, upd_same] at hlc; cases hlc
    have nlec : le ≠ lc := fun z => by rw [← z, upd_ne nle, upd_same] at hlc; cases hlc
    have Hlc : H lc = none := by rw [upd_ne nlc, upd_ne nlec.symm, upd_ne nlc, upd_ne nlc, upd_ne nlc] at hlc; exact hlc
    have l5 := putF_small (f := "certificates") (v := .ref lc) l4 (by decide)
    have l6 := putF_small (f := "handed") (v := .bl false) l5 (by decide)
    refine ⟨_, rfl, p, C.B, dx, _, rfl, (by rw [upd_ne nlc.symm, upd_same]), T.clB, T.nB _ (by decide +kernel), Nat.lt_of_le_of_lt l4 (by decide), ?_⟩
    refine ⟨_, rfl, p, C.B, dx, _, rfl, upd_same, T.clB, T.nB _ (by decide +kernel), Nat.lt_of_le_of_lt l5 (by decide), ?_⟩
    refine ⟨_, rfl, p, C.B, dx, _, rfl, upd_same, T.clB, T.nB _ (by decide +kernel), Nat.lt_of_le_of_lt l6 (by decide), ?_⟩
    refine q _ le lc ?_ ?_ ?_ nlec Hle Hlc fun b o e hb => ?_
    · rw [upd_same]
      exact congrArg (fun z => some (HO.ins C.B dx z)) (old.put ..)
    · rw [upd_ne nle, upd_ne nle, upd_ne nle, upd_ne nlec, upd_ne nle, upd_same]
    · rw [upd_ne nlc, upd_ne nlc, upd_ne nlc, upd_same]
    · have n1 : b ≠ le := ne_of_none e Hle
      have n2 : b ≠ lc := ne_of_none e Hlc
      rw [upd_ne hb, upd_ne hb, upd_ne hb, upd_ne n2, upd_ne hb, upd_ne n1, upd_ne hb, upd_ne hb, upd_ne hb]
      exact e
/-! ### Bill.__init__ -/
abbrev bill0 : Kp223.Bill := ⟨0, 0, [], [], false, false⟩
def spBill (C : Cl) : Sp := fun vs H Q _ => ∃ (p dx : Addr), vs = [.ref p] ∧ H p = some (.ins C.B dx []) ∧
  ∀ (H' : Hp) (L : Lay), BillAt C H' p L false bill0 → (∀ c ∈ foot p L, c = p ∨ H c = none) → (∀ b o, H b = some o → b ≠ p → H' b = some o) → Q .non H'
theorem sc_Bill : FnScope ["self"] ["self"] (defScope s_Bill_init) := ⟨rfl, rfl, rfl, by decide +kernel, rfl, by decide +kernel, by decide +kernel⟩
theorem ok_Bill {f fS : Addr} {fd fdS : FuncData} (F : Fun K "__init__" "Bill.__init__" s_Bill_init f fd) (T : Txt K mg C) (FS : Fun K "start" "Bill.start" s_Bill_start fS fdS) (bS : Binds K fdS ["self", "keep", "most"] []) (mS : Meth K C.B "start" fS) :
    FnOk P w K mg base CX0 2 f fd ["self"] (spBill C) := by
  have GS : FnOk P w K mg base CX0 1 fS fdS ["self", "keep", "most"] (spStart C) := ok_start FS T
  refine F.ok sc_Bill (fun vs H Q E h => ?_) (fun cdv A outer s H vs Q E hr h => ?_)
  · obtain ⟨p, dx, rfl, _⟩ := h
    rfl
  · obtain ⟨p, dx, rfl, hp, q⟩ := h
    refine ⟨_, pss_cons (ps_expr (pe_meth (pv 0) T.clB mS GS hr bS .nil pass0 (pa_cons pe_int (pa_cons pe_int pa_nil)))) (pss_one (ps_fld (pv 0) pe_bl rfl)), ?_⟩
    refine ⟨_, rfl, p, dx, _, rfl, hp, rfl, p, dx, 0, 0, [], rfl, hp, .inl rfl, fun H' le lc h1 h2 h3 n n1 n2 kp => ?_⟩
    have a1 : p ≠ le := ne_of_none hp n1
    have a2 : p ≠ lc := ne_of_none hp n2
    refine ⟨_, rfl, p, C.B, dx, _, rfl, h1, T.clB, T.nB _ (by decide +kernel), (by show 7 < 1000; decide), ?_⟩
    refine q _ ⟨le, lc, [], [], []⟩ (BillAt.fresh (dx := dx) ?_ ?_ ?_ n rfl rfl) (fun c hc => ?_) fun b o e hb => by rw [upd_ne hb]; exact kp b o e hb
    · rw [upd_same, put_at (i := 0) (by decide +kernel) rfl]
      rfl
    · rw [upd_ne a1.symm]; exact h2
    · rw [upd_ne a2.symm]; exact h3
    · rcases foot_iff.mp hc with rfl | rfl | rfl | z | z | z
      · exact .inl rfl
      · exact .inr n1
      · exact .inr n2
      · cases z
      · cases z
      · cases z
end
end Mp

set_option Elab.async false
set_option linter.all false
set_option maxRecDepth 100000
set_option maxHeartbeats 4000000
namespace Mp
open PySem PySem.Spec PyProof.Rows L2
section
variable {P : Program} {w : World} {K : PySem.W.Frag} {mg : Str → Option Value} {base : Heap} {C : Cl}
/-! ### what is only read -/
/-- a method that reckons a number of the bill -/
def spNum (C : Cl) (f : Kp223.Bill → Int) : Sp := fun vs H Q _ => ∃ (p : Addr) (L : Lay) (g : Bool) (b : Kp223.Bill), vs = [.ref p] ∧ BillAt C H p L g b ∧ Wf b ∧ ∀ H', Same H H' → Q (.int (f b)) H'
/-- .. of one trade -/
def spNumT (C : Cl) (f : Kp223.Bill → Nat → Int) : Sp := fun vs H Q _ => ∃ (p : Addr) (L : Lay) (g : Bool) (b : Kp223.Bill) (t : Nat), vs = [.ref p, .int (t : Nat)] ∧ BillAt C H p L g b ∧ Wf b ∧ t < 4 ∧ ∀ H', Same H H' → Q (.int (f b t)) H'
def spHas (C : Cl) : Sp := fun vs H Q _ => ∃ (p : Addr) (L : Lay) (g : Bool) (b : Kp223.Bill) (i : Nat), vs = [.ref p, .int (i : Nat)] ∧ BillAt C H p L g b ∧ Q (.bl (decide (i < b.items.length))) H
theorem bl_at {g : Bool} {b : Kp223.Bill} {L : Lay} {k : Str} {i : Nat} {v : V} (h : billK.findIdx? (fun g => k == g) = some i) (hv : (biV g b L)[i]? = some v) : (billK.zip (biV g b L)).lookup k = some v := lk_at h hv
theorem sc_has : FnScope ["self", "i"] ["self", "i"] (defScope s_Bill_has_item) := ⟨rfl, rfl, rfl, by decide +kernel, rfl, by decide +kernel, by decide +kernel⟩
theorem ok_has {f : Addr} {fd : FuncData} (F : Fun K "has_item" "Bill.has_item" s_Bill_has_item f fd) (T : Txt K mg C) : FnOk P w K mg base CX0 1 f fd ["self", "i"] (spHas C) := by
  refine F.ok sc_has (fun vs H Q E h => ?_) (fun cdv A outer s H vs Q E hr h => ?_)
  · obtain ⟨p, L, g, b, i, rfl, _⟩ := h
    rfl
  · obtain ⟨p, L, g, b, i, rfl, B, q⟩ := h
    obtain ⟨dx, h1⟩ := B.ob
    refine ⟨_, pss_one (ps_ret (pe_cmpR op_lt (pv 1) (pe_callB call_len_seq rfl T.bLen PySem.boot_len (pa_cons (pe_fld (pv 0) rfl) pa_nil)) (nomark _))), ?_⟩
    refine ⟨_, rfl, _, rfl, p, C.B, dx, _, _, rfl, h1, T.clB, T.nB _ (by decide +kernel), lk_at (i := 3) (by decide +kernel) rfl, L.le, _, rfl, .inl (SqL.of B.le), _, _, rfl, rfl, ?_⟩
    show Q (.bl (decide (((i : Nat) : Int) < (((L.is.map V.ref).length : Nat) : Int)))) H
    rw [List.length_map, B.ni, show decide (((i : Nat) : Int) < ((b.items.length : Nat) : Int)) = decide (i < b.items.length) from decide_eq_decide.mpr (by omega)]
    exact q
theorem nat_lt64 {n : Nat} (h : n ≤ 10000000000000) : -(2 ^ 64) < ((n : Nat) : Int) ∧ ((n : Nat) : Int) < 2 ^ 64 := by
  constructor <;> omega
theorem sc_value : FnScope ["self", "entry"] ["self"] (defScope s_Bill_value) := ⟨rfl, rfl, rfl, by decide +kernel, rfl, by decide +kernel, by decide +kernel⟩
theorem ok_value {f : Addr} {fd : FuncData} (F : Fun K "value" "Bill.value" s_Bill_value f fd) (T : Txt K mg C) : FnOk P w K mg base CX0 1 f fd ["self"] (spNum C fun b => (Kp223.value b : Nat)) := by
  refine F.ok sc_value (fun vs H Q E h => ?_) (fun cdv A outer s H vs Q E hr h => ?_)
  · obtain ⟨p, L, g, b, rfl, _⟩ := h
    rfl
  · obtain ⟨p, L, g, b, rfl, B, W, q⟩ := h
    obtain ⟨dx, h1⟩ := B.ob
    refine ⟨_, pss_one (ps_ret (pe_callB (cr_sum rfl) rfl T.bSum boot_sum (pa_cons (pe_lc (own := [("entry", 1)]) (te := tOp (rI CMul fun i j => .int (i * j)) (tFld K (tVar 1) "done") (tFld K (tVar 1) "rate")) rfl sc_value.nd (pi_list (pe_fld (pv 0) rfl)) (blkOk_by (by kernel_rfl)) (fun _ _ _ _ _ => pg_name (i := 1) sc_value.nd rfl (Or.inl rfl)) (fun _ _ _ _ _ => pts_nil)
      (fun _ _ _ _ _ => pe_op op_mul (pe_fld (pv 1) rfl) (pe_fld (pv 1) rfl))) pa_nil))), ?_⟩
    refine ⟨_, rfl, p, C.B, dx, _, _, rfl, h1, T.clB, T.nB _ (by decide +kernel), lk_at (i := 3) (by decide +kernel) rfl, L.le, rfl, ⟨_, SqL.of B.le⟩, fun D hD => ?_⟩
    refine lc_map ((b.items.map fun x => ((Kp223.worth x : Nat) : Int)).map V.int) (SqL.of B.le) hD (by simp [B.ni]) (by rw [List.length_map, List.length_map]; exact Nat.le_trans W.ni (by decide)) (fun i x y H1 hx hy sm R S r => ?_) (fun H1 sm e => ?_)
    · rw [List.getElem?_map] at hx
      rw [List.getElem?_map, List.getElem?_map] at hy
      cases ea : L.is[i]? with
      | none => rw [ea] at hx; cases hx
      | some a =>
        cases ei : b.items[i]? with
        | none => rw [ei] at hy; cases hy
        | some z =>
          rw [ea] at hx
          rw [ei] at hy
          have hx : V.ref a = x := Option.some.inj hx
          have hy : V.int ((Kp223.worth z : Nat) : Int) = y := Option.some.inj hy
          subst hx hy
          obtain ⟨d, hz⟩ := B.it i a z ea ei
          have wz := W.it z (List.mem_of_getElem? ei)
          refine ⟨wipe1, ?_⟩
          refine ⟨_, rfl, a, C.I, d, _, _, rfl, sm _ _ hz, T.clI, T.nI _ (by decide +kernel), lk_at (i := 3) (by decide +kernel) rfl, _, rfl, a, C.I, d, _, _, rfl, sm _ _ hz, T.clI, T.nI _ (by decide +kernel), lk_at (i := 1) (by decide +kernel) rfl, _, _, rfl, rfl,
            .inl (nat_lt64 (Nat.le_trans wz.d (Nat.le_trans wz.o (by decide)))), ?_⟩
          exact r
    · refine ⟨D, _, rfl, SqL.of e, ?_⟩
      rw [sum_cast]
      exact q _ sm
end
end Mp

set_option Elab.async false
set_option linter.all false
set_option maxRecDepth 100000
set_option maxHeartbeats 4000000
namespace Mp
open PySem PySem.Spec PyProof.Rows L2
section
variable {P : Program} {w : World} {K : PySem.W.Frag} {mg : Str → Option Value} {base : Heap} {C : Cl}
theorem get_two {α β γ : Type} {l : List α} {k : List β} {f : α → γ} {g : β → γ} {i : Nat} {x y : γ} (hx : (l.map f)[i]? = some x) (hy : (k.map g)[i]? = some y) : ∃ a b, l[i]? = some a ∧ k[i]? = some b ∧ x = f a ∧ y = g b := by
  rw [List.getElem?_map] at hx hy
  cases ea : l[i]? with
  | none => rw [ea] at hx; cases hx
  | some a =>
    cases eb : k[i]? with
    | none => rw [eb] at hy; cases hy
    | some b =>
      rw [ea] at hx
      rw [eb] at hy
      exact ⟨a, b, rfl, rfl, (Option.some.inj hx).symm, (Option.some.inj hy).symm⟩
theorem sc_contract : FnScope ["self", "entry"] ["self"] (defScope s_Bill_contract) := ⟨rfl, rfl, rfl, by decide +kernel, rfl, by decide +kernel, by decide +kernel⟩
theorem ok_contract {f : Addr} {fd : FuncData} (F : Fun K "contract" "Bill.contract" s_Bill_contract f fd) (T : Txt K mg C) : FnOk P w K mg base CX0 1 f fd ["self"] (spNum C fun b => (Kp223.contract b : Nat)) := by
  refine F.ok sc_contract (fun vs H Q E h => ?_) (fun cdv A outer s H vs Q E hr h => ?_)
  · obtain ⟨p, L, g, b, rfl, _⟩ := h
    rfl
  · obtain ⟨p, L, g, b, rfl, B, W, q⟩ := h
    obtain ⟨dx, h1⟩ := B.ob
    refine ⟨_, pss_one (ps_ret (pe_callB (cr_sum rfl) rfl T.bSum boot_sum (pa_cons (pe_lc (own := [("entry", 1)]) (te := tOp (rI CMul fun i j => .int (i * j)) (tFld K (tVar 1) "ordered") (tFld K (tVar 1) "rate")) rfl sc_contract.nd (pi_list (pe_fld (pv 0) rfl)) (blkOk_by (by kernel_rfl))
      (fun _ _ _ _ _ => pg_name (i := 1) sc_contract.nd rfl (Or.inl rfl)) (fun _ _ _ _ _ => pts_nil) (fun _ _ _ _ _ => pe_op op_mul (pe_fld (pv 1) rfl) (pe_fld (pv 1) rfl))) pa_nil))), ?_⟩
    refine ⟨_, rfl, p, C.B, dx, _, _, rfl, h1, T.clB, T.nB _ (by decide +kernel), lk_at (i := 3) (by decide +kernel) rfl, L.le, rfl, ⟨_, SqL.of B.le⟩, fun D hD => ?_⟩
    refine lc_map ((b.items.map fun x => ((x.ordered * x.rate : Nat) : Int)).map V.int) (SqL.of B.le) hD (by simp [B.ni]) (by rw [List.length_map, List.length_map]; exact Nat.le_trans W.ni (by decide)) (fun i x y H1 hx hy sm R S r => ?_) (fun H1 sm e => ?_)
    · rw [List.map_map] at hy
      obtain ⟨a, z, ea, ei, rfl, rfl⟩ := get_two hx hy
      obtain ⟨d, hz⟩ := B.it i a z ea ei
      have wz := W.it z (List.mem_of_getElem? ei)
      refine ⟨wipe1, _, rfl, a, C.I, d, _, _, rfl, sm _ _ hz, T.clI, T.nI _ (by decide +kernel), lk_at (i := 0) (by decide +kernel) rfl, _, rfl, a, C.I, d, _, _, rfl, sm _ _ hz, T.clI, T.nI _ (by decide +kernel), lk_at (i := 1) (by decide +kernel) rfl, _, _, rfl, rfl,
        .inl (nat_lt64 (Nat.le_trans wz.o (by decide))), ?_⟩
      exact r
    · refine ⟨D, _, rfl, SqL.of e, ?_⟩
      rw [sum_cast]
      exact q _ sm
theorem sc_certified : FnScope ["self", "certificate"] ["self"] (defScope s_Bill_certified) := ⟨rfl, rfl, rfl, by decide +kernel, rfl, by decide +kernel, by decide +kernel⟩
theorem ok_certified {f : Addr} {fd : FuncData} (F : Fun K "certified" "Bill.certified" s_Bill_certified f fd) (T : Txt K mg C) : FnOk P w K mg base CX0 1 f fd ["self"] (spNum C fun b => (Kp223.certified b : Nat)) := by
  refine F.ok sc_certified (fun vs H Q E h => ?_) (fun cdv A outer s H vs Q E hr h => ?_)
  · obtain ⟨p, L, g, b, rfl, _⟩ := h
    rfl
  · obtain ⟨p, L, g, b, rfl, B, W, q⟩ := h
    obtain ⟨dx, h1⟩ := B.ob
    refine ⟨_, pss_one (ps_ret (pe_callB (cr_sum rfl) rfl T.bSum boot_sum (pa_cons (pe_lc (own := [("certificate", 1)]) (te := tFld K (tVar 1) "amount") rfl sc_certified.nd (pi_list (pe_fld (pv 0) rfl)) (blkOk_by (by kernel_rfl))
      (fun _ _ _ _ _ => pg_name (i := 1) sc_certified.nd rfl (Or.inl rfl)) (fun _ _ _ _ _ => pts_nil) (fun _ _ _ _ _ => pe_fld (pv 1) rfl)) pa_nil))), ?_⟩
    refine ⟨_, rfl, p, C.B, dx, _, _, rfl, h1, T.clB, T.nB _ (by decide +kernel), lk_at (i := 4) (by decide +kernel) rfl, L.lc, rfl, ⟨_, SqL.of B.lc⟩, fun D hD => ?_⟩
    refine lc_map ((b.certs.map fun c => ((c.amount : Nat) : Int)).map V.int) (SqL.of B.lc) hD (by simp [B.nc]) (by rw [List.length_map, List.length_map]; exact Nat.le_trans W.nc (by decide)) (fun i x y H1 hx hy sm R S r => ?_) (fun H1 sm e => ?_)
    · rw [List.map_map] at hy
      obtain ⟨a, z, ea, ei, rfl, rfl⟩ := get_two hx hy
      have hl := (List.getElem?_eq_some_iff.mp ei).1
      obtain ⟨⟨d, hz⟩, _⟩ := B.ct i a _ z ea (List.getElem?_eq_getElem (by rw [B.np]; exact hl)) ei
      exact ⟨wipe1, _, rfl, a, C.C, d, _, _, rfl, sm _ _ hz, T.clC, T.nC _ (by decide +kernel), lk_at (i := 0) (by decide +kernel) rfl, r⟩
    · refine ⟨D, _, rfl, SqL.of e, ?_⟩
      rw [sum_cast]
      exact q _ sm
theorem sc_tvalue : FnScope ["self", "trade", "entry"] ["self", "trade"] (defScope s_Bill_trade_value) := ⟨rfl, rfl, rfl, by decide +kernel, rfl, by decide +kernel, by decide +kernel⟩
theorem filterMap_if {α : Type} (p : α → Bool) (f : α → Int) : ∀ l : List α, (l.map fun x => if p x = true then some (V.int (f x)) else none).filterMap id = ((l.filter p).map f).map V.int
  | [] => rfl
  | x :: l => by
    rw [List.map_cons, List.filterMap_cons, List.filter_cons]
    cases e : p x with
    | true => simp only [if_true, id, List.map_cons, filterMap_if p f l]
    | false => simp only [Bool.false_eq_true, if_false, id, filterMap_if p f l]
theorem ok_tvalue {f : Addr} {fd : FuncData} (F : Fun K "trade_value" "Bill.trade_value" s_Bill_trade_value f fd) (T : Txt K mg C) : FnOk P w K mg base CX0 1 f fd ["self", "trade"] (spNumT C fun b t => (Kp223.tradeValue b t : Nat)) := by
  refine F.ok sc_tvalue (fun vs H Q E h => ?_) (fun cdv A outer s H vs Q E hr h => ?_)
  · obtain ⟨p, L, g, b, t, rfl, _⟩ := h
    rfl
  · obtain ⟨p, L, g, b, t, rfl, B, W, ht, q⟩ := h
    obtain ⟨dx, h1⟩ := B.ob
    refine ⟨_, pss_one (ps_ret (pe_callB (cr_sum rfl) rfl T.bSum boot_sum (pa_cons (pe_lc (own := [("entry", 2)]) (tt := tTest (tOp rEq (tFld K (tVar 2) "trade") (tVar 1))) (te := tOp (rI CMul fun i j => .int (i * j)) (tFld K (tVar 2) "done") (tFld K (tVar 2) "rate")) rfl sc_tvalue.nd (pi_list (pe_fld (pv 0) rfl)) (blkOk_by (by kernel_rfl))
      (fun _ _ _ _ _ => pg_name (i := 2) sc_tvalue.nd rfl (Or.inl rfl)) (fun _ _ _ _ _ => pts_one (pt_cmpR op_eq (pe_fld (pv 2) rfl) (pv 1) (nomark _))) (fun _ _ _ _ _ => pe_op op_mul (pe_fld (pv 2) rfl) (pe_fld (pv 2) rfl))) pa_nil))), ?_⟩
    refine ⟨_, rfl, p, C.B, dx, _, _, rfl, h1, T.clB, T.nB _ (by decide +kernel), lk_at (i := 3) (by decide +kernel) rfl, L.le, rfl, ⟨_, SqL.of B.le⟩, fun D hD => ?_⟩
    refine lc_filter (b.items.map fun x => if (x.trade == t) = true then some (V.int ((Kp223.worth x : Nat) : Int)) else none) (SqL.of B.le) hD (by simp [B.ni]) (by rw [List.length_map]; exact Nat.le_trans W.ni (by decide)) (fun i x y H1 hx hy sm R S r r0 => ?_) (fun H1 sm e => ?_)
    · obtain ⟨a, z, ea, ei, rfl, rfl⟩ : ∃ a z, L.is[i]? = some a ∧ b.items[i]? = some z ∧ x = V.ref a ∧ y = (if (z.trade == t) = true then some (V.int ((Kp223.worth z : Nat) : Int)) else none) := by
        rw [List.getElem?_map] at hx hy
        cases ea : L.is[i]? with
        | none => rw [ea] at hx; cases hx
        | some a =>
          cases eb : b.items[i]? with
          | none => rw [eb] at hy; cases hy
          | some z =>
            rw [ea] at hx
            rw [eb] at hy
            exact ⟨a, z, rfl, rfl, (Option.some.inj hx).symm, (Option.some.inj hy).symm⟩
      obtain ⟨d, hz⟩ := B.it i a z ea ei
      have wz := W.it z (List.mem_of_getElem? ei)
      refine ⟨wipe1, _, rfl, a, C.I, d, _, _, rfl, sm _ _ hz, T.clI, T.nI _ (by decide +kernel), lk_at (i := 2) (by decide +kernel) rfl, _, rfl, rfl, _, rfl, ?_⟩
      refine ite2 (fun e0 => ?_) (fun e0 => ?_)
      · have e : z.trade = t := by
          have e1 := of_decide_eq_true e0
          injection e1 with e1
          omega
        refine ⟨_, rfl, a, C.I, d, _, _, rfl, sm _ _ hz, T.clI, T.nI _ (by decide +kernel), lk_at (i := 3) (by decide +kernel) rfl, _, rfl, a, C.I, d, _, _, rfl, sm _ _ hz, T.clI, T.nI _ (by decide +kernel), lk_at (i := 1) (by decide +kernel) rfl, _, _, rfl, rfl,
          .inl (nat_lt64 (Nat.le_trans wz.d (Nat.le_trans wz.o (by decide)))), ?_⟩
        exact r _ (by rw [if_pos (by simp [e])]; rfl)
      · have e : ¬ z.trade = t := fun e => e0 (by rw [e]; exact decide_eq_true rfl)
        exact r0 (by rw [if_neg (by simp [e])])
    · rw [filterMap_if (fun x : Kp223.Item => x.trade == t) (fun x => ((Kp223.worth x : Nat) : Int))] at e
      refine ⟨D, _, rfl, SqL.of e, ?_⟩
      rw [sum_cast]
      exact q _ sm
theorem sc_tgot : FnScope ["self", "trade", "certificate"] ["self", "trade"] (defScope s_Bill_trade_got) := ⟨rfl, rfl, rfl, by decide +kernel, rfl, by decide +kernel, by decide +kernel⟩
theorem ok_tgot {f : Addr} {fd : FuncData} (F : Fun K "trade_got" "Bill.trade_got" s_Bill_trade_got f fd) (T : Txt K mg C) : FnOk P w K mg base CX0 1 f fd ["self", "trade"] (spNumT C Kp223.tradeSoFar) := by
  refine F.ok sc_tgot (fun vs H Q E h => ?_) (fun cdv A outer s H vs Q E hr h => ?_)
  · obtain ⟨p, L, g, b, t, rfl, _⟩ := h
    rfl
  · obtain ⟨p, L, g, b, t, rfl, B, W, ht, q⟩ := h
    obtain ⟨dx, h1⟩ := B.ob
    refine ⟨_, pss_one (ps_ret (pe_callB (cr_sum rfl) rfl T.bSum boot_sum (pa_cons (pe_lc (own := [("certificate", 2)]) (te := tOp (rIxL K) (tFld K (tVar 2) "parts") (tVar 1)) rfl sc_tgot.nd (pi_list (pe_fld (pv 0) rfl)) (blkOk_by (by kernel_rfl))
      (fun _ _ _ _ _ => pg_name (i := 2) sc_tgot.nd rfl (Or.inl rfl)) (fun _ _ _ _ _ => pts_nil) (fun _ _ _ _ _ => pe_ix ix_list (pe_fld (pv 2) rfl) (pv 1) (fun _ _ => rfl))) pa_nil))), ?_⟩
    refine ⟨_, rfl, p, C.B, dx, _, _, rfl, h1, T.clB, T.nB _ (by decide +kernel), lk_at (i := 4) (by decide +kernel) rfl, L.lc, rfl, ⟨_, SqL.of B.lc⟩, fun D hD => ?_⟩
    refine lc_map ((b.certs.map fun c => c.trades.getD t 0).map V.int) (SqL.of B.lc) hD (by simp [B.nc]) (by rw [List.length_map, List.length_map]; exact Nat.le_trans W.nc (by decide)) (fun i x y H1 hx hy sm R S r => ?_) (fun H1 sm e => ?_)
    · rw [List.map_map] at hy
      obtain ⟨a, z, ea, ei, rfl, rfl⟩ := get_two hx hy
      have hl := (List.getElem?_eq_some_iff.mp ei).1
      obtain ⟨⟨d, hz⟩, hq⟩ := B.ct i a _ z ea (List.getElem?_eq_getElem (by rw [B.np]; exact hl)) ei
      have wz := W.ct z (List.mem_of_getElem? ei)
      have hg : z.trades[t]? = some (z.trades.getD t 0) := by rw [List.getD_eq_getElem?_getD, List.getElem?_eq_getElem (by rw [wz.l]; exact ht)]; rfl
      exact ⟨wipe1, _, rfl, a, C.C, d, _, _, rfl, sm _ _ hz, T.clC, T.nC _ (by decide +kernel), lk_at (i := 1) (by decide +kernel) rfl, _, rfl, _, _, _, _, rfl, rfl, SqL.of (sm _ _ hq), atI_nat (by rw [List.getElem?_map, hg]; rfl), r⟩
    · refine ⟨D, _, rfl, SqL.of e, ?_⟩
      rw [got_eq]
      exact q _ sm
end
end Mp

set_option Elab.async false
set_option linter.all false
set_option maxRecDepth 100000
set_option maxHeartbeats 4000000
namespace Mp
open PySem PySem.Spec PyProof.Rows L2
/-- a method of the bill, as the top has made it -/
structure Has (K : PySem.W.Frag) (C : Cl) (m qual : Str) (st : Stmt) (ps : List Str) (f : Addr) (fd : FuncData) : Prop where
  F : Fun K m qual st f fd
  b : Binds K fd ps []
  m : Meth K C.B m f
section
variable {P : Program} {w : World} {K : PySem.W.Frag} {mg : Str → Option Value} {base : Heap} {C : Cl}
/-- no attribute of the bill has the method's name -/
theorem bl_no {g : Bool} {b : Kp223.Bill} {L : Lay} {k : Str} (h : billK.findIdx? (fun g => k == g) = none) : (billK.zip (biV g b L)).lookup k = none := lk_no h
theorem Wf.keep64 {b : Kp223.Bill} (W : Wf b) : (-(2 ^ 64) < ((b.keep : Nat) : Int) ∧ ((b.keep : Nat) : Int) < 2 ^ 64) := nat_lt64 (Nat.le_trans W.keep (by decide))
theorem Wf.most64 {b : Kp223.Bill} (W : Wf b) : (-(2 ^ 64) < ((b.most : Nat) : Int) ∧ ((b.most : Nat) : Int) < 2 ^ 64) := nat_lt64 (Nat.le_trans W.most (by decide))
theorem sc_kept : FnScope ["self", "of_value", "of_contract", "whole"] ["self"] (defScope s_Bill_kept) := ⟨rfl, rfl, rfl, by decide +kernel, rfl, by decide +kernel, by decide +kernel⟩
theorem ok_kept {f fV fC : Addr} {fd fdV fdC : FuncData} (F : Fun K "kept" "Bill.kept" s_Bill_kept f fd) (T : Txt K mg C) (MV : Has K C "value" "Bill.value" s_Bill_value ["self"] fV fdV) (MC : Has K C "contract" "Bill.contract" s_Bill_contract ["self"] fC fdC) :
    FnOk P w K mg base CX0 2 f fd ["self"] (spNum C fun b => (Kp223.kept b : Nat)) := by
  have GV : FnOk P w K mg base CX0 1 fV fdV ["self"] _ := ok_value MV.F T
  have GC : FnOk P w K mg base CX0 1 fC fdC ["self"] _ := ok_contract MC.F T
  refine F.ok sc_kept (fun vs H Q E h => ?_) (fun cdv A outer s H vs Q E hr h => ?_)
  · obtain ⟨p, L, g, b, rfl, _⟩ := h
    rfl
  · obtain ⟨p, L, g, b, rfl, B, W, q⟩ := h
    obtain ⟨dx, h1⟩ := B.ob
    refine ⟨_, pss_cons (ps_if (pt_val (pe_fld (pv 0) rfl)) (pss_one (ps_ret pe_int)) pss_nil)
      (pss_cons (ps_set (i := 1) sc_kept.nd rfl (Or.inl rfl) (pe_op op_fdiv (pe_op op_mul (pe_meth0 (pv 0) T.clB MV.m GV hr MV.b .nil pass0) (pe_fld (pv 0) rfl)) pe_int))
      (pss_cons (ps_set (i := 2) sc_kept.nd rfl (Or.inl rfl) (pe_op op_fdiv (pe_op op_mul (pe_meth0 (pv 0) T.clB MC.m GC hr MC.b .nil pass0) (pe_fld (pv 0) rfl)) pe_int))
      (pss_cons (ps_set (i := 3) sc_kept.nd rfl (Or.inl rfl) (pe_callB (call_min2 rfl) rfl T.bMin boot_min (pa_cons (pv 1) (pa_cons (pv 2) pa_nil))))
      (pss_one (ps_ret (pe_ifExp (pt_val (pe_fld (pv 0) rfl)) (pe_op op_fdiv (pv 3) pe_int) (pv 3))))))), ?_⟩
    have key := kept_int b
    refine ⟨_, rfl, p, C.B, dx, _, _, rfl, h1, T.clB, T.nB _ (by decide +kernel), lk_at (i := 6) (by decide +kernel) rfl, _, rfl, ?_⟩
    refine ite2 (fun e => ?_) (fun e => ?_)
    · rw [if_pos e] at key
      have z : Q (V.int ((Kp223.kept b : Nat) : Int)) H := q H (Same.refl H)
      rw [show ((Kp223.kept b : Nat) : Int) = 0 from key] at z
      exact z
    · rw [if_neg e] at key
      refine ⟨_, rfl, p, dx, _, rfl, h1, bl_no (by decide +kernel), p, L, g, b, rfl, B, W, fun H1 s1 => ?_⟩
      refine ⟨_, rfl, p, C.B, dx, _, _, rfl, s1 _ _ h1, T.clB, T.nB _ (by decide +kernel), lk_at (i := 1) (by decide +kernel) rfl, _, _, rfl, rfl, .inr W.keep64, _, _, rfl, rfl, ⟨by decide, by decide⟩, ?_⟩
      refine ⟨_, rfl, p, dx, _, rfl, s1 _ _ h1, bl_no (by decide +kernel), p, L, g, b, rfl, B.same s1, W, fun H2 s2 => ?_⟩
      have h2 := s2 _ _ (s1 _ _ h1)
      refine ⟨_, rfl, p, C.B, dx, _, _, rfl, h2, T.clB, T.nB _ (by decide +kernel), lk_at (i := 2) (by decide +kernel) rfl, _, _, rfl, rfl, .inr W.most64, _, _, rfl, rfl, ⟨by decide, by decide⟩, ?_⟩
      refine ⟨_, rfl, _, rfl, _, _, rfl, ?_⟩
      refine ⟨_, rfl, p, C.B, dx, _, _, rfl, h2, T.clB, T.nB _ (by decide +kernel), lk_at (i := 5) (by decide +kernel) rfl, _, rfl, ?_⟩
      refine ite2 (fun e2 => ?_) (fun e2 => ?_)
      · refine ⟨_, rfl, _, _, rfl, rfl, ⟨by decide, by decide⟩, ?_⟩
        have z : Q (V.int ((Kp223.kept b : Nat) : Int)) H2 := q H2 (s1.trans s2)
        dsimp only at key
        rw [if_pos e2] at key
        rw [show ((Kp223.kept b : Nat) : Int) = _ from key] at z
        exact z
      · refine ⟨_, rfl, ?_⟩
        have z : Q (V.int ((Kp223.kept b : Nat) : Int)) H2 := q H2 (s1.trans s2)
        dsimp only at key
        rw [if_neg e2] at key
        rw [show ((Kp223.kept b : Nat) : Int) = _ from key] at z
        exact z
theorem sc_owed : FnScope ["self"] ["self"] (defScope s_Bill_owed) := ⟨rfl, rfl, rfl, by decide +kernel, rfl, by decide +kernel, by decide +kernel⟩
theorem ok_owed {f fV fK : Addr} {fd fdV fdK : FuncData} (F : Fun K "owed" "Bill.owed" s_Bill_owed f fd) (T : Txt K mg C) (MV : Has K C "value" "Bill.value" s_Bill_value ["self"] fV fdV) (MK : Has K C "kept" "Bill.kept" s_Bill_kept ["self"] fK fdK)
    (GV : FnOk P w K mg base CX0 1 fV fdV ["self"] (spNum C fun b => (Kp223.value b : Nat))) (GK : FnOk P w K mg base CX0 2 fK fdK ["self"] (spNum C fun b => (Kp223.kept b : Nat))) :
    FnOk P w K mg base CX0 3 f fd ["self"] (spNum C fun b => (Kp223.owed b : Nat)) := by
  refine F.ok sc_owed (fun vs H Q E h => ?_) (fun cdv A outer s H vs Q E hr h => ?_)
  · obtain ⟨p, L, g, b, rfl, _⟩ := h
    rfl
  · obtain ⟨p, L, g, b, rfl, B, W, q⟩ := h
    obtain ⟨dx, h1⟩ := B.ob
    have hr1 : Room 1 _ := hr.mono (by decide)
    refine ⟨_, pss_one (ps_ret (pe_op op_sub (pe_meth0 (pv 0) T.clB MV.m GV hr1 MV.b .nil pass0) (pe_meth0 (pv 0) T.clB MK.m GK hr MK.b .nil pass0))), ?_⟩
    refine ⟨_, rfl, p, dx, _, rfl, h1, bl_no (by decide +kernel), p, L, g, b, rfl, B, W, fun H1 s1 => ?_⟩
    refine ⟨_, rfl, p, dx, _, rfl, s1 _ _ h1, bl_no (by decide +kernel), p, L, g, b, rfl, B.same s1, W, fun H2 s2 => ?_⟩
    refine ⟨_, _, rfl, rfl, ?_⟩
    have z : Q (V.int ((Kp223.owed b : Nat) : Int)) H2 := q H2 (s1.trans s2)
    rw [show ((Kp223.owed b : Nat) : Int) = _ from owed_int W] at z
    exact z
theorem sc_due : FnScope ["self"] ["self"] (defScope s_Bill_due) := ⟨rfl, rfl, rfl, by decide +kernel, rfl, by decide +kernel, by decide +kernel⟩
theorem ok_due {f fO fC : Addr} {fd fdO fdC : FuncData} (F : Fun K "due" "Bill.due" s_Bill_due f fd) (T : Txt K mg C) (MO : Has K C "owed" "Bill.owed" s_Bill_owed ["self"] fO fdO) (MC : Has K C "certified" "Bill.certified" s_Bill_certified ["self"] fC fdC)
    (GO : FnOk P w K mg base CX0 3 fO fdO ["self"] (spNum C fun b => (Kp223.owed b : Nat))) (GC : FnOk P w K mg base CX0 1 fC fdC ["self"] (spNum C fun b => (Kp223.certified b : Nat))) :
    FnOk P w K mg base CX0 4 f fd ["self"] (spNum C fun b => (Kp223.due b : Nat)) := by
  refine F.ok sc_due (fun vs H Q E h => ?_) (fun cdv A outer s H vs Q E hr h => ?_)
  · obtain ⟨p, L, g, b, rfl, _⟩ := h
    rfl
  · obtain ⟨p, L, g, b, rfl, B, W, q⟩ := h
    obtain ⟨dx, h1⟩ := B.ob
    have hr1 : Room 1 _ := hr.mono (by decide)
    refine ⟨_, pss_one (ps_ret (pe_callB (call_max2 rfl) rfl T.bMax boot_max (pa_cons pe_int (pa_cons (pe_op op_sub (pe_meth0 (pv 0) T.clB MO.m GO hr MO.b .nil pass0) (pe_meth0 (pv 0) T.clB MC.m GC hr1 MC.b .nil pass0)) pa_nil)))), ?_⟩
    refine ⟨_, rfl, p, dx, _, rfl, h1, bl_no (by decide +kernel), p, L, g, b, rfl, B, W, fun H1 s1 => ?_⟩
    refine ⟨_, rfl, p, dx, _, rfl, s1 _ _ h1, bl_no (by decide +kernel), p, L, g, b, rfl, B.same s1, W, fun H2 s2 => ?_⟩
    refine ⟨_, _, rfl, rfl, _, _, rfl, ?_⟩
    have z : Q (V.int ((Kp223.due b : Nat) : Int)) H2 := q H2 (s1.trans s2)
    rw [show ((Kp223.due b : Nat) : Int) = _ from due_int b] at z
    exact z
end
end Mp

set_option Elab.async false
set_option linter.all false
set_option maxRecDepth 100000
set_option maxHeartbeats 4000000
namespace Mp
open PySem PySem.Spec PyProof.Rows L2
/-! ### o[i] of a list, by values (for o[i] += e) -/
theorem get_list {X : Cx} : PGet X (rIxL X.K) := by
  intro pins s σ H o i ov iv Q I ro ri h
  obtain ⟨p, xs, k, v, rfl, rfl, hq, he, q⟩ := h
  cases ro
  obtain ⟨t, rfl⟩ := ri
  obtain ⟨its, r, pl, hz⟩ := I.list hq
  obtain ⟨j, h1, h2, h3, h4, h5⟩ := atI_get he
  obtain ⟨u, eu, ru⟩ := r.get h2
  have hn := line63
  by_cases h0 : 0 ≤ k
  · have hj : k.toNat = j := by
      rw [seqIndex_of h0 h5] at h1
      exact Option.some.inj h1
    exact wpAny_getItem_list pl.isList h0 (by omega) (by rw [hj]; simpa using eu) ⟨v, H, I, ru, q⟩
  · have hl := r.length
    have hj : (k + (its.toArray.size : Int)).toNat = j := by
      rw [seqIndex_neg (by omega) h4] at h1
      rw [List.size_toArray, ← hl]
      exact Option.some.inj h1
    exact wpAny_getItem_list_neg pl.isList (by omega) (by rw [List.size_toArray] <;> omega) (by omega) (by rw [hj]; simpa using eu) ⟨v, H, I, ru, q⟩
/-! ### a def with its own code object -/
structure FunC (K : PySem.W.Frag) (x qual : Str) (st : Stmt) (f : Addr) (fd : FuncData) (cd : Addr) : Prop where
  ex : ∃ (oc : Value) (od : Option Addr) (kV doc pm : Value) (an : Option Addr) (ct : Value) (osl : Array (Option Value)),
    fd = PySem.W.fnOf x qual (defArgs st) (defBody st) (defScope st) .none kV doc pm an (.ref cd) ct ∧ K.lookup f = some ⟨oc, od, .func fd, osl⟩ ∧ PySem.W.codeIn K (.ref cd) qual = true
section
variable {P : Program} {w : World} {K : PySem.W.Frag} {mg : Str → Option Value} {base : Heap} {C : Cl}
theorem FunC.ok {x qual : Str} {st : Stmt} {f cd : Addr} {fd : FuncData} {N ps : List Str} {k : Nat} {sp : Sp} (F : FunC K x qual st f fd cd) (S : FnScope N ps (defScope st)) (len : ∀ vs H Q E, sp vs H Q E → vs.length = ps.length)
    (hbody : ∀ (A : Around) (outer : List Env) (s : Shared) (H : Hp) (vs : List V) (Q : VK) (E : XK), Room k (A.deeper (envOfC qual (defScope st) s.heap.objs.size f (.ref cd))) → sp vs H Q E →
      ∃ t, PSs (cxOf CX0 P w K mg base N qual (defScope st) f (.ref cd) A outer s H E).nox (defBody st) t ∧ t { nx := fun _ H' => Q .non H', rt := Q } (L2.start N vs) H) : FnOk P w K mg base CX0 (k + 1) f fd ps sp := by
  obtain ⟨oc, od, kV, doc, pm, an, ct, osl, rfl, lk, hcd⟩ := F.ex
  refine fn_of lk hcd S len fun A outer s H vs Q E hr hsp => ?_
  obtain ⟨t, h, q⟩ := hbody A outer s H vs Q E hr hsp
  exact ⟨t, h.nox, q⟩
/-! ### the lambda of shares -/
def lamIn (s : Stmt) : Arguments × Scope := match s with
  | .Assign _ (.Call _ _ [⟨_, .Lambda a _ sc _, _⟩] _) _ => (a, sc)
  | _ => (defArgs s, defScope s)
abbrev lamA : Arguments := (lamIn ((defBody s_shares).getD lamSt_shares (.Pass ⟨0, 0, 0, 0⟩))).1
abbrev lamS : Scope := (lamIn ((defBody s_shares).getD lamSt_shares (.Pass ⟨0, 0, 0, 0⟩))).2
theorem lamText : LamText lamA lamS "t" "rests" := ⟨fun _ _ _ _ _ _ _ _ => rfl, fun _ => rfl, rfl, rfl, rfl, by decide +kernel, by decide +kernel, by decide +kernel, by decide +kernel, by decide +kernel, by decide +kernel⟩
theorem lamClos {env : Env} {cc : Addr} (h : env.cells.lookup ("rests" : Str) = some cc) : closureFor lamS env = pure [(("rests" : Str), cc)] := by
  rw [closure_ok (scope := lamS) (env := env) (fun y hy e => ?_)]
  · show pure [(Str.ofString "rests", (env.cells.lookup (Str.ofString "rests")).getD 0)] = _
    rw [h]; rfl
  · have hy : y = (Str.ofString "t", NameKind.local) ∨ y = (Str.ofString "rests", NameKind.free) := by
      have hy : y ∈ [(Str.ofString "t", NameKind.local), (Str.ofString "rests", NameKind.free)] := hy
      simpa using hy
    rcases hy with rfl | rfl
    · cases e
    · exact ⟨cc, h⟩
end
end Mp

set_option Elab.async false
set_option linter.all false
set_option maxRecDepth 100000
set_option maxHeartbeats 4000000
namespace Mp
open PySem PySem.Spec PyProof.Rows L2
/-- the code table of shares -/
abbrev lamQ : Str := "shares" ++ ".<locals>." ++ "<lambda>"
abbrev TabS (Pt : Addr) (H : Hp) : Prop := Tab lamAt_shares lamQ Pt H
/-- all that was tracked is as it was, but the code table -/
def KeepT (Pt : Addr) (H H' : Hp) : Prop := ∀ b o, H b = some o → b ≠ Pt → H' b = some o
abbrev natV (n : Nat) : V := .int ((n : Nat) : Int)
def spShares (Pt : Addr) : Sp := fun vs H Q _ => ∃ (a : Nat) (l : Addr) (ws : List Nat), vs = [natV a, .ref l] ∧ ws.length = 4 ∧ 0 < ws.sum ∧ ws.sum ≤ 10000000000000 ∧ H l = some (.lst (ws.map natV)) ∧ TabS Pt H ∧
  ∀ (H' : Hp) (r : Addr), KeepT Pt H H' → TabS Pt H' → H r = none → H' r = some (.lst ((shares a ws).map natV)) → Q (.ref r) H'
section
variable {P : Program} {w : World} {K : PySem.W.Frag} {mg : Str → Option Value} {base : Heap} {C : Cl}
theorem sc_shares : FnScope ["amount", "worths", "whole", "parts", "rests", "over", "order", "t", "worth"] ["amount", "worths"] (defScope s_shares) := ⟨rfl, rfl, rfl, by decide +kernel, rfl, by decide +kernel, by decide +kernel⟩
theorem sumV (ws : List Nat) : (ws.map fun n => ((n : Nat) : Int)).sum = ((ws.sum : Nat) : Int) := by
  have := sum_cast (fun n : Nat => n) ws
  rw [sumOf_eq, List.map_id'] at this
  exact this
theorem mem_le_sum {ws : List Nat} {x : Nat} (h : x ∈ ws) : x ≤ ws.sum := by
  induction ws with
  | nil => cases h
  | cons y l ih =>
    rw [List.sum_cons]
    rcases List.mem_cons.mp h with rfl | h
    · omega
    · have := ih h; omega
/-! ### the shares' lists -/
def flL (a : Nat) (ws : List Nat) : List Int := (List.range 4).map fun t => ((fl a ws t : Nat) : Int)
def rsL (a : Nat) (ws : List Nat) : List Int := (List.range 4).map fun t => ((rs a ws t : Nat) : Int)
theorem flL_get {a : Nat} {ws : List Nat} {i : Nat} {y : V} (h4 : ws.length = 4) {x : V} (hx : (ws.map natV)[i]? = some x) (hy : ((flL a ws).map V.int)[i]? = some y) : ∃ n, x = natV n ∧ n ∈ ws ∧ y = .int (((a : Nat) : Int) * ((n : Nat) : Int) / ((ws.sum : Nat) : Int)) := by
  rw [List.getElem?_map] at hx
  cases e : ws[i]? with
  | none => rw [e] at hx; cases hx
  | some n =>
    rw [e] at hx
    have hi : i < 4 := by rw [← h4]; exact (List.getElem?_eq_some_iff.mp e).1
    unfold flL at hy
    rw [List.getElem?_map, List.getElem?_map, List.getElem?_range hi] at hy
    have hy : V.int ((fl a ws i : Nat) : Int) = y := Option.some.inj hy
    refine ⟨n, (Option.some.inj hx).symm, List.mem_of_getElem? e, ?_⟩
    rw [← hy, flI]
    unfold fl
    rw [List.getD_eq_getElem?_getD, e]; rfl
theorem rsL_get {a : Nat} {ws : List Nat} {i : Nat} {y : V} (h4 : ws.length = 4) {x : V} (hx : (ws.map natV)[i]? = some x) (hy : ((rsL a ws).map V.int)[i]? = some y) : ∃ n, x = natV n ∧ n ∈ ws ∧ y = .int (((a : Nat) : Int) * ((n : Nat) : Int) % ((ws.sum : Nat) : Int)) := by
  rw [List.getElem?_map] at hx
  cases e : ws[i]? with
  | none => rw [e] at hx; cases hx
  | some n =>
    rw [e] at hx
    have hi : i < 4 := by rw [← h4]; exact (List.getElem?_eq_some_iff.mp e).1
    unfold rsL at hy
    rw [List.getElem?_map, List.getElem?_map, List.getElem?_range hi] at hy
    have hy : V.int ((rs a ws i : Nat) : Int) = y := Option.some.inj hy
    refine ⟨n, (Option.some.inj hx).symm, List.mem_of_getElem? e, ?_⟩
    rw [← hy, rsI]
    unfold rs
    rw [List.getD_eq_getElem?_getD, e]; rfl
theorem neg_key {a : Nat} {ws : List Nat} {x : Int} (h : x ∈ four) : negAt (rsL a ws) x = key a ws x := by
  rw [four_eq] at h
  obtain ⟨t, ht, rfl⟩ := List.mem_map.mp h
  have h4 : t < 4 := List.mem_range.mp ht
  unfold negAt key rsL
  rw [Int.toNat_natCast, List.getD_eq_getElem?_getD, List.getElem?_map, List.getElem?_range h4]; rfl
theorem dealt_take (a : Nat) (ws : List Nat) (o : List Int) (k : Nat) : dealt a ws o (o.take k).length = dealt a ws o k := by
  have e : o.take (o.take k).length = o.take k := by
    rw [List.length_take]
    by_cases h : k ≤ o.length
    · rw [Nat.min_eq_left h]
    · rw [Nat.min_eq_right (by omega), List.take_length, List.take_of_length_le (by omega)]
  unfold dealt
  rw [e]
theorem cut_take (os : List Int) (k : Nat) : cutV (os.map V.int) none (some ((k : Nat) : Int)) = (os.take k).map V.int := by
  unfold cutV
  rw [HT.sIx_none, HT.sIx_nat, List.drop_zero, Nat.sub_zero, List.map_take, List.length_map]
  by_cases h : k ≤ os.length
  · rw [Nat.min_eq_left h]
  · rw [Nat.min_eq_right (by omega), List.take_of_length_le (by rw [List.length_map]; exact Nat.le_refl _), List.take_of_length_le (by rw [List.length_map]; omega)]
theorem ok_shares {f cd Pt : Addr} {fd : FuncData} (F : FunC K "shares" "shares" s_shares f fd cd) (T : Txt K mg C) (L : LamOk mg base cd Pt) : FnOk P w K mg base CX0 3 f fd ["amount", "worths"] (spShares Pt) := by
  refine F.ok sc_shares (fun vs H Q E h => ?_) (fun A outer s H vs Q E hr h => ?_)
  · obtain ⟨a, l, ws, rfl, _⟩ := h
    rfl
  · obtain ⟨a, l, ws, rfl, h4, hpos, hbig, hl, tab, q⟩ := h
    refine ⟨_, pss_cons (ps_set (i := 2) sc_shares.nd rfl (Or.inr rfl) (pe_callB (cr_sum rfl) rfl T.bSum boot_sum (pa_cons (pv 1) pa_nil)))
      (pss_cons (ps_setLc (i := 3) (own := [("worth", 8)]) (te := tOp (rI (fun _ j => 0 < j ∧ j < 2 ^ 64) fun i j => .int (i / j)) (tOp (rI CMul fun i j => .int (i * j)) (tVar 0) (tVar 8)) (tVar 2)) rfl sc_shares.nd rfl rfl (sw_true rfl rfl rfl (by kernel_rfl)) (pi_list (pv 1)) (blkOk_by (by kernel_rfl))
        (fun _ _ _ _ _ => pg_name (i := 8) sc_shares.nd rfl (Or.inl rfl)) (fun _ _ _ _ _ => pts_nil) (fun _ _ _ _ _ => pe_op op_fdivW (pe_op op_mul (pv 0) (pv 8)) (pv 2)))
      (pss_cons (ps_set (i := 4) sc_shares.nd rfl (Or.inr rfl) (pe_lc (own := [("worth", 8)]) (te := tOp (rI (fun _ j => 0 < j) fun i j => .int (i % j)) (tOp (rI CMul fun i j => .int (i * j)) (tVar 0) (tVar 8)) (tVar 2)) rfl sc_shares.nd (pi_list (pv 1)) (blkOk_by (by kernel_rfl))
        (fun _ _ _ _ _ => pg_name (i := 8) sc_shares.nd rfl (Or.inl rfl)) (fun _ _ _ _ _ => pts_nil) (fun _ _ _ _ _ => pe_op op_mod (pe_op op_mul (pv 0) (pv 8)) (pv 2))))
      (pss_cons (ps_set (i := 5) sc_shares.nd rfl (Or.inl rfl) (pe_op op_sub (pv 0) (pe_callB (cr_sum rfl) rfl T.bSum boot_sum (pa_cons (pv 3) pa_nil))))
      (pss_cons (ps_set (i := 6) sc_shares.nd rfl (Or.inl rfl) (pe_sortKey (ir := 4) rfl hr lamText L rfl rfl T.bSorted rfl T.bRange rfl rfl (fun _ e => lamClos e) (pa_cons (pe_callB call_len_seq rfl T.bLen PySem.boot_len (pa_cons (pv 1) pa_nil)) pa_nil)))
      (pss_cons (ps_for PassesOwn.never rfl (pi_list (pe_slice sl_list (pv 6) po_none (po_some (pv 5)))) (pg_name (i := 7) sc_shares.nd rfl (Or.inl rfl)) (pss_one (ps_augS (pv 3) (pv 7) get_list pe_int ip_add set_list)))
      (pss_one (ps_ret (pv 3)))))))), ?_⟩
    have hS64 : (0 : Int) < ((ws.sum : Nat) : Int) ∧ ((ws.sum : Nat) : Int) < 2 ^ 64 := by constructor <;> omega
    have hl2 : H l = some (.lst ((ws.map fun n => ((n : Nat) : Int)).map V.int)) := by rw [List.map_map]; exact hl
    -- whole = sum(worths)
    refine ⟨_, rfl, l, _, rfl, SqL.of hl2, ?_⟩
    rw [sumV]
    -- parts
    refine ⟨_, rfl, l, rfl, ⟨_, SqL.of hl⟩, fun pD hpD => ?_⟩
    refine lc_map ((flL a ws).map V.int) (SqL.of hl) hpD (by unfold flL; simp [h4]) (by unfold flL; simp) (fun i x y H1 hx hy sm R S r => ?_) (fun H1 s1 hp1 => ?_)
    · obtain ⟨n, rfl, hn, rfl⟩ := flL_get h4 hx hy
      exact ⟨wipe1, _, rfl, _, rfl, _, _, rfl, rfl, .inr (nat_lt64 (Nat.le_trans (mem_le_sum hn) hbig)), _, rfl, _, _, rfl, rfl, hS64, r⟩
    -- rests
    have hl1 := s1 _ _ hl
    refine ⟨_, rfl, l, rfl, ⟨_, SqL.of hl1⟩, fun rD hrD => ?_⟩
    refine lc_map ((rsL a ws).map V.int) (SqL.of hl1) hrD (by unfold rsL; simp [h4]) (by unfold rsL; simp) (fun i x y H2 hx hy sm R S r => ?_) (fun H2 s2 hr2 => ?_)
    · obtain ⟨n, rfl, hn, rfl⟩ := rsL_get h4 hx hy
      exact ⟨wipe1, _, rfl, _, rfl, _, _, rfl, rfl, .inr (nat_lt64 (Nat.le_trans (mem_le_sum hn) hbig)), _, rfl, _, _, rfl, rfl, hS64.1, r⟩
    have hp2 := s2 _ _ hp1
    have hl3 := s2 _ _ hl1
    -- over
    refine ⟨_, rfl, _, rfl, pD, _, rfl, SqL.of hp2, _, _, rfl, rfl, ?_⟩
    dsimp only
    rw [show ((a : Nat) : Int) - (flL a ws).sum = ((over a ws : Nat) : Int) from over_int a ws h4 hpos]
    -- order
    have t2 : TabS Pt H2 := (tab.same s1).same s2
    refine ⟨_, rfl, l, _, rfl, .inl (SqL.of hl3), ?_⟩
    refine ⟨4, rD, rsL a ws, by rw [List.length_map, h4], by decide, rfl, hr2, by unfold rsL; simp, t2, fun oD H3 os o1 o2 o3 t3 k3 noD hoD => ?_⟩
    have p4 : os.Perm four := o1
    have q2 : os.Pairwise (fun x y => key a ws x ≤ key a ws y) := o2.imp_of_mem fun {x y} hx hy h => by
      rw [neg_key (p4.mem_iff.mp hx), neg_key (p4.mem_iff.mp hy)] at h
      exact h
    have q3 : ∀ z, os.filter (fun x => key a ws x == z) = four.filter (fun x => key a ws x == z) := fun z => by
      have e1 : os.filter (fun x => key a ws x == z) = os.filter (fun x => negAt (rsL a ws) x == z) := List.filter_congr fun x hx => by rw [neg_key (p4.mem_iff.mp hx)]
      have e2 : four.filter (fun x => key a ws x == z) = four.filter (fun x => negAt (rsL a ws) x == z) := List.filter_congr fun x hx => by rw [neg_key hx]
      rw [e1, e2]
      exact o3 z
    have nd : os.Nodup := p4.nodup_iff.mpr (by decide)
    have nPt : ∀ {b : Addr} {u : HO}, H2 b = some u → (∀ ps, u ≠ .tbl ps) → b ≠ Pt := fun {b u} e n => by
      obtain ⟨ps, hP⟩ := t2.at
      exact ne_of e hP (n ps)
    have hp3 : H3 pD = some (.lst ((flL a ws).map V.int)) := k3 _ _ hp2 (nPt hp2 (by intro ps z; cases z))
    have k03 : KeepT Pt H H3 := fun b o e hb => k3 _ _ (s2 _ _ (s1 _ _ e)) hb
    -- for t in order[:over]: parts[t] += 1
    refine ⟨_, rfl, _, rfl, _, rfl, oD, _, rfl, SqL.of hoD, fun sD hsD => ?_⟩
    rw [cut_take]
    have npD : pD ≠ sD := ne_of_none hp3 hsD
    have npP : pD ≠ Pt := nPt hp2 (by intro ps z; cases z)
    have sm4 : Same H3 (upd H3 sD (.lst ((os.take (over a ws)).map V.int))) := fun b o e => by rw [upd_ne (ne_of_none e hsD)]; exact e
    refine ⟨sD, rfl, ⟨_, SqL.of upd_same⟩, for_list (K := K) (a := sD) (xs := (os.take (over a ws)).map V.int) (fun i σ H' => ∃ v7 : Option V, σ = [some (natV a), some (.ref l), some (natV ws.sum), some (.ref pD), some (.ref rD), some (natV (over a ws)), some (.ref oD), v7, none] ∧
        KeepT Pt H H' ∧ H' pD = some (.lst ((dealt a ws os i).map V.int)) ∧ H' sD = some (.lst ((os.take (over a ws)).map V.int)) ∧ TabS Pt H') ⟨none, rfl, fun b o e hb => sm4 _ _ (k03 b o e hb), ?_, upd_same, t3.same sm4⟩ (fun i σ H' _ ⟨_, _, _, _, e, _⟩ => SqL.of e) ?_ ?_⟩
    · rw [upd_ne npD, hp3, dealt_zero]; rfl
    · rintro i y σ H' hi ⟨v7, rfl, kk, hp, hs, tt⟩
      rw [List.getElem?_map] at hi
      cases e : (os.take (over a ws))[i]? with
      | none => rw [e] at hi; cases hi
      | some z =>
        rw [e] at hi
        have hi : V.int z = y := Option.some.inj hi
        subst hi
        have ez : os[i]? = some z := by
          rw [List.getElem?_take] at e
          split at e
          · exact e
          · cases e
        have mz : z ∈ four := p4.mem_iff.mp (List.mem_of_getElem? ez)
        obtain ⟨t, ht, rfl⟩ : ∃ t : Nat, t < 4 ∧ ((t : Nat) : Int) = z := by
          rw [four_eq] at mz
          obtain ⟨t, ht, e⟩ := List.mem_map.mp mz
          exact ⟨t, List.mem_range.mp ht, e⟩
        obtain ⟨u, hu⟩ : ∃ u, (dealt a ws os i)[t]? = some u := ⟨_, dealt_get a ws os i ht⟩
        refine ⟨_, rfl, _, rfl, pD, _, _, _, rfl, rfl, SqL.of hp, atI_nat (v := V.int u) (by rw [List.getElem?_map, hu]; rfl), _, _, rfl, rfl, pD, _, _, t, rfl, rfl, hp, ?_, ?_⟩
        · unfold ixN
          rw [List.length_map, dealt_len, if_pos (by omega), if_pos (by omega), Int.toNat_natCast]
        · refine ⟨_, rfl, fun b o e hb => ?_, ?_, ?_, ?_⟩
          · rw [upd_ne (ne_of_none e hpD)]; exact kk b o e hb
          · rw [upd_same, ← dealt_step nd ht ez hu, List.map_set]
          · rw [upd_ne npD.symm]; exact hs
          · refine tt.mono fun b o e hb => ?_
            have nb : b ≠ pD := by
              rcases hb with rfl | ⟨q, c, rfl⟩
              · exact npP.symm
              · exact ne_of e hp (by intro z; cases z)
            rw [upd_ne nb]; exact e
    · rintro σ H' ⟨v7, rfl, kk, hp, hs, tt⟩
      -- return parts
      rw [List.length_map, dealt_take, dealt_done p4 q2 q3, List.map_map] at hp
      exact ⟨_, rfl, q H' pD kk tt hpD hp⟩
end
end Mp

set_option Elab.async false
set_option linter.all false
set_option maxRecDepth 100000
set_option maxHeartbeats 4000000
namespace Mp
open PySem PySem.Spec PyProof.Rows L2
/-- a comprehension over range(n): each turn may lay new things -/
theorem lc_rangeMap {n : Nat} {g : TG} {tt : TT} {te : TE} {vs : List Nat} {σ : L2.St} {H1 : Hp} {D : Addr} {Qd : Hp → Prop} (ys : List V) (hD : H1 D = none) (hlen : ys.length = n) (hz : n ≤ 1000)
    (hs : ∀ (i : Nat) (y : V) (H : Hp), ys[i]? = some y → Same H1 H → ∀ (R : V → Hp → Prop) (S : Hp → Prop), (∀ H', Same H H' → R y H') →
      g (.int (0 + (i : Nat))) (wipe σ vs) H fun σ2 H2 => wipe σ2 vs = wipe σ vs ∧ tt σ2 H2 fun b H3 => if b = true then te σ2 H3 R else S H3)
    (hd : ∀ H, Same H1 H → H D = some (.lst ys) → Qd H) :
    ∃ W : Nat → Nat → Hp → Prop, (∃ m, W 0 m (upd H1 D (.lst []))) ∧ ∀ i m H, W i m H →
      ((Itr 0 n).stop i H ∧ Qd H) ∨ ((Itr 0 n).go i H ∧ ∃ Nx : Hp → Prop, (∀ H', Nx H' → ∃ m', m' < m ∧ W (i + 1) m' H') ∧ ∀ x H', (Itr 0 n).yld i H x H' → g x (wipe σ vs) H' fun σ2 H2 => wipe σ2 vs = wipe σ vs ∧ tt σ2 H2 fun b H3 =>
        if b = true then te σ2 H3 fun y H4 => ∃ acc, H4 D = some (.lst acc) ∧ acc.length < sizeLine ∧ Nx (upd H4 D (.lst (acc ++ [y]))) else Nx H3) := by
  have s0 : Same H1 (upd H1 D (.lst [])) := fun b o e => by rw [upd_ne (ne_of_none e hD)]; exact e
  refine lc_range (fun i H => Same H1 H ∧ H D = some (.lst (ys.take i))) ⟨s0, upd_same⟩ (fun i H hi p => ?_) (fun H p => ?_)
  · obtain ⟨y, hy⟩ : ∃ y, ys[i]? = some y := ⟨_, List.getElem?_eq_getElem (by omega)⟩
    have et : ys.take (i + 1) = ys.take i ++ [y] := by rw [List.take_add_one, hy]; rfl
    refine hs i y H hy p.1 (fun v H4 => ∃ acc, H4 D = some (.lst acc) ∧ acc.length < sizeLine ∧ (Same H1 (upd H4 D (.lst (acc ++ [v]))) ∧ upd H4 D (.lst (acc ++ [v])) D = some (.lst (ys.take (i + 1))))) (fun H3 => Same H1 H3 ∧ H3 D = some (.lst (ys.take (i + 1)))) (fun H' sm => ?_)
    refine ⟨_, sm _ _ p.2, ?_, fun b o e => by rw [upd_ne (ne_of_none e hD)]; exact sm _ _ (p.1 b o e), ?_⟩
    · rw [List.length_take]; exact Nat.lt_of_le_of_lt (Nat.min_le_right _ _) (small1000 (by omega))
    · rw [upd_same, et]
  · have e := p.2
    rw [← hlen, List.take_length] at e
    exact hd H p.1 e
/-- the numbers that the top has written -/
structure Cons (mg : Str → Option Value) : Prop where
  items : ∃ t, mg "MOST_ITEMS" = some (.int 10 t)
  certs : ∃ t, mg "MOST_CERTIFICATES" = some (.int 40 t)
  ordered : ∃ t, mg "MOST_ORDERED" = some (.int 10000 t)
  rate : ∃ t, mg "MOST_RATE" = some (.int 1000000 t)
  per : ∃ t, mg "MOST_PER_THOUSAND" = some (.int 200 t)
  trades : ∃ t, mg "TRADES" = some (.int 4 t)
  begin_ : ∃ t, mg "BEGIN" = some (.int 0 t)
  noSuch : ∃ t, mg "NO_SUCH" = some (.int (-2) t)
  nothing : ∃ t, mg "NOTHING_DUE" = some (.int (-6) t)
  notBegun : ∃ t, mg "NOT_BEGUN" = some (.int (-11) t)
  notHanded : ∃ t, mg "NOT_HANDED_OVER" = some (.int (-13) t)
  handed : ∃ t, mg "HANDED_OVER" = some (.int (-16) t)
  already : ∃ t, mg "ALREADY" = some (.int (-17) t)
  range : ∃ t, mg "OUT_OF_RANGE" = some (.int (-22) t)
  full : ∃ t, mg "FULL" = some (.int (-28) t)
  odds : ∃ t, mg "AT_ODDS" = some (.int (-33) t)
/-- a def of the top -/
structure Def (K : PySem.W.Frag) (mg : Str → Option Value) (x : Str) (ps : List Str) (f : Addr) (fd : FuncData) : Prop where
  mg : mg x = some (.ref f)
  kp : PySem.W.keepIn K (.ref f) = true
  b : Binds K fd ps []
section
variable {P : Program} {w : World} {K : PySem.W.Frag} {mg : Str → Option Value} {base : Heap} {C : Cl}
theorem KeepT.same {Pt : Addr} {H H1 H2 : Hp} (a : KeepT Pt H H1) (b : Same H1 H2) : KeepT Pt H H2 := fun c o e n => b _ _ (a c o e n)
theorem Same.keepT {Pt : Addr} {H H1 : Hp} (a : Same H H1) : KeepT Pt H H1 := fun c o e _ => a c o e
theorem KeepT.trans {Pt : Addr} {H H1 H2 : Hp} (a : KeepT Pt H H1) (b : KeepT Pt H1 H2) : KeepT Pt H H2 := fun c o e n => b _ _ (a c o e n) n
/-- no object of the bill is the code table -/
theorem BillAt.noTab {H : Hp} {p Pt : Addr} {L : Lay} {g : Bool} {b : Kp223.Bill} (B : BillAt C H p L g b) (t : TabS Pt H) : ∀ a ∈ foot p L, a ≠ Pt := by
  obtain ⟨ps, hP⟩ := t.at
  intro a ha
  rcases foot_iff.mp ha with rfl | rfl | rfl | h | h | h
  · obtain ⟨dx, e⟩ := B.ob; exact ne_of e hP (by intro z; cases z)
  · exact ne_of B.le hP (by intro z; cases z)
  · exact ne_of B.lc hP (by intro z; cases z)
  · obtain ⟨j, hj⟩ := List.mem_iff_getElem?.mp h
    have hlt := (List.getElem?_eq_some_iff.mp hj).1
    rw [B.ni] at hlt
    obtain ⟨dx, e⟩ := B.it j a _ hj (List.getElem?_eq_getElem hlt)
    exact ne_of e hP (by intro z; cases z)
  · obtain ⟨j, hj⟩ := List.mem_iff_getElem?.mp h
    have hlt := (List.getElem?_eq_some_iff.mp hj).1
    rw [B.nc] at hlt
    obtain ⟨⟨dx, e⟩, _⟩ := B.ct j a _ _ hj (List.getElem?_eq_getElem (by rw [B.np]; exact hlt)) (List.getElem?_eq_getElem hlt)
    exact ne_of e hP (by intro z; cases z)
  · obtain ⟨j, hj⟩ := List.mem_iff_getElem?.mp h
    have hlt := (List.getElem?_eq_some_iff.mp hj).1
    rw [B.np] at hlt
    obtain ⟨_, e⟩ := B.ct j _ a _ (List.getElem?_eq_getElem (by rw [B.nc]; exact hlt)) hj (List.getElem?_eq_getElem hlt)
    exact ne_of e hP (by intro z; cases z)
theorem BillAt.keepT {H H' : Hp} {p Pt : Addr} {L : Lay} {g : Bool} {b : Kp223.Bill} (B : BillAt C H p L g b) (t : TabS Pt H) (k : KeepT Pt H H') : BillAt C H' p L g b := B.mono fun a ha o e => k a o e (B.noTab t a ha)

/-! ### parts_by_trade -/
def partsOf (b : Kp223.Bill) (d : Nat) : List Int := (List.range 4).map fun t => ((Kp223.share b (Kp223.certified b + d) t : Nat) : Int) - Kp223.tradeSoFar b t
def spParts (C : Cl) (Pt : Addr) : Sp := fun vs H Q _ => ∃ (p : Addr) (L : Lay) (g : Bool) (b : Kp223.Bill) (d : Nat), vs = [.ref p, natV d] ∧ BillAt C H p L g b ∧ Wf b ∧ Kp223.value b ≠ 0 ∧ TabS Pt H ∧
  ∀ (H' : Hp) (r : Addr), KeepT Pt H H' → TabS Pt H' → H r = none → H' r = some (.lst ((partsOf b d).map V.int)) → Q (.ref r) H'
theorem sc_parts : FnScope ["bill", "amount", "worths", "whole_shares", "t"] ["bill", "amount"] (defScope s_parts_by_trade) := ⟨rfl, rfl, rfl, by decide +kernel, rfl, by decide +kernel, by decide +kernel⟩
theorem ok_parts {f fS fC fV fG Pt : Addr} {fd fdS fdC fdV fdG : FuncData} (F : Fun K "parts_by_trade" "parts_by_trade" s_parts_by_trade f fd) (T : Txt K mg C) (N : Cons mg) (DS : Def K mg "shares" ["amount", "worths"] fS fdS) (GS : FnOk P w K mg base CX0 3 fS fdS ["amount", "worths"] (spShares Pt))
    (MC : Has K C "certified" "Bill.certified" s_Bill_certified ["self"] fC fdC) (MV : Has K C "trade_value" "Bill.trade_value" s_Bill_trade_value ["self", "trade"] fV fdV) (MG : Has K C "trade_got" "Bill.trade_got" s_Bill_trade_got ["self", "trade"] fG fdG) :
    FnOk P w K mg base CX0 4 f fd ["bill", "amount"] (spParts C Pt) := by
  have GC : FnOk P w K mg base CX0 1 fC fdC ["self"] _ := ok_certified MC.F T
  have GV : FnOk P w K mg base CX0 1 fV fdV ["self", "trade"] _ := ok_tvalue MV.F T
  have GG : FnOk P w K mg base CX0 1 fG fdG ["self", "trade"] _ := ok_tgot MG.F T
  obtain ⟨t4, h4⟩ := N.trades
  refine F.ok sc_parts (fun vs H Q E h => ?_) (fun cdv A outer s H vs Q E hr h => ?_)
  · obtain ⟨p, L, g, b, d, rfl, _⟩ := h
    rfl
  · obtain ⟨p, L, g, b, d, rfl, B, W, hv, tab, q⟩ := h
    obtain ⟨dx, h1⟩ := B.ob
    have hr1 : Room 1 _ := hr.mono (by decide)
    refine ⟨_, pss_cons (ps_setLc (i := 2) (own := [("t", 4)]) (te := tMeth C.B "trade_value" (spNumT C fun b t => (Kp223.tradeValue b t : Nat)) [] E0 (tVar 0) (tCons (tVar 4) tNil)) rfl sc_parts.nd rfl rfl (sw_true rfl rfl rfl (by kernel_rfl)) (pi_range1 rfl T.bRange (pa_cons (pe_glob (v := .int 4) rfl h4 ⟨_, rfl⟩) pa_nil)) (blkOk_by (by kernel_rfl))
        (fun _ _ _ _ _ => pg_name (i := 4) sc_parts.nd rfl (Or.inl rfl)) (fun _ _ _ _ _ => pts_nil) (fun _ _ _ _ _ => pe_meth (pv 0) T.clB MV.m GV hr1 MV.b .nil pass0 (pa_cons (pv 4) pa_nil)))
      (pss_cons (ps_set (i := 3) sc_parts.nd rfl (Or.inr rfl) (pe_call GS hr rfl DS.mg DS.kp DS.b .nil pass0 (pa_cons (pe_op op_add (pe_meth0 (pv 0) T.clB MC.m GC hr1 MC.b .nil pass0) (pv 1)) (pa_cons (pv 2) pa_nil))))
      (pss_one (ps_ret (pe_lc (own := [("t", 4)]) (te := tOp (rI0 fun i j => .int (i - j)) (tOp (rIxL K) (tVar 3) (tVar 4)) (tMeth C.B "trade_got" (spNumT C Kp223.tradeSoFar) [] E0 (tVar 0) (tCons (tVar 4) tNil))) rfl sc_parts.nd (pi_range1 rfl T.bRange (pa_cons (pe_glob (v := .int 4) rfl h4 ⟨_, rfl⟩) pa_nil)) (blkOk_by (by kernel_rfl))
        (fun _ _ _ _ _ => pg_name (i := 4) sc_parts.nd rfl (Or.inl rfl)) (fun _ _ _ _ _ => pts_nil) (fun _ _ _ _ _ => pe_op op_sub (pe_ix ix_list (pv 3) (pv 4) (fun _ _ => rfl)) (pe_meth (pv 0) T.clB MG.m GG hr1 MG.b .nil pass0 (pa_cons (pv 4) pa_nil))))))), ?_⟩
    -- worths
    refine ⟨4, rfl, by decide, by decide, fun D hD => ?_⟩
    refine lc_rangeMap (n := 4) ((worths b).map natV) hD rfl (by decide) (fun i y H1 hy sm R S r => ?_) (fun H1 s1 hw1 => ?_)
    · have hi : i < 4 := (List.getElem?_eq_some_iff.mp hy).1
      have ey : y = natV (Kp223.tradeValue b i) := by
        unfold worths at hy
        rw [List.getElem?_map, List.getElem?_map, List.getElem?_range hi] at hy
        exact (Option.some.inj hy).symm
      subst ey
      refine ⟨wipe1, _, rfl, p, dx, _, rfl, sm _ _ h1, bl_no (by decide +kernel), _, rfl, p, L, g, b, i, ?_, B.same sm, W, hi, r⟩
      show [V.ref p, V.int (0 + ((i : Nat) : Int))] = _
      rw [Int.zero_add]
    -- whole_shares
    have B1 := B.same s1
    refine ⟨_, rfl, p, dx, _, rfl, s1 _ _ h1, bl_no (by decide +kernel), p, L, g, b, rfl, B1, W, fun H2 s2 => ?_⟩
    refine ⟨_, rfl, _, _, rfl, rfl, _, rfl, Kp223.certified b + d, D, worths b, ?_, rfl, ?_, ?_, s2 _ _ hw1, (tab.same s1).same s2, fun H3 r k3 t3 nr hr3 => ?_⟩
    · show [V.int (((Kp223.certified b : Nat) : Int) + ((d : Nat) : Int)), V.ref D] = _
      rw [← Int.natCast_add]
    · rw [worths_sum W]; omega
    · rw [worths_sum W]; exact Nat.le_trans (value_le W) (by decide)
    -- the parts
    have t2 : TabS Pt H2 := (tab.same s1).same s2
    have B2 := B1.same s2
    have B3 : BillAt C H3 p L g b := B2.keepT t2 k3
    have h3 : H3 p = some (.ins C.B dx (billK.zip (biV g b L))) := k3 _ _ (s2 _ _ (s1 _ _ h1)) (B2.noTab t2 p foot_p)
    refine ⟨4, rfl, by decide, by decide, fun E1 hE1 => ?_⟩
    refine lc_rangeMap (n := 4) ((partsOf b d).map V.int) hE1 (by unfold partsOf; simp) (by decide) (fun i y H4 hy sm R S r' => ?_) (fun H4 s4 hw4 => ?_)
    · have hi : i < 4 := by
        have := (List.getElem?_eq_some_iff.mp hy).1
        unfold partsOf at this
        simpa using this
      have ey : y = V.int (((Kp223.share b (Kp223.certified b + d) i : Nat) : Int) - Kp223.tradeSoFar b i) := by
        unfold partsOf at hy
        rw [List.getElem?_map, List.getElem?_map, List.getElem?_range hi] at hy
        exact (Option.some.inj hy).symm
      subst ey
      refine ⟨wipe1, _, rfl, _, rfl, r, _, _, _, rfl, rfl, SqL.of (sm _ _ hr3), at_of (j := i) (v := natV (shareOf (Kp223.certified b + d) (worths b) i)) (Int.zero_add _) ?_, ?_⟩
      · unfold shares
        rw [List.getElem?_map, List.getElem?_map, List.getElem?_range hi]; rfl
      · refine ⟨_, rfl, p, dx, _, rfl, sm _ _ h3, bl_no (by decide +kernel), _, rfl, p, L, g, b, i, ?_, B3.same sm, W, hi, fun H5 s5 => ?_⟩
        · show [V.ref p, V.int (0 + ((i : Nat) : Int))] = _
          rw [Int.zero_add]
        · refine ⟨_, _, rfl, rfl, ?_⟩
          rw [← share_eq W hv _ hi]
          exact r' H5 s5
    · have k : KeepT Pt H H4 := ((show KeepT Pt H H2 from fun c o e _ => s2 _ _ (s1 _ _ e)).trans k3).same s4
      refine q H4 E1 k (t3.same s4) ?_ hw4
      cases e : H E1 with
      | none => rfl
      | some o =>
        have e2 := s2 _ _ (s1 _ _ e)
        by_cases z : E1 = Pt
        · obtain ⟨ps, hP⟩ := t3.at
          rw [z, hP] at hE1
          cases hE1
        · rw [k3 _ _ e2 z] at hE1
          cases hE1
end
end Mp

set_option Elab.async false
set_option linter.all false
set_option maxRecDepth 100000
set_option maxHeartbeats 4000000
namespace Mp
open PySem PySem.Spec PyProof.Rows L2
/-- a method of a certificate, as the top has made it -/
structure HasC (K : PySem.W.Frag) (C : Cl) (m qual : Str) (st : Stmt) (ps : List Str) (f : Addr) (fd : FuncData) : Prop where
  F : Fun K m qual st f fd
  b : Binds K fd ps []
  m : Meth K C.C m f
section
variable {P : Program} {w : World} {K : PySem.W.Frag} {mg : Str → Option Value} {base : Heap} {C : Cl}
/-- no attribute of a certificate has the method's name -/
theorem ce_no {c : Kp223.Cert} {q : Addr} {k : Str} (h : certK.findIdx? (fun g => k == g) = none) : (certK.zip (ceV c q)).lookup k = none := lk_no h
/-! ### Certificate.unpaid -/
def spUnpaid (C : Cl) : Sp := fun vs H Q _ => ∃ (a dx q : Addr) (c : Kp223.Cert), vs = [.ref a] ∧ H a = some (.ins C.C dx (certK.zip (ceV c q))) ∧ Q (.int (((c.amount : Nat) : Int) - ((c.paid : Nat) : Int))) H
theorem sc_unpaid : FnScope ["self"] ["self"] (defScope s_Certificate_unpaid) := ⟨rfl, rfl, rfl, by decide +kernel, rfl, by decide +kernel, by decide +kernel⟩
theorem ok_unpaid {f : Addr} {fd : FuncData} (F : Fun K "unpaid" "Certificate.unpaid" s_Certificate_unpaid f fd) (T : Txt K mg C) : FnOk P w K mg base CX0 1 f fd ["self"] (spUnpaid C) := by
  refine F.ok sc_unpaid (fun vs H Q E h => ?_) (fun cdv A outer s H vs Q E hr h => ?_)
  · obtain ⟨a, dx, q, c, rfl, _⟩ := h
    rfl
  · obtain ⟨a, dx, q, c, rfl, ha, k⟩ := h
    refine ⟨_, pss_one (ps_ret (pe_op op_sub (pe_fld (pv 0) rfl) (pe_fld (pv 0) rfl))), ?_⟩
    exact ⟨_, rfl, a, C.C, dx, _, _, rfl, ha, T.clC, T.nC _ (by decide +kernel), lk_at (i := 0) (by decide +kernel) rfl, _, rfl, a, C.C, dx, _, _, rfl, ha, T.clC, T.nC _ (by decide +kernel), lk_at (i := 2) (by decide +kernel) rfl, _, _, rfl, rfl, k⟩
/-! ### Bill.has_certificate -/
def spHasC (C : Cl) : Sp := fun vs H Q _ => ∃ (p : Addr) (L : Lay) (g : Bool) (b : Kp223.Bill) (i : Nat), vs = [.ref p, .int (i : Nat)] ∧ BillAt C H p L g b ∧ Q (.bl (decide (i < b.certs.length))) H
theorem sc_hasC : FnScope ["self", "n"] ["self", "n"] (defScope s_Bill_has_certificate) := ⟨rfl, rfl, rfl, by decide +kernel, rfl, by decide +kernel, by decide +kernel⟩
theorem ok_hasC {f : Addr} {fd : FuncData} (F : Fun K "has_certificate" "Bill.has_certificate" s_Bill_has_certificate f fd) (T : Txt K mg C) : FnOk P w K mg base CX0 1 f fd ["self", "n"] (spHasC C) := by
  refine F.ok sc_hasC (fun vs H Q E h => ?_) (fun cdv A outer s H vs Q E hr h => ?_)
  · obtain ⟨p, L, g, b, i, rfl, _⟩ := h
    rfl
  · obtain ⟨p, L, g, b, i, rfl, B, q⟩ := h
    obtain ⟨dx, h1⟩ := B.ob
    refine ⟨_, pss_one (ps_ret (pe_cmpR op_lt (pv 1) (pe_callB call_len_seq rfl T.bLen PySem.boot_len (pa_cons (pe_fld (pv 0) rfl) pa_nil)) (nomark _))), ?_⟩
    refine ⟨_, rfl, _, rfl, p, C.B, dx, _, _, rfl, h1, T.clB, T.nB _ (by decide +kernel), lk_at (i := 4) (by decide +kernel) rfl, L.lc, _, rfl, .inl (SqL.of B.lc), _, _, rfl, rfl, ?_⟩
    show Q (.bl (decide (((i : Nat) : Int) < (((L.cs.map V.ref).length : Nat) : Int)))) H
    rw [List.length_map, B.nc, show decide (((i : Nat) : Int) < ((b.certs.length : Nat) : Int)) = decide (i < b.certs.length) from decide_eq_decide.mpr (by omega)]
    exact q
/-! ### Bill.all_paid -/
theorem sc_allpaid : FnScope ["self", "certificate"] ["self"] (defScope s_Bill_all_paid) := ⟨rfl, rfl, rfl, by decide +kernel, rfl, by decide +kernel, by decide +kernel⟩
theorem ok_allpaid {f : Addr} {fd : FuncData} (F : Fun K "all_paid" "Bill.all_paid" s_Bill_all_paid f fd) (T : Txt K mg C) : FnOk P w K mg base CX0 1 f fd ["self"] (spNum C fun b => (Kp223.paid b : Nat)) := by
  refine F.ok sc_allpaid (fun vs H Q E h => ?_) (fun cdv A outer s H vs Q E hr h => ?_)
  · obtain ⟨p, L, g, b, rfl, _⟩ := h
    rfl
  · obtain ⟨p, L, g, b, rfl, B, W, q⟩ := h
    obtain ⟨dx, h1⟩ := B.ob
    refine ⟨_, pss_one (ps_ret (pe_callB (cr_sum rfl) rfl T.bSum boot_sum (pa_cons (pe_lc (own := [("certificate", 1)]) (te := tFld K (tVar 1) "paid") rfl sc_allpaid.nd (pi_list (pe_fld (pv 0) rfl)) (blkOk_by (by kernel_rfl))
      (fun _ _ _ _ _ => pg_name (i := 1) sc_allpaid.nd rfl (Or.inl rfl)) (fun _ _ _ _ _ => pts_nil) (fun _ _ _ _ _ => pe_fld (pv 1) rfl)) pa_nil))), ?_⟩
    refine ⟨_, rfl, p, C.B, dx, _, _, rfl, h1, T.clB, T.nB _ (by decide +kernel), lk_at (i := 4) (by decide +kernel) rfl, L.lc, rfl, ⟨_, SqL.of B.lc⟩, fun D hD => ?_⟩
    refine lc_map ((b.certs.map fun c => ((c.paid : Nat) : Int)).map V.int) (SqL.of B.lc) hD (by simp [B.nc]) (by rw [List.length_map, List.length_map]; exact Nat.le_trans W.nc (by decide)) (fun i x y H1 hx hy sm R S r => ?_) (fun H1 sm e => ?_)
    · rw [List.map_map] at hy
      obtain ⟨a, z, ea, ei, rfl, rfl⟩ := get_two hx hy
      have hl := (List.getElem?_eq_some_iff.mp ei).1
      obtain ⟨⟨d, hz⟩, _⟩ := B.ct i a _ z ea (List.getElem?_eq_getElem (by rw [B.np]; exact hl)) ei
      exact ⟨wipe1, _, rfl, a, C.C, d, _, _, rfl, sm _ _ hz, T.clC, T.nC _ (by decide +kernel), lk_at (i := 2) (by decide +kernel) rfl, r⟩
    · refine ⟨D, _, rfl, SqL.of e, ?_⟩
      rw [sum_cast]
      exact q _ sm
/-! ### Bill.all_done -/
def spDone (C : Cl) : Sp := fun vs H Q _ => ∃ (p : Addr) (L : Lay) (g : Bool) (b : Kp223.Bill), vs = [.ref p] ∧ BillAt C H p L g b ∧ Wf b ∧ ∀ H', Same H H' → Q (.bl (Kp223.complete b)) H'
def doneB (x : Kp223.Item) : Bool := decide (V.int ((x.done : Nat) : Int) = V.int ((x.ordered : Nat) : Int))
theorem doneB_all (b : Kp223.Bill) : (b.items.map doneB).all id = Kp223.complete b := by
  unfold Kp223.complete
  rw [List.all_map]
  congr 1
  funext x
  show decide (V.int ((x.done : Nat) : Int) = V.int ((x.ordered : Nat) : Int)) = (x.done == x.ordered)
  rw [dec_int, Bool.eq_iff_iff, beq_iff_eq, beq_iff_eq]
  omega
theorem sc_alldone : FnScope ["self", "entry"] ["self"] (defScope s_Bill_all_done) := ⟨rfl, rfl, rfl, by decide +kernel, rfl, by decide +kernel, by decide +kernel⟩
theorem ok_alldone {f : Addr} {fd : FuncData} (F : Fun K "all_done" "Bill.all_done" s_Bill_all_done f fd) (T : Txt K mg C) : FnOk P w K mg base CX0 1 f fd ["self"] (spDone C) := by
  refine F.ok sc_alldone (fun vs H Q E h => ?_) (fun cdv A outer s H vs Q E hr h => ?_)
  · obtain ⟨p, L, g, b, rfl, _⟩ := h
    rfl
  · obtain ⟨p, L, g, b, rfl, B, W, q⟩ := h
    obtain ⟨dx, h1⟩ := B.ob
    refine ⟨_, pss_one (ps_ret (pe_callB (cr_all rfl) rfl T.bAll boot_all (pa_cons (pe_lc (own := [("entry", 1)]) (te := tOp rEq (tFld K (tVar 1) "done") (tFld K (tVar 1) "ordered")) rfl sc_alldone.nd (pi_list (pe_fld (pv 0) rfl)) (blkOk_by (by kernel_rfl))
      (fun _ _ _ _ _ => pg_name (i := 1) sc_alldone.nd rfl (Or.inl rfl)) (fun _ _ _ _ _ => pts_nil) (fun _ _ _ _ _ => pe_cmpR op_eq (pe_fld (pv 1) rfl) (pe_fld (pv 1) rfl) (nomark _))) pa_nil))), ?_⟩
    refine ⟨_, rfl, p, C.B, dx, _, _, rfl, h1, T.clB, T.nB _ (by decide +kernel), lk_at (i := 3) (by decide +kernel) rfl, L.le, rfl, ⟨_, SqL.of B.le⟩, fun D hD => ?_⟩
    refine lc_map ((b.items.map doneB).map V.bl) (SqL.of B.le) hD (by simp [B.ni]) (by rw [List.length_map, List.length_map]; exact Nat.le_trans W.ni (by decide)) (fun i x y H1 hx hy sm R S r => ?_) (fun H1 sm e => ?_)
    · rw [List.map_map] at hy
      obtain ⟨a, z, ea, ei, rfl, rfl⟩ := get_two hx hy
      obtain ⟨d, hz⟩ := B.it i a z ea ei
      refine ⟨wipe1, _, rfl, a, C.I, d, _, _, rfl, sm _ _ hz, T.clI, T.nI _ (by decide +kernel), lk_at (i := 3) (by decide +kernel) rfl, _, rfl, a, C.I, d, _, _, rfl, sm _ _ hz, T.clI, T.nI _ (by decide +kernel), lk_at (i := 0) (by decide +kernel) rfl, rfl, ?_⟩
      exact r
    · refine ⟨D, _, rfl, SqL.of e, ?_⟩
      rw [doneB_all]
      exact q _ sm
end
end Mp

set_option Elab.async false
set_option linter.all false
set_option maxRecDepth 100000
set_option maxHeartbeats 4000000
namespace Mp
open PySem PySem.Spec PyProof.Rows L2
/-- what a call leaves alone: all but the bill's own and the code table; the bill's new objects were free -/
structure FrameB (Pt p : Addr) (L L' : Lay) (H H' : Hp) : Prop where
  keep : ∀ c o, H c = some o → c ≠ Pt → c ∉ foot p L → H' c = some o
  new : ∀ c ∈ foot p L', c ∈ foot p L ∨ H c = none
/-- the end of a call: the bill as the specification has it, the answer in a new list -/
def HPost (C : Cl) (Pt : Addr) (n : Nat) (ns : List Nat) (p : Addr) (L : Lay) (g : Bool) (b : Kp223.Bill) (H : Hp) (Q : VK) : Prop :=
  ∀ (H' : Hp) (r : Addr) (L' : Lay) (g' : Bool) (b' : Kp223.Bill) (ans : List Int), BillAt C H' p L' g' b' → Wf b' → stepN n ns (stOf g b) = (stOf g' b', ans) → FrameB Pt p L L' H H' → H r = none → H' r = some (.lst (ans.map V.int)) → TabS Pt H' → Q (.ref r) H'
/-- the call numbered n -/
def spH (C : Cl) (Pt : Addr) (n : Nat) : Sp := fun vs H Q _ => ∃ (p gv : Addr) (L : Lay) (g : Bool) (b : Kp223.Bill) (ns : List Nat), vs = [.ref p, .ref gv] ∧ BillAt C H p L g b ∧ Wf b ∧ H gv = some (.lst (ns.map natV)) ∧ gv ∉ foot p L ∧ ns.length = arity n ∧ (n = 0 ∨ g = true) ∧ TabS Pt H ∧ HPost C Pt n ns p L g b H Q
section
variable {P : Program} {w : World} {K : PySem.W.Frag} {mg : Str → Option Value} {base : Heap} {C : Cl} {Pt : Addr}
theorem Same.freeS {H H1 : Hp} (s : Same H H1) {r : Addr} (h : H1 r = none) : H r = none := by
  cases e : H r with
  | none => rfl
  | some o => rw [s _ _ e] at h; cases h
/-- nothing has changed but what was laid -/
theorem HPost.same {n : Nat} {ns : List Nat} {p : Addr} {L : Lay} {g : Bool} {b : Kp223.Bill} {H H1 : Hp} {Q : VK} (k : HPost C Pt n ns p L g b H Q) (B : BillAt C H p L g b) (W : Wf b) (t : TabS Pt H) (s : Same H H1) {r : Addr} (hr : H1 r = none) {ans : List Int} {xs : List V}
    (e : stepN n ns (stOf g b) = (stOf g b, ans)) (ex : xs = ans.map V.int) : Q (.ref r) (upd H1 r (.lst xs)) := by
  have s2 : Same H (upd H1 r (.lst xs)) := fun c o q => by rw [upd_ne (ne_of_none (s _ _ q) hr)]; exact s _ _ q
  exact k _ r L g b ans (B.same s2) W e ⟨fun c o q _ _ => s2 c o q, fun c hc => .inl hc⟩ (Same.freeS s hr) (by rw [upd_same, ex]) (t.same s2)
theorem spH_len {n : Nat} {vs : List V} {H : Hp} {Q : VK} {E : XK} (h : spH C Pt n vs H Q E) : vs.length = (["bill", "given"] : List Str).length := by
  obtain ⟨p, gv, L, g, b, ns, rfl, _⟩ := h
  rfl
theorem one_le : ([V.int 0] : List V).length ≤ sizeLine := by show 1 ≤ sizeLine; decide
theorem two_le : ([V.int 0, V.int 0] : List V).length ≤ sizeLine := by show 2 ≤ sizeLine; decide
/-! ### begin -/
theorem sc_begin : FnScope ["bill", "given", "keep", "most"] ["bill", "given"] (defScope s_begin) := ⟨rfl, rfl, rfl, by decide +kernel, rfl, by decide +kernel, by decide +kernel⟩
theorem ok_begin {f fS : Addr} {fd fdS : FuncData} (F : Fun K "begin" "begin" s_begin f fd) (T : Txt K mg C) (N : Cons mg) (MS : Has K C "start" "Bill.start" s_Bill_start ["self", "keep", "most"] fS fdS) : FnOk P w K mg base CX0 2 f fd ["bill", "given"] (spH C Pt 0) := by
  have GS : FnOk P w K mg base CX0 1 fS fdS ["self", "keep", "most"] (spStart C) := ok_start MS.F T
  obtain ⟨t1, e1⟩ := N.per
  obtain ⟨t2, e2⟩ := N.range
  refine F.ok sc_begin (fun vs H Q E h => spH_len h) (fun cdv A outer s H vs Q E hr h => ?_)
  obtain ⟨p, gv, L, g, b, ns, rfl, B, W, hg, ng, hlen, _, tab, k⟩ := h
  obtain ⟨kp, mo, rfl⟩ : ∃ kp mo, ns = [kp, mo] := match ns, hlen with | [kp, mo], _ => ⟨kp, mo, rfl⟩
  obtain ⟨dx, h1⟩ := B.ob
  refine ⟨_, pss_cons (ps_set (i := 2) sc_begin.nd rfl (Or.inl rfl) (pe_ix ix_list (pv 1) pe_int (fun _ _ => rfl))) (pss_cons (ps_set (i := 3) sc_begin.nd rfl (Or.inl rfl) (pe_ix ix_list (pv 1) pe_int (fun _ _ => rfl)))
    (pss_cons (ps_if (PW.pt (pw_or (pt_cmpR op_gt (pv 2) (pe_glob (v := .int 200) rfl e1 ⟨_, rfl⟩) (nomark _)) (pw_or1 (pt_cmpR op_gt (pv 3) (pe_glob (v := .int 200) rfl e1 ⟨_, rfl⟩) (nomark _))))) (pss_one (ps_ret (pe_lst (pa_cons (pe_glob (v := .int (-22)) rfl e2 ⟨_, rfl⟩) pa_nil)))) pss_nil)
    (pss_cons (ps_expr (pe_meth (pv 0) T.clB MS.m GS hr MS.b .nil pass0 (pa_cons (pv 2) (pa_cons (pv 3) pa_nil)))) (pss_one (ps_ret (pe_lst (pa_cons pe_int pa_nil))))))), ?_⟩
  refine ⟨_, rfl, gv, _, _, _, rfl, rfl, SqL.of hg, at_of (j := 0) rfl rfl, _, rfl, gv, _, _, _, rfl, rfl, SqL.of hg, at_of (j := 1) rfl rfl, ?_⟩
  have no : (200 < kp ∨ 200 < mo) → ∀ r : Addr, H r = none → Q (.ref r) (upd H r (.lst [.int (-22)])) := fun hh r hr0 => by
    refine k.same B W tab (Same.refl H) hr0 (ans := [-22]) ?_ rfl
    rw [step0]
    show said (if 200 < kp ∨ 200 < mo then _ else _) = _
    rw [if_pos hh]; rfl
  refine ⟨_, rfl, _, _, rfl, rfl, _, rfl, ?_⟩
  refine ite2 (fun c1 => iteT ⟨one_le, no (.inl (by have := of_decide_eq_true c1; omega))⟩) (fun c1 => ?_)
  refine ⟨_, rfl, _, _, rfl, rfl, _, rfl, ?_⟩
  refine ite2 (fun c2 => ⟨one_le, no (.inr (by have := of_decide_eq_true c2; omega))⟩) (fun c2 => ?_)
  have n1 : ¬ 200 < kp := fun z => c1 (decide_eq_true (by omega))
  have n2 : ¬ 200 < mo := fun z => c2 (decide_eq_true (by omega))
  refine ⟨_, rfl, p, dx, _, rfl, h1, bl_no (by decide +kernel), _, rfl, _, rfl, p, dx, _, _, _, rfl, h1, .inr ⟨_, _, _, _, _, _, _, rfl⟩, fun H1 le lc a1 a2 a3 a4 a5 a6 a7 => ?_⟩
  refine ⟨one_le, fun r hr0 => ?_⟩
  have nrp : r ≠ p := fun z => by rw [z, a1] at hr0; cases hr0
  have Hr : H r = none := by
    cases e : H r with
    | none => rfl
    | some o => rw [a7 _ _ e nrp] at hr0; cases hr0
  have sm : Same H1 (upd H1 r (.lst [.int 0])) := fun c o q => by rw [upd_ne (ne_of_none q hr0)]; exact q
  have npP : p ≠ Pt := B.noTab tab p foot_p
  refine k _ r ⟨le, lc, [], [], []⟩ true ⟨kp, mo, [], [], false, false⟩ [0] (BillAt.fresh (dx := dx) (sm _ _ a1) (sm _ _ a2) (sm _ _ a3) a4 rfl rfl) (wf_begin (by omega) (by omega)) ?_ ⟨fun c o q _ hc => sm _ _ (a7 c o q fun z => hc (by rw [z]; exact foot_p)), fun c hc => ?_⟩ Hr upd_same ?_
  · rw [step0]
    show said (if 200 < kp ∨ 200 < mo then _ else _) = _
    rw [if_neg (by omega)]; rfl
  · rcases foot_iff.mp hc with rfl | rfl | rfl | z | z | z
    · exact .inl foot_p
    · exact .inr a5
    · exact .inr a6
    · cases z
    · cases z
    · cases z
  · refine tab.mono fun c o q hc => sm _ _ (a7 c o q ?_)
    rcases hc with rfl | ⟨q2, c2, rfl⟩
    · exact npP.symm
    · exact ne_of q h1 (by intro z; cases z)
end
end Mp

set_option Elab.async false
set_option linter.all false
set_option maxRecDepth 100000
set_option maxHeartbeats 4000000
namespace Mp
open PySem PySem.Spec PyProof.Rows L2
section
variable {C : Cl} {Pt : Addr}
/-- no object of the bill is a code object -/
theorem BillAt.noCode {H : Hp} {p : Addr} {L : Lay} {g : Bool} {b : Kp223.Bill} (B : BillAt C H p L g b) {a : Addr} (ha : a ∈ foot p L) {c : Addr} {q : Str} : H a ≠ some (CodeO c q) := by
  intro hP
  rcases foot_iff.mp ha with rfl | rfl | rfl | h | h | h
  · obtain ⟨dx, e⟩ := B.ob; rw [e] at hP; cases hP
  · have e := B.le; rw [e] at hP; cases hP
  · have e := B.lc; rw [e] at hP; cases hP
  · obtain ⟨j, hj⟩ := List.mem_iff_getElem?.mp h
    have hlt := (List.getElem?_eq_some_iff.mp hj).1
    rw [B.ni] at hlt
    obtain ⟨dx, e⟩ := B.it j a _ hj (List.getElem?_eq_getElem hlt)
    rw [e] at hP; cases hP
  · obtain ⟨j, hj⟩ := List.mem_iff_getElem?.mp h
    have hlt := (List.getElem?_eq_some_iff.mp hj).1
    rw [B.nc] at hlt
    obtain ⟨⟨dx, e⟩, _⟩ := B.ct j a _ _ hj (List.getElem?_eq_getElem (by rw [B.np]; exact hlt)) (List.getElem?_eq_getElem hlt)
    rw [e] at hP; cases hP
  · obtain ⟨j, hj⟩ := List.mem_iff_getElem?.mp h
    have hlt := (List.getElem?_eq_some_iff.mp hj).1
    rw [B.np] at hlt
    obtain ⟨_, e⟩ := B.ct j _ a _ (List.getElem?_eq_getElem (by rw [B.nc]; exact hlt)) hj (List.getElem?_eq_getElem hlt)
    rw [e] at hP; cases hP
/-- one object of the bill is written anew; then things may be laid; then the answer in a new list -/
theorem HPost.wrote {n : Nat} {ns : List Nat} {p : Addr} {L : Lay} {g g' : Bool} {b b' : Kp223.Bill} {H H2 : Hp} {Q : VK} (k : HPost C Pt n ns p L g b H Q) (B : BillAt C H p L g b) (t : TabS Pt H) {a : Addr} (ha : a ∈ foot p L) {o : HO} (B1 : BillAt C (upd H a o) p L g' b') (W1 : Wf b') (s : Same (upd H a o) H2)
    {r : Addr} (hr : H2 r = none) {ans : List Int} {xs : List V} (e : stepN n ns (stOf g b) = (stOf g' b', ans)) (ex : xs = ans.map V.int) : Q (.ref r) (upd H2 r (.lst xs)) := by
  have sm : Same (upd H a o) (upd H2 r (.lst xs)) := fun c q z => by rw [upd_ne (ne_of_none (s _ _ z) hr)]; exact s _ _ z
  have Hr1 : upd H a o r = none := Same.freeS s hr
  have nra : r ≠ a := fun z => by rw [z, upd_same] at Hr1; cases Hr1
  have Hr : H r = none := by rw [upd_ne nra] at Hr1; exact Hr1
  refine k _ r L g' b' ans (B1.same sm) W1 e ⟨fun c q z _ hc => sm _ _ (by rw [upd_ne (fun y => hc (by rw [y]; exact ha))]; exact z), fun c hc => .inl hc⟩ Hr (by rw [upd_same, ex]) ?_
  refine (t.mono fun c q z hc => ?_ : TabS Pt (upd H a o)).same sm
  have nb : c ≠ a := by
    rcases hc with rfl | ⟨q2, c2, rfl⟩
    · exact (B.noTab t a ha).symm
    · exact fun y => B.noCode ha (by rw [← y]; exact z)
  rw [upd_ne nb]; exact z
end
/-! ### numbers of the second stage -/
theorem certAt_eq {b : Kp223.Bill} {n : Nat} {c : Kp223.Cert} (h : b.certs[n]? = some c) : Kp223.certAt b n = c := by
  unfold Kp223.certAt
  rw [List.getD_eq_getElem?_getD, h]; rfl
theorem open_int {c : Kp223.Cert} (h : WfC c) : ((c.amount - c.paid : Nat) : Int) = ((c.amount : Nat) : Int) - ((c.paid : Nat) : Int) := by
  have := h.p
  omega
theorem pay_wf {c : Kp223.Cert} (h : WfC c) {x : Nat} (hx : x ≤ c.amount - c.paid) : WfC { c with paid := c.paid + x } := ⟨h.l, by have := h.p; show c.paid + x ≤ c.amount; omega⟩
theorem complete_iff {b : Kp223.Bill} : Kp223.complete b = true ↔ ∀ x ∈ b.items, x.done = x.ordered := by
  unfold Kp223.complete
  rw [List.all_eq_true]
  exact ⟨fun h x hx => eq_of_beq (h x hx), fun h x hx => beq_iff_eq.mpr (h x hx)⟩
theorem trades_get {b : Kp223.Bill} {c : Kp223.Cert} (W : WfC c) : ∃ a0 a1 a2 a3, c.trades = [a0, a1, a2, a3] := by
  match h : c.trades, W.l with
  | [a0, a1, a2, a3], _ => exact ⟨a0, a1, a2, a3, rfl⟩
end Mp

set_option Elab.async false
set_option linter.all false
set_option maxRecDepth 100000
set_option maxHeartbeats 4000000
namespace Mp
open PySem PySem.Spec PyProof.Rows L2
section
variable {P : Program} {w : World} {K : PySem.W.Frag} {mg : Str → Option Value} {base : Heap} {C : Cl} {Pt : Addr}
/-! ### item -/
theorem sc_item : FnScope ["bill", "given", "ordered", "rate", "trade"] ["bill", "given"] (defScope s_item) := ⟨rfl, rfl, rfl, by decide +kernel, rfl, by decide +kernel, by decide +kernel⟩
theorem ok_item {f fI : Addr} {fd fdI : FuncData} (F : Fun K "item" "item" s_item f fd) (T : Txt K mg C) (N : Cons mg) (M : Mk K C.I fI) (FI : Fun K "__init__" "Item.__init__" s_Item_init fI fdI) (bI : Binds K fdI ["self", "ordered", "rate", "trade"] []) : FnOk P w K mg base CX0 3 f fd ["bill", "given"] (spH C Pt 1) := by
  have GI : FnOk P w K mg base CX0 1 fI fdI ["self", "ordered", "rate", "trade"] (spItem C) := ok_Item FI T
  obtain ⟨t1, e1⟩ := N.ordered
  obtain ⟨t2, e2⟩ := N.rate
  obtain ⟨t3, e3⟩ := N.trades
  obtain ⟨t4, e4⟩ := N.range
  obtain ⟨t5, e5⟩ := N.handed
  obtain ⟨t6, e6⟩ := N.items
  obtain ⟨t7, e7⟩ := N.full
  refine F.ok sc_item (fun vs H Q E h => spH_len h) (fun cdv A outer s H vs Q E hr h => ?_)
  obtain ⟨p, gv, L, g, b, ns, rfl, B, W, hg, ng, hlen, hb0, tab, k⟩ := h
  obtain rfl : g = true := hb0.resolve_left (by decide)
  obtain ⟨o, ra, t, rfl⟩ : ∃ o ra t, ns = [o, ra, t] := match ns, hlen with | [o, ra, t], _ => ⟨o, ra, t, rfl⟩
  obtain ⟨dx, h1⟩ := B.ob
  refine ⟨_, pss_cons (ps_set (i := 2) sc_item.nd rfl (Or.inl rfl) (pe_ix ix_list (pv 1) pe_int (fun _ _ => rfl))) (pss_cons (ps_set (i := 3) sc_item.nd rfl (Or.inl rfl) (pe_ix ix_list (pv 1) pe_int (fun _ _ => rfl))) (pss_cons (ps_set (i := 4) sc_item.nd rfl (Or.inl rfl) (pe_ix ix_list (pv 1) pe_int (fun _ _ => rfl)))
    (pss_cons (ps_if (PW.pt (pw_or (pt_cmpR op_gt (pv 2) (pe_glob (v := .int 10000) rfl e1 ⟨_, rfl⟩) (nomark _)) (pw_or (pt_cmpR op_gt (pv 3) (pe_glob (v := .int 1000000) rfl e2 ⟨_, rfl⟩) (nomark _)) (pw_or1 (pt_cmpR op_ge (pv 4) (pe_glob (v := .int 4) rfl e3 ⟨_, rfl⟩) (nomark _))))))
      (pss_one (ps_ret (pe_lst (pa_cons (pe_glob (v := .int (-22)) rfl e4 ⟨_, rfl⟩) pa_nil)))) pss_nil)
    (pss_cons (ps_if (pt_val (pe_fld (pv 0) rfl)) (pss_one (ps_ret (pe_lst (pa_cons (pe_glob (v := .int (-16)) rfl e5 ⟨_, rfl⟩) pa_nil)))) pss_nil)
    (pss_cons (ps_if (pt_cmpR op_eq (pe_callB call_len_seq rfl T.bLen PySem.boot_len (pa_cons (pe_fld (pv 0) rfl) pa_nil)) (pe_glob (v := .int 10) rfl e6 ⟨_, rfl⟩) (nomark _)) (pss_one (ps_ret (pe_lst (pa_cons (pe_glob (v := .int (-28)) rfl e7 ⟨_, rfl⟩) pa_nil)))) pss_nil)
    (pss_cons (ps_expr (pe_bm PySem.F.plainAttrs_list PySem.F.slot_list_append PySem.F.type_list_append mt_append (pe_fld (pv 0) rfl) (pa_cons (pe_make M GI hr rfl T.mgI bI .nil pass0 (pa_cons (pv 2) (pa_cons (pv 3) (pa_cons (pv 4) pa_nil)))) pa_nil)))
    (pss_one (ps_ret (pe_lst (pa_cons (pe_op op_sub (pe_callB call_len_seq rfl T.bLen PySem.boot_len (pa_cons (pe_fld (pv 0) rfl) pa_nil)) pe_int) pa_nil)))))))))), ?_⟩
  refine ⟨_, rfl, gv, _, _, _, rfl, rfl, SqL.of hg, at_of (j := 0) rfl rfl, _, rfl, gv, _, _, _, rfl, rfl, SqL.of hg, at_of (j := 1) rfl rfl, _, rfl, gv, _, _, _, rfl, rfl, SqL.of hg, at_of (j := 2) rfl rfl, ?_⟩
  have st : stepN 1 [o, ra, t] (stOf true b) = said (if 10000 < o ∨ 1000000 < ra ∨ 4 ≤ t then (some b, Kp223.say (-22)) else if b.handed then (some b, Kp223.say (-16)) else if 10 ≤ b.items.length then (some b, Kp223.say (-28)) else (some { b with items := b.items ++ [⟨o, ra, 0, t⟩] }, Kp223.say (b.items.length : Int))) := by
    rw [step1]; rfl
  have no : (10000 < o ∨ 1000000 < ra ∨ 4 ≤ t) → ∀ r : Addr, H r = none → Q (.ref r) (upd H r (.lst [.int (-22)])) := fun hh r hr0 => by
    refine k.same B W tab (Same.refl H) hr0 (ans := [-22]) ?_ rfl
    rw [st, if_pos hh]; rfl
  refine ⟨_, rfl, _, _, rfl, rfl, _, rfl, ?_⟩
  refine ite2 (fun c1 => iteT ⟨one_le, no (.inl (by have := of_decide_eq_true c1; omega))⟩) (fun c1 => ?_)
  refine ⟨_, rfl, _, _, rfl, rfl, _, rfl, ?_⟩
  refine ite2 (fun c2 => iteT ⟨one_le, no (.inr (.inl (by have := of_decide_eq_true c2; omega)))⟩) (fun c2 => ?_)
  refine ⟨_, rfl, _, _, rfl, rfl, _, rfl, ?_⟩
  refine ite2 (fun c3 => ⟨one_le, no (.inr (.inr (by have := of_decide_eq_true c3; omega)))⟩) (fun c3 => ?_)
  have n1 : ¬ 10000 < o := fun z => c1 (decide_eq_true (by omega))
  have n2 : ¬ 1000000 < ra := fun z => c2 (decide_eq_true (by omega))
  have n3 : ¬ 4 ≤ t := fun z => c3 (decide_eq_true (by omega))
  rw [if_neg (by omega)] at st
  refine ⟨_, rfl, p, C.B, dx, _, _, rfl, h1, T.clB, T.nB _ (by decide +kernel), lk_at (i := 5) (by decide +kernel) rfl, _, rfl, ?_⟩
  refine ite2 (fun c4 => ⟨one_le, fun r hr0 => ?_⟩) (fun c4 => ?_)
  · refine k.same B W tab (Same.refl H) hr0 (ans := [-16]) ?_ rfl
    rw [st, if_pos c4]; rfl
  rw [if_neg c4] at st
  refine ⟨_, rfl, p, C.B, dx, _, _, rfl, h1, T.clB, T.nB _ (by decide +kernel), lk_at (i := 3) (by decide +kernel) rfl, L.le, _, rfl, .inl (SqL.of B.le), rfl, _, rfl, ?_⟩
  have hl : (L.is.map V.ref).length = b.items.length := by rw [List.length_map]; exact B.ni
  refine ite2 (fun c5 => ⟨one_le, fun r hr0 => ?_⟩) (fun c5 => ?_)
  · have e10 : b.items.length = 10 := by
      have z := of_decide_eq_true c5
      rw [hl] at z
      injection z with z
      omega
    refine k.same B W tab (Same.refl H) hr0 (ans := [-28]) ?_ rfl
    rw [st, if_pos (by omega)]; rfl
  have n10 : b.items.length < 10 := by
    have z : ¬ b.items.length = 10 := fun z => c5 (decide_eq_true (by rw [hl, z]; rfl))
    have := W.ni
    omega
  rw [if_neg (by omega)] at st
  refine ⟨_, rfl, p, C.B, dx, _, _, rfl, h1, T.clB, T.nB _ (by decide +kernel), lk_at (i := 3) (by decide +kernel) rfl, .inl ⟨rfl, _, SqL.of B.le⟩, _, rfl, _, rfl, _, rfl, fun x ex nx nex ndx => ?_⟩
  refine ⟨x, ex, _, _, _, rfl, upd_same, fun H1 a1 a2 => ⟨rfl, ?_⟩⟩
  have s1 : Same H H1 := Same.made nx nex a2
  refine ⟨L.le, _, _, rfl, rfl, s1 _ _ B.le, (by rw [hl]; exact small1000 (by omega)), ?_⟩
  have nxf : x ∉ foot p L := fun z => by
    obtain ⟨q, e⟩ := B.there z
    rw [nx] at e
    cases e
  have B2 := B.addItem (x := ⟨o, ra, 0, t⟩) (dx := ex) nxf (fun c _ q e => s1 c q e) a1
  have h2 : upd H1 L.le (.lst (L.is.map V.ref ++ [.ref x])) p = some (.ins C.B dx (billK.zip (biV true b L))) := by rw [upd_ne B.ap.p_le]; exact s1 _ _ h1
  refine ⟨_, rfl, p, C.B, dx, _, _, rfl, h2, T.clB, T.nB _ (by decide +kernel), lk_at (i := 3) (by decide +kernel) rfl, L.le, _, rfl, .inl (SqL.of upd_same), _, _, rfl, rfl, one_le, fun r hr0 => ?_⟩
  have sm : Same (upd H1 L.le (.lst (L.is.map V.ref ++ [.ref x]))) (upd (upd H1 L.le (.lst (L.is.map V.ref ++ [.ref x]))) r (.lst [V.int ((((L.is.map V.ref ++ [V.ref x]).length : Nat) : Int) - 1)])) := fun c q e => by rw [upd_ne (ne_of_none e hr0)]; exact e
  have nrl : r ≠ L.le := fun z => by rw [z, upd_same] at hr0; cases hr0
  have Hr1 : H1 r = none := by rw [upd_ne nrl] at hr0; exact hr0
  have npP : L.le ≠ Pt := B.noTab tab _ foot_le
  refine k _ r { L with is := L.is ++ [x] } true { b with items := b.items ++ [⟨o, ra, 0, t⟩] } [(b.items.length : Int)] (B2.same sm) (wf_item W (by omega) (by omega) (by omega) n10) (by rw [st]; rfl) ⟨fun c q e _ hc => ?_, fun c hc => ?_⟩ (Same.freeS s1 Hr1) ?_ ?_
  · exact sm _ _ (by rw [upd_ne (fun z => hc (by rw [z]; exact foot_le))]; exact s1 _ _ e)
  · rcases foot_iff.mp hc with rfl | rfl | rfl | z | z | z
    · exact .inl foot_p
    · exact .inl foot_le
    · exact .inl foot_lc
    · rcases List.mem_append.mp z with z | z
      · exact .inl (foot_is z)
      · rw [List.mem_singleton.mp z]; exact .inr nx
    · exact .inl (foot_cs z)
    · exact .inl (foot_ps z)
  · rw [upd_same, List.length_append, hl]
    show some (HO.lst [V.int (((b.items.length + 1 : Nat) : Int) - 1)]) = some (HO.lst [V.int ((b.items.length : Nat) : Int)])
    congr 4
    omega
  · refine ((tab.same s1).mono fun c q e hc => ?_ : TabS Pt (upd H1 L.le (.lst (L.is.map V.ref ++ [.ref x])))).same sm
    have nb : c ≠ L.le := by
      rcases hc with rfl | ⟨q2, c2, rfl⟩
      · exact npP.symm
      · exact ne_of e (s1 _ _ B.le) (by intro z; cases z)
    rw [upd_ne nb]; exact e
end
end Mp

set_option Elab.async false
set_option linter.all false
set_option maxRecDepth 100000
set_option maxHeartbeats 4000000
namespace Mp
open PySem PySem.Spec PyProof.Rows L2
section
variable {P : Program} {w : World} {K : PySem.W.Frag} {mg : Str → Option Value} {base : Heap} {C : Cl} {Pt : Addr}
/-- an item's attribute written, then the answer in a new list -/
theorem HPost.setItem {n : Nat} {ns : List Nat} {p : Addr} {L : Lay} {g : Bool} {b : Kp223.Bill} {H : Hp} {Q : VK} (k : HPost C Pt n ns p L g b H Q) (B : BillAt C H p L g b) (W : Wf b) (t : TabS Pt H) {i : Nat} {a dx : Addr} {x : Kp223.Item} (ha : L.is[i]? = some a) (hx : WfI x) {o : HO}
    (ho : o = .ins C.I dx (itemK.zip (itV x))) {r : Addr} (hr : upd H a o r = none) {ans : List Int} {xs : List V} (e : stepN n ns (stOf g b) = (stOf g (Kp223.set b i x), ans)) (ex : xs = ans.map V.int) : Q (.ref r) (upd (upd H a o) r (.lst xs)) := by
  subst ho
  have ma := List.mem_of_getElem? ha
  have B2 := B.setItem (dx := dx) (x := x) ha
  have nra : r ≠ a := fun z => by rw [z, upd_same] at hr; cases hr
  have Hr : H r = none := by rw [upd_ne nra] at hr; exact hr
  have sm : Same (upd H a (.ins C.I dx (itemK.zip (itV x)))) (upd (upd H a (.ins C.I dx (itemK.zip (itV x)))) r (.lst xs)) := fun c q z => by rw [upd_ne (ne_of_none z hr)]; exact z
  obtain ⟨oa, hoa⟩ := B.there (foot_is (p := p) ma)
  refine k _ r L g (Kp223.set b i x) ans (B2.same sm) (wf_set W hx) e ⟨fun c q z _ hc => sm _ _ (by rw [upd_ne (fun y => hc (by rw [y]; exact foot_is ma))]; exact z), fun c hc => .inl hc⟩ Hr (by rw [upd_same, ex]) ?_
  refine (t.mono fun c q z hc => ?_ : TabS Pt (upd H a (.ins C.I dx (itemK.zip (itV x))))).same sm
  have hlt : i < b.items.length := by rw [← B.ni]; exact (List.getElem?_eq_some_iff.mp ha).1
  obtain ⟨d, hd⟩ := B.it i a _ ha (List.getElem?_eq_getElem hlt)
  have nb : c ≠ a := by
    rcases hc with rfl | ⟨q2, c2, rfl⟩
    · exact (B.noTab t a (foot_is ma)).symm
    · exact ne_of z hd (by intro y; cases y)
  rw [upd_ne nb]; exact z
theorem itemAt_eq {b : Kp223.Bill} {i : Nat} {x : Kp223.Item} (h : b.items[i]? = some x) : Kp223.itemAt b i = x := by
  unfold Kp223.itemAt
  rw [List.getD_eq_getElem?_getD, h]; rfl
/-! ### change -/
theorem sc_change : FnScope ["bill", "given", "i", "ordered", "entry", "before"] ["bill", "given"] (defScope s_change) := ⟨rfl, rfl, rfl, by decide +kernel, rfl, by decide +kernel, by decide +kernel⟩
theorem ok_change {f fH : Addr} {fd fdH : FuncData} (F : Fun K "change" "change" s_change f fd) (T : Txt K mg C) (N : Cons mg) (MH : Has K C "has_item" "Bill.has_item" s_Bill_has_item ["self", "i"] fH fdH) : FnOk P w K mg base CX0 2 f fd ["bill", "given"] (spH C Pt 2) := by
  have GH : FnOk P w K mg base CX0 1 fH fdH ["self", "i"] (spHas C) := ok_has MH.F T
  obtain ⟨t1, e1⟩ := N.noSuch
  obtain ⟨t2, e2⟩ := N.ordered
  obtain ⟨t3, e3⟩ := N.range
  obtain ⟨t4, e4⟩ := N.handed
  obtain ⟨t5, e5⟩ := N.odds
  refine F.ok sc_change (fun vs H Q E h => spH_len h) (fun cdv A outer s H vs Q E hr h => ?_)
  obtain ⟨p, gv, L, g, b, ns, rfl, B, W, hg, ng, hlen, hb0, tab, k⟩ := h
  obtain rfl : g = true := hb0.resolve_left (by decide)
  obtain ⟨i, o, rfl⟩ : ∃ i o, ns = [i, o] := match ns, hlen with | [i, o], _ => ⟨i, o, rfl⟩
  obtain ⟨dx, h1⟩ := B.ob
  refine ⟨_, pss_cons (ps_set (i := 2) sc_change.nd rfl (Or.inl rfl) (pe_ix ix_list (pv 1) pe_int (fun _ _ => rfl))) (pss_cons (ps_set (i := 3) sc_change.nd rfl (Or.inl rfl) (pe_ix ix_list (pv 1) pe_int (fun _ _ => rfl)))
    (pss_cons (ps_if (pt_not (pt_val (pe_meth (pv 0) T.clB MH.m GH hr MH.b .nil pass0 (pa_cons (pv 2) pa_nil)))) (pss_one (ps_ret (pe_lst (pa_cons (pe_glob (v := .int (-2)) rfl e1 ⟨_, rfl⟩) pa_nil)))) pss_nil)
    (pss_cons (ps_set (i := 4) sc_change.nd rfl (Or.inl rfl) (pe_ix ix_list (pe_fld (pv 0) rfl) (pv 2) (fun _ _ => rfl)))
    (pss_cons (ps_if (pt_cmpR op_gt (pv 3) (pe_glob (v := .int 10000) rfl e2 ⟨_, rfl⟩) (nomark _)) (pss_one (ps_ret (pe_lst (pa_cons (pe_glob (v := .int (-22)) rfl e3 ⟨_, rfl⟩) pa_nil)))) pss_nil)
    (pss_cons (ps_if (pt_val (pe_fld (pv 0) rfl)) (pss_one (ps_ret (pe_lst (pa_cons (pe_glob (v := .int (-16)) rfl e4 ⟨_, rfl⟩) pa_nil)))) pss_nil)
    (pss_cons (ps_if (pt_cmpR op_gt (pe_fld (pv 4) rfl) (pv 3) (nomark _)) (pss_one (ps_ret (pe_lst (pa_cons (pe_glob (v := .int (-33)) rfl e5 ⟨_, rfl⟩) pa_nil)))) pss_nil)
    (pss_cons (ps_set (i := 5) sc_change.nd rfl (Or.inl rfl) (pe_fld (pv 4) rfl)) (pss_cons (ps_fld (pv 4) (pv 3) rfl) (pss_one (ps_ret (pe_lst (pa_cons (pv 5) pa_nil)))))))))))), ?_⟩
  have st : stepN 2 [i, o] (stOf true b) = said (if b.items.length ≤ i then (some b, Kp223.say (-2)) else if 10000 < o then (some b, Kp223.say (-22)) else if b.handed then (some b, Kp223.say (-16)) else if o < (Kp223.itemAt b i).done then (some b, Kp223.say (-33)) else
      (some (Kp223.set b i { Kp223.itemAt b i with ordered := o }), Kp223.say ((Kp223.itemAt b i).ordered : Int))) := by
    rw [step2]; rfl
  refine ⟨_, rfl, gv, _, _, _, rfl, rfl, SqL.of hg, at_of (j := 0) rfl rfl, _, rfl, gv, _, _, _, rfl, rfl, SqL.of hg, at_of (j := 1) rfl rfl, ?_⟩
  refine ⟨_, rfl, p, dx, _, rfl, h1, bl_no (by decide +kernel), _, rfl, p, L, true, b, i, rfl, B, _, rfl, ?_⟩
  refine ite2 (fun c => ⟨one_le, fun r hr0 => ?_⟩) (fun c => ?_)
  · refine k.same B W tab (Same.refl H) hr0 (ans := [-2]) ?_ rfl
    have z : ¬ i < b.items.length := by simpa using c
    rw [st, if_pos (by omega)]; rfl
  have hi : i < b.items.length := by simpa using c
  rw [if_neg (by omega)] at st
  obtain ⟨a, ha⟩ : ∃ a, L.is[i]? = some a := ⟨_, List.getElem?_eq_getElem (by rw [B.ni]; exact hi)⟩
  obtain ⟨x, hx⟩ : ∃ x, b.items[i]? = some x := ⟨_, List.getElem?_eq_getElem hi⟩
  have wx := W.it x (List.mem_of_getElem? hx)
  obtain ⟨da, hda⟩ := B.it i a x ha hx
  rw [itemAt_eq hx] at st
  refine ⟨_, rfl, p, C.B, dx, _, _, rfl, h1, T.clB, T.nB _ (by decide +kernel), lk_at (i := 3) (by decide +kernel) rfl, _, rfl, L.le, _, _, _, rfl, rfl, SqL.of B.le, atI_nat (v := V.ref a) (by rw [List.getElem?_map, ha]; rfl), ?_⟩
  refine ⟨_, rfl, _, _, rfl, rfl, _, rfl, ?_⟩
  refine ite2 (fun c1 => ⟨one_le, fun r hr0 => ?_⟩) (fun c1 => ?_)
  · refine k.same B W tab (Same.refl H) hr0 (ans := [-22]) ?_ rfl
    rw [st, if_pos (by have := of_decide_eq_true c1; omega)]; rfl
  have n1 : ¬ 10000 < o := fun z => c1 (decide_eq_true (by omega))
  rw [if_neg n1] at st
  refine ⟨_, rfl, p, C.B, dx, _, _, rfl, h1, T.clB, T.nB _ (by decide +kernel), lk_at (i := 5) (by decide +kernel) rfl, _, rfl, ?_⟩
  refine ite2 (fun c2 => ⟨one_le, fun r hr0 => ?_⟩) (fun c2 => ?_)
  · refine k.same B W tab (Same.refl H) hr0 (ans := [-16]) ?_ rfl
    rw [st, if_pos c2]; rfl
  rw [if_neg c2] at st
  refine ⟨_, rfl, a, C.I, da, _, _, rfl, hda, T.clI, T.nI _ (by decide +kernel), lk_at (i := 3) (by decide +kernel) rfl, _, rfl, _, _, rfl, rfl, _, rfl, ?_⟩
  refine ite2 (fun c3 => ⟨one_le, fun r hr0 => ?_⟩) (fun c3 => ?_)
  · refine k.same B W tab (Same.refl H) hr0 (ans := [-33]) ?_ rfl
    rw [st, if_pos (by have := of_decide_eq_true c3; omega)]; rfl
  have n3 : ¬ o < x.done := fun z => c3 (decide_eq_true (by omega))
  rw [if_neg n3] at st
  refine ⟨_, rfl, a, C.I, da, _, _, rfl, hda, T.clI, T.nI _ (by decide +kernel), lk_at (i := 0) (by decide +kernel) rfl, ?_⟩
  refine ⟨_, rfl, _, rfl, a, C.I, da, _, rfl, hda, T.clI, T.nI _ (by decide +kernel), (by show 4 < 1000; decide), _, rfl, one_le, fun r hr0 => ?_⟩
  refine k.setItem B W tab ha (x := { x with ordered := o }) ⟨by show o ≤ 10000; omega, wx.r, by show x.done ≤ o; omega, wx.t⟩ (dx := da) ?_ hr0 (ans := [(x.ordered : Int)]) (by rw [st]; rfl) rfl
  rw [put_at (i := 0) (by decide +kernel) rfl]
  rfl
/-! ### measure -/
theorem sc_measure : FnScope ["bill", "given", "i", "done", "entry", "before"] ["bill", "given"] (defScope s_measure) := ⟨rfl, rfl, rfl, by decide +kernel, rfl, by decide +kernel, by decide +kernel⟩
theorem ok_measure {f fH : Addr} {fd fdH : FuncData} (F : Fun K "measure" "measure" s_measure f fd) (T : Txt K mg C) (N : Cons mg) (MH : Has K C "has_item" "Bill.has_item" s_Bill_has_item ["self", "i"] fH fdH) : FnOk P w K mg base CX0 2 f fd ["bill", "given"] (spH C Pt 3) := by
  have GH : FnOk P w K mg base CX0 1 fH fdH ["self", "i"] (spHas C) := ok_has MH.F T
  obtain ⟨t1, e1⟩ := N.noSuch
  obtain ⟨t4, e4⟩ := N.handed
  obtain ⟨t5, e5⟩ := N.odds
  refine F.ok sc_measure (fun vs H Q E h => spH_len h) (fun cdv A outer s H vs Q E hr h => ?_)
  obtain ⟨p, gv, L, g, b, ns, rfl, B, W, hg, ng, hlen, hb0, tab, k⟩ := h
  obtain rfl : g = true := hb0.resolve_left (by decide)
  obtain ⟨i, o, rfl⟩ : ∃ i o, ns = [i, o] := match ns, hlen with | [i, o], _ => ⟨i, o, rfl⟩
  obtain ⟨dx, h1⟩ := B.ob
  refine ⟨_, pss_cons (ps_set (i := 2) sc_measure.nd rfl (Or.inl rfl) (pe_ix ix_list (pv 1) pe_int (fun _ _ => rfl))) (pss_cons (ps_set (i := 3) sc_measure.nd rfl (Or.inl rfl) (pe_ix ix_list (pv 1) pe_int (fun _ _ => rfl)))
    (pss_cons (ps_if (pt_not (pt_val (pe_meth (pv 0) T.clB MH.m GH hr MH.b .nil pass0 (pa_cons (pv 2) pa_nil)))) (pss_one (ps_ret (pe_lst (pa_cons (pe_glob (v := .int (-2)) rfl e1 ⟨_, rfl⟩) pa_nil)))) pss_nil)
    (pss_cons (ps_set (i := 4) sc_measure.nd rfl (Or.inl rfl) (pe_ix ix_list (pe_fld (pv 0) rfl) (pv 2) (fun _ _ => rfl)))
    (pss_cons (ps_if (pt_val (pe_fld (pv 0) rfl)) (pss_one (ps_ret (pe_lst (pa_cons (pe_glob (v := .int (-16)) rfl e4 ⟨_, rfl⟩) pa_nil)))) pss_nil)
    (pss_cons (ps_if (pt_cmpR op_lt (pe_fld (pv 4) rfl) (pv 3) (nomark _)) (pss_one (ps_ret (pe_lst (pa_cons (pe_glob (v := .int (-33)) rfl e5 ⟨_, rfl⟩) pa_nil)))) pss_nil)
    (pss_cons (ps_set (i := 5) sc_measure.nd rfl (Or.inl rfl) (pe_fld (pv 4) rfl)) (pss_cons (ps_fld (pv 4) (pv 3) rfl) (pss_one (ps_ret (pe_lst (pa_cons (pv 5) pa_nil))))))))))), ?_⟩
  have st : stepN 3 [i, o] (stOf true b) = said (if b.items.length ≤ i then (some b, Kp223.say (-2)) else if b.handed then (some b, Kp223.say (-16)) else if (Kp223.itemAt b i).ordered < o then (some b, Kp223.say (-33)) else
      (some (Kp223.set b i { Kp223.itemAt b i with done := o }), Kp223.say ((Kp223.itemAt b i).done : Int))) := by
    rw [step3]; rfl
  refine ⟨_, rfl, gv, _, _, _, rfl, rfl, SqL.of hg, at_of (j := 0) rfl rfl, _, rfl, gv, _, _, _, rfl, rfl, SqL.of hg, at_of (j := 1) rfl rfl, ?_⟩
  refine ⟨_, rfl, p, dx, _, rfl, h1, bl_no (by decide +kernel), _, rfl, p, L, true, b, i, rfl, B, _, rfl, ?_⟩
  refine ite2 (fun c => ⟨one_le, fun r hr0 => ?_⟩) (fun c => ?_)
  · refine k.same B W tab (Same.refl H) hr0 (ans := [-2]) ?_ rfl
    have z : ¬ i < b.items.length := by simpa using c
    rw [st, if_pos (by omega)]; rfl
  have hi : i < b.items.length := by simpa using c
  rw [if_neg (by omega)] at st
  obtain ⟨a, ha⟩ : ∃ a, L.is[i]? = some a := ⟨_, List.getElem?_eq_getElem (by rw [B.ni]; exact hi)⟩
  obtain ⟨x, hx⟩ : ∃ x, b.items[i]? = some x := ⟨_, List.getElem?_eq_getElem hi⟩
  have wx := W.it x (List.mem_of_getElem? hx)
  obtain ⟨da, hda⟩ := B.it i a x ha hx
  rw [itemAt_eq hx] at st
  refine ⟨_, rfl, p, C.B, dx, _, _, rfl, h1, T.clB, T.nB _ (by decide +kernel), lk_at (i := 3) (by decide +kernel) rfl, _, rfl, L.le, _, _, _, rfl, rfl, SqL.of B.le, atI_nat (v := V.ref a) (by rw [List.getElem?_map, ha]; rfl), ?_⟩
  refine ⟨_, rfl, p, C.B, dx, _, _, rfl, h1, T.clB, T.nB _ (by decide +kernel), lk_at (i := 5) (by decide +kernel) rfl, _, rfl, ?_⟩
  refine ite2 (fun c2 => ⟨one_le, fun r hr0 => ?_⟩) (fun c2 => ?_)
  · refine k.same B W tab (Same.refl H) hr0 (ans := [-16]) ?_ rfl
    rw [st, if_pos c2]; rfl
  rw [if_neg c2] at st
  refine ⟨_, rfl, a, C.I, da, _, _, rfl, hda, T.clI, T.nI _ (by decide +kernel), lk_at (i := 0) (by decide +kernel) rfl, _, rfl, _, _, rfl, rfl, _, rfl, ?_⟩
  refine ite2 (fun c3 => ⟨one_le, fun r hr0 => ?_⟩) (fun c3 => ?_)
  · refine k.same B W tab (Same.refl H) hr0 (ans := [-33]) ?_ rfl
    rw [st, if_pos (by have := of_decide_eq_true c3; omega)]; rfl
  have n3 : ¬ x.ordered < o := fun z => c3 (decide_eq_true (by omega))
  rw [if_neg n3] at st
  refine ⟨_, rfl, a, C.I, da, _, _, rfl, hda, T.clI, T.nI _ (by decide +kernel), lk_at (i := 3) (by decide +kernel) rfl, ?_⟩
  refine ⟨_, rfl, _, rfl, a, C.I, da, _, rfl, hda, T.clI, T.nI _ (by decide +kernel), (by show 4 < 1000; decide), _, rfl, one_le, fun r hr0 => ?_⟩
  refine k.setItem B W tab ha (x := { x with done := o }) ⟨wx.o, wx.r, by show o ≤ x.ordered; omega, wx.t⟩ (dx := da) ?_ hr0 (ans := [(x.done : Int)]) (by rw [st]; rfl) rfl
  rw [put_at (i := 3) (by decide +kernel) rfl]
  rfl
end
end Mp

set_option Elab.async false
set_option linter.all false
set_option maxRecDepth 100000
set_option maxHeartbeats 4000000
namespace Mp
open PySem PySem.Spec PyProof.Rows L2
section
variable {P : Program} {w : World} {K : PySem.W.Frag} {mg : Str → Option Value} {base : Heap} {C : Cl} {Pt : Addr}
theorem sc_h_value : FnScope ["bill", "given"] ["bill", "given"] (defScope s_value) := ⟨rfl, rfl, rfl, by decide +kernel, rfl, by decide +kernel, by decide +kernel⟩
theorem ok_h_value {f fM : Addr} {fd fdM : FuncData} (F : Fun K "value" "value" s_value f fd) (T : Txt K mg C) (M : Has K C "value" "Bill.value" s_Bill_value ["self"] fM fdM) (G : FnOk P w K mg base CX0 1 fM fdM ["self"] (spNum C fun b => (Kp223.value b : Nat))) :
    FnOk P w K mg base CX0 2 f fd ["bill", "given"] (spH C Pt 4) := by
  refine F.ok sc_h_value (fun vs H Q E h => spH_len h) (fun cdv A outer s H vs Q E hr h => ?_)
  obtain ⟨p, gv, L, g, b, ns, rfl, B, W, hg, ng, hlen, hb0, tab, k⟩ := h
  obtain rfl : g = true := hb0.resolve_left (by decide)
  obtain rfl : ns = [] := match ns, hlen with | [], _ => rfl
  obtain ⟨dx, h1⟩ := B.ob
  refine ⟨_, pss_one (ps_ret (pe_lst (pa_cons pe_int (pa_cons (pe_meth0 (pv 0) T.clB M.m G hr M.b .nil pass0) pa_nil)))), ?_⟩
  refine ⟨_, rfl, p, dx, _, rfl, h1, bl_no (by decide +kernel), p, L, true, b, rfl, B, W, fun H1 s1 => ⟨two_le, fun r hr0 => ?_⟩⟩
  exact k.same B W tab s1 hr0 (ans := [0, ((Kp223.value b : Nat) : Int)]) (by rw [step4]; rfl) rfl
theorem sc_h_contract : FnScope ["bill", "given"] ["bill", "given"] (defScope s_contract) := ⟨rfl, rfl, rfl, by decide +kernel, rfl, by decide +kernel, by decide +kernel⟩
theorem ok_h_contract {f fM : Addr} {fd fdM : FuncData} (F : Fun K "contract" "contract" s_contract f fd) (T : Txt K mg C) (M : Has K C "contract" "Bill.contract" s_Bill_contract ["self"] fM fdM) (G : FnOk P w K mg base CX0 1 fM fdM ["self"] (spNum C fun b => (Kp223.contract b : Nat))) :
    FnOk P w K mg base CX0 2 f fd ["bill", "given"] (spH C Pt 5) := by
  refine F.ok sc_h_contract (fun vs H Q E h => spH_len h) (fun cdv A outer s H vs Q E hr h => ?_)
  obtain ⟨p, gv, L, g, b, ns, rfl, B, W, hg, ng, hlen, hb0, tab, k⟩ := h
  obtain rfl : g = true := hb0.resolve_left (by decide)
  obtain rfl : ns = [] := match ns, hlen with | [], _ => rfl
  obtain ⟨dx, h1⟩ := B.ob
  refine ⟨_, pss_one (ps_ret (pe_lst (pa_cons pe_int (pa_cons (pe_meth0 (pv 0) T.clB M.m G hr M.b .nil pass0) pa_nil)))), ?_⟩
  refine ⟨_, rfl, p, dx, _, rfl, h1, bl_no (by decide +kernel), p, L, true, b, rfl, B, W, fun H1 s1 => ⟨two_le, fun r hr0 => ?_⟩⟩
  exact k.same B W tab s1 hr0 (ans := [0, ((Kp223.contract b : Nat) : Int)]) (by rw [step5]; rfl) rfl
theorem sc_h_kept : FnScope ["bill", "given"] ["bill", "given"] (defScope s_kept) := ⟨rfl, rfl, rfl, by decide +kernel, rfl, by decide +kernel, by decide +kernel⟩
theorem ok_h_kept {f fM : Addr} {fd fdM : FuncData} (F : Fun K "kept" "kept" s_kept f fd) (T : Txt K mg C) (M : Has K C "kept" "Bill.kept" s_Bill_kept ["self"] fM fdM) (G : FnOk P w K mg base CX0 2 fM fdM ["self"] (spNum C fun b => (Kp223.kept b : Nat))) :
    FnOk P w K mg base CX0 3 f fd ["bill", "given"] (spH C Pt 7) := by
  refine F.ok sc_h_kept (fun vs H Q E h => spH_len h) (fun cdv A outer s H vs Q E hr h => ?_)
  obtain ⟨p, gv, L, g, b, ns, rfl, B, W, hg, ng, hlen, hb0, tab, k⟩ := h
  obtain rfl : g = true := hb0.resolve_left (by decide)
  obtain rfl : ns = [] := match ns, hlen with | [], _ => rfl
  obtain ⟨dx, h1⟩ := B.ob
  refine ⟨_, pss_one (ps_ret (pe_lst (pa_cons pe_int (pa_cons (pe_meth0 (pv 0) T.clB M.m G hr M.b .nil pass0) pa_nil)))), ?_⟩
  refine ⟨_, rfl, p, dx, _, rfl, h1, bl_no (by decide +kernel), p, L, true, b, rfl, B, W, fun H1 s1 => ⟨two_le, fun r hr0 => ?_⟩⟩
  exact k.same B W tab s1 hr0 (ans := [0, ((Kp223.kept b : Nat) : Int)]) (by rw [step7]; rfl) rfl
theorem sc_h_due : FnScope ["bill", "given"] ["bill", "given"] (defScope s_due) := ⟨rfl, rfl, rfl, by decide +kernel, rfl, by decide +kernel, by decide +kernel⟩
theorem ok_h_due {f fM : Addr} {fd fdM : FuncData} (F : Fun K "due" "due" s_due f fd) (T : Txt K mg C) (M : Has K C "due" "Bill.due" s_Bill_due ["self"] fM fdM) (G : FnOk P w K mg base CX0 4 fM fdM ["self"] (spNum C fun b => (Kp223.due b : Nat))) :
    FnOk P w K mg base CX0 5 f fd ["bill", "given"] (spH C Pt 8) := by
  refine F.ok sc_h_due (fun vs H Q E h => spH_len h) (fun cdv A outer s H vs Q E hr h => ?_)
  obtain ⟨p, gv, L, g, b, ns, rfl, B, W, hg, ng, hlen, hb0, tab, k⟩ := h
  obtain rfl : g = true := hb0.resolve_left (by decide)
  obtain rfl : ns = [] := match ns, hlen with | [], _ => rfl
  obtain ⟨dx, h1⟩ := B.ob
  refine ⟨_, pss_one (ps_ret (pe_lst (pa_cons pe_int (pa_cons (pe_meth0 (pv 0) T.clB M.m G hr M.b .nil pass0) pa_nil)))), ?_⟩
  refine ⟨_, rfl, p, dx, _, rfl, h1, bl_no (by decide +kernel), p, L, true, b, rfl, B, W, fun H1 s1 => ⟨two_le, fun r hr0 => ?_⟩⟩
  exact k.same B W tab s1 hr0 (ans := [0, ((Kp223.due b : Nat) : Int)]) (by rw [step8]; rfl) rfl
theorem sc_h_left : FnScope ["bill", "given"] ["bill", "given"] (defScope s_left) := ⟨rfl, rfl, rfl, by decide +kernel, rfl, by decide +kernel, by decide +kernel⟩
theorem ok_h_left {f fV fC : Addr} {fd fdV fdC : FuncData} (F : Fun K "left" "left" s_left f fd) (T : Txt K mg C) (MV : Has K C "value" "Bill.value" s_Bill_value ["self"] fV fdV) (MC : Has K C "contract" "Bill.contract" s_Bill_contract ["self"] fC fdC) :
    FnOk P w K mg base CX0 2 f fd ["bill", "given"] (spH C Pt 6) := by
  have GV : FnOk P w K mg base CX0 1 fV fdV ["self"] _ := ok_value MV.F T
  have GC : FnOk P w K mg base CX0 1 fC fdC ["self"] _ := ok_contract MC.F T
  refine F.ok sc_h_left (fun vs H Q E h => spH_len h) (fun cdv A outer s H vs Q E hr h => ?_)
  obtain ⟨p, gv, L, g, b, ns, rfl, B, W, hg, ng, hlen, hb0, tab, k⟩ := h
  obtain rfl : g = true := hb0.resolve_left (by decide)
  obtain rfl : ns = [] := match ns, hlen with | [], _ => rfl
  obtain ⟨dx, h1⟩ := B.ob
  refine ⟨_, pss_one (ps_ret (pe_lst (pa_cons pe_int (pa_cons (pe_op op_sub (pe_meth0 (pv 0) T.clB MC.m GC hr MC.b .nil pass0) (pe_meth0 (pv 0) T.clB MV.m GV hr MV.b .nil pass0)) pa_nil)))), ?_⟩
  refine ⟨_, rfl, p, dx, _, rfl, h1, bl_no (by decide +kernel), p, L, true, b, rfl, B, W, fun H1 s1 => ?_⟩
  refine ⟨_, rfl, p, dx, _, rfl, s1 _ _ h1, bl_no (by decide +kernel), p, L, true, b, rfl, B.same s1, W, fun H2 s2 => ?_⟩
  refine ⟨_, _, rfl, rfl, two_le, fun r hr0 => ?_⟩
  refine k.same B W tab (s1.trans s2) hr0 (ans := [0, ((Kp223.contract b - Kp223.value b : Nat) : Int)]) (by rw [step6]; rfl) ?_
  rw [left_int W]
  rfl
end
end Mp

set_option Elab.async false
set_option linter.all false
set_option maxRecDepth 100000
set_option maxHeartbeats 4000000
namespace Mp
open PySem PySem.Spec PyProof.Rows L2
section
variable {P : Program} {w : World} {K : PySem.W.Frag} {mg : Str → Option Value} {base : Heap} {C : Cl} {Pt : Addr}
theorem KeepT.free {H H' : Hp} {x : Addr} (k : KeepT Pt H H') (t : TabS Pt H') (h : H' x = none) : H x = none := by
  cases e : H x with
  | none => rfl
  | some o =>
    by_cases z : x = Pt
    · obtain ⟨ps, hP⟩ := t.at
      rw [z, hP] at h
      cases h
    · rw [k _ _ e z] at h
      cases h
/-! ### certify -/
theorem sc_certify : FnScope ["bill", "given", "amount"] ["bill", "given"] (defScope s_certify) := ⟨rfl, rfl, rfl, by decide +kernel, rfl, by decide +kernel, by decide +kernel⟩
theorem ok_certify {f fD fP fI : Addr} {fd fdD fdP fdI : FuncData} (F : Fun K "certify" "certify" s_certify f fd) (T : Txt K mg C) (N : Cons mg) (MD : Has K C "due" "Bill.due" s_Bill_due ["self"] fD fdD) (GD : FnOk P w K mg base CX0 4 fD fdD ["self"] (spNum C fun b => (Kp223.due b : Nat)))
    (DP : Def K mg "parts_by_trade" ["bill", "amount"] fP fdP) (GP : FnOk P w K mg base CX0 4 fP fdP ["bill", "amount"] (spParts C Pt)) (M : Mk K C.C fI) (FI : Fun K "__init__" "Certificate.__init__" s_Certificate_init fI fdI) (bI : Binds K fdI ["self", "amount", "parts"] []) :
    FnOk P w K mg base CX0 5 f fd ["bill", "given"] (spH C Pt 9) := by
  have GI : FnOk P w K mg base CX0 1 fI fdI ["self", "amount", "parts"] (spCert C) := ok_Cert FI T
  obtain ⟨t1, e1⟩ := N.certs
  obtain ⟨t2, e2⟩ := N.full
  obtain ⟨t3, e3⟩ := N.nothing
  refine F.ok sc_certify (fun vs H Q E h => spH_len h) (fun cdv A outer s H vs Q E hr h => ?_)
  obtain ⟨p, gv, L, g, b, ns, rfl, B, W, hg, ng, hlen, hb0, tab, k⟩ := h
  obtain rfl : g = true := hb0.resolve_left (by decide)
  obtain rfl : ns = [] := match ns, hlen with | [], _ => rfl
  obtain ⟨dx, h1⟩ := B.ob
  have hr2 : Room 2 _ := hr.mono (by decide)
  refine ⟨_, pss_cons (ps_if (pt_cmpR op_eq (pe_callB call_len_seq rfl T.bLen PySem.boot_len (pa_cons (pe_fld (pv 0) rfl) pa_nil)) (pe_glob (v := .int 40) rfl e1 ⟨_, rfl⟩) (nomark _)) (pss_one (ps_ret (pe_lst (pa_cons (pe_glob (v := .int (-28)) rfl e2 ⟨_, rfl⟩) pa_nil)))) pss_nil)
    (pss_cons (ps_set (i := 2) sc_certify.nd rfl (Or.inl rfl) (pe_meth0 (pv 0) T.clB MD.m GD hr MD.b .nil pass0))
    (pss_cons (ps_if (pt_cmpR op_eq (pv 2) pe_int (nomark _)) (pss_one (ps_ret (pe_lst (pa_cons (pe_glob (v := .int (-6)) rfl e3 ⟨_, rfl⟩) pa_nil)))) pss_nil)
    (pss_cons (ps_expr (pe_bm PySem.F.plainAttrs_list PySem.F.slot_list_append PySem.F.type_list_append mt_append (pe_fld (pv 0) rfl) (pa_cons (pe_make M GI hr2 rfl T.mgC bI .nil pass0 (pa_cons (pv 2) (pa_cons (pe_call GP hr rfl DP.mg DP.kp DP.b .nil pass0 (pa_cons (pv 0) (pa_cons (pv 2) pa_nil))) pa_nil))) pa_nil)))
    (pss_one (ps_ret (pe_lst (pa_cons (pe_op op_sub (pe_callB call_len_seq rfl T.bLen PySem.boot_len (pa_cons (pe_fld (pv 0) rfl) pa_nil)) pe_int) (pa_cons (pv 2) pa_nil)))))))), ?_⟩
  have st : stepN 9 [] (stOf true b) = said (if 40 ≤ b.certs.length then (some b, Kp223.say (-28)) else if Kp223.due b = 0 then (some b, Kp223.say (-6)) else (some { b with certs := b.certs ++ [Kp223.nextCert b] }, ⟨(b.certs.length : Int), [(Kp223.due b : Int)]⟩)) := by
    rw [step9]; rfl
  have hl : (L.cs.map V.ref).length = b.certs.length := by rw [List.length_map]; exact B.nc
  refine ⟨_, rfl, p, C.B, dx, _, _, rfl, h1, T.clB, T.nB _ (by decide +kernel), lk_at (i := 4) (by decide +kernel) rfl, L.lc, _, rfl, .inl (SqL.of B.lc), rfl, _, rfl, ?_⟩
  refine ite2 (fun c1 => ⟨one_le, fun r hr0 => ?_⟩) (fun c1 => ?_)
  · have e40 : b.certs.length = 40 := by
      have z := of_decide_eq_true c1
      rw [hl] at z
      injection z with z
      omega
    refine k.same B W tab (Same.refl H) hr0 (ans := [-28]) ?_ rfl
    rw [st, if_pos (by omega)]; rfl
  have n40 : b.certs.length < 40 := by
    have z : ¬ b.certs.length = 40 := fun z => c1 (decide_eq_true (by rw [hl, z]; rfl))
    have := W.nc
    omega
  rw [if_neg (by omega)] at st
  refine ⟨_, rfl, p, dx, _, rfl, h1, bl_no (by decide +kernel), p, L, true, b, rfl, B, W, fun H1 s1 => ?_⟩
  refine ⟨_, rfl, rfl, _, rfl, ?_⟩
  refine ite2 (fun c2 => ⟨one_le, fun r hr0 => ?_⟩) (fun c2 => ?_)
  · have e0 : Kp223.due b = 0 := by
      have z : V.int ((Kp223.due b : Nat) : Int) = V.int 0 := of_decide_eq_true c2
      injection z with z
      omega
    refine k.same B W tab s1 hr0 (ans := [-6]) ?_ rfl
    rw [st, if_pos e0]; rfl
  have n0 : ¬ Kp223.due b = 0 := fun z => c2 (decide_eq_true (by show V.int ((Kp223.due b : Nat) : Int) = V.int 0; rw [z]; rfl))
  rw [if_neg n0] at st
  have B1 := B.same s1
  have tb1 : TabS Pt H1 := tab.same s1
  have h11 := s1 _ _ h1
  refine ⟨_, rfl, p, C.B, dx, _, _, rfl, h11, T.clB, T.nB _ (by decide +kernel), lk_at (i := 4) (by decide +kernel) rfl, .inl ⟨rfl, _, SqL.of B1.lc⟩, _, rfl, _, rfl, _, rfl, p, L, true, b, Kp223.due b, rfl, B1, W, due_pos n0, tb1, fun H2 q k2 tb2 nq hq => ?_⟩
  intro x ex nx nex ndx
  refine ⟨x, ex, q, _, rfl, upd_same, fun H3 a1 a2 => ⟨rfl, ?_⟩⟩
  have B2 : BillAt C H2 p L true b := B1.keepT tb1 k2
  have s3 : Same H2 H3 := Same.made nx nex a2
  have B3 := B2.same s3
  refine ⟨L.lc, _, _, rfl, rfl, B3.lc, (by rw [hl]; exact small1000 (by omega)), ?_⟩
  have nxf : x ∉ foot p L := fun z => by
    obtain ⟨o, e⟩ := B2.there z
    rw [nx] at e
    cases e
  have nqf : q ∉ foot p L := fun z => by
    obtain ⟨o, e⟩ := B1.there z
    rw [nq] at e
    cases e
  have nxq : x ≠ q := fun z => by rw [z, hq] at nx; cases nx
  have B4 := B2.addCert (c := Kp223.nextCert b) (dx := ex) (H' := H3) nxf nqf nxq (fun c _ o e => s3 c o e) a1 (s3 _ _ hq)
  have h4 : upd H3 L.lc (.lst (L.cs.map V.ref ++ [.ref x])) p = some (.ins C.B dx (billK.zip (biV true b L))) := by
    rw [upd_ne B.ap.p_lc]
    exact s3 _ _ (k2 _ _ h11 (B1.noTab tb1 p foot_p))
  refine ⟨_, rfl, p, C.B, dx, _, _, rfl, h4, T.clB, T.nB _ (by decide +kernel), lk_at (i := 4) (by decide +kernel) rfl, L.lc, _, rfl, .inl (SqL.of upd_same), _, _, rfl, rfl, _, rfl, two_le, fun r hr0 => ?_⟩
  have sm : Same (upd H3 L.lc (.lst (L.cs.map V.ref ++ [.ref x]))) (upd (upd H3 L.lc (.lst (L.cs.map V.ref ++ [.ref x]))) r (.lst [V.int ((((L.cs.map V.ref ++ [V.ref x]).length : Nat) : Int) - 1), V.int ((Kp223.due b : Nat) : Int)])) := fun c o e => by rw [upd_ne (ne_of_none e hr0)]; exact e
  have nrl : r ≠ L.lc := fun z => by rw [z, upd_same] at hr0; cases hr0
  have Hr3 : H3 r = none := by rw [upd_ne nrl] at hr0; exact hr0
  have Hr : H r = none := Same.freeS s1 (k2.free tb2 (Same.freeS s3 Hr3))
  refine k _ r { L with cs := L.cs ++ [x], ps := L.ps ++ [q] } true { b with certs := b.certs ++ [Kp223.nextCert b] } [(b.certs.length : Int), ((Kp223.due b : Nat) : Int)] (B4.same sm) (wf_cert W (wf_next b) n40) (by rw [st]; rfl) ⟨fun c o e nP hc => ?_, fun c hc => ?_⟩ Hr ?_ ?_
  · exact sm _ _ (by rw [upd_ne (fun z => hc (by rw [z]; exact foot_lc))]; exact s3 _ _ (k2 _ _ (s1 _ _ e) nP))
  · rcases foot_iff.mp hc with rfl | rfl | rfl | z | z | z
    · exact .inl foot_p
    · exact .inl foot_le
    · exact .inl foot_lc
    · exact .inl (foot_is z)
    · rcases List.mem_append.mp z with z | z
      · exact .inl (foot_cs z)
      · rw [List.mem_singleton.mp z]; exact .inr (Same.freeS s1 (k2.free tb2 nx))
    · rcases List.mem_append.mp z with z | z
      · exact .inl (foot_ps z)
      · rw [List.mem_singleton.mp z]; exact .inr (Same.freeS s1 nq)
  · rw [upd_same, List.length_append, hl]
    show some (HO.lst [V.int (((b.certs.length + 1 : Nat) : Int) - 1), _]) = some (HO.lst [V.int ((b.certs.length : Nat) : Int), _])
    congr 4
    omega
  · refine ((tb2.same s3).mono fun c o e hc => ?_ : TabS Pt (upd H3 L.lc (.lst (L.cs.map V.ref ++ [.ref x])))).same sm
    have nb : c ≠ L.lc := by
      rcases hc with rfl | ⟨q2, c2, rfl⟩
      · exact (B.noTab tab _ foot_lc).symm
      · exact ne_of e B3.lc (by intro z; cases z)
    rw [upd_ne nb]; exact e
end
end Mp

set_option Elab.async false
set_option linter.all false
set_option maxRecDepth 100000
set_option maxHeartbeats 4000000
namespace Mp
open PySem PySem.Spec PyProof.Rows L2
section
variable {P : Program} {w : World} {K : PySem.W.Frag} {mg : Str → Option Value} {base : Heap} {C : Cl} {Pt : Addr}
/-- an answer that is told of the bill as it was, later -/
theorem HPost.later {n : Nat} {ns : List Nat} {p : Addr} {L : Lay} {g : Bool} {b : Kp223.Bill} {H H1 : Hp} {Q : VK} (k : HPost C Pt n ns p L g b H Q) (s : Same H H1) : HPost C Pt n ns p L g b H1 Q :=
  fun H' r L' g' b' ans B W e fr hr hr' t => k H' r L' g' b' ans B W e ⟨fun c o z n1 n2 => fr.keep c o (s _ _ z) n1 n2, fun c hc => (fr.new c hc).imp id fun z => Same.freeS s z⟩ (Same.freeS s hr) hr' t
/-- the certificate n, where there is one -/
theorem BillAt.cert {H : Hp} {p : Addr} {L : Lay} {g : Bool} {b : Kp223.Bill} (B : BillAt C H p L g b) {n : Nat} (h : n < b.certs.length) : ∃ (a q dx : Addr) (c : Kp223.Cert), L.cs[n]? = some a ∧ L.ps[n]? = some q ∧ b.certs[n]? = some c ∧ H a = some (.ins C.C dx (certK.zip (ceV c q))) ∧ H q = some (.lst (c.trades.map V.int)) := by
  have h1 : L.cs[n]? = some _ := List.getElem?_eq_getElem (by rw [B.nc]; exact h)
  have h2 : L.ps[n]? = some _ := List.getElem?_eq_getElem (by rw [B.np]; exact h)
  have h3 : b.certs[n]? = some _ := List.getElem?_eq_getElem h
  obtain ⟨⟨dx, e1⟩, e2⟩ := B.ct n _ _ _ h1 h2 h3
  exact ⟨_, _, dx, _, h1, h2, h3, e1, e2⟩
/-! ### pay -/
theorem sc_pay : FnScope ["bill", "given", "n", "cents", "certificate"] ["bill", "given"] (defScope s_pay) := ⟨rfl, rfl, rfl, by decide +kernel, rfl, by decide +kernel, by decide +kernel⟩
theorem ok_pay {f fH fU : Addr} {fd fdH fdU : FuncData} (F : Fun K "pay" "pay" s_pay f fd) (T : Txt K mg C) (N : Cons mg) (MH : Has K C "has_certificate" "Bill.has_certificate" s_Bill_has_certificate ["self", "n"] fH fdH)
    (MU : HasC K C "unpaid" "Certificate.unpaid" s_Certificate_unpaid ["self"] fU fdU) : FnOk P w K mg base CX0 2 f fd ["bill", "given"] (spH C Pt 10) := by
  have GH : FnOk P w K mg base CX0 1 fH fdH ["self", "n"] (spHasC C) := ok_hasC MH.F T
  have GU : FnOk P w K mg base CX0 1 fU fdU ["self"] (spUnpaid C) := ok_unpaid MU.F T
  obtain ⟨t1, e1⟩ := N.noSuch
  obtain ⟨t2, e2⟩ := N.range
  refine F.ok sc_pay (fun vs H Q E h => spH_len h) (fun cdv A outer s H vs Q E hr h => ?_)
  obtain ⟨p, gv, L, g, b, ns, rfl, B, W, hg, ng, hlen, hb0, tab, k⟩ := h
  obtain rfl : g = true := hb0.resolve_left (by decide)
  obtain ⟨n, x, rfl⟩ : ∃ n x, ns = [n, x] := match ns, hlen with | [n, x], _ => ⟨n, x, rfl⟩
  obtain ⟨dx, h1⟩ := B.ob
  refine ⟨_, pss_cons (ps_set (i := 2) sc_pay.nd rfl (Or.inl rfl) (pe_ix ix_list (pv 1) pe_int (fun _ _ => rfl))) (pss_cons (ps_set (i := 3) sc_pay.nd rfl (Or.inl rfl) (pe_ix ix_list (pv 1) pe_int (fun _ _ => rfl)))
    (pss_cons (ps_if (pt_not (pt_val (pe_meth (pv 0) T.clB MH.m GH hr MH.b .nil pass0 (pa_cons (pv 2) pa_nil)))) (pss_one (ps_ret (pe_lst (pa_cons (pe_glob (v := .int (-2)) rfl e1 ⟨_, rfl⟩) pa_nil)))) pss_nil)
    (pss_cons (ps_set (i := 4) sc_pay.nd rfl (Or.inl rfl) (pe_ix ix_list (pe_fld (pv 0) rfl) (pv 2) (fun _ _ => rfl)))
    (pss_cons (ps_if (PW.pt (pw_or (pt_cmpR op_eq (pv 3) pe_int (nomark _)) (pw_or1 (pt_cmpR op_gt (pv 3) (pe_meth0 (pv 4) T.clC MU.m GU hr MU.b .nil pass0) (nomark _))))) (pss_one (ps_ret (pe_lst (pa_cons (pe_glob (v := .int (-22)) rfl e2 ⟨_, rfl⟩) pa_nil)))) pss_nil)
    (pss_cons (ps_fldaug (pv 4) (pv 3) in_add)
    (pss_one (ps_ret (pe_lst (pa_cons pe_int (pa_cons (pe_meth0 (pv 4) T.clC MU.m GU hr MU.b .nil pass0) pa_nil)))))))))), ?_⟩
  have st : stepN 10 [n, x] (stOf true b) = said (if b.certs.length ≤ n then (some b, Kp223.say (-2)) else if x = 0 ∨ (Kp223.certAt b n).amount - (Kp223.certAt b n).paid < x then (some b, Kp223.say (-22)) else
      (some { b with certs := b.certs.set n { Kp223.certAt b n with paid := (Kp223.certAt b n).paid + x } }, ⟨0, [((Kp223.certAt b n).amount - (Kp223.certAt b n).paid - x : Nat)]⟩)) := by
    rw [step10]; rfl
  refine ⟨_, rfl, gv, _, _, _, rfl, rfl, SqL.of hg, at_of (j := 0) rfl rfl, _, rfl, gv, _, _, _, rfl, rfl, SqL.of hg, at_of (j := 1) rfl rfl, ?_⟩
  refine ⟨_, rfl, p, dx, _, rfl, h1, bl_no (by decide +kernel), _, rfl, p, L, true, b, n, rfl, B, _, rfl, ?_⟩
  refine ite2 (fun c => ⟨one_le, fun r hr0 => ?_⟩) (fun c => ?_)
  · refine k.same B W tab (Same.refl H) hr0 (ans := [-2]) ?_ rfl
    have z : ¬ n < b.certs.length := by simpa using c
    rw [st, if_pos (by omega)]; rfl
  have hn : n < b.certs.length := by simpa using c
  rw [if_neg (by omega)] at st
  obtain ⟨a, q, da, c0, ha, hq, hc, hda, hql⟩ := B.cert hn
  have wc := W.ct c0 (List.mem_of_getElem? hc)
  rw [certAt_eq hc] at st
  refine ⟨_, rfl, p, C.B, dx, _, _, rfl, h1, T.clB, T.nB _ (by decide +kernel), lk_at (i := 4) (by decide +kernel) rfl, _, rfl, L.lc, _, _, _, rfl, rfl, SqL.of B.lc, atI_nat (v := V.ref a) (by rw [List.getElem?_map, ha]; rfl), ?_⟩
  have no : (x = 0 ∨ c0.amount - c0.paid < x) → ∀ r : Addr, H r = none → Q (.ref r) (upd H r (.lst [.int (-22)])) := fun hh r hr0 => by
    refine k.same B W tab (Same.refl H) hr0 (ans := [-22]) ?_ rfl
    rw [st, if_pos hh]; rfl
  have key := open_int wc
  refine ⟨_, rfl, rfl, _, rfl, ?_⟩
  refine ite2 (fun c1 => iteT ⟨one_le, no (.inl ?_)⟩) (fun c1 => ?_)
  · have z : V.int ((x : Nat) : Int) = V.int 0 := of_decide_eq_true c1
    injection z with z
    omega
  refine ⟨_, rfl, _, rfl, a, da, _, rfl, hda, ce_no (by decide +kernel), a, da, q, c0, rfl, hda, _, _, rfl, rfl, _, rfl, ?_⟩
  refine ite2 (fun c2 => ⟨one_le, no (.inr ?_)⟩) (fun c2 => ?_)
  · have z := of_decide_eq_true c2
    omega
  have n1 : ¬ x = 0 := fun z => c1 (decide_eq_true (by show V.int ((x : Nat) : Int) = V.int 0; rw [z]; rfl))
  have n2 : ¬ c0.amount - c0.paid < x := fun z => c2 (decide_eq_true (by omega))
  rw [if_neg (by omega)] at st
  refine ⟨_, rfl, a, C.C, da, _, _, rfl, hda, T.clC, T.nC _ (by decide +kernel), lk_at (i := 2) (by decide +kernel) rfl, _, rfl, _, _, rfl, rfl, da, _, hda, (by show 3 < 1000; decide), ?_⟩
  have ew : putF "paid" (V.int (((c0.paid : Nat) : Int) + ((x : Nat) : Int))) (certK.zip (ceV c0 q)) = certK.zip (ceV { c0 with paid := c0.paid + x } q) := by
    rw [put_at (i := 2) (by decide +kernel) rfl]
    rfl
  rw [ew]
  have ma := List.mem_of_getElem? ha
  have B1 := B.setCert (dx := da) (c' := { c0 with paid := c0.paid + x }) ha hq hc rfl
  have wc1 := pay_wf wc (x := x) (by omega)
  refine ⟨_, rfl, a, da, _, rfl, upd_same, ce_no (by decide +kernel), a, da, q, { c0 with paid := c0.paid + x }, rfl, upd_same, two_le, fun r hr0 => ?_⟩
  refine k.wrote B tab (foot_cs ma) B1 (wf_setCert W wc1) (Same.refl _) hr0 (ans := [0, ((c0.amount - c0.paid - x : Nat) : Int)]) (by rw [st]; rfl) ?_
  show [V.int 0, V.int (((c0.amount : Nat) : Int) - ((c0.paid + x : Nat) : Int))] = [V.int 0, V.int ((c0.amount - c0.paid - x : Nat) : Int)]
  rw [show ((c0.amount : Nat) : Int) - ((c0.paid + x : Nat) : Int) = ((c0.amount - c0.paid - x : Nat) : Int) by have := wc.p; omega]
/-! ### open -/
theorem sc_open : FnScope ["bill", "given", "n"] ["bill", "given"] (defScope s_still_open) := ⟨rfl, rfl, rfl, by decide +kernel, rfl, by decide +kernel, by decide +kernel⟩
theorem ok_open {f fH fU : Addr} {fd fdH fdU : FuncData} (F : Fun K "still_open" "still_open" s_still_open f fd) (T : Txt K mg C) (N : Cons mg) (MH : Has K C "has_certificate" "Bill.has_certificate" s_Bill_has_certificate ["self", "n"] fH fdH)
    (MU : HasC K C "unpaid" "Certificate.unpaid" s_Certificate_unpaid ["self"] fU fdU) : FnOk P w K mg base CX0 2 f fd ["bill", "given"] (spH C Pt 11) := by
  have GH : FnOk P w K mg base CX0 1 fH fdH ["self", "n"] (spHasC C) := ok_hasC MH.F T
  have GU : FnOk P w K mg base CX0 1 fU fdU ["self"] (spUnpaid C) := ok_unpaid MU.F T
  obtain ⟨t1, e1⟩ := N.noSuch
  refine F.ok sc_open (fun vs H Q E h => spH_len h) (fun cdv A outer s H vs Q E hr h => ?_)
  obtain ⟨p, gv, L, g, b, ns, rfl, B, W, hg, ng, hlen, hb0, tab, k⟩ := h
  obtain rfl : g = true := hb0.resolve_left (by decide)
  obtain ⟨n, rfl⟩ : ∃ n, ns = [n] := match ns, hlen with | [n], _ => ⟨n, rfl⟩
  obtain ⟨dx, h1⟩ := B.ob
  refine ⟨_, pss_cons (ps_set (i := 2) sc_open.nd rfl (Or.inl rfl) (pe_ix ix_list (pv 1) pe_int (fun _ _ => rfl)))
    (pss_cons (ps_if (pt_not (pt_val (pe_meth (pv 0) T.clB MH.m GH hr MH.b .nil pass0 (pa_cons (pv 2) pa_nil)))) (pss_one (ps_ret (pe_lst (pa_cons (pe_glob (v := .int (-2)) rfl e1 ⟨_, rfl⟩) pa_nil)))) pss_nil)
    (pss_one (ps_ret (pe_lst (pa_cons pe_int (pa_cons (pe_meth0 (pe_ix ix_list (pe_fld (pv 0) rfl) (pv 2) (fun _ _ => rfl)) T.clC MU.m GU hr MU.b .nil pass0) pa_nil)))))), ?_⟩
  have st : stepN 11 [n] (stOf true b) = said (some b, if b.certs.length ≤ n then Kp223.say (-2) else ⟨0, [((Kp223.certAt b n).amount - (Kp223.certAt b n).paid : Nat)]⟩) := by
    rw [step11]; rfl
  refine ⟨_, rfl, gv, _, _, _, rfl, rfl, SqL.of hg, at_of (j := 0) rfl rfl, ?_⟩
  refine ⟨_, rfl, p, dx, _, rfl, h1, bl_no (by decide +kernel), _, rfl, p, L, true, b, n, rfl, B, _, rfl, ?_⟩
  refine ite2 (fun c => ⟨one_le, fun r hr0 => ?_⟩) (fun c => ?_)
  · refine k.same B W tab (Same.refl H) hr0 (ans := [-2]) ?_ rfl
    have z : ¬ n < b.certs.length := by simpa using c
    rw [st, if_pos (by omega)]; rfl
  have hn : n < b.certs.length := by simpa using c
  rw [if_neg (by omega)] at st
  obtain ⟨a, q, da, c0, ha, hq, hc, hda, hql⟩ := B.cert hn
  have wc := W.ct c0 (List.mem_of_getElem? hc)
  rw [certAt_eq hc] at st
  refine ⟨_, rfl, p, C.B, dx, _, _, rfl, h1, T.clB, T.nB _ (by decide +kernel), lk_at (i := 4) (by decide +kernel) rfl, _, rfl, L.lc, _, _, _, rfl, rfl, SqL.of B.lc, atI_nat (v := V.ref a) (by rw [List.getElem?_map, ha]; rfl), ?_⟩
  refine ⟨a, da, _, rfl, hda, ce_no (by decide +kernel), a, da, q, c0, rfl, hda, two_le, fun r hr0 => ?_⟩
  refine k.same B W tab (Same.refl H) hr0 (ans := [0, ((c0.amount - c0.paid : Nat) : Int)]) (by rw [st]; rfl) ?_
  rw [open_int wc]
  rfl
/-! ### split -/
theorem sc_split : FnScope ["bill", "given", "n"] ["bill", "given"] (defScope s_split) := ⟨rfl, rfl, rfl, by decide +kernel, rfl, by decide +kernel, by decide +kernel⟩
theorem ok_split {f fH : Addr} {fd fdH : FuncData} (F : Fun K "split" "split" s_split f fd) (T : Txt K mg C) (N : Cons mg) (MH : Has K C "has_certificate" "Bill.has_certificate" s_Bill_has_certificate ["self", "n"] fH fdH) : FnOk P w K mg base CX0 2 f fd ["bill", "given"] (spH C Pt 12) := by
  have GH : FnOk P w K mg base CX0 1 fH fdH ["self", "n"] (spHasC C) := ok_hasC MH.F T
  obtain ⟨t1, e1⟩ := N.noSuch
  refine F.ok sc_split (fun vs H Q E h => spH_len h) (fun cdv A outer s H vs Q E hr h => ?_)
  obtain ⟨p, gv, L, g, b, ns, rfl, B, W, hg, ng, hlen, hb0, tab, k⟩ := h
  obtain rfl : g = true := hb0.resolve_left (by decide)
  obtain ⟨n, rfl⟩ : ∃ n, ns = [n] := match ns, hlen with | [n], _ => ⟨n, rfl⟩
  obtain ⟨dx, h1⟩ := B.ob
  refine ⟨_, pss_cons (ps_set (i := 2) sc_split.nd rfl (Or.inl rfl) (pe_ix ix_list (pv 1) pe_int (fun _ _ => rfl)))
    (pss_cons (ps_if (pt_not (pt_val (pe_meth (pv 0) T.clB MH.m GH hr MH.b .nil pass0 (pa_cons (pv 2) pa_nil)))) (pss_one (ps_ret (pe_lst (pa_cons (pe_glob (v := .int (-2)) rfl e1 ⟨_, rfl⟩) pa_nil)))) pss_nil)
    (pss_one (ps_ret (pe_op op_cat (pe_lst (pa_cons pe_int pa_nil)) (pe_fld (pe_ix ix_list (pe_fld (pv 0) rfl) (pv 2) (fun _ _ => rfl)) rfl))))), ?_⟩
  have st : stepN 12 [n] (stOf true b) = said (some b, if b.certs.length ≤ n then Kp223.say (-2) else ⟨0, (Kp223.certAt b n).trades⟩) := by
    rw [step12]; rfl
  refine ⟨_, rfl, gv, _, _, _, rfl, rfl, SqL.of hg, at_of (j := 0) rfl rfl, ?_⟩
  refine ⟨_, rfl, p, dx, _, rfl, h1, bl_no (by decide +kernel), _, rfl, p, L, true, b, n, rfl, B, _, rfl, ?_⟩
  refine ite2 (fun c => ⟨one_le, fun r hr0 => ?_⟩) (fun c => ?_)
  · refine k.same B W tab (Same.refl H) hr0 (ans := [-2]) ?_ rfl
    have z : ¬ n < b.certs.length := by simpa using c
    rw [st, if_pos (by omega)]; rfl
  have hn : n < b.certs.length := by simpa using c
  rw [if_neg (by omega)] at st
  obtain ⟨a, q, da, c0, ha, hq, hc, hda, hql⟩ := B.cert hn
  have wc := W.ct c0 (List.mem_of_getElem? hc)
  rw [certAt_eq hc] at st
  refine ⟨one_le, fun l hl => ?_⟩
  have sm : Same H (upd H l (.lst [.int 0])) := fun c o e => by rw [upd_ne (ne_of_none e hl)]; exact e
  refine ⟨_, rfl, p, C.B, dx, _, _, rfl, sm _ _ h1, T.clB, T.nB _ (by decide +kernel), lk_at (i := 4) (by decide +kernel) rfl, _, rfl, L.lc, _, _, _, rfl, rfl, SqL.of (sm _ _ B.lc), atI_nat (v := V.ref a) (by rw [List.getElem?_map, ha]; rfl), ?_⟩
  refine ⟨a, C.C, da, _, _, rfl, sm _ _ hda, T.clC, T.nC _ (by decide +kernel), lk_at (i := 1) (by decide +kernel) rfl, ?_⟩
  refine ⟨l, q, _, _, rfl, rfl, upd_same, sm _ _ hql, ?_, fun r hr0 => ?_⟩
  · rw [List.length_map, wc.l]
    show 1 + 4 ≤ sizeLine
    decide
  · exact k.same B W tab sm hr0 (ans := 0 :: c0.trades) (by rw [st]; rfl) rfl
end
end Mp

set_option Elab.async false
set_option linter.all false
set_option maxRecDepth 100000
set_option maxHeartbeats 4000000
namespace Mp
open PySem PySem.Spec PyProof.Rows L2
section
variable {P : Program} {w : World} {K : PySem.W.Frag} {mg : Str → Option Value} {base : Heap} {C : Cl} {Pt : Addr}
theorem three_le : ([V.int 0, V.int 0, V.int 0] : List V).length ≤ sizeLine := by show 3 ≤ sizeLine; decide
/-! ### trade -/
theorem sc_trade : FnScope ["bill", "given", "t"] ["bill", "given"] (defScope s_of_trade) := ⟨rfl, rfl, rfl, by decide +kernel, rfl, by decide +kernel, by decide +kernel⟩
theorem ok_trade {f fV fG : Addr} {fd fdV fdG : FuncData} (F : Fun K "of_trade" "of_trade" s_of_trade f fd) (T : Txt K mg C) (N : Cons mg) (MV : Has K C "trade_value" "Bill.trade_value" s_Bill_trade_value ["self", "trade"] fV fdV) (MG : Has K C "trade_got" "Bill.trade_got" s_Bill_trade_got ["self", "trade"] fG fdG) :
    FnOk P w K mg base CX0 2 f fd ["bill", "given"] (spH C Pt 13) := by
  have GV : FnOk P w K mg base CX0 1 fV fdV ["self", "trade"] (spNumT C fun b t => (Kp223.tradeValue b t : Nat)) := ok_tvalue MV.F T
  have GG : FnOk P w K mg base CX0 1 fG fdG ["self", "trade"] (spNumT C Kp223.tradeSoFar) := ok_tgot MG.F T
  obtain ⟨t1, e1⟩ := N.trades
  obtain ⟨t2, e2⟩ := N.range
  refine F.ok sc_trade (fun vs H Q E h => spH_len h) (fun cdv A outer s H vs Q E hr h => ?_)
  obtain ⟨p, gv, L, g, b, ns, rfl, B, W, hg, ng, hlen, hb0, tab, k⟩ := h
  obtain rfl : g = true := hb0.resolve_left (by decide)
  obtain ⟨t, rfl⟩ : ∃ t, ns = [t] := match ns, hlen with | [t], _ => ⟨t, rfl⟩
  obtain ⟨dx, h1⟩ := B.ob
  refine ⟨_, pss_cons (ps_set (i := 2) sc_trade.nd rfl (Or.inl rfl) (pe_ix ix_list (pv 1) pe_int (fun _ _ => rfl)))
    (pss_cons (ps_if (pt_cmpR op_ge (pv 2) (pe_glob (v := .int 4) rfl e1 ⟨_, rfl⟩) (nomark _)) (pss_one (ps_ret (pe_lst (pa_cons (pe_glob (v := .int (-22)) rfl e2 ⟨_, rfl⟩) pa_nil)))) pss_nil)
    (pss_one (ps_ret (pe_lst (pa_cons pe_int (pa_cons (pe_meth (pv 0) T.clB MV.m GV hr MV.b .nil pass0 (pa_cons (pv 2) pa_nil)) (pa_cons (pe_meth (pv 0) T.clB MG.m GG hr MG.b .nil pass0 (pa_cons (pv 2) pa_nil)) pa_nil))))))), ?_⟩
  have st : stepN 13 [t] (stOf true b) = said (some b, if 4 ≤ t then Kp223.say (-22) else ⟨0, [(Kp223.tradeValue b t : Int), Kp223.tradeSoFar b t]⟩) := by
    rw [step13]; rfl
  refine ⟨_, rfl, gv, _, _, _, rfl, rfl, SqL.of hg, at_of (j := 0) rfl rfl, ?_⟩
  refine ⟨_, rfl, _, _, rfl, rfl, _, rfl, ?_⟩
  refine ite2 (fun c1 => ⟨one_le, fun r hr0 => ?_⟩) (fun c1 => ?_)
  · refine k.same B W tab (Same.refl H) hr0 (ans := [-22]) ?_ rfl
    rw [st, if_pos (by have := of_decide_eq_true c1; omega)]; rfl
  have ht : t < 4 := by
    have z : ¬ 4 ≤ t := fun z => c1 (decide_eq_true (by omega))
    omega
  rw [if_neg (by omega)] at st
  refine ⟨_, rfl, p, dx, _, rfl, h1, bl_no (by decide +kernel), _, rfl, p, L, true, b, t, rfl, B, W, ht, fun H1 s1 => ?_⟩
  refine ⟨_, rfl, p, dx, _, rfl, s1 _ _ h1, bl_no (by decide +kernel), _, rfl, p, L, true, b, t, rfl, B.same s1, W, ht, fun H2 s2 => ⟨three_le, fun r hr0 => ?_⟩⟩
  exact k.same B W tab (s1.trans s2) hr0 (ans := [0, ((Kp223.tradeValue b t : Nat) : Int), Kp223.tradeSoFar b t]) (by rw [st]; rfl) rfl
/-! ### hand -/
theorem sc_hand : FnScope ["bill", "given"] ["bill", "given"] (defScope s_hand) := ⟨rfl, rfl, rfl, by decide +kernel, rfl, by decide +kernel, by decide +kernel⟩
theorem ok_hand {f fA fD : Addr} {fd fdA fdD : FuncData} (F : Fun K "hand" "hand" s_hand f fd) (T : Txt K mg C) (N : Cons mg) (MA : Has K C "all_done" "Bill.all_done" s_Bill_all_done ["self"] fA fdA) (MD : Has K C "due" "Bill.due" s_Bill_due ["self"] fD fdD)
    (GD : FnOk P w K mg base CX0 4 fD fdD ["self"] (spNum C fun b => (Kp223.due b : Nat))) : FnOk P w K mg base CX0 5 f fd ["bill", "given"] (spH C Pt 14) := by
  have GA : FnOk P w K mg base CX0 1 fA fdA ["self"] (spDone C) := ok_alldone MA.F T
  obtain ⟨t1, e1⟩ := N.already
  obtain ⟨t2, e2⟩ := N.odds
  refine F.ok sc_hand (fun vs H Q E h => spH_len h) (fun cdv A outer s H vs Q E hr h => ?_)
  obtain ⟨p, gv, L, g, b, ns, rfl, B, W, hg, ng, hlen, hb0, tab, k⟩ := h
  obtain rfl : g = true := hb0.resolve_left (by decide)
  obtain rfl : ns = [] := match ns, hlen with | [], _ => rfl
  obtain ⟨dx, h1⟩ := B.ob
  have hr1 : Room 1 _ := hr.mono (by decide)
  refine ⟨_, pss_cons (ps_if (pt_val (pe_fld (pv 0) rfl)) (pss_one (ps_ret (pe_lst (pa_cons (pe_glob (v := .int (-17)) rfl e1 ⟨_, rfl⟩) pa_nil)))) pss_nil)
    (pss_cons (ps_if (pt_not (pt_val (pe_meth0 (pv 0) T.clB MA.m GA hr1 MA.b .nil pass0))) (pss_one (ps_ret (pe_lst (pa_cons (pe_glob (v := .int (-33)) rfl e2 ⟨_, rfl⟩) pa_nil)))) pss_nil)
    (pss_cons (ps_fld (pv 0) pe_bl rfl)
    (pss_one (ps_ret (pe_lst (pa_cons pe_int (pa_cons (pe_meth0 (pv 0) T.clB MD.m GD hr MD.b .nil pass0) pa_nil))))))), ?_⟩
  have st : stepN 14 [] (stOf true b) = said (if b.handed then (some b, Kp223.say (-17)) else if Kp223.complete b = false then (some b, Kp223.say (-33)) else (some { b with handed := true }, ⟨0, [(Kp223.due { b with handed := true } : Int)]⟩)) := by
    rw [step14]; rfl
  refine ⟨_, rfl, p, C.B, dx, _, _, rfl, h1, T.clB, T.nB _ (by decide +kernel), lk_at (i := 5) (by decide +kernel) rfl, _, rfl, ?_⟩
  refine ite2 (fun c1 => ⟨one_le, fun r hr0 => ?_⟩) (fun c1 => ?_)
  · refine k.same B W tab (Same.refl H) hr0 (ans := [-17]) ?_ rfl
    rw [st, if_pos c1]; rfl
  rw [if_neg c1] at st
  refine ⟨_, rfl, p, dx, _, rfl, h1, bl_no (by decide +kernel), p, L, true, b, rfl, B, W, fun H1 s1 => ⟨_, rfl, ?_⟩⟩
  refine ite2 (fun c2 => ⟨one_le, fun r hr0 => ?_⟩) (fun c2 => ?_)
  · refine k.same B W tab s1 hr0 (ans := [-33]) ?_ rfl
    have z : Kp223.complete b = false := by simpa using c2
    rw [st, if_pos z]; rfl
  have z : ¬ Kp223.complete b = false := by simpa using c2
  rw [if_neg z] at st
  have h11 := s1 _ _ h1
  have B0 := B.same s1
  refine ⟨_, rfl, p, C.B, dx, _, rfl, h11, T.clB, T.nB _ (by decide +kernel), (by show 7 < 1000; decide), ?_⟩
  have ew : putF "handed" (V.bl true) (billK.zip (biV true b L)) = billK.zip (biV true { b with handed := true } L) := by
    rw [put_at (i := 5) (by decide +kernel) rfl]
    rfl
  rw [ew]
  have B1 := B0.setOwn (dx := dx) (g' := true) (b' := { b with handed := true }) rfl rfl
  have W1 := wf_handed W
  refine ⟨_, rfl, p, dx, _, rfl, upd_same, bl_no (by decide +kernel), p, L, true, { b with handed := true }, rfl, B1, W1, fun H3 s3 => ⟨two_le, fun r hr0 => ?_⟩⟩
  exact (k.later s1).wrote B0 (tab.same s1) foot_p B1 W1 s3 hr0 (ans := [0, ((Kp223.due { b with handed := true } : Nat) : Int)]) (by rw [st]; rfl) rfl
/-! ### close -/
theorem sc_close : FnScope ["bill", "given"] ["bill", "given"] (defScope s_close) := ⟨rfl, rfl, rfl, by decide +kernel, rfl, by decide +kernel, by decide +kernel⟩
theorem ok_close {f fD : Addr} {fd fdD : FuncData} (F : Fun K "close" "close" s_close f fd) (T : Txt K mg C) (N : Cons mg) (MD : Has K C "due" "Bill.due" s_Bill_due ["self"] fD fdD)
    (GD : FnOk P w K mg base CX0 4 fD fdD ["self"] (spNum C fun b => (Kp223.due b : Nat))) : FnOk P w K mg base CX0 5 f fd ["bill", "given"] (spH C Pt 15) := by
  obtain ⟨t1, e1⟩ := N.already
  obtain ⟨t2, e2⟩ := N.notHanded
  refine F.ok sc_close (fun vs H Q E h => spH_len h) (fun cdv A outer s H vs Q E hr h => ?_)
  obtain ⟨p, gv, L, g, b, ns, rfl, B, W, hg, ng, hlen, hb0, tab, k⟩ := h
  obtain rfl : g = true := hb0.resolve_left (by decide)
  obtain rfl : ns = [] := match ns, hlen with | [], _ => rfl
  obtain ⟨dx, h1⟩ := B.ob
  refine ⟨_, pss_cons (ps_if (pt_val (pe_fld (pv 0) rfl)) (pss_one (ps_ret (pe_lst (pa_cons (pe_glob (v := .int (-17)) rfl e1 ⟨_, rfl⟩) pa_nil)))) pss_nil)
    (pss_cons (ps_if (pt_not (pt_val (pe_fld (pv 0) rfl))) (pss_one (ps_ret (pe_lst (pa_cons (pe_glob (v := .int (-13)) rfl e2 ⟨_, rfl⟩) pa_nil)))) pss_nil)
    (pss_cons (ps_fld (pv 0) pe_bl rfl)
    (pss_one (ps_ret (pe_lst (pa_cons pe_int (pa_cons (pe_meth0 (pv 0) T.clB MD.m GD hr MD.b .nil pass0) pa_nil))))))), ?_⟩
  have st : stepN 15 [] (stOf true b) = said (if b.closed then (some b, Kp223.say (-17)) else if b.handed = false then (some b, Kp223.say (-13)) else (some { b with closed := true }, ⟨0, [(Kp223.due { b with closed := true } : Int)]⟩)) := by
    rw [step15]; rfl
  refine ⟨_, rfl, p, C.B, dx, _, _, rfl, h1, T.clB, T.nB _ (by decide +kernel), lk_at (i := 6) (by decide +kernel) rfl, _, rfl, ?_⟩
  refine ite2 (fun c1 => ⟨one_le, fun r hr0 => ?_⟩) (fun c1 => ?_)
  · refine k.same B W tab (Same.refl H) hr0 (ans := [-17]) ?_ rfl
    rw [st, if_pos c1]; rfl
  rw [if_neg c1] at st
  refine ⟨_, rfl, p, C.B, dx, _, _, rfl, h1, T.clB, T.nB _ (by decide +kernel), lk_at (i := 5) (by decide +kernel) rfl, _, rfl, ?_⟩
  refine ite2 (fun c2 => ⟨one_le, fun r hr0 => ?_⟩) (fun c2 => ?_)
  · refine k.same B W tab (Same.refl H) hr0 (ans := [-13]) ?_ rfl
    have z : b.handed = false := by simpa using c2
    rw [st, if_pos z]; rfl
  have z : ¬ b.handed = false := by simpa using c2
  rw [if_neg z] at st
  refine ⟨_, rfl, p, C.B, dx, _, rfl, h1, T.clB, T.nB _ (by decide +kernel), (by show 7 < 1000; decide), ?_⟩
  have ew : putF "closed" (V.bl true) (billK.zip (biV true b L)) = billK.zip (biV true { b with closed := true } L) := by
    rw [put_at (i := 6) (by decide +kernel) rfl]
    rfl
  rw [ew]
  have B1 := B.setOwn (dx := dx) (g' := true) (b' := { b with closed := true }) rfl rfl
  have W1 := wf_closed W
  refine ⟨_, rfl, p, dx, _, rfl, upd_same, bl_no (by decide +kernel), p, L, true, { b with closed := true }, rfl, B1, W1, fun H3 s3 => ⟨two_le, fun r hr0 => ?_⟩⟩
  exact k.wrote B tab foot_p B1 W1 s3 hr0 (ans := [0, ((Kp223.due { b with closed := true } : Nat) : Int)]) (by rw [st]; rfl) rfl
end
end Mp

set_option Elab.async false
set_option linter.all false
set_option maxRecDepth 100000
set_option maxHeartbeats 4000000
namespace Mp
open PySem PySem.Spec PyProof.Rows L2
section
variable {P : Program} {w : World} {K : PySem.W.Frag} {mg : Str → Option Value} {base : Heap} {C : Cl} {Pt : Addr}
theorem four_le : ([V.int 0, V.int 0, V.int 0, V.int 0] : List V).length ≤ sizeLine := by show 4 ≤ sizeLine; decide
theorem five_le : ([V.int 0, V.int 0, V.int 0, V.int 0, V.int 0] : List V).length ≤ sizeLine := by show 5 ≤ sizeLine; decide
/-! ### sums -/
theorem sc_sums : FnScope ["bill", "given"] ["bill", "given"] (defScope s_sums) := ⟨rfl, rfl, rfl, by decide +kernel, rfl, by decide +kernel, by decide +kernel⟩
theorem ok_sums {f fC fP : Addr} {fd fdC fdP : FuncData} (F : Fun K "sums" "sums" s_sums f fd) (T : Txt K mg C) (MC : Has K C "certified" "Bill.certified" s_Bill_certified ["self"] fC fdC) (MP : Has K C "all_paid" "Bill.all_paid" s_Bill_all_paid ["self"] fP fdP) :
    FnOk P w K mg base CX0 2 f fd ["bill", "given"] (spH C Pt 16) := by
  have GC : FnOk P w K mg base CX0 1 fC fdC ["self"] (spNum C fun b => (Kp223.certified b : Nat)) := ok_certified MC.F T
  have GP : FnOk P w K mg base CX0 1 fP fdP ["self"] (spNum C fun b => (Kp223.paid b : Nat)) := ok_allpaid MP.F T
  refine F.ok sc_sums (fun vs H Q E h => spH_len h) (fun cdv A outer s H vs Q E hr h => ?_)
  obtain ⟨p, gv, L, g, b, ns, rfl, B, W, hg, ng, hlen, hb0, tab, k⟩ := h
  obtain rfl : g = true := hb0.resolve_left (by decide)
  obtain rfl : ns = [] := match ns, hlen with | [], _ => rfl
  obtain ⟨dx, h1⟩ := B.ob
  refine ⟨_, pss_one (ps_ret (pe_lst (pa_cons pe_int (pa_cons (pe_meth0 (pv 0) T.clB MC.m GC hr MC.b .nil pass0) (pa_cons (pe_meth0 (pv 0) T.clB MP.m GP hr MP.b .nil pass0) pa_nil))))), ?_⟩
  refine ⟨_, rfl, p, dx, _, rfl, h1, bl_no (by decide +kernel), p, L, true, b, rfl, B, W, fun H1 s1 => ?_⟩
  refine ⟨_, rfl, p, dx, _, rfl, s1 _ _ h1, bl_no (by decide +kernel), p, L, true, b, rfl, B.same s1, W, fun H2 s2 => ⟨three_le, fun r hr0 => ?_⟩⟩
  exact k.same B W tab (s1.trans s2) hr0 (ans := [0, ((Kp223.certified b : Nat) : Int), ((Kp223.paid b : Nat) : Int)]) (by rw [step16]; rfl) rfl
/-! ### look -/
theorem sc_look : FnScope ["bill", "given", "i", "entry"] ["bill", "given"] (defScope s_look) := ⟨rfl, rfl, rfl, by decide +kernel, rfl, by decide +kernel, by decide +kernel⟩
theorem ok_look {f fH : Addr} {fd fdH : FuncData} (F : Fun K "look" "look" s_look f fd) (T : Txt K mg C) (N : Cons mg) (MH : Has K C "has_item" "Bill.has_item" s_Bill_has_item ["self", "i"] fH fdH) : FnOk P w K mg base CX0 2 f fd ["bill", "given"] (spH C Pt 17) := by
  have GH : FnOk P w K mg base CX0 1 fH fdH ["self", "i"] (spHas C) := ok_has MH.F T
  obtain ⟨t1, e1⟩ := N.noSuch
  refine F.ok sc_look (fun vs H Q E h => spH_len h) (fun cdv A outer s H vs Q E hr h => ?_)
  obtain ⟨p, gv, L, g, b, ns, rfl, B, W, hg, ng, hlen, hb0, tab, k⟩ := h
  obtain rfl : g = true := hb0.resolve_left (by decide)
  obtain ⟨i, rfl⟩ : ∃ i, ns = [i] := match ns, hlen with | [i], _ => ⟨i, rfl⟩
  obtain ⟨dx, h1⟩ := B.ob
  refine ⟨_, pss_cons (ps_set (i := 2) sc_look.nd rfl (Or.inl rfl) (pe_ix ix_list (pv 1) pe_int (fun _ _ => rfl)))
    (pss_cons (ps_if (pt_not (pt_val (pe_meth (pv 0) T.clB MH.m GH hr MH.b .nil pass0 (pa_cons (pv 2) pa_nil)))) (pss_one (ps_ret (pe_lst (pa_cons (pe_glob (v := .int (-2)) rfl e1 ⟨_, rfl⟩) pa_nil)))) pss_nil)
    (pss_cons (ps_set (i := 3) sc_look.nd rfl (Or.inl rfl) (pe_ix ix_list (pe_fld (pv 0) rfl) (pv 2) (fun _ _ => rfl)))
    (pss_one (ps_ret (pe_lst (pa_cons pe_int (pa_cons (pe_fld (pv 3) rfl) (pa_cons (pe_fld (pv 3) rfl) (pa_cons (pe_fld (pv 3) rfl) (pa_cons (pe_fld (pv 3) rfl) pa_nil)))))))))), ?_⟩
  have st : stepN 17 [i] (stOf true b) = said (some b, if b.items.length ≤ i then Kp223.say (-2) else ⟨0, Kp223.ints [(Kp223.itemAt b i).ordered, (Kp223.itemAt b i).rate, (Kp223.itemAt b i).done, (Kp223.itemAt b i).trade]⟩) := by
    rw [step17]; rfl
  refine ⟨_, rfl, gv, _, _, _, rfl, rfl, SqL.of hg, at_of (j := 0) rfl rfl, ?_⟩
  refine ⟨_, rfl, p, dx, _, rfl, h1, bl_no (by decide +kernel), _, rfl, p, L, true, b, i, rfl, B, _, rfl, ?_⟩
  refine ite2 (fun c => ⟨one_le, fun r hr0 => ?_⟩) (fun c => ?_)
  · refine k.same B W tab (Same.refl H) hr0 (ans := [-2]) ?_ rfl
    have z : ¬ i < b.items.length := by simpa using c
    rw [st, if_pos (by omega)]; rfl
  have hi : i < b.items.length := by simpa using c
  rw [if_neg (by omega)] at st
  obtain ⟨a, ha⟩ : ∃ a, L.is[i]? = some a := ⟨_, List.getElem?_eq_getElem (by rw [B.ni]; exact hi)⟩
  obtain ⟨x, hx⟩ : ∃ x, b.items[i]? = some x := ⟨_, List.getElem?_eq_getElem hi⟩
  obtain ⟨da, hda⟩ := B.it i a x ha hx
  rw [itemAt_eq hx] at st
  refine ⟨_, rfl, p, C.B, dx, _, _, rfl, h1, T.clB, T.nB _ (by decide +kernel), lk_at (i := 3) (by decide +kernel) rfl, _, rfl, L.le, _, _, _, rfl, rfl, SqL.of B.le, atI_nat (v := V.ref a) (by rw [List.getElem?_map, ha]; rfl), ?_⟩
  refine ⟨_, rfl, a, C.I, da, _, _, rfl, hda, T.clI, T.nI _ (by decide +kernel), lk_at (i := 0) (by decide +kernel) rfl, _, rfl, a, C.I, da, _, _, rfl, hda, T.clI, T.nI _ (by decide +kernel), lk_at (i := 1) (by decide +kernel) rfl,
    _, rfl, a, C.I, da, _, _, rfl, hda, T.clI, T.nI _ (by decide +kernel), lk_at (i := 3) (by decide +kernel) rfl, _, rfl, a, C.I, da, _, _, rfl, hda, T.clI, T.nI _ (by decide +kernel), lk_at (i := 2) (by decide +kernel) rfl, five_le, fun r hr0 => ?_⟩
  exact k.same B W tab (Same.refl H) hr0 (ans := [0, ((x.ordered : Nat) : Int), ((x.rate : Nat) : Int), ((x.done : Nat) : Int), ((x.trade : Nat) : Int)]) (by rw [st]; rfl) rfl
/-! ### state -/
theorem sc_state : FnScope ["bill", "given", "handed", "closed"] ["bill", "given"] (defScope s_state) := ⟨rfl, rfl, rfl, by decide +kernel, rfl, by decide +kernel, by decide +kernel⟩
theorem ok_state {f : Addr} {fd : FuncData} (F : Fun K "state" "state" s_state f fd) (T : Txt K mg C) : FnOk P w K mg base CX0 1 f fd ["bill", "given"] (spH C Pt 18) := by
  refine F.ok sc_state (fun vs H Q E h => spH_len h) (fun cdv A outer s H vs Q E hr h => ?_)
  obtain ⟨p, gv, L, g, b, ns, rfl, B, W, hg, ng, hlen, hb0, tab, k⟩ := h
  obtain rfl : g = true := hb0.resolve_left (by decide)
  obtain rfl : ns = [] := match ns, hlen with | [], _ => rfl
  obtain ⟨dx, h1⟩ := B.ob
  refine ⟨_, pss_cons (ps_set (i := 2) sc_state.nd rfl (Or.inl rfl) (pe_ifExp (pt_val (pe_fld (pv 0) rfl)) pe_int pe_int)) (pss_cons (ps_set (i := 3) sc_state.nd rfl (Or.inl rfl) (pe_ifExp (pt_val (pe_fld (pv 0) rfl)) pe_int pe_int))
    (pss_one (ps_ret (pe_lst (pa_cons (pe_callB call_len_seq rfl T.bLen PySem.boot_len (pa_cons (pe_fld (pv 0) rfl) pa_nil)) (pa_cons (pe_callB call_len_seq rfl T.bLen PySem.boot_len (pa_cons (pe_fld (pv 0) rfl) pa_nil)) (pa_cons (pv 2) (pa_cons (pv 3) pa_nil)))))))), ?_⟩
  have st : stepN 18 [] (stOf true b) = (stOf true b, [((b.items.length : Nat) : Int), ((b.certs.length : Nat) : Int), (((if b.handed then 1 else 0 : Nat)) : Int), (((if b.closed then 1 else 0 : Nat)) : Int)]) := by
    rw [step18]; rfl
  have e1 : (L.is.map V.ref).length = b.items.length := by rw [List.length_map]; exact B.ni
  have e2 : (L.cs.map V.ref).length = b.certs.length := by rw [List.length_map]; exact B.nc
  have fin : ∀ (x y : Int), x = (((if b.handed then 1 else 0 : Nat)) : Int) → y = (((if b.closed then 1 else 0 : Nat)) : Int) → ∀ r : Addr, H r = none → Q (.ref r) (upd H r (.lst [V.int (((L.is.map V.ref).length : Nat) : Int), V.int (((L.cs.map V.ref).length : Nat) : Int), V.int x, V.int y])) := fun x y hx hy r hr0 => by
    refine k.same B W tab (Same.refl H) hr0 st ?_
    rw [e1, e2, hx, hy]
    rfl
  refine ⟨_, rfl, p, C.B, dx, _, _, rfl, h1, T.clB, T.nB _ (by decide +kernel), lk_at (i := 5) (by decide +kernel) rfl, _, rfl, ?_⟩
  refine ite2 (fun c1 => ?_) (fun c1 => ?_)
  all_goals
    refine ⟨_, rfl, p, C.B, dx, _, _, rfl, h1, T.clB, T.nB _ (by decide +kernel), lk_at (i := 6) (by decide +kernel) rfl, _, rfl, ?_⟩
    refine ite2 (fun c2 => ?_) (fun c2 => ?_)
  all_goals
    refine ⟨_, rfl, p, C.B, dx, _, _, rfl, h1, T.clB, T.nB _ (by decide +kernel), lk_at (i := 3) (by decide +kernel) rfl, L.le, _, rfl, .inl (SqL.of B.le),
      _, rfl, p, C.B, dx, _, _, rfl, h1, T.clB, T.nB _ (by decide +kernel), lk_at (i := 4) (by decide +kernel) rfl, L.lc, _, rfl, .inl (SqL.of B.lc), _, rfl, _, rfl, four_le, fin _ _ ?_ ?_⟩
  · rw [if_pos c1]; rfl
  · rw [if_pos c2]; rfl
  · rw [if_pos c1]; rfl
  · rw [if_neg c2]; rfl
  · rw [if_neg c1]; rfl
  · rw [if_pos c2]; rfl
  · rw [if_neg c1]; rfl
  · rw [if_neg c2]; rfl
end
end Mp

set_option Elab.async false
set_option linter.all false
set_option maxRecDepth 100000
set_option maxHeartbeats 4000000
namespace Mp
open PySem PySem.Spec PyProof.Rows L2
section
variable {P : Program} {w : World} {K : PySem.W.Frag} {mg : Str → Option Value} {base : Heap} {C : Cl} {Pt : Addr}
/-- the table of the calls: row n holds what answers call n, and how many whole numbers it has -/
structure CallsOk (P : Program) (w : World) (K : PySem.W.Frag) (mg : Str → Option Value) (base : Heap) (C : Cl) (Pt aC : Addr) (NC : Nat) : Prop where
  at_ : mg "CALLS" = some (.ref aC)
  rows : ∃ as : List Addr, as.length = NC ∧ (∀ H, SqT K H aC (as.map V.ref)) ∧ ∀ (n : Nat) (a : Addr), as[n]? = some a → ∃ (f : Addr) (fd : FuncData), (∀ H, SqT K H a [.ref f, natV (arity n)]) ∧ FnOk P w K mg base CX0 6 f fd ["bill", "given"] (spH C Pt n) ∧
    PySem.W.keepIn K (.ref f) = true ∧ Binds K fd ["bill", "given"] []
def spAnswer (C : Cl) (Pt : Addr) (NC : Nat) : Sp := fun vs H Q _ => ∃ (p gv : Addr) (n : Nat) (L : Lay) (g : Bool) (b : Kp223.Bill) (ns : List Nat), vs = [.ref p, natV n, .ref gv] ∧ n < NC ∧ n < 19 ∧ BillAt C H p L g b ∧ Wf b ∧ H gv = some (.lst (ns.map natV)) ∧ gv ∉ foot p L ∧ ns.length = arity n ∧ TabS Pt H ∧ HPost C Pt n ns p L g b H Q
theorem sc_answer : FnScope ["bill", "number", "given"] ["bill", "number", "given"] (defScope s_answer) := ⟨rfl, rfl, rfl, by decide +kernel, rfl, by decide +kernel, by decide +kernel⟩
theorem ok_answer {f aC : Addr} {fd : FuncData} {NC : Nat} (F : Fun K "answer" "answer" s_answer f fd) (T : Txt K mg C) (N : Cons mg) (D : CallsOk P w K mg base C Pt aC NC) : FnOk P w K mg base CX0 7 f fd ["bill", "number", "given"] (spAnswer C Pt NC) := by
  obtain ⟨t1, e1⟩ := N.begin_
  obtain ⟨t2, e2⟩ := N.notBegun
  obtain ⟨as, hl, hT, hrow⟩ := D.rows
  refine F.ok sc_answer (fun vs H Q E h => ?_) (fun cdv A outer s H vs Q E hr h => ?_)
  · obtain ⟨p, gv, n, L, g, b, ns, rfl, _⟩ := h
    rfl
  obtain ⟨p, gv, n, L, g, b, ns, rfl, hn, h19, B, W, hg, ng, hlen, tab, k⟩ := h
  obtain ⟨dx, h1⟩ := B.ob
  refine ⟨_, pss_cons (ps_if (PW.pt (pw_and (pt_cmpR op_ne (pv 1) (pe_glob (v := .int 0) rfl e1 ⟨_, rfl⟩) (nomark _)) (pw_and1 (pt_not (pt_val (pe_fld (pv 0) rfl)))))) (pss_one (ps_ret (pe_lst (pa_cons (pe_glob (v := .int (-11)) rfl e2 ⟨_, rfl⟩) pa_nil)))) pss_nil)
    (pss_one (ps_ret (pe_callV (pe_ix ix_tup (pe_ix ix_tup (pe_glob (v := .ref aC) rfl D.at_ rfl) (pv 1) (fun _ _ => rfl)) pe_int (fun _ _ => rfl)) (pa_cons (pv 0) (pa_cons (pv 2) pa_nil))))), ?_⟩
  obtain ⟨a, ha⟩ : ∃ a, as[n]? = some a := ⟨_, List.getElem?_eq_getElem (by omega)⟩
  obtain ⟨fn, fdn, hrw, G, kp, bn⟩ := hrow n a ha
  have fin : (n = 0 ∨ g = true) → spH C Pt n [.ref p, .ref gv] H Q E0 := fun hh => ⟨p, gv, L, g, b, ns, rfl, B, W, hg, ng, hlen, hh, tab, k⟩
  refine ⟨_, rfl, rfl, _, rfl, ?_⟩
  refine ite2 (fun c1 => ?_) (fun c1 => ?_)
  · refine ⟨_, rfl, p, C.B, dx, _, _, rfl, h1, T.clB, T.nB _ (by decide +kernel), lk_at (i := 0) (by decide +kernel) rfl, _, rfl, ?_⟩
    refine ite2 (fun c2 => ⟨one_le, fun r hr0 => ?_⟩) (fun c2 => ?_)
    · obtain rfl : g = false := by simpa using c2
      have n0 : n ≠ 0 := fun z => by
        subst z
        simp at c1
      exact k.same B W tab (Same.refl H) hr0 (ans := [-11]) (step_none n0 h19 hlen) rfl
    · have hg1 : g = true := by simpa using c2
      exact ⟨_, rfl, aC, _, _, _, rfl, rfl, hT H, atI_nat (v := V.ref a) (by rw [List.getElem?_map, ha]; rfl), a, _, _, _, rfl, rfl, hrw H, at_of (j := 0) rfl rfl, fn, fdn, _, _, 6, rfl, G, hr, kp, bn, _, rfl, _, rfl, fin (.inr hg1)⟩
  · have n0 : n = 0 := by
      have z : V.int ((n : Nat) : Int) = V.int 0 := by simpa using c1
      injection z with z
      omega
    refine iteF ?_
    exact ⟨_, rfl, aC, _, _, _, rfl, rfl, hT H, atI_nat (v := V.ref a) (by rw [List.getElem?_map, ha]; rfl), a, _, _, _, rfl, rfl, hrw H, at_of (j := 0) rfl rfl, fn, fdn, _, _, 6, rfl, G, hr, kp, bn, _, rfl, _, rfl, fin (.inl n0)⟩
end
end Mp

set_option Elab.async false
set_option linter.all false
set_option maxRecDepth 100000
set_option maxHeartbeats 4000000
namespace Mp
open PySem PySem.Spec PyProof.Rows L2
theorem SqL_keep {K : PySem.W.Frag} {H H' : Hp} {a : Addr} {xs : List V} (h : SqL K H a xs) (k : ∀ o, H a = some o → H' a = some o) : SqL K H' a xs := by
  rcases h with (h | ⟨o, h⟩) | h
  · exact .inl (.inl (k _ h))
  · exact .inl (.inr ⟨o, k _ h⟩)
  · exact .inr h
theorem cut_mid (l : List Int) (k n : Nat) (h : k + n ≤ l.length) : cutV (l.map V.int) (some ((k : Nat) : Int)) (some (((k + n : Nat)) : Int)) = ((l.drop k).take n).map V.int := by
  unfold cutV
  rw [HT.sIx_nat, HT.sIx_nat, List.length_map, Nat.min_eq_left h, Nat.min_eq_left (show k ≤ l.length by omega), show k + n - k = n by omega, ← List.map_drop, ← List.map_take]
/-- how far it still is -/
def restAt (n : Nat) (σ : L2.St) : Nat := match σ[3]? with
  | some (some (V.int i)) => n - i.toNat
  | _ => 0
section
variable {P : Program} {w : World} {K : PySem.W.Frag} {mg : Str → Option Value} {base : Heap} {C : Cl} {Pt : Addr}
/-- every call of the line is one of the first NC -/
def Below (NC : Nat) (ns : List Int) : Prop := ∀ (k : Nat) (st : Kp223.State) (told : List Int) (j : Nat), From ns k st told → ns[k]? = some (j : Int) → j < NC
def spAnswers (K : PySem.W.Frag) (Pt : Addr) (NC : Nat) : Sp := fun vs H Q _ => ∃ (a : Addr) (ns : List Int), vs = [.ref a] ∧ SqL K H a (ns.map V.int) ∧ a ≠ Pt ∧ ns.length ≤ 600 ∧ (∀ x ∈ ns, 0 ≤ x) ∧ PyKp223.answers_asked ns = true ∧ Below NC ns ∧ TabS Pt H ∧
  ∀ (H' : Hp) (q : Addr), H' q = some (.lst ((PyKp223.answers ns).map V.int)) → Q (.ref q) H'
theorem sc_answers : FnScope ["calls", "bill", "told", "at", "number", "behind", "numbers"] ["calls"] (defScope s_answers) := ⟨rfl, rfl, rfl, by decide +kernel, rfl, by decide +kernel, by decide +kernel⟩
theorem ok_answers {f fA fB aC : Addr} {fd fdA fdB : FuncData} {NC : Nat} (F : Fun K "answers" "answers" s_answers f fd) (T : Txt K mg C) (D : CallsOk P w K mg base C Pt aC NC) (DA : Def K mg "answer" ["bill", "number", "given"] fA fdA) (GA : FnOk P w K mg base CX0 7 fA fdA ["bill", "number", "given"] (spAnswer C Pt NC))
    (M : Mk K C.B fB) (bB : Binds K fdB ["self"] []) (GB : FnOk P w K mg base CX0 2 fB fdB ["self"] (spBill C)) : FnOk P w K mg base CX0 8 f fd ["calls"] (spAnswers K Pt NC) := by
  obtain ⟨as, hl, hT, hrow⟩ := D.rows
  refine F.ok sc_answers (fun vs H Q E h => ?_) (fun cdv A outer s H vs Q E hr h => ?_)
  · obtain ⟨a, ns, rfl, _⟩ := h
    rfl
  obtain ⟨a, ns, rfl, hS, naP, h600, hpos, hask, hbel, tab, q⟩ := h
  have hr3 : Room 3 _ := hr.mono (by decide)
  refine ⟨_, pss_cons (ps_set (i := 1) sc_answers.nd rfl (Or.inl rfl) (pe_make0 M GB hr3 rfl T.mgB bB .nil pass0)) (pss_cons (ps_set (i := 2) sc_answers.nd rfl (Or.inl rfl) (pe_lst pa_nil)) (pss_cons (ps_set (i := 3) sc_answers.nd rfl (Or.inl rfl) pe_int)
    (pss_cons (ps_while PassesOwn.never (pt_cmpR op_lt (pv 3) (pe_callB call_len_seq rfl T.bLen PySem.boot_len (pa_cons (pv 0) pa_nil)) (nomark _))
      (pss_cons (ps_set (i := 4) sc_answers.nd rfl (Or.inl rfl) (pe_ix ix_list (pv 0) (pv 3) (fun _ _ => rfl)))
      (pss_cons (ps_set (i := 5) sc_answers.nd rfl (Or.inl rfl) (pe_op op_add (pe_op op_add (pv 3) pe_int) (pe_ix ix_tup (pe_ix ix_tup (pe_glob (v := .ref aC) rfl D.at_ rfl) (pv 4) (fun _ _ => rfl)) pe_int (fun _ _ => rfl))))
      (pss_cons (ps_set (i := 6) sc_answers.nd rfl (Or.inl rfl) (pe_call GA hr rfl DA.mg DA.kp DA.b .nil pass0 (pa_cons (pv 1) (pa_cons (pv 4) (pa_cons (pe_slice sl_list (pv 0) (po_some (pe_op op_add (pv 3) pe_int)) (po_some (pv 5))) pa_nil)))))
      (pss_cons (ps_expr (pe_bm PySem.F.plainAttrs_list PySem.F.slot_list_append PySem.F.type_list_append mt_append (pv 2) (pa_cons (pe_callB call_len_seq rfl T.bLen PySem.boot_len (pa_cons (pv 6) pa_nil)) pa_nil)))
      (pss_cons (ps_expr (pe_bm PySem.F.plainAttrs_list PySem.F.slot_list_extend PySem.F.type_list_extend mt_extend (pv 2) (pa_cons (pv 6) pa_nil)))
      (pss_one (ps_set (i := 3) sc_answers.nd rfl (Or.inl rfl) (pv 5)))))))))
    (pss_one (ps_ret (pv 2)))))), ?_⟩
  -- bill = Bill(); told = []; at = 0
  intro p dx np ndx nex
  refine ⟨p, dx, rfl, upd_same, fun H1 L0 B0 f0 k0 => ⟨rfl, ?_⟩⟩
  have s1 : Same H H1 := Same.made np ndx k0
  refine ⟨Nat.zero_le _, fun t nt => ?_⟩
  have s2 : Same H1 (upd H1 t (.lst [])) := fun c o e => by rw [upd_ne (ne_of_none e nt)]; exact e
  have fr0 : ∀ c ∈ foot p L0, H c = none := fun c hc => by
    rcases f0 c hc with rfl | z
    · exact np
    · cases e : H c with
      | none => rfl
      | some o =>
        have n1 : c ≠ p := ne_of_none e np
        have n2 : c ≠ dx := ne_of_none e ndx
        rw [upd_ne n1, upd_ne n2, e] at z
        cases z
  refine while_by (fun σ H' => ∃ (k : Nat) (told : List Int) (L : Lay) (g : Bool) (b : Kp223.Bill) (v4 v5 v6 : Option V), σ = [some (.ref a), some (.ref p), some (.ref t), some (natV k), v4, v5, v6] ∧ k ≤ ns.length ∧ told.length ≤ 6 * k ∧ From ns k (stOf g b) told ∧ BillAt C H' p L g b ∧ Wf b ∧
      H' t = some (.lst (told.map V.int)) ∧ t ∉ foot p L ∧ (∀ o, H a = some o → H' a = some o ∧ a ∉ foot p L ∧ a ≠ t) ∧ TabS Pt H')
    (fun σ _ => restAt ns.length σ)
    ⟨0, [], L0, false, bill0, none, none, none, rfl, Nat.zero_le _, Nat.zero_le _, from_start hask, B0.same s2, wf_begin (by decide) (by decide), upd_same, ?_, ?_, (tab.same s1).same s2⟩ ?_ ?_
  · intro z
    obtain ⟨o, e⟩ := B0.there z
    rw [nt] at e
    cases e
  · intro o e
    refine ⟨s2 _ _ (s1 _ _ e), fun z => ?_, ne_of_none (s1 _ _ e) nt⟩
    rw [fr0 a z] at e
    cases e
  · rintro σ H' ⟨k, told, L, g, b, v4, v5, v6, rfl, hk, htl, fr, B, W, ht, ntf, hka, tb⟩
    have hSa : SqL K H' a (ns.map V.int) := SqL_keep hS fun o e => (hka o e).1
    refine ⟨_, rfl, _, rfl, a, _, rfl, .inl hSa, _, _, rfl, rfl, _, rfl, ?_⟩
    refine ite2 (fun c1 => ?_) (fun c1 => ?_)
    · have hlt : k < ns.length := by
        have z := of_decide_eq_true c1
        rw [List.length_map] at z
        omega
      obtain ⟨j, ms, ej, hj19, hfit, hml, hms, fr2⟩ := from_step fr hpos hlt
      have hjN : j < NC := hbel k _ _ j fr ej
      obtain ⟨ra, hra⟩ : ∃ ra, as[j]? = some ra := ⟨_, List.getElem?_eq_getElem (by omega)⟩
      obtain ⟨fn, fdn, hrw, _⟩ := hrow j ra hra
      have wa := ans_len (g := g) W (p := j) (ns := ms) hj19 hml
      refine ⟨_, rfl, _, rfl, a, _, _, _, rfl, rfl, hSa, atI_nat (v := natV j) (by rw [List.getElem?_map, ej]; rfl), ?_⟩
      refine ⟨_, rfl, _, _, rfl, rfl, _, rfl, aC, _, _, _, rfl, rfl, hT H', atI_nat (v := V.ref ra) (by rw [List.getElem?_map, hra]; rfl), ra, _, _, _, rfl, rfl, hrw H', at_of (j := 1) rfl rfl, _, _, rfl, rfl, ?_⟩
      refine ⟨_, rfl, _, rfl, _, rfl, _, rfl, _, _, rfl, rfl, _, rfl, _, rfl, _, rfl, a, _, rfl, hSa, fun gv ngv => ?_⟩
      have ecut : cutV (ns.map V.int) (some (((k : Nat) : Int) + 1)) (some (((k : Nat) : Int) + 1 + ((arity j : Nat) : Int))) = ms.map natV := by
        rw [show ((k : Nat) : Int) + 1 = (((k + 1 : Nat)) : Int) by omega, show (((k + 1 : Nat)) : Int) + ((arity j : Nat) : Int) = (((k + 1 + arity j : Nat)) : Int) by omega, cut_mid ns (k + 1) (arity j) hfit, hms, List.map_map]
        rfl
      rw [ecut]
      have s3 : Same H' (upd H' gv (.lst (ms.map natV))) := fun c o e => by rw [upd_ne (ne_of_none e ngv)]; exact e
      refine ⟨p, gv, j, L, g, b, ms, rfl, hjN, hj19, B.same s3, W, upd_same, ?_, hml, tb.same s3, fun H4 r L' g' b' ans B4 W4 st4 fb nr hr4 tb4 => ?_⟩
      · intro z
        obtain ⟨o, e⟩ := B.there z
        rw [ngv] at e
        cases e
      have tP : t ≠ Pt := by
        obtain ⟨ps, hP⟩ := tb.at
        exact ne_of ht hP (by intro z; cases z)
      have ht4 : H4 t = some (.lst (told.map V.int)) := fb.keep t _ (s3 _ _ ht) tP ntf
      have ntf4 : t ∉ foot p L' := fun z => by
        rcases fb.new t z with z | z
        · exact ntf z
        · rw [s3 _ _ ht] at z; cases z
      have nrt : r ≠ t := fun z => by rw [z, s3 _ _ ht] at nr; cases nr
      rw [st4] at fr2 wa
      dsimp only at fr2 wa
      -- told.append(len(numbers))
      refine ⟨_, rfl, .inl ⟨rfl, _, SqL.of ht4⟩, _, rfl, r, _, rfl, .inl (SqL.of hr4), t, _, _, rfl, rfl, ht4, ?_, ?_⟩
      · rw [List.length_map]; exact Nat.lt_of_le_of_lt htl (Nat.lt_of_le_of_lt (Nat.mul_le_mul_left 6 (Nat.le_trans hk h600)) (by decide))
      -- told.extend(numbers)
      refine ⟨_, rfl, .inl ⟨rfl, _, SqL.of upd_same⟩, _, rfl, t, r, _, _, rfl, rfl, upd_same, (by rw [upd_ne nrt]; exact hr4), ?_, ?_⟩
      · rw [List.length_append, List.length_map, List.length_map, List.length_singleton]
        have : 6 * k ≤ 3600 := Nat.mul_le_mul_left 6 (Nat.le_trans hk h600)
        rw [sizeLine_eq]
        omega
      -- at = behind
      refine ⟨_, rfl, ?_⟩
      have e5 : ((k : Nat) : Int) + 1 + ((arity j : Nat) : Int) = (((k + 1 + arity j : Nat)) : Int) := by omega
      have kk : ∀ c o, c ≠ t → H4 c = some o → upd (upd H4 t (.lst (told.map V.int ++ [V.int (((ans.map V.int).length : Nat) : Int)]))) t (.lst (told.map V.int ++ [V.int (((ans.map V.int).length : Nat) : Int)] ++ ans.map V.int)) c = some o := fun c o n e => by rw [upd_ne n, upd_ne n]; exact e
      refine ⟨⟨k + 1 + arity j, told ++ ((ans.length : Int) :: ans), L', g', b', some (natV j), some (V.int (((k : Nat) : Int) + 1 + ((arity j : Nat) : Int))), some (V.ref r), ?_, hfit, ?_, fr2, B4.mono (fun c hc o e => kk c o (fun z => ntf4 (z ▸ hc)) e), W4, ?_, ntf4, fun o e => ?_, ?_⟩, ?_⟩
      · show [some (V.ref a), some (V.ref p), some (V.ref t), some (V.int (((k : Nat) : Int) + 1 + ((arity j : Nat) : Int))), some (natV j), some (V.int (((k : Nat) : Int) + 1 + ((arity j : Nat) : Int))), some (V.ref r)] = _
        rw [e5]
      · rw [List.length_append, List.length_cons]
        omega
      · rw [upd_same, List.length_map, List.map_append, List.map_cons, List.append_assoc]; rfl
      · obtain ⟨e1, e2, e3⟩ := hka o e
        refine ⟨kk a o e3 (fb.keep a o (s3 _ _ e1) naP e2), fun z => ?_, e3⟩
        rcases fb.new a z with z | z
        · exact e2 z
        · rw [s3 _ _ e1] at z; cases z
      · refine tb4.mono fun c o e hc => kk c o ?_ e
        rcases hc with rfl | ⟨q2, c2, rfl⟩
        · exact tP.symm
        · exact ne_of e ht4 (by intro z; cases z)
      · show ns.length - (((k : Nat) : Int) + 1 + ((arity j : Nat) : Int)).toNat < ns.length - ((k : Nat) : Int).toNat
        rw [e5, Int.toNat_natCast, Int.toNat_natCast]
        omega
    · have hge : ns.length ≤ k := by
        have z : ¬ (((k : Nat) : Int) < (((ns.map V.int).length : Nat) : Int)) := fun z => c1 (decide_eq_true z)
        rw [List.length_map] at z
        omega
      have e := from_end fr hge
      subst e
      exact ⟨_, rfl, q H' t ht⟩
  · intro σ H' Q1 Q2 hQ h
    obtain ⟨v, e1, v2, e2, pp, ys, e3, e4, i, j, e5, e6, kk, e7, hq⟩ := h
    exact ⟨v, e1, v2, e2, pp, ys, e3, e4, i, j, e5, e6, kk, e7, hQ _ _ hq⟩
end
end Mp

set_option Elab.async false
set_option linter.all false
set_option maxRecDepth 100000
set_option maxHeartbeats 4000000
namespace Mp
open PySem PySem.Spec PyProof.Rows L2
open PySem.W (WData Codec OpenSpec Well WellAll ReadsW ReadsAllW)
/-- the call of the row's def where one code table may grow (the table of shares) -/
theorem spec_callT {P : Program} {w : World} {K : PySem.W.Frag} {mg mb : Str → Option Value} {k : Nat} {fa : Addr} {fd : FuncData} {x : Str} {sp : Sp} {s₁ : Shared} {vals : List Value} {ns : List Int} {R : PySem.W.WRecords} {cl : Str → Option Addr} {d0 : WData} {cd Pt : Addr}
    (KX : K.In s₁.heap) (hns : s₁.heap.Ns mainGlobals mg) (hb : s₁.heap.Ns builtinsNs mb) (hbb : ∀ x : Str, x ≠ "__name__" → mb x = bootBuiltins x) (hlim : s₁.heap.NoLimit) (hg : s₁.gens = #[])
    (hwl : WellAll w.params s₁.heap vals [.list (ns.map WData.int)]) (hwt : ∀ d ∈ ([.list (ns.map WData.int)] : List WData), d.weight ≤ 1048576) (hr : Room k callerA)
    (hKP : K.lookup Pt = none) (hcd : PySem.W.CodeHd s₁.heap cd Pt) (hP : s₁.heap.get? Pt = some (PySem.W.tabObj #[])) (hbt : s₁.heap.BuiltinsAt mg Pt) (hPG : mainGlobals ≠ Pt) (hPs : Pt ≠ cStatics)
    (F : ∀ base : Heap, K.In base → base.Ns mainGlobals mg → LamOk mg base cd Pt → FnOk P w K mg base CX0 k fa fd [x] sp) (hbind : ∀ (s : Shared) (us : List Value), us.length = ([x] : List Str).length → BindsTo s fd ⟨us, []⟩ (([x] : List Str).zip us))
    (hsp : ∀ (H : Hp) (a : Addr), SqL K H a (ns.map V.int) → a ≠ Pt → H Pt = some (.tbl #[]) → sp [.ref a] H (fun v H' => Dw K H' v d0) fun _ _ _ => False) :
    codeAny (model P w) callerA (.call (.ref fa) ⟨vals, []⟩) (fun r s' => ∃ u as, r = .ok (.ret u) ∧ ReadsW R cl s'.heap u d0 as ∧ OldK s₁.heap s'.heap ∧ s'.os = s₁.os ∧ AllBare s'.gens) s₁ := by
  have hpl : plWs ([.list (ns.map WData.int)] : List WData) = true := by
    have e : ∀ l : List Int, plWs (l.map WData.int) = true := fun l => by
      induction l with
      | nil => rfl
      | cons y l ih => exact Bool.and_eq_true_iff.mpr ⟨rfl, ih⟩
    exact Bool.and_eq_true_iff.mpr ⟨e ns, rfl⟩
  obtain ⟨A, ho, ar⟩ := area_all _ vals hwl hpl hwt
  have hO : OnlyF (argH K s₁.heap A) := argH_only ar
  have hok0 : HOk P w (argH K s₁.heap A) s₁.heap := argH_ok ar
  have hS0 := dw_all KX ar _ vals hwl hpl ho
  have hV := vals_toV ho
  have hK0 : ∀ b u, argH K s₁.heap A b = some u → K.lookup b = none := fun b u q => (argH_is ar q).1
  have noA0 : ∀ {b : Addr} {o : Obj}, s₁.heap.get? b = some o → (∀ vs n, o.data ≠ .seq vs n) → argH K s₁.heap A b = none := fun {b o} e d => by
    cases q : argH K s₁.heap A b with
    | none => rfl
    | some u =>
      obtain ⟨_, vs, _, _, ⟨e2, _⟩ | ⟨e2, _⟩⟩ := argH_is ar q
      · rw [e2] at e
        cases e
        exact absurd rfl (d _ _)
      · rw [e2] at e
        cases e
        exact absurd rfl (d _ _)
  have hP0 : argH K s₁.heap A Pt = none := noA0 hP (fun vs n z => by cases z)
  generalize argH K s₁.heap A = G at hO hok0 hS0 hK0 noA0 hP0
  -- the table is tracked besides
  have sm : Same G (upd G Pt (.tbl #[])) := fun b o e => by rw [upd_ne (ne_of_none e hP0)]; exact e
  have hok : HOk P w (upd G Pt (.tbl #[])) s₁.heap := fun b u e => by
    by_cases z : b = Pt
    · subst z
      rw [upd_same] at e
      cases e
      exact hP
    · rw [upd_ne z] at e
      exact (hok0 b u e).stay (fun _ _ _ q => q) (fun c q => sm _ _ q) fun c xs q => sm _ _ q
  have hK : ∀ b u, upd G Pt (.tbl #[]) b = some u → K.lookup b = none := fun b u e => by
    by_cases z : b = Pt
    · rw [z]; exact hKP
    · rw [upd_ne z] at e; exact hK0 b u e
  have noA : ∀ {b : Addr} {o : Obj}, s₁.heap.get? b = some o → b ≠ Pt → (∀ vs n, o.data ≠ .seq vs n) → upd G Pt (.tbl #[]) b = none := fun {b o} e z d => by rw [upd_ne z]; exact noA0 e d
  have hPt : upd G Pt (.tbl #[]) Pt = some (.tbl #[]) := upd_same
  have hfrz : ∀ b u, upd G Pt (.tbl #[]) b = some u → b = Pt ∨ ∃ o v, u = .frz o v := fun b u e => by
    by_cases z : b = Pt
    · exact .inl z
    · rw [upd_ne z] at e
      rcases hO b with y | ⟨o, v, y⟩
      · rw [y] at e; cases e
      · rw [y] at e; cases e; exact .inr ⟨o, v, rfl⟩
  have hS : ∃ a, vals.map toV = [.ref a] ∧ SqL K (upd G Pt (.tbl #[])) a (ns.map V.int) ∧ a ≠ Pt := by
    generalize vals.map toV = xs at hS0
    cases hS0 with
    | cons h1 h2 =>
      cases h2
      cases h1 with
      | lst hs ha =>
        have e := ints_dw ns _ ha
        subst e
        rename_i a
        refine ⟨a, rfl, SqL_keep hs fun o q => sm _ _ q, fun z => ?_⟩
        rcases hs with (q | ⟨o, q⟩) | ⟨o, its, n, q, _⟩
        · rw [z, hP0] at q; cases q
        · rw [z, hP0] at q; cases q
        · rw [z, hKP] at q; cases q
  generalize upd G Pt (.tbl #[]) = H at hok hK noA hPt hfrz hS
  obtain ⟨a, hxs, hSa, naP⟩ := hS
  have base_of : ∀ {b : Addr} {o : Obj}, s₁.heap.get? b = some o → H b = none → (hidT s₁.heap H).get? b = some o := fun e n => hidT_get e n
  have neP : ∀ {b : Addr} {o : Obj}, s₁.heap.get? b = some o → (∀ vs, o.data ≠ .fields vs) → b ≠ Pt := fun {b o} e d z => by
    rw [z, hP] at e
    cases e
    exact d _ rfl
  have nsK : ∀ {b : Addr} {m : Str → Option Value}, s₁.heap.Ns b m → (hidT s₁.heap H).Ns b m := fun {b m} ⟨o, es, ep, e, d, r⟩ => ⟨o, es, ep, base_of e (noA e (neP e fun vs z => by rw [d] at z; cases z) fun vs n z => by rw [d] at z; cases z), d, r⟩
  have nK : ∀ b o, K.lookup b = some o → H b = none := fun b o e => by
    cases q : H b with
    | none => rfl
    | some u =>
      rw [hK b u q] at e
      cases e
  have hKb : K.In (hidT s₁.heap H) := fun b o e => base_of (KX b o e) (nK b o e)
  have hM : Mod K mg (hidT s₁.heap H) := ⟨hKb, nsK hns, ⟨mb, nsK hb, hbb⟩, let ⟨mc, h1, h2⟩ := hlim; ⟨mc, nsK h1, h2⟩⟩
  have hL : LamOk mg (hidT s₁.heap H) cd Pt := by
    refine ⟨?_, hPG, ?_⟩
    · obtain ⟨o, vs, file, tf, flags, tg, inF, text, tt, e1, r1, r2, r3⟩ := hcd
      exact ⟨o, vs, file, tf, flags, tg, inF, text, tt, base_of e1 (noA e1 (by obtain ⟨_, _, _, _, _, _, n⟩ := r3; exact n) fun ws n z => by rw [r2] at z; cases z), r1, r2, r3⟩
    · obtain ⟨bm, o, b1, b2, b3, b4, b5, b6, b7, b8⟩ := hbt
      exact ⟨bm, o, b1, b2, b3, b4, base_of b5 (noA b5 b4 fun ws n z => by rw [b8] at z; cases z), b6, b7, b8⟩
  have e0 : Env0 P w K mg (hidT s₁.heap H) callerA [] s₁ H := ⟨rfl, hM, fun b o e => of_hidT e, Nat.le_of_eq (hidT_size _ _), trivial, fun b hb => absurd (show b ∈ ([] : List Addr) from hb) (by simp), hok, .of_eq hg⟩
  have hl : vals.length = ([x] : List Str).length := by rw [wellAll_len hwl]; rfl
  refine codeAny_mono ((F _ hKb (nsK hns) hL).run callerA [] s₁ H ⟨vals, []⟩ vals (vals.map toV) _ _ hr e0 (hbind s₁ vals hl) hV (by rw [hxs]; exact hsp H a hSa naP hPt)) fun r s' y => ?_
  cases r with
  | error e => exact y.elim
  | ok fl =>
    cases fl with
    | next => exact False.elim y
    | brk => exact False.elim y
    | cont => exact False.elim y
    | ret u =>
      obtain ⟨v, H', os, bare, un, hok', r', q⟩ := y
      have kept : ∀ b o, b ≠ Pt → s₁.heap.get? b = some o → s'.heap.get? b = some o := fun b o n e => by
        cases q2 : H b with
        | none => exact un.keep b o e q2 (by intro z; exact absurd (show b ∈ ([] : List Addr) from z) (by simp)) (by simp)
        | some u2 =>
          rcases hfrz b u2 q2 with z | ⟨ob, u3, rfl⟩
          · exact absurd z n
          · have z2 := un.frzs b ob _ q2
            obtain ⟨e1, _⟩ := hok b _ q2
            obtain ⟨e2, _⟩ := hok' b _ z2
            rw [e] at e1
            cases e1
            exact e2
      obtain ⟨more, hmore⟩ := un.tbls Pt _ hPt
      have hP' : s'.heap.get? Pt = some { cls := .none, data := .fields (#[] ++ more) } := hok' Pt _ hmore
      have KX' : K.In s'.heap := fun b o e => kept b o (fun z => by rw [z, hKP] at e; cases e) (KX b o e)
      have old : OldK s₁.heap s'.heap := by
        have ht : s₁.heap.TableAt cd Pt #[] := hcd.tab hP
        have ncd : cd ≠ Pt := by obtain ⟨_, _, _, _, _, _, _, _, _, _, _, _, _, _, _, _, _, _, n⟩ := hcd; exact n
        have ht' : s'.heap.TableAt cd Pt (#[] ++ more) := by
          obtain ⟨⟨o, vs, e1, r1⟩, _⟩ := ht
          exact ⟨⟨o, vs, kept _ _ ncd e1, r1⟩, hP'⟩
        exact (OldK.refl s₁.heap).step_table ht ht ht' (fun b o n e => kept b o n e) hPs
      obtain ⟨as, hrd⟩ := Dw.reads (R := R) (cl := cl) hok' KX' d0 v u q r'
      exact ⟨u, as, rfl, hrd, old, os, bare⟩
end Mp

set_option Elab.async false
set_option linter.all false
set_option maxRecDepth 100000
set_option maxHeartbeats 4000000
namespace Mp
open PySem PySem.Spec PyProof.Rows L2
open PySem.W (WData Codec OpenSpec Well WellAll ReadsW ReadsAllW)
abbrev row : OpenSpec := PySem.Challenge.rw_measuredpay_s01_answers
/-- every call number is below 19 -/
theorem below19 {ns : List Int} (hn : ∀ x ∈ ns, 0 ≤ x) : Below 19 ns := fun k st told j fr e => by
  have hk : k < ns.length := (List.getElem?_eq_some_iff.mp e).1
  obtain ⟨j', ms, e', hj, _⟩ := from_step fr hn hk
  rw [e] at e'
  have := Option.some.inj e'
  omega
/-- the goal that k_headS leaves, from the promise of answers -/
theorem walk {k NC : Nat} (hNC : ∀ ns : List Int, (∀ x ∈ ns, 0 ≤ x) → Below NC ns) {q : Program} {loose : List Str} {XP : (Str → Option Value) → Heap → Prop} {YP : World → Heap → Prop} {d : DefRec} {K : Params → PySem.W.Frag} (hwell : row.wellSaid = true) (hdf : d.params.defaults = []) (hr : Room k callerA)
    (hY : ∀ (w : World) (h : Heap), YP w h → (K w.params).In h)
    (F : ∀ (w : World) (mg : Str → Option Value) (fa : Addr) (h : Heap), YP w h → (K w.params).In h → h.Ns mainGlobals mg → mg d.name = some (.ref fa) →
      ∃ (fd : FuncData) (cd Pt : Addr) (ds : DefRec), (∀ (s : Shared) (us : List Value), us.length = (["calls"] : List Str).length → BindsTo s fd ⟨us, []⟩ ((["calls"] : List Str).zip us)) ∧ (K w.params).lookup Pt = none ∧ (recsOf q).find? (fun e => e.name == ("shares" : Str)) = some ds ∧ PySem.W.tabIn (K w.params) "shares" = some (cd, Pt) ∧ Pt ≠ cStatics ∧
        ∀ base : Heap, (K w.params).In base → base.Ns mainGlobals mg → LamOk mg base cd Pt → FnOk row.prog w (K w.params) mg base CX0 k fa fd ["calls"] (spAnswers (K w.params) Pt NC)) :
    PySem.W.WalkOS q loose XP YP row d [] (fun f vs => PySem.call f vs) := by
  intro w s_0 s₁ mg mb G Y fa o pm cd doc dV kV ho hd hcd hD hmg hg args vals as hpre hlay hrd hwl hlo
  obtain ⟨a, e1, e2⟩ := PySem.W.os_pre_some hpre
  obtain ⟨e3, hwi⟩ := Codec.encAll_of_decAll row.args args a e1
  subst e3
  have KX := hY w _ Y
  obtain ⟨fd, cd, Pt, ds, hb, hKP, hrec, htab, hPs, hF⟩ := F w mg fa _ Y KX G.T.g hmg
  obtain ⟨hhd, hP⟩ := PySem.W.tab_of G.T KX hrec htab
  have hPG : mainGlobals ≠ Pt := fun z => by
    obtain ⟨o, es, ep, e, hd, _⟩ := G.T.g
    rw [z, hP] at e
    cases e
    cases hd
  have hbt : s₁.heap.BuiltinsAt mg Pt := by
    obtain ⟨bm, ob, a1, a2, a3, a4, a5, a6⟩ := G.T.bmain
    refine ⟨bm, ob, a1, a2, fun z => ?_, fun z => ?_, a3, a4, a5, a6⟩
    · obtain ⟨o, es, ep, e, hd, _⟩ := G.T.g
      rw [z, e] at a3
      cases a3
      rw [hd] at a6
      cases a6
    · rw [z, hP] at a3
      cases a3
      cases a4
  have hq : ((Codec.inLen 0 600 a.1 && a.1.all (Codec.inInt 0 4294967295)) && true) = true := hwi
  rw [Bool.and_eq_true, Bool.and_eq_true] at hq
  have h600 : a.1.length ≤ 600 := (Codec.inNat_iff.mp hq.1.1).2
  have hpos : ∀ x ∈ a.1, 0 ≤ x := fun x hx => by
    have z := List.all_eq_true.mp hq.1.2 x hx
    unfold Codec.inInt at z
    simp only [Bool.and_eq_true, decide_eq_true_eq] at z
    exact z.1
  have hask : PyKp223.answers_asked a.1 = true := e2
  refine PySem.W.enter_call (codeAny_mono (spec_callT (R := []) (cl := classAt s_0.heap) (ns := a.1) (d0 := row.ret.enc (Codec.app row.args row.f a)) KX G.T.g G.T.b G.T.builtins G.T.nolimit hg hwl (layable_weight hlay) hr hKP hhd hP hbt hPG hPs hF hb
    (fun H p hS np hT => ⟨p, a.1, rfl, hS, np, h600, hpos, hask, hNC _ hpos, .inl hT, fun H' r hr' => .lst (L2.SqL.of hr') (L2.dw_ints _)⟩)) fun r' s' hq => ?_)
  obtain ⟨u, as', rfl, h1, h2, h3, h4⟩ := hq
  exact ⟨.inl ⟨u, _, as', rfl, fun _ => rfl, h1, (OpenSpec.post_iff hwell hwi _ _).mpr rfl, fun z => Bool.noConfusion (show false = true from z)⟩, h2, h3, h4⟩
end Mp

set_option Elab.async false
set_option linter.all false
set_option maxRecDepth 100000
set_option maxHeartbeats 4000000
namespace Mp
open PySem PySem.Spec PyProof.Rows L2
theorem tab_mk {K : PySem.W.Frag} {f cd Pt : Addr} {oc occ : Value} {od odc : Option Addr} {fd : FuncData} {sl slc : Array (Option Value)} {vsc : Array Value} {x : Str} (a : PySem.W.nsIn K mainGlobals x = some (some (.ref f))) (l : K.lookup f = some ⟨oc, od, .func fd, sl⟩) (hc : fd.code = .ref cd)
    (lcd : K.lookup cd = some ⟨occ, odc, .fields vsc, slc⟩) (hv : (vsc[11]? : Option Value) = some (.ref Pt)) : PySem.W.tabIn K x = some (cd, Pt) := by
  unfold PySem.W.tabIn
  rw [a]
  dsimp only
  rw [l]
  dsimp only
  rw [hc]
  dsimp only
  rw [lcd]
  dsimp only
  rw [hv]
theorem fin_ds {q : Program} {P : Program} {w : World} {K : PySem.W.Frag} {mg : Str → Option Value} {fa : Addr} {k NC : Nat} (hd : ∃ ds, (recsOf q).find? (fun e => e.name == ("shares" : Str)) = some ds)
    (h : ∃ (fd : FuncData) (cd Pt : Addr), (∀ (s : Shared) (us : List Value), us.length = (["calls"] : List Str).length → BindsTo s fd ⟨us, []⟩ ((["calls"] : List Str).zip us)) ∧ K.lookup Pt = none ∧ PySem.W.tabIn K "shares" = some (cd, Pt) ∧ Pt ≠ cStatics ∧
      ∀ base : Heap, K.In base → base.Ns mainGlobals mg → LamOk mg base cd Pt → FnOk P w K mg base CX0 k fa fd ["calls"] (spAnswers K Pt NC)) :
    ∃ (fd : FuncData) (cd Pt : Addr) (ds : DefRec), (∀ (s : Shared) (us : List Value), us.length = (["calls"] : List Str).length → BindsTo s fd ⟨us, []⟩ ((["calls"] : List Str).zip us)) ∧ K.lookup Pt = none ∧ (recsOf q).find? (fun e => e.name == ("shares" : Str)) = some ds ∧ PySem.W.tabIn K "shares" = some (cd, Pt) ∧ Pt ≠ cStatics ∧
      ∀ base : Heap, K.In base → base.Ns mainGlobals mg → LamOk mg base cd Pt → FnOk P w K mg base CX0 k fa fd ["calls"] (spAnswers K Pt NC) := by
  obtain ⟨ds, hd⟩ := hd
  obtain ⟨fd, cd, Pt, a1, a2, a3, a4, a5⟩ := h
  exact ⟨fd, cd, Pt, ds, a1, a2, hd, a3, a4, a5⟩
/-- what the top has written, and the promise of answers -/
theorem all_mk {P : Program} {w : World} {K : PySem.W.Frag} {h : Heap} {mg : Str → Option Value} {fa CI CC CB : Addr} (X : K.In h) (G : h.Ns mainGlobals mg) (hfa : mg "answers" = some (.ref fa))
    {f_Item_init : Addr} {od_Item_init an_Item_init : Option Addr} {sl_Item_init : Array (Option Value)} {oc_Item_init kV_Item_init dc_Item_init pm_Item_init cd_Item_init ct_Item_init : Value}
    {f_Certificate_init : Addr} {od_Certificate_init an_Certificate_init : Option Addr} {sl_Certificate_init : Array (Option Value)} {oc_Certificate_init kV_Certificate_init dc_Certificate_init pm_Certificate_init cd_Certificate_init ct_Certificate_init : Value}
    {f_Certificate_unpaid : Addr} {od_Certificate_unpaid an_Certificate_unpaid : Option Addr} {sl_Certificate_unpaid : Array (Option Value)} {oc_Certificate_unpaid kV_Certificate_unpaid dc_Certificate_unpaid pm_Certificate_unpaid cd_Certificate_unpaid ct_Certificate_unpaid : Value}
    {f_Bill_init : Addr} {od_Bill_init an_Bill_init : Option Addr} {sl_Bill_init : Array (Option Value)} {oc_Bill_init kV_Bill_init dc_Bill_init pm_Bill_init cd_Bill_init ct_Bill_init : Value}
    {f_Bill_start : Addr} {od_Bill_start an_Bill_start : Option Addr} {sl_Bill_start : Array (Option Value)} {oc_Bill_start kV_Bill_start dc_Bill_start pm_Bill_start cd_Bill_start ct_Bill_start : Value}
    {f_Bill_has_item : Addr} {od_Bill_has_item an_Bill_has_item : Option Addr} {sl_Bill_has_item : Array (Option Value)} {oc_Bill_has_item kV_Bill_has_item dc_Bill_has_item pm_Bill_has_item cd_Bill_has_item ct_Bill_has_item : Value}
    {f_Bill_has_certificate : Addr} {od_Bill_has_certificate an_Bill_has_certificate : Option Addr} {sl_Bill_has_certificate : Array (Option Value)} {oc_Bill_has_certificate kV_Bill_has_certificate dc_Bill_has_certificate pm_Bill_has_certificate cd_Bill_has_certificate ct_Bill_has_certificate : Value}
    {f_Bill_all_done : Addr} {od_Bill_all_done an_Bill_all_done : Option Addr} {sl_Bill_all_done : Array (Option Value)} {oc_Bill_all_done kV_Bill_all_done dc_Bill_all_done pm_Bill_all_done cd_Bill_all_done ct_Bill_all_done : Value}
    {f_Bill_value : Addr} {od_Bill_value an_Bill_value : Option Addr} {sl_Bill_value : Array (Option Value)} {oc_Bill_value kV_Bill_value dc_Bill_value pm_Bill_value cd_Bill_value ct_Bill_value : Value}
    {f_Bill_contract : Addr} {od_Bill_contract an_Bill_contract : Option Addr} {sl_Bill_contract : Array (Option Value)} {oc_Bill_contract kV_Bill_contract dc_Bill_contract pm_Bill_contract cd_Bill_contract ct_Bill_contract : Value}
    {f_Bill_kept : Addr} {od_Bill_kept an_Bill_kept : Option Addr} {sl_Bill_kept : Array (Option Value)} {oc_Bill_kept kV_Bill_kept dc_Bill_kept pm_Bill_kept cd_Bill_kept ct_Bill_kept : Value}
    {f_Bill_owed : Addr} {od_Bill_owed an_Bill_owed : Option Addr} {sl_Bill_owed : Array (Option Value)} {oc_Bill_owed kV_Bill_owed dc_Bill_owed pm_Bill_owed cd_Bill_owed ct_Bill_owed : Value}
    {f_Bill_certified : Addr} {od_Bill_certified an_Bill_certified : Option Addr} {sl_Bill_certified : Array (Option Value)} {oc_Bill_certified kV_Bill_certified dc_Bill_certified pm_Bill_certified cd_Bill_certified ct_Bill_certified : Value}
    {f_Bill_all_paid : Addr} {od_Bill_all_paid an_Bill_all_paid : Option Addr} {sl_Bill_all_paid : Array (Option Value)} {oc_Bill_all_paid kV_Bill_all_paid dc_Bill_all_paid pm_Bill_all_paid cd_Bill_all_paid ct_Bill_all_paid : Value}
    {f_Bill_due : Addr} {od_Bill_due an_Bill_due : Option Addr} {sl_Bill_due : Array (Option Value)} {oc_Bill_due kV_Bill_due dc_Bill_due pm_Bill_due cd_Bill_due ct_Bill_due : Value}
    {f_Bill_trade_value : Addr} {od_Bill_trade_value an_Bill_trade_value : Option Addr} {sl_Bill_trade_value : Array (Option Value)} {oc_Bill_trade_value kV_Bill_trade_value dc_Bill_trade_value pm_Bill_trade_value cd_Bill_trade_value ct_Bill_trade_value : Value}
    {f_Bill_trade_got : Addr} {od_Bill_trade_got an_Bill_trade_got : Option Addr} {sl_Bill_trade_got : Array (Option Value)} {oc_Bill_trade_got kV_Bill_trade_got dc_Bill_trade_got pm_Bill_trade_got cd_Bill_trade_got ct_Bill_trade_got : Value}
    {f_shares : Addr} {od_shares an_shares : Option Addr} {sl_shares : Array (Option Value)} {oc_shares kV_shares dc_shares pm_shares  ct_shares : Value}
    {cd_shares : Addr}
    {f_parts_by_trade : Addr} {od_parts_by_trade an_parts_by_trade : Option Addr} {sl_parts_by_trade : Array (Option Value)} {oc_parts_by_trade kV_parts_by_trade dc_parts_by_trade pm_parts_by_trade cd_parts_by_trade ct_parts_by_trade : Value}
    {f_begin : Addr} {od_begin an_begin : Option Addr} {sl_begin : Array (Option Value)} {oc_begin kV_begin dc_begin pm_begin cd_begin ct_begin : Value}
    {f_item : Addr} {od_item an_item : Option Addr} {sl_item : Array (Option Value)} {oc_item kV_item dc_item pm_item cd_item ct_item : Value}
    {f_change : Addr} {od_change an_change : Option Addr} {sl_change : Array (Option Value)} {oc_change kV_change dc_change pm_change cd_change ct_change : Value}
    {f_measure : Addr} {od_measure an_measure : Option Addr} {sl_measure : Array (Option Value)} {oc_measure kV_measure dc_measure pm_measure cd_measure ct_measure : Value}
    {f_value : Addr} {od_value an_value : Option Addr} {sl_value : Array (Option Value)} {oc_value kV_value dc_value pm_value cd_value ct_value : Value}
    {f_contract : Addr} {od_contract an_contract : Option Addr} {sl_contract : Array (Option Value)} {oc_contract kV_contract dc_contract pm_contract cd_contract ct_contract : Value}
    {f_left : Addr} {od_left an_left : Option Addr} {sl_left : Array (Option Value)} {oc_left kV_left dc_left pm_left cd_left ct_left : Value}
    {f_kept : Addr} {od_kept an_kept : Option Addr} {sl_kept : Array (Option Value)} {oc_kept kV_kept dc_kept pm_kept cd_kept ct_kept : Value}
    {f_due : Addr} {od_due an_due : Option Addr} {sl_due : Array (Option Value)} {oc_due kV_due dc_due pm_due cd_due ct_due : Value}
    {f_certify : Addr} {od_certify an_certify : Option Addr} {sl_certify : Array (Option Value)} {oc_certify kV_certify dc_certify pm_certify cd_certify ct_certify : Value}
    {f_pay : Addr} {od_pay an_pay : Option Addr} {sl_pay : Array (Option Value)} {oc_pay kV_pay dc_pay pm_pay cd_pay ct_pay : Value}
    {f_still_open : Addr} {od_still_open an_still_open : Option Addr} {sl_still_open : Array (Option Value)} {oc_still_open kV_still_open dc_still_open pm_still_open cd_still_open ct_still_open : Value}
    {f_split : Addr} {od_split an_split : Option Addr} {sl_split : Array (Option Value)} {oc_split kV_split dc_split pm_split cd_split ct_split : Value}
    {f_of_trade : Addr} {od_of_trade an_of_trade : Option Addr} {sl_of_trade : Array (Option Value)} {oc_of_trade kV_of_trade dc_of_trade pm_of_trade cd_of_trade ct_of_trade : Value}
    {f_hand : Addr} {od_hand an_hand : Option Addr} {sl_hand : Array (Option Value)} {oc_hand kV_hand dc_hand pm_hand cd_hand ct_hand : Value}
    {f_close : Addr} {od_close an_close : Option Addr} {sl_close : Array (Option Value)} {oc_close kV_close dc_close pm_close cd_close ct_close : Value}
    {f_sums : Addr} {od_sums an_sums : Option Addr} {sl_sums : Array (Option Value)} {oc_sums kV_sums dc_sums pm_sums cd_sums ct_sums : Value}
    {f_look : Addr} {od_look an_look : Option Addr} {sl_look : Array (Option Value)} {oc_look kV_look dc_look pm_look cd_look ct_look : Value}
    {f_state : Addr} {od_state an_state : Option Addr} {sl_state : Array (Option Value)} {oc_state kV_state dc_state pm_state cd_state ct_state : Value}
    {f_answer : Addr} {od_answer an_answer : Option Addr} {sl_answer : Array (Option Value)} {oc_answer kV_answer dc_answer pm_answer cd_answer ct_answer : Value}
    {f_answers : Addr} {od_answers an_answers : Option Addr} {sl_answers : Array (Option Value)} {oc_answers kV_answers dc_answers pm_answers cd_answers ct_answers : Value}
    {t_MOST_ITEMS : Tok}
    {t_MOST_CERTIFICATES : Tok}
    {t_MOST_ORDERED : Tok}
    {t_MOST_RATE : Tok}
    {t_MOST_PER_THOUSAND : Tok}
    {t_TRADES : Tok}
    {t_BEGIN : Tok}
    {t_NO_SUCH : Tok}
    {t_NOTHING_DUE : Tok}
    {t_NOT_BEGUN : Tok}
    {t_NOT_HANDED_OVER : Tok}
    {t_HANDED_OVER : Tok}
    {t_ALREADY : Tok}
    {t_OUT_OF_RANGE : Tok}
    {t_FULL : Tok}
    {t_AT_ODDS : Tok}
    {aC : Addr} {odC : Option Addr} {nC : Nat} {slC : Array (Option Value)}
    {r0 : Addr} {odr0 : Option Addr} {nr0 : Nat} {slr0 : Array (Option Value)} {tr0 : Tok}
    {r1 : Addr} {odr1 : Option Addr} {nr1 : Nat} {slr1 : Array (Option Value)} {tr1 : Tok}
    {r2 : Addr} {odr2 : Option Addr} {nr2 : Nat} {slr2 : Array (Option Value)} {tr2 : Tok}
    {r3 : Addr} {odr3 : Option Addr} {nr3 : Nat} {slr3 : Array (Option Value)} {tr3 : Tok}
    {r4 : Addr} {odr4 : Option Addr} {nr4 : Nat} {slr4 : Array (Option Value)} {tr4 : Tok}
    {r5 : Addr} {odr5 : Option Addr} {nr5 : Nat} {slr5 : Array (Option Value)} {tr5 : Tok}
    {r6 : Addr} {odr6 : Option Addr} {nr6 : Nat} {slr6 : Array (Option Value)} {tr6 : Tok}
    {r7 : Addr} {odr7 : Option Addr} {nr7 : Nat} {slr7 : Array (Option Value)} {tr7 : Tok}
    {r8 : Addr} {odr8 : Option Addr} {nr8 : Nat} {slr8 : Array (Option Value)} {tr8 : Tok}
    {r9 : Addr} {odr9 : Option Addr} {nr9 : Nat} {slr9 : Array (Option Value)} {tr9 : Tok}
    {r10 : Addr} {odr10 : Option Addr} {nr10 : Nat} {slr10 : Array (Option Value)} {tr10 : Tok}
    {r11 : Addr} {odr11 : Option Addr} {nr11 : Nat} {slr11 : Array (Option Value)} {tr11 : Tok}
    {r12 : Addr} {odr12 : Option Addr} {nr12 : Nat} {slr12 : Array (Option Value)} {tr12 : Tok}
    {r13 : Addr} {odr13 : Option Addr} {nr13 : Nat} {slr13 : Array (Option Value)} {tr13 : Tok}
    {r14 : Addr} {odr14 : Option Addr} {nr14 : Nat} {slr14 : Array (Option Value)} {tr14 : Tok}
    {r15 : Addr} {odr15 : Option Addr} {nr15 : Nat} {slr15 : Array (Option Value)} {tr15 : Tok}
    {r16 : Addr} {odr16 : Option Addr} {nr16 : Nat} {slr16 : Array (Option Value)} {tr16 : Tok}
    {r17 : Addr} {odr17 : Option Addr} {nr17 : Nat} {slr17 : Array (Option Value)} {tr17 : Tok}
    {r18 : Addr} {odr18 : Option Addr} {nr18 : Nat} {slr18 : Array (Option Value)} {tr18 : Tok}
    {Pt : Addr} {occ : Value} {odc : Option Addr} {vsc : Array Value} {slc : Array (Option Value)}
    (aKI : PySem.W.nsIn K mainGlobals "Item" = some (some (.ref CI)))
    (aKC : PySem.W.nsIn K mainGlobals "Certificate" = some (some (.ref CC)))
    (aKB : PySem.W.nsIn K mainGlobals "Bill" = some (some (.ref CB)))
    (a_Item_init : PySem.W.findIn K (.ref CI) "__init__" = some (some (.ref f_Item_init))) (i_Item_init : PySem.W.isFn K (.ref f_Item_init) = true)
    (l_Item_init : K.lookup f_Item_init = some ⟨oc_Item_init, od_Item_init, .func (PySem.W.fnOf "__init__" "Item.__init__" (defArgs s_Item_init) (defBody s_Item_init) (defScope s_Item_init) .none kV_Item_init dc_Item_init pm_Item_init an_Item_init cd_Item_init ct_Item_init), sl_Item_init⟩) (c_Item_init : PySem.W.codeIn K cd_Item_init "Item.__init__" = true) (k_Item_init : PySem.W.keepIn K (.ref f_Item_init) = true)
    (a_Certificate_init : PySem.W.findIn K (.ref CC) "__init__" = some (some (.ref f_Certificate_init))) (i_Certificate_init : PySem.W.isFn K (.ref f_Certificate_init) = true)
    (l_Certificate_init : K.lookup f_Certificate_init = some ⟨oc_Certificate_init, od_Certificate_init, .func (PySem.W.fnOf "__init__" "Certificate.__init__" (defArgs s_Certificate_init) (defBody s_Certificate_init) (defScope s_Certificate_init) .none kV_Certificate_init dc_Certificate_init pm_Certificate_init an_Certificate_init cd_Certificate_init ct_Certificate_init), sl_Certificate_init⟩) (c_Certificate_init : PySem.W.codeIn K cd_Certificate_init "Certificate.__init__" = true) (k_Certificate_init : PySem.W.keepIn K (.ref f_Certificate_init) = true)
    (a_Certificate_unpaid : PySem.W.findIn K (.ref CC) "unpaid" = some (some (.ref f_Certificate_unpaid))) (i_Certificate_unpaid : PySem.W.isFn K (.ref f_Certificate_unpaid) = true)
    (l_Certificate_unpaid : K.lookup f_Certificate_unpaid = some ⟨oc_Certificate_unpaid, od_Certificate_unpaid, .func (PySem.W.fnOf "unpaid" "Certificate.unpaid" (defArgs s_Certificate_unpaid) (defBody s_Certificate_unpaid) (defScope s_Certificate_unpaid) .none kV_Certificate_unpaid dc_Certificate_unpaid pm_Certificate_unpaid an_Certificate_unpaid cd_Certificate_unpaid ct_Certificate_unpaid), sl_Certificate_unpaid⟩) (c_Certificate_unpaid : PySem.W.codeIn K cd_Certificate_unpaid "Certificate.unpaid" = true) (k_Certificate_unpaid : PySem.W.keepIn K (.ref f_Certificate_unpaid) = true)
    (a_Bill_init : PySem.W.findIn K (.ref CB) "__init__" = some (some (.ref f_Bill_init))) (i_Bill_init : PySem.W.isFn K (.ref f_Bill_init) = true)
    (l_Bill_init : K.lookup f_Bill_init = some ⟨oc_Bill_init, od_Bill_init, .func (PySem.W.fnOf "__init__" "Bill.__init__" (defArgs s_Bill_init) (defBody s_Bill_init) (defScope s_Bill_init) .none kV_Bill_init dc_Bill_init pm_Bill_init an_Bill_init cd_Bill_init ct_Bill_init), sl_Bill_init⟩) (c_Bill_init : PySem.W.codeIn K cd_Bill_init "Bill.__init__" = true) (k_Bill_init : PySem.W.keepIn K (.ref f_Bill_init) = true)
    (a_Bill_start : PySem.W.findIn K (.ref CB) "start" = some (some (.ref f_Bill_start))) (i_Bill_start : PySem.W.isFn K (.ref f_Bill_start) = true)
    (l_Bill_start : K.lookup f_Bill_start = some ⟨oc_Bill_start, od_Bill_start, .func (PySem.W.fnOf "start" "Bill.start" (defArgs s_Bill_start) (defBody s_Bill_start) (defScope s_Bill_start) .none kV_Bill_start dc_Bill_start pm_Bill_start an_Bill_start cd_Bill_start ct_Bill_start), sl_Bill_start⟩) (c_Bill_start : PySem.W.codeIn K cd_Bill_start "Bill.start" = true) (k_Bill_start : PySem.W.keepIn K (.ref f_Bill_start) = true)
    (a_Bill_has_item : PySem.W.findIn K (.ref CB) "has_item" = some (some (.ref f_Bill_has_item))) (i_Bill_has_item : PySem.W.isFn K (.ref f_Bill_has_item) = true)
    (l_Bill_has_item : K.lookup f_Bill_has_item = some ⟨oc_Bill_has_item, od_Bill_has_item, .func (PySem.W.fnOf "has_item" "Bill.has_item" (defArgs s_Bill_has_item) (defBody s_Bill_has_item) (defScope s_Bill_has_item) .none kV_Bill_has_item dc_Bill_has_item pm_Bill_has_item an_Bill_has_item cd_Bill_has_item ct_Bill_has_item), sl_Bill_has_item⟩) (c_Bill_has_item : PySem.W.codeIn K cd_Bill_has_item "Bill.has_item" = true) (k_Bill_has_item : PySem.W.keepIn K (.ref f_Bill_has_item) = true)
    (a_Bill_has_certificate : PySem.W.findIn K (.ref CB) "has_certificate" = some (some (.ref f_Bill_has_certificate))) (i_Bill_has_certificate : PySem.W.isFn K (.ref f_Bill_has_certificate) = true)
    (l_Bill_has_certificate : K.lookup f_Bill_has_certificate = some ⟨oc_Bill_has_certificate, od_Bill_has_certificate, .func (PySem.W.fnOf "has_certificate" "Bill.has_certificate" (defArgs s_Bill_has_certificate) (defBody s_Bill_has_certificate) (defScope s_Bill_has_certificate) .none kV_Bill_has_certificate dc_Bill_has_certificate pm_Bill_has_certificate an_Bill_has_certificate cd_Bill_has_certificate ct_Bill_has_certificate), sl_Bill_has_certificate⟩) (c_Bill_has_certificate : PySem.W.codeIn K cd_Bill_has_certificate "Bill.has_certificate" = true) (k_Bill_has_certificate : PySem.W.keepIn K (.ref f_Bill_has_certificate) = true)
    (a_Bill_all_done : PySem.W.findIn K (.ref CB) "all_done" = some (some (.ref f_Bill_all_done))) (i_Bill_all_done : PySem.W.isFn K (.ref f_Bill_all_done) = true)
    (l_Bill_all_done : K.lookup f_Bill_all_done = some ⟨oc_Bill_all_done, od_Bill_all_done, .func (PySem.W.fnOf "all_done" "Bill.all_done" (defArgs s_Bill_all_done) (defBody s_Bill_all_done) (defScope s_Bill_all_done) .none kV_Bill_all_done dc_Bill_all_done pm_Bill_all_done an_Bill_all_done cd_Bill_all_done ct_Bill_all_done), sl_Bill_all_done⟩) (c_Bill_all_done : PySem.W.codeIn K cd_Bill_all_done "Bill.all_done" = true) (k_Bill_all_done : PySem.W.keepIn K (.ref f_Bill_all_done) = true)
    (a_Bill_value : PySem.W.findIn K (.ref CB) "value" = some (some (.ref f_Bill_value))) (i_Bill_value : PySem.W.isFn K (.ref f_Bill_value) = true)
    (l_Bill_value : K.lookup f_Bill_value = some ⟨oc_Bill_value, od_Bill_value, .func (PySem.W.fnOf "value" "Bill.value" (defArgs s_Bill_value) (defBody s_Bill_value) (defScope s_Bill_value) .none kV_Bill_value dc_Bill_value pm_Bill_value an_Bill_value cd_Bill_value ct_Bill_value), sl_Bill_value⟩) (c_Bill_value : PySem.W.codeIn K cd_Bill_value "Bill.value" = true) (k_Bill_value : PySem.W.keepIn K (.ref f_Bill_value) = true)
    (a_Bill_contract : PySem.W.findIn K (.ref CB) "contract" = some (some (.ref f_Bill_contract))) (i_Bill_contract : PySem.W.isFn K (.ref f_Bill_contract) = true)
    (l_Bill_contract : K.lookup f_Bill_contract = some ⟨oc_Bill_contract, od_Bill_contract, .func (PySem.W.fnOf "contract" "Bill.contract" (defArgs s_Bill_contract) (defBody s_Bill_contract) (defScope s_Bill_contract) .none kV_Bill_contract dc_Bill_contract pm_Bill_contract an_Bill_contract cd_Bill_contract ct_Bill_contract), sl_Bill_contract⟩) (c_Bill_contract : PySem.W.codeIn K cd_Bill_contract "Bill.contract" = true) (k_Bill_contract : PySem.W.keepIn K (.ref f_Bill_contract) = true)
    (a_Bill_kept : PySem.W.findIn K (.ref CB) "kept" = some (some (.ref f_Bill_kept))) (i_Bill_kept : PySem.W.isFn K (.ref f_Bill_kept) = true)
    (l_Bill_kept : K.lookup f_Bill_kept = some ⟨oc_Bill_kept, od_Bill_kept, .func (PySem.W.fnOf "kept" "Bill.kept" (defArgs s_Bill_kept) (defBody s_Bill_kept) (defScope s_Bill_kept) .none kV_Bill_kept dc_Bill_kept pm_Bill_kept an_Bill_kept cd_Bill_kept ct_Bill_kept), sl_Bill_kept⟩) (c_Bill_kept : PySem.W.codeIn K cd_Bill_kept "Bill.kept" = true) (k_Bill_kept : PySem.W.keepIn K (.ref f_Bill_kept) = true)
    (a_Bill_owed : PySem.W.findIn K (.ref CB) "owed" = some (some (.ref f_Bill_owed))) (i_Bill_owed : PySem.W.isFn K (.ref f_Bill_owed) = true)
    (l_Bill_owed : K.lookup f_Bill_owed = some ⟨oc_Bill_owed, od_Bill_owed, .func (PySem.W.fnOf "owed" "Bill.owed" (defArgs s_Bill_owed) (defBody s_Bill_owed) (defScope s_Bill_owed) .none kV_Bill_owed dc_Bill_owed pm_Bill_owed an_Bill_owed cd_Bill_owed ct_Bill_owed), sl_Bill_owed⟩) (c_Bill_owed : PySem.W.codeIn K cd_Bill_owed "Bill.owed" = true) (k_Bill_owed : PySem.W.keepIn K (.ref f_Bill_owed) = true)
    (a_Bill_certified : PySem.W.findIn K (.ref CB) "certified" = some (some (.ref f_Bill_certified))) (i_Bill_certified : PySem.W.isFn K (.ref f_Bill_certified) = true)
    (l_Bill_certified : K.lookup f_Bill_certified = some ⟨oc_Bill_certified, od_Bill_certified, .func (PySem.W.fnOf "certified" "Bill.certified" (defArgs s_Bill_certified) (defBody s_Bill_certified) (defScope s_Bill_certified) .none kV_Bill_certified dc_Bill_certified pm_Bill_certified an_Bill_certified cd_Bill_certified ct_Bill_certified), sl_Bill_certified⟩) (c_Bill_certified : PySem.W.codeIn K cd_Bill_certified "Bill.certified" = true) (k_Bill_certified : PySem.W.keepIn K (.ref f_Bill_certified) = true)
    (a_Bill_all_paid : PySem.W.findIn K (.ref CB) "all_paid" = some (some (.ref f_Bill_all_paid))) (i_Bill_all_paid : PySem.W.isFn K (.ref f_Bill_all_paid) = true)
    (l_Bill_all_paid : K.lookup f_Bill_all_paid = some ⟨oc_Bill_all_paid, od_Bill_all_paid, .func (PySem.W.fnOf "all_paid" "Bill.all_paid" (defArgs s_Bill_all_paid) (defBody s_Bill_all_paid) (defScope s_Bill_all_paid) .none kV_Bill_all_paid dc_Bill_all_paid pm_Bill_all_paid an_Bill_all_paid cd_Bill_all_paid ct_Bill_all_paid), sl_Bill_all_paid⟩) (c_Bill_all_paid : PySem.W.codeIn K cd_Bill_all_paid "Bill.all_paid" = true) (k_Bill_all_paid : PySem.W.keepIn K (.ref f_Bill_all_paid) = true)
    (a_Bill_due : PySem.W.findIn K (.ref CB) "due" = some (some (.ref f_Bill_due))) (i_Bill_due : PySem.W.isFn K (.ref f_Bill_due) = true)
    (l_Bill_due : K.lookup f_Bill_due = some ⟨oc_Bill_due, od_Bill_due, .func (PySem.W.fnOf "due" "Bill.due" (defArgs s_Bill_due) (defBody s_Bill_due) (defScope s_Bill_due) .none kV_Bill_due dc_Bill_due pm_Bill_due an_Bill_due cd_Bill_due ct_Bill_due), sl_Bill_due⟩) (c_Bill_due : PySem.W.codeIn K cd_Bill_due "Bill.due" = true) (k_Bill_due : PySem.W.keepIn K (.ref f_Bill_due) = true)
    (a_Bill_trade_value : PySem.W.findIn K (.ref CB) "trade_value" = some (some (.ref f_Bill_trade_value))) (i_Bill_trade_value : PySem.W.isFn K (.ref f_Bill_trade_value) = true)
    (l_Bill_trade_value : K.lookup f_Bill_trade_value = some ⟨oc_Bill_trade_value, od_Bill_trade_value, .func (PySem.W.fnOf "trade_value" "Bill.trade_value" (defArgs s_Bill_trade_value) (defBody s_Bill_trade_value) (defScope s_Bill_trade_value) .none kV_Bill_trade_value dc_Bill_trade_value pm_Bill_trade_value an_Bill_trade_value cd_Bill_trade_value ct_Bill_trade_value), sl_Bill_trade_value⟩) (c_Bill_trade_value : PySem.W.codeIn K cd_Bill_trade_value "Bill.trade_value" = true) (k_Bill_trade_value : PySem.W.keepIn K (.ref f_Bill_trade_value) = true)
    (a_Bill_trade_got : PySem.W.findIn K (.ref CB) "trade_got" = some (some (.ref f_Bill_trade_got))) (i_Bill_trade_got : PySem.W.isFn K (.ref f_Bill_trade_got) = true)
    (l_Bill_trade_got : K.lookup f_Bill_trade_got = some ⟨oc_Bill_trade_got, od_Bill_trade_got, .func (PySem.W.fnOf "trade_got" "Bill.trade_got" (defArgs s_Bill_trade_got) (defBody s_Bill_trade_got) (defScope s_Bill_trade_got) .none kV_Bill_trade_got dc_Bill_trade_got pm_Bill_trade_got an_Bill_trade_got cd_Bill_trade_got ct_Bill_trade_got), sl_Bill_trade_got⟩) (c_Bill_trade_got : PySem.W.codeIn K cd_Bill_trade_got "Bill.trade_got" = true) (k_Bill_trade_got : PySem.W.keepIn K (.ref f_Bill_trade_got) = true)
    (a_shares : PySem.W.nsIn K mainGlobals "shares" = some (some (.ref f_shares)))
    (l_shares : K.lookup f_shares = some ⟨oc_shares, od_shares, .func (PySem.W.fnOf "shares" "shares" (defArgs s_shares) (defBody s_shares) (defScope s_shares) .none kV_shares dc_shares pm_shares an_shares (.ref cd_shares) ct_shares), sl_shares⟩) (c_shares : PySem.W.codeIn K (.ref cd_shares) "shares" = true) (k_shares : PySem.W.keepIn K (.ref f_shares) = true)
    (a_parts_by_trade : PySem.W.nsIn K mainGlobals "parts_by_trade" = some (some (.ref f_parts_by_trade)))
    (l_parts_by_trade : K.lookup f_parts_by_trade = some ⟨oc_parts_by_trade, od_parts_by_trade, .func (PySem.W.fnOf "parts_by_trade" "parts_by_trade" (defArgs s_parts_by_trade) (defBody s_parts_by_trade) (defScope s_parts_by_trade) .none kV_parts_by_trade dc_parts_by_trade pm_parts_by_trade an_parts_by_trade cd_parts_by_trade ct_parts_by_trade), sl_parts_by_trade⟩) (c_parts_by_trade : PySem.W.codeIn K cd_parts_by_trade "parts_by_trade" = true) (k_parts_by_trade : PySem.W.keepIn K (.ref f_parts_by_trade) = true)
    (a_begin : PySem.W.nsIn K mainGlobals "begin" = some (some (.ref f_begin)))
    (l_begin : K.lookup f_begin = some ⟨oc_begin, od_begin, .func (PySem.W.fnOf "begin" "begin" (defArgs s_begin) (defBody s_begin) (defScope s_begin) .none kV_begin dc_begin pm_begin an_begin cd_begin ct_begin), sl_begin⟩) (c_begin : PySem.W.codeIn K cd_begin "begin" = true) (k_begin : PySem.W.keepIn K (.ref f_begin) = true)
    (a_item : PySem.W.nsIn K mainGlobals "item" = some (some (.ref f_item)))
    (l_item : K.lookup f_item = some ⟨oc_item, od_item, .func (PySem.W.fnOf "item" "item" (defArgs s_item) (defBody s_item) (defScope s_item) .none kV_item dc_item pm_item an_item cd_item ct_item), sl_item⟩) (c_item : PySem.W.codeIn K cd_item "item" = true) (k_item : PySem.W.keepIn K (.ref f_item) = true)
    (a_change : PySem.W.nsIn K mainGlobals "change" = some (some (.ref f_change)))
    (l_change : K.lookup f_change = some ⟨oc_change, od_change, .func (PySem.W.fnOf "change" "change" (defArgs s_change) (defBody s_change) (defScope s_change) .none kV_change dc_change pm_change an_change cd_change ct_change), sl_change⟩) (c_change : PySem.W.codeIn K cd_change "change" = true) (k_change : PySem.W.keepIn K (.ref f_change) = true)
    (a_measure : PySem.W.nsIn K mainGlobals "measure" = some (some (.ref f_measure)))
    (l_measure : K.lookup f_measure = some ⟨oc_measure, od_measure, .func (PySem.W.fnOf "measure" "measure" (defArgs s_measure) (defBody s_measure) (defScope s_measure) .none kV_measure dc_measure pm_measure an_measure cd_measure ct_measure), sl_measure⟩) (c_measure : PySem.W.codeIn K cd_measure "measure" = true) (k_measure : PySem.W.keepIn K (.ref f_measure) = true)
    (a_value : PySem.W.nsIn K mainGlobals "value" = some (some (.ref f_value)))
    (l_value : K.lookup f_value = some ⟨oc_value, od_value, .func (PySem.W.fnOf "value" "value" (defArgs s_value) (defBody s_value) (defScope s_value) .none kV_value dc_value pm_value an_value cd_value ct_value), sl_value⟩) (c_value : PySem.W.codeIn K cd_value "value" = true) (k_value : PySem.W.keepIn K (.ref f_value) = true)
    (a_contract : PySem.W.nsIn K mainGlobals "contract" = some (some (.ref f_contract)))
    (l_contract : K.lookup f_contract = some ⟨oc_contract, od_contract, .func (PySem.W.fnOf "contract" "contract" (defArgs s_contract) (defBody s_contract) (defScope s_contract) .none kV_contract dc_contract pm_contract an_contract cd_contract ct_contract), sl_contract⟩) (c_contract : PySem.W.codeIn K cd_contract "contract" = true) (k_contract : PySem.W.keepIn K (.ref f_contract) = true)
    (a_left : PySem.W.nsIn K mainGlobals "left" = some (some (.ref f_left)))
    (l_left : K.lookup f_left = some ⟨oc_left, od_left, .func (PySem.W.fnOf "left" "left" (defArgs s_left) (defBody s_left) (defScope s_left) .none kV_left dc_left pm_left an_left cd_left ct_left), sl_left⟩) (c_left : PySem.W.codeIn K cd_left "left" = true) (k_left : PySem.W.keepIn K (.ref f_left) = true)
    (a_kept : PySem.W.nsIn K mainGlobals "kept" = some (some (.ref f_kept)))
    (l_kept : K.lookup f_kept = some ⟨oc_kept, od_kept, .func (PySem.W.fnOf "kept" "kept" (defArgs s_kept) (defBody s_kept) (defScope s_kept) .none kV_kept dc_kept pm_kept an_kept cd_kept ct_kept), sl_kept⟩) (c_kept : PySem.W.codeIn K cd_kept "kept" = true) (k_kept : PySem.W.keepIn K (.ref f_kept) = true)
    (a_due : PySem.W.nsIn K mainGlobals "due" = some (some (.ref f_due)))
    (l_due : K.lookup f_due = some ⟨oc_due, od_due, .func (PySem.W.fnOf "due" "due" (defArgs s_due) (defBody s_due) (defScope s_due) .none kV_due dc_due pm_due an_due cd_due ct_due), sl_due⟩) (c_due : PySem.W.codeIn K cd_due "due" = true) (k_due : PySem.W.keepIn K (.ref f_due) = true)
    (a_certify : PySem.W.nsIn K mainGlobals "certify" = some (some (.ref f_certify)))
    (l_certify : K.lookup f_certify = some ⟨oc_certify, od_certify, .func (PySem.W.fnOf "certify" "certify" (defArgs s_certify) (defBody s_certify) (defScope s_certify) .none kV_certify dc_certify pm_certify an_certify cd_certify ct_certify), sl_certify⟩) (c_certify : PySem.W.codeIn K cd_certify "certify" = true) (k_certify : PySem.W.keepIn K (.ref f_certify) = true)
    (a_pay : PySem.W.nsIn K mainGlobals "pay" = some (some (.ref f_pay)))
    (l_pay : K.lookup f_pay = some ⟨oc_pay, od_pay, .func (PySem.W.fnOf "pay" "pay" (defArgs s_pay) (defBody s_pay) (defScope s_pay) .none kV_pay dc_pay pm_pay an_pay cd_pay ct_pay), sl_pay⟩) (c_pay : PySem.W.codeIn K cd_pay "pay" = true) (k_pay : PySem.W.keepIn K (.ref f_pay) = true)
    (a_still_open : PySem.W.nsIn K mainGlobals "still_open" = some (some (.ref f_still_open)))
    (l_still_open : K.lookup f_still_open = some ⟨oc_still_open, od_still_open, .func (PySem.W.fnOf "still_open" "still_open" (defArgs s_still_open) (defBody s_still_open) (defScope s_still_open) .none kV_still_open dc_still_open pm_still_open an_still_open cd_still_open ct_still_open), sl_still_open⟩) (c_still_open : PySem.W.codeIn K cd_still_open "still_open" = true) (k_still_open : PySem.W.keepIn K (.ref f_still_open) = true)
    (a_split : PySem.W.nsIn K mainGlobals "split" = some (some (.ref f_split)))
    (l_split : K.lookup f_split = some ⟨oc_split, od_split, .func (PySem.W.fnOf "split" "split" (defArgs s_split) (defBody s_split) (defScope s_split) .none kV_split dc_split pm_split an_split cd_split ct_split), sl_split⟩) (c_split : PySem.W.codeIn K cd_split "split" = true) (k_split : PySem.W.keepIn K (.ref f_split) = true)
    (a_of_trade : PySem.W.nsIn K mainGlobals "of_trade" = some (some (.ref f_of_trade)))
    (l_of_trade : K.lookup f_of_trade = some ⟨oc_of_trade, od_of_trade, .func (PySem.W.fnOf "of_trade" "of_trade" (defArgs s_of_trade) (defBody s_of_trade) (defScope s_of_trade) .none kV_of_trade dc_of_trade pm_of_trade an_of_trade cd_of_trade ct_of_trade), sl_of_trade⟩) (c_of_trade : PySem.W.codeIn K cd_of_trade "of_trade" = true) (k_of_trade : PySem.W.keepIn K (.ref f_of_trade) = true)
    (a_hand : PySem.W.nsIn K mainGlobals "hand" = some (some (.ref f_hand)))
    (l_hand : K.lookup f_hand = some ⟨oc_hand, od_hand, .func (PySem.W.fnOf "hand" "hand" (defArgs s_hand) (defBody s_hand) (defScope s_hand) .none kV_hand dc_hand pm_hand an_hand cd_hand ct_hand), sl_hand⟩) (c_hand : PySem.W.codeIn K cd_hand "hand" = true) (k_hand : PySem.W.keepIn K (.ref f_hand) = true)
    (a_close : PySem.W.nsIn K mainGlobals "close" = some (some (.ref f_close)))
    (l_close : K.lookup f_close = some ⟨oc_close, od_close, .func (PySem.W.fnOf "close" "close" (defArgs s_close) (defBody s_close) (defScope s_close) .none kV_close dc_close pm_close an_close cd_close ct_close), sl_close⟩) (c_close : PySem.W.codeIn K cd_close "close" = true) (k_close : PySem.W.keepIn K (.ref f_close) = true)
    (a_sums : PySem.W.nsIn K mainGlobals "sums" = some (some (.ref f_sums)))
    (l_sums : K.lookup f_sums = some ⟨oc_sums, od_sums, .func (PySem.W.fnOf "sums" "sums" (defArgs s_sums) (defBody s_sums) (defScope s_sums) .none kV_sums dc_sums pm_sums an_sums cd_sums ct_sums), sl_sums⟩) (c_sums : PySem.W.codeIn K cd_sums "sums" = true) (k_sums : PySem.W.keepIn K (.ref f_sums) = true)
    (a_look : PySem.W.nsIn K mainGlobals "look" = some (some (.ref f_look)))
    (l_look : K.lookup f_look = some ⟨oc_look, od_look, .func (PySem.W.fnOf "look" "look" (defArgs s_look) (defBody s_look) (defScope s_look) .none kV_look dc_look pm_look an_look cd_look ct_look), sl_look⟩) (c_look : PySem.W.codeIn K cd_look "look" = true) (k_look : PySem.W.keepIn K (.ref f_look) = true)
    (a_state : PySem.W.nsIn K mainGlobals "state" = some (some (.ref f_state)))
    (l_state : K.lookup f_state = some ⟨oc_state, od_state, .func (PySem.W.fnOf "state" "state" (defArgs s_state) (defBody s_state) (defScope s_state) .none kV_state dc_state pm_state an_state cd_state ct_state), sl_state⟩) (c_state : PySem.W.codeIn K cd_state "state" = true) (k_state : PySem.W.keepIn K (.ref f_state) = true)
    (a_answer : PySem.W.nsIn K mainGlobals "answer" = some (some (.ref f_answer)))
    (l_answer : K.lookup f_answer = some ⟨oc_answer, od_answer, .func (PySem.W.fnOf "answer" "answer" (defArgs s_answer) (defBody s_answer) (defScope s_answer) .none kV_answer dc_answer pm_answer an_answer cd_answer ct_answer), sl_answer⟩) (c_answer : PySem.W.codeIn K cd_answer "answer" = true) (k_answer : PySem.W.keepIn K (.ref f_answer) = true)
    (a_answers : PySem.W.nsIn K mainGlobals "answers" = some (some (.ref f_answers)))
    (l_answers : K.lookup f_answers = some ⟨oc_answers, od_answers, .func (PySem.W.fnOf "answers" "answers" (defArgs s_answers) (defBody s_answers) (defScope s_answers) .none kV_answers dc_answers pm_answers an_answers cd_answers ct_answers), sl_answers⟩) (c_answers : PySem.W.codeIn K cd_answers "answers" = true) (k_answers : PySem.W.keepIn K (.ref f_answers) = true)
    (pgI : PySem.W.plainGet K CI Str.empty = true) (hdI : PySem.W.hasDictIn K CI = true) (poI : PySem.W.plainOver K CI = true) (saI : PySem.W.findIn K (.ref CI) "__setattr__" = some (some (.builtin "object.__setattr__"))) (mkI : PySem.W.makesIn K CI = true) (kcI : PySem.W.keepIn K (.ref CI) = true)
    (nI_ordered : PySem.W.findIn K (.ref CI) "ordered" = some none)
    (nI_rate : PySem.W.findIn K (.ref CI) "rate" = some none)
    (nI_trade : PySem.W.findIn K (.ref CI) "trade" = some none)
    (nI_done : PySem.W.findIn K (.ref CI) "done" = some none)
    (pgC : PySem.W.plainGet K CC Str.empty = true) (hdC : PySem.W.hasDictIn K CC = true) (poC : PySem.W.plainOver K CC = true) (saC : PySem.W.findIn K (.ref CC) "__setattr__" = some (some (.builtin "object.__setattr__"))) (mkC : PySem.W.makesIn K CC = true) (kcC : PySem.W.keepIn K (.ref CC) = true)
    (nC_amount : PySem.W.findIn K (.ref CC) "amount" = some none)
    (nC_parts : PySem.W.findIn K (.ref CC) "parts" = some none)
    (nC_paid : PySem.W.findIn K (.ref CC) "paid" = some none)
    (pgB : PySem.W.plainGet K CB Str.empty = true) (hdB : PySem.W.hasDictIn K CB = true) (poB : PySem.W.plainOver K CB = true) (saB : PySem.W.findIn K (.ref CB) "__setattr__" = some (some (.builtin "object.__setattr__"))) (mkB : PySem.W.makesIn K CB = true) (kcB : PySem.W.keepIn K (.ref CB) = true)
    (nB_begun : PySem.W.findIn K (.ref CB) "begun" = some none)
    (nB_keep : PySem.W.findIn K (.ref CB) "keep" = some none)
    (nB_most : PySem.W.findIn K (.ref CB) "most" = some none)
    (nB_entries : PySem.W.findIn K (.ref CB) "entries" = some none)
    (nB_certificates : PySem.W.findIn K (.ref CB) "certificates" = some none)
    (nB_handed : PySem.W.findIn K (.ref CB) "handed" = some none)
    (nB_closed : PySem.W.findIn K (.ref CB) "closed" = some none)
    (v_MOST_ITEMS : PySem.W.nsIn K mainGlobals "MOST_ITEMS" = some (some (.int 10 t_MOST_ITEMS)))
    (v_MOST_CERTIFICATES : PySem.W.nsIn K mainGlobals "MOST_CERTIFICATES" = some (some (.int 40 t_MOST_CERTIFICATES)))
    (v_MOST_ORDERED : PySem.W.nsIn K mainGlobals "MOST_ORDERED" = some (some (.int 10000 t_MOST_ORDERED)))
    (v_MOST_RATE : PySem.W.nsIn K mainGlobals "MOST_RATE" = some (some (.int 1000000 t_MOST_RATE)))
    (v_MOST_PER_THOUSAND : PySem.W.nsIn K mainGlobals "MOST_PER_THOUSAND" = some (some (.int 200 t_MOST_PER_THOUSAND)))
    (v_TRADES : PySem.W.nsIn K mainGlobals "TRADES" = some (some (.int 4 t_TRADES)))
    (v_BEGIN : PySem.W.nsIn K mainGlobals "BEGIN" = some (some (.int 0 t_BEGIN)))
    (v_NO_SUCH : PySem.W.nsIn K mainGlobals "NO_SUCH" = some (some (.int (-2) t_NO_SUCH)))
    (v_NOTHING_DUE : PySem.W.nsIn K mainGlobals "NOTHING_DUE" = some (some (.int (-6) t_NOTHING_DUE)))
    (v_NOT_BEGUN : PySem.W.nsIn K mainGlobals "NOT_BEGUN" = some (some (.int (-11) t_NOT_BEGUN)))
    (v_NOT_HANDED_OVER : PySem.W.nsIn K mainGlobals "NOT_HANDED_OVER" = some (some (.int (-13) t_NOT_HANDED_OVER)))
    (v_HANDED_OVER : PySem.W.nsIn K mainGlobals "HANDED_OVER" = some (some (.int (-16) t_HANDED_OVER)))
    (v_ALREADY : PySem.W.nsIn K mainGlobals "ALREADY" = some (some (.int (-17) t_ALREADY)))
    (v_OUT_OF_RANGE : PySem.W.nsIn K mainGlobals "OUT_OF_RANGE" = some (some (.int (-22) t_OUT_OF_RANGE)))
    (v_FULL : PySem.W.nsIn K mainGlobals "FULL" = some (some (.int (-28) t_FULL)))
    (v_AT_ODDS : PySem.W.nsIn K mainGlobals "AT_ODDS" = some (some (.int (-33) t_AT_ODDS)))
    (b_sum : PySem.W.nsIn K mainGlobals "sum" = some none)
    (b_min : PySem.W.nsIn K mainGlobals "min" = some none)
    (b_max : PySem.W.nsIn K mainGlobals "max" = some none)
    (b_len : PySem.W.nsIn K mainGlobals "len" = some none)
    (b_range : PySem.W.nsIn K mainGlobals "range" = some none)
    (b_sorted : PySem.W.nsIn K mainGlobals "sorted" = some none)
    (b_all : PySem.W.nsIn K mainGlobals "all" = some none)
    (aCalls : PySem.W.nsIn K mainGlobals "CALLS" = some (some (.ref aC)))
    (lC : K.lookup aC = some ⟨.type "tuple", odC, .seq #[.ref r0, .ref r1, .ref r2, .ref r3, .ref r4, .ref r5, .ref r6, .ref r7, .ref r8, .ref r9, .ref r10, .ref r11, .ref r12, .ref r13, .ref r14, .ref r15, .ref r16, .ref r17, .ref r18] nC, slC⟩)
    (lr0 : K.lookup r0 = some ⟨.type "tuple", odr0, .seq #[.ref f_begin, .int 2 tr0] nr0, slr0⟩)
    (lr1 : K.lookup r1 = some ⟨.type "tuple", odr1, .seq #[.ref f_item, .int 3 tr1] nr1, slr1⟩)
    (lr2 : K.lookup r2 = some ⟨.type "tuple", odr2, .seq #[.ref f_change, .int 2 tr2] nr2, slr2⟩)
    (lr3 : K.lookup r3 = some ⟨.type "tuple", odr3, .seq #[.ref f_measure, .int 2 tr3] nr3, slr3⟩)
    (lr4 : K.lookup r4 = some ⟨.type "tuple", odr4, .seq #[.ref f_value, .int 0 tr4] nr4, slr4⟩)
    (lr5 : K.lookup r5 = some ⟨.type "tuple", odr5, .seq #[.ref f_contract, .int 0 tr5] nr5, slr5⟩)
    (lr6 : K.lookup r6 = some ⟨.type "tuple", odr6, .seq #[.ref f_left, .int 0 tr6] nr6, slr6⟩)
    (lr7 : K.lookup r7 = some ⟨.type "tuple", odr7, .seq #[.ref f_kept, .int 0 tr7] nr7, slr7⟩)
    (lr8 : K.lookup r8 = some ⟨.type "tuple", odr8, .seq #[.ref f_due, .int 0 tr8] nr8, slr8⟩)
    (lr9 : K.lookup r9 = some ⟨.type "tuple", odr9, .seq #[.ref f_certify, .int 0 tr9] nr9, slr9⟩)
    (lr10 : K.lookup r10 = some ⟨.type "tuple", odr10, .seq #[.ref f_pay, .int 2 tr10] nr10, slr10⟩)
    (lr11 : K.lookup r11 = some ⟨.type "tuple", odr11, .seq #[.ref f_still_open, .int 1 tr11] nr11, slr11⟩)
    (lr12 : K.lookup r12 = some ⟨.type "tuple", odr12, .seq #[.ref f_split, .int 1 tr12] nr12, slr12⟩)
    (lr13 : K.lookup r13 = some ⟨.type "tuple", odr13, .seq #[.ref f_of_trade, .int 1 tr13] nr13, slr13⟩)
    (lr14 : K.lookup r14 = some ⟨.type "tuple", odr14, .seq #[.ref f_hand, .int 0 tr14] nr14, slr14⟩)
    (lr15 : K.lookup r15 = some ⟨.type "tuple", odr15, .seq #[.ref f_close, .int 0 tr15] nr15, slr15⟩)
    (lr16 : K.lookup r16 = some ⟨.type "tuple", odr16, .seq #[.ref f_sums, .int 0 tr16] nr16, slr16⟩)
    (lr17 : K.lookup r17 = some ⟨.type "tuple", odr17, .seq #[.ref f_look, .int 1 tr17] nr17, slr17⟩)
    (lr18 : K.lookup r18 = some ⟨.type "tuple", odr18, .seq #[.ref f_state, .int 0 tr18] nr18, slr18⟩)
    (lcd : K.lookup cd_shares = some ⟨occ, odc, .fields vsc, slc⟩) (hv11 : (vsc[11]? : Option Value) = some (.ref Pt)) (hKP : K.lookup Pt = none) (hPs : Pt ≠ cStatics)
    : ∃ (fd : FuncData) (cd Pt : Addr), (∀ (s : Shared) (us : List Value), us.length = (["calls"] : List Str).length → BindsTo s fd ⟨us, []⟩ ((["calls"] : List Str).zip us)) ∧ K.lookup Pt = none ∧ PySem.W.tabIn K "shares" = some (cd, Pt) ∧ Pt ≠ cStatics ∧
      ∀ base : Heap, K.In base → base.Ns mainGlobals mg → LamOk mg base cd Pt → FnOk P w K mg base CX0 8 fa fd ["calls"] (spAnswers K Pt 19) := by
  have e0 := hfa.symm.trans (PySem.W.mg_of X G a_answers)
  cases e0
  have T : Txt K mg ⟨CI, CC, CB⟩ := ⟨⟨pgI, hdI, poI, saI⟩, ⟨pgC, hdC, poC, saC⟩, ⟨pgB, hdB, poB, saB⟩, by simp only [List.forall_mem_cons]; exact ⟨nI_ordered, nI_rate, nI_trade, nI_done, List.forall_mem_nil _⟩, by simp only [List.forall_mem_cons]; exact ⟨nC_amount, nC_parts, nC_paid, List.forall_mem_nil _⟩, by simp only [List.forall_mem_cons]; exact ⟨nB_begun, nB_keep, nB_most, nB_entries, nB_certificates, nB_handed, nB_closed, List.forall_mem_nil _⟩, PySem.W.mg_of X G aKI, PySem.W.mg_of X G aKC, PySem.W.mg_of X G aKB, PySem.W.mg_none_of X G b_sum, PySem.W.mg_none_of X G b_min, PySem.W.mg_none_of X G b_max, PySem.W.mg_none_of X G b_len, PySem.W.mg_none_of X G b_range, PySem.W.mg_none_of X G b_sorted, PySem.W.mg_none_of X G b_all⟩
  have N : Cons mg := ⟨⟨_, PySem.W.mg_of X G v_MOST_ITEMS⟩, ⟨_, PySem.W.mg_of X G v_MOST_CERTIFICATES⟩, ⟨_, PySem.W.mg_of X G v_MOST_ORDERED⟩, ⟨_, PySem.W.mg_of X G v_MOST_RATE⟩, ⟨_, PySem.W.mg_of X G v_MOST_PER_THOUSAND⟩, ⟨_, PySem.W.mg_of X G v_TRADES⟩, ⟨_, PySem.W.mg_of X G v_BEGIN⟩, ⟨_, PySem.W.mg_of X G v_NO_SUCH⟩, ⟨_, PySem.W.mg_of X G v_NOTHING_DUE⟩, ⟨_, PySem.W.mg_of X G v_NOT_BEGUN⟩, ⟨_, PySem.W.mg_of X G v_NOT_HANDED_OVER⟩, ⟨_, PySem.W.mg_of X G v_HANDED_OVER⟩, ⟨_, PySem.W.mg_of X G v_ALREADY⟩, ⟨_, PySem.W.mg_of X G v_OUT_OF_RANGE⟩, ⟨_, PySem.W.mg_of X G v_FULL⟩, ⟨_, PySem.W.mg_of X G v_AT_ODDS⟩⟩
  have F_Item_init := fun_mk (st := s_Item_init) l_Item_init c_Item_init k_Item_init
  have b_Item_init := F_Item_init.binds (ps := ["self", "ordered", "rate", "trade"]) fun _ _ _ _ _ _ us hl => match us, hl with | [_, _, _, _], _ => rfl
  have F_Certificate_init := fun_mk (st := s_Certificate_init) l_Certificate_init c_Certificate_init k_Certificate_init
  have b_Certificate_init := F_Certificate_init.binds (ps := ["self", "amount", "parts"]) fun _ _ _ _ _ _ us hl => match us, hl with | [_, _, _], _ => rfl
  have F_Certificate_unpaid := fun_mk (st := s_Certificate_unpaid) l_Certificate_unpaid c_Certificate_unpaid k_Certificate_unpaid
  have b_Certificate_unpaid := F_Certificate_unpaid.binds (ps := ["self"]) fun _ _ _ _ _ _ us hl => match us, hl with | [_], _ => rfl
  have M_Certificate_unpaid : HasC K ⟨CI, CC, CB⟩ "unpaid" "Certificate.unpaid" s_Certificate_unpaid ["self"] f_Certificate_unpaid _ := ⟨F_Certificate_unpaid, b_Certificate_unpaid, ⟨a_Certificate_unpaid, i_Certificate_unpaid, k_Certificate_unpaid⟩⟩
  have F_Bill_init := fun_mk (st := s_Bill_init) l_Bill_init c_Bill_init k_Bill_init
  have b_Bill_init := F_Bill_init.binds (ps := ["self"]) fun _ _ _ _ _ _ us hl => match us, hl with | [_], _ => rfl
  have F_Bill_start := fun_mk (st := s_Bill_start) l_Bill_start c_Bill_start k_Bill_start
  have b_Bill_start := F_Bill_start.binds (ps := ["self", "keep", "most"]) fun _ _ _ _ _ _ us hl => match us, hl with | [_, _, _], _ => rfl
  have M_Bill_start : Has K ⟨CI, CC, CB⟩ "start" "Bill.start" s_Bill_start ["self", "keep", "most"] f_Bill_start _ := ⟨F_Bill_start, b_Bill_start, ⟨a_Bill_start, i_Bill_start, k_Bill_start⟩⟩
  have F_Bill_has_item := fun_mk (st := s_Bill_has_item) l_Bill_has_item c_Bill_has_item k_Bill_has_item
  have b_Bill_has_item := F_Bill_has_item.binds (ps := ["self", "i"]) fun _ _ _ _ _ _ us hl => match us, hl with | [_, _], _ => rfl
  have M_Bill_has_item : Has K ⟨CI, CC, CB⟩ "has_item" "Bill.has_item" s_Bill_has_item ["self", "i"] f_Bill_has_item _ := ⟨F_Bill_has_item, b_Bill_has_item, ⟨a_Bill_has_item, i_Bill_has_item, k_Bill_has_item⟩⟩
  have F_Bill_has_certificate := fun_mk (st := s_Bill_has_certificate) l_Bill_has_certificate c_Bill_has_certificate k_Bill_has_certificate
  have b_Bill_has_certificate := F_Bill_has_certificate.binds (ps := ["self", "n"]) fun _ _ _ _ _ _ us hl => match us, hl with | [_, _], _ => rfl
  have M_Bill_has_certificate : Has K ⟨CI, CC, CB⟩ "has_certificate" "Bill.has_certificate" s_Bill_has_certificate ["self", "n"] f_Bill_has_certificate _ := ⟨F_Bill_has_certificate, b_Bill_has_certificate, ⟨a_Bill_has_certificate, i_Bill_has_certificate, k_Bill_has_certificate⟩⟩
  have F_Bill_all_done := fun_mk (st := s_Bill_all_done) l_Bill_all_done c_Bill_all_done k_Bill_all_done
  have b_Bill_all_done := F_Bill_all_done.binds (ps := ["self"]) fun _ _ _ _ _ _ us hl => match us, hl with | [_], _ => rfl
  have M_Bill_all_done : Has K ⟨CI, CC, CB⟩ "all_done" "Bill.all_done" s_Bill_all_done ["self"] f_Bill_all_done _ := ⟨F_Bill_all_done, b_Bill_all_done, ⟨a_Bill_all_done, i_Bill_all_done, k_Bill_all_done⟩⟩
  have F_Bill_value := fun_mk (st := s_Bill_value) l_Bill_value c_Bill_value k_Bill_value
  have b_Bill_value := F_Bill_value.binds (ps := ["self"]) fun _ _ _ _ _ _ us hl => match us, hl with | [_], _ => rfl
  have M_Bill_value : Has K ⟨CI, CC, CB⟩ "value" "Bill.value" s_Bill_value ["self"] f_Bill_value _ := ⟨F_Bill_value, b_Bill_value, ⟨a_Bill_value, i_Bill_value, k_Bill_value⟩⟩
  have F_Bill_contract := fun_mk (st := s_Bill_contract) l_Bill_contract c_Bill_contract k_Bill_contract
  have b_Bill_contract := F_Bill_contract.binds (ps := ["self"]) fun _ _ _ _ _ _ us hl => match us, hl with | [_], _ => rfl
  have M_Bill_contract : Has K ⟨CI, CC, CB⟩ "contract" "Bill.contract" s_Bill_contract ["self"] f_Bill_contract _ := ⟨F_Bill_contract, b_Bill_contract, ⟨a_Bill_contract, i_Bill_contract, k_Bill_contract⟩⟩
  have F_Bill_kept := fun_mk (st := s_Bill_kept) l_Bill_kept c_Bill_kept k_Bill_kept
  have b_Bill_kept := F_Bill_kept.binds (ps := ["self"]) fun _ _ _ _ _ _ us hl => match us, hl with | [_], _ => rfl
  have M_Bill_kept : Has K ⟨CI, CC, CB⟩ "kept" "Bill.kept" s_Bill_kept ["self"] f_Bill_kept _ := ⟨F_Bill_kept, b_Bill_kept, ⟨a_Bill_kept, i_Bill_kept, k_Bill_kept⟩⟩
  have F_Bill_owed := fun_mk (st := s_Bill_owed) l_Bill_owed c_Bill_owed k_Bill_owed
  have b_Bill_owed := F_Bill_owed.binds (ps := ["self"]) fun _ _ _ _ _ _ us hl => match us, hl with | [_], _ => rfl
  have M_Bill_owed : Has K ⟨CI, CC, CB⟩ "owed" "Bill.owed" s_Bill_owed ["self"] f_Bill_owed _ := ⟨F_Bill_owed, b_Bill_owed, ⟨a_Bill_owed, i_Bill_owed, k_Bill_owed⟩⟩
  have F_Bill_certified := fun_mk (st := s_Bill_certified) l_Bill_certified c_Bill_certified k_Bill_certified
  have b_Bill_certified := F_Bill_certified.binds (ps := ["self"]) fun _ _ _ _ _ _ us hl => match us, hl with | [_], _ => rfl
  have M_Bill_certified : Has K ⟨CI, CC, CB⟩ "certified" "Bill.certified" s_Bill_certified ["self"] f_Bill_certified _ := ⟨F_Bill_certified, b_Bill_certified, ⟨a_Bill_certified, i_Bill_certified, k_Bill_certified⟩⟩
  have F_Bill_all_paid := fun_mk (st := s_Bill_all_paid) l_Bill_all_paid c_Bill_all_paid k_Bill_all_paid
  have b_Bill_all_paid := F_Bill_all_paid.binds (ps := ["self"]) fun _ _ _ _ _ _ us hl => match us, hl with | [_], _ => rfl
  have M_Bill_all_paid : Has K ⟨CI, CC, CB⟩ "all_paid" "Bill.all_paid" s_Bill_all_paid ["self"] f_Bill_all_paid _ := ⟨F_Bill_all_paid, b_Bill_all_paid, ⟨a_Bill_all_paid, i_Bill_all_paid, k_Bill_all_paid⟩⟩
  have F_Bill_due := fun_mk (st := s_Bill_due) l_Bill_due c_Bill_due k_Bill_due
  have b_Bill_due := F_Bill_due.binds (ps := ["self"]) fun _ _ _ _ _ _ us hl => match us, hl with | [_], _ => rfl
  have M_Bill_due : Has K ⟨CI, CC, CB⟩ "due" "Bill.due" s_Bill_due ["self"] f_Bill_due _ := ⟨F_Bill_due, b_Bill_due, ⟨a_Bill_due, i_Bill_due, k_Bill_due⟩⟩
  have F_Bill_trade_value := fun_mk (st := s_Bill_trade_value) l_Bill_trade_value c_Bill_trade_value k_Bill_trade_value
  have b_Bill_trade_value := F_Bill_trade_value.binds (ps := ["self", "trade"]) fun _ _ _ _ _ _ us hl => match us, hl with | [_, _], _ => rfl
  have M_Bill_trade_value : Has K ⟨CI, CC, CB⟩ "trade_value" "Bill.trade_value" s_Bill_trade_value ["self", "trade"] f_Bill_trade_value _ := ⟨F_Bill_trade_value, b_Bill_trade_value, ⟨a_Bill_trade_value, i_Bill_trade_value, k_Bill_trade_value⟩⟩
  have F_Bill_trade_got := fun_mk (st := s_Bill_trade_got) l_Bill_trade_got c_Bill_trade_got k_Bill_trade_got
  have b_Bill_trade_got := F_Bill_trade_got.binds (ps := ["self", "trade"]) fun _ _ _ _ _ _ us hl => match us, hl with | [_, _], _ => rfl
  have M_Bill_trade_got : Has K ⟨CI, CC, CB⟩ "trade_got" "Bill.trade_got" s_Bill_trade_got ["self", "trade"] f_Bill_trade_got _ := ⟨F_Bill_trade_got, b_Bill_trade_got, ⟨a_Bill_trade_got, i_Bill_trade_got, k_Bill_trade_got⟩⟩
  have F_shares : FunC K "shares" "shares" s_shares f_shares _ cd_shares := ⟨⟨_, _, _, _, _, _, _, _, rfl, l_shares, c_shares⟩⟩
  have b_shares : Binds K _ ["amount", "worths"] [] := .all (fd := PySem.W.fnOf "shares" "shares" (defArgs s_shares) (defBody s_shares) (defScope s_shares) .none kV_shares dc_shares pm_shares an_shares (.ref cd_shares) ct_shares) fun us hl => match us, hl with | [_, _], _ => rfl
  have D_shares : Def K mg "shares" ["amount", "worths"] f_shares _ := ⟨PySem.W.mg_of X G a_shares, k_shares, b_shares⟩
  have F_parts_by_trade := fun_mk (st := s_parts_by_trade) l_parts_by_trade c_parts_by_trade k_parts_by_trade
  have b_parts_by_trade := F_parts_by_trade.binds (ps := ["bill", "amount"]) fun _ _ _ _ _ _ us hl => match us, hl with | [_, _], _ => rfl
  have D_parts_by_trade : Def K mg "parts_by_trade" ["bill", "amount"] f_parts_by_trade _ := ⟨PySem.W.mg_of X G a_parts_by_trade, k_parts_by_trade, b_parts_by_trade⟩
  have F_begin := fun_mk (st := s_begin) l_begin c_begin k_begin
  have b_begin := F_begin.binds (ps := ["bill", "given"]) fun _ _ _ _ _ _ us hl => match us, hl with | [_, _], _ => rfl
  have D_begin : Def K mg "begin" ["bill", "given"] f_begin _ := ⟨PySem.W.mg_of X G a_begin, k_begin, b_begin⟩
  have F_item := fun_mk (st := s_item) l_item c_item k_item
  have b_item := F_item.binds (ps := ["bill", "given"]) fun _ _ _ _ _ _ us hl => match us, hl with | [_, _], _ => rfl
  have D_item : Def K mg "item" ["bill", "given"] f_item _ := ⟨PySem.W.mg_of X G a_item, k_item, b_item⟩
  have F_change := fun_mk (st := s_change) l_change c_change k_change
  have b_change := F_change.binds (ps := ["bill", "given"]) fun _ _ _ _ _ _ us hl => match us, hl with | [_, _], _ => rfl
  have D_change : Def K mg "change" ["bill", "given"] f_change _ := ⟨PySem.W.mg_of X G a_change, k_change, b_change⟩
  have F_measure := fun_mk (st := s_measure) l_measure c_measure k_measure
  have b_measure := F_measure.binds (ps := ["bill", "given"]) fun _ _ _ _ _ _ us hl => match us, hl with | [_, _], _ => rfl
  have D_measure : Def K mg "measure" ["bill", "given"] f_measure _ := ⟨PySem.W.mg_of X G a_measure, k_measure, b_measure⟩
  have F_value := fun_mk (st := s_value) l_value c_value k_value
  have b_value := F_value.binds (ps := ["bill", "given"]) fun _ _ _ _ _ _ us hl => match us, hl with | [_, _], _ => rfl
  have D_value : Def K mg "value" ["bill", "given"] f_value _ := ⟨PySem.W.mg_of X G a_value, k_value, b_value⟩
  have F_contract := fun_mk (st := s_contract) l_contract c_contract k_contract
  have b_contract := F_contract.binds (ps := ["bill", "given"]) fun _ _ _ _ _ _ us hl => match us, hl with | [_, _], _ => rfl
  have D_contract : Def K mg "contract" ["bill", "given"] f_contract _ := ⟨PySem.W.mg_of X G a_contract, k_contract, b_contract⟩
  have F_left := fun_mk (st := s_left) l_left c_left k_left
  have b_left := F_left.binds (ps := ["bill", "given"]) fun _ _ _ _ _ _ us hl => match us, hl with | [_, _], _ => rfl
  have D_left : Def K mg "left" ["bill", "given"] f_left _ := ⟨PySem.W.mg_of X G a_left, k_left, b_left⟩
  have F_kept := fun_mk (st := s_kept) l_kept c_kept k_kept
  have b_kept := F_kept.binds (ps := ["bill", "given"]) fun _ _ _ _ _ _ us hl => match us, hl with | [_, _], _ => rfl
  have D_kept : Def K mg "kept" ["bill", "given"] f_kept _ := ⟨PySem.W.mg_of X G a_kept, k_kept, b_kept⟩
  have F_due := fun_mk (st := s_due) l_due c_due k_due
  have b_due := F_due.binds (ps := ["bill", "given"]) fun _ _ _ _ _ _ us hl => match us, hl with | [_, _], _ => rfl
  have D_due : Def K mg "due" ["bill", "given"] f_due _ := ⟨PySem.W.mg_of X G a_due, k_due, b_due⟩
  have F_certify := fun_mk (st := s_certify) l_certify c_certify k_certify
  have b_certify := F_certify.binds (ps := ["bill", "given"]) fun _ _ _ _ _ _ us hl => match us, hl with | [_, _], _ => rfl
  have D_certify : Def K mg "certify" ["bill", "given"] f_certify _ := ⟨PySem.W.mg_of X G a_certify, k_certify, b_certify⟩
  have F_pay := fun_mk (st := s_pay) l_pay c_pay k_pay
  have b_pay := F_pay.binds (ps := ["bill", "given"]) fun _ _ _ _ _ _ us hl => match us, hl with | [_, _], _ => rfl
  have D_pay : Def K mg "pay" ["bill", "given"] f_pay _ := ⟨PySem.W.mg_of X G a_pay, k_pay, b_pay⟩
  have F_still_open := fun_mk (st := s_still_open) l_still_open c_still_open k_still_open
  have b_still_open := F_still_open.binds (ps := ["bill", "given"]) fun _ _ _ _ _ _ us hl => match us, hl with | [_, _], _ => rfl
  have D_still_open : Def K mg "still_open" ["bill", "given"] f_still_open _ := ⟨PySem.W.mg_of X G a_still_open, k_still_open, b_still_open⟩
  have F_split := fun_mk (st := s_split) l_split c_split k_split
  have b_split := F_split.binds (ps := ["bill", "given"]) fun _ _ _ _ _ _ us hl => match us, hl with | [_, _], _ => rfl
  have D_split : Def K mg "split" ["bill", "given"] f_split _ := ⟨PySem.W.mg_of X G a_split, k_split, b_split⟩
  have F_of_trade := fun_mk (st := s_of_trade) l_of_trade c_of_trade k_of_trade
  have b_of_trade := F_of_trade.binds (ps := ["bill", "given"]) fun _ _ _ _ _ _ us hl => match us, hl with | [_, _], _ => rfl
  have D_of_trade : Def K mg "of_trade" ["bill", "given"] f_of_trade _ := ⟨PySem.W.mg_of X G a_of_trade, k_of_trade, b_of_trade⟩
  have F_hand := fun_mk (st := s_hand) l_hand c_hand k_hand
  have b_hand := F_hand.binds (ps := ["bill", "given"]) fun _ _ _ _ _ _ us hl => match us, hl with | [_, _], _ => rfl
  have D_hand : Def K mg "hand" ["bill", "given"] f_hand _ := ⟨PySem.W.mg_of X G a_hand, k_hand, b_hand⟩
  have F_close := fun_mk (st := s_close) l_close c_close k_close
  have b_close := F_close.binds (ps := ["bill", "given"]) fun _ _ _ _ _ _ us hl => match us, hl with | [_, _], _ => rfl
  have D_close : Def K mg "close" ["bill", "given"] f_close _ := ⟨PySem.W.mg_of X G a_close, k_close, b_close⟩
  have F_sums := fun_mk (st := s_sums) l_sums c_sums k_sums
  have b_sums := F_sums.binds (ps := ["bill", "given"]) fun _ _ _ _ _ _ us hl => match us, hl with | [_, _], _ => rfl
  have D_sums : Def K mg "sums" ["bill", "given"] f_sums _ := ⟨PySem.W.mg_of X G a_sums, k_sums, b_sums⟩
  have F_look := fun_mk (st := s_look) l_look c_look k_look
  have b_look := F_look.binds (ps := ["bill", "given"]) fun _ _ _ _ _ _ us hl => match us, hl with | [_, _], _ => rfl
  have D_look : Def K mg "look" ["bill", "given"] f_look _ := ⟨PySem.W.mg_of X G a_look, k_look, b_look⟩
  have F_state := fun_mk (st := s_state) l_state c_state k_state
  have b_state := F_state.binds (ps := ["bill", "given"]) fun _ _ _ _ _ _ us hl => match us, hl with | [_, _], _ => rfl
  have D_state : Def K mg "state" ["bill", "given"] f_state _ := ⟨PySem.W.mg_of X G a_state, k_state, b_state⟩
  have F_answer := fun_mk (st := s_answer) l_answer c_answer k_answer
  have b_answer := F_answer.binds (ps := ["bill", "number", "given"]) fun _ _ _ _ _ _ us hl => match us, hl with | [_, _, _], _ => rfl
  have D_answer : Def K mg "answer" ["bill", "number", "given"] f_answer _ := ⟨PySem.W.mg_of X G a_answer, k_answer, b_answer⟩
  have F_answers := fun_mk (st := s_answers) l_answers c_answers k_answers
  have b_answers := F_answers.binds (ps := ["calls"]) fun _ _ _ _ _ _ us hl => match us, hl with | [_], _ => rfl
  refine ⟨PySem.W.fnOf "answers" "answers" (defArgs s_answers) (defBody s_answers) (defScope s_answers) .none kV_answers dc_answers pm_answers an_answers cd_answers ct_answers, cd_shares, Pt, fun s us hu => match us, hu with | [_], _ => .of_eq rfl, hKP, tab_mk a_shares l_shares rfl lcd hv11, hPs, fun base _ _ LO => ?_⟩
  have G_value : FnOk P w K mg base CX0 1 _ _ ["self"] (spNum ⟨CI, CC, CB⟩ fun b => (Kp223.value b : Nat)) := ok_value F_Bill_value T
  have G_contract : FnOk P w K mg base CX0 1 _ _ ["self"] (spNum ⟨CI, CC, CB⟩ fun b => (Kp223.contract b : Nat)) := ok_contract F_Bill_contract T
  have G_certified : FnOk P w K mg base CX0 1 _ _ ["self"] (spNum ⟨CI, CC, CB⟩ fun b => (Kp223.certified b : Nat)) := ok_certified F_Bill_certified T
  have G_kept : FnOk P w K mg base CX0 2 _ _ ["self"] (spNum ⟨CI, CC, CB⟩ fun b => (Kp223.kept b : Nat)) := ok_kept F_Bill_kept T M_Bill_value M_Bill_contract
  have G_owed : FnOk P w K mg base CX0 3 _ _ ["self"] (spNum ⟨CI, CC, CB⟩ fun b => (Kp223.owed b : Nat)) := ok_owed F_Bill_owed T M_Bill_value M_Bill_kept G_value G_kept
  have G_due : FnOk P w K mg base CX0 4 _ _ ["self"] (spNum ⟨CI, CC, CB⟩ fun b => (Kp223.due b : Nat)) := ok_due F_Bill_due T M_Bill_owed M_Bill_certified G_owed G_certified
  have G_shares : FnOk P w K mg base CX0 3 _ _ ["amount", "worths"] (spShares Pt) := ok_shares F_shares T LO
  have G_parts : FnOk P w K mg base CX0 4 _ _ ["bill", "amount"] (spParts ⟨CI, CC, CB⟩ Pt) := ok_parts F_parts_by_trade T N D_shares G_shares M_Bill_certified M_Bill_trade_value M_Bill_trade_got
  have DC : CallsOk P w K mg base ⟨CI, CC, CB⟩ Pt aC 19 := by
    refine ⟨PySem.W.mg_of X G aCalls, [r0, r1, r2, r3, r4, r5, r6, r7, r8, r9, r10, r11, r12, r13, r14, r15, r16, r17, r18], rfl, fun H => .inr ⟨_, _, _, lC, rfl, rfl, by show 19 ≤ sizeLine; decide, .cons rfl (.cons rfl (.cons rfl (.cons rfl (.cons rfl (.cons rfl (.cons rfl (.cons rfl (.cons rfl (.cons rfl (.cons rfl (.cons rfl (.cons rfl (.cons rfl (.cons rfl (.cons rfl (.cons rfl (.cons rfl (.cons rfl .nil))))))))))))))))))⟩, fun n a e => ?_⟩
    match n, e with
    | 0, e =>
      obtain rfl : r0 = a := Option.some.inj e
      have g : FnOk P w K mg base CX0 _ _ _ ["bill", "given"] (spH ⟨CI, CC, CB⟩ Pt 0) := ok_begin F_begin T N M_Bill_start
      exact ⟨_, _, fun H => .inr ⟨_, _, _, lr0, rfl, rfl, by show 2 ≤ sizeLine; decide, .cons rfl (.cons ⟨_, rfl⟩ .nil)⟩, g.mono (by decide), k_begin, b_begin⟩
    | 1, e =>
      obtain rfl : r1 = a := Option.some.inj e
      have g : FnOk P w K mg base CX0 _ _ _ ["bill", "given"] (spH ⟨CI, CC, CB⟩ Pt 1) := ok_item F_item T N ⟨mkI, a_Item_init, i_Item_init, kcI⟩ F_Item_init b_Item_init
      exact ⟨_, _, fun H => .inr ⟨_, _, _, lr1, rfl, rfl, by show 2 ≤ sizeLine; decide, .cons rfl (.cons ⟨_, rfl⟩ .nil)⟩, g.mono (by decide), k_item, b_item⟩
    | 2, e =>
      obtain rfl : r2 = a := Option.some.inj e
      have g : FnOk P w K mg base CX0 _ _ _ ["bill", "given"] (spH ⟨CI, CC, CB⟩ Pt 2) := ok_change F_change T N M_Bill_has_item
      exact ⟨_, _, fun H => .inr ⟨_, _, _, lr2, rfl, rfl, by show 2 ≤ sizeLine; decide, .cons rfl (.cons ⟨_, rfl⟩ .nil)⟩, g.mono (by decide), k_change, b_change⟩
    | 3, e =>
      obtain rfl : r3 = a := Option.some.inj e
      have g : FnOk P w K mg base CX0 _ _ _ ["bill", "given"] (spH ⟨CI, CC, CB⟩ Pt 3) := ok_measure F_measure T N M_Bill_has_item
      exact ⟨_, _, fun H => .inr ⟨_, _, _, lr3, rfl, rfl, by show 2 ≤ sizeLine; decide, .cons rfl (.cons ⟨_, rfl⟩ .nil)⟩, g.mono (by decide), k_measure, b_measure⟩
    | 4, e =>
      obtain rfl : r4 = a := Option.some.inj e
      have g : FnOk P w K mg base CX0 _ _ _ ["bill", "given"] (spH ⟨CI, CC, CB⟩ Pt 4) := ok_h_value F_value T M_Bill_value G_value
      exact ⟨_, _, fun H => .inr ⟨_, _, _, lr4, rfl, rfl, by show 2 ≤ sizeLine; decide, .cons rfl (.cons ⟨_, rfl⟩ .nil)⟩, g.mono (by decide), k_value, b_value⟩
    | 5, e =>
      obtain rfl : r5 = a := Option.some.inj e
      have g : FnOk P w K mg base CX0 _ _ _ ["bill", "given"] (spH ⟨CI, CC, CB⟩ Pt 5) := ok_h_contract F_contract T M_Bill_contract G_contract
      exact ⟨_, _, fun H => .inr ⟨_, _, _, lr5, rfl, rfl, by show 2 ≤ sizeLine; decide, .cons rfl (.cons ⟨_, rfl⟩ .nil)⟩, g.mono (by decide), k_contract, b_contract⟩
    | 6, e =>
      obtain rfl : r6 = a := Option.some.inj e
      have g : FnOk P w K mg base CX0 _ _ _ ["bill", "given"] (spH ⟨CI, CC, CB⟩ Pt 6) := ok_h_left F_left T M_Bill_value M_Bill_contract
      exact ⟨_, _, fun H => .inr ⟨_, _, _, lr6, rfl, rfl, by show 2 ≤ sizeLine; decide, .cons rfl (.cons ⟨_, rfl⟩ .nil)⟩, g.mono (by decide), k_left, b_left⟩
    | 7, e =>
      obtain rfl : r7 = a := Option.some.inj e
      have g : FnOk P w K mg base CX0 _ _ _ ["bill", "given"] (spH ⟨CI, CC, CB⟩ Pt 7) := ok_h_kept F_kept T M_Bill_kept G_kept
      exact ⟨_, _, fun H => .inr ⟨_, _, _, lr7, rfl, rfl, by show 2 ≤ sizeLine; decide, .cons rfl (.cons ⟨_, rfl⟩ .nil)⟩, g.mono (by decide), k_kept, b_kept⟩
    | 8, e =>
      obtain rfl : r8 = a := Option.some.inj e
      have g : FnOk P w K mg base CX0 _ _ _ ["bill", "given"] (spH ⟨CI, CC, CB⟩ Pt 8) := ok_h_due F_due T M_Bill_due G_due
      exact ⟨_, _, fun H => .inr ⟨_, _, _, lr8, rfl, rfl, by show 2 ≤ sizeLine; decide, .cons rfl (.cons ⟨_, rfl⟩ .nil)⟩, g.mono (by decide), k_due, b_due⟩
    | 9, e =>
      obtain rfl : r9 = a := Option.some.inj e
      have g : FnOk P w K mg base CX0 _ _ _ ["bill", "given"] (spH ⟨CI, CC, CB⟩ Pt 9) := ok_certify F_certify T N M_Bill_due G_due D_parts_by_trade G_parts ⟨mkC, a_Certificate_init, i_Certificate_init, kcC⟩ F_Certificate_init b_Certificate_init
      exact ⟨_, _, fun H => .inr ⟨_, _, _, lr9, rfl, rfl, by show 2 ≤ sizeLine; decide, .cons rfl (.cons ⟨_, rfl⟩ .nil)⟩, g.mono (by decide), k_certify, b_certify⟩
    | 10, e =>
      obtain rfl : r10 = a := Option.some.inj e
      have g : FnOk P w K mg base CX0 _ _ _ ["bill", "given"] (spH ⟨CI, CC, CB⟩ Pt 10) := ok_pay F_pay T N M_Bill_has_certificate M_Certificate_unpaid
      exact ⟨_, _, fun H => .inr ⟨_, _, _, lr10, rfl, rfl, by show 2 ≤ sizeLine; decide, .cons rfl (.cons ⟨_, rfl⟩ .nil)⟩, g.mono (by decide), k_pay, b_pay⟩
    | 11, e =>
      obtain rfl : r11 = a := Option.some.inj e
      have g : FnOk P w K mg base CX0 _ _ _ ["bill", "given"] (spH ⟨CI, CC, CB⟩ Pt 11) := ok_open F_still_open T N M_Bill_has_certificate M_Certificate_unpaid
      exact ⟨_, _, fun H => .inr ⟨_, _, _, lr11, rfl, rfl, by show 2 ≤ sizeLine; decide, .cons rfl (.cons ⟨_, rfl⟩ .nil)⟩, g.mono (by decide), k_still_open, b_still_open⟩
    | 12, e =>
      obtain rfl : r12 = a := Option.some.inj e
      have g : FnOk P w K mg base CX0 _ _ _ ["bill", "given"] (spH ⟨CI, CC, CB⟩ Pt 12) := ok_split F_split T N M_Bill_has_certificate
      exact ⟨_, _, fun H => .inr ⟨_, _, _, lr12, rfl, rfl, by show 2 ≤ sizeLine; decide, .cons rfl (.cons ⟨_, rfl⟩ .nil)⟩, g.mono (by decide), k_split, b_split⟩
    | 13, e =>
      obtain rfl : r13 = a := Option.some.inj e
      have g : FnOk P w K mg base CX0 _ _ _ ["bill", "given"] (spH ⟨CI, CC, CB⟩ Pt 13) := ok_trade F_of_trade T N M_Bill_trade_value M_Bill_trade_got
      exact ⟨_, _, fun H => .inr ⟨_, _, _, lr13, rfl, rfl, by show 2 ≤ sizeLine; decide, .cons rfl (.cons ⟨_, rfl⟩ .nil)⟩, g.mono (by decide), k_of_trade, b_of_trade⟩
    | 14, e =>
      obtain rfl : r14 = a := Option.some.inj e
      have g : FnOk P w K mg base CX0 _ _ _ ["bill", "given"] (spH ⟨CI, CC, CB⟩ Pt 14) := ok_hand F_hand T N M_Bill_all_done M_Bill_due G_due
      exact ⟨_, _, fun H => .inr ⟨_, _, _, lr14, rfl, rfl, by show 2 ≤ sizeLine; decide, .cons rfl (.cons ⟨_, rfl⟩ .nil)⟩, g.mono (by decide), k_hand, b_hand⟩
    | 15, e =>
      obtain rfl : r15 = a := Option.some.inj e
      have g : FnOk P w K mg base CX0 _ _ _ ["bill", "given"] (spH ⟨CI, CC, CB⟩ Pt 15) := ok_close F_close T N M_Bill_due G_due
      exact ⟨_, _, fun H => .inr ⟨_, _, _, lr15, rfl, rfl, by show 2 ≤ sizeLine; decide, .cons rfl (.cons ⟨_, rfl⟩ .nil)⟩, g.mono (by decide), k_close, b_close⟩
    | 16, e =>
      obtain rfl : r16 = a := Option.some.inj e
      have g : FnOk P w K mg base CX0 _ _ _ ["bill", "given"] (spH ⟨CI, CC, CB⟩ Pt 16) := ok_sums F_sums T M_Bill_certified M_Bill_all_paid
      exact ⟨_, _, fun H => .inr ⟨_, _, _, lr16, rfl, rfl, by show 2 ≤ sizeLine; decide, .cons rfl (.cons ⟨_, rfl⟩ .nil)⟩, g.mono (by decide), k_sums, b_sums⟩
    | 17, e =>
      obtain rfl : r17 = a := Option.some.inj e
      have g : FnOk P w K mg base CX0 _ _ _ ["bill", "given"] (spH ⟨CI, CC, CB⟩ Pt 17) := ok_look F_look T N M_Bill_has_item
      exact ⟨_, _, fun H => .inr ⟨_, _, _, lr17, rfl, rfl, by show 2 ≤ sizeLine; decide, .cons rfl (.cons ⟨_, rfl⟩ .nil)⟩, g.mono (by decide), k_look, b_look⟩
    | 18, e =>
      obtain rfl : r18 = a := Option.some.inj e
      have g : FnOk P w K mg base CX0 _ _ _ ["bill", "given"] (spH ⟨CI, CC, CB⟩ Pt 18) := ok_state F_state T
      exact ⟨_, _, fun H => .inr ⟨_, _, _, lr18, rfl, rfl, by show 2 ≤ sizeLine; decide, .cons rfl (.cons ⟨_, rfl⟩ .nil)⟩, g.mono (by decide), k_state, b_state⟩
    | n + 19, e => simp at e
  have G_answer : FnOk P w K mg base CX0 7 _ _ ["bill", "number", "given"] (spAnswer ⟨CI, CC, CB⟩ Pt 19) := ok_answer F_answer T N DC
  have G_Bill : FnOk P w K mg base CX0 2 _ _ ["self"] (spBill ⟨CI, CC, CB⟩) := ok_Bill F_Bill_init T F_Bill_start b_Bill_start ⟨a_Bill_start, i_Bill_start, k_Bill_start⟩
  exact ok_answers F_answers T DC D_answer G_answer ⟨mkB, a_Bill_init, i_Bill_init, kcB⟩ b_Bill_init G_Bill
end Mp
open PySem PySem.W PyProof.Rows
set_option maxRecDepth 100000 in
set_option maxHeartbeats 0 in
theorem PySem.Challenge.cw_measuredpay_s01_answers_holds : PySem.Challenge.rw_measuredpay_s01_answers.Holds := by
  w_on; k_headS; (case hw => exact ⟨[.list [.int 4]], by decide +kernel, by decide +kernel⟩)
  k_fillS
  refine Mp.walk (k := 8) (NC := 19) (fun _ h => Mp.below19 h) (by decide +kernel) rfl ⟨rfl, by decide, by decide⟩ (fun w h Y => PySem.W.kIn_of Y) ?F
  case F =>
    intro w mg fa h Y KX G hmg
    refine' Mp.fin_ds ?ds (Mp.all_mk (P := Mp.row.prog) (w := w) KX G hmg ?aKI ?aKC ?aKB ?a_Item_init ?i_Item_init ?l_Item_init ?c_Item_init ?k_Item_init ?a_Certificate_init ?i_Certificate_init ?l_Certificate_init ?c_Certificate_init ?k_Certificate_init ?a_Certificate_unpaid ?i_Certificate_unpaid ?l_Certificate_unpaid ?c_Certificate_unpaid ?k_Certificate_unpaid ?a_Bill_init ?i_Bill_init ?l_Bill_init ?c_Bill_init ?k_Bill_init ?a_Bill_start ?i_Bill_start ?l_Bill_start ?c_Bill_start ?k_Bill_start ?a_Bill_has_item ?i_Bill_has_item ?l_Bill_has_item ?c_Bill_has_item ?k_Bill_has_item ?a_Bill_has_certificate ?i_Bill_has_certificate ?l_Bill_has_certificate ?c_Bill_has_certificate ?k_Bill_has_certificate ?a_Bill_all_done ?i_Bill_all_done ?l_Bill_all_done ?c_Bill_all_done ?k_Bill_all_done ?a_Bill_value ?i_Bill_value ?l_Bill_value ?c_Bill_value ?k_Bill_value ?a_Bill_contract ?i_Bill_contract ?l_Bill_contract ?c_Bill_contract ?k_Bill_contract ?a_Bill_kept ?i_Bill_kept ?l_Bill_kept ?c_Bill_kept ?k_Bill_kept ?a_Bill_owed ?i_Bill_owed ?l_Bill_owed ?c_Bill_owed ?k_Bill_owed ?a_Bill_certified ?i_Bill_certified ?l_Bill_certified ?c_Bill_certified ?k_Bill_certified ?a_Bill_all_paid ?i_Bill_all_paid ?l_Bill_all_paid ?c_Bill_all_paid ?k_Bill_all_paid ?a_Bill_due ?i_Bill_due ?l_Bill_due ?c_Bill_due ?k_Bill_due ?a_Bill_trade_value ?i_Bill_trade_value ?l_Bill_trade_value ?c_Bill_trade_value ?k_Bill_trade_value ?a_Bill_trade_got ?i_Bill_trade_got ?l_Bill_trade_got ?c_Bill_trade_got ?k_Bill_trade_got ?a_shares ?l_shares ?c_shares ?k_shares ?a_parts_by_trade ?l_parts_by_trade ?c_parts_by_trade ?k_parts_by_trade ?a_begin ?l_begin ?c_begin ?k_begin ?a_item ?l_item ?c_item ?k_item ?a_change ?l_change ?c_change ?k_change ?a_measure ?l_measure ?c_measure ?k_measure ?a_value ?l_value ?c_value ?k_value ?a_contract ?l_contract ?c_contract ?k_contract ?a_left ?l_left ?c_left ?k_left ?a_kept ?l_kept ?c_kept ?k_kept ?a_due ?l_due ?c_due ?k_due ?a_certify ?l_certify ?c_certify ?k_certify ?a_pay ?l_pay ?c_pay ?k_pay ?a_still_open ?l_still_open ?c_still_open ?k_still_open ?a_split ?l_split ?c_split ?k_split ?a_of_trade ?l_of_trade ?c_of_trade ?k_of_trade ?a_hand ?l_hand ?c_hand ?k_hand ?a_close ?l_close ?c_close ?k_close ?a_sums ?l_sums ?c_sums ?k_sums ?a_look ?l_look ?c_look ?k_look ?a_state ?l_state ?c_state ?k_state ?a_answer ?l_answer ?c_answer ?k_answer ?a_answers ?l_answers ?c_answers ?k_answers ?pgI ?hdI ?poI ?saI ?mkI ?kcI ?nI_ordered ?nI_rate ?nI_trade ?nI_done ?pgC ?hdC ?poC ?saC ?mkC ?kcC ?nC_amount ?nC_parts ?nC_paid ?pgB ?hdB ?poB ?saB ?mkB ?kcB ?nB_begun ?nB_keep ?nB_most ?nB_entries ?nB_certificates ?nB_handed ?nB_closed ?v_MOST_ITEMS ?v_MOST_CERTIFICATES ?v_MOST_ORDERED ?v_MOST_RATE ?v_MOST_PER_THOUSAND ?v_TRADES ?v_BEGIN ?v_NO_SUCH ?v_NOTHING_DUE ?v_NOT_BEGUN ?v_NOT_HANDED_OVER ?v_HANDED_OVER ?v_ALREADY ?v_OUT_OF_RANGE ?v_FULL ?v_AT_ODDS ?b_sum ?b_min ?b_max ?b_len ?b_range ?b_sorted ?b_all ?aCalls ?lC ?lr0 ?lr1 ?lr2 ?lr3 ?lr4 ?lr5 ?lr6 ?lr7 ?lr8 ?lr9 ?lr10 ?lr11 ?lr12 ?lr13 ?lr14 ?lr15 ?lr16 ?lr17 ?lr18 ?lcd ?hv11 ?hKP ?hPs)
    (case aKI => k_is)
    (case aKC => k_is)
    (case aKB => k_is)
    (case a_Item_init => k_is)
    (case i_Item_init => k_is)
    (case l_Item_init => k_is)
    (case c_Item_init => k_is)
    (case k_Item_init => k_is)
    (case a_Certificate_init => k_is)
    (case i_Certificate_init => k_is)
    (case l_Certificate_init => k_is)
    (case c_Certificate_init => k_is)
    (case k_Certificate_init => k_is)
    (case a_Certificate_unpaid => k_is)
    (case i_Certificate_unpaid => k_is)
    (case l_Certificate_unpaid => k_is)
    (case c_Certificate_unpaid => k_is)
    (case k_Certificate_unpaid => k_is)
    (case a_Bill_init => k_is)
    (case i_Bill_init => k_is)
    (case l_Bill_init => k_is)
    (case c_Bill_init => k_is)
    (case k_Bill_init => k_is)
    (case a_Bill_start => k_is)
    (case i_Bill_start => k_is)
    (case l_Bill_start => k_is)
    (case c_Bill_start => k_is)
    (case k_Bill_start => k_is)
    (case a_Bill_has_item => k_is)
    (case i_Bill_has_item => k_is)
    (case l_Bill_has_item => k_is)
    (case c_Bill_has_item => k_is)
    (case k_Bill_has_item => k_is)
    (case a_Bill_has_certificate => k_is)
    (case i_Bill_has_certificate => k_is)
    (case l_Bill_has_certificate => k_is)
    (case c_Bill_has_certificate => k_is)
    (case k_Bill_has_certificate => k_is)
    (case a_Bill_all_done => k_is)
    (case i_Bill_all_done => k_is)
    (case l_Bill_all_done => k_is)
    (case c_Bill_all_done => k_is)
    (case k_Bill_all_done => k_is)
    (case a_Bill_value => k_is)
    (case i_Bill_value => k_is)
    (case l_Bill_value => k_is)
    (case c_Bill_value => k_is)
    (case k_Bill_value => k_is)
    (case a_Bill_contract => k_is)
    (case i_Bill_contract => k_is)
    (case l_Bill_contract => k_is)
    (case c_Bill_contract => k_is)
    (case k_Bill_contract => k_is)
    (case a_Bill_kept => k_is)
    (case i_Bill_kept => k_is)
    (case l_Bill_kept => k_is)
    (case c_Bill_kept => k_is)
    (case k_Bill_kept => k_is)
    (case a_Bill_owed => k_is)
    (case i_Bill_owed => k_is)
    (case l_Bill_owed => k_is)
    (case c_Bill_owed => k_is)
    (case k_Bill_owed => k_is)
    (case a_Bill_certified => k_is)
    (case i_Bill_certified => k_is)
    (case l_Bill_certified => k_is)
    (case c_Bill_certified => k_is)
    (case k_Bill_certified => k_is)
    (case a_Bill_all_paid => k_is)
    (case i_Bill_all_paid => k_is)
    (case l_Bill_all_paid => k_is)
    (case c_Bill_all_paid => k_is)
    (case k_Bill_all_paid => k_is)
    (case a_Bill_due => k_is)
    (case i_Bill_due => k_is)
    (case l_Bill_due => k_is)
    (case c_Bill_due => k_is)
    (case k_Bill_due => k_is)
    (case a_Bill_trade_value => k_is)
    (case i_Bill_trade_value => k_is)
    (case l_Bill_trade_value => k_is)
    (case c_Bill_trade_value => k_is)
    (case k_Bill_trade_value => k_is)
    (case a_Bill_trade_got => k_is)
    (case i_Bill_trade_got => k_is)
    (case l_Bill_trade_got => k_is)
    (case c_Bill_trade_got => k_is)
    (case k_Bill_trade_got => k_is)
    (case a_shares => k_is)
    (case l_shares => k_is)
    (case c_shares => k_is)
    (case k_shares => k_is)
    (case a_parts_by_trade => k_is)
    (case l_parts_by_trade => k_is)
    (case c_parts_by_trade => k_is)
    (case k_parts_by_trade => k_is)
    (case a_begin => k_is)
    (case l_begin => k_is)
    (case c_begin => k_is)
    (case k_begin => k_is)
    (case a_item => k_is)
    (case l_item => k_is)
    (case c_item => k_is)
    (case k_item => k_is)
    (case a_change => k_is)
    (case l_change => k_is)
    (case c_change => k_is)
    (case k_change => k_is)
    (case a_measure => k_is)
    (case l_measure => k_is)
    (case c_measure => k_is)
    (case k_measure => k_is)
    (case a_value => k_is)
    (case l_value => k_is)
    (case c_value => k_is)
    (case k_value => k_is)
    (case a_contract => k_is)
    (case l_contract => k_is)
    (case c_contract => k_is)
    (case k_contract => k_is)
    (case a_left => k_is)
    (case l_left => k_is)
    (case c_left => k_is)
    (case k_left => k_is)
    (case a_kept => k_is)
    (case l_kept => k_is)
    (case c_kept => k_is)
    (case k_kept => k_is)
    (case a_due => k_is)
    (case l_due => k_is)
    (case c_due => k_is)
    (case k_due => k_is)
    (case a_certify => k_is)
    (case l_certify => k_is)
    (case c_certify => k_is)
    (case k_certify => k_is)
    (case a_pay => k_is)
    (case l_pay => k_is)
    (case c_pay => k_is)
    (case k_pay => k_is)
    (case a_still_open => k_is)
    (case l_still_open => k_is)
    (case c_still_open => k_is)
    (case k_still_open => k_is)
    (case a_split => k_is)
    (case l_split => k_is)
    (case c_split => k_is)
    (case k_split => k_is)
    (case a_of_trade => k_is)
    (case l_of_trade => k_is)
    (case c_of_trade => k_is)
    (case k_of_trade => k_is)
    (case a_hand => k_is)
    (case l_hand => k_is)
    (case c_hand => k_is)
    (case k_hand => k_is)
    (case a_close => k_is)
    (case l_close => k_is)
    (case c_close => k_is)
    (case k_close => k_is)
    (case a_sums => k_is)
    (case l_sums => k_is)
    (case c_sums => k_is)
    (case k_sums => k_is)
    (case a_look => k_is)
    (case l_look => k_is)
    (case c_look => k_is)
    (case k_look => k_is)
    (case a_state => k_is)
    (case l_state => k_is)
    (case c_state => k_is)
    (case k_state => k_is)
    (case a_answer => k_is)
    (case l_answer => k_is)
    (case c_answer => k_is)
    (case k_answer => k_is)
    (case a_answers => k_is)
    (case l_answers => k_is)
    (case c_answers => k_is)
    (case k_answers => k_is)
    (case pgI => k_is)
    (case hdI => k_is)
    (case poI => k_is)
    (case saI => k_is)
    (case mkI => k_is)
    (case kcI => k_is)
    (case nI_ordered => k_is)
    (case nI_rate => k_is)
    (case nI_trade => k_is)
    (case nI_done => k_is)
    (case pgC => k_is)
    (case hdC => k_is)
    (case poC => k_is)
    (case saC => k_is)
    (case mkC => k_is)
    (case kcC => k_is)
    (case nC_amount => k_is)
    (case nC_parts => k_is)
    (case nC_paid => k_is)
    (case pgB => k_is)
    (case hdB => k_is)
    (case poB => k_is)
    (case saB => k_is)
    (case mkB => k_is)
    (case kcB => k_is)
    (case nB_begun => k_is)
    (case nB_keep => k_is)
    (case nB_most => k_is)
    (case nB_entries => k_is)
    (case nB_certificates => k_is)
    (case nB_handed => k_is)
    (case nB_closed => k_is)
    (case v_MOST_ITEMS => k_is)
    (case v_MOST_CERTIFICATES => k_is)
    (case v_MOST_ORDERED => k_is)
    (case v_MOST_RATE => k_is)
    (case v_MOST_PER_THOUSAND => k_is)
    (case v_TRADES => k_is)
    (case v_BEGIN => k_is)
    (case v_NO_SUCH => k_is)
    (case v_NOTHING_DUE => k_is)
    (case v_NOT_BEGUN => k_is)
    (case v_NOT_HANDED_OVER => k_is)
    (case v_HANDED_OVER => k_is)
    (case v_ALREADY => k_is)
    (case v_OUT_OF_RANGE => k_is)
    (case v_FULL => k_is)
    (case v_AT_ODDS => k_is)
    (case b_sum => k_is)
    (case b_min => k_is)
    (case b_max => k_is)
    (case b_len => k_is)
    (case b_range => k_is)
    (case b_sorted => k_is)
    (case b_all => k_is)
    (case aCalls => k_is)
    (case lC => k_is)
    (case lr0 => k_is)
    (case lr1 => k_is)
    (case lr2 => k_is)
    (case lr3 => k_is)
    (case lr4 => k_is)
    (case lr5 => k_is)
    (case lr6 => k_is)
    (case lr7 => k_is)
    (case lr8 => k_is)
    (case lr9 => k_is)
    (case lr10 => k_is)
    (case lr11 => k_is)
    (case lr12 => k_is)
    (case lr13 => k_is)
    (case lr14 => k_is)
    (case lr15 => k_is)
    (case lr16 => k_is)
    (case lr17 => k_is)
    (case lr18 => k_is)
    (case lcd => k_is)
    (case hv11 => rfl)
    (case hKP => first | k_is | kernel_rfl | rfl)
    (case hPs => decide)
    (case ds => exact ⟨_, rfl⟩)
#print axioms PySem.Challenge.cw_measuredpay_s01_answers_holds

