import PyProof.Rows.All
import Wide.All
import OpenK.AllK
import Wide.FinOn
import PyProof.EqAt
import PyProof.EqKinds
import PyProof.TupleCall
import KE.BitLaws
import Open.SpecLaws
import KE.OsHead
import KE.OsGo
import PySem.Challenge.RW_coldspiral_s01_answers
set_option Elab.async false
set_option linter.all false
set_option maxRecDepth 100000
/-! THE HAND LAYER, for ints, bools, texts, own classes, lists, tuples, dicts, comprehensions, walks over dicts, enumerate, zip, reversed, texts, calls, loops. Paste it whole ahead of your own text; what your proof does not reach may be deleted. -/
namespace L2
open PySem PySem.Spec PyProof.Rows

/-- a key: an int or a str -/
abbrev Key := Sum Int Str
def keyIs : Key → Value → Bool
  | .inl k, v => Value.isInt k v
  | .inr x, v => Value.isStrOf x v
def keyH (w : World) : Key → Int
  | .inl k => hashInt k
  | .inr x => hashStr w x
theorem keyIs_shape : ∀ {k : Key} {v : Value}, keyIs k v = true → (∃ i t, k = Sum.inl i ∧ v = Value.int i t) ∨ (∃ x t, k = Sum.inr x ∧ v = Value.str x t)
  | .inl i, v, h => by
    obtain ⟨t, e⟩ := Value.isInt_shape (k := i) (v := v) h
    exact .inl ⟨i, t, rfl, e⟩
  | .inr x, v, h => by
    obtain ⟨t, e⟩ := Value.isStrOf_shape (x := x) (v := v) h
    exact .inr ⟨x, t, rfl, e⟩
theorem key_ll (a b : Int) : decide ((Sum.inl a : Key) = Sum.inl b) = (a == b) := by
  by_cases e : a = b
  · subst e; simp
  · have h : ¬ (Sum.inl a : Key) = Sum.inl b := fun q => e (Sum.inl.inj q)
    rw [decide_eq_false h]
    exact (beq_eq_false_iff_ne.mpr e).symm
theorem key_rr (a b : Str) : decide ((Sum.inr a : Key) = Sum.inr b) = decide (a = b) := by
  by_cases e : a = b
  · subst e; simp
  · have h : ¬ (Sum.inr a : Key) = Sum.inr b := fun q => e (Sum.inr.inj q)
    rw [decide_eq_false h, decide_eq_false e]
theorem key_lr (a : Int) (b : Str) : decide ((Sum.inl a : Key) = Sum.inr b) = false := decide_eq_false (fun q => nomatch q)
theorem key_rl (a : Str) (b : Int) : decide ((Sum.inr a : Key) = Sum.inl b) = false := decide_eq_false (fun q => nomatch q)

def mixKind (prog : Program) (w : World) : PySem.KeyKind prog w Key where
  is := keyIs
  hash := keyH w
  inj := fun v a b ha hb => by
    rcases keyIs_shape ha with ⟨i, t, rfl, rfl⟩ | ⟨x, t, rfl, rfl⟩
    · rcases keyIs_shape hb with ⟨j, u, rfl, e⟩ | ⟨y, u, rfl, e⟩
      · injection e with e1 _; rw [e1]
      · exact nomatch e
    · rcases keyIs_shape hb with ⟨j, u, rfl, e⟩ | ⟨y, u, rfl, e⟩
      · exact nomatch e
      · injection e with e1 _; rw [e1]
  byValue := fun k v h => by
    rcases keyIs_shape h with ⟨i, t, rfl, rfl⟩ | ⟨x, t, rfl, rfl⟩ <;> rfl
  pyHash := fun hv h => by
    rcases keyIs_shape hv with ⟨i, t, rfl, rfl⟩ | ⟨x, t, rfl, rfl⟩
    · exact wpAny_pyHash_int h
    · exact wpAny_pyHash_str h
  eqBool := fun hu hv h => by
    rcases keyIs_shape hu with ⟨i, t, rfl, rfl⟩ | ⟨x, t, rfl, rfl⟩
    · rcases keyIs_shape hv with ⟨j, u, rfl, rfl⟩ | ⟨y, u, rfl, rfl⟩
      · rw [key_ll] at h; exact wpAny_eqBool_int h
      · rw [key_lr] at h; exact SeqAt.EqAt.int_str i t y u _ _ _ _ h
    · rcases keyIs_shape hv with ⟨j, u, rfl, rfl⟩ | ⟨y, u, rfl, rfl⟩
      · rw [key_rl] at h; exact SeqAt.EqAt.str_int x t j u _ _ _ _ h
      · rw [key_rr] at h; exact wpAny_eqBool_str h
  «strs» := fun k x t v h => by
    rcases keyIs_shape h with ⟨i, u, rfl, e⟩ | ⟨y, u, rfl, e⟩
    · exact nomatch e
    · injection e with e1 _
      subst e1
      cases v <;> rfl

end L2

namespace L2
open PySem PySem.Spec PyProof.Rows

/-- a value, without the heap -/
inductive V where
  | non | bl (b : Bool) | int (i : Int) | str (x : Str) | byt (b : Array UInt8) | flt (b : UInt64) | ref (a : Addr) | ty (n : String)
  deriving DecidableEq

def RelV : V → Value → Prop
  | .non, u => u = Value.none
  | .bl b, u => u = Value.bool b
  | .int i, u => ∃ t, u = Value.int i t
  | .str x, u => ∃ t, u = Value.str x t
  | .byt b, u => ∃ t, u = Value.bytes b t
  | .flt b, u => ∃ t, u = Value.float b t
  | .ref a, u => u = Value.ref a
  | .ty n, u => u = Value.type n

abbrev Vals : List V → List Value → Prop := Paired RelV
theorem Vals.length {xs : List V} {us : List Value} (r : Vals xs us) : xs.length = us.length := Paired.length r
theorem Vals.get : ∀ {xs : List V} {us : List Value} {i : Nat} {x : V}, Vals xs us → xs[i]? = some x → ∃ u, us[i]? = some u ∧ RelV x u
  | _, _, _, _, .nil, e => by simp at e
  | _, _, 0, _, .cons r _, e => by simp at e; subst e; exact ⟨_, rfl, r⟩
  | _, _, i + 1, x, .cons _ t, e => by
    obtain ⟨u, h1, h2⟩ := Vals.get (i := i) (x := x) t (by simpa using e)
    exact ⟨u, by simpa using h1, h2⟩
theorem Vals.set {x : V} {u : Value} (r : RelV x u) : ∀ {xs : List V} {us : List Value} (i : Nat), Vals xs us → Vals (xs.set i x) (us.set i u)
  | _, _, _, .nil => .nil
  | _, _, 0, .cons _ t => .cons r t
  | _, _, i + 1, .cons q t => .cons q (Vals.set r i t)
theorem Vals.append : ∀ {xs ys : List V} {us ws : List Value}, Vals xs us → Vals ys ws → Vals (xs ++ ys) (us ++ ws)
  | _, _, _, _, .nil, s => s
  | _, _, _, _, .cons r t, s => .cons r (Vals.append t s)
theorem Vals.take : ∀ {xs : List V} {us : List Value} (n : Nat), Vals xs us → Vals (xs.take n) (us.take n)
  | _, _, 0, _ => .nil
  | _, _, _ + 1, .nil => .nil
  | _, _, n + 1, .cons r t => .cons r (Vals.take n t)
theorem Vals.drop : ∀ {xs : List V} {us : List Value} (n : Nat), Vals xs us → Vals (xs.drop n) (us.drop n)
  | _, _, 0, r => r
  | _, _, _ + 1, .nil => .nil
  | _, _, n + 1, .cons _ t => Vals.drop n t

def RelO : Option V → Option Value → Prop
  | some v, some u => RelV v u
  | none, none => True
  | _, _ => False
def KV {κ : Type} : List (κ × V) → List (κ × Value) → Prop := Paired fun (p : κ × V) (q : κ × Value) => p.1 = q.1 ∧ RelV p.2 q.2

/-- a key of a dict (00_mix): an int or a text -/
def kV : Key → V
  | .inl i => .int i
  | .inr x => .str x

/-- what stands at a tracked address -/
inductive HO where
  /-- a list -/
  | lst (xs : List V)
  /-- a tuple (never changes) -/
  | tup (xs : List V)
  /-- a dict whose keys are ints and texts; one whose keys are tuples of ints and texts (the empty one is both) -/
  | dK (kvs : List (Key × V)) | dT (kvs : List (List Key × V))
  /-- a set of ints: its members, its size -/
  | set (S : Int → Bool) (n : Nat)
  /-- an instance of the class at C, its dict at dx, its attributes -/
  | ins (C dx : Addr) (fs : List (Str × V))
  /-- the dict of the instance at x -/
  | own (x : Addr)
  /-- the dict of an exception -/
  | xd (fs : List (Str × V))
  /-- a bound method, f of x -/
  | met (f x : Addr)
  /-- a range object lo, lo + 1, .. below hi -/
  | rng (lo hi : Int)
  /-- a thing that is known to the object (the script; a dict while a loop walks it): read, never written while it is so -/
  | frz (o : Obj) (u : HO)
  /-- a code object's table -/
  | tbl (ps : Array Value)
  /-- any other thing, by what is true of its one object (a def of one's own: SetO a S n := HO.ext fun h => ..) -/
  | ext (φ : Heap → Prop)

abbrev Hp := Addr → Option HO
def upd (H : Hp) (a : Addr) (o : HO) : Hp := fun b => if b = a then some o else H b
theorem upd_same {H : Hp} {a : Addr} {o : HO} : upd H a o a = some o := by unfold upd; rw [if_pos rfl]
theorem upd_ne {H : Hp} {a b : Addr} {o : HO} (h : b ≠ a) : upd H a o b = H b := by unfold upd; rw [if_neg h]
theorem upd_upd {H : Hp} {a : Addr} {o u : HO} : upd (upd H a o) a u = upd H a u := by
  funext b; unfold upd; split <;> rfl
/-- two objects of different content stand apart -/
theorem ne_of {H : Hp} {a b : Addr} {o u : HO} (h : H a = some o) (h' : H b = some u) (d : o ≠ u) : a ≠ b := by
  intro e; subst e; rw [h] at h'; exact d (Option.some.inj h')
theorem ne_of_none {H : Hp} {a b : Addr} {o : HO} (h : H a = some o) (h' : H b = none) : a ≠ b := by
  intro e; subst e; rw [h] at h'; cases h'

section
variable (P : Program) (w : World)
def ObjOk (H : Hp) (h : Heap) (a : Addr) : HO → Prop
  | .lst xs => xs.length ≤ sizeLine ∧ ∃ (its : List Value) (n : Nat), Vals xs its ∧ h.get? a = some { cls := .type "list", data := .seq its.toArray n }
  | .tup xs => xs.length ≤ sizeLine ∧ ∃ its : List Value, Vals xs its ∧ IsTup h a its.toArray
  | .dK kvs => kvs.length ≤ sizeLine ∧ (a == sysModules) = false ∧ ∃ vs, KV kvs vs ∧ h.DictOf (mixKind P w) a vs
  | .dT kvs => kvs.length ≤ sizeLine ∧ (a == sysModules) = false ∧ ∃ xs : List (List Key × Addr × Value),
      Paired (fun (p : List Key × V) (q : List Key × Addr × Value) => p.1 = q.1 ∧ H q.2.1 = some (.tup (p.1.map kV)) ∧ RelV p.2 q.2.2) kvs xs ∧
      ∃ o es ep, h.get? a = some o ∧ o.ExactDict ∧ o.data = .dict es ep ∧ es.toList = xs.map (entryOfKey (tupleKind (mixKind P w))) ∧ (xs.map (·.1)).Nodup
  | .set S n => h.SetOf (intKind P w) a S n
  | .ins C dx fs => H dx = some (.own a) ∧ fs.length ≤ 1000 ∧ dx ≠ a ∧ h.get? a = some (PySem.W.instObj C dx) ∧
      ∃ mA, h.Ns1 dx mA ∧ (∀ f, RelO (fs.lookup f) (mA f)) ∧ PySem.Within mA (fs.map (·.1))
  | .own _ => ∃ o, h.get? a = some o
  | .xd fs => ∃ mA, h.Ns1 a mA ∧ ∀ f, RelO (fs.lookup f) (mA f)
  | .rng lo hi => ∃ t u v, h.get? a = some { cls := .type "range", data := .fields #[.int lo t, .int hi u, .int 1 v] }
  | .frz o u => h.get? a = some o ∧ ObjOk H h a u
  | .tbl ps => h.get? a = some { cls := .none, data := .fields ps }
  | .met f x => h.get? a = some (PySem.W.methodObj (.ref f) (.ref x))
  | .ext φ => φ h ∧ (∃ o, h.get? a = some o) ∧ ∀ h1 h2 : Heap, φ h1 → (∀ o, h1.get? a = some o → h2.get? a = some o) → φ h2
/-- the abstract heap is held -/
def HOk (H : Hp) (h : Heap) : Prop := ∀ a o, H a = some o → ObjOk P w H h a o
end

section
variable {P : Program} {w : World} {H H' : Hp} {h h' : Heap} {a : Addr} {o : HO}
theorem ObjOk.lt (x : ObjOk P w H h a o) : a < h.objs.size := by
  cases o with
  | lst xs => obtain ⟨_, _, _, _, e⟩ := x; exact Heap.lt_size e
  | tup xs => obtain ⟨_, _, _, p⟩ := x; exact p.lt
  | dK kvs => obtain ⟨_, _, _, _, o, _, _, e, _⟩ := x; exact Heap.lt_size e
  | dT kvs => obtain ⟨_, _, _, _, o, _, _, e, _⟩ := x; exact Heap.lt_size e
  | set S n => obtain ⟨o, _, _, _, e, _⟩ := x; exact Heap.lt_size e
  | ins C dx fs => obtain ⟨_, _, _, e, _⟩ := x; exact Heap.lt_size e
  | own y => obtain ⟨_, e⟩ := x; exact Heap.lt_size e
  | xd fs => obtain ⟨_, ⟨_, _, _, e, _⟩, _⟩ := x; exact Heap.lt_size e
  | rng lo hi => obtain ⟨_, _, _, e⟩ := x; exact Heap.lt_size e
  | frz ob u => obtain ⟨e, _⟩ := x; exact Heap.lt_size e
  | tbl ps => exact Heap.lt_size (show h.get? a = some _ from x)
  | met f y => exact Heap.lt_size (show h.get? a = some _ from x)
  | ext φ => obtain ⟨_, ⟨_, e⟩, _⟩ := x; exact Heap.lt_size e
theorem Paired.mapP {α β : Type} {F G : α → β → Prop} : ∀ {l₁ : List α} {l₂ : List β}, Paired F l₁ l₂ → (∀ a b, F a b → G a b) → Paired G l₁ l₂
  | _, _, .nil, _ => .nil
  | _, _, .cons r t, f => .cons (f _ _ r) (Paired.mapP t f)
/-- what an object's description leans on: its own object, its own dict, the tuples -/
theorem ObjOk.stay (x : ObjOk P w H h a o) (k : ∀ b u, (b = a ∨ H b = some (.own a)) → h.get? b = some u → h'.get? b = some u)
    (ho : ∀ b, H b = some (.own a) → H' b = some (.own a)) (ht : ∀ b xs, H b = some (.tup xs) → H' b = some (.tup xs)) : ObjOk P w H' h' a o := by
  induction o with
  | lst xs => obtain ⟨z, its, n, r, e⟩ := x; exact ⟨z, its, n, r, k _ _ (.inl rfl) e⟩
  | tup xs => obtain ⟨z, its, r, ob, e, c⟩ := x; exact ⟨z, its, r, ob, k _ _ (.inl rfl) e, c⟩
  | dK kvs => obtain ⟨z, y, vs, r, ob, es, ep, e, c⟩ := x; exact ⟨z, y, vs, r, ob, es, ep, k _ _ (.inl rfl) e, c⟩
  | dT kvs =>
    obtain ⟨z, y, xs, r, ob, es, ep, e, c⟩ := x
    exact ⟨z, y, xs, Paired.mapP r fun p q z => ⟨z.1, ht _ _ z.2.1, z.2.2⟩, ob, es, ep, k _ _ (.inl rfl) e, c⟩
  | set S n => obtain ⟨ob, es, ep, t, e, c⟩ := x; exact ⟨ob, es, ep, t, k _ _ (.inl rfl) e, c⟩
  | ins C dx fs =>
    obtain ⟨d, z, ne, e, mA, ⟨od, es, ep, e2, c⟩, r⟩ := x
    exact ⟨ho _ d, z, ne, k _ _ (.inl rfl) e, mA, ⟨od, es, ep, k _ _ (.inr d) e2, c⟩, r⟩
  | own y => obtain ⟨ob, e⟩ := x; exact ⟨ob, k _ _ (.inl rfl) e⟩
  | xd fs => obtain ⟨mA, ⟨od, es, ep, e, c⟩, r⟩ := x; exact ⟨mA, ⟨od, es, ep, k _ _ (.inl rfl) e, c⟩, r⟩
  | rng lo hi => obtain ⟨t, u, v, e⟩ := x; exact ⟨t, u, v, k _ _ (.inl rfl) e⟩
  | frz ob u ih => obtain ⟨e, q⟩ := x; exact ⟨k _ _ (.inl rfl) e, ih q⟩
  | tbl ps =>
    have e : h.get? a = some { cls := .none, data := .fields ps } := x
    show h'.get? a = some { cls := .none, data := .fields ps }
    exact k a _ (.inl rfl) e
  | met f y =>
    have e : h.get? a = some (PySem.W.methodObj (.ref f) (.ref y)) := x
    show h'.get? a = some (PySem.W.methodObj (.ref f) (.ref y))
    exact k a _ (.inl rfl) e
  | ext φ => obtain ⟨p, ⟨o, e⟩, st⟩ := x; exact ⟨st _ _ p fun o q => k _ _ (.inl rfl) q, ⟨o, k _ _ (.inl rfl) e⟩, st⟩
theorem HOk.lt (x : HOk P w H h) (e : H a = some o) : a < h.objs.size := (x a o e).lt
theorem HOk.fresh (x : HOk P w H h) (e : h.objs.size ≤ a) : H a = none := by
  cases q : H a with
  | none => rfl
  | some u => exact absurd (Nat.lt_of_lt_of_le (x.lt q) e) (Nat.lt_irrefl _)
/-- every object of the heap is kept -/
theorem HOk.kept (x : HOk P w H h) (k : ∀ b u, h.get? b = some u → h'.get? b = some u) : HOk P w H h' := fun a o e =>
  (x a o e).stay (fun b u _ q => k b u q) (fun _ q => q) fun _ _ q => q
/-- a new object is laid and tracked -/
theorem HOk.laid (x : HOk P w H h) (k : ∀ b u, h.get? b = some u → h'.get? b = some u) (hp : h.objs.size ≤ a) (new : ObjOk P w (upd H a o) h' a o) : HOk P w (upd H a o) h' := fun b u e => by
  have hn := x.fresh hp
  by_cases hb : b = a
  · subst hb; rw [upd_same] at e; cases e; exact new
  · rw [upd_ne hb] at e
    exact (x b u e).stay (fun c v _ q => k c v q) (fun c q => by rw [upd_ne (ne_of_none q hn)]; exact q) fun c xs q => by rw [upd_ne (ne_of_none q hn)]; exact q
end

/-- what may be read as u: it is u, or a known u -/
def Rd (H : Hp) (a : Addr) (u : HO) : Prop := H a = some u ∨ ∃ o, H a = some (.frz o u)
theorem Rd.ok {P : Program} {w : World} {H : Hp} {h : Heap} {a : Addr} {u : HO} (r : Rd H a u) (x : HOk P w H h) : ObjOk P w H h a u := by
  rcases r with r | ⟨o, r⟩
  · exact x a u r
  · obtain ⟨_, q⟩ := x a _ r
    exact q
/-- what may be written -/
def Mut : Option HO → Prop
  | some (.lst _) => True
  | some (.dK _) => True
  | some (.dT _) => True
  | some (.set _ _) => True
  | some (.ins _ _ _) => True
  | some (.ext _) => True
  | _ => False
section
variable {P : Program} {w : World} {H : Hp} {h h' : Heap} {x e : Addr} {o' : HO}
/-- the object at e is changed: x itself, or the dict of the instance x -/
theorem HOk.write (ok : HOk P w H h) (mu : Mut (H x)) (he : e = x ∨ H e = some (.own x)) (k : ∀ b u, b ≠ e → h.get? b = some u → h'.get? b = some u) (heo : ∃ u, h'.get? e = some u)
    (new : ObjOk P w (upd H x o') h' x o') : HOk P w (upd H x o') h' := fun b u q => by
  have nown : ∀ c y, H c = some (.own y) → c ≠ x := fun c y r z => by subst z; rw [r] at mu; exact mu
  have ntup : ∀ c xs, H c = some (.tup xs) → c ≠ x := fun c xs r z => by subst z; rw [r] at mu; exact mu
  by_cases hb : b = x
  · subst hb; rw [upd_same] at q; cases q; exact new
  · rw [upd_ne hb] at q
    by_cases hbe : b = e
    · have q' : H b = some (.own x) := by
        rcases he with z | z
        · exact absurd (hbe.trans z) hb
        · rw [hbe]; exact z
      rw [q] at q'; cases q'
      obtain ⟨v, hv⟩ := heo
      exact ⟨v, by rw [hbe]; exact hv⟩
    · refine (ok b u q).stay (fun c v hc r => k c v ?_ r) (fun c r => by rw [upd_ne (nown c b r)]; exact r) fun c xs r => by rw [upd_ne (ntup c xs r)]; exact r
      rcases hc with rfl | hc
      · exact hbe
      · rintro rfl
        rcases he with z | z
        · exact nown c b hc z
        · rw [hc] at z; cases z; exact hb rfl
end

/-! ### kept unless tracked; of the frames at fs (the callers') the slots may change (an exception that passes writes there); of the records at ex (iterators) nothing is said -/
structure Un (fs ex : List Addr) (H H' : Hp) (h h' : Heap) : Prop where
  keep : ∀ b o, h.get? b = some o → H b = none → b ∉ fs → b ∉ ex → h'.get? b = some o
  slot : ∀ b o, h.get? b = some o → H b = none → b ∈ fs → b ∉ ex → ∃ sl, h'.get? b = some { o with slots := sl }
  free : ∀ b o, h.get? b = some o → H b = none → b ∉ ex → H' b = none
  there : ∀ b o, h.get? b = some o → b ∉ ex → ∃ o', h'.get? b = some o'
  tups : ∀ b xs, H b = some (.tup xs) → H' b = some (.tup xs)
  frzs : ∀ b o u, H b = some (.frz o u) → H' b = some (.frz o u)
  tbls : ∀ b ps, H b = some (.tbl ps) → ∃ more, H' b = some (.tbl (ps ++ more))
section
variable {fs fs' ex ex' : List Addr} {H H1 H2 : Hp} {h h1 h2 h' : Heap} {a x e : Addr} {o : HO}
theorem Un.any (u : Un fs ex H H1 h h1) {b : Addr} {ob : Obj} (q : h.get? b = some ob) (n : H b = none) (hx : b ∉ ex) : ∃ sl, h1.get? b = some { ob with slots := sl } := by
  by_cases hb : b ∈ fs
  · exact u.slot b ob q n hb hx
  · exact ⟨ob.slots, u.keep b ob q n hb hx⟩
theorem Un.kept (k : ∀ b u, h.get? b = some u → h'.get? b = some u) : Un fs ex H H h h' :=
  ⟨fun b ob q _ _ _ => k b ob q, fun b ob q _ _ _ => ⟨ob.slots, k b ob q⟩, fun _ _ _ n _ => n, fun b ob q _ => ⟨ob, k b ob q⟩, fun _ _ q => q, fun _ _ _ q => q, fun _ ps q => ⟨#[], by rw [q]; simp⟩⟩
theorem Un.refl : Un fs ex H H h h := Un.kept fun _ _ q => q
theorem Un.laid (k : ∀ b u, h.get? b = some u → h'.get? b = some u) (hp : h.objs.size ≤ a) (hn : H a = none) : Un fs ex H (upd H a o) h h' where
  keep := fun b u q _ _ _ => k b u q
  slot := fun b u q _ _ _ => ⟨u.slots, k b u q⟩
  free := fun b u q n _ => by rw [upd_ne (Nat.ne_of_lt (Nat.lt_of_lt_of_le (Heap.lt_size q) hp))]; exact n
  there := fun b u q _ => ⟨u, k b u q⟩
  tups := fun b xs q => by rw [upd_ne (ne_of_none q hn)]; exact q
  frzs := fun b u xs q => by rw [upd_ne (ne_of_none q hn)]; exact q
  tbls := fun b ps q => ⟨#[], by rw [upd_ne (ne_of_none q hn), q]; simp⟩
theorem Un.write (mu : Mut (H x)) (he : e = x ∨ H e = some (.own x)) (k : ∀ b u, b ≠ e → h.get? b = some u → h'.get? b = some u) (heo : ∃ u, h'.get? e = some u) : Un fs ex H (upd H x o) h h' := by
  have hx : ∀ b, H b = none → b ≠ x := fun b n z => by subst z; rw [n] at mu; exact mu
  have hb : ∀ b, H b = none → b ≠ e := fun b n z => by
    subst z
    rcases he with r | r
    · exact hx b n r
    · rw [n] at r; cases r
  have hm : ∀ b u, H b = some u → ¬ Mut (some u) → b ≠ x := fun b u q nm z => by subst z; rw [q] at mu; exact nm mu
  refine ⟨fun b u q n _ _ => k b u (hb b n) q, fun b u q n _ _ => ⟨u.slots, k b u (hb b n) q⟩, fun b u q n _ => by rw [upd_ne (hx b n)]; exact n, fun b u q _ => ?_,
    fun b xs q => by rw [upd_ne (hm b _ q fun z => z)]; exact q, fun b u xs q => by rw [upd_ne (hm b _ q fun z => z)]; exact q, fun b ps q => ⟨#[], by rw [upd_ne (hm b _ q fun z => z), q]; simp⟩⟩
  by_cases hbe : b = e
  · subst hbe; exact heo
  · exact ⟨u, k b u hbe q⟩
end

/-! ### the heap without what is tracked -/
def trk (h : Heap) (H : Hp) : List Addr := (List.range h.objs.size).filter fun a => (H a).isSome
def hidT (h : Heap) (H : Hp) : Heap := PySem.W.hideAll h (trk h H)
theorem hidT_size (h : Heap) (H : Hp) : (hidT h H).objs.size = h.objs.size := PySem.W.hideAll_size _ _
theorem hidT_get {h : Heap} {H : Hp} {b : Addr} {o : Obj} (e : h.get? b = some o) (n : H b = none) : (hidT h H).get? b = some o :=
  PySem.W.hideAll_get _ e fun hm => by
    have q : (H b).isSome = true := (List.mem_filter.mp hm).2
    rw [n] at q; simp at q
theorem of_hidT {h : Heap} {H : Hp} {b : Addr} {o : Obj} (e : (hidT h H).get? b = some o) : h.get? b = some o ∧ H b = none := by
  have e' : h.get? b = some o := PySem.W.of_hideAll (trk h H) e
  refine ⟨e', ?_⟩
  cases q : H b with
  | none => rfl
  | some x =>
    have hm : b ∈ trk h H := List.mem_filter.mpr ⟨List.mem_range.mpr (Heap.lt_size e'), by simp [q]⟩
    have z : (hidT h H).get? b = none := PySem.W.hideAll_none (trk h H) hm
    rw [z] at e; cases e

/-! ### OpenK's ledger, filled with every new object but one -/
end L2

namespace L2
open PySem PySem.Spec PyProof.Rows

/-- the module's facts, over the base: the heap at the law's entry without what is tracked there -/
structure Mod (K : PySem.W.Frag) (mg : Str → Option Value) (base : Heap) : Prop where
  kin : K.In base
  glob : base.Ns mainGlobals mg
  blt : ∃ mb, base.Ns builtinsNs mb ∧ ∀ x : Str, x ≠ "__name__" → mb x = bootBuiltins x
  nolimit : base.NoLimit

/-- the context: a def's body (or a comprehension's block) running. base: fixed through the whole law; s₀, H₀: the entry; outer: the frames whose slots others may change (a def's callers); stack: all frames that run;
   ex: iterators that were made ahead of the entry and are walked here (a comprehension's); fn: the names whose cells were made at the entry (a def: all; a comprehension's block: its own); calm: not within an except suite; pn: pins that every state bears; xe: what is wanted of an exception that leaves the code -/
structure Cx where
  prog : Program
  w : World
  K : PySem.W.Frag
  mg : Str → Option Value
  base : Heap
  A : Around
  N : List Str
  s_0 : Shared
  H_0 : Hp
  env : Env
  outer : List Env
  stack : List Env
  ex : List Addr
  fn : Str → Bool
  calm : Bool
  pn : List (Addr × Obj)
  xe : Value → Shared → Prop
/-- the callers' frames -/
def frs (l : List Env) : List Addr := l.filterMap (·.frame)
abbrev Cx.fs (X : Cx) : List Addr := frs X.outer

def Vis (sc : Scope) (x : Str) : Prop := sc.names.lookup x = some .local ∨ sc.names.lookup x = some .cell ∨ sc.names.lookup x = some .free
def Loc (sc : Scope) (x : Str) : Prop := sc.names.lookup x = some .local ∨ sc.names.lookup x = some .cell
def Look (env : Env) (h : Heap) (m : Str → Option Value) (x : Str) (u : Value) : Prop :=
  (env.kindOf x = some .local ∧ m x = some u) ∨ ((env.kindOf x = some .cell ∨ env.kindOf x = some .free) ∧ ∃ c, env.cells.lookup x = some c ∧ h.IsCell c (some u))

structure Cx.Ok (X : Cx) : Prop where
  mod : Mod X.K X.mg X.base
  kind : X.env.scope.kind = .function
  glob : X.env.globals = mainGlobals
  blt : X.env.builtins = builtinsNs
  above : X.s_0.heap.objs.size ≤ X.env.locals
  inj : ∀ x y c, X.env.cells.lookup x = some c → X.env.cells.lookup y = some c → x = y
  has : ∀ x, (X.env.kindOf x = some .cell ∨ X.env.kindOf x = some .free) → ∃ c, X.env.cells.lookup x = some c
  cab : ∀ x c, X.fn x = true → X.env.cells.lookup x = some c → X.s_0.heap.objs.size ≤ c
  hd : X.calm = true → X.A.handled = none
  frames : X.A.frames = some X.stack
  stk : X.stack = X.outer ∨ (X.stack = X.env :: X.outer ∧ X.env.frame = some X.env.locals)
  exf : ∀ b ∈ X.ex, b ≠ X.env.locals ∧ ∀ x c, X.env.cells.lookup x = some c → c ≠ b
  bs : ∀ b o, X.base.get? b = some o → X.s_0.heap.get? b = some o ∧ X.H_0 b = none
  bsz : X.base.objs.size ≤ X.s_0.heap.objs.size
  noex : ∀ b o, X.base.get? b = some o → b ∉ X.ex
  exfs : ∀ b ∈ X.ex, b ∉ X.fs
  funs : X.s_0.heap.FunFrames X.base X.outer
  frf : ∀ b ∈ X.fs, X.H_0 b = none

structure Inv (X : Cx) (pins : List (Addr × Obj)) (σ : List (Option V)) (H : Hp) (s : Shared) : Prop where
  ok : X.Ok
  os : s.os = X.s_0.os
  bare : AllBare s.gens
  base : Un X.fs X.ex X.H_0 H X.s_0.heap s.heap
  loc : ∃ m, s.heap.Ns X.env.locals m ∧ ∀ (i : Nat) (x : Str) (v : V), X.N[i]? = some x → σ[i]? = some (some v) → Vis X.env.scope x → ∃ u, RelV v u ∧ Look X.env s.heap m x u
  cell : ∀ x c, X.env.cells.lookup x = some c → ∃ v, s.heap.IsCell c v
  free : H X.env.locals = none
  freeC : ∀ x c, X.env.cells.lookup x = some c → H c = none
  pin : ∀ p ∈ X.pn ++ pins, s.heap.get? p.1 = some p.2 ∧ H p.1 = none ∧ p.1 ≠ X.env.locals ∧ p.1 ∉ X.fs ∧ ∀ v, p.2.data ≠ .cell v
  hok : HOk X.prog X.w H s.heap
  len : σ.length = X.N.length

section
variable {X : Cx} {pins : List (Addr × Obj)} {σ : List (Option V)} {H H' : Hp} {s : Shared} {h' : Heap}

theorem Cx.Ok.nofr (ok : X.Ok) {b : Addr} {o : Obj} (e : X.base.get? b = some o) : b ∉ X.fs := fun hb => by
  have := (ok.funs.mem hb).1
  rw [e] at this; cases this
theorem Inv.bs (I : Inv X pins σ H s) : ∀ b o, X.base.get? b = some o → s.heap.get? b = some o ∧ H b = none := fun b o e =>
  ⟨I.base.keep b o (I.ok.bs b o e).1 (I.ok.bs b o e).2 (I.ok.nofr e) (I.ok.noex b o e), I.base.free b o (I.ok.bs b o e).1 (I.ok.bs b o e).2 (I.ok.noex b o e)⟩
theorem Inv.bk (I : Inv X pins σ H s) : ∀ b o, X.base.get? b = some o → s.heap.get? b = some o := fun b o e => (I.bs b o e).1
theorem Inv.mod (I : Inv X pins σ H s) : Mod X.K X.mg X.base := I.ok.mod
theorem Inv.kIn (I : Inv X pins σ H s) : X.K.In s.heap := I.ok.mod.kin.keeps I.bk
/-- the frame over the base: for OpenK's rules (K.In X.base is I.mod.kin) -/
theorem Inv.fr (I : Inv X pins σ H s) : ∃ m, Fr X.base X.env.locals s.heap m :=
  let ⟨m, hn, _⟩ := I.loc
  ⟨m, hn, I.bk, Nat.le_trans I.ok.bsz I.ok.above⟩
theorem Inv.lt (I : Inv X pins σ H s) : X.env.locals < s.heap.objs.size := let ⟨_, hn, _⟩ := I.loc; hn.lt
theorem Inv.sz (I : Inv X pins σ H s) : X.s_0.heap.objs.size ≤ s.heap.objs.size := Nat.le_trans I.ok.above (Nat.le_of_lt I.lt)
theorem Inv.nofs (I : Inv X pins σ H s) {a : Addr} (h : s.heap.objs.size ≤ a) : a ∉ X.fs := fun hb => by
  obtain ⟨_, o, ho, _⟩ := I.ok.funs.mem hb
  exact absurd (Nat.lt_of_lt_of_le (Heap.lt_size ho) (Nat.le_trans I.sz h)) (Nat.lt_irrefl _)
theorem Inv.cne (I : Inv X pins σ H s) : ∀ x c, X.env.cells.lookup x = some c → c ≠ X.env.locals := fun x c e z => by
  obtain ⟨v, o, ho, hd⟩ := I.cell x c e
  obtain ⟨m, ⟨o', es, ep, ho', hd', _⟩, _⟩ := I.loc
  rw [z, ho'] at ho; cases ho; rw [hd'] at hd; cases hd
theorem Inv.funs (I : Inv X pins σ H s) : s.heap.FunFrames X.base X.outer := by
  have all : ∀ (l : List Env), (∀ b ∈ frs l, b ∈ X.fs) → X.s_0.heap.FunFrames X.base l → s.heap.FunFrames X.base l := by
    intro l
    induction l with
    | nil => intro _ _; trivial
    | cons env r ih =>
      intro hs hl
      obtain ⟨hk, ⟨L, o, hf, hn, ho, hd⟩, hr⟩ := hl
      have hL : L ∈ X.fs := hs L (by unfold frs; rw [List.filterMap_cons, hf]; exact List.mem_cons_self)
      obtain ⟨sl, e⟩ := I.base.slot L o ho (I.ok.frf L hL) hL fun z => I.ok.exfs L z hL
      exact ⟨hk, ⟨L, _, hf, hn, e, hd⟩, ih (fun b hb => hs b (by unfold frs; rw [List.filterMap_cons, hf]; exact List.mem_cons_of_mem _ hb)) hr⟩
  exact all X.outer (fun _ hb => hb) I.ok.funs

/-- the frames that run, for a call -/
theorem Inv.stack (I : Inv X pins σ H s) : s.heap.FunFrames X.base X.stack := by
  rcases I.ok.stk with e | ⟨e, hf⟩
  · rw [e]; exact I.funs
  · rw [e]
    obtain ⟨m, hn, _⟩ := I.loc
    refine .cons (by rw [I.ok.kind]; decide) hf hn ?_ I.funs
    exact Heap.get?_none_of_le (Nat.le_trans I.ok.bsz I.ok.above)
theorem Inv.stkSub (I : Inv X pins σ H s) : ∀ b ∈ frs X.stack, b ∈ X.env.locals :: X.fs := fun b hb => by
  rcases I.ok.stk with e | ⟨e, hf⟩
  · rw [e] at hb; exact List.mem_cons_of_mem _ hb
  · rw [e] at hb
    unfold frs at hb
    rw [List.filterMap_cons, hf] at hb
    exact hb
theorem Inv.stkFree (I : Inv X pins σ H s) : ∀ b ∈ frs X.stack, H b = none := fun b hb => by
  rcases List.mem_cons.mp (I.stkSub b hb) with e | hb
  · rw [e]; exact I.free
  · obtain ⟨_, o, ho, _⟩ := I.ok.funs.mem hb
    exact I.base.free b o ho (I.ok.frf b hb) fun z => I.ok.exfs b z hb

/-- THE STEP: the untracked objects but the frame and the records at ch are kept (the callers' frames up to slots), the frame's map is kept, the new abstract heap is held -/
theorem Inv.step {g' : Array GenState} {t' : Nat} {d' : Drawn} {ch : List Addr} (I : Inv X pins σ H s)
    (hch : ∀ b ∈ ch, (b ∈ X.ex ∨ X.s_0.heap.objs.size ≤ b) ∧ b ≠ X.env.locals ∧ (∀ x c, X.env.cells.lookup x = some c → c ≠ b) ∧ ∀ p ∈ X.pn ++ pins, p.1 ≠ b)
    (keep : ∀ b o, b ≠ X.env.locals → b ∉ X.fs → b ∉ ch → s.heap.get? b = some o → H b = none → h'.get? b = some o)
    (slot : ∀ b o, b ≠ X.env.locals → b ∈ X.fs → b ∉ ch → s.heap.get? b = some o → H b = none → ∃ sl, h'.get? b = some { o with slots := sl }) (free : ∀ b o, b ∉ ch → s.heap.get? b = some o → H b = none → H' b = none)
    (there : ∀ b o, b ∉ ch → s.heap.get? b = some o → ∃ o', h'.get? b = some o')
    (tups : ∀ b xs, H b = some (.tup xs) → H' b = some (.tup xs)) (frzs : ∀ b o u, H b = some (.frz o u) → H' b = some (.frz o u)) (tbls : ∀ b ps, H b = some (.tbl ps) → ∃ more, H' b = some (.tbl (ps ++ more)))
    (ns : ∀ m, s.heap.Ns X.env.locals m → h'.Ns X.env.locals m) (hok : HOk X.prog X.w H' h') (hg : AllBare g') :
    Inv X pins σ H' { s with heap := h', gens := g', drawn := d', toks := t' } := by
  have neL : ∀ b o, X.s_0.heap.get? b = some o → b ≠ X.env.locals := fun b o e => Nat.ne_of_lt (Nat.lt_of_lt_of_le (Heap.lt_size e) I.ok.above)
  have neC : ∀ b o, X.s_0.heap.get? b = some o → b ∉ X.ex → b ∉ ch := fun b o e hx hb => by
    rcases (hch b hb).1 with z | z
    · exact hx z
    · exact absurd (Nat.lt_of_lt_of_le (Heap.lt_size e) z) (Nat.lt_irrefl _)
  have cellK : ∀ x c, X.env.cells.lookup x = some c → ∀ v, s.heap.IsCell c v → h'.IsCell c v := fun x c e v ⟨o, ho, hd⟩ => by
    have nch : c ∉ ch := fun z => (hch c z).2.2.1 x c e rfl
    by_cases hc : c ∈ X.fs
    · obtain ⟨sl, q⟩ := slot c o (I.cne x c e) hc nch ho (I.freeC x c e)
      exact ⟨_, q, hd⟩
    · exact ⟨o, keep c o (I.cne x c e) hc nch ho (I.freeC x c e), hd⟩
  refine ⟨I.ok, I.os, hg, ⟨fun b o e n hb hx => ?_, fun b o e n hb hx => ?_, fun b o e n hx => ?_, fun b o e hx => ?_, fun b xs e => tups b xs (I.base.tups b xs e), fun b o xs e => frzs b o xs (I.base.frzs b o xs e), fun b ps e => ?_⟩, ?_, fun x c e => ?_, ?_, fun x c e => ?_, fun p hp => ?_, hok, I.len⟩
  · exact keep b o (neL b o e) hb (neC b o e hx) (I.base.keep b o e n hb hx) (I.base.free b o e n hx)
  · obtain ⟨sl, e1⟩ := I.base.slot b o e n hb hx
    obtain ⟨sl', e2⟩ := slot b _ (neL b o e) hb (neC b o e hx) e1 (I.base.free b o e n hx)
    exact ⟨sl', e2⟩
  · obtain ⟨o', e1⟩ := I.base.there b o e hx
    exact free b o' (neC b o e hx) e1 (I.base.free b o e n hx)
  · obtain ⟨o', e1⟩ := I.base.there b o e hx
    exact there b o' (neC b o e hx) e1
  · obtain ⟨m1, e1⟩ := I.base.tbls b ps e
    obtain ⟨m2, e2⟩ := tbls b _ e1
    exact ⟨m1 ++ m2, by rw [e2, Array.append_assoc]⟩
  · obtain ⟨m, hn, hl⟩ := I.loc
    refine ⟨m, ns m hn, fun i x v e1 e2 e3 => ?_⟩
    obtain ⟨u, r, l⟩ := hl i x v e1 e2 e3
    refine ⟨u, r, ?_⟩
    rcases l with l | ⟨k, c, e, z⟩
    · exact .inl l
    · exact .inr ⟨k, c, e, cellK x c e _ z⟩
  · obtain ⟨v, z⟩ := I.cell x c e
    exact ⟨v, cellK x c e v z⟩
  · obtain ⟨m, ⟨o, _, _, ho, _⟩, _⟩ := I.loc
    exact free _ o (fun z => (hch _ z).2.1 rfl) ho I.free
  · obtain ⟨v, o, ho, hd⟩ := I.cell x c e
    exact free c o (fun z => (hch c z).2.2.1 x c e rfl) ho (I.freeC x c e)
  · obtain ⟨e, n, ne, nf, d⟩ := I.pin p hp
    have nch : p.1 ∉ ch := fun z => (hch p.1 z).2.2.2 p hp rfl
    exact ⟨keep p.1 p.2 ne nf nch e n, free p.1 p.2 nch e n, ne, nf, d⟩
/-- .. where the frame's own object is kept too -/
theorem Inv.un {t' : Nat} (I : Inv X pins σ H s) (u : Un X.fs [] H H' s.heap h') (hok : HOk X.prog X.w H' h') : Inv X pins σ H' { s with heap := h', toks := t' } := by
  obtain ⟨m, ⟨o, es, ep, ho, r⟩, _⟩ := id I.loc
  obtain ⟨sl, hL⟩ := u.any ho I.free (by simp)
  exact I.step (g' := s.gens) (d' := s.drawn) (ch := []) (fun _ z => nomatch z) (fun b o _ hb _ e n => u.keep b o e n hb (by simp)) (fun b o _ hb _ e n => u.slot b o e n hb (by simp)) (fun b o _ e n => u.free b o e n (by simp)) (fun b o _ e => u.there b o e (by simp)) u.tups u.frzs u.tbls (fun m' hm => by
    obtain ⟨o', es', ep', ho', r'⟩ := hm
    rw [ho] at ho'; cases ho'
    exact ⟨_, es', ep', hL, r'⟩) hok I.bare
/-- behind a call (or a comprehension's block): the slots of this frame may have changed too, the records at ch may have turned -/
theorem Inv.call {g' : Array GenState} {t' : Nat} {d' : Drawn} {ch : List Addr} (I : Inv X pins σ H s) (u : Un (frs X.stack) ch H H' s.heap h') (hok : HOk X.prog X.w H' h') (hg : AllBare g')
    (hch : ∀ b ∈ ch, (b ∈ X.ex ∨ X.s_0.heap.objs.size ≤ b) ∧ b ≠ X.env.locals ∧ (∀ x c, X.env.cells.lookup x = some c → c ≠ b) ∧ ∀ p ∈ X.pn ++ pins, p.1 ≠ b) :
    Inv X pins σ H' { s with heap := h', gens := g', drawn := d', toks := t' } := by
  obtain ⟨m, ⟨o, es, ep, ho, r⟩, _⟩ := id I.loc
  obtain ⟨sl, hL⟩ := u.any ho I.free fun z => (hch _ z).2.1 rfl
  exact I.step (ch := ch) hch (fun b o hL hb hc e n => u.keep b o e n (fun z => (List.mem_cons.mp (I.stkSub b z)).elim hL hb) hc) (fun b o _ _ hc e n => u.any e n hc) (fun b o hc e n => u.free b o e n hc) (fun b o hc e => u.there b o e hc) u.tups u.frzs u.tbls (fun m' hm => by
    obtain ⟨o', es', ep', ho', r'⟩ := hm
    rw [ho] at ho'; cases ho'
    exact ⟨_, es', ep', hL, r'⟩) hok hg
/-- an untracked record of ours (an iterator) has turned -/
theorem Inv.turned {t' : Nat} {it : Addr} (I : Inv X pins σ H s) (k : ∀ b o, b ≠ it → s.heap.get? b = some o → h'.get? b = some o) (hn : H it = none) (hL : it ≠ X.env.locals)
    (h1 : it ∈ X.ex ∨ X.s_0.heap.objs.size ≤ it) (h2 : ∀ x c, X.env.cells.lookup x = some c → c ≠ it) (h3 : ∀ p ∈ X.pn ++ pins, p.1 ≠ it) : Inv X pins σ H { s with heap := h', toks := t' } := by
  have nit : ∀ b u, H b = some u → b ≠ it := fun b u e z => by rw [z, hn] at e; cases e
  refine I.step (g' := s.gens) (d' := s.drawn) (ch := [it]) (fun b hb => ?_) (fun b o _ _ hc e _ => k b o (fun z => hc (by simp [z])) e) (fun b o _ _ hc e _ => ⟨o.slots, k b o (fun z => hc (by simp [z])) e⟩) (fun _ _ _ _ n => n)
    (fun b o hc e => ⟨o, k b o (fun z => hc (by simp [z])) e⟩) (fun _ _ e => e) (fun _ _ _ e => e) (fun b ps e => ⟨#[], by rw [e]; simp⟩) (fun m hm => ?_) (fun b u e => ?_) I.bare
  · have e : b = it := by simpa using hb
    subst e
    exact ⟨h1, hL, h2, h3⟩
  · obtain ⟨o, es, ep, ho, r⟩ := hm
    exact ⟨o, es, ep, k _ o (Ne.symm hL) ho, r⟩
  · refine (I.hok b u e).stay (fun c v hc q => k c v ?_ q) (fun _ q => q) fun _ _ q => q
    rcases hc with z | z
    · rw [z]; exact nit b u e
    · exact nit c _ z
theorem Inv.tok (I : Inv X pins σ H s) (t : Nat) : Inv X pins σ H { s with toks := t } := I.un (h' := s.heap) (t' := t) Un.refl I.hok
/-- all objects kept -/
theorem Inv.kept {t' : Nat} (I : Inv X pins σ H s) (k : ∀ b u, s.heap.get? b = some u → h'.get? b = some u) : Inv X pins σ H { s with heap := h', toks := t' } := I.un (Un.kept k) (I.hok.kept k)
/-- a new object laid and tracked -/
theorem Inv.laid {a : Addr} {o : HO} {t' : Nat} (I : Inv X pins σ H s) (k : ∀ b u, s.heap.get? b = some u → h'.get? b = some u) (hp : s.heap.objs.size ≤ a) (new : ObjOk X.prog X.w (upd H a o) h' a o) :
    Inv X pins σ (upd H a o) { s with heap := h', toks := t' } := I.un (Un.laid k hp (I.hok.fresh hp)) (I.hok.laid k hp new)
/-- an object written -/
theorem Inv.write {x e : Addr} {o : HO} {t' : Nat} (I : Inv X pins σ H s) (mu : Mut (H x)) (he : e = x ∨ H e = some (.own x)) (k : ∀ b u, b ≠ e → s.heap.get? b = some u → h'.get? b = some u) (heo : ∃ u, h'.get? e = some u)
    (new : ObjOk X.prog X.w (upd H x o) h' x o) : Inv X pins σ (upd H x o) { s with heap := h', toks := t' } := I.un (Un.write mu he k heo) (I.hok.write mu he k heo new)
/-- forgetting slots, pins -/
theorem Inv.weak {σ' : List (Option V)} (I : Inv X pins σ H s) (hl : σ'.length = σ.length) (w : ∀ (i : Nat) v, σ'[i]? = some (some v) → σ[i]? = some (some v)) : Inv X pins σ' H s :=
  ⟨I.ok, I.os, I.bare, I.base, let ⟨m, hn, hl'⟩ := I.loc; ⟨m, hn, fun i x v e1 e2 e3 => hl' i x v e1 (w i v e2) e3⟩, I.cell, I.free, I.freeC, I.pin, I.hok, hl.trans I.len⟩
theorem Inv.pins_of {pins' : List (Addr × Obj)} (I : Inv X pins σ H s) (h : ∀ p ∈ pins', s.heap.get? p.1 = some p.2 ∧ H p.1 = none ∧ p.1 ≠ X.env.locals ∧ p.1 ∉ X.fs ∧ ∀ v, p.2.data ≠ .cell v) : Inv X pins' σ H s :=
  ⟨I.ok, I.os, I.bare, I.base, I.loc, I.cell, I.free, I.freeC, fun p hp => (List.mem_append.mp hp).elim (fun z => I.pin p (List.mem_append_left _ z)) (h p), I.hok, I.len⟩

theorem nodup_ix {N : List Str} (hN : N.Nodup) {i j : Nat} {x : Str} (a : N[i]? = some x) (b : N[j]? = some x) : i = j := by
  obtain ⟨h1, e1⟩ := List.getElem?_eq_some_iff.mp a
  obtain ⟨h2, e2⟩ := List.getElem?_eq_some_iff.mp b
  exact (List.getElem_inj hN).mp (e1.trans e2.symm)

/-- a name is stored; what changed -/
theorem store_ok2 {M : Model} {A : Around} {E : Value → Shared → Prop} {i : Nat} {x : Str} {v : V} {u : Value} {Q : Unit → Shared → Prop} (I : Inv X pins σ H s) (hN : X.N.Nodup) (hi : X.N[i]? = some x) (hx : Loc X.env.scope x) (r : RelV v u)
    (h : ∀ s', Inv X pins (σ.set i (some v)) H s' → (∃ a, Heap.SameBut a s.heap s'.heap ∧ (a = X.env.locals ∨ X.env.cells.lookup x = some a)) → Q () s') (hf : X.fn x = true ∨ X.env.scope.names.lookup x = some .local := by first | exact .inl rfl | exact .inr rfl | assumption) : wpAny M A (storeName X.env x u) Q E s := by
  obtain ⟨m, hn, hl⟩ := id I.loc
  have hcls : (X.env.scope.kind == .class || (X.env.scope.kind == .module && X.env.locals != X.env.globals)) = false := by rw [I.ok.kind]; rfl
  have hiσ : i < σ.length := by rw [I.len]; exact (List.getElem?_eq_some_iff.mp hi).1
  have cne := I.cne
  have tracked : ∀ {a : Addr} {h' : Heap}, (∃ o, s.heap.get? a = some o ∧ H a = none) → Heap.SameBut a s.heap h' → HOk X.prog X.w H h' := fun {a h'} ha hs b ob e => by
    obtain ⟨_, _, hfree⟩ := ha
    refine (I.hok b ob e).stay (fun c w' hc q => (hs.2 c ?_).trans q) (fun _ q => q) fun _ _ q => q
    rintro rfl
    rcases hc with rfl | hc
    · rw [hfree] at e; cases e
    · rw [hfree] at hc; cases hc
  rcases hx with hk | hk
  · refine wpAny_storeName_local hk hn (fun h' hn' hs => ?_) hcls
    obtain ⟨oL, _, _, hoL, _⟩ := id hn
    refine h _ ⟨I.ok, I.os, I.bare, ⟨fun b o e n hb hx => ?_, fun b o e n hb hx => ?_, I.base.free, fun b o e hx => ?_, I.base.tups, I.base.frzs, I.base.tbls⟩, ⟨_, hn', fun j y v' e1 e2 e3 => ?_⟩, fun y c e => ?_, I.free, I.freeC, fun p hp => ?_, tracked ⟨oL, hoL, I.free⟩ hs, by simpa using I.len⟩ ⟨_, hs, .inl rfl⟩
    · exact (hs.2 b (Nat.ne_of_lt (Nat.lt_of_lt_of_le (Heap.lt_size e) I.ok.above))).trans (I.base.keep b o e n hb hx)
    · obtain ⟨sl, e1⟩ := I.base.slot b o e n hb hx
      exact ⟨sl, (hs.2 b (Nat.ne_of_lt (Nat.lt_of_lt_of_le (Heap.lt_size e) I.ok.above))).trans e1⟩
    · obtain ⟨o', e1⟩ := I.base.there b o e hx
      exact ⟨o', (hs.2 b (Nat.ne_of_lt (Nat.lt_of_lt_of_le (Heap.lt_size e) I.ok.above))).trans e1⟩
    · by_cases hj : j = i
      · subst hj
        rw [hi] at e1; cases e1
        rw [List.getElem?_set_self hiσ] at e2
        cases e2
        exact ⟨u, r, .inl ⟨hk, by simp⟩⟩
      · rw [List.getElem?_set_ne (Ne.symm hj)] at e2
        obtain ⟨u', r', q⟩ := hl j y v' e1 e2 e3
        refine ⟨u', r', ?_⟩
        rcases q with ⟨k, e⟩ | ⟨k, c, e, z⟩
        · refine .inl ⟨k, ?_⟩
          have : y ≠ x := fun e => hj (nodup_ix hN e1 (e ▸ hi))
          simp [this, e]
        · exact .inr ⟨k, c, e, z.sameBut hs (cne y c e)⟩
    · obtain ⟨w', z⟩ := I.cell y c e
      exact ⟨w', z.sameBut hs (cne y c e)⟩
    · obtain ⟨e, n, ne, nf, d⟩ := I.pin p hp
      exact ⟨(hs.2 p.1 ne).trans e, n, ne, nf, d⟩
  · have hfn : X.fn x = true := by
      rcases hf with z | z
      · exact z
      · rw [z] at hk; cases hk
    obtain ⟨c, hc⟩ := I.ok.has x (.inl hk)
    obtain ⟨w', z⟩ := I.cell x c hc
    refine wpAny_storeName_cell I.ok.kind hk hc z (fun h' hc' hs => ?_)
    obtain ⟨oc, hoc, hocd⟩ := id z
    refine h { s with heap := h' } ⟨I.ok, I.os, I.bare, ⟨fun b o e n hb hx => ?_, fun b o e n hb hx => ?_, I.base.free, fun b o e hx => ?_, I.base.tups, I.base.frzs, I.base.tbls⟩, ⟨m, hn.sameBut hs (Ne.symm (cne x c hc)), fun j y v' e1 e2 e3 => ?_⟩, fun y c' e => ?_, I.free, I.freeC, fun p hp => ?_, tracked ⟨oc, hoc, I.freeC x c hc⟩ hs, by simpa using I.len⟩ ⟨c, hs, .inr hc⟩
    · exact (hs.2 b (Nat.ne_of_lt (Nat.lt_of_lt_of_le (Heap.lt_size e) (I.ok.cab x c hfn hc)))).trans (I.base.keep b o e n hb hx)
    · obtain ⟨sl, e1⟩ := I.base.slot b o e n hb hx
      exact ⟨sl, (hs.2 b (Nat.ne_of_lt (Nat.lt_of_lt_of_le (Heap.lt_size e) (I.ok.cab x c hfn hc)))).trans e1⟩
    · obtain ⟨o', e1⟩ := I.base.there b o e hx
      exact ⟨o', (hs.2 b (Nat.ne_of_lt (Nat.lt_of_lt_of_le (Heap.lt_size e) (I.ok.cab x c hfn hc)))).trans e1⟩
    · by_cases hj : j = i
      · subst hj
        rw [hi] at e1; cases e1
        rw [List.getElem?_set_self hiσ] at e2
        cases e2
        exact ⟨u, r, .inr ⟨.inl hk, c, hc, hc'⟩⟩
      · rw [List.getElem?_set_ne (Ne.symm hj)] at e2
        obtain ⟨u', r', q⟩ := hl j y v' e1 e2 e3
        refine ⟨u', r', ?_⟩
        rcases q with q | ⟨k, c', e, z'⟩
        · exact .inl q
        · refine .inr ⟨k, c', e, z'.sameBut hs ?_⟩
          rintro rfl
          exact hj (nodup_ix hN e1 (I.ok.inj _ _ _ e hc ▸ hi))
    · by_cases hcc : c' = c
      · subst hcc; exact ⟨_, hc'⟩
      · obtain ⟨w2, z2⟩ := I.cell y c' e
        exact ⟨w2, z2.sameBut hs hcc⟩
    · obtain ⟨e, n, ne, nf, d⟩ := I.pin p hp
      refine ⟨(hs.2 p.1 ?_).trans e, n, ne, nf, d⟩
      intro q
      rw [q, hoc] at e
      have q' : oc = p.2 := Option.some.inj e
      exact d w' (by rw [← q']; exact hocd)
theorem store_ok {M : Model} {A : Around} {E : Value → Shared → Prop} {i : Nat} {x : Str} {v : V} {u : Value} {Q : Unit → Shared → Prop} (I : Inv X pins σ H s) (hN : X.N.Nodup) (hi : X.N[i]? = some x) (hx : Loc X.env.scope x) (r : RelV v u)
    (h : ∀ s', Inv X pins (σ.set i (some v)) H s' → Q () s') (hf : X.fn x = true ∨ X.env.scope.names.lookup x = some .local := by first | exact .inl rfl | exact .inr rfl | assumption) : wpAny M A (storeName X.env x u) Q E s :=
  store_ok2 I hN hi hx r (fun s' I' _ => h s' I') hf
/-- behind a call or a block, the state as it is -/
theorem Inv.call' {s' : Shared} {ch : List Addr} (I : Inv X pins σ H s) (ho : s'.os = s.os) (u : Un (frs X.stack) ch H H' s.heap s'.heap) (hok : HOk X.prog X.w H' s'.heap) (hg : AllBare s'.gens)
    (hch : ∀ b ∈ ch, (b ∈ X.ex ∨ X.s_0.heap.objs.size ≤ b) ∧ b ≠ X.env.locals ∧ (∀ x c, X.env.cells.lookup x = some c → c ≠ b) ∧ ∀ p ∈ X.pn ++ pins, p.1 ≠ b) : Inv X pins σ H' s' := by
  obtain ⟨h', g', d', t', o'⟩ := s'
  have e : o' = s.os := ho
  subst e
  exact I.call (g' := g') (t' := t') (d' := d') u hok hg hch
end

/-! ### the judgements -/
/-- an exception: its class, its own dict's address (where it has one), the abstract heap behind it -/
abbrev XK := Value → Option Addr → Hp → Prop
abbrev St := List (Option V)
abbrev VK := V → Hp → Prop
/-- an expression's reading; a test's; an argument list's -/
abbrev TE := St → Hp → VK → Prop
abbrev TT := St → Hp → (Bool → Hp → Prop) → Prop
abbrev TA := St → Hp → (List V → Hp → Prop) → Prop
/-- what is wanted behind a statement -/
structure Ends where
  nx : St → Hp → Prop
  rt : VK
  bk : St → Hp → Prop := fun _ _ => False
  ct : St → Hp → Prop := fun _ _ => False
abbrev TS := Ends → St → Hp → Prop

def EP (X : Cx) (pins : List (Addr × Obj)) (σ : St) (Q : VK) (u : Value) (s' : Shared) : Prop := ∃ v H', Inv X pins σ H' s' ∧ RelV v u ∧ Q v H'
def TP (X : Cx) (pins : List (Addr × Obj)) (σ : St) (Q : Bool → Hp → Prop) (b : Bool) (s' : Shared) : Prop := ∃ H', Inv X pins σ H' s' ∧ Q b H'
def AP (X : Cx) (pins : List (Addr × Obj)) (σ : St) (Q : List V → Hp → Prop) (us : List Value) (s' : Shared) : Prop := ∃ vs H', Inv X pins σ H' s' ∧ Vals vs us ∧ Q vs H'
def SP (X : Cx) (pins : List (Addr × Obj)) (D : Ends) (f : Flow) (s' : Shared) : Prop :=
  match f with
  | .next => ∃ σ' H', Inv X pins σ' H' s' ∧ D.nx σ' H'
  | .brk => ∃ σ' H', Inv X pins σ' H' s' ∧ D.bk σ' H'
  | .cont => ∃ σ' H', Inv X pins σ' H' s' ∧ D.ct σ' H'
  | .ret u => ∃ v σ' H', Inv X pins σ' H' s' ∧ RelV v u ∧ D.rt v H'

def PE (X : Cx) (e : Expr) (t : TE) : Prop :=
  ∀ (pins : List (Addr × Obj)) (s : Shared) (σ : St) (H : Hp) (Q : VK), Inv X pins σ H s → t σ H Q → wpAny (model X.prog X.w) X.A (eval e X.env) (EP X pins σ Q) X.xe s
def PT (X : Cx) (e : Expr) (t : TT) : Prop :=
  ∀ (pins : List (Addr × Obj)) (s : Shared) (σ : St) (H : Hp) (Q : Bool → Hp → Prop), Inv X pins σ H s → t σ H Q → wpAny (model X.prog X.w) X.A (isTrue e X.env (eval e X.env)) (TP X pins σ Q) X.xe s
/-- a test whatever its 'whole' is (and, or) -/
def PW (X : Cx) (e : Expr) (t : TT) : Prop :=
  ∀ (whole : Sem Value) (pins : List (Addr × Obj)) (s : Shared) (σ : St) (H : Hp) (Q : Bool → Hp → Prop), Inv X pins σ H s → t σ H Q → wpAny (model X.prog X.w) X.A (isTrue e X.env whole) (TP X pins σ Q) X.xe s
theorem PW.pt {X : Cx} {e : Expr} {t : TT} (h : PW X e t) : PT X e t := h _
/-- an argument list (no star), from the left -/
def PA (X : Cx) (es : List Expr) (t : TA) : Prop :=
  ∀ (pos : Pos) (pins : List (Addr × Obj)) (s : Shared) (σ : St) (H : Hp) (Q : List V → Hp → Prop), Inv X pins σ H s → t σ H Q → wpAny (model X.prog X.w) X.A (spliced (backTo pos (starEach es X.env))) (AP X pins σ Q) X.xe s
def PS (X : Cx) (st : Stmt) (t : TS) : Prop :=
  ∀ (pins : List (Addr × Obj)) (s : Shared) (σ : St) (H : Hp) (D : Ends), Inv X pins σ H s → t D σ H → wpAny (model X.prog X.w) X.A (exec st X.env) (SP X pins D) X.xe s
def PSs (X : Cx) (st : List Stmt) (t : TS) : Prop :=
  ∀ (pins : List (Addr × Obj)) (s : Shared) (σ : St) (H : Hp) (D : Ends), Inv X pins σ H s → t D σ H → wpAny (model X.prog X.w) X.A (execs st X.env) (SP X pins D) X.xe s
/-- weaken the end -/
theorem thn {α : Type} {t : Sem α} {Q Q' : α → Shared → Prop} {M : Model} {A : Around} {E : Value → Shared → Prop} {s : Shared} (h : wpAny M A t Q E s) (hQ : ∀ a s, Q a s → Q' a s) : wpAny M A t Q' E s := wpAny_mono h hQ fun _ _ x => x
end L2

namespace L2
open PySem PySem.Spec PyProof.Rows
section
variable {X : Cx}

/-- two expressions in a row -/
theorem bin {a b : Expr} {ta tb : TE} (ha : PE X a ta) (hb : PE X b tb) {pins : List (Addr × Obj)} {s : Shared} {σ : St} {H : Hp} {R : V → V → Hp → Prop} (I : Inv X pins σ H s) (h : ta σ H fun x H1 => tb σ H1 fun y H2 => R x y H2)
    {α : Type} {Q : α → Shared → Prop} {f : Value → Value → Sem α}
    (hf : ∀ v u s2 x y H2, Inv X pins σ H2 s2 → RelV x v → RelV y u → R x y H2 → wpAny (model X.prog X.w) X.A (f v u) Q X.xe s2) :
    wpAny (model X.prog X.w) X.A (eval a X.env) (fun v s₁ => wpAny (model X.prog X.w) X.A (eval b X.env) (fun u s₂ => wpAny (model X.prog X.w) X.A (f v u) Q X.xe s₂) X.xe s₁) X.xe s := by
  refine thn (ha pins s σ H _ I h) fun v s1 ⟨x, H1, I1, r1, q1⟩ => ?_
  refine thn (hb pins s1 σ H1 _ I1 q1) fun u s2 ⟨y, H2, I2, r2, q2⟩ => ?_
  exact hf v u s2 x y H2 I2 r1 r2 q2

/-! ### names and constants -/
def tVar (i : Nat) : TE := fun σ H Q => ∃ v, σ[i]? = some (some v) ∧ Q v H
def tC (v : V) : TE := fun _ H Q => Q v H
theorem pe_var {i : Nat} {x : Str} {pos : Pos} (hN : X.N[i]? = some x) (hv : Vis X.env.scope x) (hd : (x == ("__debug__" : Str)) = false := by decide) (hcd : (x == ("__classdict__" : Str)) = false := by decide) : PE X (.Name x pos) (tVar i) := by
  intro pins s σ H Q I h
  obtain ⟨v, e, h⟩ := h
  obtain ⟨m, hn, hl⟩ := I.loc
  obtain ⟨u, r, l⟩ := hl i x v hN e hv
  have fin : EP X pins σ Q u s := ⟨v, H, I, r, h⟩
  rcases l with ⟨hk, hm⟩ | ⟨hk, c, hc, hcell⟩
  · exact wpAny_Name (wpAny_loadName_local I.ok.kind hk hn hm fin) hd
  · rcases hk with hk | hk
    · exact wpAny_Name (wpAny_loadName_cell I.ok.kind hk hc hcell fin) hd
    · exact wpAny_Name (wpAny_loadName_free I.ok.kind hk hc hcell fin hcd) hd
theorem pe_int {i j pos} : PE X (.Constant (.int i) j pos) (tC (.int i)) := fun _ _ _ H _ I h => wpAny_Constant_int ⟨.int i, H, I.tok _, ⟨_, rfl⟩, h⟩
theorem pe_bl {b j pos} : PE X (.Constant (.bool b) j pos) (tC (.bl b)) := fun _ _ _ H _ I h => Constant_bool ⟨.bl b, H, I, rfl, h⟩
theorem pe_non {j pos} : PE X (.Constant .none j pos) (tC .non) := fun _ _ _ H _ I h => Constant_none ⟨.non, H, I, rfl, h⟩

/-- a global name of the def -/
def Gl (X : Cx) (x : Str) : Prop := X.env.kindOf x = some .globalImplicit
theorem ld_glob {E : Value → Shared → Prop} {pins : List (Addr × Obj)} {s : Shared} {σ : St} {H : Hp} {x : Str} {u : Value} {pos : Pos} {Q : Value → Shared → Prop} (I : Inv X pins σ H s) (hg : Gl X x) (hm : X.mg x = some u) (h : Q u s)
    (hd : (x == ("__debug__" : Str)) = false := by decide) : wpAny (model X.prog X.w) X.A (eval (.Name x pos) X.env) Q E s :=
  Calls.Name_function_global I.ok.kind hg (Calls.loadGlobal_global (by rw [I.ok.glob]; exact I.mod.glob.keeps I.bk) hm h) hd
theorem ld_blt {E : Value → Shared → Prop} {pins : List (Addr × Obj)} {s : Shared} {σ : St} {H : Hp} {x : Str} {u : Value} {pos : Pos} {Q : Value → Shared → Prop} (I : Inv X pins σ H s) (hg : Gl X x) (hm : X.mg x = none) (hv : bootBuiltins x = some u) (h : Q u s)
    (hn : x ≠ "__name__" := by decide) (hd : (x == ("__debug__" : Str)) = false := by decide) : wpAny (model X.prog X.w) X.A (eval (.Name x pos) X.env) Q E s := by
  obtain ⟨mb, h1, h2⟩ := I.mod.blt
  exact Calls.Name_function_global I.ok.kind hg (Calls.loadGlobal_builtin (by rw [I.ok.glob]; exact I.mod.glob.keeps I.bk) hm (by rw [I.ok.blt]; exact h1.keeps I.bk) ((h2 x hn).trans hv) h) hd
/-- a module's constant, a class, a function, as a value -/
theorem pe_glob {x : Str} {v : V} {u : Value} {pos : Pos} (hg : Gl X x) (hm : X.mg x = some u) (r : RelV v u) (hd : (x == ("__debug__" : Str)) = false := by decide) : PE X (.Name x pos) (tC v) :=
  fun _ _ _ H _ I h => ld_glob I hg hm ⟨v, H, I, r, h⟩ hd

/-! ### arithmetic -/
variable {a b : Expr} {ta tb : TE} {pos : Pos}

/-! ### comparisons -/
/-- a comparison as a value, as a test -/
def tB (t : TE) : TT := fun σ H Q => t σ H fun x H1 => ∃ c, x = .bl c ∧ Q c H1
/-- an expression whose value is a bool, as a test -/
theorem pt_val {e : Expr} {t : TE} (h : PE X e t) (he : ∀ whole, isTrue e X.env whole = (do let v ← whole; standAt e.pos; holding [v] (truthy v)) := by intro _; rfl) : PT X e (tB t) := by
  intro pins s σ H Q I hw
  refine isTrue_plain (thn (h pins s σ H _ I hw) fun v s1 ⟨x, H1, I1, r1, q1⟩ => ?_) (he _)
  obtain ⟨d, rfl, q⟩ := q1
  cases r1
  exact wpAny_truthy_bool ⟨H1, I1, q⟩

/-! ### and, or, not -/
variable {tA tB' : TT} {rest : List Expr}
def tOr (t u : TT) : TT := fun σ H Q => t σ H fun c H1 => if c = true then Q true H1 else u σ H1 Q
def tNot (t : TT) : TT := fun σ H Q => t σ H fun c H1 => Q (!c) H1
theorem pw_or1 (ha : PT X a tA) : PW X (.BoolOp .Or [a] pos) tA := by
  intro wh pins s σ H Q I h
  refine isTrue_or (thn (ha pins s σ H Q I h) fun c s1 e => ?_)
  cases c with
  | false => exact isTrue_or_nil e
  | true => exact e
theorem pw_or (ha : PT X a tA) (hb : PW X (.BoolOp .Or (b :: rest) pos) tB') : PW X (.BoolOp .Or (a :: b :: rest) pos) (tOr tA tB') := by
  intro wh pins s σ H Q I h
  refine isTrue_or (thn (ha pins s σ H _ I h) fun c s1 ⟨H1, I1, q1⟩ => ?_)
  cases c with
  | true => exact ⟨H1, I1, q1⟩
  | false => exact hb wh pins s1 σ H1 Q I1 q1
theorem pt_not (ha : PT X a tA) : PT X (.UnaryOp .Not a pos) (tNot tA) := by
  intro pins s σ H Q I h
  exact isTrue_not (ha pins s σ H (fun c H1 => Q (!c) H1) I h)
/-- .. as values (bools) -/
def tAndV (ta tb : TE) : TE := fun σ H Q => ta σ H fun x H1 => ∃ c, x = .bl c ∧ if c = true then tb σ H1 Q else Q (.bl false) H1
theorem pe_one {op} {t : TE} (h : PE X a t) : PE X (.BoolOp op [a] pos) t := fun pins s σ H Q I hw => BoolOp_one (h pins s σ H Q I hw)
theorem pe_and (ha : PE X a ta) (hb : PE X (.BoolOp .And (b :: rest) pos) tb) : PE X (.BoolOp .And (a :: b :: rest) pos) (tAndV ta tb) := by
  intro pins s σ H Q I h
  refine BoolOp_and (thn (ha pins s σ H _ I h) fun v s1 ⟨x, H1, I1, r1, q1⟩ => ?_)
  obtain ⟨c, rfl, q1⟩ := q1
  cases r1
  refine wpAny_truthy_bool ?_
  cases c with
  | true => exact hb pins s1 σ H1 Q I1 q1
  | false => exact ⟨.bl false, H1, I1, rfl, q1⟩
/-- a if t else b -/
def tIf (t : TT) (ta tb : TE) : TE := fun σ H Q => t σ H fun c H1 => if c = true then ta σ H1 Q else tb σ H1 Q
theorem pe_ifExp {c : Expr} (hc : PT X c tA) (ha : PE X a ta) (hb : PE X b tb) : PE X (.IfExp c a b pos) (tIf tA ta tb) := by
  intro pins s σ H Q I h
  refine wpAny_IfExp (thn (hc pins s σ H _ I h) fun d s1 ⟨H1, I1, q1⟩ => ?_)
  cases d with
  | true => exact ha pins s1 σ H1 Q I1 q1
  | false => exact hb pins s1 σ H1 Q I1 q1
end
end L2

namespace L2
open PySem PySem.Spec PyProof.Rows

/-! ### a list, a tuple that is read: tracked, frozen, or an object of the module -/
def SqL (K : PySem.W.Frag) (H : Hp) (a : Addr) (xs : List V) : Prop :=
  Rd H a (.lst xs) ∨
    ∃ (o : Obj) (its : Array Value) (n : Nat), K.lookup a = some o ∧ o.cls = .type "list" ∧ o.dict = none ∧ o.data = .seq its n ∧ its.size ≤ sizeLine ∧ Vals xs its.toList
def SqT (K : PySem.W.Frag) (H : Hp) (a : Addr) (xs : List V) : Prop :=
  Rd H a (.tup xs) ∨
    ∃ (o : Obj) (its : Array Value) (n : Nat), K.lookup a = some o ∧ o.cls = .type "tuple" ∧ o.data = .seq its n ∧ its.size ≤ sizeLine ∧ Vals xs its.toList
def absV : Value → Option V
  | .none => some .non
  | .bool b => some (.bl b)
  | .int i _ => some (.int i)
  | .str x _ => some (.str x)
  | .bytes b _ => some (.byt b)
  | .float b _ => some (.flt b)
  | .ref a => some (.ref a)
  | .type n => some (.ty n)
  | _ => none
theorem RelV.abs {x : V} {u : Value} (r : RelV x u) : absV u = some x := by
  cases x with
  | non => cases r; rfl
  | bl _ => cases r; rfl
  | int _ => obtain ⟨t, rfl⟩ := r; rfl
  | str _ => obtain ⟨t, rfl⟩ := r; rfl
  | byt _ => obtain ⟨t, rfl⟩ := r; rfl
  | flt _ => obtain ⟨t, rfl⟩ := r; rfl
  | ref _ => cases r; rfl
  | ty _ => cases r; rfl
theorem RelV.inj {x y : V} {u : Value} (r : RelV x u) (q : RelV y u) : x = y := Option.some.inj (r.abs.symm.trans q.abs)
theorem Vals.inj : ∀ {xs ys : List V} {us : List Value}, Vals xs us → Vals ys us → xs = ys
  | _, _, _, .nil, .nil => rfl
  | _, _, _, .cons r t, .cons r' t' => by rw [r.inj r', Vals.inj t t']
section
variable {X : Cx} {pins : List (Addr × Obj)} {σ : St} {H : Hp} {s : Shared} {a : Addr} {xs ys : List V}
theorem SqL.of {K : PySem.W.Frag} (h : H a = some (.lst xs)) : SqL K H a xs := .inl (.inl h)
theorem SqT.of {K : PySem.W.Frag} (h : H a = some (.tup xs)) : SqT K H a xs := .inl (.inl h)
theorem Inv.list (I : Inv X pins σ H s) (h : SqL X.K H a xs) : ∃ its : List Value, Vals xs its ∧ PlainL s.heap a its.toArray ∧ xs.length ≤ sizeLine := by
  rcases h with h | ⟨o, its, n, hk, hc, hd, hs, hz, r⟩
  · obtain ⟨z, its, n, r, e⟩ := h.ok I.hok
    exact ⟨its, r, ⟨_, n, e, rfl, rfl, rfl⟩, z⟩
  · refine ⟨its.toList, r, ⟨o, n, I.kIn a o hk, hc, hd, by simpa using hs⟩, ?_⟩
    have e := r.length
    simp only [Array.length_toList] at e
    omega
theorem Inv.tuple (I : Inv X pins σ H s) (h : SqT X.K H a xs) : ∃ its : List Value, Vals xs its ∧ IsTup s.heap a its.toArray ∧ xs.length ≤ sizeLine := by
  rcases h with h | ⟨o, its, n, hk, hc, hs, hz, r⟩
  · obtain ⟨z, its, r, p⟩ := h.ok I.hok
    exact ⟨its, r, p, z⟩
  · refine ⟨its.toList, r, ⟨o, I.kIn a o hk, hc, n, by simpa using hs⟩, ?_⟩
    have e := r.length
    simp only [Array.length_toList] at e
    omega
theorem Inv.list_inj (I : Inv X pins σ H s) (h : SqL X.K H a xs) (h' : SqL X.K H a ys) : xs = ys := by
  obtain ⟨its, r, ⟨o, n, e, _, _, d⟩, _⟩ := I.list h
  obtain ⟨its', r', ⟨o', n', e', _, _, d'⟩, _⟩ := I.list h'
  rw [e] at e'; cases e'
  rw [d] at d'
  injection d' with d1 _
  have : its = its' := by simpa using congrArg Array.toList d1
  subst this
  exact r.inj r'
theorem Inv.tuple_inj (I : Inv X pins σ H s) (h : SqT X.K H a xs) (h' : SqT X.K H a ys) : xs = ys := by
  obtain ⟨its, r, ⟨o, e, _, n, d⟩, _⟩ := I.tuple h
  obtain ⟨its', r', ⟨o', e', _, n', d'⟩, _⟩ := I.tuple h'
  rw [e] at e'; cases e'
  rw [d] at d'
  injection d' with d1 _
  have : its = its' := by simpa using congrArg Array.toList d1
  subst this
  exact r.inj r'
end

/-! ### another wish about exceptions -/
abbrev Cx.wish (X : Cx) (E : Value → Shared → Prop) : Cx := { X with xe := E }
/-- no exception leaves -/
abbrev Cx.nox (X : Cx) : Cx := X.wish fun _ _ => False
theorem Cx.Ok.wish {X : Cx} (ok : X.Ok) (E : Value → Shared → Prop) : (X.wish E).Ok :=
  ⟨ok.mod, ok.kind, ok.glob, ok.blt, ok.above, ok.inj, ok.has, ok.cab, ok.hd, ok.frames, ok.stk, ok.exf, ok.bs, ok.bsz, ok.noex, ok.exfs, ok.funs, ok.frf⟩
theorem Cx.Ok.unwish {X : Cx} {E : Value → Shared → Prop} (ok : (X.wish E).Ok) : X.Ok :=
  ⟨ok.mod, ok.kind, ok.glob, ok.blt, ok.above, ok.inj, ok.has, ok.cab, ok.hd, ok.frames, ok.stk, ok.exf, ok.bs, ok.bsz, ok.noex, ok.exfs, ok.funs, ok.frf⟩
section
variable {X : Cx} {pins : List (Addr × Obj)} {σ : St} {H : Hp} {s : Shared} {E : Value → Shared → Prop}
theorem Inv.wish (I : Inv X pins σ H s) (E : Value → Shared → Prop) : Inv (X.wish E) pins σ H s := ⟨I.ok.wish E, I.os, I.bare, I.base, I.loc, I.cell, I.free, I.freeC, I.pin, I.hok, I.len⟩
theorem Inv.unwish (I : Inv (X.wish E) pins σ H s) : Inv X pins σ H s := ⟨I.ok.unwish, I.os, I.bare, I.base, I.loc, I.cell, I.free, I.freeC, I.pin, I.hok, I.len⟩
theorem SP.unwish {D : Ends} {f : Flow} {s' : Shared} (h : SP (X.wish E) pins D f s') : SP X pins D f s' := by
  cases f with
  | next => obtain ⟨σ', H', I, q⟩ := h; exact ⟨σ', H', I.unwish, q⟩
  | brk => obtain ⟨σ', H', I, q⟩ := h; exact ⟨σ', H', I.unwish, q⟩
  | cont => obtain ⟨σ', H', I, q⟩ := h; exact ⟨σ', H', I.unwish, q⟩
  | ret u => obtain ⟨v, σ', H', I, r, q⟩ := h; exact ⟨v, σ', H', I.unwish, r, q⟩
theorem PSs.nox {st : List Stmt} {t : TS} (h : PSs X.nox st t) : PSs X st t := fun pins s σ H D I hw =>
  wpAny_mono (h pins s σ H D (I.wish _) hw) (fun _ _ q => q.unwish) fun _ _ z => False.elim z
end

/-! ### blocks and small statements -/
section
variable {X : Cx} {st : Stmt} {rest : List Stmt} {t u : TS} {e : Expr} {te : TE} {pos : Pos}
def tNext : TS := fun D σ H => D.nx σ H
def tSeq (t u : TS) : TS := fun D σ H => t { D with nx := u D } σ H
theorem pss_nil : PSs X [] tNext := fun _ _ σ H _ I h => wpAny_execs_nil ⟨σ, H, I, h⟩
theorem pss_cons (h1 : PS X st t) (h2 : PSs X rest u) : PSs X (st :: rest) (tSeq t u) := by
  intro pins s σ H D I h
  refine wpAny_execs_cons (thn (h1 pins s σ H { D with nx := u D } I h) fun f s1 q => ?_)
  cases f with
  | next =>
    obtain ⟨σ', H', I', q⟩ := q
    exact h2 pins s1 σ' H' D I' q
  | ret v => exact q
  | brk => exact q
  | cont => exact q
theorem pss_one (h1 : PS X st t) : PSs X [st] t := by
  intro pins s σ H D I h
  refine wpAny_execs_cons (thn (h1 pins s σ H D I h) fun f s1 q => ?_)
  cases f with
  | next => exact wpAny_execs_nil q
  | ret v => exact q
  | brk => exact q
  | cont => exact q
/-- in a def's body nothing is shown -/
theorem Inv.quiet {pins : List (Addr × Obj)} {σ : St} {H : Hp} {s : Shared} (I : Inv X pins σ H s) : interactive X.env = false := by simp [interactive, I.ok.kind]
/-- an expression whose value is dropped -/
def tDrop (te : TE) : TS := fun D σ H => te σ H fun _ H1 => D.nx σ H1
theorem ps_expr (he : PE X e te) (hs : swapsWith e none pos.line X.env = pure false := by rfl) : PS X (.Expr e pos) (tDrop te) := by
  intro pins s σ H D I h
  exact wpAny_Expr_any (thn (he pins s σ H _ I h) fun v s1 ⟨x, H1, I1, r1, q1⟩ => ⟨σ, H1, I1, q1⟩) I.quiet hs
def tRet (te : TE) : TS := fun D σ H => te σ H D.rt
theorem ps_ret (he : PE X e te) : PS X (.Return (some e) pos) (tRet te) := by
  intro pins s σ H D I h
  exact wpAny_Return_some (thn (he pins s σ H _ I h) fun v s1 ⟨x, H1, I1, r1, q1⟩ => ⟨x, σ, H1, I1, r1, q1⟩)
def tIfS (c : TT) (t u : TS) : TS := fun D σ H => c σ H fun b H1 => if b = true then t D σ H1 else u D σ H1
theorem ps_if {c : Expr} {a b : List Stmt} {tc : TT} (hc : PT X c tc) (ha : PSs X a t) (hb : PSs X b u) : PS X (.If c a b pos) (tIfS tc t u) := by
  intro pins s σ H D I h
  refine wpAny_If (thn (hc pins s σ H _ I h) fun d s1 ⟨H1, I1, q1⟩ => ?_)
  cases d with
  | true => exact ha pins s1 σ H1 D I1 q1
  | false => exact hb pins s1 σ H1 D I1 q1
end

/-! ### targets -/
abbrev TG := V → St → Hp → (St → Hp → Prop) → Prop
abbrev TGs := List V → St → Hp → (St → Hp → Prop) → Prop
def PG (X : Cx) (target : Expr) (t : TG) : Prop :=
  ∀ (pins : List (Addr × Obj)) (s : Shared) (σ : St) (H : Hp) (v : V) (u : Value) (Q : St → Hp → Prop), Inv X pins σ H s → RelV v u → t v σ H Q →
    wpAny (model X.prog X.w) X.A (assign target X.env u) (fun _ s' => ∃ σ' H', Inv X pins σ' H' s' ∧ Q σ' H') X.xe s
/-- several targets, one after another -/
def PGs (X : Cx) (ts : List Expr) (t : TGs) : Prop :=
  ∀ (pins : List (Addr × Obj)) (s : Shared) (σ : St) (H : Hp) (vs : List V) (us : List Value) (Q : St → Hp → Prop), Inv X pins σ H s → Vals vs us → t vs σ H Q →
    wpAny (model X.prog X.w) X.A (assignInOrder ((assignEach ts X.env).map (·.2)) us) (fun _ s' => ∃ σ' H', Inv X pins σ' H' s' ∧ Q σ' H') X.xe s
/-- o[i] = v, by values -/
abbrev TSet := V → V → V → Hp → (Hp → Prop) → Prop
def PSet (X : Cx) (t : TSet) : Prop :=
  ∀ (pins : List (Addr × Obj)) (s : Shared) (σ : St) (H : Hp) (o i v : V) (ov iv u : Value) (Q : Hp → Prop), Inv X pins σ H s → RelV o ov → RelV i iv → RelV v u → t o i v H Q →
    wpAny (model X.prog X.w) X.A (setItem ov iv u) (fun _ s' => ∃ H', Inv X pins σ H' s' ∧ Q H') X.xe s
section
variable {X : Cx} {pos : Pos}
def gName (i : Nat) : TG := fun v σ H Q => Q (σ.set i (some v)) H
theorem pg_name {i : Nat} {x : Str} (hN : X.N.Nodup) (hi : X.N[i]? = some x) (hx : Loc X.env.scope x) (hf : X.fn x = true ∨ X.env.scope.names.lookup x = some .local := by first | exact .inl rfl | exact .inr rfl | assumption) : PG X (.Name x pos) (gName i) := by
  intro pins s σ H v u Q I r h
  exact wpAny_assign_Name (store_ok I hN hi hx r (fun s' I' => ⟨_, H, I', h⟩) hf)
def gNil : TGs := fun vs σ H Q => vs = [] ∧ Q σ H
def gCons (t : TG) (u : TGs) : TGs := fun vs σ H Q => ∃ v r, vs = v :: r ∧ t v σ H fun σ' H' => u r σ' H' Q
theorem pgs_nil : PGs X [] gNil := by
  intro pins s σ H vs us Q I r h
  obtain ⟨e, h⟩ := h
  subst e
  cases r
  exact assignInOrder_nil ⟨σ, H, I, h⟩
theorem pgs_cons {e : Expr} {es : List Expr} {t : TG} {u : TGs} (h1 : PG X e t) (h2 : PGs X es u)
    (hs : (assignEach (e :: es) X.env).map (·.2) = assign e X.env :: (assignEach es X.env).map (·.2) := by rfl) : PGs X (e :: es) (gCons t u) := by
  intro pins s σ H vs us Q I r h
  obtain ⟨v, vr, e1, h⟩ := h
  subst e1
  cases r with
  | cons r rr =>
    rw [hs]
    refine assignInOrder_cons (thn (h1 pins s σ H _ _ _ I r h) fun _ s1 ⟨σ1, H1, I1, q1⟩ => ?_)
    exact h2 pins s1 σ1 H1 _ _ Q I1 rr q1
/-- (a, b, ..) = a tuple of that length -/
def gTup (K : PySem.W.Frag) (n : Nat) (t : TGs) : TG := fun v σ H Q => ∃ a xs, v = .ref a ∧ SqT K H a xs ∧ xs.length = n ∧ t xs σ H Q
theorem pg_tup {es : List Expr} {k : Nat} {t : TGs} {n : Nat} (hc : X.calm = true) (h : PGs X es t)
    (hn : (assignEach es X.env).length = n := by rfl) (hst : (assignEach es X.env).findIdx? (·.1) = none := by rfl) : PG X (.Tuple es k pos) (gTup X.K n t) := by
  intro pins s σ H v u Q I r hw
  obtain ⟨a, xs, e1, hq, hl, hw⟩ := hw
  subst e1
  cases r
  obtain ⟨its, rv, ht, hz⟩ := I.tuple hq
  refine assign_Tuple_tuple (I.ok.hd hc) ht (by simp [hn, ← hl, rv.length]) hst fun h' hx => ?_
  have I1 : Inv X pins σ H { s with heap := h' } := I.kept (t' := s.toks) fun b o e => hx b o (Nat.ne_of_lt (Heap.lt_size e)) e
  exact h pins _ σ H xs _ Q I1 (by simpa using rv) hw
/-- o[i] = .. -/
def gSub (to ti : TE) (t : TSet) : TG := fun v σ H Q => to σ H fun o H1 => ti σ H1 fun i H2 => t o i v H2 fun H3 => Q σ H3
theorem pg_sub {o i : Expr} {to ti : TE} {t : TSet} (ho : PE X o to) (hi : PE X i ti) (hs : PSet X t)
    (ha : ∀ v, assign (.Subscript o i pos) X.env v = (do
      let ov ← holding [v] (eval o X.env)
      let iv ← holding [v, ov] (eval i X.env)
      standAt pos
      holding [v, ov, iv] (setItem ov iv v)
      release [v, ov, iv] []) := by intro _; rfl) : PG X (.Subscript o i pos) (gSub to ti t) := by
  intro pins s σ H v u Q I r h
  rw [ha]
  refine wpAny_bind (wpAny_holding (thn (ho pins s σ H _ I h) fun ov s1 ⟨x, H1, I1, r1, q1⟩ => ?_))
  refine wpAny_bind (wpAny_holding (thn (hi pins s1 σ H1 _ I1 q1) fun iv s2 ⟨y, H2, I2, r2, q2⟩ => ?_))
  refine wpAny_bind (wpAny_standAt (wpAny_bind (wpAny_holding (thn (hs pins s2 σ H2 x y v ov iv u _ I2 r1 r2 r q2) fun _ s3 ⟨H3, I3, q3⟩ => ?_))))
  exact wpAny_release ⟨σ, H3, I3, q3⟩
/-- target = value -/
def tAsg (te : TE) (g : TG) : TS := fun D σ H => te σ H fun x H1 => g x σ H1 D.nx
theorem ps_asg {tg e : Expr} {te : TE} {g : TG} (he : PE X e te) (hg : PG X tg g) (hs : swapsWithSole [tg] e pos.line X.env = pure false := by rfl) (hw : swappedStores [tg] e X.env = pure none := by rfl)
    (h1 : (assignEach [tg] X.env).map (·.2) = [assign tg X.env] := by rfl) : PS X (.Assign [tg] e pos) (tAsg te g) := by
  intro pins s σ H D I h
  refine wpAny_Assign_stores (thn (he pins s σ H _ I h) fun v s1 ⟨x, H1, I1, r1, q1⟩ => ?_) hs hw
  rw [h1]
  exact thn (hg pins s1 σ H1 x v _ I1 r1 q1) fun _ s2 q => q
/-- name = value -/
theorem ps_set {i : Nat} {x : Str} {e : Expr} {te : TE} {pos' : Pos} (hN : X.N.Nodup) (hi : X.N[i]? = some x) (hx : Loc X.env.scope x) (he : PE X e te) (hs : swapsWith e (some (.Name x pos')) pos.line X.env = pure false := by rfl) (hf : X.fn x = true ∨ X.env.scope.names.lookup x = some .local := by first | exact .inl rfl | exact .inr rfl | assumption) :
    PS X (.Assign [.Name x pos'] e pos) (tAsg te (gName i)) := by
  intro pins s σ H D I h
  refine wpAny_Assign_Name (thn (he pins s σ H _ I h) fun v s1 ⟨y, H1, I1, r1, q1⟩ => ?_) hs
  exact store_ok I1 hN hi hx r1 (fun s2 I2 => ⟨_, H1, I2, q1⟩) hf
end

/-! ### while -/
section
variable {X : Cx} {pos : Pos}
/-- the invariant W with its measure -/
def tWhile (c : TT) (tb : TS) : TS := fun D σ H => ∃ W : Nat → St → Hp → Prop, (∃ m, W m σ H) ∧ ∀ m σ H, W m σ H →
  c σ H fun b H1 => if b = true then ∃ N : St → Hp → Prop, (∀ σ' H', N σ' H' → ∃ m', m' < m ∧ W m' σ' H') ∧ tb { D with nx := N, ct := N, bk := D.nx } σ H1 else D.nx σ H1
theorem ps_while {c : Expr} {body : List Stmt} {tc : TT} {tb : TS} (hp : PassesOwn (model X.prog X.w) X.A X.env X.xe) (hc : PT X c tc) (hb : PSs X body tb) : PS X (.While c body [] pos) (tWhile tc tb) := by
  intro pins s σ H D I h
  obtain ⟨W, ⟨m0, w0⟩, turn⟩ := h
  refine wpAny_While (codeAny_whileLoop (fun n s' => ∃ σ' H', Inv X pins σ' H' s' ∧ W n σ' H') ?_ m0 ⟨σ, H, I, w0⟩)
  rintro n s1 ⟨σ1, H1, I1, w1⟩
  refine wpAny_passesOwn hp (thn (hc pins s1 σ1 H1 _ I1 (turn n σ1 H1 w1)) fun b s2 ⟨H2, I2, q2⟩ => ?_)
  cases b with
  | true =>
    obtain ⟨N, hN, q2⟩ := q2
    rw [if_pos rfl]
    refine wpAny_passesOwn hp (thn (hb pins s2 σ1 H2 _ I2 q2) fun f s3 q3 => ?_)
    cases f with
    | next =>
      obtain ⟨σ3, H3, I3, n3⟩ := q3
      obtain ⟨m', hm, w3⟩ := hN σ3 H3 n3
      exact ⟨m', hm, σ3, H3, I3, w3⟩
    | cont =>
      obtain ⟨σ3, H3, I3, n3⟩ := q3
      obtain ⟨m', hm, w3⟩ := hN σ3 H3 n3
      exact ⟨m', hm, σ3, H3, I3, w3⟩
    | brk => exact q3
    | ret v => exact q3
  | false =>
    rw [if_neg Bool.false_ne_true]
    exact wpAny_execs_nil ⟨σ1, H2, I2, q2⟩
end

/-! ### what a loop or a comprehension walks -/
/-- at turn i: it yields x (the heap may grow), or it stops -/
structure It where
  go : Nat → Hp → Prop
  yld : Nat → Hp → V → Hp → Prop
  stop : Nat → Hp → Prop
/-- the iterator's own objects may turn: they are not the frame's, not pinned, younger than the entry (or a comprehension's own) -/
def FpOk (X : Cx) (pins : List (Addr × Obj)) (H : Hp) (b : Addr) : Prop :=
  H b = none ∧ b ≠ X.env.locals ∧ b ∉ X.fs ∧ (b ∈ X.ex ∨ X.s_0.heap.objs.size ≤ b) ∧ (∀ x c, X.env.cells.lookup x = some c → c ≠ b) ∧ ∀ p ∈ X.pn ++ pins, p.1 ≠ b
theorem Inv.fpOk {X : Cx} {pins : List (Addr × Obj)} {σ : St} {H H' : Hp} {s : Shared} {b : Addr} (I : Inv X pins σ H s) (hb : s.heap.objs.size ≤ b) (hn : H' b = none) : FpOk X pins H' b := by
  refine ⟨hn, Nat.ne_of_gt (Nat.lt_of_lt_of_le I.lt hb), I.nofs hb, .inr (Nat.le_trans I.sz hb), fun x c e z => ?_, fun p hp z => ?_⟩
  · obtain ⟨v, q⟩ := I.cell x c e
    exact absurd (Nat.lt_of_lt_of_le q.lt (by rw [z]; exact hb)) (Nat.lt_irrefl _)
  · exact absurd (Nat.lt_of_lt_of_le (Heap.lt_size (I.pin p hp).1) (by rw [z]; exact hb)) (Nat.lt_irrefl _)
structure Turn (P : Program) (w : World) (K : PySem.W.Frag) (tg : Expr) (J : It) (fp : List Addr) (it : Addr) (tn : Nat → Heap → Prop) : Prop where
  mem : it ∈ fp
  obj : ∀ i h, tn i h → ∀ b ∈ fp, ∃ o, h.get? b = some o ∧ ∀ v, o.data ≠ .cell v
  keep : ∀ i h h', tn i h → (∀ b ∈ fp, ∀ o, h.get? b = some o → h'.get? b = some o) → tn i h'
  item : ∀ (X : Cx), X.prog = P → X.w = w → X.K = K → X.calm = true → ∀ (i : Nat) (pins : List (Addr × Obj)) (s : Shared) (σ : St) (H : Hp) (E : Value → Shared → Prop), Inv X pins σ H s → (∀ b ∈ fp, FpOk X pins H b) → tn i s.heap → J.go i H →
    wpAny (model P w) X.A (pyNext (.ref it)) (fun r s1 => ∃ u, r = some u ∧
      wpAny (model P w) X.A (letOwnedTupleGo tg (.ref it) u) (fun _ s2 => ∃ x H', Inv X pins σ H' s2 ∧ RelV x u ∧ J.yld i H x H' ∧ tn (i + 1) s2.heap ∧ ∀ b ∈ fp, H' b = none) E s1) E s
  done : ∀ (X : Cx), X.prog = P → X.w = w → X.K = K → X.calm = true → ∀ (i : Nat) (pins : List (Addr × Obj)) (s : Shared) (σ : St) (H : Hp) (E : Value → Shared → Prop), Inv X pins σ H s → (∀ b ∈ fp, FpOk X pins H b) → tn i s.heap → J.stop i H →
    wpAny (model P w) X.A (pyNext (.ref it)) (fun r s1 => r = none ∧ Inv X pins σ H s1) E s
  self : ∀ (A : Around) (i : Nat) (s : Shared) (Q : Value → Shared → Prop) (E : Value → Shared → Prop), tn i s.heap → Q (.ref it) s → wpAny (model P w) A (pyIter (.ref it)) Q E s
abbrev TI := St → Hp → (It → Hp → Prop) → Prop
/-- an iterator has come -/
def PIE (X : Cx) (pins : List (Addr × Obj)) (σ : St) (tg : Expr) (R : It → Hp → Prop) (itv : Value) (s2 : Shared) : Prop :=
  ∃ (it : Addr) (fp : List Addr) (tn : Nat → Heap → Prop) (J : It) (H' : Hp), itv = .ref it ∧ Inv X pins σ H' s2 ∧ Turn X.prog X.w X.K tg J fp it tn ∧ tn 0 s2.heap ∧ (∀ b ∈ fp, FpOk X pins H' b) ∧ R J H'
def PI (X : Cx) (tg iter : Expr) (wi : TI) : Prop :=
  ∀ (pins : List (Addr × Obj)) (s : Shared) (σ : St) (H : Hp) (R : It → Hp → Prop), Inv X pins σ H s → wi σ H R →
    wpAny (model X.prog X.w) X.A (eval iter X.env) (fun v s1 => wpAny (model X.prog X.w) X.A (pyIter v) (PIE X pins σ tg R) X.xe s1) X.xe s

/-- the step ahead of the store is nothing for an iterator that keeps no tuple -/
theorem go_of {M : Model} {A : Around} {E : Value → Shared → Prop} {s : Shared} {tg : Expr} {it : Addr} {u : Value} {o : Obj} {n : String} {vs : Array Value} {Q : Unit → Shared → Prop} (ho : s.heap.get? it = some o) (hc : o.cls = .type n) (hd : o.data = .fields vs)
    (hn : ["enumerate", "zip", "dict_itemiterator", "dict_reverseitemiterator", "odict_iterator", "itertools.zip_longest", "itertools.pairwise"].contains n = false) (hQ : Q () s) : wpAny M A (letOwnedTupleGo tg (.ref it) u) Q E s := by
  unfold letOwnedTupleGo
  cases tg <;> first
    | exact wpAny_pure hQ
    | (cases u <;> first
        | exact wpAny_pure hQ
        | (refine wpAny_bind (wpAny_load ho ?_)
           rw [hc, hd]
           show wpAny M A (if (["enumerate", "zip", "dict_itemiterator", "dict_reverseitemiterator", "odict_iterator", "itertools.zip_longest", "itertools.pairwise"].contains n && vs[0]? == some (rawInt _)) = true then _ else _) Q E s
           rw [if_neg (by intro h; rw [hn, Bool.false_and] at h; cases h)]
           exact wpAny_pure hQ))

/-- the list at a, as it stands at each turn (a loop may append to it) -/
def Itl (K : PySem.W.Frag) (a : Addr) : It :=
  ⟨fun i H => ∃ xs x, SqL K H a xs ∧ xs[i]? = some x, fun i H x H' => H' = H ∧ ∀ xs, SqL K H a xs → xs[i]? = some x, fun i H => ∃ xs, SqL K H a xs ∧ xs.length ≤ i⟩
/-- lo, lo + 1, .. (n of them) -/
def Itr (lo : Int) (n : Nat) : It := ⟨fun i _ => i < n, fun i H x H' => H' = H ∧ x = .int (lo + i), fun i _ => n ≤ i⟩
theorem turn_list {P : Program} {w : World} {K : PySem.W.Frag} {tg : Expr} (a it : Addr) : Turn P w K tg (Itl K a) [it] it (fun i h => h.IsListIter it a i) where
  mem := by simp
  obj := fun i h st b hb => by
    have e : b = it := by simpa using hb
    subst e
    obtain ⟨o, e, c, d⟩ := st
    exact ⟨o, e, fun v z => by rw [d] at z; cases z⟩
  keep := fun i h h' st k => st.at fun o e => k it (by simp) o e
  item := by
    intro X hP hw hK hc i pins s σ H E I hf st hg
    subst hP hw hK
    obtain ⟨xs, x, hq, hx⟩ := hg
    obtain ⟨its, rv, p, hz⟩ := I.list hq
    obtain ⟨u, hu, ru⟩ := rv.get hx
    obtain ⟨f0, f1, f2, f3, f4, f5⟩ := hf it (by simp)
    refine wpAny_pyNext_list_item st p.isList (x := u) (by simpa using hu) fun h' st' sb => ?_
    have I1 : Inv X pins σ H { s with heap := h' } := I.turned (t' := s.toks) (fun b o hb e => (sb.2 b hb).trans e) f0 f1 f3 f4 f5
    obtain ⟨o, e, c, d⟩ := id st'
    exact ⟨u, rfl, go_of (s := { s with heap := h' }) e c d (by decide) ⟨x, H, I1, ru, ⟨rfl, fun ys hy => by rw [I.list_inj hy hq]; exact hx⟩, st', fun b hb => (hf b hb).1⟩⟩
  done := by
    intro X hP hw hK hc i pins s σ H E I hf st hg
    subst hP hw hK
    obtain ⟨xs, hq, hx⟩ := hg
    obtain ⟨its, rv, p, hz⟩ := I.list hq
    obtain ⟨f0, f1, f2, f3, f4, f5⟩ := hf it (by simp)
    have hl := rv.length
    exact wpAny_pyNext_list_end (I.ok.hd hc) st p.isList (by simp; omega) fun h' eb => ⟨rfl, I.turned (t' := s.toks) (fun b o hb e => eb b o hb e) f0 f1 f3 f4 f5⟩
  self := fun _ _ _ _ _ st h => wpAny_pyIter_listiter st h
theorem turn_range {P : Program} {w : World} {K : PySem.W.Frag} {tg : Expr} (it : Addr) (lo : Int) (n : Nat) : Turn P w K tg (Itr lo n) [it] it (fun i h => IsRangeIter h it (lo + (i : Nat) * 1) ((n : Int) - (i : Nat)) 1) where
  mem := by simp
  obj := fun i h st b hb => by
    have e : b = it := by simpa using hb
    subst e
    exact ⟨_, st, fun v z => by
      have z' : Data.fields _ = Data.cell v := z
      cases z'⟩
  keep := fun i h h' st k => k it (by simp) _ st
  item := by
    intro X hP hw hK hc i pins s σ H E I hf st hg
    subst hP hw hK
    obtain ⟨f0, f1, f2, f3, f4, f5⟩ := hf it (by simp)
    have W := Walks.range (prog := X.prog) (w := X.w) (I.ok.hd hc) it lo 1 n
    refine W.item i s _ _ hg st fun v h' tk hv st' kk => ?_
    obtain ⟨t, rfl⟩ := hv
    have I1 : Inv X pins σ H { s with heap := h', toks := tk } := I.turned (fun b o hb e => kk b o (by simpa using hb) e) f0 f1 f3 f4 f5
    refine ⟨_, rfl, go_of (s := { s with heap := h', toks := tk }) (n := "range_iterator") st' rfl rfl (by decide) ⟨.int (lo + i), H, I1, ⟨t, ?_⟩, ⟨rfl, rfl⟩, st', fun b hb => (hf b hb).1⟩⟩
    rw [Int.mul_one]
  done := by
    intro X hP hw hK hc i pins s σ H E I hf st hg
    subst hP hw hK
    obtain ⟨f0, f1, f2, f3, f4, f5⟩ := hf it (by simp)
    exact wpAny_pyNext_range_end (I.ok.hd hc) st (by have : n ≤ i := hg; omega) fun h' eb => ⟨rfl, I.turned (t' := s.toks) (fun b o hb e => eb b o hb e) f0 f1 f3 f4 f5⟩
  self := fun _ _ _ _ _ st h => wpAny_pyIter_rangeiter st h
end L2

namespace L2
open PySem PySem.Spec PyProof.Rows
section
variable {X : Cx} {tg : Expr}
def iList (K : PySem.W.Frag) (tl : TE) : TI := fun σ H R => tl σ H fun x H1 => ∃ a, x = .ref a ∧ (∃ xs, SqL K H1 a xs) ∧ R (Itl K a) H1
theorem pi_list {l : Expr} {tl : TE} (hl : PE X l tl) : PI X tg l (iList X.K tl) := by
  intro pins s σ H R I h
  refine thn (hl pins s σ H _ I h) fun v s1 ⟨x, H1, I1, r1, q1⟩ => ?_
  obtain ⟨a, e, ⟨xs, hq⟩, q⟩ := q1
  subst e
  cases r1
  obtain ⟨its, rv, p, hz⟩ := I1.list hq
  refine wpAny_pyIter_list p.isList ?_
  refine ⟨s1.heap.objs.size, [s1.heap.objs.size], _, _, H1, rfl, I1.kept (t' := s1.toks) fun b o e => Heap.get?_push_of_some _ e, turn_list a _, ⟨_, Heap.get?_push_size _ rfl, rfl, rfl⟩, fun b hb => ?_, q⟩
  have e : b = s1.heap.objs.size := by simpa using hb
  subst e
  exact I1.fpOk (Nat.le_refl _) (I1.hok.fresh (Nat.le_refl _))
/-- a range object just made, walked -/
theorem range_it {pins : List (Addr × Obj)} {σ : St} {H : Hp} {s : Shared} {R : It → Hp → Prop} {E : Value → Shared → Prop} {lo hi : Int} {t u v : Tok} {tk : Nat} (I : Inv X pins σ H s) (h1 : -(2 ^ 62) ≤ lo) (h2 : lo < 2 ^ 62) (h3 : -(2 ^ 62) ≤ hi) (h4 : hi < 2 ^ 62)
    (q : R (Itr lo (hi - lo).toNat) H) : wpAny (model X.prog X.w) X.A (pyIter (.ref s.heap.objs.size)) (PIE X pins σ tg R) E { s with heap := s.heap.push { cls := .type "range", data := .fields #[.int lo t, .int hi u, .int 1 v] }, toks := tk } := by
  refine wpAny_pyIter_range (IsRange.new ..) (small_one h1 h2 h3 h4) ?_
  have I1 : Inv X pins σ H { s with heap := s.heap.push { cls := .type "range", data := .fields #[.int lo t, .int hi u, .int 1 v] }, toks := tk } := I.kept fun b o e => Heap.get?_push_of_some _ e
  refine ⟨(s.heap.push { cls := .type "range", data := .fields #[.int lo t, .int hi u, .int 1 v] }).objs.size, [(s.heap.push { cls := .type "range", data := .fields #[.int lo t, .int hi u, .int 1 v] }).objs.size], _, _, H, rfl,
    I1.kept (t' := tk) fun b o e => Heap.get?_push_of_some _ e, turn_range _ lo (hi - lo).toNat, ?_, fun b hb => ?_, q⟩
  · have e1 : lo + ((0 : Nat) : Int) * 1 = lo := by simp
    have e2 : (((hi - lo).toNat : Nat) : Int) - ((0 : Nat) : Int) = Builtin.Range.rangeSize lo hi 1 := by rw [rangeSize_one]; split <;> omega
    show IsRangeIter _ _ (lo + ((0 : Nat) : Int) * 1) ((((hi - lo).toNat : Nat) : Int) - ((0 : Nat) : Int)) 1
    rw [e1, e2]
    exact Heap.get?_push_size _ rfl
  · have e : b = (s.heap.push { cls := .type "range", data := .fields #[.int lo t, .int hi u, .int 1 v] }).objs.size := by simpa using hb
    subst e
    exact I1.fpOk (Nat.le_refl _) (I1.hok.fresh (Nat.le_refl _))
def iRng1 (ta : TA) : TI := fun σ H R => ta σ H fun vs H1 => ∃ j : Int, vs = [.int j] ∧ -(2 ^ 62) ≤ j ∧ j < 2 ^ 62 ∧ R (Itr 0 j.toNat) H1
def iRng2 (ta : TA) : TI := fun σ H R => ta σ H fun vs H1 => ∃ i j : Int, vs = [.int i, .int j] ∧ (-(2 ^ 62) ≤ i ∧ i < 2 ^ 62 ∧ -(2 ^ 62) ≤ j ∧ j < 2 ^ 62) ∧ R (Itr i (j - i).toNat) H1
theorem pi_range1 {a : Expr} {ta : TA} {p pos : Pos} (hg : Gl X "range") (hm : X.mg "range" = none) (ha : PA X [a] ta) (hs : starEach [a] X.env = [(false, eval a X.env)] := by rfl) : PI X tg (.Call (.Name "range" p) [a] [] pos) (iRng1 ta) := by
  intro pins s σ H R I h
  refine Call_ (ld_blt I hg hm boot_range (PyProof.Rows.callWith_type1 (thn (ha pos pins s σ H _ I h) fun us s1 ⟨vs, H1, I1, r1, q1⟩ => ?_) hs rfl))
  obtain ⟨j, e, q1, q2, q⟩ := q1
  subst e
  cases r1 with
  | cons r rr =>
    cases rr
    obtain ⟨t, rfl⟩ := r
    exact call_range_1 (range_it I1 (by omega) (by omega) q1 q2 (by simpa using q))
theorem pi_range2 {a b : Expr} {ta : TA} {p pos : Pos} (hg : Gl X "range") (hm : X.mg "range" = none) (ha : PA X [a, b] ta) (hs : starEach [a, b] X.env = [(false, eval a X.env), (false, eval b X.env)] := by rfl) (hs2 : starEach [b] X.env = [(false, eval b X.env)] := by rfl) :
    PI X tg (.Call (.Name "range" p) [a, b] [] pos) (iRng2 ta) := by
  intro pins s σ H R I h
  refine Call_ (ld_blt I hg hm boot_range (PyProof.Rows.callWith_type1 (thn (ha pos pins s σ H _ I h) fun us s1 ⟨vs, H1, I1, r1, q1⟩ => ?_) (by rw [hs, hs2]) (by rw [hs2]; rfl)))
  obtain ⟨i, j, e, ⟨q1, q2, q3, q4⟩, q⟩ := q1
  subst e
  cases r1 with
  | cons r rr =>
    cases rr with
    | cons r' rr =>
      cases rr
      obtain ⟨t, rfl⟩ := r
      obtain ⟨t', rfl⟩ := r'
      exact call_range_2 (range_it I1 q1 q2 q3 q4 q)

/-! ### for -/
/-- W: the invariant by the turn and a measure; N: what the body is to reach -/
def tFor (wi : TI) (g : TG) (tb : TS) : TS := fun D σ H => wi σ H fun J H1 => ∃ W : Nat → Nat → St → Hp → Prop, (∃ m, W 0 m σ H1) ∧ ∀ i m σ H, W i m σ H →
  (J.stop i H ∧ D.nx σ H) ∨ (J.go i H ∧ ∃ N : St → Hp → Prop, (∀ σ' H', N σ' H' → ∃ m', m' < m ∧ W (i + 1) m' σ' H') ∧ ∀ x H', J.yld i H x H' → g x σ H' fun σ2 H2 => tb { D with nx := N, ct := N, bk := D.nx } σ2 H2)
/-- the records at fp as they stand -/
def pinsAt (fp : List Addr) (h : Heap) : List (Addr × Obj) := fp.filterMap fun b => (h.get? b).map fun o => (b, o)
theorem mem_pinsAt {fp : List Addr} {h : Heap} {b : Addr} {o : Obj} (hb : b ∈ fp) (e : h.get? b = some o) : (b, o) ∈ pinsAt fp h := List.mem_filterMap.mpr ⟨b, hb, by rw [e]; rfl⟩
theorem of_pinsAt {fp : List Addr} {h : Heap} {p : Addr × Obj} (hp : p ∈ pinsAt fp h) : p.1 ∈ fp ∧ h.get? p.1 = some p.2 := by
  obtain ⟨b, hb, e⟩ := List.mem_filterMap.mp hp
  cases q : h.get? b with
  | none => rw [q] at e; cases e
  | some o =>
    rw [q] at e
    have e' : (b, o) = p := Option.some.inj e
    subst e'
    exact ⟨hb, q⟩
theorem Inv.pinned {pins : List (Addr × Obj)} {σ : St} {H : Hp} {s : Shared} {fp : List Addr} (I : Inv X pins σ H s) (hf : ∀ b ∈ fp, FpOk X pins H b) (ho : ∀ b ∈ fp, ∃ o, s.heap.get? b = some o ∧ ∀ v, o.data ≠ .cell v) : Inv X (pins ++ pinsAt fp s.heap) σ H s :=
  I.pins_of fun p hp => (List.mem_append.mp hp).elim (fun z => I.pin p (List.mem_append_right _ z)) fun z => by
    obtain ⟨hb, e⟩ := of_pinsAt z
    obtain ⟨f0, f1, f2, _⟩ := hf p.1 hb
    obtain ⟨o, e', d⟩ := ho p.1 hb
    rw [e] at e'; cases e'
    exact ⟨e, f0, f1, f2, d⟩
theorem Inv.unpinned {pins pl : List (Addr × Obj)} {σ : St} {H : Hp} {s : Shared} (I : Inv X (pins ++ pl) σ H s) : Inv X pins σ H s := I.pins_of fun p hp => I.pin p (List.mem_append_right _ (List.mem_append_left _ hp))
theorem ps_for {iter : Expr} {body : List Stmt} {wi : TI} {g : TG} {tb : TS} {pos : Pos} (hp : PassesOwn (model X.prog X.w) X.A X.env X.xe) (hc : X.calm = true) (hi : PI X tg iter wi) (hg : PG X tg g) (hb : PSs X body tb)
    (hs : ∀ x, foldedSetIterable iter X.env x = pure x := by intro _; rfl) : PS X (.For tg iter body [] pos) (tFor wi g tb) := by
  intro pins s σ H D I h
  refine wpAny_For (thn (hi pins s σ H _ I h) fun v s1 h1 => thn h1 fun itv s2 h2 => ?_) hs
  obtain ⟨it, fp, tn, J, H2, e, I2, T, st2, f2, W, ⟨m0, w0⟩, turn⟩ := h2
  subst e
  -- what stays true of the iterator's objects through the loop
  have stat : ∀ {H' : Hp}, (∀ b ∈ fp, H' b = none) → ∀ b ∈ fp, FpOk X pins H' b := fun hn b hb => ⟨hn b hb, (f2 b hb).2⟩
  refine codeAny_forLoop_any (fun n s' => ∃ i σ' H', Inv X pins σ' H' s' ∧ tn i s'.heap ∧ (∀ b ∈ fp, H' b = none) ∧ W i n σ' H') ?_ m0 ⟨0, σ, H2, I2, st2, fun b hb => (f2 b hb).1, w0⟩
  rintro n s3 ⟨i, σ3, H3, I3, st3, fr3, w3⟩
  rcases turn i n σ3 H3 w3 with ⟨stop, qn⟩ | ⟨go, N, hN, step⟩
  · refine wpAny_passesOwn hp (thn (T.done X rfl rfl rfl hc i pins s3 σ3 H3 X.xe I3 (stat fr3) st3 stop) fun r s4 ⟨hr, I4⟩ => ?_)
    subst hr
    exact wpAny_execs_nil ⟨σ3, H3, I4, qn⟩
  · refine wpAny_passesOwn hp (thn (T.item X rfl rfl rfl hc i pins s3 σ3 H3 X.xe I3 (stat fr3) st3 go) fun r s4 ⟨u, hr, h4⟩ => ?_)
    subst hr
    refine wpAny_passesOwn hp (thn h4 fun _ s5 ⟨x, H5, I5, r5, y5, st5, fr5⟩ => ?_)
    have I5' := I5.pinned (stat fr5) (T.obj _ _ st5)
    refine wpAny_passesOwn hp (thn (hg _ s5 σ3 H5 x u _ I5' r5 (step x H5 y5)) fun _ s6 ⟨σ6, H6, I6, q6⟩ => ?_)
    refine wpAny_passesOwn hp (thn (hb _ s6 σ6 H6 _ I6 q6) fun f s7 q7 => ?_)
    have again : ∀ {σ7 : St} {H7 : Hp}, Inv X (pins ++ pinsAt fp s5.heap) σ7 H7 s7 → N σ7 H7 → ∃ m, m < n ∧ ∃ i σ' H', Inv X pins σ' H' s7 ∧ tn i s7.heap ∧ (∀ b ∈ fp, H' b = none) ∧ W i m σ' H' := fun {σ7 H7} I7 n7 => by
      obtain ⟨m', hm, w7⟩ := hN σ7 H7 n7
      refine ⟨m', hm, i + 1, σ7, H7, I7.unpinned, T.keep _ _ _ st5 fun b hb o e => (I7.pin (b, o) (List.mem_append_right _ (List.mem_append_right _ (mem_pinsAt hb e)))).1, fun b hb => ?_, w7⟩
      obtain ⟨o, e, d⟩ := T.obj _ _ st5 b hb
      exact (I7.pin (b, o) (List.mem_append_right _ (List.mem_append_right _ (mem_pinsAt hb e)))).2.1
    cases f with
    | next => obtain ⟨σ7, H7, I7, n7⟩ := q7; exact again I7 n7
    | cont => obtain ⟨σ7, H7, I7, n7⟩ := q7; exact again I7 n7
    | brk => obtain ⟨σ7, H7, I7, q7⟩ := q7; exact ⟨σ7, H7, I7.unpinned, q7⟩
    | ret v => obtain ⟨x7, σ7, H7, I7, r7, q7⟩ := q7; exact ⟨x7, σ7, H7, I7.unpinned, r7, q7⟩
end

/-! ### the forms one uses -/
/-- over a list that the body leaves as it is -/
theorem for_list {K : PySem.W.Frag} {a : Addr} {xs : List V} {g : TG} {tb : TS} {D : Ends} {σ : St} {H : Hp} (Pv : Nat → St → Hp → Prop) (h0 : Pv 0 σ H) (hl : ∀ i σ H, i ≤ xs.length → Pv i σ H → SqL K H a xs)
    (hs : ∀ i x σ H, xs[i]? = some x → Pv i σ H → g x σ H fun σ2 H2 => tb { D with nx := Pv (i + 1), ct := Pv (i + 1), bk := D.nx } σ2 H2) (hd : ∀ σ H, Pv xs.length σ H → D.nx σ H) :
    ∃ W : Nat → Nat → St → Hp → Prop, (∃ m, W 0 m σ H) ∧ ∀ i m σ H, W i m σ H →
      ((Itl K a).stop i H ∧ D.nx σ H) ∨ ((Itl K a).go i H ∧ ∃ N : St → Hp → Prop, (∀ σ' H', N σ' H' → ∃ m', m' < m ∧ W (i + 1) m' σ' H') ∧ ∀ x H', (Itl K a).yld i H x H' → g x σ H' fun σ2 H2 => tb { D with nx := N, ct := N, bk := D.nx } σ2 H2) := by
  refine ⟨fun i m σ H => m = xs.length - i ∧ i ≤ xs.length ∧ Pv i σ H, ⟨xs.length, by simp, Nat.zero_le _, h0⟩, ?_⟩
  rintro i m σ H ⟨rfl, hi, p⟩
  have q := hl i σ H hi p
  by_cases hlt : i < xs.length
  · refine .inr ⟨⟨xs, xs[i], q, by simp [hlt]⟩, Pv (i + 1), fun σ' H' p' => ⟨xs.length - (i + 1), by omega, rfl, hlt, p'⟩, fun x H' y => ?_⟩
    obtain ⟨e, y⟩ := y
    subst e
    exact hs i x σ _ (y xs q) p
  · have e : i = xs.length := by omega
    subst e
    exact .inl ⟨⟨xs, q, Nat.le_refl _⟩, hd σ H p⟩
theorem for_range {lo : Int} {n : Nat} {g : TG} {tb : TS} {D : Ends} {σ : St} {H : Hp} (Pv : Nat → St → Hp → Prop) (h0 : Pv 0 σ H)
    (hs : ∀ i σ H, i < n → Pv i σ H → g (.int (lo + i)) σ H fun σ2 H2 => tb { D with nx := Pv (i + 1), ct := Pv (i + 1), bk := D.nx } σ2 H2) (hd : ∀ σ H, Pv n σ H → D.nx σ H) :
    ∃ W : Nat → Nat → St → Hp → Prop, (∃ m, W 0 m σ H) ∧ ∀ i m σ H, W i m σ H →
      ((Itr lo n).stop i H ∧ D.nx σ H) ∨ ((Itr lo n).go i H ∧ ∃ N : St → Hp → Prop, (∀ σ' H', N σ' H' → ∃ m', m' < m ∧ W (i + 1) m' σ' H') ∧ ∀ x H', (Itr lo n).yld i H x H' → g x σ H' fun σ2 H2 => tb { D with nx := N, ct := N, bk := D.nx } σ2 H2) := by
  refine ⟨fun i m σ H => m = n - i ∧ i ≤ n ∧ Pv i σ H, ⟨n, by simp, Nat.zero_le _, h0⟩, ?_⟩
  rintro i m σ H ⟨rfl, hi, p⟩
  by_cases hlt : i < n
  · refine .inr ⟨hlt, Pv (i + 1), fun σ' H' p' => ⟨n - (i + 1), by omega, rfl, hlt, p'⟩, fun x H' y => ?_⟩
    obtain ⟨e, y⟩ := y
    subst e y
    exact hs i σ _ hlt p
  · have e : i = n := by omega
    subst e
    exact .inl ⟨Nat.le_refl _, hd σ H p⟩
/-- while, by a word and a measure of the state -/
theorem while_by {c : TT} {tb : TS} {D : Ends} {σ : St} {H : Hp} (Pv : St → Hp → Prop) (μ : St → Hp → Nat) (h0 : Pv σ H)
    (hs : ∀ σ H, Pv σ H → c σ H fun b H1 => if b = true then tb { D with nx := fun σ' H' => Pv σ' H' ∧ μ σ' H' < μ σ H, ct := fun σ' H' => Pv σ' H' ∧ μ σ' H' < μ σ H, bk := D.nx } σ H1 else D.nx σ H1)
    (mono : ∀ σ H Q Q', (∀ b H1, Q b H1 → Q' b H1) → c σ H Q → c σ H Q') : tWhile c tb D σ H := by
  refine ⟨fun m σ H => m = μ σ H ∧ Pv σ H, ⟨_, rfl, h0⟩, ?_⟩
  rintro m σ H ⟨rfl, p⟩
  refine mono σ H _ _ (fun b H1 q => ?_) (hs σ H p)
  cases b with
  | true => exact ⟨_, fun σ' H' ⟨p', l⟩ => ⟨_, l, rfl, p'⟩, q⟩
  | false => exact q
end L2

namespace L2
open PySem PySem.Spec PyProof.Rows

abbrev R2 := V → V → Hp → VK → Prop
/-- a two-place operation on values: f is binaryOp op, inplaceOp op or compareOp op -/
def OpR (X : Cx) (f : Value → Value → Sem Value) (r : R2) : Prop :=
  ∀ (pins : List (Addr × Obj)) (s : Shared) (σ : St) (H : Hp) (x y : V) (v u : Value) (Q : VK), Inv X pins σ H s → RelV x v → RelV y u → r x y H Q →
    wpAny (model X.prog X.w) X.A (f v u) (EP X pins σ Q) X.xe s
/-- a one-place operation -/
def UnR (X : Cx) (f : Value → Sem Value) (r : V → Hp → VK → Prop) : Prop :=
  ∀ (pins : List (Addr × Obj)) (s : Shared) (σ : St) (H : Hp) (x : V) (v : Value) (Q : VK), Inv X pins σ H s → RelV x v → r x H Q →
    wpAny (model X.prog X.w) X.A (f v) (EP X pins σ Q) X.xe s
/-- a call of a value that is known (a builtin, a type) with values -/
def CallR (X : Cx) (f : Value) (r : List V → Hp → VK → Prop) : Prop :=
  ∀ (pins : List (Addr × Obj)) (s : Shared) (σ : St) (H : Hp) (xs : List V) (us : List Value) (Q : VK), Inv X pins σ H s → Vals xs us → r xs H Q →
    wpAny (model X.prog X.w) X.A (call f us) (EP X pins σ Q) X.xe s

def tOp (r : R2) (ta tb : TE) : TE := fun σ H Q => ta σ H fun x H1 => tb σ H1 fun y H2 => r x y H2 Q
def tUn (r : V → Hp → VK → Prop) (ta : TE) : TE := fun σ H Q => ta σ H fun x H1 => r x H1 Q
/-- ints in, under C, and a value out -/
def rI (C : Int → Int → Prop) (g : Int → Int → V) : R2 := fun x y H Q => ∃ i j, x = .int i ∧ y = .int j ∧ C i j ∧ Q (g i j) H
def rI0 (g : Int → Int → V) : R2 := fun x y H Q => ∃ i j, x = .int i ∧ y = .int j ∧ Q (g i j) H
def rU (g : Int → V) : V → Hp → VK → Prop := fun x H Q => ∃ i, x = .int i ∧ Q (g i) H

section
variable {X : Cx} {a b c : Expr} {ta tb tc : TE} {pos : Pos}

theorem binT (ha : PE X a ta) (hb : PE X b tb) {pins : List (Addr × Obj)} {s : Shared} {σ : St} {H : Hp} {R : V → V → Hp → Prop} (I : Inv X pins σ H s)
    (h : ta σ H fun x H1 => tb σ H1 fun y H2 => R x y H2) {Q : Value → Shared → Prop} {f : Value → Value → Sem Value}
    (hf : ∀ v u s2 x y H2, Inv X pins σ H2 s2 → RelV x v → RelV y u → R x y H2 → wpAny (model X.prog X.w) X.A (f v u) Q X.xe s2) :
    wpAny (model X.prog X.w) X.A (eval a X.env) (fun v s₁ => wpAny (model X.prog X.w) X.A (eval b X.env) (fun u s₂ => wpAny (model X.prog X.w) X.A (f v u) Q X.xe s₂) X.xe s₁) X.xe s := by
  refine thn (ha pins s σ H _ I h) fun v s1 ⟨x, H1, I1, r1, q1⟩ => ?_
  refine thn (hb pins s1 σ H1 _ I1 q1) fun u s2 ⟨y, H2, I2, r2, q2⟩ => ?_
  exact hf v u s2 x y H2 I2 r1 r2 q2

theorem pe_op {op : Operator} {r : R2} (ho : OpR X (binaryOp op) r) (ha : PE X a ta) (hb : PE X b tb) : PE X (.BinOp a op b pos) (tOp r ta tb) := by
  intro pins s σ H Q I h
  exact wpAny_BinOp (binT ha hb I h fun v u s2 x y H2 I2 rx ry q => ho pins s2 σ H2 x y v u Q I2 rx ry q)
theorem pe_un {op : UnaryOp} {r : V → Hp → VK → Prop} (ho : UnR X (unaryOp op) r) (ha : PE X a ta) : PE X (.UnaryOp op a pos) (tUn r ta) := by
  intro pins s σ H Q I h
  exact UnaryOp_ (thn (ha pins s σ H _ I h) fun v s1 ⟨x, H1, I1, r1, q1⟩ => ho pins s1 σ H1 x v Q I1 r1 q1)

/-! ### ints -/
theorem opI {f : Value → Value → Sem Value} {C : Int → Int → Prop} {g : Int → Int → Int}
    (rule : ∀ (i j : Int) (t u : Tok) (s : Shared) (Q : Value → Shared → Prop) (E : Value → Shared → Prop), C i j → Q (.int (g i j) s.toks) { s with toks := s.toks + 1 } → wpAny (model X.prog X.w) X.A (f (.int i t) (.int j u)) Q E s) :
    OpR X f (rI C fun i j => .int (g i j)) := by
  intro pins s σ H x y v u Q I rx ry h
  obtain ⟨i, j, rfl, rfl, hc, q⟩ := h
  obtain ⟨t, rfl⟩ := rx
  obtain ⟨t', rfl⟩ := ry
  exact rule i j t t' s _ _ hc ⟨.int (g i j), H, I.tok _, ⟨_, rfl⟩, q⟩
theorem opI0 {f : Value → Value → Sem Value} {g : Int → Int → Int}
    (rule : ∀ (i j : Int) (t u : Tok) (s : Shared) (Q : Value → Shared → Prop) (E : Value → Shared → Prop), Q (.int (g i j) s.toks) { s with toks := s.toks + 1 } → wpAny (model X.prog X.w) X.A (f (.int i t) (.int j u)) Q E s) :
    OpR X f (rI0 fun i j => .int (g i j)) := by
  intro pins s σ H x y v u Q I rx ry h
  obtain ⟨i, j, rfl, rfl, q⟩ := h
  obtain ⟨t, rfl⟩ := rx
  obtain ⟨t', rfl⟩ := ry
  exact rule i j t t' s _ _ ⟨.int (g i j), H, I.tok _, ⟨_, rfl⟩, q⟩
theorem opB0 {f : Value → Value → Sem Value} {g : Int → Int → Bool}
    (rule : ∀ (i j : Int) (t u : Tok) (s : Shared) (Q : Value → Shared → Prop) (E : Value → Shared → Prop), Q (.bool (g i j)) s → wpAny (model X.prog X.w) X.A (f (.int i t) (.int j u)) Q E s) :
    OpR X f (rI0 fun i j => .bl (g i j)) := by
  intro pins s σ H x y v u Q I rx ry h
  obtain ⟨i, j, rfl, rfl, q⟩ := h
  obtain ⟨t, rfl⟩ := rx
  obtain ⟨t', rfl⟩ := ry
  exact rule i j t t' s _ _ ⟨.bl (g i j), H, I, rfl, q⟩

def CDiv (i j : Int) : Prop := 0 < j ∧ j < 1073741824
def CMul (i j : Int) : Prop := (-(2 ^ 64) < i ∧ i < 2 ^ 64) ∨ (-(2 ^ 64) < j ∧ j < 2 ^ 64)
theorem CMul.ok {i j : Int} (h : CMul i j) : IntMulOk i j := by
  rcases h with ⟨h1, h2⟩ | ⟨h1, h2⟩
  · exact .of_left (intBits_le_64 h1 h2)
  · exact .of_right (intBits_le_64 h1 h2)

theorem op_add : OpR X (binaryOp .Add) (rI0 fun i j => .int (i + j)) := opI0 fun _ _ _ _ _ _ _ q => add_int q
theorem op_sub : OpR X (binaryOp .Sub) (rI0 fun i j => .int (i - j)) := opI0 fun _ _ _ _ _ _ _ q => sub_int q
theorem op_mul : OpR X (binaryOp .Mult) (rI CMul fun i j => .int (i * j)) := opI fun _ _ _ _ _ _ _ hc q => mul_int q hc.ok
/-- // by a positive divisor -/
theorem op_fdiv : OpR X (binaryOp .FloorDiv) (rI CDiv fun i j => .int (i / j)) := opI fun i j _ _ _ _ _ hc q => by
  have h1 : (0 : Int) < j := hc.1
  have h2 : j < 1073741824 := hc.2
  exact floordiv_int (by omega) (by rw [Int.fdiv_eq_ediv_of_nonneg i (by omega)]; exact q) (.inl (PyProof.noPylong_small (by omega)))
/-- % by a positive divisor of any size -/
theorem op_mod : OpR X (binaryOp .Mod) (rI (fun _ j => 0 < j) fun i j => .int (i % j)) := opI fun i j _ _ _ _ _ hc q => by
  have h1 : (0 : Int) < j := hc
  exact mod_int' (by omega) (by rw [Int.fmod_eq_emod_of_nonneg i (by omega)]; exact q)

theorem unI {f : Value → Sem Value} {g : Int → Int}
    (rule : ∀ (i : Int) (t : Tok) (s : Shared) (Q : Value → Shared → Prop) (E : Value → Shared → Prop), Q (.int (g i) s.toks) { s with toks := s.toks + 1 } → wpAny (model X.prog X.w) X.A (f (.int i t)) Q E s) :
    UnR X f (rU fun i => .int (g i)) := by
  intro pins s σ H x v Q I rx h
  obtain ⟨i, rfl, q⟩ := h
  obtain ⟨t, rfl⟩ := rx
  exact rule i t s _ _ ⟨.int (g i), H, I.tok _, ⟨_, rfl⟩, q⟩
theorem un_neg : UnR X (unaryOp .USub) (rU fun i => .int (-i)) := unI fun _ _ _ _ _ q => neg_int q

/-! ### bools among ints: n += (a < b) -/
end

/-! ### comparisons -/
/-- the scalars that == tells apart as data does -/
def scal : V → V → Bool
  | .non, .non => true | .non, .int _ => true | .int _, .non => true | .non, .bl _ => true | .bl _, .non => true | .non, .str _ => true | .str _, .non => true
  | .int _, .int _ => true | .bl _, .bl _ => true | .str _, .str _ => true | .byt _, .byt _ => true
  | .int _, .str _ => true | .str _, .int _ => true | .bl _, .str _ => true | .str _, .bl _ => true
  | _, _ => false
def rEq : R2 := fun x y H Q => scal x y = true ∧ Q (.bl (decide (x = y))) H

theorem dec_int {i j : Int} : decide (V.int i = V.int j) = (i == j) := by
  rw [Bool.eq_iff_iff]
  simp
theorem dec_bl {i j : Bool} : decide (V.bl i = V.bl j) = (i == j) := by
  rw [Bool.eq_iff_iff]
  simp
theorem dec_str {i j : Str} : decide (V.str i = V.str j) = (i == j) := by
  rw [Bool.eq_iff_iff]
  simp
theorem dec_byt {i j : Array UInt8} : decide (V.byt i = V.byt j) = (i.toList == j.toList) := by
  rw [Bool.eq_iff_iff]
  cases i
  cases j
  simp

section
variable {X : Cx} {a b c : Expr} {ta tb tc : TE} {pos : Pos}
theorem fin_bl {pins : List (Addr × Obj)} {σ : St} {H : Hp} {s : Shared} {Q : VK} {k k' : Bool} (I : Inv X pins σ H s) (q : Q (.bl k) H) (e : k = k') : EP X pins σ Q (.bool k') s := by
  subst e
  exact ⟨.bl k, H, I, rfl, q⟩
theorem op_eq : OpR X (compareOp .Eq) rEq := by
  intro pins s σ H x y v u Q I rx ry h
  obtain ⟨hs, q⟩ := h
  cases x with
  | non =>
    cases rx
    cases y with
    | non => cases ry; exact PySem.EqNone.eq_none_none (fin_bl I q (by simp))
    | bl j => cases ry; exact PySem.EqNone.eq_none_bool (fin_bl I q (by simp))
    | int j => obtain ⟨t', rfl⟩ := ry; exact PySem.EqNone.eq_none_int (fin_bl I q (by simp))
    | str j => obtain ⟨t', rfl⟩ := ry; exact PySem.EqNone.eq_none_str (fin_bl I q (by simp))
    | _ => exact absurd (show false = true from hs) Bool.false_ne_true
  | bl i =>
    cases rx
    cases y with
    | non => cases ry; exact PySem.EqNone.eq_bool_none (fin_bl I q (by simp))
    | bl j => cases ry; exact eq_bool (fin_bl I q dec_bl)
    | str j => obtain ⟨t', rfl⟩ := ry; exact PySem.EqMixed.eq_bool_str (fin_bl I q (by simp))
    | _ => exact absurd (show false = true from hs) Bool.false_ne_true
  | int i =>
    obtain ⟨t, rfl⟩ := rx
    cases y with
    | non => cases ry; exact PySem.EqNone.eq_int_none (fin_bl I q (by simp))
    | int j => obtain ⟨t', rfl⟩ := ry; exact eq_int (fin_bl I q dec_int)
    | str j => obtain ⟨t', rfl⟩ := ry; exact PySem.EqMixed.eq_int_str (fin_bl I q (by simp))
    | _ => exact absurd (show false = true from hs) Bool.false_ne_true
  | str i =>
    obtain ⟨t, rfl⟩ := rx
    cases y with
    | non => cases ry; exact PySem.EqNone.eq_str_none (fin_bl I q (by simp))
    | bl j => cases ry; exact PySem.EqMixed.eq_str_bool (fin_bl I q (by simp))
    | int j => obtain ⟨t', rfl⟩ := ry; exact PySem.EqMixed.eq_str_int (fin_bl I q (by simp))
    | str j => obtain ⟨t', rfl⟩ := ry; exact eq_str (fin_bl I q dec_str)
    | _ => exact absurd (show false = true from hs) Bool.false_ne_true
  | byt i =>
    obtain ⟨t, rfl⟩ := rx
    cases y with
    | byt j => obtain ⟨t', rfl⟩ := ry; exact PySem.W.eq_bytes (fin_bl I q dec_byt)
    | _ => exact absurd (show false = true from hs) Bool.false_ne_true
  | _ => cases y <;> exact absurd (show false = true from hs) Bool.false_ne_true

theorem op_lt : OpR X (compareOp .Lt) (rI0 fun i j => .bl (decide (i < j))) := opB0 fun _ _ _ _ _ _ _ q => lt_int q
theorem op_le : OpR X (compareOp .LtE) (rI0 fun i j => .bl (decide (i ≤ j))) := opB0 fun _ _ _ _ _ _ _ q => le_int q
theorem op_gt : OpR X (compareOp .Gt) (rI0 fun i j => .bl (decide (j < i))) := opB0 fun _ _ _ _ _ _ _ q => gt_int q
theorem op_ge : OpR X (compareOp .GtE) (rI0 fun i j => .bl (decide (j ≤ i))) := opB0 fun _ _ _ _ _ _ _ q => ge_int q

/-- is None, is not None: the right side a value none -/
theorem op_isN : OpR X (compareOp .Is) (fun x y H Q => y = .non ∧ Q (.bl (decide (x = .non))) H) := by
  intro pins s σ H x y v u Q I rx ry h
  obtain ⟨rfl, q⟩ := h
  cases ry
  refine is_none_gen (fin_bl I q ?_)
  cases x <;> first
    | (cases rx; rfl)
    | (obtain ⟨t, rfl⟩ := rx; rfl)
theorem op_notN : OpR X (compareOp .IsNot) (fun x y H Q => y = .non ∧ Q (.bl (!decide (x = .non))) H) := by
  intro pins s σ H x y v u Q I rx ry h
  obtain ⟨rfl, q⟩ := h
  cases ry
  refine isnot_none_gen (fin_bl I q ?_)
  cases x <;> first
    | (cases rx; rfl)
    | (obtain ⟨t, rfl⟩ := rx; rfl)

theorem nomark (b : Expr) {op : CmpOp} (h : op ≠ .In := by decide) (h2 : op ≠ .NotIn := by decide) : behindInMarks op b = false := by
  have e1 : (op == CmpOp.In) = false := by cases op <;> first | rfl | exact absurd rfl h
  have e2 : (op == CmpOp.NotIn) = false := by cases op <;> first | rfl | exact absurd rfl h2
  cases b <;> simp [behindInMarks, e1, e2]
/-- a comparison as a value; hm: nomark b, or (for in, not in) by with_unfolding_all rfl -/
theorem pe_cmpR {op : CmpOp} {r : R2} (ho : OpR X (compareOp op) r) (ha : PE X a ta) (hb : PE X b tb) (hm : behindInMarks op b = false) : PE X (.Compare a [op] [b] pos) (tOp r ta tb) := by
  intro pins s σ H Q I h
  exact wpAny_Compare1 (binT ha hb I h fun v u s2 x y H2 I2 rx ry q => ho pins s2 σ H2 x y v u Q I2 rx ry q) hm
/-- a reading of a value as a test -/
def tTest (t : TE) : TT := fun σ H Q => t σ H fun x H' => ∃ k, x = .bl k ∧ Q k H'
theorem pt_cmpR {op : CmpOp} {r : R2} (ho : OpR X (compareOp op) r) (ha : PE X a ta) (hb : PE X b tb) (hm : behindInMarks op b = false) : PT X (.Compare a [op] [b] pos) (tTest (tOp r ta tb)) := by
  intro pins s σ H Q I h
  refine wpAny_isTrue_Compare1 (thn (ha pins s σ H _ I h) fun v s1 ⟨x, H1, I1, r1, q1⟩ => thn (hb pins s1 σ H1 _ I1 q1) fun u s2 ⟨y, H2, I2, r2, q2⟩ =>
    thn (ho pins s2 σ H2 x y v u _ I2 r1 r2 q2) fun c s3 ⟨z, H3, I3, r3, k, e, q3⟩ => ?_) hm
  subst e
  cases r3
  exact wpAny_truthy_bool ⟨H3, I3, q3⟩

/-! ### truth -/
theorem line63 : (sizeLine : Nat) < 2 ^ 63 := by rw [sizeLine_eq]; decide

/-! ### strs and bytes -/

/-! ### scalar builtins, by CallR -/
theorem vals1 {x : V} {us : List Value} (r : Vals [x] us) : ∃ u, us = [u] ∧ RelV x u := by
  cases r with
  | cons r1 r2 => cases r2; exact ⟨_, rfl, r1⟩
theorem vals2 {x y : V} {us : List Value} (r : Vals [x, y] us) : ∃ u w', us = [u, w'] ∧ RelV x u ∧ RelV y w' := by
  cases r with
  | cons r1 r2 =>
    cases r2 with
    | cons r3 r4 => cases r4; exact ⟨_, _, rfl, r1, r3⟩
theorem call_max2 (hc : X.calm = true) : CallR X (.builtin "max") (fun xs H Q => ∃ i j, xs = [.int i, .int j] ∧ Q (.int (if j > i then j else i)) H) := by
  intro pins s σ H xs us Q I r h
  obtain ⟨i, j, rfl, q⟩ := h
  obtain ⟨u, w', rfl, ⟨t, rfl⟩, ⟨t', rfl⟩⟩ := vals2 r
  refine max_two_ints (I.ok.hd hc) fun h' tk k => ⟨_, H, I.kept k, ?_, q⟩
  by_cases hj : j > i
  · rw [if_pos hj, if_pos hj]; exact ⟨_, rfl⟩
  · rw [if_neg hj, if_neg hj]; exact ⟨_, rfl⟩
theorem call_min2 (hc : X.calm = true) : CallR X (.builtin "min") (fun xs H Q => ∃ i j, xs = [.int i, .int j] ∧ Q (.int (if j < i then j else i)) H) := by
  intro pins s σ H xs us Q I r h
  obtain ⟨i, j, rfl, q⟩ := h
  obtain ⟨u, w', rfl, ⟨t, rfl⟩, ⟨t', rfl⟩⟩ := vals2 r
  refine min_two_ints (I.ok.hd hc) fun h' tk k => ⟨_, H, I.kept k, ?_, q⟩
  by_cases hj : j < i
  · rw [if_pos hj, if_pos hj]; exact ⟨_, rfl⟩
  · rw [if_neg hj, if_neg hj]; exact ⟨_, rfl⟩
end
end L2

namespace L2
open PySem PySem.Spec PyProof.Rows

/-! ### an instance, its attributes a map -/
structure ObjM (h : Heap) (x dx C : Addr) (mA : Str → Option Value) : Prop where
  obj : h.get? x = some (PySem.W.instObj C dx)
  ns : h.Ns1 dx mA
  ne : dx ≠ x

theorem lookIn_ns {h : Heap} {dx : Addr} {mA : Str → Option Value} (n : h.Ns1 dx mA) : ∃ od, h.get? dx = some od ∧ ∀ name, PySem.W.lookIn name od = some (mA name) := by
  obtain ⟨o, es, ep, ho, hd, hk, _, hm⟩ := n
  refine ⟨o, ho, fun name => ?_⟩
  have e := hm name
  unfold nsFind findBy at e
  rw [← Array.find?_toList] at e
  unfold PySem.W.lookIn
  rw [hd]
  dsimp only
  split
  · rename_i y q
    rw [q] at e
    exact congrArg some e
  · rename_i q
    rw [q] at e
    have a : es.toList.any (·.refKey) = false := by
      rw [List.any_eq_false]
      intro y hy
      obtain ⟨z, t, hkey⟩ := hk y (Array.mem_toList_iff.mp hy)
      simp [DictEntry.refKey, hkey]
    have a' : ¬ es.toList.any (·.refKey) = true := by rw [a]; exact Bool.false_ne_true
    rw [if_neg a']
    exact congrArg some e

theorem ObjM.look {h : Heap} {x dx C : Addr} {mA : Str → Option Value} (I : ObjM h x dx C mA) : ∃ od, PySem.W.InstAt h x (PySem.W.instObj C dx) C (some od) ∧ ∀ name, PySem.W.lookIn name od = some (mA name) :=
  let ⟨od, ho, hl⟩ := lookIn_ns I.ns
  ⟨od, ⟨I.obj, rfl, rfl, ho⟩, hl⟩

section
variable {prog : Program} {w : World} {A : Around} {E : Value → Shared → Prop} {s : Shared} {K : PySem.W.Frag} {x dx C f : Addr} {mA : Str → Option Value} {name : Str} {v : Value}

theorem get_map {expr : Bool} {Q : Value → Shared → Prop} (X : K.In s.heap) (I : ObjM s.heap x dx C mA) (hg : PySem.W.plainGet K C name = true) (hh : PySem.W.hasDictIn K C = true)
    (ha : PySem.W.findIn K (.ref C) name = some none) (hv : mA name = some v) (hv' : PySem.W.handedIn v = true) (h : Q v { s with toks := s.toks + 1 }) :
    wpAny (model prog w) A (getAttr (.ref x) name expr) Q E s := by
  obtain ⟨od, J, hl⟩ := I.look
  exact PySem.W.get_value X J (PySem.W.plainGet_of hg).1 (PySem.W.findObj_own hh ha rfl (by rw [hl, hv])) hv' h

theorem set_map {ns : List Str} {Q : Unit → Shared → Prop} (X : K.In s.heap) (I : ObjM s.heap x dx C mA)
    (hs : PySem.W.findIn K (.ref C) "__setattr__" = some (some (.builtin "object.__setattr__"))) (hp : PySem.W.plainOver K C = true) (ht : PySem.W.takerIn K C name = some none) (hh : PySem.W.hasDictIn K C = true)
    (hw : PySem.Within mA ns) (hsz : ns.length ≤ sizeLine)
    (h : ∀ h', ObjM h' x dx C (fun y => if y = name then some v else mA y) → Heap.SameBut dx s.heap h' → Q () { s with heap := h', toks := s.toks + 2 }) :
    wpAny (model prog w) A (setAttr (.ref x) name v) Q E s := by
  obtain ⟨od, J, hl⟩ := I.look
  refine PySem.W.set_plain X J hs (PySem.W.osa_open (s := { s with toks := s.toks + 1 }) (r := none) X J hp ht fun b => ?_)
  obtain ⟨cd, hc, hd'⟩ := PySem.W.any_some hh
  have hx : s.heap.get? x = some ⟨.ref C, some dx, .plain, #[]⟩ := I.obj
  refine wpAny_bind (wpAny_pure (wpAny_bind (wpAny_bind (wpAny_loadPart hx (wpAny_bind (PySem.W.Looks.here (s := { s with toks := s.toks + 1 }) (PySem.W.looks_clsIn X hc) ?_))))))
  rw [hd']
  refine wpAny_pure (a := some dx) (wpAny_bind (wpAny_pure (wpAny_bind ?_)))
  refine wpAny_nsSet1 (s := { s with toks := s.toks + 1 }) I.ns fun h' hn2 hs2 => ?_
  obtain ⟨oD, esD, epD, hoD, hdD, hcD⟩ := hn2.count (PySem.Within.cons name v hw)
  refine wpAny_bind (wpAny_lookBehind hoD (by rw [hdD]; exact pastItsLine_dict (Nat.le_trans hcD (by rw [List.length_cons]; omega))) ?_)
  exact wpAny_pure (h _ ⟨(hs2.2 _ (Ne.symm I.ne)).trans I.obj, hn2, I.ne⟩ hs2)

/-- C(..): the dict at the heap's end, the instance behind it; then its __init__ -/
theorem make_map {R : Result → Shared → Prop} {vs : List Value} {kw : List (Str × Value)} (X : K.In s.heap) (hm : PySem.W.makesIn K C = true)
    (hi : PySem.W.findIn K (.ref C) "__init__" = some (some (.ref f))) (hf : PySem.W.typeIn K (.ref f) = some (.type "function"))
    (h : codeAny (model prog w) (A.under (.builtin "type.__call__" ⟨.ref C :: vs, kw⟩)) (.call (.ref f) ⟨.ref (s.heap.objs.size + 1) :: vs, kw⟩) (PySem.W.InitBack (s.heap.objs.size + 1) R)
      { s with heap := (s.heap.push PySem.W.emptyDict).push (PySem.W.instObj C s.heap.objs.size) }) :
    codeAny (model prog w) A (.call (.ref C) ⟨vs, kw⟩) R s := by
  obtain ⟨hh, g, d, t, os⟩ := s
  exact PySem.W.make_core (PySem.W.makes_of X hm) (PySem.W.looks_findIn X hi) (fun self => PySem.W.bind_fn X self hf) (.inl rfl) h
end

/-! ### the attributes as a list of pairs -/
def putF (f : Str) (v : V) : List (Str × V) → List (Str × V)
  | [] => [(f, v)]
  | (g, x) :: r => if g = f then (g, v) :: r else (g, x) :: putF f v r
theorem lookup_putF (f g : Str) (v : V) : ∀ fs : List (Str × V), (putF f v fs).lookup g = if g = f then some v else fs.lookup g
  | [] => by
    show List.lookup g [(f, v)] = _
    by_cases h : g = f
    · have hb : (g == f) = true := beq_iff_eq.mpr h
      simp only [List.lookup, hb, if_pos h]
    · have hb : (g == f) = false := beq_eq_false_iff_ne.mpr h
      simp only [List.lookup, hb, if_neg h]
  | (k, x) :: r => by
    have ih := lookup_putF f g v r
    rw [show putF f v ((k, x) :: r) = (if k = f then (k, v) :: r else (k, x) :: putF f v r) from rfl]
    by_cases hk : k = f
    · rw [if_pos hk]
      by_cases h : g = k
      · have hb : (g == k) = true := beq_iff_eq.mpr h
        simp only [List.lookup, hb, if_pos (h.trans hk)]
      · have hb : (g == k) = false := beq_eq_false_iff_ne.mpr h
        simp only [List.lookup, hb, if_neg (fun e : g = f => h (e.trans hk.symm))]
    · rw [if_neg hk]
      by_cases h : g = k
      · have hb : (g == k) = true := beq_iff_eq.mpr h
        simp only [List.lookup, hb, if_neg (fun e : g = f => hk (h.symm.trans e))]
      · have hb : (g == k) = false := beq_eq_false_iff_ne.mpr h
        simp only [List.lookup, hb]
        exact ih
theorem keys_putF (f : Str) (v : V) : ∀ fs : List (Str × V), f ∈ (putF f v fs).map (·.1) ∧ ∀ g, g ∈ fs.map (·.1) → g ∈ (putF f v fs).map (·.1)
  | [] => ⟨by simp [putF], fun g h => by simp at h⟩
  | (k, x) :: r => by
    obtain ⟨i1, i2⟩ := keys_putF f v r
    rw [show putF f v ((k, x) :: r) = (if k = f then (k, v) :: r else (k, x) :: putF f v r) from rfl]
    by_cases hk : k = f
    · rw [if_pos hk]
      subst hk
      exact ⟨by simp, fun g h => by simpa using h⟩
    · rw [if_neg hk]
      refine ⟨?_, fun g h => ?_⟩
      · rw [List.map_cons]
        exact List.mem_cons_of_mem _ i1
      · rw [List.map_cons] at h ⊢
        rcases List.mem_cons.mp h with e | e
        · exact List.mem_cons.mpr (.inl e)
        · exact List.mem_cons_of_mem _ (i2 g e)
theorem length_putF (f : Str) (v : V) : ∀ fs : List (Str × V), (putF f v fs).length ≤ fs.length + 1
  | [] => by simp [putF]
  | (k, x) :: r => by
    have ih := length_putF f v r
    rw [show putF f v ((k, x) :: r) = (if k = f then (k, v) :: r else (k, x) :: putF f v r) from rfl]
    by_cases hk : k = f
    · rw [if_pos hk, List.length_cons, List.length_cons]; omega
    · rw [if_neg hk, List.length_cons, List.length_cons]; omega

theorem RelO.some_of {v : V} {o : Option Value} (r : RelO (some v) o) : ∃ u, o = some u ∧ RelV v u := by
  cases o with
  | none => exact (show False from r).elim
  | some u => exact ⟨u, rfl, r⟩
theorem handed_of {v : V} {u : Value} (r : RelV v u) : PySem.W.handedIn u = true := by
  cases v with
  | non => cases (show u = Value.none from r); rfl
  | bl b => cases (show u = Value.bool b from r); rfl
  | int i => obtain ⟨t, e⟩ := (show ∃ t, u = Value.int i t from r); cases e; rfl
  | str x => obtain ⟨t, e⟩ := (show ∃ t, u = Value.str x t from r); cases e; rfl
  | byt b => obtain ⟨t, e⟩ := (show ∃ t, u = Value.bytes b t from r); cases e; rfl
  | flt b => obtain ⟨t, e⟩ := (show ∃ t, u = Value.float b t from r); cases e; rfl
  | ref a => cases (show u = Value.ref a from r); rfl
  | ty n => cases (show u = Value.type n from r); rfl

section
variable {P : Program} {w : World} {H H' : Hp} {h h' : Heap} {a C dx : Addr} {fs fs' : List (Str × V)}
theorem ins_get (hok : HOk P w H h) (e : H a = some (.ins C dx fs)) : ∃ mA, ObjM h a dx C mA ∧ (∀ f, RelO (fs.lookup f) (mA f)) ∧ PySem.Within mA (fs.map (·.1)) ∧ fs.length ≤ 1000 ∧ H dx = some (.own a) := by
  obtain ⟨d, z, ne, ob, mA, n, r, q⟩ := (show ObjOk P w H h a (.ins C dx fs) from hok a _ e)
  exact ⟨mA, ⟨ob, n, ne⟩, r, q, z, d⟩
end

/-! ### what of the text a class must have -/
structure Cls (K : PySem.W.Frag) (C : Addr) : Prop where
  pg : PySem.W.plainGet K C Str.empty = true
  hd : PySem.W.hasDictIn K C = true
  po : PySem.W.plainOver K C = true
  sa : PySem.W.findIn K (.ref C) "__setattr__" = some (some (.builtin "object.__setattr__"))
theorem Cls.get {K : PySem.W.Frag} {C : Addr} (c : Cls K C) (f : Str) : PySem.W.plainGet K C f = true := c.pg
/-- no class of it has the name -/
def NoAttr (K : PySem.W.Frag) (C : Addr) (f : Str) : Prop := PySem.W.findIn K (.ref C) f = some none
theorem NoAttr.taker {K : PySem.W.Frag} {C : Addr} {f : Str} (n : NoAttr K C f) : PySem.W.takerIn K C f = some none := by
  unfold PySem.W.takerIn
  rw [show PySem.W.findIn K (.ref C) f = some none from n]
  rfl

section
variable {X : Cx} {pins : List (Addr × Obj)} {σ : St} {H : Hp} {s : Shared} {a C dx : Addr} {fs : List (Str × V)} {f : Str} {v : V} {A : Around} {E : Value → Shared → Prop}

theorem getattr_ok {b : Bool} {Q : Value → Shared → Prop} (I : Inv X pins σ H s) (e : H a = some (.ins C dx fs)) (c : Cls X.K C) (n : NoAttr X.K C f) (l : fs.lookup f = some v)
    (h : ∀ u s', Inv X pins σ H s' → RelV v u → Q u s') : wpAny (model X.prog X.w) A (getAttr (.ref a) f b) Q E s := by
  obtain ⟨mA, O, r, _, _, _⟩ := ins_get I.hok e
  obtain ⟨u, hu, ru⟩ := RelO.some_of (v := v) (o := mA f) (by rw [← l]; exact r f)
  exact get_map I.kIn O (c.get f) c.hd n hu (handed_of ru) (h u _ (I.tok _) ru)

theorem setattr_ok {y : V} {u : Value} {Q : Unit → Shared → Prop} (I : Inv X pins σ H s) (e : H a = some (.ins C dx fs)) (c : Cls X.K C) (n : NoAttr X.K C f) (hl : fs.length < 1000) (ry : RelV y u)
    (h : ∀ s', Inv X pins σ (upd H a (.ins C dx (putF f y fs))) s' → Q () s') : wpAny (model X.prog X.w) A (setAttr (.ref a) f u) Q E s := by
  obtain ⟨mA, O, r, wi, _, ho⟩ := ins_get I.hok e
  have hz : (fs.map (·.1)).length ≤ sizeLine := by rw [List.length_map, sizeLine_eq]; omega
  refine set_map I.kIn O c.sa c.po n.taker c.hd wi hz fun h' O' sb => h _ ?_
  have hd : ∃ o, h'.get? dx = some o := let ⟨o, _, _, e', _⟩ := O'.ns; ⟨o, e'⟩
  refine I.write (x := a) (e := dx) (by rw [e]; exact True.intro) (.inr ho) (fun b q hb z => (sb.2 b hb).trans z) hd ?_
  refine ⟨by rw [upd_ne O.ne]; exact ho, ?_, O.ne, O'.obj, _, O'.ns, fun g => ?_, fun g hg => ?_⟩
  · have := length_putF f y fs; omega
  · show RelO ((putF f y fs).lookup g) (if g = f then some u else mA g)
    rw [lookup_putF]
    by_cases q : g = f
    · rw [if_pos q, if_pos q]; exact ry
    · rw [if_neg q, if_neg q]; exact r g
  · by_cases q : g = f
    · rw [q]; exact (keys_putF f y fs).1
    · refine (keys_putF f y fs).2 g (wi g fun z => hg ?_)
      show (if g = f then some u else mA g) = none
      rw [if_neg q]; exact z

/-- a new instance, tracked, without attributes -/
theorem Inv.made (I : Inv X pins σ H s) : Inv X pins σ (upd (upd H s.heap.objs.size (.own (s.heap.objs.size + 1))) (s.heap.objs.size + 1) (.ins C s.heap.objs.size []))
    { s with heap := (s.heap.push PySem.W.emptyDict).push (PySem.W.instObj C s.heap.objs.size) } := by
  have e1 : (s.heap.push PySem.W.emptyDict).get? s.heap.objs.size = some PySem.W.emptyDict := Heap.get?_push_size s.heap rfl
  have e2 : ((s.heap.push PySem.W.emptyDict).push (PySem.W.instObj C s.heap.objs.size)).get? (s.heap.objs.size + 1) = some (PySem.W.instObj C s.heap.objs.size) := by
    have := Heap.get?_push_size (s.heap.push PySem.W.emptyDict) (o := PySem.W.instObj C s.heap.objs.size) rfl
    rwa [Heap.size_push] at this
  have e3 : (s.heap.push PySem.W.emptyDict).Ns s.heap.objs.size (fun _ => none) := ⟨PySem.W.emptyDict, #[], _, e1, rfl, (fun e he => absurd he (by simp)), fun _ => rfl⟩
  have I1 := I.laid (a := s.heap.objs.size) (o := .own (s.heap.objs.size + 1)) (h' := s.heap.push PySem.W.emptyDict) (t' := s.toks) (fun b u q => Heap.get?_push_of_some _ q) (Nat.le_refl _) ⟨_, e1⟩
  refine I1.laid (a := s.heap.objs.size + 1) (o := .ins C s.heap.objs.size []) (t' := s.toks) (fun b u q => Heap.get?_push_of_some _ q) (Nat.le_of_eq (Heap.size_push _ _)) ?_
  have ne : s.heap.objs.size ≠ s.heap.objs.size + 1 := Nat.ne_of_lt (Nat.lt_succ_self _)
  refine ⟨by rw [upd_ne ne, upd_same], Nat.zero_le _, ne, e2, fun _ => none, (Heap.Ns1.of_empty e3).at fun o q => Heap.get?_push_of_some _ q, fun _ => True.intro, fun y hy => absurd rfl hy⟩

/-- e.f where nothing but the object is asked: through attributeBase (super) and the last hold -/
theorem attr_of {prog : Program} {w : World} {env : Env} {e : Expr} {f : Str} {pos : Pos} {s : Shared} {Q : Value → Shared → Prop} (hb : attributeBase e f env (eval e env) = eval e env)
    (h : wpAny (model prog w) A (eval e env) (fun o s₁ => wpAny (model prog w) A (getAttr o f true) Q E s₁) E s) : wpAny (model prog w) A (eval (.Attribute e f pos) env) Q E s :=
  Attribute_any_ h (by rw [arm_eval_Attribute, hb])
end

/-! ### readings and rules -/
/-- e.f, an attribute of the instance -/
def tFld (K : PySem.W.Frag) (ta : TE) (f : Str) : TE := fun σ H Q => ta σ H fun x H1 => ∃ a C dx fs v, x = .ref a ∧ H1 a = some (.ins C dx fs) ∧ Cls K C ∧ NoAttr K C f ∧ fs.lookup f = some v ∧ Q v H1
/-- e.f = value -/
def sFld (K : PySem.W.Frag) (ta tv : TE) (f : Str) : TS := fun D σ H => tv σ H fun y H1 => ta σ H1 fun x H2 => ∃ a C dx fs, x = .ref a ∧ H2 a = some (.ins C dx fs) ∧ Cls K C ∧ NoAttr K C f ∧ fs.length < 1000 ∧
  D.nx σ (upd H2 a (.ins C dx (putF f y fs)))

section
variable {X : Cx} {o e value : Expr} {f : Str} {pos pos' tpos : Pos} {ta tv : TE}
theorem pe_fld (he : PE X e ta) (hb : attributeBase e f X.env (eval e X.env) = eval e X.env) : PE X (.Attribute e f pos) (tFld X.K ta f) := by
  intro pins s σ H Q I h
  refine attr_of hb (thn (he pins s σ H _ I h) fun u s1 ⟨x, H1, I1, rx, a, C, dx, fs, v, ex, ea, c, n, l, q⟩ => ?_)
  subst ex
  obtain rfl : u = Value.ref a := rx
  exact getattr_ok I1 ea c n l fun u' s2 I2 ru => ⟨v, H1, I2, ru, q⟩
theorem ps_fld (ha : PE X o ta) (hv : PE X value tv) (hs : swapsWith value (some (.Attribute o f pos')) pos.line X.env = pure false) : PS X (.Assign [.Attribute o f pos'] value pos) (sFld X.K ta tv f) := by
  intro pins s σ H D I h
  refine plainObj_wpAny_Assign_Attribute (thn (hv pins s σ H _ I h) fun u s1 ⟨y, H1, I1, ry, q⟩ => thn (ha pins s1 σ H1 _ I1 q) fun ov s2 ⟨x, H2, I2, rx, a, C, dx, fs, ex, ea, c, n, l, q2⟩ => ?_) hs
  subst ex
  obtain rfl : ov = Value.ref a := rx
  exact setattr_ok I2 ea c n l ry fun s3 I3 => ⟨σ, _, I3, q2⟩

end

/-! ### isinstance -/
end L2

namespace L2
open PySem PySem.Spec PyProof.Rows

/-! ### room -/
structure Room (k : Nat) (A : Around) : Prop where
  hd : A.handled = none
  dp : A.depth + 3 * k + 5 < recursionLimit
  un : A.units + 16 * k + 200 < cLine
theorem Room.mono {j k : Nat} {A : Around} (r : Room k A) (h : j ≤ k) : Room j A := ⟨r.hd, by have := r.dp; omega, by have := r.un; omega⟩
theorem Room.deeper {k : Nat} {A : Around} (r : Room (k + 1) A) (env : Env) : Room k (A.deeper env) :=
  ⟨r.hd, by have := r.dp; show A.depth + 1 + 3 * k + 5 < _; omega, by have := r.un; show A.units + 3 + 16 * k + 200 < _; omega⟩
theorem make_depth {A : Around} {C : Addr} {us : List Value} {kw : List (Str × Value)} : (A.under (.builtin "type.__call__" ⟨.ref C :: us, kw⟩)).depth = A.depth + 1 := by
  first | rfl | simp [Around.under, Code.weight, Code.isCreation, Code.isGuard, Code.isCaller, Code.frames, Code.isFrame, guardIds]
theorem make_units {A : Around} {C : Addr} {us : List Value} {kw : List (Str × Value)} : (A.under (.builtin "type.__call__" ⟨.ref C :: us, kw⟩)).units = A.units + 1 := by
  first | rfl | simp [Around.under, Code.cUnits, Code.frames, Code.isFrame]
theorem Room.make {k : Nat} {A : Around} (r : Room (k + 1) A) (C : Addr) (us : List Value) (kw : List (Str × Value)) : Room k (A.under (.builtin "type.__call__" ⟨.ref C :: us, kw⟩)) :=
  ⟨r.hd, by have := r.dp; rw [make_depth]; omega, by have := r.un; rw [make_units]; omega⟩
theorem Room.depth {k : Nat} {A : Around} (r : Room k A) : A.depth < recursionLimit := by have := r.dp; omega

/-! ### argument lists and displays -/
def tNil : TA := fun _ H Q => Q [] H
def tCons (ta : TE) (tr : TA) : TA := fun σ H Q => ta σ H fun x H1 => tr σ H1 fun xs H2 => Q (x :: xs) H2
section
variable {X : Cx} {e : Expr} {es : List Expr} {te : TE} {t : TA} {pos : Pos}
theorem pa_nil : PA X [] tNil := fun _ _ _ _ H Q I h => Calls.spliced_nil ⟨[], H, I, .nil, h⟩
theorem pa_cons (ha : PE X e te) (hr : PA X es t) (hs : starEach (e :: es) X.env = (false, eval e X.env) :: starEach es X.env := by rfl) : PA X (e :: es) (tCons te t) := by
  intro pos pins s σ H Q I h
  rw [hs]
  show wpAny _ _ (spliced ((false, eval e X.env) :: backTo pos (starEach es X.env))) _ _ s
  refine Calls.spliced_cons (thn (ha pins s σ H _ I h) fun u s1 ⟨x, H1, I1, r1, q1⟩ => ?_)
  exact thn (hr pos pins s1 σ H1 _ I1 q1) fun us s2 ⟨xs, H2, I2, r2, q2⟩ => ⟨x :: xs, H2, I2, .cons r1 r2, q2⟩

def tLst (t : TA) : TE := fun σ H Q => t σ H fun xs H1 => xs.length ≤ sizeLine ∧ ∀ p, H1 p = none → Q (.ref p) (upd H1 p (.lst xs))
theorem pe_lst (h : PA X es t) : PE X (.List es pos) (tLst t) := by
  intro pins s σ H Q I hq
  refine wpAny_List_spliced (thn (h pos pins s σ H _ I hq) fun us s1 ⟨xs, H1, I1, r, z, q⟩ => ⟨by rw [← r.length]; exact z, ?_⟩)
  have hf : H1 s1.heap.objs.size = none := I1.hok.fresh (Nat.le_refl _)
  refine ⟨.ref s1.heap.objs.size, upd H1 s1.heap.objs.size (.lst xs), I1.laid (t' := s1.toks) (fun b u e => Heap.get?_push_of_some _ e) (Nat.le_refl _) ?_, rfl, q _ hf⟩
  exact ⟨z, us, 0, r, Heap.get?_push_size _ rfl⟩
end

/-! ### what a def promises -/
/-- a def's promise: the bound arguments in the parameters' order, the heap, the wanted end, the wanted exception -/
abbrev Sp := List V → Hp → VK → XK → Prop
/-- how an exception lies behind a call (file 08 gives it): the callers' frames, abstract heap and state ahead of the call, the wish, the exception, the state -/
abbrev CXT := List Env → Hp → Shared → XK → Value → Shared → Prop

/-- the state at a call -/
structure Env0 (P : Program) (w : World) (K : PySem.W.Frag) (mg : Str → Option Value) (base : Heap) (A : Around) (outer : List Env) (s : Shared) (H : Hp) : Prop where
  frames : A.frames = some outer
  mod : Mod K mg base
  bs : ∀ b o, base.get? b = some o → s.heap.get? b = some o ∧ H b = none
  bsz : base.objs.size ≤ s.heap.objs.size
  funs : s.heap.FunFrames base outer
  frf : ∀ b ∈ frs outer, H b = none
  hok : HOk P w H s.heap
  bare : AllBare s.gens
/-- a call's end -/
def CE (outer : List Env) (P : Program) (w : World) (H : Hp) (s : Shared) (Q : VK) (u : Value) (s' : Shared) : Prop :=
  ∃ v H', s'.os = s.os ∧ AllBare s'.gens ∧ Un (frs outer) [] H H' s.heap s'.heap ∧ HOk P w H' s'.heap ∧ RelV v u ∧ Q v H'
def CR (CX : CXT) (outer : List Env) (P : Program) (w : World) (H : Hp) (s : Shared) (Q : VK) (E : XK) (r : Result) (s' : Shared) : Prop :=
  match r with
  | .ok (.ret u) => CE outer P w H s Q u s'
  | .ok _ => False
  | .error e => CX outer H s E e s'
structure FnOk (P : Program) (w : World) (K : PySem.W.Frag) (mg : Str → Option Value) (base : Heap) (CX : CXT) (k : Nat) (f : Addr) (fd : FuncData) (ps : List Str) (sp : Sp) : Prop where
  len : ∀ vs H Q E, sp vs H Q E → vs.length = ps.length
  run : ∀ (A : Around) (outer : List Env) (s : Shared) (H : Hp) (args : Args) (us : List Value) (vs : List V) (Q : VK) (E : XK), Room k A → Env0 P w K mg base A outer s H → BindsTo s fd args (ps.zip us) → Vals vs us → sp vs H Q E →
    codeAny (model P w) A (.call (.ref f) args) (CR CX outer P w H s Q E) s
theorem FnOk.mono {P : Program} {w : World} {K : PySem.W.Frag} {mg : Str → Option Value} {base : Heap} {CX : CXT} {j k : Nat} {f : Addr} {fd : FuncData} {ps : List Str} {sp : Sp} (F : FnOk P w K mg base CX j f fd ps sp) (h : j ≤ k) :
    FnOk P w K mg base CX k f fd ps sp := ⟨F.len, fun A outer s H args us vs Q E hr => F.run A outer s H args us vs Q E (hr.mono h)⟩
/-- a weaker promise -/
theorem FnOk.imp {P : Program} {w : World} {K : PySem.W.Frag} {mg : Str → Option Value} {base : Heap} {CX : CXT} {k : Nat} {f : Addr} {fd : FuncData} {ps : List Str} {sp sp' : Sp} (F : FnOk P w K mg base CX k f fd ps sp)
    (h : ∀ vs H Q E, sp' vs H Q E → sp vs H Q E) : FnOk P w K mg base CX k f fd ps sp' :=
  ⟨fun vs H Q E q => F.len vs H Q E (h _ _ _ _ q), fun A outer s H args us vs Q E hr he hb hv hs => F.run A outer s H args us vs Q E hr he hb hv (h _ _ _ _ hs)⟩

theorem Env0.make {P : Program} {w : World} {K : PySem.W.Frag} {mg : Str → Option Value} {base : Heap} {A : Around} {outer : List Env} {s : Shared} {H : Hp} (e : Env0 P w K mg base A outer s H) (C : Addr) (us : List Value) (kw : List (Str × Value)) :
    Env0 P w K mg base (A.under (.builtin "type.__call__" ⟨.ref C :: us, kw⟩)) outer s H := ⟨by first | exact e.frames | (simpa [Around.under, Code.envs, Code.isFrame, pushEnvs] using e.frames), e.mod, e.bs, e.bsz, e.funs, e.frf, e.hok, e.bare⟩

section
variable {X : Cx} {pins : List (Addr × Obj)} {σ : St} {H : Hp} {s s' : Shared}
/-- from a body: what a callee wants -/
theorem Inv.env0 (I : Inv X pins σ H s) : Env0 X.prog X.w X.K X.mg X.base X.A X.stack s H :=
  ⟨I.ok.frames, I.ok.mod, I.bs, Nat.le_trans I.ok.bsz I.sz, I.stack, I.stkFree, I.hok, I.bare⟩
/-- behind a call -/
theorem Inv.after {Q : VK} {u : Value} (I : Inv X pins σ H s) (h : CE X.stack X.prog X.w H s Q u s') : EP X pins σ Q u s' := by
  obtain ⟨v, H', os, bare, un, hok, r, q⟩ := h
  obtain ⟨hh, g, d, t, os'⟩ := s'
  obtain rfl : os' = s.os := os
  exact ⟨v, H', I.call (h' := hh) (g' := g) (d' := d) (t' := t) (ch := []) un hok bare (fun b z => absurd z (by simp)), r, q⟩
end

/-! ### calls -/
/-- f(..): the written arguments, then the defaults dvs; E: what is wanted of an exception -/
def tCall (sp : Sp) (dvs : List V) (E : XK) (t : TA) : TE := fun σ H Q => t σ H fun vs H1 => sp (vs ++ dvs) H1 Q E
/-- C(..): a new instance and its dict, then __init__ -/
def tMake (C : Addr) (sp : Sp) (dvs : List V) (E : XK) (t : TA) : TE := fun σ H Q => t σ H fun vs H1 => ∀ x dx, H1 x = none → H1 dx = none → dx ≠ x →
  sp (.ref x :: (vs ++ dvs)) (upd (upd H1 dx (.own x)) x (.ins C dx [])) (fun v H2 => v = .non ∧ Q (.ref x) H2) E

/-- how the parameters are bound: us the positional arguments, kw the keywords' values by name, ds the defaults that fill up -/
def Binds (K : PySem.W.Frag) (fd : FuncData) (ps : List Str) (ds : List Value) : Prop :=
  ∀ (s : Shared) (us : List Value), K.In s.heap → (us ++ ds).length = ps.length → BindsTo s fd ⟨us, []⟩ (ps.zip (us ++ ds))
/-- every parameter is given -/
theorem Binds.all {K : PySem.W.Frag} {fd : FuncData} {ps : List Str} (h : ∀ us : List Value, us.length = ps.length → bindArgs fd ⟨us, []⟩ = pure (ps.zip us)) : Binds K fd ps [] := fun s us _ hl => by
  rw [List.append_nil] at hl ⊢
  exact .of_eq (h us hl)

/-- an exception of a callee reaches what this body wants of exceptions -/
def Passes (CX : CXT) (X : Cx) (E : XK) : Prop := ∀ (pins : List (Addr × Obj)) (σ : St) (H : Hp) (s : Shared) (e : Value) (s' : Shared), Inv X pins σ H s → CX X.stack H s E e s' → X.xe e s'

section
variable {X : Cx} {CX : CXT} {k : Nat} {f C : Addr} {fd : FuncData} {ps : List Str} {sp : Sp} {dvs : List V} {ds : List Value} {E : XK} {x m : Str} {p pos apos : Pos} {e o : Expr} {es : List Expr} {ta : TE} {t : TA}

/-- the callee runs -/
theorem run_fn {pins : List (Addr × Obj)} {σ : St} {H : Hp} {s : Shared} {Q : VK} {us : List Value} {vs : List V} (F : FnOk X.prog X.w X.K X.mg X.base CX k f fd ps sp) (hr : Room k X.A) (hb : Binds X.K fd ps ds) (hd : Vals dvs ds) (hx : Passes CX X E)
    (I : Inv X pins σ H s) (r : Vals vs us) (h : sp (vs ++ dvs) H Q E) : wpAny (model X.prog X.w) X.A (call (.ref f) us) (EP X pins σ Q) X.xe s := by
  have r2 : Vals (vs ++ dvs) (us ++ ds) := r.append hd
  have hl : (us ++ ds).length = ps.length := by rw [← r2.length]; exact F.len _ _ _ _ h
  refine wpAny_call (codeAny_mono (F.run X.A X.stack s H ⟨us, []⟩ (us ++ ds) (vs ++ dvs) Q E hr I.env0 (hb s us I.kIn hl) r2 h) fun r s' hq => ?_)
  cases r with
  | error e => exact hx pins σ H s e s' I hq
  | ok fl =>
    cases fl with
    | ret u => exact I.after hq
    | next => exact False.elim hq
    | brk => exact False.elim hq
    | cont => exact False.elim hq

theorem pe_call (F : FnOk X.prog X.w X.K X.mg X.base CX k f fd ps sp) (hr : Room k X.A) (hg : Gl X x) (hm : X.mg x = some (.ref f)) (hk : PySem.W.keepIn X.K (.ref f) = true) (hb : Binds X.K fd ps ds) (hd : Vals dvs ds) (hx : Passes CX X E)
    (ha : PA X (e :: es) t) (hdb : (x == ("__debug__" : Str)) = false := by decide) (he : starEach (e :: es) X.env = (false, eval e X.env) :: starEach es X.env := by rfl) (hpl : (backTo pos (starEach es X.env)).any (·.1) = false := by rfl) :
    PE X (.Call (.Name x p) (e :: es) [] pos) (tCall sp dvs E t) := by
  intro pins s σ H Q I h
  refine wpAny_Call_Name_kw (ld_glob I hg hm ?_ hdb)
  refine PySem.W.callWith_K (h₀ := X.base) I.ok.mod.kin hk (thn (ha pos pins s σ H _ I h) fun us s1 ⟨vs, H1, I1, r, q⟩ => ⟨I1.kIn, ?_⟩) he hpl
  exact run_fn F hr hb hd hx I1 r q

/-- what a class must have to be made -/
structure Mk (K : PySem.W.Frag) (C f : Addr) : Prop where
  makes : PySem.W.makesIn K C = true
  init : PySem.W.findIn K (.ref C) "__init__" = some (some (.ref f))
  fn : PySem.W.isFn K (.ref f) = true
  kp : PySem.W.keepIn K (.ref C) = true

theorem run_make {pins : List (Addr × Obj)} {σ : St} {H : Hp} {s : Shared} {Q : VK} {us : List Value} {vs : List V} (M : Mk X.K C f) (F : FnOk X.prog X.w X.K X.mg X.base CX k f fd ps sp) (hr : Room (k + 1) X.A) (hb : Binds X.K fd ps ds) (hd : Vals dvs ds)
    (hx : Passes CX X E) (I : Inv X pins σ H s) (r : Vals vs us)
    (h : ∀ x dx, H x = none → H dx = none → dx ≠ x → sp (.ref x :: (vs ++ dvs)) (upd (upd H dx (.own x)) x (.ins C dx [])) (fun v H2 => v = .non ∧ Q (.ref x) H2) E) :
    wpAny (model X.prog X.w) X.A (call (.ref C) us) (EP X pins σ Q) X.xe s := by
  have hq := h (s.heap.objs.size + 1) s.heap.objs.size (I.hok.fresh (Nat.le_succ _)) (I.hok.fresh (Nat.le_refl _)) (Nat.ne_of_lt (Nat.lt_succ_self _))
  have I2 := Inv.made (C := C) I
  have r2 : Vals (V.ref (s.heap.objs.size + 1) :: (vs ++ dvs)) (Value.ref (s.heap.objs.size + 1) :: (us ++ ds)) := .cons rfl (r.append hd)
  have hl : (Value.ref (s.heap.objs.size + 1) :: us ++ ds).length = ps.length := by
    have e := r2.length
    rw [F.len _ _ _ _ hq] at e
    exact e.symm
  refine wpAny_call (make_map (f := f) I.kIn M.makes M.init (beq_iff_eq.mp M.fn) (codeAny_mono (F.run _ X.stack _ _ ⟨Value.ref (s.heap.objs.size + 1) :: us, []⟩ (Value.ref (s.heap.objs.size + 1) :: (us ++ ds)) _ _ E (hr.make C us [])
    (I2.env0.make C us []) (hb _ (Value.ref (s.heap.objs.size + 1) :: us) I2.kIn hl) r2 hq) fun r s' hq' => ?_))
  cases r with
  | error e => exact hx pins σ _ _ e s' I2 hq'
  | ok fl =>
    cases fl with
    | ret u =>
      obtain ⟨v, H', I3, rv, ev, q3⟩ := I2.after hq'
      subst ev
      exact ⟨rv, ⟨V.ref (s.heap.objs.size + 1), H', I3, rfl, q3⟩⟩
    | next => exact False.elim hq'
    | brk => exact False.elim hq'
    | cont => exact False.elim hq'
theorem pe_make (M : Mk X.K C f) (F : FnOk X.prog X.w X.K X.mg X.base CX k f fd ps sp) (hr : Room (k + 1) X.A) (hg : Gl X x) (hm : X.mg x = some (.ref C)) (hb : Binds X.K fd ps ds) (hd : Vals dvs ds) (hx : Passes CX X E)
    (ha : PA X (e :: es) t) (hdb : (x == ("__debug__" : Str)) = false := by decide) (he : starEach (e :: es) X.env = (false, eval e X.env) :: starEach es X.env := by rfl) (hpl : (backTo pos (starEach es X.env)).any (·.1) = false := by rfl) :
    PE X (.Call (.Name x p) (e :: es) [] pos) (tMake C sp dvs E t) := by
  intro pins s σ H Q I h
  refine wpAny_Call_Name_kw (ld_glob I hg hm ?_ hdb)
  refine PySem.W.callWith_K (h₀ := X.base) I.ok.mod.kin M.kp (thn (ha pos pins s σ H _ I h) fun us s1 ⟨vs, H1, I1, r, q⟩ => ⟨I1.kIn, ?_⟩) he hpl
  exact run_make M F hr hb hd hx I1 r q
end

/-! ### keywords -/
section
variable {X : Cx} {CX : CXT} {k : Nat} {f C : Addr} {fd : FuncData} {ps ks : List Str} {sp : Sp} {E : XK} {x m : Str} {p pos apos kpos : Pos} {e o : Expr} {es : List Expr} {kws : List Keyword} {te ta : TE} {t tk : TA} {nm : Option Str}

variable {g : List Value → List Value → List Value} {gV : List V → List V → List V}
end

/-! ### a def's body keeps its promise -/
/-- names: the parameters first -/
structure FnScope (N P : List Str) (sc : Scope) : Prop where
  kind : sc.kind = .function
  co : sc.isCoroutine = false
  gen : sc.isGenerator = false
  nd : N.Nodup
  pre : N.take P.length = P
  par : ∀ x ∈ P, sc.names.lookup x = some .local ∨ sc.names.lookup x = some .cell
  nofree : ∀ y ∈ sc.names, y.2 ≠ .free

theorem bindL_out {kindOf : Str → Option NameKind} {x : Str} : ∀ {binds : List (Str × Value)} {m : Str → Option Value}, (∀ v, (x, v) ∉ binds) → bindL kindOf binds m x = m x
  | [], _, _ => rfl
  | (n, v) :: r, m, h => by
    unfold bindL
    rw [bindL_out fun w hw => h w (List.mem_cons_of_mem _ hw)]
    split
    · have : x ≠ n := by rintro rfl; exact h v List.mem_cons_self
      simp [this]
    · rfl
theorem bindC_out {kindOf : Str → Option NameKind} {x : Str} : ∀ {binds : List (Str × Value)} {m : Str → Option Value}, (∀ v, (x, v) ∉ binds) → bindC kindOf binds m x = m x
  | [], _, _ => rfl
  | (n, v) :: r, m, h => by
    unfold bindC
    rw [bindC_out fun w hw => h w (List.mem_cons_of_mem _ hw)]
    split
    · rfl
    · have : x ≠ n := by rintro rfl; exact h v List.mem_cons_self
      simp [this]
theorem bindL_get {kindOf : Str → Option NameKind} {x : Str} {v : Value} : ∀ {P : List Str} {vs : List Value} {i : Nat} {m : Str → Option Value}, P.Nodup → P[i]? = some x → vs[i]? = some v → kindOf x = some .local →
    bindL kindOf (P.zip vs) m x = some v
  | [], _, _, _, _, h, _, _ => by simp at h
  | _ :: _, [], _, _, _, _, h, _ => by simp at h
  | p :: P, w :: vs, 0, m, nd, h1, h2, hk => by
    simp at h1 h2; subst h1; subst h2
    show bindL kindOf ((p, w) :: P.zip vs) m p = _
    unfold bindL
    rw [bindL_out fun v hv => (List.nodup_cons.mp nd).1 (List.of_mem_zip hv).1, if_pos hk]
    simp
  | p :: P, w :: vs, i + 1, m, nd, h1, h2, hk => by
    show bindL kindOf ((p, w) :: P.zip vs) m x = _
    unfold bindL
    exact bindL_get (i := i) (List.nodup_cons.mp nd).2 (by simpa using h1) (by simpa using h2) hk
theorem bindC_get {kindOf : Str → Option NameKind} {x : Str} {v : Value} : ∀ {P : List Str} {vs : List Value} {i : Nat} {m : Str → Option Value}, P.Nodup → P[i]? = some x → vs[i]? = some v → kindOf x ≠ some .local →
    bindC kindOf (P.zip vs) m x = some v
  | [], _, _, _, _, h, _, _ => by simp at h
  | _ :: _, [], _, _, _, _, h, _ => by simp at h
  | p :: P, w :: vs, 0, m, nd, h1, h2, hk => by
    simp at h1 h2; subst h1; subst h2
    show bindC kindOf ((p, w) :: P.zip vs) m p = _
    unfold bindC
    rw [bindC_out fun v hv => (List.nodup_cons.mp nd).1 (List.of_mem_zip hv).1, if_neg hk]
    simp
  | p :: P, w :: vs, i + 1, m, nd, h1, h2, hk => by
    show bindC kindOf ((p, w) :: P.zip vs) m x = _
    unfold bindC
    exact bindC_get (i := i) (List.nodup_cons.mp nd).2 (by simpa using h1) (by simpa using h2) hk

/-- the names' values at the entry -/
def start (N : List Str) (vs : List V) : St := vs.map some ++ List.replicate (N.length - vs.length) none

/-- the context of a def's body, at its entry; an exception leaves the frame, then lies as CX says -/
def cxOf (CX : CXT) (P : Program) (w : World) (K : PySem.W.Frag) (mg : Str → Option Value) (base : Heap) (N : List Str) (qual : Str) (scope : Scope) (f : Addr) (cd : Value) (A : Around) (outer : List Env) (s : Shared) (H : Hp) (E : XK) : Cx where
  prog := P
  w := w
  K := K
  mg := mg
  base := base
  A := A.deeper (envOfC qual scope s.heap.objs.size f cd)
  N := N
  s_0 := s
  H_0 := H
  env := envOfC qual scope s.heap.objs.size f cd
  outer := outer
  stack := envOfC qual scope s.heap.objs.size f cd :: outer
  ex := []
  calm := true
  fn := fun _ => true
  pn := []
  xe := fun e s' => wpAny (model P w) (A.deeper (envOfC qual scope s.heap.objs.size f cd)) (leaving (envOfC qual scope s.heap.objs.size f cd) e) (fun _ s'' => CX outer H s E e s'') (fun e' s'' => CX outer H s E e' s'') s'

theorem cell_has {sc : Scope} {n : Nat} {x : Str} (h : sc.names.lookup x = some .cell) : ∃ c, (cellsFrom n sc.names []).lookup x = some c := by
  have q := PySem.W.cellsFrom_some sc.names n [] (.inl h)
  exact Option.isSome_iff_exists.mp q

theorem inv_start {CX : CXT} {P : Program} {w : World} {K : PySem.W.Frag} {mg : Str → Option Value} {base : Heap} {N ps : List Str} {qual : Str} {scope : Scope} {f : Addr} {cd : Value} {A : Around} {outer : List Env} {s s1 : Shared} {H : Hp} {E : XK} {us : List Value} {vs : List V}
    (S : FnScope N ps scope) (hd : A.handled = none) (e0 : Env0 P w K mg base A outer s H) (hl : vs.length = ps.length) (r : Vals vs us)
    (x : InCallC s s.heap.objs.size (bindL (envOfC qual scope s.heap.objs.size f cd).kindOf (ps.zip us) fun _ => none) (cellsFrom (s.heap.objs.size + 1) scope.names []) (bindC (envOfC qual scope s.heap.objs.size f cd).kindOf (ps.zip us) fun _ => none) s1) :
    Inv (cxOf CX P w K mg base N qual scope f cd A outer s H E) [] (start N vs) H s1 := by
  have hpl : ps.length ≤ N.length := by have := congrArg List.length S.pre; rw [List.length_take] at this; omega
  obtain ⟨h1, tk, rfl, hk⟩ := x.done
  have noA : ∀ b : Addr, b ∉ (cxOf CX P w K mg base N qual scope f cd A outer s H E).ex := fun b z => absurd (show b ∈ ([] : List Addr) from z) (by simp)
  refine ⟨⟨e0.mod, S.kind, rfl, rfl, Nat.le_refl _, fun y z c h1 h2 => ?_, fun y hy => ?_, fun y c _ h => ?_, fun _ => hd, Around.frames_deeper e0.frames, .inr ⟨rfl, rfl⟩, fun b z => absurd z (noA b), e0.bs, e0.bsz, fun b _ _ => noA b, fun b z => absurd z (noA b), e0.funs, e0.frf⟩,
    rfl, e0.bare, Un.kept hk, ⟨_, x.toInCall.ns, fun i y v h1 h2 h3 => ?_⟩, fun y c h => ⟨_, x.cell y c h⟩, e0.hok.fresh (Nat.le_refl _), fun y c h => ?_, fun p hp => absurd (show p ∈ ([] : List (Addr × Obj)) from hp) (by simp), e0.hok.kept hk, ?_⟩
  · exact name_of_addr x.apart (PySem.mem_of_lookup h1) (PySem.mem_of_lookup h2)
  · have hy : scope.names.lookup y = some .cell ∨ scope.names.lookup y = some .free := hy
    rcases hy with hy | hy
    · exact cell_has hy
    · exact absurd rfl (S.nofree _ (PySem.mem_of_lookup hy))
  · exact Nat.le_of_lt (x.above y c (PySem.mem_of_lookup h))
  · have hi : i < vs.length := by
      unfold start at h2
      by_cases hi : i < vs.length
      · exact hi
      · rw [List.getElem?_append_right (by simpa using hi)] at h2
        rw [List.getElem?_replicate] at h2
        split at h2 <;> cases h2
    have ha : vs[i]? = some v := by
      unfold start at h2
      rw [List.getElem?_append_left (by simpa using hi), List.getElem?_map] at h2
      cases e : vs[i]? with
      | none => rw [e] at h2; cases h2
      | some a => rw [e] at h2; cases h2; rfl
    obtain ⟨u, hu, rv⟩ := r.get ha
    have hp : ps[i]? = some y := by
      rw [← S.pre, List.getElem?_take_of_lt (by omega)]; exact h1
    have ndP : ps.Nodup := by rw [← S.pre]; exact S.nd.sublist (List.take_sublist _ _)
    refine ⟨u, rv, ?_⟩
    rcases S.par y (List.mem_of_getElem? hp) with k | k
    · exact .inl ⟨k, bindL_get ndP hp hu k⟩
    · obtain ⟨c, e⟩ := cell_has (n := s.heap.objs.size + 1) k
      refine .inr ⟨.inl k, c, e, ?_⟩
      have q := x.cell y c e
      rw [bindC_get ndP hp hu (by show scope.names.lookup y ≠ _; rw [k]; decide)] at q
      exact q
  · exact e0.hok.fresh (Nat.le_of_lt (x.above y c (PySem.mem_of_lookup h)))
  · unfold start
    show _ = N.length
    rw [List.length_append, List.length_map, List.length_replicate]
    omega

/-- THE RULE: a def (or a method) of the text, by its body. The body's reading t is chosen for each entry; it is run at the parameters' values -/
theorem fn_of {CX : CXT} {P : Program} {w : World} {K : PySem.W.Frag} {mg : Str → Option Value} {base : Heap} {k : Nat} {f : Addr} {name qual : Str} {params : Arguments} {body : List Stmt} {scope : Scope} {dV kV doc pm cdv ct oc : Value} {an od : Option Addr}
    {osl : Array (Option Value)} {N ps : List Str} {sp : Sp} (lk : K.lookup f = some ⟨oc, od, .func (PySem.W.fnOf name qual params body scope dV kV doc pm an cdv ct), osl⟩) (hcd : PySem.W.codeIn K cdv qual = true) (S : FnScope N ps scope)
    (len : ∀ vs H Q E, sp vs H Q E → vs.length = ps.length)
    (hbody : ∀ (A : Around) (outer : List Env) (s : Shared) (H : Hp) (vs : List V) (Q : VK) (E : XK), Room k (A.deeper (envOfC qual scope s.heap.objs.size f cdv)) → sp vs H Q E →
      ∃ t, PSs (cxOf CX P w K mg base N qual scope f cdv A outer s H E) body t ∧ t { nx := fun _ H' => Q .non H', rt := Q } (start N vs) H) :
    FnOk P w K mg base CX (k + 1) f (PySem.W.fnOf name qual params body scope dV kV doc pm an cdv ct) ps sp := by
  refine ⟨len, fun A outer s H args us vs Q E hr e0 hb r hsp => ?_⟩
  have hl := len _ _ _ _ hsp
  have KX : K.In s.heap := e0.mod.kin.keeps fun b o e => (e0.bs b o e).1
  have lim : s.heap.NoLimit := e0.mod.nolimit.keeps fun b o e => (e0.bs b o e).1
  have hkind : ∀ y ∈ ps.zip us, scope.names.lookup y.1 = some .local ∨ (scope.names.lookup y.1 = some .cell ∧ ((cellsFrom (s.heap.objs.size + 1) scope.names []).lookup y.1).isSome = true) := fun ⟨n, v⟩ hy => by
    rcases S.par n (List.of_mem_zip hy).1 with q | q
    · exact .inl q
    · exact .inr ⟨q, PySem.W.cellsFrom_some _ _ _ (.inl q)⟩
  refine codeAny_call_function hr.depth (KX _ _ lk) rfl S.co S.gen rfl (PySem.W.codeRec_of KX hcd) (hb _ _ _ _ ?_)
  refine wpAny_newFunctionEnv_cells S.kind hkind fun env he s1 x => ?_
  subst he
  refine ⟨lim.keeps x.toInCall.keep, codeAny_func ?_⟩
  obtain ⟨t, ht, hq⟩ := hbody A outer s H vs Q E (hr.deeper _) hsp
  have I : Inv (cxOf CX P w K mg base N qual scope f cdv A outer s H E) [] (start N vs) H s1 := inv_start S hr.hd e0 hl r x
  refine wpAny_mono (ht [] s1 (start N vs) H _ I hq) (fun fl s' hs => ?_) fun e s' hs => hs
  have fin : ∀ {σ' : St} {H' : Hp} {v : V} {u : Value}, Inv (cxOf CX P w K mg base N qual scope f cdv A outer s H E) [] σ' H' s' → RelV v u → Q v H' → CE outer P w H s Q u s' :=
    fun {σ' H' v u} J rv q => ⟨v, H', J.os, J.bare, J.base, J.hok, rv, q⟩
  cases fl with
  | ret u =>
    obtain ⟨v, σ', H', J, rv, q⟩ := hs
    exact fin J rv q
  | next =>
    obtain ⟨σ', H', J, q⟩ := hs
    exact fin (v := V.non) (u := Value.none) J rfl q
  | brk =>
    obtain ⟨_, _, _, q⟩ := hs
    exact False.elim q
  | cont =>
    obtain ⟨_, _, _, q⟩ := hs
    exact False.elim q
end L2

namespace L2
open PySem PySem.Spec PyProof.Rows
section
variable {X : Cx} {x : Str} {p pos : Pos} {e : Expr} {es : List Expr} {t : TA} {id T : String} {r : List V → Hp → VK → Prop}

def tCB (r : List V → Hp → VK → Prop) (t : TA) : TE := fun σ H Q => t σ H fun vs H1 => r vs H1 Q
/-- f(e, ..), f a built-in function -/
theorem pe_callB (hc : CallR X (.builtin id) r) (hg : Gl X x) (hm : X.mg x = none) (hv : bootBuiltins x = some (.builtin id)) (ha : PA X (e :: es) t) (hn : x ≠ "__name__" := by decide) (hdb : (x == ("__debug__" : Str)) = false := by decide)
    (he : starEach (e :: es) X.env = (false, eval e X.env) :: starEach es X.env := by rfl) (hpl : (backTo pos (starEach es X.env)).any (·.1) = false := by rfl) : PE X (.Call (.Name x p) (e :: es) [] pos) (tCB r t) := by
  intro pins s σ H Q I h
  refine wpAny_Call_Name_kw (ld_blt I hg hm hv ?_ hn hdb)
  exact PyProof.Rows.callWith_builtin1 (thn (ha pos pins s σ H _ I h) fun us s1 ⟨vs, H1, I1, r1, q1⟩ => hc pins s1 σ H1 vs us Q I1 r1 q1) he hpl
/-- T(e, ..), T a built-in type -/
theorem pe_callTy (hc : CallR X (.type T) r) (hg : Gl X x) (hm : X.mg x = none) (hv : bootBuiltins x = some (.type T)) (ha : PA X (e :: es) t) (hn : x ≠ "__name__" := by decide) (hdb : (x == ("__debug__" : Str)) = false := by decide)
    (he : starEach (e :: es) X.env = (false, eval e X.env) :: starEach es X.env := by rfl) (hpl : (backTo pos (starEach es X.env)).any (·.1) = false := by rfl) : PE X (.Call (.Name x p) (e :: es) [] pos) (tCB r t) := by
  intro pins s σ H Q I h
  refine wpAny_Call_Name_kw (ld_blt I hg hm hv ?_ hn hdb)
  exact PyProof.Rows.callWith_type1 (thn (ha pos pins s σ H _ I h) fun us s1 ⟨vs, H1, I1, r1, q1⟩ => hc pins s1 σ H1 vs us Q I1 r1 q1) he hpl
end
end L2

namespace HT
open PySem PyProof.Rows

section
open PySem.SeqAt
open PySem.AutoSeq1 (wpAny_loadPart')
open PySem.MeetsSeq PySem.MeetsSeq2 PySem.MeetsSeq3

end

section
variable {prog : Program} {w : World} {A : Around} {E : Value → Shared → Prop} {s : Shared}

/-! ### t[a:b], not the whole -/
/-- a slice's bound as a place among n (d where it is left out) -/
def sIx (n d : Nat) : Option Int → Nat
  | none => d
  | some v => if v < 0 then (v + (n : Int)).toNat else min v.toNat n
theorem sIx_none (n d : Nat) : sIx n d none = d := rfl
theorem sIx_nat (n d k : Nat) : sIx n d (some (k : Int)) = min k n := by
  show (if (k : Int) < 0 then ((k : Int) + (n : Int)).toNat else min (k : Int).toNat n) = min k n
  rw [if_neg (by omega), Int.toNat_natCast]

end
end HT

namespace L2
open PySem PySem.Spec PyProof.Rows

/-! ### the parts of a slice -/
abbrev TO := St → Hp → (Option Int → Hp → Prop) → Prop
/-- a slice's part (left out, or an int) -/
def PO (X : Cx) (e : Option Expr) (t : TO) : Prop :=
  ∀ (pins : List (Addr × Obj)) (s : Shared) (σ : St) (H : Hp) (Q : Option Int → Hp → Prop), Inv X pins σ H s → t σ H Q →
    wpAny (model X.prog X.w) X.A (evalPart e X.env) (fun u s' => ∃ o H', Inv X pins σ H' s' ∧ IsPart u o ∧ Q o H') X.xe s
def tNoPart : TO := fun _ H Q => Q none H
def tPart (t : TE) : TO := fun σ H Q => t σ H fun x H1 => ∃ i, x = .int i ∧ Q (some i) H1

section
variable {X : Cx} {e : Expr} {te : TE} {lo hi : Option Expr} {tl th : TO} {pos p2 : Pos}

theorem po_none : PO X none tNoPart := by
  intro pins s σ H Q I h
  rw [evalPart_none]
  exact wpAny_pure ⟨none, H, I, .none, h⟩
theorem po_some (h : PE X e te) : PO X (some e) (tPart te) := by
  intro pins s σ H Q I hw
  rw [evalPart_some]
  refine thn (h pins s σ H _ I hw) fun u s1 ⟨x, H1, I1, r1, q1⟩ => ?_
  obtain ⟨i, rfl, q⟩ := q1
  obtain ⟨t, rfl⟩ := r1
  exact ⟨some i, H1, I1, .int i t, q⟩

/-- what a slice of a value is, by values: the slice object stands at sl -/
def SlR (X : Cx) (r : V → Option Int → Option Int → Hp → VK → Prop) : Prop :=
  ∀ (pins : List (Addr × Obj)) (s : Shared) (σ : St) (H : Hp) (x : V) (v vl vu : Value) (lo hi : Option Int) (sl : Addr) (Q : VK), Inv X pins σ H s → RelV x v → s.heap.IsSliceOf sl vl vu .none → IsPart vl lo → IsPart vu hi → r x lo hi H Q →
    ∃ T id, typeLookup (.type T) "__getitem__" = pure (some (.builtin id)) ∧ s.TypeIs v T ∧ wpAny (model X.prog X.w) X.A (getItem v (.ref sl)) (EP X pins σ Q) X.xe s
def tSl (r : V → Option Int → Option Int → Hp → VK → Prop) (te : TE) (tl th : TO) : TE := fun σ H Q => te σ H fun x H1 => tl σ H1 fun l H2 => th σ H2 fun u H3 => r x l u H3 Q
/-- a[lo:hi], any a -/
theorem pe_slice {r : V → Option Int → Option Int → Hp → VK → Prop} (hr : SlR X r) (he : PE X e te) (hl : PO X lo tl) (hu : PO X hi th) : PE X (.Subscript e (.Slice lo hi none p2) pos) (tSl r te tl th) := by
  intro pins s σ H Q I h
  refine Subscript_ (thn (he pins s σ H _ I h) fun v s1 ⟨x, H1, I1, r1, q1⟩ => ?_)
  refine wpAny_Slice (thn (hl pins s1 σ H1 _ I1 q1) fun vl s2 ⟨l, H2, I2, pl, q2⟩ => thn (hu pins s2 σ H2 _ I2 q2) fun vu s3 ⟨u, H3, I3, pu, q3⟩ => ?_)
  rw [evalPart_none]
  refine wpAny_pure ?_
  have I4 : Inv X pins σ H3 { s3 with heap := s3.heap.push { cls := .type "slice", data := .fields #[vl, vu, .none] } } := I3.kept (t' := s3.toks) fun b ob q => Heap.get?_push_of_some _ q
  obtain ⟨T, id, hT, ht, hg⟩ := hr pins { s3 with heap := s3.heap.push { cls := .type "slice", data := .fields #[vl, vu, .none] } } σ H3 x v vl vu l u s3.heap.objs.size Q I4 r1 (Heap.IsSliceOf.new ..) pl pu q3
  show wpAny (model X.prog X.w) X.A (subscriptTail e (.Slice lo hi none p2) v (.ref s3.heap.objs.size)) (EP X pins σ Q) X.xe { s3 with heap := s3.heap.push { cls := .type "slice", data := .fields #[vl, vu, .none] } }
  exact tail_any (ops := [.ref s3.heap.objs.size, v]) ht hT hg (by with_unfolding_all rfl)

/-- the items of xs[lo:hi] -/
def cutV (xs : List V) (lo hi : Option Int) : List V := (xs.drop (HT.sIx xs.length 0 lo)).take (HT.sIx xs.length xs.length hi - HT.sIx xs.length 0 lo)
theorem cutV_length (xs : List V) (lo hi : Option Int) : (cutV xs lo hi).length ≤ xs.length := by
  unfold cutV
  rw [List.length_take, List.length_drop]
  omega

/-! ### t < u, t + u -/
end
end L2

namespace L2
open PySem PySem.Spec PyProof.Rows

/-! ### places -/
/-- the place that an index of any sign means -/
def ixN (n : Nat) (i : Int) : Option Nat := if 0 ≤ i then (if i < n then some i.toNat else none) else if -(n : Int) ≤ i then some (i + n).toNat else none
def atI {α : Type} (xs : List α) (i : Int) : Option α := (ixN xs.length i).bind fun j => xs[j]?
theorem ixN_seq {n : Nat} {i : Int} {j : Nat} (h : ixN n i = some j) : seqIndex? i n = some j ∧ j < n ∧ -(n : Int) ≤ i ∧ i < n := by
  unfold ixN at h
  by_cases h0 : 0 ≤ i
  · rw [if_pos h0] at h
    by_cases h1 : i < n
    · rw [if_pos h1] at h
      have e : i.toNat = j := Option.some.inj h
      exact ⟨by rw [seqIndex_of h0 h1, e], by omega, by omega, h1⟩
    · rw [if_neg h1] at h; cases h
  · rw [if_neg h0] at h
    by_cases h1 : -(n : Int) ≤ i
    · rw [if_pos h1] at h
      have e : (i + n).toNat = j := Option.some.inj h
      exact ⟨by rw [seqIndex_neg (by omega) h1, e], by omega, h1, by omega⟩
    · rw [if_neg h1] at h; cases h
theorem atI_get {α : Type} {xs : List α} {i : Int} {v : α} (h : atI xs i = some v) : ∃ j, seqIndex? i xs.length = some j ∧ xs[j]? = some v ∧ j < xs.length ∧ -(xs.length : Int) ≤ i ∧ i < xs.length := by
  unfold atI at h
  cases e : ixN xs.length i with
  | none => rw [e] at h; cases h
  | some j =>
    rw [e] at h
    obtain ⟨h1, h2, h3, h4⟩ := ixN_seq e
    exact ⟨j, h1, h, h2, h3, h4⟩
theorem atI_nat {α : Type} {xs : List α} {j : Nat} {v : α} (h : xs[j]? = some v) : atI xs (j : Int) = some v := by
  have hj : j < xs.length := (List.getElem?_eq_some_iff.mp h).1
  have e : ixN xs.length (j : Int) = some j := by
    unfold ixN
    rw [if_pos (by omega), if_pos (by omega)]; simp
  unfold atI; rw [e]; exact h
theorem atI_last {α : Type} (xs : List α) (v : α) : atI (xs ++ [v]) (-1) = some v := by
  have hl : (xs ++ [v]).length = xs.length + 1 := by simp
  have e : ixN (xs ++ [v]).length (-1) = some xs.length := by
    unfold ixN
    rw [hl, if_neg (by decide), if_pos (by omega)]
    congr 1
    omega
  unfold atI
  rw [e]
  show (xs ++ [v])[xs.length]? = some v
  simp

/-! ### what may be subscripted -/
/-- what stands as an index of a plain subscript -/
def PlainIx (b : Expr) : Prop := ∀ o i, subscripted b false o i = operate [o, i] (getItem o i)
/-- a subscript by values -/
def IxR (X : Cx) (r : R2) : Prop :=
  ∀ (value slice : Expr) (pins : List (Addr × Obj)) (s : Shared) (σ : St) (H : Hp) (x y : V) (v u : Value) (Q : VK), Inv X pins σ H s → RelV x v → RelV y u → r x y H Q →
    subscripted slice false v u = operate [v, u] (getItem v u) → wpAny (model X.prog X.w) X.A (subscriptTail value slice v u) (EP X pins σ Q) X.xe s
/-- a call of a builtin's method by values: the receiver, the arguments -/
def MtR (X : Cx) (id : String) (r : V → List V → Hp → VK → Prop) : Prop :=
  ∀ (pins : List (Addr × Obj)) (s : Shared) (σ : St) (H : Hp) (x : V) (xs : List V) (v : Value) (us : List Value) (Q : VK), Inv X pins σ H s → RelV x v → Vals xs us → r x xs H Q →
    wpAny (model X.prog X.w) X.A (call (.builtin id) (v :: us)) (EP X pins σ Q) X.xe s
section
variable {X : Cx} {a b : Expr} {ta tb : TE} {pos : Pos}
/-- a[b] -/
theorem pe_ix {r : R2} (hr : IxR X r) (ha : PE X a ta) (hb : PE X b tb) (hs : PlainIx b) : PE X (.Subscript a b pos) (tOp r ta tb) := by
  intro pins s σ H Q I h
  exact Subscript_ (binT ha hb I h fun v u s2 x y H2 I2 rx ry q => hr a b pins s2 σ H2 x y v u Q I2 rx ry q (hs _ _))

def rIxL (K : PySem.W.Frag) : R2 := fun x y H Q => ∃ p xs i v, x = .ref p ∧ y = .int i ∧ SqL K H p xs ∧ atI xs i = some v ∧ Q v H
def rIxT (K : PySem.W.Frag) : R2 := fun x y H Q => ∃ p xs i v, x = .ref p ∧ y = .int i ∧ SqT K H p xs ∧ atI xs i = some v ∧ Q v H
theorem ix_list : IxR X (rIxL X.K) := by
  intro value slice pins s σ H x y v u Q I rx ry h hs
  obtain ⟨p, xs, i, z, rfl, rfl, hq, he, q⟩ := h
  cases rx
  obtain ⟨t, rfl⟩ := ry
  obtain ⟨its, r, pl, hz⟩ := I.list hq
  obtain ⟨j, h1, h2, h3, h4, h5⟩ := atI_get he
  obtain ⟨w, ew, rw'⟩ := r.get h2
  have hl := r.length
  have hn := line63
  have fin : EP X pins σ Q w s := ⟨z, H, I, rw', q⟩
  by_cases h0 : 0 ≤ i
  · have hj : i.toNat = j := by
      rw [seqIndex_of h0 h5] at h1
      exact Option.some.inj h1
    exact item_listR pl.isList h0 (by omega) (by rw [hj]; simpa using ew) fin hs
  · have hj : (i + (its.toArray.size : Int)).toNat = j := by
      rw [seqIndex_neg (by omega) h4] at h1
      rw [List.size_toArray, ← hl]
      exact Option.some.inj h1
    exact subscriptTail_builtinR (x := w) pl.isList.typeIs slot_list_getitem.lookup
      (wpAny_getItem_list_neg (Q := fun r s' => r = w ∧ EP X pins σ Q r s') pl.isList (by omega) (by rw [List.size_toArray] <;> omega) (by omega) (by rw [hj]; simpa using ew) ⟨rfl, fin⟩) hs
theorem ix_tup : IxR X (rIxT X.K) := by
  intro value slice pins s σ H x y v u Q I rx ry h hs
  obtain ⟨p, xs, i, z, rfl, rfl, hq, he, q⟩ := h
  cases rx
  obtain ⟨t, rfl⟩ := ry
  obtain ⟨its, r, pl, hz⟩ := I.tuple hq
  obtain ⟨j, h1, h2, h3, h4, h5⟩ := atI_get he
  obtain ⟨w, ew, rw'⟩ := r.get h2
  have hl := r.length
  have hn := line63
  have fin : EP X pins σ Q w s := ⟨z, H, I, rw', q⟩
  exact subscriptTail_builtinR (x := w) pl.typeIs slot_tuple_getitem.lookup
    (getItem_tuple (j := j) (Q := fun r s' => r = w ∧ EP X pins σ Q r s') pl (by omega) (by omega) (by rw [List.size_toArray, ← hl]; exact h1) (by simpa using ew) ⟨rfl, fin⟩) hs

/-! ### xs[i] = v, any sign -/
/-- the list's object behind a store -/
theorem mapSeq_set (its : List Value) (n j : Nat) (u : Value) : Obj.mapSeq (·.setIfInBounds j u) { cls := .type "list", data := .seq its.toArray n } = { cls := .type "list", data := .seq (its.set j u).toArray n } := by
  simp [Obj.mapSeq]
theorem Inv.lst {pins : List (Addr × Obj)} {σ : St} {H : Hp} {s : Shared} {p : Addr} {xs : List V} (I : Inv X pins σ H s) (h : H p = some (.lst xs)) :
    ∃ (its : List Value) (n : Nat), Vals xs its ∧ s.heap.get? p = some { cls := .type "list", data := .seq its.toArray n } ∧ xs.length ≤ sizeLine := by
  obtain ⟨z, its, n, r, e⟩ := I.hok p _ h
  exact ⟨its, n, r, e, z⟩
/-- the list at p is written by an update of its object -/
theorem Inv.lstUpd {pins : List (Addr × Obj)} {σ : St} {H : Hp} {s : Shared} {p : Addr} {xs ys : List V} {its its' : List Value} {n n' : Nat} {f : Obj → Obj} (I : Inv X pins σ H s) (h : H p = some (.lst xs))
    (ho : s.heap.get? p = some { cls := .type "list", data := .seq its.toArray n }) (hf : f { cls := .type "list", data := .seq its.toArray n } = { cls := .type "list", data := .seq its'.toArray n' }) (r : Vals ys its') (hz : ys.length ≤ sizeLine) (t : Nat) :
    Inv X pins σ (upd H p (.lst ys)) { s with heap := s.heap.update p f, toks := t } := by
  have e : (s.heap.update p f).get? p = some { cls := .type "list", data := .seq its'.toArray n' } := by
    rw [Heap.get?_update_self f ho (by rw [hf] <;> rfl), hf]
  refine I.write (x := p) (e := p) (by rw [h]; trivial) (.inl rfl) (fun b u hb q => (Heap.get?_update_other _ _ (Ne.symm hb)).trans q) ⟨_, e⟩ ?_
  exact ⟨hz, its', n', r, e⟩
def rSetL : V → V → V → Hp → (Hp → Prop) → Prop := fun o i v H Q => ∃ p xs k j, o = .ref p ∧ i = .int k ∧ H p = some (.lst xs) ∧ ixN xs.length k = some j ∧ Q (upd H p (.lst (xs.set j v)))
theorem set_list : PSet X rSetL := by
  intro pins s σ H o i v ov iv u Q I ro ri rv h
  obtain ⟨p, xs, k, j, rfl, rfl, hp, hj, q⟩ := h
  cases ro
  obtain ⟨t, rfl⟩ := ri
  obtain ⟨its, n, r, ho, hz⟩ := I.lst hp
  obtain ⟨h1, h2, h3, h4⟩ := ixN_seq hj
  have hl := r.length
  have hn := line63
  have I' : Inv X pins σ (upd H p (.lst (xs.set j v))) { s with heap := s.heap.update p (Obj.mapSeq (·.setIfInBounds j u)) } :=
    I.lstUpd hp ho (mapSeq_set its n j u) (r.set rv j) (by rw [List.length_set]; exact hz) s.toks
  by_cases h0 : 0 ≤ k
  · have hk : k.toNat = j := by
      rw [seqIndex_of h0 h4] at h1
      exact Option.some.inj h1
    exact PySem.W.ki_setAt ho h0 (by omega) (by rw [List.size_toArray, ← hl]; exact h4) (by rw [hk]; exact ⟨_, I', q⟩)
  · have hk : (k + (its.toArray.size : Int)).toNat = j := by
      rw [seqIndex_neg (by omega) h3] at h1
      rw [List.size_toArray, ← hl]
      exact Option.some.inj h1
    exact PySem.W.ki_setBack ho (by omega) (by rw [List.size_toArray, ← hl]; exact h3) (by omega) (by rw [hk]; exact ⟨_, I', q⟩)

/-! ### slices -/
theorem slice_bounds (lo hi : Option Int) (n : Nat) : (sliceBounds lo hi none n).1 = ((HT.sIx n 0 lo : Nat) : Int) ∧ (sliceBounds lo hi none n).2.1 = ((HT.sIx n n hi : Nat) : Int) ∧ (sliceBounds lo hi none n).2.2 = 1 := by
  refine ⟨?_, ?_, rfl⟩
  · cases lo with
    | none => simp [sliceBounds, HT.sIx]
    | some i =>
      simp only [sliceBounds, HT.sIx, Option.getD_none, show (1 : Int) > 0 by decide, if_true]
      by_cases h : i < 0
      · simp only [h, if_true] <;> omega
      · simp only [h, if_false] <;> omega
  · cases hi with
    | none => simp [sliceBounds, HT.sIx]
    | some i =>
      simp only [sliceBounds, HT.sIx, Option.getD_none, show (1 : Int) > 0 by decide, if_true]
      by_cases h : i < 0
      · simp only [h, if_true] <;> omega
      · simp only [h, if_false] <;> omega
theorem slicePick_cut (its : List Value) (lo hi : Option Int) : slicePick its.toArray lo hi none = ((its.drop (HT.sIx its.length 0 lo)).take (HT.sIx its.length its.length hi - HT.sIx its.length 0 lo)).toArray := by
  obtain ⟨h1, h2, h3⟩ := slice_bounds lo hi its.toArray.size
  unfold slicePick
  rw [h1, h2, h3]
  simp only [sliceRange_one, pick_run, List.size_toArray] <;> rfl
/-- xs[lo:hi] of a list: a new list -/
def rSlL (K : PySem.W.Frag) : V → Option Int → Option Int → Hp → VK → Prop := fun x lo hi H Q => ∃ a xs, x = .ref a ∧ SqL K H a xs ∧ ∀ p, H p = none → Q (.ref p) (upd H p (.lst (cutV xs lo hi)))
theorem sl_list : SlR X (rSlL X.K) := by
  intro pins s σ H x v vl vu lo hi sl Q I rx hs pl pu h
  obtain ⟨a, xs, rfl, hx, q⟩ := h
  cases rx
  obtain ⟨its, r, ht, hz⟩ := I.list hx
  have hlen := r.length
  refine ⟨"list", _, slot_list_getitem.lookup, ht.isList.typeIs, ?_⟩
  refine wpAny_getItem_list_slice ht.isList hs pl pu .none (by simp) ?_ (by rw [List.size_toArray] <;> omega)
  rw [slicePick_cut, ← hlen]
  refine ⟨.ref s.heap.objs.size, _, I.laid (t' := s.toks) (o := .lst (cutV xs lo hi)) (fun b ob q => Heap.get?_push_of_some _ q) (Nat.le_refl _) ?_, rfl, q _ (I.hok.fresh (Nat.le_refl _))⟩
  exact ⟨Nat.le_trans (cutV_length xs lo hi) hz, _, 0, (r.drop (HT.sIx xs.length 0 lo)).take (HT.sIx xs.length xs.length hi - HT.sIx xs.length 0 lo), Heap.get?_push_size _ rfl⟩

/-! ### in, not in: flat items -/
def flatV : V → Bool
  | .non => true
  | .bl _ => true
  | .int _ => true
  | .str _ => true
  | _ => false
/-- == of flat values -/
def eqV : V → V → Bool
  | .non, .non => true
  | .bl a, .bl b => a == b
  | .bl a, .int b => (if a then 1 else 0) == b
  | .int a, .bl b => a == (if b then 1 else 0)
  | .int a, .int b => a == b
  | .str a, .str b => a == b
  | _, _ => false
theorem eqAt_V {A : Around} {s : Shared} {y x : V} {u v : Value} (ry : RelV y u) (rx : RelV x v) (fy : flatV y = true) (fx : flatV x = true) : SeqAt.EqAt A s u v (eqV y x) := by
  cases y with
  | non =>
    cases ry
    cases x with
    | non => cases rx; exact SeqAt.EqAt.same _
    | bl b => cases rx; exact SeqAt.EqAt.none_bool b
    | int b => obtain ⟨t, rfl⟩ := rx; exact SeqAt.EqAt.none_int b t
    | str b => obtain ⟨t, rfl⟩ := rx; exact SeqAt.EqAt.none_str b t
    | _ => exact absurd (show false = true from fx) Bool.false_ne_true
  | bl a =>
    cases ry
    cases x with
    | non => cases rx; exact SeqAt.EqAt.bool_none a
    | bl b => cases rx; exact SeqAt.EqAt.bool_bool a b
    | int b => obtain ⟨t, rfl⟩ := rx; exact SeqAt.EqAt.bool_int a b t
    | str b => obtain ⟨t, rfl⟩ := rx; exact SeqAt.EqAt.bool_str a b t
    | _ => exact absurd (show false = true from fx) Bool.false_ne_true
  | int a =>
    obtain ⟨t', rfl⟩ := ry
    cases x with
    | non => cases rx; exact SeqAt.EqAt.int_none a t'
    | bl b => cases rx; exact SeqAt.EqAt.int_bool a t' b
    | int b => obtain ⟨t, rfl⟩ := rx; exact SeqAt.EqAt.int_int a t' b t
    | str b => obtain ⟨t, rfl⟩ := rx; exact SeqAt.EqAt.int_str a t' b t
    | _ => exact absurd (show false = true from fx) Bool.false_ne_true
  | str a =>
    obtain ⟨t', rfl⟩ := ry
    cases x with
    | non => cases rx; exact SeqAt.EqAt.str_none a t'
    | bl b => cases rx; exact SeqAt.EqAt.str_bool a t' b
    | int b => obtain ⟨t, rfl⟩ := rx; exact SeqAt.EqAt.str_int a t' b t
    | str b => obtain ⟨t, rfl⟩ := rx; exact SeqAt.EqAt.str_str a t' b t
    | _ => exact absurd (show false = true from fx) Bool.false_ne_true
  | _ => exact absurd (show false = true from fy) Bool.false_ne_true
/-- the items' answers, read off the values (a value's own answer does not lean on its token) -/
def eqU (x : V) (u : Value) : Bool := match u with
  | .none => eqV .non x
  | .bool b => eqV (.bl b) x
  | .int i _ => eqV (.int i) x
  | .str z _ => eqV (.str z) x
  | _ => false
theorem eqU_of {x y : V} {u : Value} (r : RelV y u) (f : flatV y = true) : eqU x u = eqV y x := by
  cases y with
  | non => cases r; rfl
  | bl b => cases r; rfl
  | int i => obtain ⟨t, rfl⟩ := r; rfl
  | str z => obtain ⟨t, rfl⟩ := r; rfl
  | _ => exact absurd (show false = true from f) Bool.false_ne_true
theorem mem_eqAt {A : Around} {s : Shared} {x : V} {v : Value} (rx : RelV x v) (fx : flatV x = true) : ∀ {xs : List V} {us : List Value}, Vals xs us → xs.all flatV = true → ∀ u ∈ us, SeqAt.EqAt A s u v (eqU x u)
  | _, _, .nil, _ => fun u hu => by cases hu
  | y :: xs, u :: us, .cons r t, f => fun u' hu => by
    rw [List.all_cons, Bool.and_eq_true] at f
    rcases List.mem_cons.mp hu with rfl | hu
    · rw [eqU_of r f.1]; exact eqAt_V r rx f.1 fx
    · exact mem_eqAt rx fx t f.2 u' hu

/-! ### len, list(x), tuple(x) of any list or tuple that is read -/
theorem call_len_seq : CallR X (.builtin "len") (fun xs H Q => ∃ p ys, xs = [.ref p] ∧ (SqL X.K H p ys ∨ SqT X.K H p ys) ∧ Q (.int ys.length) H) := by
  intro pins s σ H xs us Q I r h
  obtain ⟨p, ys, rfl, hq, q⟩ := h
  obtain ⟨u, rfl, rx⟩ := vals1 r
  cases rx
  have hn := line63
  rcases hq with hq | hq
  · obtain ⟨its, r', pl, hz⟩ := I.list hq
    have hlen := r'.length
    exact Calls.call_len_list pl.isList (by simp only [List.size_toArray] <;> omega) ⟨.int ys.length, H, I.tok _, ⟨s.toks + 1, by rw [List.size_toArray, hlen]⟩, q⟩
  · obtain ⟨its, r', pl, hz⟩ := I.tuple hq
    have hlen := r'.length
    exact len_tuple pl (by simp only [List.size_toArray] <;> omega) ⟨.int ys.length, H, I.tok _, ⟨s.toks + 1, by rw [List.size_toArray, hlen]⟩, q⟩
theorem call_list_of : CallR X (.type "list") (fun xs H Q => ∃ p ys, xs = [.ref p] ∧ (SqL X.K H p ys ∨ SqT X.K H p ys) ∧ ∀ l, H l = none → Q (.ref l) (upd H l (.lst ys))) := by
  intro pins s σ H xs us Q I r h
  obtain ⟨p, ys, rfl, hq, q⟩ := h
  obtain ⟨u, rfl, rx⟩ := vals1 r
  cases rx
  have fin : ∀ (its : List Value), Vals ys its → ys.length ≤ sizeLine → ∀ (h' : Heap) (c' : Nat), (∀ b o', s.heap.get? b = some o' → h'.get? b = some o') →
      h'.get? s.heap.objs.size = some { cls := .type "list", dict := none, data := .seq its.toArray c', slots := #[] } → EP X pins σ Q (.ref s.heap.objs.size) { s with heap := h' } := fun its r' hz h' c' kp e =>
    ⟨.ref s.heap.objs.size, _, I.laid (t' := s.toks) kp (Nat.le_refl _) (show ObjOk X.prog X.w _ h' _ (.lst ys) from ⟨hz, its, c', r', e⟩), rfl, q _ (I.hok.fresh (Nat.le_refl _))⟩
  rcases hq with hq | hq
  · obtain ⟨its, r', pl, hz⟩ := I.list hq
    have hlen := r'.length
    obtain ⟨o, ho, hc, n, hd⟩ := pl.isList
    exact call_list_seq p (.inl rfl) ho hc hd (fun h' c' kp e => fin its r' hz h' c' kp e) (by simp only [List.size_toArray] <;> omega)
  · obtain ⟨its, r', pl, hz⟩ := I.tuple hq
    have hlen := r'.length
    obtain ⟨o, ho, hc, n, hd⟩ := pl
    exact call_list_seq p (.inr rfl) ho hc hd (fun h' c' kp e => fin its r' hz h' c' kp e) (by simp only [List.size_toArray] <;> omega)

/-! ### the call of a builtin's method: o.m(..) -/
/-- the value is of that builtin type -/
def tyV (K : PySem.W.Frag) (T : String) (x : V) (H : Hp) : Prop := match x with
  | .str _ => T = "str"
  | .int _ => T = "int"
  | .ref p => (T = "list" ∧ ∃ xs, SqL K H p xs) ∨ (T = "tuple" ∧ ∃ o, K.lookup p = some o ∧ o.cls = .type "tuple" ∧ o.dict = none) ∨
      (T = "dict" ∧ ((∃ kvs, H p = some (.dK kvs)) ∨ ∃ kvs, H p = some (.dT kvs))) ∨ (T = "set" ∧ ∃ S n, H p = some (.set S n))
  | _ => False
theorem tyV_is {pins : List (Addr × Obj)} {σ : St} {H : Hp} {s : Shared} {T : String} {x : V} {v : Value} (I : Inv X pins σ H s) (r : RelV x v) (ty : tyV X.K T x H) :
    s.TypeIs v T ∧ ∀ a, v = .ref a → ∃ ob, s.heap.get? a = some ob ∧ ob.dict = none := by
  cases x with
  | str z =>
    obtain ⟨t, rfl⟩ := r
    cases (show T = "str" from ty)
    exact ⟨typeIs_str s z t, fun _ e => nomatch e⟩
  | int i =>
    obtain ⟨t, rfl⟩ := r
    cases (show T = "int" from ty)
    exact ⟨typeIs_int s i t, fun _ e => nomatch e⟩
  | ref p =>
    cases r
    rcases ty with ⟨rfl, xs, hq⟩ | ⟨rfl, o, hk, hc, hd⟩ | ⟨rfl, hk⟩ | ⟨rfl, S, n, hk⟩
    · obtain ⟨its, _, pl, _⟩ := I.list hq
      refine ⟨pl.isList.typeIs, fun a e => ?_⟩
      cases e
      obtain ⟨o, n, e, c, hd, _⟩ := pl
      exact ⟨o, e, hd⟩
    · refine ⟨⟨o, I.kIn p o hk, hc⟩, fun a e => ?_⟩
      cases e
      exact ⟨o, I.kIn _ o hk, hd⟩
    · have z : ∃ o, s.heap.get? p = some o ∧ o.ExactDict := by
        rcases hk with ⟨kvs, hk⟩ | ⟨kvs, hk⟩
        · obtain ⟨_, _, _, _, o, _, _, e, ex, _⟩ := I.hok p _ hk
          exact ⟨o, e, ex⟩
        · obtain ⟨_, _, _, _, o, _, _, e, ex, _⟩ := I.hok p _ hk
          exact ⟨o, e, ex⟩
      obtain ⟨o, e, ex⟩ := z
      refine ⟨⟨o, e, ex.1⟩, fun a e2 => ?_⟩
      cases e2
      exact ⟨o, e, ex.2.1⟩
    · obtain ⟨o, _, _, _, e, ex, _⟩ := I.hok p _ hk
      refine ⟨⟨o, e, ex.1⟩, fun a e2 => ?_⟩
      cases e2
      exact ⟨o, e, ex.2.1⟩
  | _ => exact False.elim ty
def tBM (K : PySem.W.Frag) (T : String) (r : V → List V → Hp → VK → Prop) (to : TE) (t : TA) : TE := fun σ H Q => to σ H fun x H1 => tyV K T x H1 ∧ t σ H1 fun xs H2 => r x xs H2 Q
variable {o e : Expr} {es : List Expr} {to : TE} {t : TA} {name : Str} {apos cpos : Pos} {T id : String} {r : V → List V → Hp → VK → Prop}
theorem pe_bm (pa : PlainAttrs T) (slot : Slot T name id) (hty : typeOf (.builtin id) = pure (.type "method_descriptor")) (hm : MtR X id r) (ho : PE X o to) (ha : PA X (e :: es) t)
    (hbase : attributeBase o name X.env (eval o X.env) = eval o X.env := by rfl)
    (hfew : ((backTo cpos (starEach (e :: es) X.env)).all (fun x => !x.1) && (backToKw cpos (keywordEach [] X.env)).all (fun x => x.1.isSome)
      && decide ((e :: es).length + ([] : List Keyword).length + (if ([] : List Keyword).isEmpty then 0 else 1) < 30)) = true := by rfl)
    (hline : (apos.endLine == cpos.line) = true := by rfl) (hs : starEach (e :: es) X.env = (false, eval e X.env) :: starEach es X.env := by rfl) (hplain : (backTo cpos (starEach es X.env)).any (·.1) = false := by rfl) :
    PE X (.Call (.Attribute o name apos) (e :: es) [] cpos) (tBM X.K T r to t) := by
  intro pins s σ H Q I h
  refine wpAny_Call_method_late hbase hfew hline rfl (thn (ho pins s σ H _ I h) fun v s1 ⟨x, H1, I1, r1, ty, q1⟩ => ?_)
  obtain ⟨h1, h2⟩ := tyV_is I1 r1 ty
  refine ⟨T, id, pa, slot, hty, h1, h2, ?_⟩
  have hA := ha cpos pins s1 σ H1 _ I1 q1
  rw [hs] at hA ⊢
  refine Calls.callWith_builtin (by show (false || (backTo cpos (starEach es X.env)).any (·.1)) = false; rw [hplain] <;> rfl) (Calls.evalArgs_plain ?_)
  exact thn hA fun us s2 ⟨vs, H2, I2, r2, q2⟩ => hm pins s2 σ H2 x vs v us Q I2 r1 r2 q2
/- xs.append(e), list.index on a module's tuple .. are MtR facts of 06m -/
end
end L2

namespace L2
open PySem PySem.Spec PyProof.Rows

def MtM (X : Cx) (id : String) (r : V → List V → Hp → VK → Prop) : Prop :=
  ∀ (pins : List (Addr × Obj)) (s : Shared) (σ : St) (H : Hp) (x : V) (xs : List V) (v : Value) (us : List Value) (Q : VK), Inv X pins σ H s → RelV x v → Vals xs us → r x xs H Q →
    wpAny (model X.prog X.w) X.A (call (.builtin id) (v :: us)) (EP X pins σ Q) X.xe s

/-! ### lists of values -/
theorem Vals.one : ∀ {x : V} {us : List Value}, Vals [x] us → ∃ u, us = [u] ∧ RelV x u
  | _, _, .cons r .nil => ⟨_, rfl, r⟩
theorem Vals.rep {xs : List V} {us : List Value} (h : Vals xs us) : ∀ k : Nat, Vals (List.replicate k xs).flatten (List.replicate k us).flatten
  | 0 => .nil
  | k + 1 => by
    rw [List.replicate_succ, List.replicate_succ, List.flatten_cons, List.flatten_cons]
    exact Vals.append h (Vals.rep h k)
theorem foldl_rep (its : List Value) : ∀ (k : Nat) (acc : List Value),
    List.foldl (fun x1 x2 => x1 ++ x2) acc.toArray (List.replicate k its.toArray) = (acc ++ (List.replicate k its).flatten).toArray
  | 0, acc => by simp
  | k + 1, acc => by
    have e : acc.toArray ++ its.toArray = (acc ++ its).toArray := by simp
    have e2 : (acc ++ its) ++ (List.replicate k its).flatten = acc ++ (List.replicate (k + 1) its).flatten := by
      rw [List.replicate_succ, List.flatten_cons, List.append_assoc]
    rw [← e2, ← foldl_rep its k (acc ++ its), ← e, List.replicate_succ, List.foldl_cons]

section
variable {X : Cx} {pins : List (Addr × Obj)} {σ : St} {H : Hp} {s : Shared} {l b : Addr} {xs ys zs : List V}

/-! ### the two steps: a tracked list is rewritten, a new list is laid -/
theorem Inv.lset {its its' : List Value} {n : Nat} {f : Array Value → Array Value} {t' : Nat} (I : Inv X pins σ H s) (hH : H l = some (.lst xs))
    (e : s.heap.get? l = some { cls := .type "list", data := .seq its.toArray n }) (hf : f its.toArray = its'.toArray) (hv : Vals ys its') (hz : ys.length ≤ sizeLine) :
    Inv X pins σ (upd H l (.lst ys)) { s with heap := s.heap.update l (Obj.mapSeq f), toks := t' } := by
  have q := PySem.IsL.update e f
  rw [hf] at q
  refine I.write (x := l) (e := l) (by rw [hH]; exact trivial) (.inl rfl) (fun b' u hb hu => (Heap.get?_update_other s.heap (Obj.mapSeq f) (Ne.symm hb)).trans hu) ⟨_, q⟩ ?_
  exact ⟨hz, its', _, hv, q⟩
theorem Inv.lnew {its : List Value} {t' : Nat} (I : Inv X pins σ H s) (hv : Vals ys its) (hz : ys.length ≤ sizeLine) :
    Inv X pins σ (upd H s.heap.objs.size (.lst ys)) { s with heap := s.heap.push { cls := .type "list", data := .seq its.toArray }, toks := t' } :=
  I.laid (fun _ _ q => Heap.get?_push_of_some _ q) (Nat.le_refl _) ⟨hz, its, 0, hv, Heap.get?_push_size _ rfl⟩
theorem Inv.fresh (I : Inv X pins σ H s) : H s.heap.objs.size = none := I.hok.fresh (Nat.le_refl _)
theorem Inv.lstM (I : Inv X pins σ H s) (hH : H l = some (.lst xs)) : xs.length ≤ sizeLine ∧ ∃ (its : List Value) (n : Nat), Vals xs its ∧ xs.length = its.length ∧ s.heap.get? l = some { cls := .type "list", data := .seq its.toArray n } := by
  obtain ⟨z, its, n, r, e⟩ := I.hok l _ hH
  exact ⟨z, its, n, r, r.length, e⟩

theorem notLongL {n : Nat} (h : n ≤ sizeLine) : Builtin.List.listTooLong n = false := by
  unfold Builtin.List.listTooLong
  exact decide_eq_false (by omega)
end

section
variable {X : Cx}

/-! ### methods -/
def rAppend : V → List V → Hp → VK → Prop := fun x vs H Q => ∃ l xs y, x = .ref l ∧ vs = [y] ∧ H l = some (.lst xs) ∧ xs.length < sizeLine ∧ Q .non (upd H l (.lst (xs ++ [y])))
theorem mt_append : MtM X "list.append" rAppend := by
  intro pins s σ H x vs v us Q I rx rv h
  obtain ⟨l, xs, y, rfl, rfl, hH, hz, q⟩ := h
  cases rx
  obtain ⟨u, rfl, ru⟩ := rv.one
  obtain ⟨z, its, n, r, hl, e⟩ := I.lstM hH
  refine call_meets F.slot_list_append ⟨_, e, rfl⟩ F.entry_list_append (F.args_list_append_2 _ _) (PySem.list_append l its.toArray n u (by rw [List.size_toArray]; omega)) ⟨e, ?_⟩
  refine ⟨.non, _, I.lset (its' := its ++ [u]) hH e (by simp) (r.append (.cons ru .nil)) ?_, rfl, q⟩
  rw [List.length_append, List.length_singleton]
  omega

def rExtend : V → List V → Hp → VK → Prop := fun x vs H Q => ∃ l b xs zs, x = .ref l ∧ vs = [.ref b] ∧ H l = some (.lst xs) ∧ H b = some (.lst zs) ∧ xs.length + zs.length ≤ sizeLine ∧ Q .non (upd H l (.lst (xs ++ zs)))
theorem mt_extend : MtM X "list.extend" rExtend := by
  intro pins s σ H x vs v us Q I rx rv h
  obtain ⟨l, b, xs, zs, rfl, rfl, hH, hB, hz, q⟩ := h
  cases rx
  obtain ⟨u, rfl, ru⟩ := rv.one
  cases ru
  obtain ⟨z, its, n, r, hl, e⟩ := I.lstM hH
  obtain ⟨z2, its2, n2, r2, hl2, e2⟩ := I.lstM hB
  have hsz : its.toArray.size + its2.toArray.size ≤ sizeLine := by rw [List.size_toArray, List.size_toArray]; omega
  have hlong : ¬ (!its.toArray.isEmpty && Builtin.List.listTooLong (its.toArray.size + its2.toArray.size)) = true := by
    rw [notLongL hsz, Bool.and_false]
    exact Bool.false_ne_true
  refine call_meets F.slot_list_extend ⟨_, e, rfl⟩ F.entry_list_extend (F.args_list_extend_2 _ _)
    (AutoSeq1.list_extend_list_list_0 l its.toArray n b its2.toArray n2 hlong (by rw [List.size_toArray]; omega) (by omega)) ⟨e, e2, ?_⟩
  refine ⟨.non, _, I.lset (its' := its ++ its2) hH e (by simp) (r.append r2) ?_, rfl, q⟩
  rw [List.length_append]
  omega

/-! ### list + list, list += list, list * int -/
def rCat : R2 := fun x y H Q => ∃ l b xs zs, x = .ref l ∧ y = .ref b ∧ H l = some (.lst xs) ∧ H b = some (.lst zs) ∧ xs.length + zs.length ≤ sizeLine ∧ ∀ p, H p = none → Q (.ref p) (upd H p (.lst (xs ++ zs)))
theorem op_cat : OpR X (binaryOp .Add) rCat := by
  intro pins s σ H x y v u Q I rx ry h
  obtain ⟨l, b, xs, zs, rfl, rfl, hH, hB, hz, q⟩ := h
  cases rx
  cases ry
  obtain ⟨z, its, n, r, hl, e⟩ := I.lstM hH
  obtain ⟨z2, its2, n2, r2, hl2, e2⟩ := I.lstM hB
  refine PySem.P.add_list e e2 ?_ (by rw [List.size_toArray, List.size_toArray]; omega)
  have ea : its.toArray ++ its2.toArray = (its ++ its2).toArray := by simp
  rw [ea]
  exact ⟨.ref _, _, I.lnew (t' := s.toks) (r.append r2) (by rw [List.length_append]; omega), rfl, q _ I.fresh⟩
/-- a list times an int (a negative one is nothing) -/
def rRep : R2 := fun x y H Q => ∃ l k xs, x = .ref l ∧ y = .int k ∧ H l = some (.lst xs) ∧ -(2 ^ 63) ≤ k ∧ k < 2 ^ 63 ∧ xs.length * k.toNat ≤ sizeLine ∧
  ∀ p, H p = none → Q (.ref p) (upd H p (.lst (List.replicate k.toNat xs).flatten))
theorem len_rep {α : Type} (xs : List α) (k : Nat) : (List.replicate k xs).flatten.length = k * xs.length := by
  induction k with
  | zero => simp
  | succ k ih => rw [List.replicate_succ, List.flatten_cons, List.length_append, ih, Nat.succ_mul, Nat.add_comm]
theorem op_rep : OpR X (binaryOp .Mult) rRep := by
  intro pins s σ H x y v u Q I rx ry h
  obtain ⟨l, k, xs, rfl, rfl, hH, h1, h2, hz, q⟩ := h
  cases rx
  obtain ⟨t, rfl⟩ := ry
  obtain ⟨z, its, n, r, hl, e⟩ := I.lstM hH
  have hlen : its.toArray.size * k.toNat ≤ sizeLine := by rw [List.size_toArray, ← hl]; exact hz
  have hcap : ¬ its.toArray.size * k.toNat > (2 ^ 63 - 1) / 8 := by
    have : (sizeLine : Nat) ≤ (2 ^ 63 - 1) / 8 := by decide
    omega
  have hfit : ¬ (!Builtin.List.listFitsIndex k) = true := by
    rw [fitsIndex_both h1 h2]
    exact Bool.false_ne_true
  have hlong : ¬ Builtin.List.listTooLong (its.toArray.size * k.toNat) = true := by
    rw [notLongL hlen]
    exact Bool.false_ne_true
  have hnew : List.foldl (fun x1 x2 => x1 ++ x2) #[] (List.replicate (if its.toArray.isEmpty = true then 0 else k.toNat) its.toArray) = (List.replicate k.toNat its).flatten.toArray := by
    have f0 : ∀ m : Nat, List.foldl (fun x1 x2 => x1 ++ x2) #[] (List.replicate m its.toArray) = (List.replicate m its).flatten.toArray := fun m => by
      have := foldl_rep its m []
      rw [List.nil_append] at this
      exact this
    rw [f0]
    cases its with
    | nil => simp
    | cons a r' => rw [if_neg (by simp)]
  refine wpAny_binaryOp_repeat_ref (T := "list") (U := "int") (by decide) ⟨_, e, rfl⟩ (fun s' => typeIs_int s' k t) noFill_list_mul F.fills_int_mul F.slot_int_rmul repeat_list F.slot_int_index.lookup
    (call_meets F.slot_int_rmul (typeIs_int s k t) F.entry_int_rmul (F.args_int_rmul_2 _ _) (int___rmul___int_list k t l its.toArray n)
      ⟨e, rfl, ⟨_, e, rfl⟩, call_meets F.slot_list_mul ⟨_, e, rfl⟩ F.entry_list_mul (F.args_list_mul_2 _ _) (AutoListH.list___mul___list_int_3 l its.toArray n k t hfit hcap hlong) ⟨e, ?_⟩⟩)
  rw [hnew]
  exact ⟨.ref _, _, I.lnew (t' := s.toks) (r.rep k.toNat) (by rw [len_rep, Nat.mul_comm]; exact hz), rfl, q _ I.fresh⟩

/-! ### del xs[i] -/
end

/-! ### xs[a:b] = ys -/
section
variable {prog : Program} {w : World} {A : Around} {E : Value → Shared → Prop} {s : Shared}
set_option maxRecDepth 100000 in
end

end L2

namespace L2
open PySem PySem.Spec PyProof.Rows

theorem Vals.ints : ∀ {ns : List Int} {us : List Value}, Vals (ns.map V.int) us → IntsAre us ns
  | [], us, h => by
    rw [List.map_nil] at h
    cases h
    exact IntsAre.nil
  | n :: ns, us, h => by
    rw [List.map_cons] at h
    cases h with
    | cons r t =>
      obtain ⟨k, rfl⟩ := r
      exact IntsAre.cons n k (Vals.ints t)
theorem Vals.ref1 {a : Addr} {us : List Value} (r : Vals [V.ref a] us) : us = [Value.ref a] := by
  cases r with
  | cons r t =>
    cases t
    cases r
    rfl

/-! ### the library's walks over a list of ints, kept objects alone -/
section
variable {prog : Program} {w : World} {A : Around} {E : Value → Shared → Prop} {s : Shared} {l : Addr} {its : List Value} {ns : List Int} {Q : Value → Shared → Prop}
theorem sum_raw (hh : A.handled = none) (hl : s.heap.IsList l its.toArray) (hi : IntsAre its ns)
    (h : ∀ h' tk t', (∀ b o, s.heap.get? b = some o → h'.get? b = some o) → Q (.int ns.sum t') { s with heap := h', toks := tk }) : wpAny (model prog w) A (call (.builtin "sum") [.ref l]) Q E s := by
  obtain ⟨xs, e⟩ := hi.allInts.items
  have hn : numsOf (intItems xs).toList = ns := by rw [← e]; exact hi.numsOf
  rw [nums_intItems] at hn
  rw [e] at hl
  refine PySem.sum_intListG hh hl fun h' tk t' hk => ?_
  have := h h' tk t' hk
  rw [preSum_eq, List.take_of_length_le (by simp), hn]; exact this
theorem max_raw (hh : A.handled = none) (hl : s.heap.IsList l its.toArray) (hi : IntsAre its ns) (hne : 0 < ns.length)
    (h : ∀ h' tk M t', (∀ b o, s.heap.get? b = some o → h'.get? b = some o) → M ∈ ns → (∀ a, a ∈ ns → a ≤ M) → Q (.int M t') { s with heap := h', toks := tk }) : wpAny (model prog w) A (call (.builtin "max") [.ref l]) Q E s := by
  obtain ⟨xs, e⟩ := hi.allInts.items
  have hn : numsOf (intItems xs).toList = ns := by rw [← e]; exact hi.numsOf
  rw [nums_intItems] at hn
  subst hn
  rw [e] at hl
  have hsz : 0 < xs.size := by simpa using hne
  refine PySem.max_intList hh hl hsz fun v h' tk hv hk => ?_
  obtain ⟨t, rfl⟩ := intItems_at hv
  obtain ⟨h1, h2⟩ := argBest_gt (numAt xs) (xs.size - 1)
  refine h h' tk _ t hk ?_ fun a ha => ?_
  · rw [numAt_eq]; exact PySem.getD_mem (by rw [List.length_map, Array.length_toList]; omega)
  · obtain ⟨j, hj, rfl⟩ := mem_getD ha
    rw [List.length_map, Array.length_toList] at hj
    rw [← numAt_eq]; exact h2 j (by omega)
theorem min_raw (hh : A.handled = none) (hl : s.heap.IsList l its.toArray) (hi : IntsAre its ns) (hne : 0 < ns.length)
    (h : ∀ h' tk M t', (∀ b o, s.heap.get? b = some o → h'.get? b = some o) → M ∈ ns → (∀ a, a ∈ ns → M ≤ a) → Q (.int M t') { s with heap := h', toks := tk }) : wpAny (model prog w) A (call (.builtin "min") [.ref l]) Q E s := by
  obtain ⟨xs, e⟩ := hi.allInts.items
  have hn : numsOf (intItems xs).toList = ns := by rw [← e]; exact hi.numsOf
  rw [nums_intItems] at hn
  subst hn
  rw [e] at hl
  have hsz : 0 < xs.size := by simpa using hne
  refine PySem.min_intList hh hl hsz fun v h' tk hv hk => ?_
  obtain ⟨t, rfl⟩ := intItems_at hv
  obtain ⟨h1, h2⟩ := argBest_lt (numAt xs) (xs.size - 1)
  refine h h' tk _ t hk ?_ fun a ha => ?_
  · rw [numAt_eq]; exact PySem.getD_mem (by rw [List.length_map, Array.length_toList]; omega)
  · obtain ⟨j, hj, rfl⟩ := mem_getD ha
    rw [List.length_map, Array.length_toList] at hj
    rw [← numAt_eq]; exact h2 j (by omega)
end

/-! ### the calls, by values (CallR of 03t; MtR of 06l) -/
section
variable {X : Cx}
/-- sum(xs) of a list of ints -/
def rSum (K : PySem.W.Frag) : List V → Hp → VK → Prop := fun vs H Q => ∃ (a : Addr) (ns : List Int), vs = [V.ref a] ∧ SqL K H a (ns.map V.int) ∧ Q (.int ns.sum) H
/-- max(xs), min(xs) of a list of ints -/
def rMax (K : PySem.W.Frag) : List V → Hp → VK → Prop := fun vs H Q => ∃ (a : Addr) (ns : List Int), vs = [V.ref a] ∧ SqL K H a (ns.map V.int) ∧ 0 < ns.length ∧ ∀ m, m ∈ ns → (∀ y, y ∈ ns → y ≤ m) → Q (.int m) H
def rMin (K : PySem.W.Frag) : List V → Hp → VK → Prop := fun vs H Q => ∃ (a : Addr) (ns : List Int), vs = [V.ref a] ∧ SqL K H a (ns.map V.int) ∧ 0 < ns.length ∧ ∀ m, m ∈ ns → (∀ y, y ∈ ns → m ≤ y) → Q (.int m) H
theorem cr_sum (hc : X.calm = true) : CallR X (.builtin "sum") (rSum X.K) := by
  intro pins s σ H vs us Q I r h
  obtain ⟨a, ns, rfl, hs, q⟩ := h
  obtain ⟨its, rv, hl, _⟩ := I.list hs
  rw [Vals.ref1 r]
  exact sum_raw (I.ok.hd hc) hl.isList rv.ints fun h' tk t' hk => ⟨.int _, H, I.kept hk, ⟨_, rfl⟩, q⟩
theorem cr_max (hc : X.calm = true) : CallR X (.builtin "max") (rMax X.K) := by
  intro pins s σ H vs us Q I r h
  obtain ⟨a, ns, rfl, hs, hne, q⟩ := h
  obtain ⟨its, rv, hl, _⟩ := I.list hs
  rw [Vals.ref1 r]
  exact max_raw (I.ok.hd hc) hl.isList rv.ints hne fun h' tk m t' hk h1 h2 => ⟨.int _, H, I.kept hk, ⟨_, rfl⟩, q m h1 h2⟩
theorem cr_min (hc : X.calm = true) : CallR X (.builtin "min") (rMin X.K) := by
  intro pins s σ H vs us Q I r h
  obtain ⟨a, ns, rfl, hs, hne, q⟩ := h
  obtain ⟨its, rv, hl, _⟩ := I.list hs
  rw [Vals.ref1 r]
  exact min_raw (I.ok.hd hc) hl.isList rv.ints hne fun h' tk m t' hk h1 h2 => ⟨.int _, H, I.kept hk, ⟨_, rfl⟩, q m h1 h2⟩

/-! sorted, sort (fewer than 64 items: the library's own bound) -/
end

/-! ### list.index, flat items -/
section
variable {X : Cx}
def rIndex (K : PySem.W.Frag) : V → List V → Hp → VK → Prop := fun x xs H Q => ∃ (a : Addr) (ys : List V) (y : V) (j : Nat) (z : V), x = V.ref a ∧ xs = [y] ∧ SqL K H a ys ∧ flatV y = true ∧ ys.all flatV = true ∧ ys[j]? = some z ∧ eqV z y = true ∧
  (∀ (m : Nat) (z' : V), m < j → ys[m]? = some z' → eqV z' y = false) ∧ Q (.int (j : Nat)) H
theorem flat_at {ys : List V} (f : ys.all flatV = true) {j : Nat} {z : V} (h : ys[j]? = some z) : flatV z = true := List.all_eq_true.mp f z (List.mem_of_getElem? h)
theorem mt_index : MtR X "list.index" (rIndex X.K) := by
  intro pins s σ H x xs v us Q I rx rxs h
  obtain ⟨a, ys, y, j, z, rfl, rfl, hs, fy, fys, hz, hzj, hno, q⟩ := h
  cases rx
  cases rxs with
  | cons ry rt =>
    rename_i uy ut
    cases rt
    obtain ⟨its, rv, ⟨⟨cls, dd, data, sl⟩, n, ho, hc, hdn, hd⟩, hlen⟩ := I.list hs
    simp only at hc hd
    subst hc hd
    obtain ⟨u, hu, ru⟩ := rv.get hz
    obtain ⟨hjl, hje⟩ := List.getElem?_eq_some_iff.mp hu
    have hvl := rv.length
    have hj : j < its.toArray.size := by simpa using hjl
    have hsl := sizeLine_eq
    refine call_meets PySem.F.slot_list_index ⟨_, ho, rfl⟩ PySem.F.entry_list_index (PySem.F.args_list_index_2 _ _)
      (SeqAt.list_indexAt a its.toArray n dd sl uy (eqU y) j hj (by omega) ?_ ?_) ⟨ho, fun u' hu' => mem_eqAt ry fy rv fys u' (by simpa using hu'), ?_⟩
    · have e1 : its.toArray[j] = u := by simpa using hje
      rw [e1, eqU_of ru (flat_at fys hz)]
      exact hzj
    · intro m hm hmj
      have hml : m < its.length := by simpa using hm
      have hmy : m < ys.length := by omega
      have hy' : ys[m]? = some ys[m] := List.getElem?_eq_getElem hmy
      obtain ⟨u2, hu2, ru2⟩ := rv.get hy'
      obtain ⟨_, hme⟩ := List.getElem?_eq_some_iff.mp hu2
      have e1 : its.toArray[m] = u2 := by simpa using hme
      rw [e1, eqU_of ru2 (flat_at fys hy')]
      exact hno m _ hmj hy'
    · exact ⟨.int (j : Nat), H, I.tok _, ⟨_, rfl⟩, q⟩
end

/-! ### type(x) of an own instance; is, is not of a module's class -/

/-! ### any(xs), all(xs) of a list of bools -/

/-! ### == and != of data at any depth: none, bools, ints, texts, lists, tuples -/
section
variable {X : Cx}
end
end L2

namespace L2
open PySem PySem.Spec PyProof.Rows
abbrev CellAt (h : Heap) (c : Addr) (v : Option Value) : Prop := h.IsCell c v
def relS (scope sc : Scope) : Scope :=
  { scope with names := scope.names.map fun (n, k) => if (k == .free && sc.kind == .function && sc.names.lookup n == some .cell) then (n, .cell) else (n, k) }

def cloFrom (cells : List (Str × Addr)) : List (Str × NameKind) → List (Str × Addr) → List (Str × Addr)
  | [], acc => acc
  | (n, k) :: r, acc => if k == .free then cloFrom cells r ((n, (cells.lookup n).getD 0) :: acc) else cloFrom cells r acc

theorem closure_loop (env : Env) (f : Str × NameKind → List (Str × Addr) → Sem (ForInStep (List (Str × Addr))))
    (hf : ∀ n k c, f (n, k) c = if k == .free then (do let a ← cellOf env n; pure (.yield ((n, a) :: c))) else pure (.yield c)) :
    ∀ (names : List (Str × NameKind)) (acc : List (Str × Addr)), (∀ y ∈ names, y.2 = .free → ∃ c, env.cells.lookup y.1 = some c) → forIn names acc f = pure (cloFrom env.cells names acc)
  | [], acc, _ => by rw [List.forIn_nil]; rfl
  | (n, k) :: r, acc, h => by
    rw [List.forIn_cons, hf]
    have ih := fun acc => closure_loop env f hf r acc fun y hy => h y (List.mem_cons_of_mem _ hy)
    unfold cloFrom
    by_cases hk : (k == NameKind.free) = true
    · rw [if_pos hk, if_pos hk]
      obtain ⟨c, hc⟩ := h (n, k) List.mem_cons_self (by simpa using hk)
      have e : cellOf env n = pure c := by unfold cellOf; rw [hc]
      rw [e]
      have e2 : (env.cells.lookup n).getD 0 = c := by rw [hc]; rfl
      rw [e2]
      exact ih _
    · rw [if_neg hk, if_neg hk]
      exact ih _
theorem closure_ok {scope : Scope} {env : Env} (h : ∀ y ∈ scope.names, y.2 = .free → ∃ c, env.cells.lookup y.1 = some c) : closureFor scope env = pure (cloFrom env.cells scope.names []) := by
  simp only [closureFor]
  rw [closure_loop env _ (fun n k c => rfl) scope.names [] h]
  rfl

theorem mem_lookup {α : Type} : ∀ {l : List (Str × α)} {n : Str} {c : α}, (n, c) ∈ l → ∃ c', l.lookup n = some c'
  | (k, v) :: r, n, c, h => by
    rw [List.lookup_cons]
    cases hb : n == k with
    | true => exact ⟨_, rfl⟩
    | false =>
      rcases List.mem_cons.mp h with e | h
      · cases e; simp at hb
      · exact mem_lookup h

theorem cloFrom_mem {cells : List (Str × Addr)} : ∀ {names : List (Str × NameKind)} {acc : List (Str × Addr)} {n : Str} {c : Addr}, (n, c) ∈ cloFrom cells names acc → (n, c) ∈ acc ∨ ((n, .free) ∈ names ∧ c = (cells.lookup n).getD 0)
  | [], _, _, _, h => .inl h
  | (m, k) :: r, acc, n, c, h => by
    unfold cloFrom at h
    split at h
    · rename_i hk
      have hk : k = .free := by simpa using hk
      rcases cloFrom_mem h with h | ⟨h1, h2⟩
      · rcases List.mem_cons.mp h with e | h
        · cases e; exact .inr ⟨hk ▸ List.mem_cons_self, rfl⟩
        · exact .inl h
      · exact .inr ⟨List.mem_cons_of_mem _ h1, h2⟩
    · rcases cloFrom_mem h with h | ⟨h1, h2⟩
      · exact .inl h
      · exact .inr ⟨List.mem_cons_of_mem _ h1, h2⟩
theorem cloFrom_acc {cells : List (Str × Addr)} : ∀ {names : List (Str × NameKind)} {acc : List (Str × Addr)} {p : Str × Addr}, p ∈ acc → p ∈ cloFrom cells names acc
  | [], _, _, h => h
  | (m, k) :: r, acc, p, h => by
    unfold cloFrom
    split
    · exact cloFrom_acc (List.mem_cons_of_mem _ h)
    · exact cloFrom_acc h
theorem cloFrom_has {cells : List (Str × Addr)} : ∀ {names : List (Str × NameKind)} {acc : List (Str × Addr)} {n : Str}, (n, .free) ∈ names → (n, (cells.lookup n).getD 0) ∈ cloFrom cells names acc
  | (m, k) :: r, acc, n, h => by
    unfold cloFrom
    rcases List.mem_cons.mp h with e | h
    · cases e
      exact cloFrom_acc List.mem_cons_self
    · split
      · exact cloFrom_has h
      · exact cloFrom_has h

theorem cells_mem : ∀ {names : List (Str × NameKind)} {h : Heap} {acc : List (Str × Addr)} {x : Str} {c : Addr}, (x, c) ∈ cellsFrom h.objs.size names acc →
    (x, c) ∈ acc ∨ ((x, .cell) ∈ names ∧ h.objs.size ≤ c ∧ CellAt (pushCells h names) c none)
  | [], _, _, _, _, h => .inl h
  | (n, k) :: r, h, acc, x, c, hm => by
    unfold cellsFrom at hm
    unfold pushCells
    split at hm
    · rename_i hk
      rw [if_pos hk]
      have hk : k = .cell := by simpa using hk
      rw [← Heap.size_push h { cls := .type "cell", data := .cell none }] at hm
      rcases cells_mem hm with hm | ⟨h1, h2, h3⟩
      · rcases List.mem_cons.mp hm with e | hm
        · cases e
          exact .inr ⟨hk ▸ List.mem_cons_self, Nat.le_refl _, _, pushCells_keeps r _ _ _ (Heap.get?_push_size _ rfl), rfl⟩
        · exact .inl hm
      · rw [Heap.size_push] at h2
        exact .inr ⟨List.mem_cons_of_mem _ h1, Nat.le_of_succ_le h2, h3⟩
    · rename_i hk
      rw [if_neg hk]
      rcases cells_mem hm with hm | ⟨h1, h2, h3⟩
      · exact .inl hm
      · exact .inr ⟨List.mem_cons_of_mem _ h1, h2, h3⟩
theorem cells_acc : ∀ {names : List (Str × NameKind)} {n : Nat} {acc : List (Str × Addr)} {p : Str × Addr}, p ∈ acc → p ∈ cellsFrom n names acc
  | [], _, _, _, h => h
  | (m, k) :: r, n, acc, p, h => by
    unfold cellsFrom
    split
    · exact cells_acc (List.mem_cons_of_mem _ h)
    · exact cells_acc h
theorem cells_has : ∀ {names : List (Str × NameKind)} {n : Nat} {acc : List (Str × Addr)} {x : Str}, (x, .cell) ∈ names → ∃ c, (x, c) ∈ cellsFrom n names acc
  | (m, k) :: r, n, acc, x, h => by
    unfold cellsFrom
    rcases List.mem_cons.mp h with e | h
    · cases e
      exact ⟨n, cells_acc List.mem_cons_self⟩
    · split
      · exact cells_has h
      · exact cells_has h
theorem cells_inj : ∀ {names : List (Str × NameKind)} {h : Heap} {acc : List (Str × Addr)} {x y : Str} {c : Addr}, (∀ p ∈ acc, p.2 < h.objs.size) → (∀ x y c, (x, c) ∈ acc → (y, c) ∈ acc → x = y) →
    (x, c) ∈ cellsFrom h.objs.size names acc → (y, c) ∈ cellsFrom h.objs.size names acc → x = y
  | [], _, _, _, _, _, _, hi, h1, h2 => hi _ _ _ h1 h2
  | (n, k) :: r, h, acc, x, y, c, hl, hi, h1, h2 => by
    unfold cellsFrom at h1 h2
    split at h1
    · rename_i hk
      rw [if_pos hk] at h2
      rw [← Heap.size_push h { cls := .type "cell", data := .cell none }] at h1 h2
      refine cells_inj (h := h.push _) (fun p hp => ?_) (fun x y c a b => ?_) h1 h2
      · rw [Heap.size_push]
        rcases List.mem_cons.mp hp with rfl | hp
        · exact Nat.lt_succ_self _
        · exact Nat.lt_succ_of_lt (hl p hp)
      · rcases List.mem_cons.mp a with e | a <;> rcases List.mem_cons.mp b with e' | b
        · cases e; cases e'; rfl
        · cases e; exact absurd (hl _ b) (Nat.lt_irrefl _)
        · cases e'; exact absurd (hl _ a) (Nat.lt_irrefl _)
        · exact hi _ _ _ a b
    · rename_i hk
      rw [if_neg hk] at h2
      exact cells_inj hl hi h1 h2

theorem newEnv_comp {M : Model} {A : Around} {E : Value → Shared → Prop} {s : Shared} {scope : Scope} {globals : Addr} {closure : List (Str × Addr)} {qual : Str} {func : Option Addr} {code : Value} {around : Env} {builtins : Addr} {Q : Env → Shared → Prop}
    (h : Q (newEnv scope s.heap.objs.size globals (cellsFrom (s.heap.objs.size + 1) scope.names closure) qual func code (some around) builtins)
      { s with heap := pushCells (s.heap.push { cls := .type "dict", data := .dict #[] }) scope.names }) :
    wpAny M A (newFunctionEnv scope globals closure [] qual func code (some around) builtins) Q E s := by
  simp only [newFunctionEnv, Option.isSome_some, if_true]
  refine wpAny_bind (wpAny_alloc ?_)
  refine wpAny_bind (wpAny_layCells _ (fun n k c => rfl) scope.names closure _ _ ?_)
  rw [show ({ s with heap := s.heap.push { cls := .type "dict", data := .dict #[] } } : Shared).heap.objs.size = s.heap.objs.size + 1 from Heap.size_push ..]
  rw [List.forIn_nil]
  exact wpAny_bind (wpAny_pure (wpAny_pure h))

/-- every name of the written scope, in the scope that runs -/
theorem lookup_relS {sc : Scope} : ∀ {names : List (Str × NameKind)} {x : Str} {k : NameKind},
    (names.map fun (n, k) => if (k == NameKind.free && sc.kind == .function && sc.names.lookup n == some .cell) then (n, NameKind.cell) else (n, k)).lookup x = some k →
    ∃ k', names.lookup x = some k' ∧ (k = k' ∨ (k' = .free ∧ k = .cell))
  | [], _, _, h => by simp at h
  | (n, k₀) :: r, x, k, h => by
    have ih := @lookup_relS sc r x k
    have h' : List.lookup x ((if (k₀ == NameKind.free && sc.kind == .function && sc.names.lookup n == some .cell) = true then (n, NameKind.cell) else (n, k₀)) :: (r.map _)) = some k := h
    cases hx : x == n with
    | true =>
      simp only [List.lookup_cons, hx]
      by_cases hc : (k₀ == NameKind.free && sc.kind == .function && sc.names.lookup n == some .cell) = true
      · rw [if_pos hc] at h'
        simp only [List.lookup_cons, hx] at h'
        cases h'
        simp only [Bool.and_eq_true, beq_iff_eq] at hc
        exact ⟨k₀, rfl, .inr ⟨hc.1.1, rfl⟩⟩
      · rw [if_neg hc] at h'
        simp only [List.lookup_cons, hx] at h'
        cases h'
        exact ⟨_, rfl, .inl rfl⟩
    | false =>
      simp only [List.lookup_cons, hx]
      by_cases hc : (k₀ == NameKind.free && sc.kind == .function && sc.names.lookup n == some .cell) = true
      · rw [if_pos hc] at h'
        simp only [List.lookup_cons, hx] at h'
        exact ih h'
      · rw [if_neg hc] at h'
        simp only [List.lookup_cons, hx] at h'
        exact ih h'

/-- the names of a comprehension's block: its own (with their places in N), or captured -/
structure BlkOk (N : List Str) (sc scope : Scope) (own : List (Str × Nat)) : Prop where
  kind : scope.kind = .function
  uniq : ∀ y ∈ scope.names, scope.names.lookup y.1 = some y.2
  ix : ∀ p ∈ own, N[p.2]? = some p.1
  free : ∀ y ∈ scope.names, y.2 = .free → sc.names.lookup y.1 = some .cell ∨ sc.names.lookup y.1 = some .free
  own : ∀ y ∈ scope.names, y.2 = .local ∨ y.2 = .cell → y.1 ∈ own.map (·.1) ∨ y.1 ∉ N
/-- the slots of the block's own names forgotten -/
def wipe (σ : St) : List Nat → St
  | [] => σ
  | v :: vs => (wipe σ vs).set v none
theorem wipe_length (σ : St) : ∀ vs : List Nat, (wipe σ vs).length = σ.length
  | [] => rfl
  | v :: vs => by unfold wipe; rw [List.length_set, wipe_length σ vs]
theorem wipe_some {σ : St} {i : Nat} {x : V} : ∀ {vs : List Nat}, (wipe σ vs)[i]? = some (some x) → σ[i]? = some (some x) ∧ i ∉ vs
  | [], h => ⟨h, by simp⟩
  | v :: vs, h => by
    unfold wipe at h
    by_cases hi : v = i
    · subst hi
      by_cases hv : v < (wipe σ vs).length
      · rw [List.getElem?_set_self hv] at h; cases h
      · rw [List.getElem?_eq_none (by simpa using hv)] at h; cases h
    · rw [List.getElem?_set_ne hi] at h
      obtain ⟨h1, h2⟩ := wipe_some h
      exact ⟨h1, by simp only [List.mem_cons, not_or]; exact ⟨fun e => hi e.symm, h2⟩⟩

/-- the context of a block that starts at s, its iterator's objects at fp -/
abbrev Cx.blk (X : Cx) (s : Shared) (H : Hp) (scope : Scope) (cenv : Env) (fp : List Addr) : Cx := { X with s_0 := s, H_0 := H, env := cenv, outer := X.stack, ex := fp, fn := fun x => scope.names.lookup x == some .cell, pn := [], xe := fun _ _ => False }
section
variable {X : Cx} {pins : List (Addr × Obj)} {σ : St} {H : Hp} {s : Shared}
theorem block_start {scope : Scope} {own : List (Str × Nat)} {fp : List Addr} (I : Inv X pins σ H s) (ok : BlkOk X.N X.env.scope scope own) (hN : X.N.Nodup) (hfp : ∀ b ∈ fp, FpOk X pins H b ∧ b < s.heap.objs.size) :
    Inv (X.blk s H scope (compEnvC scope (cellsFrom (s.heap.objs.size + 1) scope.names (cloFrom X.env.cells scope.names [])) s.heap.objs.size X.env) fp) [] (wipe σ (own.map (·.2))) H { s with heap := pushCells (s.heap.push { cls := .type "dict", data := .dict #[] }) scope.names } := by
  have hfree : ∀ y ∈ scope.names, y.2 = .free → ∃ c, X.env.cells.lookup y.1 = some c := fun y hy e => by
    rcases ok.free y hy e with k | k
    · exact I.ok.has _ (.inl k)
    · exact I.ok.has _ (.inr k)
  generalize hcenv : compEnvC scope (cellsFrom (s.heap.objs.size + 1) scope.names (cloFrom X.env.cells scope.names [])) s.heap.objs.size X.env = cenv
  have kp : ∀ b o, s.heap.get? b = some o → (pushCells (s.heap.push { cls := .type "dict", data := .dict #[] }) scope.names).get? b = some o := fun b o e => pushCells_keeps _ _ _ _ (Heap.get?_push_of_some _ e)
  have hL : cenv.locals = s.heap.objs.size := by rw [← hcenv]; rfl
  have hcl : cenv.cells = cellsFrom (s.heap.objs.size + 1) scope.names (cloFrom X.env.cells scope.names []) := by rw [← hcenv]; rfl
  have hsc : cenv.scope = relS scope X.env.scope := by rw [← hcenv]; rfl
  rw [← Heap.size_push s.heap { cls := .type "dict", data := .dict #[] }] at hcl
  have cm : ∀ {y c}, (y, c) ∈ cloFrom X.env.cells scope.names [] → X.env.cells.lookup y = some c ∧ c < s.heap.objs.size := fun {y c} hm => by
    rcases cloFrom_mem hm with hm | ⟨h1, rfl⟩
    · cases hm
    · obtain ⟨c, hc⟩ := hfree _ h1 rfl
      rw [hc]
      obtain ⟨w, z⟩ := I.cell _ _ hc
      exact ⟨rfl, z.lt⟩
  have mem : ∀ {y c}, cenv.cells.lookup y = some c → (X.env.cells.lookup y = some c ∧ c < s.heap.objs.size) ∨ (s.heap.objs.size + 1 ≤ c ∧ CellAt (pushCells (s.heap.push { cls := .type "dict", data := .dict #[] }) scope.names) c none) := fun {y c} e => by
    rw [hcl] at e
    rcases cells_mem (PySem.mem_of_lookup e) with hm | ⟨_, h2, h3⟩
    · exact .inl (cm hm)
    · rw [Heap.size_push] at h2; exact .inr ⟨h2, h3⟩
  have look : ∀ {y}, scope.names.lookup y = some .free → ∃ c, cenv.cells.lookup y = some c ∧ X.env.cells.lookup y = some c := fun {y} hl => by
    have hy : (y, NameKind.free) ∈ scope.names := PySem.mem_of_lookup hl
    obtain ⟨c', e'⟩ := mem_lookup (cells_acc (names := scope.names) (n := (s.heap.push { cls := .type "dict", data := .dict #[] }).objs.size) (cloFrom_has (cells := X.env.cells) (acc := []) hy))
    rw [← hcl] at e'
    refine ⟨c', e', ?_⟩
    rw [hcl] at e'
    rcases cells_mem (PySem.mem_of_lookup e') with hm | ⟨h1, _, _⟩
    · exact (cm hm).1
    · have := ok.uniq _ h1
      rw [hl] at this; cases this
  have okB : (X.blk s H scope cenv fp).Ok := by
    refine ⟨I.ok.mod, by show cenv.scope.kind = _; rw [hsc]; exact ok.kind, by show cenv.globals = _; rw [← hcenv]; exact I.ok.glob, by show cenv.builtins = _; rw [← hcenv]; exact I.ok.blt, by show s.heap.objs.size ≤ cenv.locals; rw [hL]; exact Nat.le_refl _,
      fun y z c e1 e2 => ?_, fun y hy => ?_, fun y c z e => ?_, I.ok.hd, I.ok.frames, .inl rfl, fun b hb => ⟨?_, fun y c e z => ?_⟩, I.bs, Nat.le_trans I.ok.bsz I.sz, fun b o e hb => ?_, fun b hb z => ?_, I.stack, I.stkFree⟩
    · have e1 : cenv.cells.lookup y = some c := e1
      have e2 : cenv.cells.lookup z = some c := e2
      rw [hcl] at e1 e2
      refine cells_inj (fun p hp => ?_) (fun y z c a b => I.ok.inj y z c (cm a).1 (cm b).1) (PySem.mem_of_lookup e1) (PySem.mem_of_lookup e2)
      rw [Heap.size_push]
      exact Nat.lt_succ_of_lt (cm (y := p.1) (c := p.2) hp).2
    · show ∃ c, cenv.cells.lookup y = some c
      have key : ∀ k, cenv.kindOf y = some k → (k = .cell ∨ k = .free) → ∃ c, cenv.cells.lookup y = some c := fun k hk hk' => by
        unfold Env.kindOf at hk
        rw [hsc] at hk
        obtain ⟨k', e, r⟩ := lookup_relS hk
        have : k' = .cell ∨ k' = .free := by
          rcases r with rfl | ⟨rfl, _⟩
          · exact hk'
          · exact .inr rfl
        rcases this with rfl | rfl
        · obtain ⟨c, hm⟩ := cells_has (n := (s.heap.push { cls := .type "dict", data := .dict #[] }).objs.size) (acc := cloFrom X.env.cells scope.names []) (PySem.mem_of_lookup e)
          obtain ⟨c', e'⟩ := mem_lookup hm
          exact ⟨c', by rw [hcl]; exact e'⟩
        · obtain ⟨c, h1, _⟩ := look e
          exact ⟨c, h1⟩
      rcases hy with hy | hy
      · exact key _ hy (.inl rfl)
      · exact key _ hy (.inr rfl)
    · have z : (scope.names.lookup y == some NameKind.cell) = true := z
      have z : scope.names.lookup y = some .cell := by simpa using z
      have e : cenv.cells.lookup y = some c := e
      rw [hcl] at e
      rcases cells_mem (PySem.mem_of_lookup e) with hm | ⟨_, h2, _⟩
      · rcases cloFrom_mem hm with hm | ⟨h1, _⟩
        · cases hm
        · have q := ok.uniq _ h1
          rw [z] at q; cases q
      · rw [Heap.size_push] at h2
        exact Nat.le_of_succ_le h2
    · show b ≠ cenv.locals
      rw [hL]; exact Nat.ne_of_lt (hfp b hb).2
    · have e : cenv.cells.lookup y = some c := e
      rcases mem e with ⟨h1, _⟩ | ⟨h1, _⟩
      · exact (hfp b hb).1.2.2.2.2.1 y c h1 z
      · have h2 : s.heap.objs.size + 1 ≤ b := by rw [← z]; exact h1
        exact absurd (Nat.lt_of_lt_of_le (hfp b hb).2 (Nat.le_of_succ_le h2)) (Nat.lt_irrefl _)
    · rcases (hfp b hb).1.2.2.2.1 with z | z
      · exact I.ok.noex b o e z
      · exact absurd (Nat.lt_of_lt_of_le (Heap.lt_size e) (Nat.le_trans I.ok.bsz z)) (Nat.lt_irrefl _)
    · rcases List.mem_cons.mp (I.stkSub b z) with z | z
      · exact (hfp b hb).1.2.1 z
      · exact (hfp b hb).1.2.2.1 z
  refine ⟨okB, rfl, I.bare, Un.kept kp, ⟨fun _ => none, ?_, fun i y av e1 e2 e3 => ?_⟩, fun y c e => ?_, ?_, fun y c e => ?_, fun p hp => ?_, I.hok.kept kp, by rw [wipe_length]; exact I.len⟩
  · show Heap.Ns _ cenv.locals _
    rw [hL]
    exact Heap.Ns.keeps (Heap.Ns.new ..) fun b o e => pushCells_keeps _ _ _ _ e
  · obtain ⟨e2, hne⟩ := wipe_some e2
    have hfr : scope.names.lookup y = some .free ∧ (cenv.kindOf y = some .cell ∨ cenv.kindOf y = some .free) := by
      have key : ∀ k, cenv.scope.names.lookup y = some k → k = .local ∨ k = .cell ∨ k = .free → scope.names.lookup y = some .free ∧ (cenv.kindOf y = some .cell ∨ cenv.kindOf y = some .free) := fun k hk hk' => by
        have hk0 := hk
        rw [hsc] at hk
        obtain ⟨k', e, r⟩ := lookup_relS hk
        have no : ¬ (k' = .local ∨ k' = .cell) := fun hh => by
          rcases ok.own _ (PySem.mem_of_lookup e) hh with e' | e'
          · obtain ⟨p, hp, hpy⟩ := List.mem_map.mp e'
            have e3 := ok.ix p hp
            have : p.1 = y := hpy
            rw [this] at e3
            exact hne (List.mem_map.mpr ⟨p, hp, nodup_ix hN e3 e1⟩)
          · exact e' (List.mem_of_getElem? e1)
        rcases r with rfl | ⟨rfl, rfl⟩
        · rcases hk' with rfl | rfl | rfl
          · exact absurd (.inl rfl) no
          · exact absurd (.inr rfl) no
          · exact ⟨e, .inr hk0⟩
        · exact ⟨e, .inl hk0⟩
      have e3 : Vis cenv.scope y := e3
      rcases e3 with e3 | e3 | e3
      · exact key _ e3 (.inl rfl)
      · exact key _ e3 (.inr (.inl rfl))
      · exact key _ e3 (.inr (.inr rfl))
    obtain ⟨m, hn, hl⟩ := I.loc
    have hvis : Vis X.env.scope y := (ok.free _ (PySem.mem_of_lookup hfr.1) rfl).elim (fun k => .inr (.inl k)) (fun k => .inr (.inr k))
    obtain ⟨w, r, q⟩ := hl i y av e1 e2 hvis
    refine ⟨w, r, .inr ⟨hfr.2, ?_⟩⟩
    obtain ⟨c, h1, h2⟩ := look hfr.1
    rcases q with ⟨k, _⟩ | ⟨_, c', e', z⟩
    · have k : X.env.scope.names.lookup y = some .local := k
      rcases ok.free _ (PySem.mem_of_lookup hfr.1) rfl with k' | k' <;> rw [show X.env.scope.names.lookup y = _ from k'] at k <;> cases k
    · rw [h2] at e'; cases e'
      exact ⟨c, h1, z.keeps kp⟩
  · have e : cenv.cells.lookup y = some c := e
    rcases mem e with ⟨h1, _⟩ | ⟨_, z⟩
    · obtain ⟨w, z⟩ := I.cell y c h1
      exact ⟨w, z.keeps kp⟩
    · exact ⟨_, z⟩
  · show H cenv.locals = none
    rw [hL]; exact I.hok.fresh (Nat.le_refl _)
  · have e : cenv.cells.lookup y = some c := e
    rcases mem e with ⟨h1, _⟩ | ⟨h1, _⟩
    · exact I.freeC y c h1
    · exact I.hok.fresh (Nat.le_of_succ_le h1)
  · exact absurd (show p ∈ ([] : List (Addr × Obj)) ++ [] from hp) (by simp)

/-- an item appended to a tracked list -/
theorem app_ok {E : Value → Shared → Prop} {D : Addr} {xs : List V} {y : V} {v : Value} {Q : Value → Shared → Prop} (I : Inv X pins σ H s) (hD : H D = some (.lst xs)) (hz : xs.length < sizeLine) (r : RelV y v)
    (h : ∀ s', Inv X pins σ (upd H D (.lst (xs ++ [y]))) s' → Q .none s') : wpAny (model X.prog X.w) X.A (call (.builtin "list.append") [.ref D, v]) Q E s := by
  obtain ⟨hz', its, n, ri, e⟩ := I.hok D _ hD
  have hl := ri.length
  refine append_at (hsz := by rw [List.size_toArray]; omega) e fun h' sb ho' => ?_
  refine h { s with heap := h' } (I.write (t' := s.toks) (by rw [hD]; trivial) (.inl rfl) (fun b u hb q => (sb.2 b hb).trans q) ⟨_, ho'⟩ ⟨by rw [List.length_append]; exact hz, its ++ [v], n + 1, ri.append (.cons r .nil), ?_⟩)
  rw [ho']
  simp

/-- a clause's tests -/
def PTs (X : Cx) (ifs : List Expr) (t : TT) : Prop :=
  ∀ (pins : List (Addr × Obj)) (s : Shared) (σ : St) (H : Hp) (Q : Bool → Hp → Prop), Inv X pins σ H s → t σ H Q →
    wpAny (model X.prog X.w) X.A (forIn ifs true fun c r => if r = true then do let ok ← isTrue c X.env (eval c X.env); pure (ForInStep.yield ok) else pure (ForInStep.yield r)) (TP X pins σ Q) X.xe s
def tYes : TT := fun _ H Q => Q true H
theorem pts_nil : PTs X [] tYes := fun _ _ _ H _ I h => wpAny_tests_nil ⟨H, I, h⟩
theorem pts_one {c : Expr} {t : TT} (h : PT X c t) : PTs X [c] t := fun pins s σ H Q I hw => wpAny_tests_one (h pins s σ H Q I hw)
end

theorem thnF {α : Type} {t : Sem α} {Q Q' : α → Shared → Prop} {M : Model} {A : Around} {E : Value → Shared → Prop} {s : Shared} (h : wpAny M A t Q (fun _ _ => False) s) (hQ : ∀ a s, Q a s → Q' a s) : wpAny M A t Q' E s := wpAny_mono h hQ fun _ _ z => False.elim z

/-- the loop of a list comprehension's block, the target of any form (codeAny_compLoop_tests asks a target that no tuple goes to; statement and proof follow it, PyProof/CompMap.lean:41-61, with the step letOwnedTupleGo kept) -/
theorem compLoop_any {prog : Program} {w : World} {A : Around} {R : Result → Shared → Prop} {s : Shared} {elt target iter : Expr} {ifs : List Expr} {scope : Scope} {pos : Pos} {it acc : Value} {env : Env} (I : Nat → Shared → Prop)
    (turn : ∀ n s, I n s → wpAny (model prog w) A (pyNext it) (fun r s₁ => match r with
      | none => R (.ok .next) s₁
      | some v => wpAny (model prog w) A (letOwnedTupleGo target it v) (fun _ s₁' => wpAny (model prog w) A (assign target env v) (fun _ s₂ =>
          wpAny (model prog w) A (forIn ifs true fun c r => if r = true then do let ok ← isTrue c env (eval c env); pure (ForInStep.yield ok) else pure (ForInStep.yield r)) (fun ok s₃ =>
            if ok = true then wpAny (model prog w) A (eval elt env) (fun x s₄ =>
              wpAny (model prog w) A (call (.builtin "list.append") [acc, x]) (fun _ s₅ => ∃ m, m < n ∧ I m s₅) (notedBy (model prog w) A env fun e s' => R (.error e) s') s₄) (notedBy (model prog w) A env fun e s' => R (.error e) s') s₃
            else ∃ m, m < n ∧ I m s₃) (notedBy (model prog w) A env fun e s' => R (.error e) s') s₂) (notedBy (model prog w) A env fun e s' => R (.error e) s') s₁') (notedBy (model prog w) A env fun e s' => R (.error e) s') s₁) (notedBy (model prog w) A env fun e s' => R (.error e) s') s)
    (n : Nat) (h : I n s) :
    codeAny (model prog w) A (.compLoop (.ListComp elt [⟨target, iter, ifs, 0⟩] scope pos) 0 it acc env) R s := by
  refine codeAny_loop rfl I (fun n s hI => ?_) n h
  show wpAny _ A ((compTurn (.ListComp elt [⟨target, iter, ifs, 0⟩] scope pos) 0 it acc env).onRaise (fun x => do noteFrame x env; theTreesLotGoes x)) _ _ s
  refine wpAny_noted ?_
  rw [compTurn_list]
  refine wpAny_bind (wpAny_standAt (wpAny_bind (wpAny_mono (turn n s hI) (fun r s₁ h₁ => ?_) fun _ _ h' => h')))
  cases r with
  | none => exact wpAny_pure h₁
  | some v =>
    refine wpAny_bind (wpAny_mono h₁ (fun _ s₁' h₁' => ?_) fun _ _ h' => h')
    refine wpAny_bind (wpAny_mono h₁' (fun _ s₂ h₂ => wpAny_bind (wpAny_mono h₂ (fun ok s₃ h₃ => ?_) fun _ _ h' => h')) fun _ _ h' => h')
    cases ok with
    | false => exact wpAny_pure ⟨rfl, h₃⟩
    | true =>
      exact wpAny_bind (wpAny_bind (wpAny_mono h₃ (fun x s₄ h₄ => wpAny_bind (wpAny_mono h₄ (fun _ s₅ h₅ => wpAny_pure (wpAny_pure ⟨rfl, h₅⟩)) fun _ _ h' => h')) fun _ _ h' => h'))

section
variable {X : Cx}
/-- [elt for target in iter if ..]: D the new list; W by the turn and a measure, Nx what a turn is to reach -/
def tLc (wi : TI) (g : TG) (tt : TT) (te : TE) (vs : List Nat) : TE := fun σ H Q => wi σ H fun J H1 => ∀ D, H1 D = none → ∃ W : Nat → Nat → Hp → Prop, (∃ m, W 0 m (upd H1 D (.lst []))) ∧ ∀ i m H, W i m H →
  (J.stop i H ∧ Q (.ref D) H) ∨ (J.go i H ∧ ∃ Nx : Hp → Prop, (∀ H', Nx H' → ∃ m', m' < m ∧ W (i + 1) m' H') ∧ ∀ x H', J.yld i H x H' → g x (wipe σ vs) H' fun σ2 H2 => wipe σ2 vs = wipe σ vs ∧ tt σ2 H2 fun b H3 =>
    if b = true then te σ2 H3 fun y H4 => ∃ acc, H4 D = some (.lst acc) ∧ acc.length < sizeLine ∧ Nx (upd H4 D (.lst (acc ++ [y]))) else Nx H3)
theorem lc_core {pins : List (Addr × Obj)} {s : Shared} {σ : St} {H : Hp} {Q : VK} {elt tg iter : Expr} {ifs : List Expr} {scope : Scope} {own : List (Str × Nat)} {pos pos' : Pos} {wi : TI} {g : TG} {tt : TT} {te : TE} {use : Option (Value → Sem Unit)} {Qf : Value → Shared → Prop}
    (hc : X.calm = true) (hN : X.N.Nodup) (I : Inv X pins σ H s) (hi : PI X tg iter wi) (ok : BlkOk X.N X.env.scope scope own)
    (hg : ∀ (s : Shared) (H : Hp) (C : Addr) (cl : List (Str × Addr)) (fp : List Addr), PG (X.blk s H scope (compEnvC scope cl C X.env) fp) tg g) (ht : ∀ (s : Shared) (H : Hp) (C : Addr) (cl : List (Str × Addr)) (fp : List Addr), PTs (X.blk s H scope (compEnvC scope cl C X.env) fp) ifs tt)
    (he : ∀ (s : Shared) (H : Hp) (C : Addr) (cl : List (Str × Addr)) (fp : List Addr), PE (X.blk s H scope (compEnvC scope cl C X.env) fp) elt te) (hs : ∀ x, foldedSetIterable iter X.env x = pure x)
    (h : tLc wi g tt te (own.map (·.2)) σ H Q)
    (hRR : ∀ D C s' m H', Inv X pins σ H' s' → Q (.ref D) H' → s'.heap.Ns C m → FpOk X pins H' C → compPost (model X.prog X.w) X.A X.xe use Qf (.ref D) C (.ok .next) s') :
    wpAny (model X.prog X.w) X.A (comprehension (.ListComp elt [⟨tg, iter, ifs, 0⟩] scope pos) scope X.env pos' (newList []) false (eval iter X.env) use) Qf X.xe s := by
  have hfree : ∀ y ∈ scope.names, y.2 = .free → ∃ c, X.env.cells.lookup y.1 = some c := fun y hy e => by
    rcases ok.free y hy e with k | k
    · exact I.ok.has _ (.inl k)
    · exact I.ok.has _ (.inr k)
  refine wpAny_comprehension_free (use := use) rfl hs (closure_ok hfree) ok.kind (fun y hy e => by rw [ok.uniq y hy, e])
    (thn (hi pins s σ H _ I h) fun xv s1 hx => thn hx fun itv s2 h2 => ?_)
  obtain ⟨it, fp, tn, J, H2, e, I2, T, st2, f2, q⟩ := h2
  subst e
  refine wpAny_newObj_type (newEnv_comp ?_) (by show 0 ≤ sizeLine; decide)
  generalize hD : s2.heap.objs.size = D
  have hDn : H2 D = none := I2.hok.fresh (Nat.le_of_eq hD)
  obtain ⟨W, ⟨m0, w0⟩, turn⟩ := q D hDn
  -- the new list
  generalize hs3 : ({ s2 with heap := s2.heap.push { cls := .type "list", data := .seq ([] : List Value).toArray } } : Shared) = s3
  have I3 : Inv X pins σ (upd H2 D (.lst [])) s3 := by
    rw [← hs3]
    refine I2.laid (t' := s2.toks) (fun b o e => Heap.get?_push_of_some _ e) (Nat.le_of_eq hD) ⟨Nat.zero_le _, [], 0, .nil, ?_⟩
    rw [← hD]
    exact Heap.get?_push_size _ rfl
  have h3 : s3.heap = s2.heap.push { cls := .type "list", data := .seq ([] : List Value).toArray } := by rw [← hs3]
  have sz : ∀ b ∈ fp, b < s2.heap.objs.size := fun b hb => by
    obtain ⟨o, e, _⟩ := T.obj _ _ st2 b hb
    exact Heap.lt_size e
  have f3 : ∀ b ∈ fp, FpOk X pins (upd H2 D (.lst [])) b ∧ b < s3.heap.objs.size := fun b hb => by
    have hlt := sz b hb
    refine ⟨⟨?_, (f2 b hb).2⟩, by rw [h3, Heap.size_push]; exact Nat.lt_succ_of_lt hlt⟩
    rw [upd_ne (by rw [← hD]; exact Nat.ne_of_lt hlt)]
    exact (f2 b hb).1
  have st3 : tn 0 s3.heap := T.keep _ _ _ st2 fun b _ o e => by rw [h3]; exact Heap.get?_push_of_some _ e
  have I4 := block_start I3 ok hN f3
  have pg := hg s3 (upd H2 D (.lst [])) s3.heap.objs.size (cellsFrom (s3.heap.objs.size + 1) scope.names (cloFrom X.env.cells scope.names [])) fp
  have pt := ht s3 (upd H2 D (.lst [])) s3.heap.objs.size (cellsFrom (s3.heap.objs.size + 1) scope.names (cloFrom X.env.cells scope.names [])) fp
  have pe := he s3 (upd H2 D (.lst [])) s3.heap.objs.size (cellsFrom (s3.heap.objs.size + 1) scope.names (cloFrom X.env.cells scope.names [])) fp
  show codeAny _ _ (.compStart (.ListComp elt [⟨tg, iter, ifs, 0⟩] scope pos) 0 (.ref it) (.ref D) (compEnvC scope (cellsFrom (s3.heap.objs.size + 1) scope.names (cloFrom X.env.cells scope.names [])) s3.heap.objs.size X.env)) (compPost (model X.prog X.w) X.A X.xe use Qf (.ref D) s3.heap.objs.size) { s3 with heap := pushCells (s3.heap.push { cls := .type "dict", data := .dict #[] }) scope.names }
  have nfp : ∀ b ∈ fp, (upd H2 D (.lst [])) b = none := fun b hb => (f3 b hb).1.1
  generalize hce : compEnvC scope (cellsFrom (s3.heap.objs.size + 1) scope.names (cloFrom X.env.cells scope.names [])) s3.heap.objs.size X.env = ce at I4 pg pt pe ⊢
  have cL : ce.locals = s3.heap.objs.size := by subst hce; rfl
  generalize hH3 : upd H2 D (.lst []) = H3 at I3 I4 pg pt pe w0 nfp f3
  generalize hs4 : ({ s3 with heap := pushCells (s3.heap.push { cls := .type "dict", data := .dict #[] }) scope.names } : Shared) = s4 at I4 ⊢
  have st4 : tn 0 s4.heap := T.keep _ _ _ st3 fun b _ o e => by rw [← hs4]; exact pushCells_keeps _ _ _ _ (Heap.get?_push_of_some _ e)
  have stat : ∀ {σ' : St} {H' : Hp} {s' : Shared}, Inv (X.blk s3 H3 scope ce fp) [] σ' H' s' → (∀ b ∈ fp, H' b = none) → ∀ b ∈ fp, FpOk (X.blk s3 H3 scope ce fp) [] H' b := fun {σ' H' s'} I' hn b hb =>
    ⟨hn b hb, (I'.ok.exf b hb).1, I'.ok.exfs b hb, .inl hb, fun x c e => (I'.ok.exf b hb).2 x c e, fun p hp => absurd (show p ∈ ([] : List (Addr × Obj)) ++ [] from hp) (by simp)⟩
  have loop : codeAny (model X.prog X.w) X.A (.compLoop (.ListComp elt [⟨tg, iter, ifs, 0⟩] scope pos) 0 (.ref it) (.ref D) ce) (compPost (model X.prog X.w) X.A X.xe use Qf (.ref D) s3.heap.objs.size) s4 := by
    refine compLoop_any (fun n s' => ∃ i H', Inv (X.blk s3 H3 scope ce fp) [] (wipe σ (own.map (·.2))) H' s' ∧ tn i s'.heap ∧ (∀ b ∈ fp, H' b = none) ∧ W i n H') ?_ m0 ⟨0, H3, I4, st4, nfp, w0⟩
    rintro n s5 ⟨i, H5, I5, st5, n5, w5⟩
    rcases turn i n H5 w5 with ⟨stop, qq⟩ | ⟨go, Nx, hNx, step⟩
    · have td := T.done (X.blk s3 H3 scope ce fp) rfl rfl rfl hc i [] s5 _ H5 (fun _ _ => False) I5 (stat I5 n5) st5 stop
      refine thnF td fun r s6 ⟨hr, I6⟩ => ?_
      subst hr
      -- back in the def's context
      have I7 : Inv X pins σ H5 s6 := I3.call' (ch := fp) I6.os I6.base I6.hok I6.bare fun b hb => ⟨(f3 b hb).1.2.2.2.1, (f3 b hb).1.2.1, (f3 b hb).1.2.2.2.2.1, (f3 b hb).1.2.2.2.2.2⟩
      have nC : H5 s3.heap.objs.size = none := by
        have z : H5 ce.locals = none := I6.free
        rw [cL] at z
        exact z
      obtain ⟨m, hn, _⟩ := I6.loc
      have hn : s6.heap.Ns ce.locals m := hn
      rw [cL] at hn
      exact hRR D s3.heap.objs.size s6 m H5 I7 qq hn (I3.fpOk (Nat.le_refl _) nC)
    · have ti := T.item (X.blk s3 H3 scope ce fp) rfl rfl rfl hc i [] s5 _ H5 (fun _ _ => False) I5 (stat I5 n5) st5 go
      refine thnF ti fun r s6 ⟨u, hr, h6⟩ => ?_
      subst hr
      refine thnF h6 fun _ s7 ⟨x, H7, I7, r7, y7, st7, n7⟩ => ?_
      have I7' := I7.pinned (stat I7 n7) (T.obj _ _ st7)
      refine thnF (pg _ s7 _ H7 x u _ I7' r7 (step x H7 y7)) fun _ s8 ⟨σ8, H8, I8, hw8, q8⟩ => ?_
      refine thnF (pt _ s8 σ8 H8 _ I8 q8) fun b s9 ⟨H9, I9, q9⟩ => ?_
      -- the turn's end
      have fin : ∀ {s' : Shared} {H' : Hp}, Inv (X.blk s3 H3 scope ce fp) ([] ++ pinsAt fp s7.heap) σ8 H' s' → Nx H' → ∃ m, m < n ∧ ∃ i H', Inv (X.blk s3 H3 scope ce fp) [] (wipe σ (own.map (·.2))) H' s' ∧ tn i s'.heap ∧ (∀ b ∈ fp, H' b = none) ∧ W i m H' := fun {s' H'} I' nx => by
        obtain ⟨m', hm, w'⟩ := hNx H' nx
        have pin' : ∀ b ∈ fp, ∀ o, s7.heap.get? b = some o → s'.heap.get? b = some o ∧ H' b = none := fun b hb o e =>
          let z := I'.pin (b, o) (List.mem_append_right _ (List.mem_append_right _ (mem_pinsAt hb e)))
          ⟨z.1, z.2.1⟩
        have hl : (wipe σ (own.map (·.2))).length = σ8.length := by rw [← hw8, wipe_length]
        refine ⟨m', hm, i + 1, H', (I'.unpinned (pins := [])).weak hl (fun j v e => ?_), T.keep _ _ _ st7 fun b hb o e => (pin' b hb o e).1, fun b hb => ?_, w'⟩
        · rw [← hw8] at e
          exact (wipe_some e).1
        · obtain ⟨o, e, _⟩ := T.obj _ _ st7 b hb
          exact (pin' b hb o e).2
      cases b with
      | false =>
        simp only [Bool.false_eq_true, if_false] at q9 ⊢
        exact fin I9 q9
      | true =>
        simp only [if_true] at q9 ⊢
        refine thnF (pe _ s9 σ8 H9 _ I9 q9) fun z s10 ⟨yv, H10, I10, r10, acc, hD10, hz10, nx⟩ => ?_
        exact app_ok (X := X.blk s3 H3 scope ce fp) I10 hD10 hz10 r10 fun s11 I11 => fin I11 nx
  exact codeAny_compStart_list loop (T.self X.A 0 _ _ _ st4 loop)
/-- as a value -/
theorem pe_lc {elt tg iter : Expr} {ifs : List Expr} {scope : Scope} {own : List (Str × Nat)} {pos : Pos} {wi : TI} {g : TG} {tt : TT} {te : TE} (hc : X.calm = true) (hN : X.N.Nodup) (hi : PI X tg iter wi) (ok : BlkOk X.N X.env.scope scope own)
    (hg : ∀ (s : Shared) (H : Hp) (C : Addr) (cl : List (Str × Addr)) (fp : List Addr), PG (X.blk s H scope (compEnvC scope cl C X.env) fp) tg g) (ht : ∀ (s : Shared) (H : Hp) (C : Addr) (cl : List (Str × Addr)) (fp : List Addr), PTs (X.blk s H scope (compEnvC scope cl C X.env) fp) ifs tt)
    (he : ∀ (s : Shared) (H : Hp) (C : Addr) (cl : List (Str × Addr)) (fp : List Addr), PE (X.blk s H scope (compEnvC scope cl C X.env) fp) elt te) (hs : ∀ x, foldedSetIterable iter X.env x = pure x := by intro _; rfl) :
    PE X (.ListComp elt [⟨tg, iter, ifs, 0⟩] scope pos) (tLc wi g tt te (own.map (·.2))) := by
  intro pins s σ H Q I h
  rw [eval_ListComp]
  refine lc_core hc hN I hi ok hg ht he hs h fun D C s' m H' I' q hn f => ⟨m, hn, fun h'' sb => ?_⟩
  obtain ⟨f0, f1, f2, f3, f4, f5⟩ := f
  exact ⟨.ref D, H', I'.turned (t' := s'.toks) (fun b o hb e => (sb.2 b hb).trans e) f0 f1 f3 f4 f5, rfl, q⟩
/-- name = [..] on one line, the name a local -/
theorem ps_setLc {i : Nat} {y : Str} {py : Pos} {elt tg iter : Expr} {ifs : List Expr} {scope : Scope} {own : List (Str × Nat)} {pos spos : Pos} {wi : TI} {g : TG} {tt : TT} {te : TE} (hc : X.calm = true) (hN : X.N.Nodup) (hy : X.N[i]? = some y) (hyl : X.env.scope.names.lookup y = some .local)
    (hsw : swapsWith (.ListComp elt [⟨tg, iter, ifs, 0⟩] scope pos) (some (.Name y py)) spos.line X.env = pure true) (hi : PI X tg iter wi) (ok : BlkOk X.N X.env.scope scope own)
    (hg : ∀ (s : Shared) (H : Hp) (C : Addr) (cl : List (Str × Addr)) (fp : List Addr), PG (X.blk s H scope (compEnvC scope cl C X.env) fp) tg g) (ht : ∀ (s : Shared) (H : Hp) (C : Addr) (cl : List (Str × Addr)) (fp : List Addr), PTs (X.blk s H scope (compEnvC scope cl C X.env) fp) ifs tt)
    (he : ∀ (s : Shared) (H : Hp) (C : Addr) (cl : List (Str × Addr)) (fp : List Addr), PE (X.blk s H scope (compEnvC scope cl C X.env) fp) elt te) (hs : ∀ x, foldedSetIterable iter X.env x = pure x := by intro _; rfl) :
    PS X (.Assign [.Name y py] (.ListComp elt [⟨tg, iter, ifs, 0⟩] scope pos) spos) (tAsg (tLc wi g tt te (own.map (·.2))) (gName i)) := by
  intro pins s σ H D I h
  rw [exec_Assign_Name_used _ _ _ _ hsw]
  refine wpAny_bind (wpAny_standAt (wpAny_bind ?_))
  show wpAny _ X.A (do let _ ← comprehension (.ListComp elt [⟨tg, iter, ifs, 0⟩] scope pos) scope X.env (firstIterPos [⟨tg, iter, ifs, 0⟩] pos) (newList []) false (eval iter X.env) (some (assign (.Name y py) X.env))) _ _ s
  have h : tLc wi g tt te (own.map (·.2)) σ H (fun x H1 => gName i x σ H1 D.nx) := h
  refine wpAny_bind (thn (lc_core (Qf := fun _ s' => SP X pins D .next s') hc hN I hi ok hg ht he hs h fun L C s' m H' I' q hn f => ?_) fun _ s' hq => wpAny_pure (wpAny_pure hq))
  show wpAny _ _ (assign (.Name y py) X.env (.ref L)) _ _ _
  refine wpAny_assign_Name (store_ok2 (v := V.ref L) I' hN hy (.inl hyl) rfl (fun s2 I2 ⟨a, sb, ha⟩ => ?_) (.inr hyl))
  obtain ⟨f0, f1, f2, f3, f4, f5⟩ := f
  have haC : C ≠ a := by
    rcases ha with z | z
    · rw [z]; exact f1
    · exact fun e => f4 y a z e.symm
  refine ⟨m, hn.sameBut sb haC, fun h3 sb3 => ?_⟩
  exact ⟨_, H', I2.turned (t' := s2.toks) (fun b o hb e => (sb3.2 b hb).trans e) f0 f1 f3 f4 f5, q⟩
theorem sw_true {elt : Expr} {gs : List Comprehension} {scope : Scope} {pos py : Pos} {y : Str} {l : Nat} {env : Env} (hk : env.scope.kind = .function) (hy : env.scope.names.lookup y = some .local) (hl : (py.line == pos.line) = true)
    (ha : (scope.names.any fun (n, k) => n == y && (k == .local || k == .cell)) = false) : swapsWith (.ListComp elt gs scope pos) (some (.Name y py)) l env = pure true := by
  have ky : env.kindOf y = some .local := hy
  have hb : env.blockKind = .function := by unfold Env.blockKind; rw [hk]; rfl
  unfold swapsWith
  simp only [hb, ky, ha, Expr.pos, hl]
  rfl
end

/-! ### the forms one uses -/
/-- over a list that the block leaves as it is -/
theorem lc_list {K : PySem.W.Frag} {a : Addr} {xs : List V} {g : TG} {tt : TT} {te : TE} {vs : List Nat} {σ : St} {H1 : Hp} {D : Addr} {Qd : Hp → Prop} (Pv : Nat → Hp → Prop) (h0 : Pv 0 (upd H1 D (.lst []))) (hl : ∀ i H, i ≤ xs.length → Pv i H → SqL K H a xs)
    (hs : ∀ i x H, xs[i]? = some x → Pv i H → g x (wipe σ vs) H fun σ2 H2 => wipe σ2 vs = wipe σ vs ∧ tt σ2 H2 fun b H3 =>
      if b = true then te σ2 H3 fun y H4 => ∃ acc, H4 D = some (.lst acc) ∧ acc.length < sizeLine ∧ Pv (i + 1) (upd H4 D (.lst (acc ++ [y]))) else Pv (i + 1) H3) (hd : ∀ H, Pv xs.length H → Qd H) :
    ∃ W : Nat → Nat → Hp → Prop, (∃ m, W 0 m (upd H1 D (.lst []))) ∧ ∀ i m H, W i m H →
      ((Itl K a).stop i H ∧ Qd H) ∨ ((Itl K a).go i H ∧ ∃ Nx : Hp → Prop, (∀ H', Nx H' → ∃ m', m' < m ∧ W (i + 1) m' H') ∧ ∀ x H', (Itl K a).yld i H x H' → g x (wipe σ vs) H' fun σ2 H2 => wipe σ2 vs = wipe σ vs ∧ tt σ2 H2 fun b H3 =>
        if b = true then te σ2 H3 fun y H4 => ∃ acc, H4 D = some (.lst acc) ∧ acc.length < sizeLine ∧ Nx (upd H4 D (.lst (acc ++ [y]))) else Nx H3) := by
  refine ⟨fun i m H => m = xs.length - i ∧ i ≤ xs.length ∧ Pv i H, ⟨xs.length, by simp, Nat.zero_le _, h0⟩, ?_⟩
  rintro i m H ⟨rfl, hi, p⟩
  have q := hl i H hi p
  by_cases hlt : i < xs.length
  · refine .inr ⟨⟨xs, xs[i], q, by simp [hlt]⟩, Pv (i + 1), fun H' p' => ⟨xs.length - (i + 1), by omega, rfl, hlt, p'⟩, fun x H' y => ?_⟩
    obtain ⟨e, y⟩ := y
    subst e
    exact hs i x _ (y xs q) p
  · have e : i = xs.length := by omega
    subst e
    exact .inl ⟨⟨xs, q, Nat.le_refl _⟩, hd H p⟩
def blkC (N : List Str) (sc scope : Scope) (own : List (Str × Nat)) : Bool :=
  (match scope.kind with | .function => true | _ => false) && (scope.names.all fun y => decide (scope.names.lookup y.1 = some y.2)) && (own.all fun p => decide (N[p.2]? = some p.1)) &&
    (scope.names.all fun y => match y.2 with
      | .free => (match sc.names.lookup y.1 with | some .cell => true | some .free => true | _ => false)
      | .local => decide (y.1 ∈ own.map (·.1)) || decide (y.1 ∉ N)
      | .cell => decide (y.1 ∈ own.map (·.1)) || decide (y.1 ∉ N)
      | _ => true)
theorem blkOk_by {N : List Str} {sc scope : Scope} {own : List (Str × Nat)} (h : blkC N sc scope own = true) : BlkOk N sc scope own := by
  unfold blkC at h
  simp only [Bool.and_eq_true, List.all_eq_true, decide_eq_true_eq] at h
  obtain ⟨⟨⟨h1, h2⟩, h3⟩, h4⟩ := h
  refine ⟨?_, h2, h3, fun y hy e => ?_, fun y hy e => ?_⟩
  · split at h1
    · assumption
    · cases h1
  · have q := h4 y hy
    simp only [e] at q
    split at q <;> first | exact .inl (by assumption) | exact .inr (by assumption) | cases q
  · have q := h4 y hy
    rcases e with e | e <;> (simp only [e, Bool.or_eq_true, decide_eq_true_eq] at q; exact q)
end L2

namespace L2
open PySem PySem.Spec PyProof.Rows


end L2

namespace L2
open PySem PySem.Spec PyProof.Rows

/-! ### lists of pairs as tables -/

/-! ### a tracked dict, its keys ints and texts or tuples of these -/




/-! ### readings and rules -/


/-! ### displays -/

/-! ### methods -/



/-! ### dict(d): a copy -/

end L2

namespace L2
open PySem PySem.Spec PyProof.Rows


end L2

namespace L2
open PySem PySem.Spec PyProof.Rows

section
variable {X : Cx} {pins : List (Addr × Obj)} {σ : St} {H : Hp} {s : Shared} {h' : Heap}
/-- several records of ours have turned -/
theorem Inv.turnedL {t' : Nat} {ch : List Addr} (I : Inv X pins σ H s) (k : ∀ b o, b ∉ ch → s.heap.get? b = some o → h'.get? b = some o) (hf : ∀ b ∈ ch, FpOk X pins H b) : Inv X pins σ H { s with heap := h', toks := t' } := by
  have nit : ∀ b u, H b = some u → b ∉ ch := fun b u e z => by
    have q := (hf b z).1
    rw [q] at e; cases e
  refine I.step (g' := s.gens) (d' := s.drawn) (ch := ch) (fun b hb => ⟨(hf b hb).2.2.2.1, (hf b hb).2.1, (hf b hb).2.2.2.2.1, (hf b hb).2.2.2.2.2⟩) (fun b o _ _ hc e _ => k b o hc e) (fun b o _ _ hc e _ => ⟨o.slots, k b o hc e⟩)
    (fun _ _ _ _ n => n) (fun b o hc e => ⟨o, k b o hc e⟩) (fun _ _ e => e) (fun _ _ _ e => e) (fun b ps e => ⟨#[], by rw [e]; simp⟩) (fun m hm => ?_) (fun b u e => ?_) I.bare
  · obtain ⟨o, es, ep, ho, r⟩ := hm
    exact ⟨o, es, ep, k _ o (fun z => (hf _ z).2.1 rfl) ho, r⟩
  · refine (I.hok b u e).stay (fun c v hc q => k c v ?_ q) (fun _ q => q) fun _ _ q => q
    rcases hc with z | z
    · rw [z]; exact nit b u e
    · exact nit c _ z
/-- .. and one new object is laid -/
theorem Inv.turnedNew {t' : Nat} {ch : List Addr} {T : Addr} {ob : HO} (I : Inv X pins σ H s) (k : ∀ b o, b ∉ ch → s.heap.get? b = some o → h'.get? b = some o) (hf : ∀ b ∈ ch, FpOk X pins H b) (hT : s.heap.objs.size ≤ T)
    (new : ObjOk X.prog X.w (upd H T ob) h' T ob) : Inv X pins σ (upd H T ob) { s with heap := h', toks := t' } := by
  have hn : H T = none := I.hok.fresh hT
  have nit : ∀ b u, H b = some u → b ∉ ch := fun b u e z => by
    have q := (hf b z).1
    rw [q] at e; cases e
  refine I.step (g' := s.gens) (d' := s.drawn) (ch := ch) (fun b hb => ⟨(hf b hb).2.2.2.1, (hf b hb).2.1, (hf b hb).2.2.2.2.1, (hf b hb).2.2.2.2.2⟩) (fun b o _ _ hc e _ => k b o hc e) (fun b o _ _ hc e _ => ⟨o.slots, k b o hc e⟩)
    (fun b o _ e n => ?_) (fun b o hc e => ⟨o, k b o hc e⟩) (fun b xs e => ?_) (fun b o u e => ?_) (fun b ps e => ⟨#[], ?_⟩) (fun m hm => ?_) (fun b u e => ?_) I.bare
  · rw [upd_ne (Nat.ne_of_lt (Nat.lt_of_lt_of_le (Heap.lt_size e) hT))]; exact n
  · rw [upd_ne (ne_of_none e hn)]; exact e
  · rw [upd_ne (ne_of_none e hn)]; exact e
  · rw [upd_ne (ne_of_none e hn), e]; simp
  · obtain ⟨o, es, ep, ho, r⟩ := hm
    exact ⟨o, es, ep, k _ o (fun z => (hf _ z).2.1 rfl) ho, r⟩
  · by_cases hb : b = T
    · subst hb
      rw [upd_same] at e
      cases e
      exact new
    · rw [upd_ne hb] at e
      refine (I.hok b u e).stay (fun c v hc q => k c v ?_ q) (fun c q => by rw [upd_ne (ne_of_none q hn)]; exact q) fun c xs q => by rw [upd_ne (ne_of_none q hn)]; exact q
      rcases hc with z | z
      · rw [z]; exact nit b u e
      · exact nit c _ z

/-! ### locking a thing while a statement runs -/
end
section
variable {X : Cx}

/-! ### one iterator just laid -/
theorem pi_one {tg : Expr} {pins : List (Addr × Obj)} {σ : St} {H : Hp} {s : Shared} {R : It → Hp → Prop} {J : It} {tn : Nat → Heap → Prop} {tk : Nat} (I : Inv X pins σ H s) (o : Obj)
    (T : Turn X.prog X.w X.K tg J [s.heap.objs.size] s.heap.objs.size tn) (st : tn 0 (s.heap.push o)) (q : R J H) : PIE X pins σ tg R (.ref s.heap.objs.size) { s with heap := s.heap.push o, toks := tk } := by
  refine ⟨s.heap.objs.size, [s.heap.objs.size], tn, J, H, rfl, I.kept fun b ob e => Heap.get?_push_of_some _ e, T, st, fun b hb => ?_, q⟩
  have e : b = s.heap.objs.size := by simpa using hb
  subst e
  exact I.fpOk (Nat.le_refl _) (I.hok.fresh (Nat.le_refl _))
end

/-! ### range with a step -/
/-- lo, lo + c, .. (n of them) -/
def Itc (lo c : Int) (n : Nat) : It := ⟨fun i _ => i < n, fun i H x H' => H' = H ∧ x = .int (lo + (i : Nat) * c), fun i _ => n ≤ i⟩
theorem turn_rangeC {P : Program} {w : World} {K : PySem.W.Frag} {tg : Expr} (it : Addr) (lo c : Int) (n : Nat) : Turn P w K tg (Itc lo c n) [it] it (fun i h => IsRangeIter h it (lo + (i : Nat) * c) ((n : Int) - (i : Nat)) c) where
  mem := by simp
  obj := fun i h st b hb => by
    have e : b = it := by simpa using hb
    subst e
    exact ⟨_, st, fun v z => nomatch z⟩
  keep := fun i h h' st k => k it (by simp) _ st
  item := by
    intro X hP hw hK hc i pins s σ H E I hf st hg
    subst hP hw hK
    obtain ⟨f0, f1, f2, f3, f4, f5⟩ := hf it (by simp)
    have W := Walks.range (prog := X.prog) (w := X.w) (I.ok.hd hc) it lo c n
    refine W.item i s _ _ hg st fun v h' tk hv st' kk => ?_
    obtain ⟨t, rfl⟩ := hv
    have I1 : Inv X pins σ H { s with heap := h', toks := tk } := I.turned (fun b o hb e => kk b o (by simpa using hb) e) f0 f1 f3 f4 f5
    exact ⟨_, rfl, go_of (s := { s with heap := h', toks := tk }) (n := "range_iterator") st' rfl rfl (by decide) ⟨.int (lo + (i : Nat) * c), H, I1, ⟨t, rfl⟩, ⟨rfl, rfl⟩, st', fun b hb => (hf b hb).1⟩⟩
  done := by
    intro X hP hw hK hc i pins s σ H E I hf st hg
    subst hP hw hK
    obtain ⟨f0, f1, f2, f3, f4, f5⟩ := hf it (by simp)
    exact wpAny_pyNext_range_end (I.ok.hd hc) st (by have : n ≤ i := hg; omega) fun h' eb => ⟨rfl, I.turned (t' := s.toks) (fun b o hb e => eb b o hb e) f0 f1 f3 f4 f5⟩
  self := fun A i s Q E st h => wpAny_pyIter_rangeiter st h
/-- range(i, j, c): small bounds, n items -/
def RgC (i j c : Int) (n : Nat) : Prop := c ≠ 0 ∧ c.natAbs < 1073741824 ∧ Builtin.Range.small i j c = true ∧ Builtin.Range.rangeSize i j c = n
theorem RgC.neg {i j : Int} (ha : -(2 ^ 62) ≤ i) (ha' : i < 2 ^ 62) (hb : -(2 ^ 62) ≤ j) (hb' : j < 2 ^ 62) : RgC i j (-1) (i - j).toNat :=
  ⟨by decide, by decide, PySem.W.small_down ha ha' hb hb', PySem.W.rangeSize_downNat i j⟩
def iRng3 (ta : TA) : TI := fun σ H R => ta σ H fun vs H1 => ∃ (i j c : Int) (n : Nat), vs = [.int i, .int j, .int c] ∧ RgC i j c n ∧ R (Itc i c n) H1
section
variable {X : Cx} {tg : Expr}
theorem pi_range3 {a b c : Expr} {ta : TA} {p pos : Pos} (hg : Gl X "range") (hm : X.mg "range" = none) (ha : PA X [a, b, c] ta)
    (hs : starEach [a, b, c] X.env = (false, eval a X.env) :: starEach [b, c] X.env := by rfl) (hpl : (backTo pos (starEach [b, c] X.env)).any (·.1) = false := by rfl) :
    PI X tg (.Call (.Name "range" p) [a, b, c] [] pos) (iRng3 ta) := by
  intro pins s σ H R I h
  refine Call_ (ld_blt I hg hm boot_range (PyProof.Rows.callWith_type1 (thn (ha pos pins s σ H _ I h) fun us s1 ⟨vs, H1, I1, r1, q1⟩ => ?_) hs hpl))
  obtain ⟨i, j, k, n, e, ⟨c0, c1, c2, c3⟩, q⟩ := q1
  subst e
  cases r1 with
  | cons r rr =>
    cases rr with
    | cons r' rr =>
      cases rr with
      | cons r'' rr =>
        cases rr
        obtain ⟨t, rfl⟩ := r
        obtain ⟨t', rfl⟩ := r'
        obtain ⟨t'', rfl⟩ := r''
        refine call_range_3 c0 ?_ (.inl (PyProof.noPylong_small c1))
        refine wpAny_pyIter_range (IsRange.new ..) c2 ?_
        have I2 : Inv X pins σ H1 { s1 with heap := s1.heap.push { cls := .type "range", data := .fields #[.int i t, .int j t', .int k t''] } } := I1.kept (t' := s1.toks) fun b o e => Heap.get?_push_of_some _ e
        refine pi_one (tk := s1.toks) I2 _ (turn_rangeC _ i k n) ?_ q
        have e1 : i + ((0 : Nat) : Int) * k = i := by simp
        have e2 : (n : Int) - ((0 : Nat) : Int) = Builtin.Range.rangeSize i j k := by rw [c3]; simp
        show IsRangeIter _ _ (i + ((0 : Nat) : Int) * k) ((n : Int) - ((0 : Nat) : Int)) k
        rw [e1, e2]
        exact Heap.get?_push_size _ rfl
end
/-- the turns of a step range, for the for loop -/
theorem for_rangeC {lo c : Int} {n : Nat} {g : TG} {tb : TS} {D : Ends} {σ : St} {H : Hp} (Pv : Nat → St → Hp → Prop) (h0 : Pv 0 σ H)
    (hs : ∀ i σ H, i < n → Pv i σ H → g (.int (lo + (i : Nat) * c)) σ H fun σ2 H2 => tb { D with nx := Pv (i + 1), ct := Pv (i + 1), bk := D.nx } σ2 H2) (hd : ∀ σ H, Pv n σ H → D.nx σ H) :
    ∃ W : Nat → Nat → St → Hp → Prop, (∃ m, W 0 m σ H) ∧ ∀ i m σ H, W i m σ H →
      ((Itc lo c n).stop i H ∧ D.nx σ H) ∨ ((Itc lo c n).go i H ∧ ∃ N : St → Hp → Prop, (∀ σ' H', N σ' H' → ∃ m', m' < m ∧ W (i + 1) m' σ' H') ∧ ∀ x H', (Itc lo c n).yld i H x H' → g x σ H' fun σ2 H2 => tb { D with nx := N, ct := N, bk := D.nx } σ2 H2) := by
  refine ⟨fun i m σ H => m = n - i ∧ i ≤ n ∧ Pv i σ H, ⟨n, by simp, Nat.zero_le _, h0⟩, ?_⟩
  rintro i m σ H ⟨rfl, hi, p⟩
  by_cases hlt : i < n
  · refine .inr ⟨hlt, Pv (i + 1), fun σ' H' p' => ⟨n - (i + 1), by omega, rfl, hlt, p'⟩, fun x H' y => ?_⟩
    obtain ⟨e, y⟩ := y
    subst e y
    exact hs i σ _ hlt p
  · have e : i = n := by omega
    subst e
    exact .inl ⟨Nat.le_refl _, hd σ H p⟩

/-! ### reversed(list) -/

/-! ### a str -/

/-! ### a dict's keys: any dict's entries -/

/-! ### a locked dict -/


/-! ### for k in d, d.keys(), d.values(), d.items() -/

/-! ### enumerate(list) -/
/-! ### zip(list, list) -/
theorem boot_zip5 : bootBuiltins "zip" = some (.type "zip") := by decide +kernel
end L2

section 
namespace Bits
open PySem PyProof.Rows

end Bits
end 

section 
namespace TL
open PySem PySem.Builtin PySem.Builtin.Str PySem.StrLaws

/-! ### the list functions -/

/-! ### the model's split and partition are these -/

/-! ### computing spl and par -/

/-! ### digits -/

/-! ### words: x.split() -/
end TL
end 

namespace L2
open PySem PySem.Spec PyProof.Rows


section
variable {X : Cx}

/-! ### of a text alone -/

/-! ### of a text and a text -/

end

end L2

namespace L2
open PySem PySem.Spec PyProof.Rows


/-! ### slices of a text -/

end L2

namespace Att
open PySem PySem.W PySem.Calls PyProof.Rows

/-! ### the script -/

/-! ### the attachment: holds_open's last premise (the goal 'hc' behind k_head) from a wpAny of the law's body -/

/-! ### rules over ANY heap (no ledger) from facts about the written part K: the library's own take a ledger (News) for what they write -/
section
variable {prog : Program} {w : World} {A : Around} {E : Value → Shared → Prop} {s : Shared} {K : Frag}

/-! the whole heap as the ledger: makes every rule that writes through a ledger a rule over any heap -/

end
end Att

namespace L2
open PySem PySem.Spec PyProof.Rows

end L2

namespace L2
open PySem PySem.Spec PyProof.Rows

end L2

/- THE LAST THEOREM (shape; LID, My.* are yours):
   My.Adr: a structure of the addresses that your layer names (classes, functions); My.Txt K t: a structure (Prop) of the equations over K;
   My.txt_mk : {K} {implicit addresses ..} (e1 : nsIn K mainGlobals "law" = some (some (.ref f))) (e2 : K.lookup f = some ⟨oc, od, .func (fnOf "law" "law" params body scope dV kV doc pm an cdv ct), sl⟩) (e3 : codeIn K cdv "law" = true) .. : ∃ t, My.Txt K t

set_option maxRecDepth 100000 in
set_option maxHeartbeats 0 in
theorem PySem.Challenge.cw_LID_holds : PySem.Challenge.rw_LID.Holds := by
  w_on; o_law; k_head; (case hw => w_witness2)
  k_fill
  refine L2.walk_of (l := PySem.Challenge.rw_LID) (n := 63) (k := 40) (x := "script") (CX := fun w => ..) (sp := fun _ => My.sp_law) rfl (by decide) rfl ⟨rfl, by decide, by decide⟩ (fun w h Y => PySem.W.kIn_of Y) ?F ?S ?C
  case F =>
    intro w mg fa h KX G hmg
    have T : ∃ t, My.Txt (L2.KOf KX) t := by
      dsimp only [L2.KOf]                          -- K must stand as «<heap const> w.params» for k_is
      refine' My.txt_mk ?e1 ?e2 ?e3 ..
      (case e1 => PySem.W.k_is)                    -- in the order: a name -> its address -> its object -> its parts
      (case e2 => PySem.W.k_is)
      ..
    obtain ⟨t, T⟩ := T
    have e0 := hmg.symm.trans (PySem.W.mg_of KX G T.law)
    cases e0                                       -- fa is the law's own address
    exact ⟨_, fun s u => .of_eq rfl, fun base kb nb => My.law_fn T kb nb⟩     -- if «.of_eq rfl» comes too early: refine' ⟨_, ?b, fun base kb nb => My.law_fn T kb nb⟩; exact fun s u => .of_eq rfl
  case S => exact fun w H a ns hl hO hS => ..
  case C => exact ..
(the tactic k_is has no namespace: write k_is) -/

/-! SHORT WORDS over the layer: a def of the text, its body, what a loop and a test want. -/
namespace L2
open PySem PySem.Spec PyProof.Rows

/-! ### the text by places -/
/-- the j-th statement of a class's body -/
def inClass (s : Stmt) (j : Nat) : Stmt := match s with
  | .ClassDef _ _ _ body _ _ _ _ _ _ _ => body.getD j (.Pass ⟨0, 0, 0, 0⟩)
  | _ => .Pass ⟨0, 0, 0, 0⟩
def defArgs (s : Stmt) : Arguments := match s with
  | .FunctionDef _ a _ _ _ _ _ _ _ _ => a
  | _ => { posonlyargs := [], args := [], vararg := none, kwonlyargs := [], kw_defaults := [], kwarg := none, defaults := [] }
def defBody (s : Stmt) : List Stmt := match s with
  | .FunctionDef _ _ b _ _ _ _ _ _ _ => b
  | _ => []
def defScope (s : Stmt) : Scope := match s with
  | .FunctionDef _ _ _ _ _ _ sc _ _ _ => sc
  | _ => { kind := .function, names := [], isGenerator := false, isCoroutine := false }

/-! ### no exception leaves a def -/
abbrev CX0 : CXT := fun _ _ _ _ _ _ => False
abbrev E0 : XK := fun _ _ _ => False
theorem pass0 {X : Cx} : Passes CX0 X E0 := fun _ _ _ _ _ _ _ h => h.elim

/-! ### a def (or method) of the text as it stands behind the top -/
structure Fun (K : PySem.W.Frag) (x qual : Str) (st : Stmt) (f : Addr) (fd : FuncData) : Prop where
  ex : ∃ (oc : Value) (od : Option Addr) (kV doc pm : Value) (an : Option Addr) (cdv ct : Value) (osl : Array (Option Value)),
    fd = PySem.W.fnOf x qual (defArgs st) (defBody st) (defScope st) .none kV doc pm an cdv ct ∧ K.lookup f = some ⟨oc, od, .func fd, osl⟩ ∧ PySem.W.codeIn K cdv qual = true
  kp : PySem.W.keepIn K (.ref f) = true
section
variable {P : Program} {w : World} {K : PySem.W.Frag} {mg : Str → Option Value} {base : Heap}
/-- THE RULE for a def: its body as a term of rules, and the reading of that term -/
theorem Fun.ok {x qual : Str} {st : Stmt} {f : Addr} {fd : FuncData} {N ps : List Str} {k : Nat} {sp : Sp} (F : Fun K x qual st f fd) (S : FnScope N ps (defScope st)) (len : ∀ vs H Q E, sp vs H Q E → vs.length = ps.length)
    (hbody : ∀ (cdv : Value) (A : Around) (outer : List Env) (s : Shared) (H : Hp) (vs : List V) (Q : VK) (E : XK), Room k (A.deeper (envOfC qual (defScope st) s.heap.objs.size f cdv)) → sp vs H Q E →
      ∃ t, PSs (cxOf CX0 P w K mg base N qual (defScope st) f cdv A outer s H E).nox (defBody st) t ∧ t { nx := fun _ H' => Q .non H', rt := Q } (start N vs) H) : FnOk P w K mg base CX0 (k + 1) f fd ps sp := by
  obtain ⟨oc, od, kV, doc, pm, an, cdv, ct, osl, rfl, lk, hcd⟩ := F.ex
  refine fn_of lk hcd S len fun A outer s H vs Q E hr hsp => ?_
  obtain ⟨t, h, q⟩ := hbody cdv A outer s H vs Q E hr hsp
  exact ⟨t, h.nox, q⟩
/-- how its arguments bind (no defaults): h is «fun _ _ _ _ _ _ us hl => match us, hl with | [_, _], _ => rfl», one _ a parameter -/
theorem Fun.binds {x qual : Str} {st : Stmt} {f : Addr} {fd : FuncData} {ps : List Str} (F : Fun K x qual st f fd)
    (h : ∀ (kV doc pm : Value) (an : Option Addr) (cdv ct : Value) (us : List Value), us.length = ps.length → bindArgs (PySem.W.fnOf x qual (defArgs st) (defBody st) (defScope st) .none kV doc pm an cdv ct) ⟨us, []⟩ = pure (ps.zip us)) : Binds K fd ps [] := by
  obtain ⟨oc, od, kV, doc, pm, an, cdv, ct, osl, rfl, lk, hcd⟩ := F.ex
  exact .all (h kV doc pm an cdv ct)
theorem fun_mk {x qual : Str} {st : Stmt} {f : Addr} {oc : Value} {od an : Option Addr} {osl : Array (Option Value)} {kV doc pm cdv ct : Value} (l : K.lookup f = some ⟨oc, od, .func (PySem.W.fnOf x qual (defArgs st) (defBody st) (defScope st) .none kV doc pm an cdv ct), osl⟩)
    (c : PySem.W.codeIn K cdv qual = true) (k : PySem.W.keepIn K (.ref f) = true) : Fun K x qual st f (PySem.W.fnOf x qual (defArgs st) (defBody st) (defScope st) .none kV doc pm an cdv ct) := ⟨⟨oc, od, kV, doc, pm, an, cdv, ct, osl, rfl, l, c⟩, k⟩
end

/-! ### expressions in short: the name that stands in the i-th slot -/
section
variable {X : Cx}
theorem pv (i : Nat) {x : Str} {pos : Pos} (hN : X.N[i]? = some x := by rfl) (hv : Vis X.env.scope x := by first | exact Or.inl rfl | exact Or.inr (Or.inl rfl) | exact Or.inr (Or.inr rfl)) (hd : (x == ("__debug__" : Str)) = false := by decide)
    (hcd : (x == ("__classdict__" : Str)) = false := by decide) : PE X (.Name x pos) (tVar i) := pe_var hN hv hd hcd
end

/-! ### tests -/
theorem iteF {A B : Prop} (h : B) : if false = true then A else B := by
  rw [if_neg Bool.false_ne_true]
  exact h
theorem iteT {A B : Prop} (h : A) : if true = true then A else B := by
  rw [if_pos rfl]
  exact h
theorem ite2 {c A B : Prop} [Decidable c] (h1 : c → A) (h2 : ¬ c → B) : if c then A else B := by
  by_cases h : c
  · rw [if_pos h]
    exact h1 h
  · rw [if_neg h]
    exact h2 h

/-! ### heaps -/
/-- all that was tracked is as it was -/
def Same (H H' : Hp) : Prop := ∀ b o, H b = some o → H' b = some o
theorem Same.refl (H : Hp) : Same H H := fun _ _ h => h
theorem Same.trans {H H1 H2 : Hp} (a : Same H H1) (b : Same H1 H2) : Same H H2 := fun c o h => b c o (a c o h)
theorem Same.free {H H' : Hp} (e : Same H H') {l : Addr} (h : H' l = Option.none) : H l = Option.none := by
  cases q : H l with
  | none => rfl
  | some o =>
    rw [e l o q] at h
    cases h
theorem Same.seq {K : PySem.W.Frag} {H H' : Hp} {a : Addr} {xs : List V} (e : Same H H') (h : SqL K H a xs) : SqL K H' a xs := by
  rcases h with (h | ⟨o, h⟩) | h
  · exact .inl (.inl (e _ _ h))
  · exact .inl (.inr ⟨o, e _ _ h⟩)
  · exact .inr h

/-! ### a dict's pairs: keys that differ -/
/-! ### lists -/
theorem nd_ix {α : Type} {l : List α} (hN : l.Nodup) {i j : Nat} {x : α} (a : l[i]? = some x) (b : l[j]? = some x) : i = j := by
  obtain ⟨h1, e1⟩ := List.getElem?_eq_some_iff.mp a
  obtain ⟨h2, e2⟩ := List.getElem?_eq_some_iff.mp b
  exact (List.getElem_inj hN).mp (e1.trans e2.symm)
/-- a new instance and its __init__ leave all that was tracked as it was -/
theorem Same.made {H H1 : Hp} {x dx C : Addr} (nx : H x = Option.none) (nd : H dx = Option.none) (k : ∀ b o, (upd (upd H dx (.own x)) x (.ins C dx [])) b = some o → b ≠ x → H1 b = some o) : Same H H1 := fun b o e =>
  k b o (by rw [upd_ne (ne_of_none e nx), upd_ne (ne_of_none e nd)]; exact e) (ne_of_none e nx)
end L2

section
set_option Elab.async false
set_option linter.all false
set_option maxRecDepth 100000
set_option maxHeartbeats 2000000
namespace L2
open PySem PySem.Spec PyProof.Rows
open PySem.W (WData Codec OpenSpec Well WellAll ReadsW ReadsAllW)
/-! ### an answer as data -/
mutual
/-- x stands for the datum d, lists and tuples all the way -/
inductive Dw (K : PySem.W.Frag) (H : Hp) : V → WData → Prop
  | non : Dw K H .non .none
  | bl (b : Bool) : Dw K H (.bl b) (.bool b)
  | int (i : Int) : Dw K H (.int i) (.int i)
  | str (x : Str) : Dw K H (.str x) (.str x)
  | byt (b : Array UInt8) : Dw K H (.byt b) (.bytes b.toList)
  | lst {a : Addr} {xs : List V} {ds : List WData} : SqL K H a xs → DwAll K H xs ds → Dw K H (.ref a) (.list ds)
  | tup {a : Addr} {xs : List V} {ds : List WData} : SqT K H a xs → DwAll K H xs ds → Dw K H (.ref a) (.tuple ds)
inductive DwAll (K : PySem.W.Frag) (H : Hp) : List V → List WData → Prop
  | nil : DwAll K H [] []
  | cons {v : V} {vs : List V} {d : WData} {ds : List WData} : Dw K H v d → DwAll K H vs ds → DwAll K H (v :: vs) (d :: ds)
end
theorem dw_ints {K : PySem.W.Frag} {H : Hp} : ∀ ns : List Int, DwAll K H (ns.map V.int) (ns.map WData.int)
  | [] => .nil
  | n :: r => .cons (.int n) (dw_ints r)
theorem ints_dw {K : PySem.W.Frag} {H : Hp} : ∀ (ns : List Int) (xs : List V), DwAll K H xs (ns.map WData.int) → xs = ns.map V.int
  | [], xs, h => by
    cases h
    rfl
  | n :: r, xs, h => by
    cases h with
    | cons h1 h2 =>
      cases h1
      rw [ints_dw r _ h2] <;> rfl
section
variable {P : Program} {w : World} {K : PySem.W.Frag} {H : Hp} {h : Heap} {R : PySem.W.WRecords} {cl : Str → Option Addr}
theorem sqL_at {a : Addr} {xs : List V} (hok : HOk P w H h) (KX : K.In h) (q : SqL K H a xs) : ∃ (its : List Value) (o : Obj) (n : Nat), Vals xs its ∧ h.get? a = some o ∧ o.cls = .type "list" ∧ o.data = .seq its.toArray n := by
  rcases q with q | ⟨o, its, n, e, hc, _, hd, _, hv⟩
  · obtain ⟨_, its, n, hv, e⟩ := (show ObjOk P w H h a (.lst xs) from q.ok hok)
    exact ⟨its, _, n, hv, e, rfl, rfl⟩
  · exact ⟨its.toList, o, n, hv, KX _ _ e, hc, by simp [hd]⟩
theorem sqT_at {a : Addr} {xs : List V} (hok : HOk P w H h) (KX : K.In h) (q : SqT K H a xs) : ∃ (its : List Value) (o : Obj) (n : Nat), Vals xs its ∧ h.get? a = some o ∧ o.cls = .type "tuple" ∧ o.data = .seq its.toArray n := by
  rcases q with q | ⟨o, its, n, e, hc, hd, _, hv⟩
  · obtain ⟨_, its, hv, o, e, hc, n, hd⟩ := (show ObjOk P w H h a (.tup xs) from q.ok hok)
    exact ⟨its, o, n, hv, e, hc, hd⟩
  · exact ⟨its.toList, o, n, hv, KX _ _ e, hc, by simp [hd]⟩
mutual
theorem Dw.reads (hok : HOk P w H h) (KX : K.In h) : ∀ (d : WData) (v : V) (u : Value), Dw K H v d → RelV v u → ∃ as, ReadsW R cl h u d as
  | .none, _, _, x, r => by
    cases x
    cases r
    exact ⟨_, ReadsW.none⟩
  | .bool b, _, _, x, r => by
    cases x
    cases r
    exact ⟨_, ReadsW.bool b⟩
  | .int i, _, _, x, r => by
    cases x
    obtain ⟨t, rfl⟩ := r
    exact ⟨_, ReadsW.int i t⟩
  | .str s, _, _, x, r => by
    cases x
    obtain ⟨t, rfl⟩ := r
    exact ⟨_, ReadsW.str s t⟩
  | .bytes b, _, _, x, r => by
    cases x
    obtain ⟨t, rfl⟩ := r
    exact ⟨_, ReadsW.bytes _ t⟩
  | .list ds, _, _, x, r => by
    cases x with
    | lst hs ha =>
      cases r
      obtain ⟨its, o, n, rv, ho, hc, hd⟩ := sqL_at hok KX hs
      obtain ⟨as, hr⟩ := Dw.readsAll hok KX ds _ its ha rv
      exact ⟨_, ReadsW.list ho hc hd hr⟩
  | .tuple ds, _, _, x, r => by
    cases x with
    | tup hs ha =>
      cases r
      obtain ⟨its, o, n, rv, ho, hc, hd⟩ := sqT_at hok KX hs
      obtain ⟨as, hr⟩ := Dw.readsAll hok KX ds _ its ha rv
      exact ⟨_, ReadsW.tuple ho hc hd hr⟩
  | .float _, _, _, x, _ => by cases x
  | .dict _, _, _, x, _ => by cases x
  | .bytearray _, _, _, x, _ => by cases x
  | .set _, _, _, x, _ => by cases x
  | .frozenset _, _, _, x, _ => by cases x
  | .obj _ _, _, _, x, _ => by cases x
theorem Dw.readsAll (hok : HOk P w H h) (KX : K.In h) : ∀ (ds : List WData) (vs : List V) (us : List Value), DwAll K H vs ds → Vals vs us → ∃ as, ReadsAllW R cl h us ds as
  | [], _, _, x, r => by
    cases x
    cases r
    exact ⟨_, ReadsAllW.nil⟩
  | d :: ds, _, _, x, r => by
    cases x with
    | cons h1 h2 =>
      cases r with
      | cons r1 r2 =>
        obtain ⟨as, q1⟩ := Dw.reads hok KX d _ _ h1 r1
        obtain ⟨bs, q2⟩ := Dw.readsAll hok KX ds _ _ h2 r2
        exact ⟨_, ReadsAllW.cons q1 q2⟩
end
end
/-! ### the arguments -/
mutual
/-- data that a codec tells -/
def plW : WData → Bool
  | .none => true
  | .bool _ => true
  | .int _ => true
  | .str _ => true
  | .bytes _ => true
  | .list xs => plWs xs
  | .tuple xs => plWs xs
  | _ => false
def plWs : List WData → Bool
  | [] => true
  | x :: r => plW x && plWs r
end
theorem plWs_map {α : Type} {f : α → WData} (h : ∀ a, plW (f a) = true) : ∀ l : List α, plWs (l.map f) = true
  | [] => rfl
  | x :: r => by
    show (plW (f x) && plWs (r.map f)) = true
    rw [h x, plWs_map h r] <;> rfl
theorem pl_enc : ∀ (c : Codec) (a : c.denote), plW (c.enc a) = true
  | .unit, _ => rfl
  | .bool, _ => rfl
  | .int _ _, _ => rfl
  | .nat _ _, _ => rfl
  | .u8, _ => rfl
  | .bytes _ _, _ => rfl
  | .text _ _ _ _, _ => rfl
  | .list _ _ c, a => plWs_map (fun x => pl_enc c x) a
  | .pair c d, a => by
    show (plW (c.enc a.1) && (plW (d.enc a.2) && true)) = true
    rw [pl_enc c a.1, pl_enc d a.2] <;> rfl
  | .triple c d e, a => by
    show (plW (c.enc a.1) && (plW (d.enc a.2.1) && (plW (e.enc a.2.2) && true))) = true
    rw [pl_enc c a.1, pl_enc d a.2.1, pl_enc e a.2.2] <;> rfl
  | .option c, none => rfl
  | .option c, some x => pl_enc c x
theorem pl_encAll : ∀ (cs : List Codec) (a : Codec.denoteAll cs), plWs (Codec.encAll cs a) = true
  | [], _ => rfl
  | c :: cs, a => by
    show (plW (c.enc a.1) && plWs (Codec.encAll cs a.2)) = true
    rw [pl_enc c a.1, pl_encAll cs a.2] <;> rfl
theorem weight_mem : ∀ {xs : List WData} {d : WData}, d ∈ xs → d.weight ≤ WData.weightAll xs
  | [], d, h => absurd h (by simp)
  | x :: r, d, h => by
    show d.weight ≤ x.weight + 1 + WData.weightAll r
    rcases List.mem_cons.mp h with e | m
    · rw [e]
      omega
    · have z := weight_mem m
      omega
def toV : Value → V
  | .none => .non
  | .bool b => .bl b
  | .int i _ => .int i
  | .str x _ => .str x
  | .bytes b _ => .byt b
  | .ref a => .ref a
  | _ => .non
/-- a value of the arguments, its objects among A -/
def OkU (A : List Addr) : Value → Prop
  | .none => True
  | .bool _ => True
  | .int _ _ => True
  | .str _ _ => True
  | .bytes _ _ => True
  | .ref a => a ∈ A
  | _ => False
theorem OkU.mono {A B : List Addr} (h : ∀ a ∈ A, a ∈ B) : ∀ {u : Value}, OkU A u → OkU B u := fun {u} x => by
  cases u with
  | ref a => exact h a x
  | none => trivial
  | bool b => trivial
  | int i t => trivial
  | str s t => trivial
  | bytes b t => trivial
  | _ => exact False.elim x
theorem relV_toV {A : List Addr} {u : Value} (x : OkU A u) : RelV (toV u) u := by
  cases u with
  | ref a => rfl
  | none => rfl
  | bool b => rfl
  | int i t => exact ⟨t, rfl⟩
  | str s t => exact ⟨t, rfl⟩
  | bytes b t => exact ⟨t, rfl⟩
  | _ => exact False.elim x
theorem vals_toV {A : List Addr} : ∀ {vs : List Value}, (∀ u ∈ vs, OkU A u) → Vals (vs.map toV) vs
  | [], _ => .nil
  | u :: r, h => .cons (relV_toV (h u (List.mem_cons_self ..))) (vals_toV fun x hx => h x (List.mem_cons_of_mem _ hx))
/-- an object of the arguments -/
def ArgOb (h : Heap) (A : List Addr) (a : Addr) : Prop := ∃ vs : List Value, vs.length ≤ sizeLine ∧ (∀ u ∈ vs, OkU A u) ∧
  (h.get? a = some { cls := .type "list", data := .seq vs.toArray } ∨ h.get? a = some { cls := .type "tuple", data := .seq vs.toArray })
theorem ArgOb.mono {h : Heap} {A B : List Addr} {a : Addr} (k : ∀ a ∈ A, a ∈ B) (x : ArgOb h A a) : ArgOb h B a := by
  obtain ⟨vs, h1, h2, h3⟩ := x
  exact ⟨vs, h1, fun u hu => (h2 u hu).mono k, h3⟩
theorem wellAll_len {P : Params} {h : Heap} : ∀ {vs : List Value} {ds : List WData}, WellAll P h vs ds → vs.length = ds.length
  | _, _, .nil => rfl
  | _, _, .cons _ b => by
    show _ + 1 = _ + 1
    rw [wellAll_len b]
theorem well_list {P : Params} {h : Heap} {v : Value} {ds : List WData} (x : Well P h v (.list ds)) : ∃ (a : Addr) (vs : List Value), v = .ref a ∧ h.get? a = some { cls := .type "list", data := .seq vs.toArray } ∧ WellAll P h vs ds := by
  cases x with
  | list ho hall => exact ⟨_, _, rfl, ho, hall⟩
theorem well_tuple {P : Params} {h : Heap} {v : Value} {ds : List WData} (x : Well P h v (.tuple ds)) : ∃ (a : Addr) (vs : List Value), v = .ref a ∧ h.get? a = some { cls := .type "tuple", data := .seq vs.toArray } ∧ WellAll P h vs ds := by
  cases x with
  | tuple ho hall => exact ⟨_, _, rfl, ho, hall⟩
theorem well_cons {P : Params} {h : Heap} {us : List Value} {d : WData} {ds : List WData} (x : WellAll P h us (d :: ds)) : ∃ (v : Value) (vs : List Value), us = v :: vs ∧ Well P h v d ∧ WellAll P h vs ds := by
  cases x with
  | cons a b => exact ⟨_, _, rfl, a, b⟩
theorem line_of {n : Nat} (h : n ≤ 1048576) : n ≤ sizeLine := Nat.le_trans h (by decide)
section
variable {P : Params} {h : Heap}
mutual
theorem area_one : ∀ (d : WData) (v : Value), Well P h v d → plW d = true → d.weight ≤ 1048576 → ∃ A : List Addr, OkU A v ∧ ∀ a ∈ A, ArgOb h A a
  | .none, _, x, _, _ => by
    cases x
    exact ⟨[], trivial, fun a m => absurd m (by simp)⟩
  | .bool b, _, x, _, _ => by
    cases x
    exact ⟨[], trivial, fun a m => absurd m (by simp)⟩
  | .int i, _, x, _, _ => by
    cases x
    exact ⟨[], trivial, fun a m => absurd m (by simp)⟩
  | .str s, _, x, _, _ => by
    cases x
    exact ⟨[], trivial, fun a m => absurd m (by simp)⟩
  | .bytes b, _, x, _, _ => by
    cases x
    exact ⟨[], trivial, fun a m => absurd m (by simp)⟩
  | .list ds, _, x, p, z => by
    obtain ⟨a, vs, rfl, ho, hall⟩ := well_list x
    have z2 : WData.weightAll ds ≤ 1048576 := z
    obtain ⟨A, h1, h2⟩ := area_all ds _ hall p fun d hd => Nat.le_trans (weight_mem hd) z2
    have k : ∀ b ∈ A, b ∈ a :: A := fun b hb => List.mem_cons_of_mem _ hb
    refine ⟨a :: A, List.mem_cons_self .., fun b hb => ?_⟩
    rcases List.mem_cons.mp hb with e | m
    · rw [e]
      exact ⟨vs, line_of (by rw [wellAll_len hall]; exact Nat.le_trans (PySem.W.length_le_weightAllW ds) z2), fun u hu => (h1 u hu).mono k, .inl ho⟩
    · exact (h2 b m).mono k
  | .tuple ds, _, x, p, z => by
    obtain ⟨a, vs, rfl, ho, hall⟩ := well_tuple x
    have z2 : WData.weightAll ds ≤ 1048576 := z
    obtain ⟨A, h1, h2⟩ := area_all ds _ hall p fun d hd => Nat.le_trans (weight_mem hd) z2
    have k : ∀ b ∈ A, b ∈ a :: A := fun b hb => List.mem_cons_of_mem _ hb
    refine ⟨a :: A, List.mem_cons_self .., fun b hb => ?_⟩
    rcases List.mem_cons.mp hb with e | m
    · rw [e]
      exact ⟨vs, line_of (by rw [wellAll_len hall]; exact Nat.le_trans (PySem.W.length_le_weightAllW ds) z2), fun u hu => (h1 u hu).mono k, .inr ho⟩
    · exact (h2 b m).mono k
  | .float _, _, _, p, _ => Bool.noConfusion (show false = true from p)
  | .dict _, _, _, p, _ => Bool.noConfusion (show false = true from p)
  | .bytearray _, _, _, p, _ => Bool.noConfusion (show false = true from p)
  | .set _, _, _, p, _ => Bool.noConfusion (show false = true from p)
  | .frozenset _, _, _, p, _ => Bool.noConfusion (show false = true from p)
  | .obj _ _, _, _, p, _ => Bool.noConfusion (show false = true from p)
theorem area_all : ∀ (ds : List WData) (vs : List Value), WellAll P h vs ds → plWs ds = true → (∀ d ∈ ds, d.weight ≤ 1048576) → ∃ A : List Addr, (∀ u ∈ vs, OkU A u) ∧ ∀ a ∈ A, ArgOb h A a
  | [], _, x, _, _ => by
    cases x
    exact ⟨[], fun u m => absurd m (by simp), fun a m => absurd m (by simp)⟩
  | d :: ds, _, x, p, z => by
    obtain ⟨v, vs, rfl, x1, x2⟩ := well_cons x
    have q : plW d = true ∧ plWs ds = true := Bool.and_eq_true_iff.mp p
    obtain ⟨A, a1, a2⟩ := area_one d v x1 q.1 (z d (List.mem_cons_self ..))
    obtain ⟨B, b1, b2⟩ := area_all ds vs x2 q.2 fun e he => z e (List.mem_cons_of_mem _ he)
    have kA : ∀ b ∈ A, b ∈ A ++ B := fun b hb => List.mem_append.mpr (.inl hb)
    have kB : ∀ b ∈ B, b ∈ A ++ B := fun b hb => List.mem_append.mpr (.inr hb)
    refine ⟨A ++ B, fun u hu => ?_, fun b hb => ?_⟩
    · rcases List.mem_cons.mp hu with e | m
      · rw [e]
        exact a1.mono kA
      · exact (b1 u m).mono kB
    · rcases List.mem_append.mp hb with m | m
      · exact (a2 b m).mono kA
      · exact (b2 b m).mono kB
end
end
/-- what is tracked of an argument's object -/
def hoOf (o : Obj) : Option HO := match o.data with
  | .seq vs _ => if (o.cls == Value.type "list") = true then some (.frz o (.lst (vs.toList.map toV))) else some (.frz o (.tup (vs.toList.map toV)))
  | _ => none
def argH (K : PySem.W.Frag) (h : Heap) (A : List Addr) : Hp := fun b => if b ∈ A then (if (K.lookup b).isNone = true then (h.get? b).bind hoOf else none) else none
/-- nothing is tracked but what is known to the object -/
def OnlyF (H : Hp) : Prop := ∀ b, H b = none ∨ ∃ o u, H b = some (.frz o u)
theorem hoOf_lst (vs : List Value) : hoOf { cls := .type "list", data := .seq vs.toArray } = some (.frz { cls := .type "list", data := .seq vs.toArray } (.lst (vs.map toV))) := by
  show (if (Value.type "list" == Value.type "list") = true then some (HO.frz { cls := .type "list", data := .seq vs.toArray } (.lst (vs.toArray.toList.map toV))) else some (HO.frz { cls := .type "list", data := .seq vs.toArray } (.tup (vs.toArray.toList.map toV)))) = _
  rw [if_pos (beq_self_eq_true _)]
theorem hoOf_tup (vs : List Value) : hoOf { cls := .type "tuple", data := .seq vs.toArray } = some (.frz { cls := .type "tuple", data := .seq vs.toArray } (.tup (vs.map toV))) := by
  show (if (Value.type "tuple" == Value.type "list") = true then some (HO.frz { cls := .type "tuple", data := .seq vs.toArray } (.lst (vs.toArray.toList.map toV))) else some (HO.frz { cls := .type "tuple", data := .seq vs.toArray } (.tup (vs.toArray.toList.map toV)))) = _
  rw [if_neg (by decide)]
section
variable {P : Program} {w : World} {K : PySem.W.Frag} {h : Heap} {A : List Addr}
theorem argH_at {b : Addr} {o : Obj} (hb : b ∈ A) (hk : K.lookup b = none) (e : h.get? b = some o) : argH K h A b = hoOf o := by
  unfold argH
  rw [if_pos hb, hk, if_pos (show (none : Option Obj).isNone = true from rfl), e] <;> rfl
theorem of_argH {b : Addr} {u : HO} (q : argH K h A b = some u) : b ∈ A ∧ K.lookup b = none := by
  unfold argH at q
  by_cases hb : b ∈ A
  · rw [if_pos hb] at q
    cases hk : K.lookup b with
    | none => exact ⟨hb, rfl⟩
    | some o =>
      rw [hk, if_neg (by simp)] at q
      cases q
  · rw [if_neg hb] at q
    cases q
/-- what stands tracked -/
theorem argH_is (ar : ∀ a ∈ A, ArgOb h A a) {b : Addr} {u : HO} (q : argH K h A b = some u) : K.lookup b = none ∧ ∃ vs : List Value, vs.length ≤ sizeLine ∧ (∀ u ∈ vs, OkU A u) ∧
    ((h.get? b = some { cls := .type "list", data := .seq vs.toArray } ∧ u = .frz { cls := .type "list", data := .seq vs.toArray } (.lst (vs.map toV))) ∨
     (h.get? b = some { cls := .type "tuple", data := .seq vs.toArray } ∧ u = .frz { cls := .type "tuple", data := .seq vs.toArray } (.tup (vs.map toV)))) := by
  obtain ⟨hb, hk⟩ := of_argH q
  obtain ⟨vs, h1, h2, h3⟩ := ar b hb
  refine ⟨hk, vs, h1, h2, ?_⟩
  rcases h3 with e | e
  · rw [argH_at hb hk e, hoOf_lst] at q
    exact .inl ⟨e, (Option.some.inj q).symm⟩
  · rw [argH_at hb hk e, hoOf_tup] at q
    exact .inr ⟨e, (Option.some.inj q).symm⟩
theorem argH_only (ar : ∀ a ∈ A, ArgOb h A a) : OnlyF (argH K h A) := fun b => by
  cases q : argH K h A b with
  | none => exact .inl rfl
  | some u =>
    obtain ⟨_, vs, _, _, ⟨_, e⟩ | ⟨_, e⟩⟩ := argH_is ar q
    · exact .inr ⟨_, _, by rw [e]⟩
    · exact .inr ⟨_, _, by rw [e]⟩
theorem argH_ok (ar : ∀ a ∈ A, ArgOb h A a) : HOk P w (argH K h A) h := fun b u q => by
  obtain ⟨_, vs, h1, h2, ⟨e, rfl⟩ | ⟨e, rfl⟩⟩ := argH_is ar q
  · exact ⟨e, by rw [List.length_map]; exact h1, vs, _, vals_toV h2, e⟩
  · exact ⟨e, by rw [List.length_map]; exact h1, vs, vals_toV h2, _, e, rfl, _, rfl⟩
theorem seq_inj {c c' : Value} {vs us : List Value} (e : (some { cls := c, data := .seq vs.toArray } : Option Obj) = some { cls := c', data := .seq us.toArray }) : c = c' ∧ vs = us := by
  have e1 := Option.some.inj e
  have e2 : c = c' := congrArg Obj.cls e1
  have e3 : Data.seq vs.toArray = Data.seq us.toArray := congrArg Obj.data e1
  injection e3 with e4
  refine ⟨e2, ?_⟩
  have e5 := congrArg Array.toList e4
  simpa using e5
/-- a list argument -/
theorem argL (KX : K.In h) (ar : ∀ a ∈ A, ArgOb h A a) {a : Addr} {vs : List Value} (ha : a ∈ A) (e : h.get? a = some { cls := .type "list", data := .seq vs.toArray }) : (∀ u ∈ vs, OkU A u) ∧ SqL K (argH K h A) a (vs.map toV) := by
  obtain ⟨us, h1, h2, h3⟩ := ar a ha
  have hu : us = vs := by
    rcases h3 with q | q
    · rw [e] at q
      exact (seq_inj q).2.symm
    · rw [e] at q
      exact absurd (Value.type.inj (seq_inj q).1) (by decide)
  subst hu
  refine ⟨h2, ?_⟩
  cases hk : K.lookup a with
  | none => exact .inl (.inr ⟨_, by rw [argH_at ha hk e, hoOf_lst]⟩)
  | some o =>
    have e2 := KX a o hk
    rw [e] at e2
    obtain rfl := Option.some.inj e2
    exact .inr ⟨_, us.toArray, _, hk, rfl, rfl, rfl, by rw [List.size_toArray]; exact h1, by simpa using vals_toV h2⟩
theorem argT (KX : K.In h) (ar : ∀ a ∈ A, ArgOb h A a) {a : Addr} {vs : List Value} (ha : a ∈ A) (e : h.get? a = some { cls := .type "tuple", data := .seq vs.toArray }) : (∀ u ∈ vs, OkU A u) ∧ SqT K (argH K h A) a (vs.map toV) := by
  obtain ⟨us, h1, h2, h3⟩ := ar a ha
  have hu : us = vs := by
    rcases h3 with q | q
    · rw [e] at q
      exact absurd (Value.type.inj (seq_inj q).1) (by decide)
    · rw [e] at q
      exact (seq_inj q).2.symm
  subst hu
  refine ⟨h2, ?_⟩
  cases hk : K.lookup a with
  | none => exact .inl (.inr ⟨_, by rw [argH_at ha hk e, hoOf_tup]⟩)
  | some o =>
    have e2 := KX a o hk
    rw [e] at e2
    obtain rfl := Option.some.inj e2
    exact .inr ⟨_, us.toArray, _, hk, rfl, rfl, by rw [List.size_toArray]; exact h1, by simpa using vals_toV h2⟩
mutual
theorem dw_one {Pm : Params} (KX : K.In h) (ar : ∀ a ∈ A, ArgOb h A a) : ∀ (d : WData) (v : Value), Well Pm h v d → plW d = true → OkU A v → Dw K (argH K h A) (toV v) d
  | .none, _, x, _, _ => by
    cases x
    exact .non
  | .bool b, _, x, _, _ => by
    cases x
    exact .bl b
  | .int i, _, x, _, _ => by
    cases x
    exact .int i
  | .str s, _, x, _, _ => by
    cases x
    exact .str s
  | .bytes b, _, x, _, _ => by
    cases x
    have z := Dw.byt (K := K) (H := argH K h A) b.toArray
    exact z
  | .list ds, _, x, p, hu => by
    obtain ⟨a, vs, rfl, ho, hall⟩ := well_list x
    obtain ⟨h2, hs⟩ := argL KX ar hu ho
    exact .lst hs (dw_all KX ar ds _ hall p h2)
  | .tuple ds, _, x, p, hu => by
    obtain ⟨a, vs, rfl, ho, hall⟩ := well_tuple x
    obtain ⟨h2, hs⟩ := argT KX ar hu ho
    exact .tup hs (dw_all KX ar ds _ hall p h2)
  | .float _, _, _, p, _ => Bool.noConfusion (show false = true from p)
  | .dict _, _, _, p, _ => Bool.noConfusion (show false = true from p)
  | .bytearray _, _, _, p, _ => Bool.noConfusion (show false = true from p)
  | .set _, _, _, p, _ => Bool.noConfusion (show false = true from p)
  | .frozenset _, _, _, p, _ => Bool.noConfusion (show false = true from p)
  | .obj _ _, _, _, p, _ => Bool.noConfusion (show false = true from p)
theorem dw_all {Pm : Params} (KX : K.In h) (ar : ∀ a ∈ A, ArgOb h A a) : ∀ (ds : List WData) (vs : List Value), WellAll Pm h vs ds → plWs ds = true → (∀ u ∈ vs, OkU A u) → DwAll K (argH K h A) (vs.map toV) ds
  | [], _, x, _, _ => by
    cases x
    exact .nil
  | d :: ds, _, x, p, hu => by
    obtain ⟨v, vs, rfl, x1, x2⟩ := well_cons x
    have q : plW d = true ∧ plWs ds = true := Bool.and_eq_true_iff.mp p
    exact .cons (dw_one KX ar d v x1 q.1 (hu _ (List.mem_cons_self ..))) (dw_all KX ar ds vs x2 q.2 fun u m => hu u (List.mem_cons_of_mem _ m))
end
end
/-! ### the call -/
theorem spec_call {P : Program} {w : World} {K : PySem.W.Frag} {mg mb : Str → Option Value} {CX : CXT} {k : Nat} {fa : Addr} {fd : FuncData} {ps : List Str} {sp : Sp} {s₁ : Shared} {vals : List Value} {ds : List WData} {R : PySem.W.WRecords} {cl : Str → Option Addr} {d0 : WData}
    (KX : K.In s₁.heap) (hns : s₁.heap.Ns mainGlobals mg) (hb : s₁.heap.Ns builtinsNs mb) (hbb : ∀ x : Str, x ≠ "__name__" → mb x = bootBuiltins x) (hlim : s₁.heap.NoLimit) (hg : s₁.gens = #[])
    (hwl : WellAll w.params s₁.heap vals ds) (hpl : plWs ds = true) (hwt : ∀ d ∈ ds, d.weight ≤ 1048576) (hr : Room k callerA)
    (F : ∀ base : Heap, K.In base → base.Ns mainGlobals mg → FnOk P w K mg base CX k fa fd ps sp) (hbind : ∀ (s : Shared) (us : List Value), us.length = ps.length → BindsTo s fd ⟨us, []⟩ (ps.zip us)) (hlen : ds.length = ps.length)
    (hsp : ∀ (H : Hp) (xs : List V), OnlyF H → DwAll K H xs ds → sp xs H (fun v H' => Dw K H' v d0) fun _ _ _ => False)
    (hCX : ∀ H e s', CX [] H s₁ (fun _ _ _ => False) e s' → False) :
    codeAny (model P w) callerA (.call (.ref fa) ⟨vals, []⟩) (fun r s' => ∃ u as, r = .ok (.ret u) ∧ ReadsW R cl s'.heap u d0 as ∧ OldK s₁.heap s'.heap ∧ s'.os = s₁.os ∧ AllBare s'.gens) s₁ := by
  obtain ⟨A, ho, ar⟩ := area_all ds vals hwl hpl hwt
  have hO : OnlyF (argH K s₁.heap A) := argH_only ar
  have hok : HOk P w (argH K s₁.heap A) s₁.heap := argH_ok ar
  have hS := dw_all KX ar ds vals hwl hpl ho
  have hV := vals_toV ho
  have hK : ∀ b u, argH K s₁.heap A b = some u → K.lookup b = none := fun b u q => (argH_is ar q).1
  have noA : ∀ {b : Addr} {o : Obj} {es : Array DictEntry} {ep : Nat}, s₁.heap.get? b = some o → o.data = .dict es ep → argH K s₁.heap A b = none := fun {b o es ep} e d => by
    cases q : argH K s₁.heap A b with
    | none => rfl
    | some u =>
      obtain ⟨_, vs, _, _, ⟨e2, _⟩ | ⟨e2, _⟩⟩ := argH_is ar q
      · rw [e2] at e
        cases e
        have d' : Data.seq vs.toArray _ = Data.dict es ep := d
        cases d'
      · rw [e2] at e
        cases e
        have d' : Data.seq vs.toArray _ = Data.dict es ep := d
        cases d'
  generalize argH K s₁.heap A = H at hO hok hS hK noA
  have base_of : ∀ {b : Addr} {o : Obj}, s₁.heap.get? b = some o → H b = none → (hidT s₁.heap H).get? b = some o := fun e n => hidT_get e n
  have nsK : ∀ {b : Addr} {m : Str → Option Value}, s₁.heap.Ns b m → (hidT s₁.heap H).Ns b m := fun {b m} ⟨o, es, ep, e, d, r⟩ => ⟨o, es, ep, base_of e (noA e d), d, r⟩
  have nK : ∀ b o, K.lookup b = some o → H b = none := fun b o e => by
    cases q : H b with
    | none => rfl
    | some u =>
      rw [hK b u q] at e
      cases e
  have hKb : K.In (hidT s₁.heap H) := fun b o e => base_of (KX b o e) (nK b o e)
  have hM : Mod K mg (hidT s₁.heap H) := ⟨hKb, nsK hns, ⟨mb, nsK hb, hbb⟩, let ⟨mc, h1, h2⟩ := hlim; ⟨mc, nsK h1, h2⟩⟩
  have e0 : Env0 P w K mg (hidT s₁.heap H) callerA [] s₁ H := ⟨rfl, hM, fun b o e => of_hidT e, Nat.le_of_eq (hidT_size _ _), trivial, fun b hb => absurd (show b ∈ ([] : List Addr) from hb) (by simp), hok, .of_eq hg⟩
  have hl : vals.length = ps.length := by rw [wellAll_len hwl]; exact hlen
  refine codeAny_mono ((F _ hKb (nsK hns)).run callerA [] s₁ H ⟨vals, []⟩ vals (vals.map toV) _ _ hr e0 (hbind s₁ vals hl) hV (hsp H _ hO hS)) fun r s' x => ?_
  cases r with
  | error e => exact (hCX H e s' x).elim
  | ok fl =>
    cases fl with
    | next => exact False.elim x
    | brk => exact False.elim x
    | cont => exact False.elim x
    | ret u =>
      obtain ⟨v, H', os, bare, un, hok', r', q⟩ := x
      have kept : ∀ b o, s₁.heap.get? b = some o → s'.heap.get? b = some o := fun b o e => by
        cases q2 : H b with
        | none => exact un.keep b o e q2 (by intro z; exact absurd (show b ∈ ([] : List Addr) from z) (by simp)) (by simp)
        | some u2 =>
          rcases hO b with z | ⟨ob, u3, z⟩
          · rw [q2] at z
            cases z
          · have z2 := un.frzs b ob _ z
            obtain ⟨e1, _⟩ := hok b _ z
            obtain ⟨e2, _⟩ := hok' b _ z2
            rw [e] at e1
            cases e1
            exact e2
      have KX' : K.In s'.heap := fun b o e => kept b o (KX b o e)
      obtain ⟨as, hrd⟩ := Dw.reads (R := R) (cl := cl) hok' KX' d0 v u q r'
      exact ⟨u, as, rfl, hrd, OldK.of_keep kept, os, bare⟩
/-! ### the row -/
theorem layable_weight {ds : List WData} (h : WData.layableAll ds = true) : ∀ d ∈ ds, d.weight ≤ 1048576 := fun d hd =>
  (PySem.W.layableW_iff.mp (List.all_eq_true.mp h d hd)).2.2
theorem encAll_len : ∀ (cs : List Codec) (a : Codec.denoteAll cs), (Codec.encAll cs a).length = cs.length
  | [], _ => rfl
  | c :: cs, a => by
    show (Codec.encAll cs a.2).length + 1 = cs.length + 1
    rw [encAll_len cs a.2]
/-- the goal that k_headS leaves (case hc), from the promise of the row's def: whatever the arguments that the codecs let and the row asks for, the def gives what stands for enc (f ..) -/
theorem walk_spec {r : OpenSpec} {k : Nat} {q : Program} {loose : List Str} {XP : (Str → Option Value) → Heap → Prop} {YP : World → Heap → Prop} {d : DefRec} {K : Params → PySem.W.Frag} {CX : World → CXT} {ps : List Str} {sp : World → Sp}
    (hwell : r.wellSaid = true) (hdf : d.params.defaults = []) (hlen : r.args.length = ps.length) (hr : Room k callerA)
    (hY : ∀ (w : World) (h : Heap), YP w h → (K w.params).In h)
    (F : ∀ (w : World) (mg : Str → Option Value) (fa : Addr) (h : Heap), YP w h → (K w.params).In h → h.Ns mainGlobals mg → mg d.name = some (.ref fa) →
      ∃ fd : FuncData, (∀ (s : Shared) (us : List Value), us.length = ps.length → BindsTo s fd ⟨us, []⟩ (ps.zip us)) ∧
        ∀ base : Heap, (K w.params).In base → base.Ns mainGlobals mg → FnOk r.prog w (K w.params) mg base (CX w) k fa fd ps (sp w))
    (hsp : ∀ (w : World) (H : Hp) (xs : List V) (a : Codec.denoteAll r.args), OnlyF H → Codec.withinAll r.args a = true → Codec.app r.args r.asked a = true → DwAll (K w.params) H xs (Codec.encAll r.args a) →
      sp w xs H (fun v H' => Dw (K w.params) H' v (r.ret.enc (Codec.app r.args r.f a))) fun _ _ _ => False)
    (hCX : ∀ (w : World) (H : Hp) (s : Shared) (e : Value) (s' : Shared), CX w [] H s (fun _ _ _ => False) e s' → False) :
    PySem.W.WalkOS q loose XP YP r d [] (fun f vs => PySem.call f vs) := by
  intro w s_0 s₁ mg mb G Y fa o pm cd doc dV kV ho hd hcd hD hmg hg args vals as hpre hlay hrd hwl hlo
  obtain ⟨a, e1, e2⟩ := PySem.W.os_pre_some hpre
  obtain ⟨e3, hwi⟩ := Codec.encAll_of_decAll r.args args a e1
  subst e3
  have KX := hY w _ Y
  obtain ⟨fd, hb, hF⟩ := F w mg fa _ Y KX G.T.g hmg
  refine PySem.W.enter_call (codeAny_mono (spec_call (R := []) (cl := classAt s_0.heap) (d0 := r.ret.enc (Codec.app r.args r.f a)) KX G.T.g G.T.b G.T.builtins G.T.nolimit hg hwl (pl_encAll _ _) (layable_weight hlay) hr hF hb (by rw [encAll_len]; exact hlen)
    (fun H xs hO hS => hsp w H xs a hO hwi e2 hS) fun H e s' => hCX w H s₁ e s') fun r' s' hq => ?_)
  obtain ⟨u, as', rfl, h1, h2, h3, h4⟩ := hq
  exact ⟨.inl ⟨u, _, as', rfl, fun _ => rfl, h1, (OpenSpec.post_iff hwell hwi _ _).mpr rfl, fun z => Bool.noConfusion (show false = true from z)⟩, h2, h3, h4⟩
/-- the same where the promise hangs on the written part alone -/
theorem walk_specK {r : OpenSpec} {k : Nat} {q : Program} {loose : List Str} {XP : (Str → Option Value) → Heap → Prop} {YP : World → Heap → Prop} {d : DefRec} {K : Params → PySem.W.Frag} {CX : CXT} {ps : List Str} {sp : PySem.W.Frag → Sp}
    (hwell : r.wellSaid = true) (hdf : d.params.defaults = []) (hlen : r.args.length = ps.length) (hr : Room k callerA)
    (hY : ∀ (w : World) (h : Heap), YP w h → (K w.params).In h)
    (F : ∀ (w : World) (mg : Str → Option Value) (fa : Addr) (h : Heap), YP w h → (K w.params).In h → h.Ns mainGlobals mg → mg d.name = some (.ref fa) →
      ∃ fd : FuncData, (∀ (s : Shared) (us : List Value), us.length = ps.length → BindsTo s fd ⟨us, []⟩ (ps.zip us)) ∧
        ∀ base : Heap, (K w.params).In base → base.Ns mainGlobals mg → FnOk r.prog w (K w.params) mg base CX k fa fd ps (sp (K w.params)))
    (hsp : ∀ (K : PySem.W.Frag) (H : Hp) (xs : List V) (a : Codec.denoteAll r.args), OnlyF H → Codec.withinAll r.args a = true → Codec.app r.args r.asked a = true → DwAll K H xs (Codec.encAll r.args a) →
      sp K xs H (fun v H' => Dw K H' v (r.ret.enc (Codec.app r.args r.f a))) fun _ _ _ => False)
    (hCX : ∀ (H : Hp) (s : Shared) (e : Value) (s' : Shared), CX [] H s (fun _ _ _ => False) e s' → False) :
    PySem.W.WalkOS q loose XP YP r d [] (fun f vs => PySem.call f vs) :=
  walk_spec (K := K) (CX := fun _ => CX) (sp := fun w => sp (K w.params)) hwell hdf hlen hr hY F (fun w H xs a h1 h2 h3 h4 => hsp (K w.params) H xs a h1 h2 h3 h4) fun _ H s e s' => hCX H s e s'
end L2
-- rests on (row put in by the clerk, for the bench that shows a file only what it spells): KE.SpHead KE.OsShapes
end

set_option linter.all false
set_option Elab.async false
namespace Sp
open Su74

/-! ## lists -/
def onC (l : List Nat) : List Nat := l.filter fun x => x != 0
theorem mem_onC {l : List Nat} {x : Nat} : x ∈ onC l ↔ x ∈ l ∧ x ≠ 0 := by
  unfold onC
  rw [List.mem_filter]
  constructor
  · rintro ⟨h, k⟩; exact ⟨h, by simpa using k⟩
  · rintro ⟨h, k⟩; exact ⟨h, by simpa using k⟩
theorem load_eq (a : Abs) : a.load = (onC a.places).length := rfl

/-! ## what holds of a state -/
structure WF (a : Abs) : Prop where
  ev : 1 ≤ a.every ∧ a.every ≤ 60
  ba : 1 ≤ a.base ∧ a.base ≤ 600
  wa : a.warm ≤ 50
  dr : a.door ≤ 200
  sl : 1 ≤ a.slow ∧ a.slow ≤ 500
  wt : 1 ≤ a.want ∧ a.want ≤ 500
  pl : 1 ≤ a.places.length ∧ a.places.length ≤ 12
  tr : a.trays.length ≤ 100
  lf : a.left ≤ 500
  ole : a.out.length ≤ a.trays.length
  fifo : onC a.places = (List.range' (a.out.length + 1) (a.trays.length - a.out.length)).reverse
  onum : a.out.map Prod.fst = List.range a.out.length
  ofr : ∀ x ∈ a.out, x.2.2 = (a.tray x.1).frost
  fr : ∀ t ∈ a.trays, t.frost ≤ 600

theorem tray_at {a : Abs} {t : Nat} (h : t < a.trays.length) : a.trays[t]? = some (a.tray t) := by
  unfold Abs.tray
  rw [List.getD_eq_getElem?_getD, List.getElem?_eq_getElem h]
  rfl
theorem tray_mem {a : Abs} {t : Nat} (h : t < a.trays.length) : a.tray t ∈ a.trays := List.mem_of_getElem? (tray_at h)
theorem WF.inside {a : Abs} (W : WF a) (t : Nat) : a.inside t = true ↔ a.out.length ≤ t ∧ t < a.trays.length := by
  have h1 : a.inside t = true ↔ t + 1 ∈ onC a.places := by
    rw [mem_onC]
    unfold Abs.inside
    rw [List.contains_iff_mem]
    constructor
    · intro h; exact ⟨h, by omega⟩
    · intro h; exact h.1
  rw [h1, W.fifo, List.mem_reverse, List.mem_range'_1]
  have := W.ole
  omega
theorem WF.place_lt {a : Abs} (W : WF a) {x : Nat} (h : x ∈ a.places) (h0 : x ≠ 0) : a.out.length ≤ x - 1 ∧ x - 1 < a.trays.length := by
  have h1 : x ∈ onC a.places := mem_onC.mpr ⟨h, h0⟩
  rw [W.fifo, List.mem_reverse, List.mem_range'_1] at h1
  have := W.ole
  omega
theorem WF.onC_nodup {a : Abs} (W : WF a) : (onC a.places).Nodup := by
  rw [W.fifo]
  unfold List.Nodup
  rw [List.pairwise_reverse]
  exact (List.nodup_range' (s := a.out.length + 1) (n := a.trays.length - a.out.length)).imp fun h => fun q => h q.symm
theorem WF.load_le {a : Abs} (W : WF a) : a.load ≤ a.places.length := by
  rw [load_eq]
  exact List.length_filter_le _ _

/-! ## air, a minute's change -/
theorem WF.air_le {a : Abs} (W : WF a) (n : Nat) (o : Bool) : a.air n o ≤ 600 := by
  have := W.ba.2
  unfold Abs.air
  have h : a.base - n * a.warm ≤ a.base := Nat.sub_le _ _
  omega
theorem next_le {a : Abs} {air f : Nat} (h1 : air ≤ 600) (h2 : f ≤ 600) : a.next air f ≤ 600 := by
  unfold Abs.next
  split
  · have : min (air - f) ((air - f) / a.slow + 1) ≤ air - f := Nat.min_le_left _ _
    omega
  · split <;> omega
/-- as the program reckons it -/
theorem next_int {a : Abs} (hs : 1 ≤ a.slow) (air f : Nat) (h : f < air) : ((a.next air f : Nat) : Int) = min (air : Int) ((f : Int) + 1 + ((air : Int) - f) / a.slow) := by
  unfold Abs.next
  rw [if_pos h]
  have e : ((air : Int) - f) / (a.slow : Int) = (((air - f) / a.slow : Nat) : Int) := by
    rw [← Int.ofNat_sub (Nat.le_of_lt h)]
    rfl
  rw [e]
  omega
theorem air_int (a : Abs) (n : Nat) (o : Bool) : ((a.air n o : Nat) : Int) = max 0 ((a.base : Int) - (a.warm : Int) * n - (if o then (a.door : Int) else 0)) := by
  unfold Abs.air
  have e : (a.warm : Int) * n = ((n * a.warm : Nat) : Int) := by rw [Int.natCast_mul, Int.mul_comm]
  rw [e]
  cases o <;> simp <;> omega

/-! ## a minute -/
theorem cools_len (a : Abs) : a.cools.trays.length = a.trays.length := by
  unfold Abs.cools
  simp
theorem cools_tray (a : Abs) {t : Nat} (h : t < a.trays.length) : a.cools.tray t = if a.inside t then { (a.tray t) with frost := a.next (a.air a.load (a.left != 0)) (a.tray t).frost } else a.tray t := by
  have e : a.cools.trays[t]? = some (if a.inside t then { (a.tray t) with frost := a.next (a.air a.load (a.left != 0)) (a.tray t).frost } else a.tray t) := by
    unfold Abs.cools
    simp only [List.getElem?_map, List.getElem?_range h, Option.map_some]
  show a.cools.trays.getD t _ = _
  rw [List.getD_eq_getElem?_getD, e]
  rfl
theorem WF.cools {a : Abs} (W : WF a) : WF a.cools := by
  have hl := cools_len a
  refine ⟨W.ev, W.ba, W.wa, W.dr, W.sl, W.wt, W.pl, hl ▸ W.tr, W.lf, hl ▸ W.ole, ?_, W.onum, ?_, ?_⟩
  · show onC a.places = _
    rw [hl]
    exact W.fifo
  · intro x hx
    have hx' : x ∈ a.out := hx
    have hm : x.1 ∈ a.out.map Prod.fst := List.mem_map_of_mem hx'
    rw [W.onum, List.mem_range] at hm
    have := W.ole
    rw [cools_tray a (by omega), if_neg]
    · exact W.ofr x hx'
    · intro q
      have := (W.inside x.1).mp q
      omega
  · intro t ht
    unfold Abs.cools at ht
    simp only [List.mem_map, List.mem_range] at ht
    obtain ⟨j, hj, rfl⟩ := ht
    have h6 := W.fr _ (tray_mem hj)
    split
    · exact next_le (W.air_le _ _) h6
    · exact h6
def Abs.later (a : Abs) : Abs := { a.cools with now_ := a.now_ + 1, left := a.left - 1 }
theorem later_tray (a : Abs) (t : Nat) : (Abs.later a).tray t = a.cools.tray t := rfl
theorem WF.later {a : Abs} (W : WF a) : WF (Abs.later a) := by
  have C := W.cools
  exact ⟨C.ev, C.ba, C.wa, C.dr, C.sl, C.wt, C.pl, C.tr, by have := C.lf; show a.left - 1 ≤ 500; have : a.cools.left = a.left := rfl; omega, C.ole, C.fifo, C.onum, C.ofr, C.fr⟩
theorem minute_eq (a : Abs) : a.minute = if (a.now_ + 1) % a.every = 0 then (Abs.later a).moves else Abs.later a := rfl
theorem getLastD_split : ∀ (l : List Nat), l ≠ [] → l = l.dropLast ++ [l.getLastD 0] := by
  intro l h
  rw [List.getLastD_eq_getLast?, List.getLast?_eq_some_getLast h]
  exact (List.dropLast_concat_getLast h).symm
theorem onC_append (l m : List Nat) : onC (l ++ m) = onC l ++ onC m := List.filter_append ..
theorem range'_tail (s n : Nat) (h : 0 < n) : (List.range' s n).reverse = (List.range' (s + 1) (n - 1)).reverse ++ [s] := by
  obtain ⟨m, rfl⟩ : ∃ m, n = m + 1 := ⟨n - 1, by omega⟩
  rw [List.range'_succ, List.reverse_cons]
  rfl
theorem snoc_inj {α : Type} {l m : List α} {x y : α} (h : l ++ [x] = m ++ [y]) : l = m ∧ x = y := by
  have := List.append_inj' h rfl
  exact ⟨this.1, by simpa using this.2⟩
/-- the last place is empty -/
theorem WF.moves0 {a : Abs} (W : WF a) (h : a.places.getLastD 0 = 0) : WF a.moves := by
  have hne : a.places ≠ [] := by intro q; have := W.pl.1; rw [q] at this; simp at this
  have hs := getLastD_split a.places hne
  have e : a.moves = { a with places := 0 :: a.places.dropLast } := by
    unfold Abs.moves
    simp only [h, if_true]
  rw [e]
  refine ⟨W.ev, W.ba, W.wa, W.dr, W.sl, W.wt, ?_, W.tr, W.lf, W.ole, ?_, W.onum, W.ofr, W.fr⟩
  · show 1 ≤ (0 :: a.places.dropLast).length ∧ (0 :: a.places.dropLast).length ≤ 12
    have := W.pl
    simp only [List.length_cons, List.length_dropLast]
    omega
  · show onC (0 :: a.places.dropLast) = _
    have f := W.fifo
    rw [hs, onC_append, h] at f
    simpa [onC] using f
theorem moves1_eq {a : Abs} (h : a.places.getLastD 0 ≠ 0) : a.moves = { a with places := 0 :: a.places.dropLast, out := a.out ++ [(a.places.getLastD 0 - 1, a.now_, (a.tray (a.places.getLastD 0 - 1)).frost)] } := by
  unfold Abs.moves
  simp only [if_neg h]
theorem WF.last1 {a : Abs} (W : WF a) (h : a.places.getLastD 0 ≠ 0) : a.places.getLastD 0 - 1 = a.out.length ∧ a.out.length < a.trays.length ∧ onC a.places.dropLast = (List.range' (a.out.length + 1 + 1) (a.trays.length - (a.out.length + 1))).reverse := by
  have hne : a.places ≠ [] := by intro q; have := W.pl.1; rw [q] at this; simp at this
  have hs := getLastD_split a.places hne
  have f := W.fifo
  rw [hs, onC_append] at f
  have e1 : onC [a.places.getLastD 0] = [a.places.getLastD 0] := by
    unfold onC
    rw [List.filter_cons, if_pos (by simpa using h), List.filter_nil]
  rw [e1] at f
  have hp : 0 < a.trays.length - a.out.length := by
    cases q : a.trays.length - a.out.length with
    | zero => rw [q] at f; simp at f
    | succ n => omega
  rw [range'_tail _ _ hp] at f
  obtain ⟨f1, f2⟩ := snoc_inj f
  refine ⟨by omega, by omega, ?_⟩
  rw [f1]
  congr 2
theorem WF.moves1 {a : Abs} (W : WF a) (h : a.places.getLastD 0 ≠ 0) : WF a.moves := by
  obtain ⟨h1, h2, h3⟩ := W.last1 h
  rw [moves1_eq h]
  refine ⟨W.ev, W.ba, W.wa, W.dr, W.sl, W.wt, ?_, W.tr, W.lf, ?_, ?_, ?_, ?_, W.fr⟩
  · show 1 ≤ (0 :: a.places.dropLast).length ∧ (0 :: a.places.dropLast).length ≤ 12
    have := W.pl
    simp only [List.length_cons, List.length_dropLast]
    omega
  · show (a.out ++ [_]).length ≤ _
    rw [List.length_append, List.length_singleton]
    exact h2
  · show onC (0 :: a.places.dropLast) = _
    have e : onC (0 :: a.places.dropLast) = onC a.places.dropLast := by simp [onC]
    rw [e, h3]
    simp only [List.length_append, List.length_singleton]
  · show (a.out ++ [_]).map Prod.fst = _
    simp only [List.map_append, List.map_cons, List.map_nil, List.length_append, List.length_singleton]
    rw [W.onum, List.range_succ, h1]
  · intro x hx
    have hx' : x ∈ a.out ++ [(a.places.getLastD 0 - 1, a.now_, (a.tray (a.places.getLastD 0 - 1)).frost)] := hx
    rcases List.mem_append.mp hx' with hx' | hx'
    · exact W.ofr x hx'
    · rw [List.mem_singleton] at hx'
      subst hx'
      rfl
theorem WF.moves {a : Abs} (W : WF a) : WF a.moves := by
  by_cases h : a.places.getLastD 0 = 0
  · exact W.moves0 h
  · exact W.moves1 h
theorem WF.minute {a : Abs} (W : WF a) : WF a.minute := by
  rw [minute_eq]
  split
  · exact W.later.moves
  · exact W.later
theorem WF.goes {a : Abs} (W : WF a) (n : Nat) : WF (a.goes n) := by
  induction n generalizing a with
  | zero => exact W
  | succ n ih => exact ih W.minute
theorem goes_succ (a : Abs) (n : Nat) : a.goes (n + 1) = (a.goes n).minute := by
  induction n generalizing a with
  | zero => rfl
  | succ n ih =>
    show a.minute.goes (n + 1) = _
    rw [ih]
    rfl
end Sp

set_option linter.all false
set_option Elab.async false
namespace Sp
open Su74

/-! ## what minutes leave as it was -/
structure Kin (a b : Abs) : Prop where
  ev : b.every = a.every
  ba : b.base = a.base
  wa : b.warm = a.warm
  dr : b.door = a.door
  sl : b.slow = a.slow
  wt : b.want = a.want
  pl : b.places.length = a.places.length
  tr : b.trays.length = a.trays.length
theorem Kin.refl (a : Abs) : Kin a a := ⟨rfl, rfl, rfl, rfl, rfl, rfl, rfl, rfl⟩
theorem Kin.trans {a b c : Abs} (h : Kin a b) (k : Kin b c) : Kin a c :=
  ⟨k.ev.trans h.ev, k.ba.trans h.ba, k.wa.trans h.wa, k.dr.trans h.dr, k.sl.trans h.sl, k.wt.trans h.wt, k.pl.trans h.pl, k.tr.trans h.tr⟩
theorem later_kin (a : Abs) : Kin a (Abs.later a) := ⟨rfl, rfl, rfl, rfl, rfl, rfl, rfl, cools_len a⟩
theorem moves_kin {a : Abs} (h : 1 ≤ a.places.length) : Kin a a.moves := by
  refine ⟨rfl, rfl, rfl, rfl, rfl, rfl, ?_, rfl⟩
  show (0 :: a.places.dropLast).length = _
  simp only [List.length_cons, List.length_dropLast]
  omega
theorem WF.minute_kin {a : Abs} (W : WF a) : Kin a a.minute := by
  rw [minute_eq]
  split
  · exact (later_kin a).trans (moves_kin W.later.pl.1)
  · exact later_kin a
theorem WF.goes_kin {a : Abs} (W : WF a) (n : Nat) : Kin a (a.goes n) := by
  induction n generalizing a with
  | zero => exact Kin.refl a
  | succ n ih => exact W.minute_kin.trans (ih W.minute)
theorem moves_now (a : Abs) : a.moves.now_ = a.now_ := rfl
theorem minute_now (a : Abs) : a.minute.now_ = a.now_ + 1 := by
  rw [minute_eq]
  split <;> rfl
theorem goes_now (a : Abs) (n : Nat) : (a.goes n).now_ = a.now_ + n := by
  induction n generalizing a with
  | zero => rfl
  | succ n ih =>
    show (a.minute.goes n).now_ = _
    rw [ih, minute_now]
    omega
/-- what came out in a minute: one tray or none -/
def cameM (a : Abs) : List (Nat × Nat × Nat) :=
  if (a.now_ + 1) % a.every = 0 then
    (if a.places.getLastD 0 = 0 then [] else [(a.places.getLastD 0 - 1, a.now_ + 1, (a.cools.tray (a.places.getLastD 0 - 1)).frost)])
  else []
theorem minute_out (a : Abs) : a.minute.out = a.out ++ cameM a := by
  rw [minute_eq]
  unfold cameM
  split
  · show (if a.places.getLastD 0 = 0 then a.out else a.out ++ _) = _
    split
    · rw [List.append_nil]
    · rfl
  · show a.out = _
    rw [List.append_nil]
/-- what came out in so many minutes -/
def came (a : Abs) : Nat → List (Nat × Nat × Nat)
  | 0 => []
  | n + 1 => came a n ++ cameM (a.goes n)
theorem goes_out (a : Abs) : ∀ n : Nat, (a.goes n).out = a.out ++ came a n
  | 0 => by
    show a.out = a.out ++ []
    rw [List.append_nil]
  | n + 1 => by
    rw [goes_succ, minute_out, goes_out a n]
    show _ = a.out ++ (came a n ++ cameM (a.goes n))
    rw [List.append_assoc]
theorem goes_out_len (a : Abs) (n : Nat) : (a.goes n).out.length - a.out.length = (came a n).length := by
  rw [goes_out, List.length_append]
  omega
theorem goes_soft_len {a : Abs} (W : WF a) (n : Nat) : (a.goes n).soft.length - a.soft.length = ((came a n).filter fun x => decide (x.2.2 < a.want)).length := by
  have e : (a.goes n).soft = a.soft ++ ((came a n).filter fun x => decide (x.2.2 < a.want)).map Prod.fst := by
    unfold Abs.soft
    rw [(W.goes_kin n).wt, goes_out, List.filter_append, List.map_append]
  rw [e, List.length_append, List.length_map]
  omega
theorem came_len_le {a : Abs} (W : WF a) (n : Nat) : a.out.length + (came a n).length ≤ a.trays.length := by
  have h := (W.goes n).ole
  rw [(W.goes_kin n).tr, goes_out, List.length_append] at h
  exact h

/-! ## when a tray comes out -/
theorem idx_lt {a : Abs} {t : Nat} (h : a.inside t = true) : a.places.idxOf (t + 1) < a.places.length := by
  unfold Abs.inside at h
  rw [List.contains_iff_mem] at h
  exact List.idxOf_lt_length_iff.mpr h
theorem idx_get {a : Abs} {t : Nat} (h : a.inside t = true) : a.places[a.places.idxOf (t + 1)]? = some (t + 1) := by
  rw [List.getElem?_eq_getElem (idx_lt h)]
  simp
theorem ends_pos {a : Abs} (W : WF a) (t : Nat) : 1 ≤ a.ends t := by
  unfold Abs.ends
  have h1 := Nat.mod_lt a.now_ (show 0 < a.every from W.ev.1)
  omega
theorem ends_int {a : Abs} (W : WF a) {t : Nat} (h : a.inside t = true) :
    ((a.ends t : Nat) : Int) = ((a.places.length : Int) - (a.places.idxOf (t + 1) : Nat)) * (a.every : Int) - ((a.now_ : Int) % (a.every : Int)) := by
  have h1 := Nat.mod_lt a.now_ (show 0 < a.every from W.ev.1)
  have h2 := idx_lt h
  unfold Abs.ends
  obtain ⟨d, hd⟩ : ∃ d, a.places.length = a.places.idxOf (t + 1) + 1 + d := ⟨a.places.length - a.places.idxOf (t + 1) - 1, by omega⟩
  have e1 : a.places.length - a.places.idxOf (t + 1) - 1 = d := by omega
  have e2 : (a.places.length : Int) - (a.places.idxOf (t + 1) : Nat) = (d : Int) + 1 := by omega
  rw [e1, e2, Int.add_mul]
  have e3 : (a.now_ : Int) % (a.every : Int) = ((a.now_ % a.every : Nat) : Int) := rfl
  rw [e3, Int.natCast_add, Int.natCast_mul]
  omega
theorem idxOf_cons0 (l : List Nat) (t : Nat) : (0 :: l).idxOf (t + 1) = l.idxOf (t + 1) + 1 := by
  rw [List.idxOf_cons]
  simp
theorem later_ends (a : Abs) (t : Nat) : (Abs.later a).inside t = a.inside t := rfl
theorem mod_succ {n e : Nat} (he : 1 ≤ e) : (n + 1) % e = if n % e + 1 = e then 0 else n % e + 1 := by
  have h1 := Nat.mod_lt n (show 0 < e by omega)
  have h2 : (n + 1) % e = (n % e + 1) % e := by
    rw [Nat.add_mod n 1 e]
    by_cases q : e = 1
    · subst q; simp [Nat.mod_one]
    · rw [Nat.mod_eq_of_lt (show 1 < e by omega)]
  rw [h2]
  split
  · rename_i q; rw [q, Nat.mod_self]
  · exact Nat.mod_eq_of_lt (by omega)
/-- a minute nearer -/
theorem ends_step {a : Abs} (W : WF a) {t : Nat} (h : a.inside t = true) (h1 : a.ends t ≠ 1) : a.minute.inside t = true ∧ a.minute.ends t + 1 = a.ends t := by
  have hm := Nat.mod_lt a.now_ (show 0 < a.every from W.ev.1)
  have hi := idx_lt h
  have he := W.ev.1
  rw [minute_eq]
  have ms := mod_succ (n := a.now_) he
  by_cases c : a.now_ % a.every + 1 = a.every
  · rw [if_pos c] at ms
    rw [if_pos ms]
    -- the chain moves
    have hd : a.places.idxOf (t + 1) + 1 < a.places.length := by
      rcases Nat.lt_or_ge (a.places.idxOf (t + 1) + 1) a.places.length with q | q
      · exact q
      · exfalso
        apply h1
        unfold Abs.ends
        have e1 : a.places.length - a.places.idxOf (t + 1) - 1 = 0 := by omega
        rw [e1]
        omega
    have hp : (Abs.later a).moves.places = 0 :: a.places.dropLast := rfl
    have ha : a.places = a.places.dropLast ++ [a.places.getLastD 0] := getLastD_split _ (by intro q; rw [q] at hi; simp at hi)
    have hmem : t + 1 ∈ a.places.dropLast := by
      have g := idx_get h
      have gd : a.places.dropLast[a.places.idxOf (t + 1)]? = some (t + 1) := by
        rw [List.getElem?_dropLast, if_pos (by omega)]
        exact g
      exact List.mem_of_getElem? gd
    have hix : a.places.dropLast.idxOf (t + 1) = a.places.idxOf (t + 1) := by
      conv => rhs; rw [ha]
      rw [List.idxOf_append, if_pos hmem]
    constructor
    · unfold Abs.inside
      rw [hp, List.contains_iff_mem]
      exact List.mem_cons_of_mem _ hmem
    · unfold Abs.ends
      rw [hp, idxOf_cons0, hix]
      show ((0 :: a.places.dropLast).length - (a.places.idxOf (t + 1) + 1) - 1) * a.every + (a.every - (a.now_ + 1) % a.every) + 1 = _
      rw [ms]
      have e0 : (0 :: a.places.dropLast).length = a.places.length := by
        simp only [List.length_cons, List.length_dropLast]
        omega
      rw [e0]
      obtain ⟨d, hd⟩ : ∃ d, a.places.length = a.places.idxOf (t + 1) + 2 + d := ⟨a.places.length - a.places.idxOf (t + 1) - 2, by omega⟩
      have e1 : a.places.length - (a.places.idxOf (t + 1) + 1) - 1 = d := by omega
      have e2 : a.places.length - a.places.idxOf (t + 1) - 1 = d + 1 := by omega
      rw [e1, e2, Nat.add_mul]
      omega
  · rw [if_neg c] at ms
    rw [if_neg (by omega)]
    refine ⟨h, ?_⟩
    show (a.places.length - a.places.idxOf (t + 1) - 1) * a.every + (a.every - (a.now_ + 1) % a.every) + 1 = (a.places.length - a.places.idxOf (t + 1) - 1) * a.every + (a.every - a.now_ % a.every)
    rw [ms]
    omega
theorem getLastD_snoc {α : Type} (l : List α) (x d : α) : (l ++ [x]).getLastD d = x := by
  rw [List.getLastD_eq_getLast?, List.getLast?_append]
  simp
/-- the minute in which it comes out -/
theorem ends_last {a : Abs} (W : WF a) {t : Nat} (h : a.inside t = true) (h1 : a.ends t = 1) : (a.minute.out.getLastD (0, 0, 0)).2.2 = (a.minute.tray t).frost := by
  have hm := Nat.mod_lt a.now_ (show 0 < a.every from W.ev.1)
  have hi := idx_lt h
  have he := W.ev.1
  have hd : a.places.length - a.places.idxOf (t + 1) - 1 = 0 ∧ a.now_ % a.every + 1 = a.every := by
    unfold Abs.ends at h1
    generalize hq : a.places.length - a.places.idxOf (t + 1) - 1 = q at h1 ⊢
    cases q with
    | zero => omega
    | succ q =>
      rw [Nat.add_mul] at h1
      omega
  have ms := mod_succ (n := a.now_) he
  rw [if_pos hd.2] at ms
  rw [minute_out]
  have hl : a.places.getLastD 0 = t + 1 := by
    have g := idx_get h
    have e : a.places.idxOf (t + 1) = a.places.length - 1 := by omega
    rw [e] at g
    rw [List.getLastD_eq_getLast?, List.getLast?_eq_getElem?, g]
    rfl
  unfold cameM
  rw [if_pos ms, hl, if_neg (by omega), getLastD_snoc, minute_eq, if_pos ms]
  rfl
theorem ends_frost {a : Abs} (W : WF a) {t : Nat} (h : a.inside t = true) : ((a.goes (a.ends t)).out.getLastD (0, 0, 0)).2.2 = ((a.goes (a.ends t)).tray t).frost := by
  have hp := ends_pos W t
  generalize hn : a.ends t = n
  induction n generalizing a with
  | zero => omega
  | succ n ih =>
    by_cases q : a.ends t = 1
    · have : n = 0 := by omega
      subst this
      exact ends_last W h q
    · obtain ⟨h2, h3⟩ := ends_step W h q
      exact ih W.minute h2 (ends_pos W.minute t) (by omega)
end Sp

set_option linter.all false
set_option Elab.async false
namespace Sp
open Su74

/-! ## steady air -/
theorem steady_succ (a : Abs) (n : Nat) : ∀ (m f : Nat), a.steady n (m + 1) f = a.next (a.air n false) (a.steady n m f)
  | 0, f => rfl
  | m + 1, f => by
    show a.steady n (m + 1) (a.next (a.air n false) f) = a.next (a.air n false) (a.steady n m (a.next (a.air n false) f))
    exact steady_succ a n m _
theorem steady_add (a : Abs) (n : Nat) : ∀ (m k f : Nat), a.steady n (m + k) f = a.steady n k (a.steady n m f)
  | m, 0, f => rfl
  | m, k + 1, f => by
    show a.steady n ((m + k) + 1) f = _
    rw [steady_succ, steady_add a n m k f, steady_succ]
theorem steady_le {a : Abs} (W : WF a) (n : Nat) : ∀ (m : Nat) {f : Nat}, f ≤ 600 → a.steady n m f ≤ 600
  | 0, f, h => h
  | m + 1, f, h => by
    rw [steady_succ]
    exact next_le (W.air_le _ _) (steady_le W n m h)
theorem hardens_skip (a : Abs) (n : Nat) : ∀ (k m f : Nat), (∀ j, j < k → ¬ a.want ≤ a.steady n j f) → a.hardens n (k + m) f = (a.hardens n m (a.steady n k f)).map fun x => x + k
  | 0, m, f, _ => by
    rw [Nat.zero_add]
    show _ = (a.hardens n m f).map fun x => x + 0
    cases a.hardens n m f <;> rfl
  | k + 1, m, f, h => by
    have h0 : ¬ a.want ≤ f := h 0 (by omega)
    rw [show k + 1 + m = (k + m) + 1 by omega]
    show (if a.want ≤ f then some 0 else (a.hardens n (k + m) (a.next (a.air n false) f)).map fun m => m + 1) = _
    rw [if_neg h0, hardens_skip a n k m (a.next (a.air n false) f) (fun j hj => h (j + 1) (by omega))]
    show _ = (a.hardens n m (a.steady n k (a.next (a.air n false) f))).map fun x => x + (k + 1)
    cases a.hardens n m (a.steady n k (a.next (a.air n false) f)) with
    | none => rfl
    | some x => show some (x + k + 1) = some (x + (k + 1)); rfl
theorem hardens_some {a : Abs} {n k f F : Nat} (h : ∀ j, j < k → ¬ a.want ≤ a.steady n j f) (hk : a.want ≤ a.steady n k f) (hF : k < F) : a.hardens n F f = some k := by
  obtain ⟨m, rfl⟩ : ∃ m, F = k + (m + 1) := ⟨F - k - 1, by omega⟩
  rw [hardens_skip a n k (m + 1) f h]
  show (if a.want ≤ a.steady n k f then some 0 else _).map (fun x => x + k) = some k
  rw [if_pos hk]
  show some (0 + k) = some k
  rw [Nat.zero_add]
theorem hardens_none {a : Abs} {n f F : Nat} (h : ∀ j, j < F → ¬ a.want ≤ a.steady n j f) : a.hardens n F f = none := by
  have := hardens_skip a n F 0 f h
  rw [Nat.add_zero] at this
  rw [this]
  rfl
theorem drop1 (k : Nat) : (List.range (k + 1)).drop 1 = List.range' 1 k := by
  rw [List.range_eq_range', List.range'_succ]
  rfl
theorem find_range' {p : Nat → Bool} : ∀ (n s k : Nat), k < n → (∀ j, j < k → p (s + j) = false) → p (s + k) = true → (List.range' s n).find? p = some (s + k)
  | 0, s, k, h, _, _ => by omega
  | n + 1, s, 0, _, _, h => by
    rw [List.range'_succ, List.find?_cons_of_pos (by simpa using h)]
    rfl
  | n + 1, s, k + 1, hk, h, h1 => by
    rw [List.range'_succ, List.find?_cons_of_neg (by have := h 0 (by omega); simpa using this)]
    rw [find_range' n (s + 1) k (by omega) (fun j hj => by rw [show s + 1 + j = s + (j + 1) by omega]; exact h (j + 1) (by omega)) (by rw [show s + 1 + k = s + (k + 1) by omega]; exact h1)]
    congr 1
    omega
theorem find_none {p : Nat → Bool} {l : List Nat} (h : ∀ x ∈ l, p x = false) : l.find? p = none := by
  rw [List.find?_eq_none]
  intro x hx
  rw [h x hx]
  simp
theorem needs_some {a : Abs} {n f e : Nat} (h0 : 1 ≤ e) (h1 : e ≤ 60) (h : ∀ j, 1 ≤ j → j < e → ¬ a.want ≤ a.steady n (j * a.places.length) f) (hk : a.want ≤ a.steady n (e * a.places.length) f) : a.needs n f = some e := by
  unfold Abs.needs
  show ((List.range (60 + 1)).drop 1).find? _ = _
  rw [drop1]
  obtain ⟨k, rfl⟩ : ∃ k, e = 1 + k := ⟨e - 1, by omega⟩
  exact find_range' 60 1 k (by omega) (fun j hj => decide_eq_false (h (1 + j) (by omega) (by omega))) (decide_eq_true hk)
theorem needs_none {a : Abs} {n f : Nat} (h : ∀ j, 1 ≤ j → j ≤ 60 → ¬ a.want ≤ a.steady n (j * a.places.length) f) : a.needs n f = none := by
  unfold Abs.needs
  show ((List.range (60 + 1)).drop 1).find? _ = _
  rw [drop1]
  refine find_none fun x hx => ?_
  rw [List.mem_range'_1] at hx
  exact decide_eq_false (h x (by omega) (by omega))
theorem find_rev {p : Nat → Bool} : ∀ (n e : Nat), 1 ≤ e → e ≤ n → (∀ j, e < j → j ≤ n → p j = false) → p e = true → (List.range' 1 n).reverse.find? p = some e
  | 0, e, h1, h2, _, _ => by omega
  | n + 1, e, h1, h2, h, hp => by
    have e1 : (List.range' 1 (n + 1)).reverse = (1 + n) :: (List.range' 1 n).reverse := by
      rw [List.range'_concat, List.reverse_append]
      simp
    rw [e1]
    by_cases q : e = 1 + n
    · rw [List.find?_cons_of_pos (by rw [← q]; simpa using hp), q]
    · rw [List.find?_cons_of_neg (by rw [h (1 + n) (by omega) (by omega)]; simp)]
      exact find_rev n e h1 (by omega) (fun j hj hn => h j hj (by omega)) hp
theorem most_some {a : Abs} {e f n : Nat} (h0 : 1 ≤ n) (h1 : n ≤ a.places.length) (h : ∀ j, n < j → j ≤ a.places.length → ¬ a.want ≤ a.steady j (e * a.places.length) f) (hk : a.want ≤ a.steady n (e * a.places.length) f) : a.most e f = some n := by
  unfold Abs.most
  rw [drop1]
  exact find_rev _ _ h0 h1 (fun j hj hn => decide_eq_false (h j hj hn)) (decide_eq_true hk)
theorem most_none {a : Abs} {e f : Nat} (h : ∀ j, 1 ≤ j → j ≤ a.places.length → ¬ a.want ≤ a.steady j (e * a.places.length) f) : a.most e f = none := by
  unfold Abs.most
  rw [drop1]
  refine find_none fun x hx => ?_
  rw [List.mem_reverse, List.mem_range'_1] at hx
  exact decide_eq_false (h x (by omega) (by omega))

/-! ## calls that change -/
theorem WF.new {p e b w d s t : Nat} (h : ¬ (p = 0 ∨ 12 < p ∨ e = 0 ∨ SLOW < e ∨ b = 0 ∨ 600 < b ∨ 50 < w ∨ 200 < d ∨ s = 0 ∨ 500 < s ∨ t = 0 ∨ 500 < t)) : WF (new p e b w d s t) := by
  have hS : SLOW = 60 := rfl
  refine ⟨?_, ?_, ?_, ?_, ?_, ?_, ?_, ?_, ?_, ?_, ?_, rfl, ?_, ?_⟩
  · show 1 ≤ e ∧ e ≤ 60; omega
  · show 1 ≤ b ∧ b ≤ 600; omega
  · show w ≤ 50; omega
  · show d ≤ 200; omega
  · show 1 ≤ s ∧ s ≤ 500; omega
  · show 1 ≤ t ∧ t ≤ 500; omega
  · show 1 ≤ (List.replicate p 0).length ∧ (List.replicate p 0).length ≤ 12
    rw [List.length_replicate]
    omega
  · show 0 ≤ 100; omega
  · show 0 ≤ 500; omega
  · show 0 ≤ 0; omega
  · show onC (List.replicate p 0) = []
    unfold onC
    rw [List.filter_eq_nil_iff]
    intro x hx
    rw [List.eq_of_mem_replicate hx]
    decide
  · intro x hx; exact absurd hx (List.not_mem_nil)
  · intro x hx; exact absurd hx (List.not_mem_nil)
theorem WF.put {a : Abs} (W : WF a) {v l f : Nat} (hf : f ≤ 600) (h0 : a.places.headD 0 = 0) (hl : a.trays.length < 100) : WF { a with places := a.places.set 0 (a.trays.length + 1), trays := a.trays ++ [⟨v, l, f, a.now_⟩] } := by
  have hole := W.ole
  refine ⟨W.ev, W.ba, W.wa, W.dr, W.sl, W.wt, ?_, ?_, W.lf, ?_, ?_, W.onum, ?_, ?_⟩
  · show 1 ≤ (a.places.set 0 _).length ∧ (a.places.set 0 _).length ≤ 12
    rw [List.length_set]
    exact W.pl
  · show (a.trays ++ [_]).length ≤ 100
    rw [List.length_append, List.length_singleton]
    omega
  · show a.out.length ≤ (a.trays ++ [_]).length
    rw [List.length_append, List.length_singleton]
    omega
  · show onC (a.places.set 0 (a.trays.length + 1)) = (List.range' (a.out.length + 1) ((a.trays ++ [_]).length - a.out.length)).reverse
    rw [List.length_append, List.length_singleton]
    have f := W.fifo
    cases hp : a.places with
    | nil => have := W.pl.1; rw [hp] at this; simp at this
    | cons x r =>
      rw [hp] at h0 f
      have hx : x = 0 := h0
      subst hx
      have e1 : onC (0 :: r) = onC r := by simp [onC]
      rw [e1] at f
      show onC ((a.trays.length + 1) :: r) = _
      have e2 : onC ((a.trays.length + 1) :: r) = (a.trays.length + 1) :: onC r := by simp [onC]
      rw [e2, f]
      have e3 : a.trays.length + 1 - a.out.length = (a.trays.length - a.out.length) + 1 := by omega
      rw [e3, List.range'_concat, List.reverse_append]
      simp
      omega
  · intro x hx
    have hx' : x ∈ a.out := hx
    have hm : x.1 ∈ a.out.map Prod.fst := List.mem_map_of_mem hx'
    rw [W.onum, List.mem_range] at hm
    rw [W.ofr x hx']
    have e : ∀ T : Tray, (a.trays ++ [T]).getD x.1 ⟨0, 0, 0, 0⟩ = a.trays.getD x.1 ⟨0, 0, 0, 0⟩ := by
      intro T
      rw [List.getD_eq_getElem?_getD, List.getD_eq_getElem?_getD, List.getElem?_append_left (by omega)]
    show (a.trays.getD x.1 ⟨0, 0, 0, 0⟩).frost = ((a.trays ++ [_]).getD x.1 ⟨0, 0, 0, 0⟩).frost
    rw [e]
  · intro t ht
    rcases List.mem_append.mp ht with ht | ht
    · exact W.fr t ht
    · rw [List.mem_singleton] at ht
      subst ht
      exact hf
theorem WF.every {a : Abs} (W : WF a) {e : Nat} (h0 : e ≠ 0) (h1 : e ≤ 60) : WF { a with every := e } :=
  ⟨⟨by show 1 ≤ e; omega, h1⟩, W.ba, W.wa, W.dr, W.sl, W.wt, W.pl, W.tr, W.lf, W.ole, W.fifo, W.onum, W.ofr, W.fr⟩
theorem WF.door {a : Abs} (W : WF a) {n : Nat} (h : n ≤ 500) : WF { a with left := n } :=
  ⟨W.ev, W.ba, W.wa, W.dr, W.sl, W.wt, W.pl, W.tr, h, W.ole, W.fifo, W.onum, W.ofr, W.fr⟩
end Sp

set_option linter.all false
set_option Elab.async false
namespace Sp
open Su74

/-! ## one list of calls -/
def widths : List Nat := [7, 3, 1, 1, 1, 1, 1, 2, 2, 2, 3, 1, 0, 0, 1, 1, 0, 0, 0, 0]
theorem ite_step {α : Type} {c : Prop} [Decidable c] {x : α} {a b : Option α} (h : (if c then a else b) = some x) : (c ∧ a = some x) ∨ b = some x := by
  by_cases e : c
  · rw [if_pos e] at h; exact .inl ⟨e, h⟩
  · rw [if_neg e] at h; exact .inr h
theorem shape_fin {p : Int} {n k m : Nat} {j : Nat} (e : p = (j : Int)) (h : some (m, 0) = some (n, k)) (hw : widths[j]? = some m) : k = 0 ∧ ∃ j : Nat, p = (j : Int) ∧ widths[j]? = some n := by
  injection h with h
  injection h with h1 h2
  subst h1
  exact ⟨h2.symm, j, e, hw⟩
theorem shape_of {p : Int} {n k : Nat} (h : PySu74.shape p = some (n, k)) : k = 0 ∧ ∃ j : Nat, p = (j : Int) ∧ widths[j]? = some n := by
  unfold PySu74.shape at h
  rcases ite_step h with ⟨e, h⟩ | h
  · exact shape_fin (j := 0) e h rfl
  rcases ite_step h with ⟨e, h⟩ | h
  · exact shape_fin (j := 1) e h rfl
  rcases ite_step h with ⟨e, h⟩ | h
  · exact shape_fin (j := 2) e h rfl
  rcases ite_step h with ⟨e, h⟩ | h
  · exact shape_fin (j := 3) e h rfl
  rcases ite_step h with ⟨e, h⟩ | h
  · exact shape_fin (j := 4) e h rfl
  rcases ite_step h with ⟨e, h⟩ | h
  · exact shape_fin (j := 5) e h rfl
  rcases ite_step h with ⟨e, h⟩ | h
  · exact shape_fin (j := 6) e h rfl
  rcases ite_step h with ⟨e, h⟩ | h
  · exact shape_fin (j := 7) e h rfl
  rcases ite_step h with ⟨e, h⟩ | h
  · exact shape_fin (j := 8) e h rfl
  rcases ite_step h with ⟨e, h⟩ | h
  · exact shape_fin (j := 9) e h rfl
  rcases ite_step h with ⟨e, h⟩ | h
  · exact shape_fin (j := 10) e h rfl
  rcases ite_step h with ⟨e, h⟩ | h
  · exact shape_fin (j := 11) e h rfl
  rcases ite_step h with ⟨e, h⟩ | h
  · exact shape_fin (j := 12) e h rfl
  rcases ite_step h with ⟨e, h⟩ | h
  · exact shape_fin (j := 13) e h rfl
  rcases ite_step h with ⟨e, h⟩ | h
  · exact shape_fin (j := 14) e h rfl
  rcases ite_step h with ⟨e, h⟩ | h
  · exact shape_fin (j := 15) e h rfl
  rcases ite_step h with ⟨e, h⟩ | h
  · exact shape_fin (j := 16) e h rfl
  rcases ite_step h with ⟨e, h⟩ | h
  · exact shape_fin (j := 17) e h rfl
  rcases ite_step h with ⟨e, h⟩ | h
  · exact shape_fin (j := 18) e h rfl
  rcases ite_step h with ⟨e, h⟩ | h
  · exact shape_fin (j := 19) e h rfl
  cases h
theorem width_lt {j n : Nat} (h : widths[j]? = some n) : j < 20 := (List.getElem?_eq_some_iff.mp h).1
theorem width_le {j n : Nat} (h : widths[j]? = some n) : n ≤ 7 := by
  have hm := List.mem_of_getElem? h
  have : ∀ x ∈ widths, x ≤ 7 := by decide
  exact this n hm
/-- a call taken off the front -/
theorem calls_cons {f : Nat} {p : Int} {r : List Int} {cs : List (List (List Int))} (h : PyFlat.calls PySu74.shape f (p :: r) = some cs) :
    ∃ (f' n j : Nat) (cs' : List (List (List Int))), f = f' + 1 ∧ p = (j : Int) ∧ widths[j]? = some n ∧ n ≤ r.length ∧ cs = [p :: r.take n] :: cs' ∧ PyFlat.calls PySu74.shape f' (r.drop n) = some cs' := by
  cases f with
  | zero => cases h
  | succ f =>
    unfold PyFlat.calls at h
    cases hc : PyFlat.call PySu74.shape (p :: r) with
    | none => rw [hc] at h; cases h
    | some x =>
      obtain ⟨c, t⟩ := x
      rw [hc] at h
      simp only [] at h
      cases hr : PyFlat.calls PySu74.shape f t with
      | none => rw [hr] at h; cases h
      | some cs' =>
        rw [hr] at h
        simp only [] at h
        unfold PyFlat.call at hc
        dsimp only at hc
        cases hs : PySu74.shape p with
        | none => rw [hs] at hc; cases hc
        | some y =>
          obtain ⟨n, k⟩ := y
          rw [hs] at hc
          obtain ⟨hk, j, hp, hw⟩ := shape_of hs
          subst hk
          simp only [PyFlat.rows] at hc
          split at hc
          · cases hc
          · rename_i hl
            injection hc with hc
            injection hc with hc1 hc2
            injection h with h
            subst hc1
            subst hc2
            exact ⟨f, n, j, cs', rfl, hp, hw, by omega, h.symm, hr⟩
theorem calls_nil {f : Nat} {cs : List (List (List Int))} (h : PyFlat.calls PySu74.shape f [] = some cs) : cs = [] := by
  cases f <;> (unfold PyFlat.calls at h; injection h with h; exact h.symm)
theorem len1 {α : Type} {l : List α} (h : l.length = 1) : ∃ a, l = [a] := by
  match l, h with
  | [a], _ => exact ⟨a, rfl⟩
theorem len2 {α : Type} {l : List α} (h : l.length = 2) : ∃ a b, l = [a, b] := by
  match l, h with
  | [a, b], _ => exact ⟨a, b, rfl⟩
theorem len3 {α : Type} {l : List α} (h : l.length = 3) : ∃ a b c, l = [a, b, c] := by
  match l, h with
  | [a, b, c], _ => exact ⟨a, b, c, rfl⟩
theorem len7 {α : Type} {l : List α} (h : l.length = 7) : ∃ a b c d e f g, l = [a, b, c, d, e, f, g] := by
  match l, h with
  | [a, b, c, d, e, f, g], _ => exact ⟨a, b, c, d, e, f, g, rfl⟩
theorem whole_id {j n : Nat} {xs : List Int} (hw : widths[j]? = some n) (hl : xs.length = n) : PySu74.whole [((j : Nat) : Int) :: xs] = [((j : Nat) : Int) :: xs] := by
  have hj := width_lt hw
  match j, hj, hw with
  | 0, _, hw => injection hw with hw; subst hw; obtain ⟨a, b, c, d, e, f, g, rfl⟩ := len7 hl; rfl
  | 1, _, hw => injection hw with hw; subst hw; obtain ⟨a, b, c, rfl⟩ := len3 hl; rfl
  | 2, _, hw => injection hw with hw; subst hw; obtain ⟨a, rfl⟩ := len1 hl; rfl
  | 3, _, hw => injection hw with hw; subst hw; obtain ⟨a, rfl⟩ := len1 hl; rfl
  | 4, _, hw => injection hw with hw; subst hw; obtain ⟨a, rfl⟩ := len1 hl; rfl
  | 5, _, hw => injection hw with hw; subst hw; obtain ⟨a, rfl⟩ := len1 hl; rfl
  | 6, _, hw => injection hw with hw; subst hw; obtain ⟨a, rfl⟩ := len1 hl; rfl
  | 7, _, hw => injection hw with hw; subst hw; obtain ⟨a, b, rfl⟩ := len2 hl; rfl
  | 8, _, hw => injection hw with hw; subst hw; obtain ⟨a, b, rfl⟩ := len2 hl; rfl
  | 9, _, hw => injection hw with hw; subst hw; obtain ⟨a, b, rfl⟩ := len2 hl; rfl
  | 10, _, hw => injection hw with hw; subst hw; obtain ⟨a, b, c, rfl⟩ := len3 hl; rfl
  | 11, _, hw => injection hw with hw; subst hw; obtain ⟨a, rfl⟩ := len1 hl; rfl
  | 12, _, hw => injection hw with hw; subst hw; rw [List.length_eq_zero_iff.mp hl]; rfl
  | 13, _, hw => injection hw with hw; subst hw; rw [List.length_eq_zero_iff.mp hl]; rfl
  | 14, _, hw => injection hw with hw; subst hw; obtain ⟨a, rfl⟩ := len1 hl; rfl
  | 15, _, hw => injection hw with hw; subst hw; obtain ⟨a, rfl⟩ := len1 hl; rfl
  | 16, _, hw => injection hw with hw; subst hw; rw [List.length_eq_zero_iff.mp hl]; rfl
  | 17, _, hw => injection hw with hw; subst hw; rw [List.length_eq_zero_iff.mp hl]; rfl
  | 18, _, hw => injection hw with hw; subst hw; rw [List.length_eq_zero_iff.mp hl]; rfl
  | 19, _, hw => injection hw with hw; subst hw; rw [List.length_eq_zero_iff.mp hl]; rfl
  | j + 20, h, _ => omega
/-- a call of the right length is a call of the specification -/
theorem callOf_some {j n : Nat} {xs : List Int} (hw : widths[j]? = some n) (hl : xs.length = n) : ∃ c, Su74Neutral.callOf (((j : Nat) : Int) :: xs) = some c := by
  have hj := width_lt hw
  match j, hj, hw with
  | 0, _, hw => injection hw with hw; subst hw; obtain ⟨a, b, c, d, e, f, g, rfl⟩ := len7 hl; exact ⟨_, rfl⟩
  | 1, _, hw => injection hw with hw; subst hw; obtain ⟨a, b, c, rfl⟩ := len3 hl; exact ⟨_, rfl⟩
  | 2, _, hw => injection hw with hw; subst hw; obtain ⟨a, rfl⟩ := len1 hl; exact ⟨_, rfl⟩
  | 3, _, hw => injection hw with hw; subst hw; obtain ⟨a, rfl⟩ := len1 hl; exact ⟨_, rfl⟩
  | 4, _, hw => injection hw with hw; subst hw; obtain ⟨a, rfl⟩ := len1 hl; exact ⟨_, rfl⟩
  | 5, _, hw => injection hw with hw; subst hw; obtain ⟨a, rfl⟩ := len1 hl; exact ⟨_, rfl⟩
  | 6, _, hw => injection hw with hw; subst hw; obtain ⟨a, rfl⟩ := len1 hl; exact ⟨_, rfl⟩
  | 7, _, hw => injection hw with hw; subst hw; obtain ⟨a, b, rfl⟩ := len2 hl; exact ⟨_, rfl⟩
  | 8, _, hw => injection hw with hw; subst hw; obtain ⟨a, b, rfl⟩ := len2 hl; exact ⟨_, rfl⟩
  | 9, _, hw => injection hw with hw; subst hw; obtain ⟨a, b, rfl⟩ := len2 hl; exact ⟨_, rfl⟩
  | 10, _, hw => injection hw with hw; subst hw; obtain ⟨a, b, c, rfl⟩ := len3 hl; exact ⟨_, rfl⟩
  | 11, _, hw => injection hw with hw; subst hw; obtain ⟨a, rfl⟩ := len1 hl; exact ⟨_, rfl⟩
  | 12, _, hw => injection hw with hw; subst hw; rw [List.length_eq_zero_iff.mp hl]; exact ⟨_, rfl⟩
  | 13, _, hw => injection hw with hw; subst hw; rw [List.length_eq_zero_iff.mp hl]; exact ⟨_, rfl⟩
  | 14, _, hw => injection hw with hw; subst hw; obtain ⟨a, rfl⟩ := len1 hl; exact ⟨_, rfl⟩
  | 15, _, hw => injection hw with hw; subst hw; obtain ⟨a, rfl⟩ := len1 hl; exact ⟨_, rfl⟩
  | 16, _, hw => injection hw with hw; subst hw; rw [List.length_eq_zero_iff.mp hl]; exact ⟨_, rfl⟩
  | 17, _, hw => injection hw with hw; subst hw; rw [List.length_eq_zero_iff.mp hl]; exact ⟨_, rfl⟩
  | 18, _, hw => injection hw with hw; subst hw; rw [List.length_eq_zero_iff.mp hl]; exact ⟨_, rfl⟩
  | 19, _, hw => injection hw with hw; subst hw; rw [List.length_eq_zero_iff.mp hl]; exact ⟨_, rfl⟩
  | j + 20, h, _ => omega
/-- what is due of the calls that are left -/
def due (s : Option Abs) (cs : List (List (List Int))) : List Int := PyFlat.told (PyFlat.played (fun s c => Su74Neutral.step s (c.headD [])) s (cs.map PySu74.whole))
theorem due_nil (s : Option Abs) : due s [] = [] := rfl
theorem due_cons {j n : Nat} {xs : List Int} (s : Option Abs) (cs : List (List (List Int))) (hw : widths[j]? = some n) (hl : xs.length = n) :
    due s ([((j : Nat) : Int) :: xs] :: cs) = (((Su74Neutral.step s (((j : Nat) : Int) :: xs)).2.length : Int) :: (Su74Neutral.step s (((j : Nat) : Int) :: xs)).2) ++ due (Su74Neutral.step s (((j : Nat) : Int) :: xs)).1 cs := by
  unfold due
  rw [List.map_cons, whole_id hw hl]
  rfl
theorem answers_due {ns : List Int} {cs : List (List (List Int))} (h : PyFlat.calls PySu74.shape ns.length ns = some cs) : PySu74.answers ns = due none cs := by
  unfold PySu74.answers PySu74.calls
  rw [h]
  rfl
theorem asked_calls {ns : List Int} (h : PySu74.answers_asked ns = true) : ∃ cs, PyFlat.calls PySu74.shape ns.length ns = some cs ∧ cs.length ≤ 400 := by
  unfold PySu74.answers_asked at h
  cases hc : PyFlat.calls PySu74.shape ns.length ns with
  | none => rw [hc] at h; cases h
  | some cs =>
    rw [hc] at h
    simp only [Bool.and_eq_true] at h
    exact ⟨cs, rfl, of_decide_eq_true h.1.1.1.2⟩
/-! ## how long an answer is -/
theorem soft_le {a : Abs} (W : WF a) : a.soft.length ≤ 100 := by
  unfold Abs.soft
  rw [List.length_map]
  have h1 : (a.out.filter fun x => decide (x.2.2 < a.want)).length ≤ a.out.length := List.length_filter_le _ _
  have := W.ole
  have := W.tr
  omega
theorem flat3 : ∀ l : List (Nat × Nat × Nat), (l.flatMap fun x => [x.1, x.2.1, x.2.2]).length = 3 * l.length
  | [] => rfl
  | x :: l => by
    rw [List.flatMap_cons, List.length_append, flat3 l]
    show 3 + 3 * l.length = 3 * (l.length + 1)
    omega
theorem does_len {a : Abs} (W : WF a) (c : Call) : (does a c).2.out.length ≤ 300 := by
  have hs := soft_le W
  have ho := W.ole
  have ht := W.tr
  have hp := W.pl
  have h0 : ∀ v : Int, (no v).out.length ≤ 300 := fun v => Nat.zero_le _
  have h1 : ∀ (n : Nat) (l : List Nat), l.length ≤ 300 → (num n l).out.length ≤ 300 := fun n l h => h
  cases c with
  | begin_ p e b w d s t => rw [show does a (.begin_ p e b w d s t) = _ from rfl]; dsimp only [does]; split <;> exact h0 _
  | put v l f => dsimp only [does]; (repeat' split) <;> first | exact h0 _ | exact h1 _ _ (by simp)
  | minutes n => dsimp only [does]; (repeat' split) <;> first | exact h0 _ | exact h1 _ _ (by simp)
  | every n => dsimp only [does]; (repeat' split) <;> first | exact h0 _ | exact h1 _ _ (by simp)
  | door n => dsimp only [does]; (repeat' split) <;> first | exact h0 _ | exact h1 _ _ (by simp)
  | ahead n => dsimp only [does]; (repeat' split) <;> first | exact h0 _ | exact h1 _ _ (by simp)
  | ends t => dsimp only [does]; (repeat' split) <;> first | exact h0 _ | exact h1 _ _ (by simp)
  | hardens n f => dsimp only [does]; (repeat' split) <;> first | exact h0 _ | exact h1 _ _ (by simp)
  | needs n f => dsimp only [does]; (repeat' split) <;> first | exact h0 _ | exact h1 _ _ (by simp)
  | most e f => dsimp only [does]; (repeat' split) <;> first | exact h0 _ | exact h1 _ _ (by simp)
  | steady n m f => dsimp only [does]; (repeat' split) <;> first | exact h0 _ | exact h1 _ _ (by simp)
  | air n => dsimp only [does]; (repeat' split) <;> first | exact h0 _ | exact h1 _ _ (by simp)
  | soft => exact h1 _ _ (by show a.soft.length + 1 ≤ 300; omega)
  | out => exact h1 _ _ (by rw [flat3]; omega)
  | of v => dsimp only [does]; (repeat' split) <;> first | exact h0 _ | exact h1 _ _ (by simp)
  | look t => dsimp only [does]; (repeat' split) <;> first | exact h0 _ | exact h1 _ _ (by simp)
  | chain => exact h1 _ _ (by omega)
  | mean => dsimp only [does]; (repeat' split) <;> first | exact h0 _ | exact h1 _ _ (by simp)
  | sums => exact h1 _ _ (by simp)
  | state => exact h1 _ _ (by simp)
def outI (r : Ans) : List Int := r.value :: r.out.map fun (x : Nat) => (x : Int)
theorem step_some {a : Abs} {l : List Int} {c : Call} (h : Su74Neutral.callOf l = some c) : Su74Neutral.step (some a) l = (some (does a c).1, outI (does a c).2) := by
  unfold Su74Neutral.step
  rw [h]
  rfl
end Sp

set_option linter.all false
set_option Elab.async false
namespace Sp
open Su74
/-! ## a call before and behind begin -/
theorem step_none {j n : Nat} {xs : List Int} (hw : widths[j]? = some n) (hl : xs.length = n) (h0 : j ≠ 0) : Su74Neutral.step none (((j : Nat) : Int) :: xs) = (none, [-11]) := by
  have hj := width_lt hw
  match j, hj, hw, h0 with
  | 0, _, _, h0 => exact absurd rfl h0
  | 1, _, hw, _ => injection hw with hw; subst hw; obtain ⟨a, b, c, rfl⟩ := len3 hl; rfl
  | 2, _, hw, _ => injection hw with hw; subst hw; obtain ⟨a, rfl⟩ := len1 hl; rfl
  | 3, _, hw, _ => injection hw with hw; subst hw; obtain ⟨a, rfl⟩ := len1 hl; rfl
  | 4, _, hw, _ => injection hw with hw; subst hw; obtain ⟨a, rfl⟩ := len1 hl; rfl
  | 5, _, hw, _ => injection hw with hw; subst hw; obtain ⟨a, rfl⟩ := len1 hl; rfl
  | 6, _, hw, _ => injection hw with hw; subst hw; obtain ⟨a, rfl⟩ := len1 hl; rfl
  | 7, _, hw, _ => injection hw with hw; subst hw; obtain ⟨a, b, rfl⟩ := len2 hl; rfl
  | 8, _, hw, _ => injection hw with hw; subst hw; obtain ⟨a, b, rfl⟩ := len2 hl; rfl
  | 9, _, hw, _ => injection hw with hw; subst hw; obtain ⟨a, b, rfl⟩ := len2 hl; rfl
  | 10, _, hw, _ => injection hw with hw; subst hw; obtain ⟨a, b, c, rfl⟩ := len3 hl; rfl
  | 11, _, hw, _ => injection hw with hw; subst hw; obtain ⟨a, rfl⟩ := len1 hl; rfl
  | 12, _, hw, _ => injection hw with hw; subst hw; rw [List.length_eq_zero_iff.mp hl]; rfl
  | 13, _, hw, _ => injection hw with hw; subst hw; rw [List.length_eq_zero_iff.mp hl]; rfl
  | 14, _, hw, _ => injection hw with hw; subst hw; obtain ⟨a, rfl⟩ := len1 hl; rfl
  | 15, _, hw, _ => injection hw with hw; subst hw; obtain ⟨a, rfl⟩ := len1 hl; rfl
  | 16, _, hw, _ => injection hw with hw; subst hw; rw [List.length_eq_zero_iff.mp hl]; rfl
  | 17, _, hw, _ => injection hw with hw; subst hw; rw [List.length_eq_zero_iff.mp hl]; rfl
  | 18, _, hw, _ => injection hw with hw; subst hw; rw [List.length_eq_zero_iff.mp hl]; rfl
  | 19, _, hw, _ => injection hw with hw; subst hw; rw [List.length_eq_zero_iff.mp hl]; rfl
  | j + 20, h, _, _ => omega
def badB (p e b w d s t : Nat) : Prop := p = 0 ∨ 12 < p ∨ e = 0 ∨ Su74.SLOW < e ∨ b = 0 ∨ 600 < b ∨ 50 < w ∨ 200 < d ∨ s = 0 ∨ 500 < s ∨ t = 0 ∨ 500 < t
theorem step_bad (st : Option Abs) {p e b w d s t : Int} (h : badB p.toNat e.toNat b.toNat w.toNat d.toNat s.toNat t.toNat) : Su74Neutral.step st [((0 : Nat) : Int), p, e, b, w, d, s, t] = (st, [-22]) := by
  have e1 : ∀ a : Abs, does a (.begin_ p.toNat e.toNat b.toNat w.toNat d.toNat s.toNat t.toNat) = (a, no (-22)) := fun a => if_pos h
  cases st with
  | none =>
    show ((if (does (new 1 1 1 0 0 1 1) (.begin_ p.toNat e.toNat b.toNat w.toNat d.toNat s.toNat t.toNat)).2.value < 0 then none else some (does (new 1 1 1 0 0 1 1) (.begin_ p.toNat e.toNat b.toNat w.toNat d.toNat s.toNat t.toNat)).1), (does (new 1 1 1 0 0 1 1) (.begin_ p.toNat e.toNat b.toNat w.toNat d.toNat s.toNat t.toNat)).2.value :: Su74Neutral.outs (does (new 1 1 1 0 0 1 1) (.begin_ p.toNat e.toNat b.toNat w.toNat d.toNat s.toNat t.toNat)).2.out) = (none, [-22])
    rw [e1]
    rfl
  | some a =>
    show (some (does a (.begin_ p.toNat e.toNat b.toNat w.toNat d.toNat s.toNat t.toNat)).1, (does a (.begin_ p.toNat e.toNat b.toNat w.toNat d.toNat s.toNat t.toNat)).2.value :: Su74Neutral.outs (does a (.begin_ p.toNat e.toNat b.toNat w.toNat d.toNat s.toNat t.toNat)).2.out) = (some a, [-22])
    rw [e1]
    rfl
theorem step_new (st : Option Abs) {p e b w d s t : Int} (h : ¬ badB p.toNat e.toNat b.toNat w.toNat d.toNat s.toNat t.toNat) : Su74Neutral.step st [((0 : Nat) : Int), p, e, b, w, d, s, t] = (some (new p.toNat e.toNat b.toNat w.toNat d.toNat s.toNat t.toNat), [0]) := by
  have e1 : ∀ a : Abs, does a (.begin_ p.toNat e.toNat b.toNat w.toNat d.toNat s.toNat t.toNat) = (new p.toNat e.toNat b.toNat w.toNat d.toNat s.toNat t.toNat, no 0) := fun a => if_neg h
  cases st with
  | none =>
    show ((if (does (new 1 1 1 0 0 1 1) (.begin_ p.toNat e.toNat b.toNat w.toNat d.toNat s.toNat t.toNat)).2.value < 0 then none else some (does (new 1 1 1 0 0 1 1) (.begin_ p.toNat e.toNat b.toNat w.toNat d.toNat s.toNat t.toNat)).1), (does (new 1 1 1 0 0 1 1) (.begin_ p.toNat e.toNat b.toNat w.toNat d.toNat s.toNat t.toNat)).2.value :: Su74Neutral.outs (does (new 1 1 1 0 0 1 1) (.begin_ p.toNat e.toNat b.toNat w.toNat d.toNat s.toNat t.toNat)).2.out) = _
    rw [e1]
    rfl
  | some a =>
    show (some (does a (.begin_ p.toNat e.toNat b.toNat w.toNat d.toNat s.toNat t.toNat)).1, (does a (.begin_ p.toNat e.toNat b.toNat w.toNat d.toNat s.toNat t.toNat)).2.value :: Su74Neutral.outs (does a (.begin_ p.toNat e.toNat b.toNat w.toNat d.toNat s.toNat t.toNat)).2.out) = _
    rw [e1]
    rfl
end Sp

set_option linter.all false
set_option Elab.async false
namespace Sp
open Su74
/-- the trays that came out and are soft -/
def softN (a : Abs) (ts : List Nat) : List Nat := ts.filter fun t => decide ((a.tray t).frost < a.want)
theorem soft_eq {a : Abs} (W : WF a) : a.soft = softN a (List.range a.out.length) := by
  unfold Abs.soft softN
  rw [← W.onum, List.filter_map]
  congr 1
  refine List.filter_congr fun x hx => ?_
  show decide (x.2.2 < a.want) = decide ((a.tray x.1).frost < a.want)
  rw [W.ofr x hx]
theorem out_frosts {a : Abs} (W : WF a) : (a.out.map fun x => x.2.2) = (List.range a.out.length).map fun t => (a.tray t).frost := by
  rw [← W.onum, List.map_map]
  refine List.map_congr_left fun x hx => ?_
  exact W.ofr x hx
theorem out_at {a : Abs} (W : WF a) {t : Nat} (h : t < a.out.length) : a.out[t].1 = t ∧ a.out[t].2.2 = (a.tray t).frost := by
  have e : (a.out.map Prod.fst)[t]? = some t := by
    rw [W.onum, List.getElem?_range h]
  rw [List.getElem?_map, List.getElem?_eq_getElem h] at e
  have e1 : a.out[t].1 = t := Option.some.inj e
  refine ⟨e1, ?_⟩
  have := W.ofr _ (List.getElem_mem h)
  rw [this, e1]
theorem out_lt {a : Abs} (W : WF a) : ∀ t ∈ List.range a.out.length, t < a.trays.length := fun t h => by
  rw [List.mem_range] at h
  exact Nat.lt_of_lt_of_le h W.ole
theorem out_len {a : Abs} (W : WF a) : (List.range a.out.length).length ≤ 100 := by
  rw [List.length_range]
  exact Nat.le_trans W.ole W.tr
theorem softN_lt {a : Abs} {ts : List Nat} {n : Nat} (h : ∀ t ∈ ts, t < n) : ∀ t ∈ softN a ts, t < n := fun t ht => h t (List.mem_filter.mp ht).1
theorem softN_len {a : Abs} {ts : List Nat} {n : Nat} (h : ts.length ≤ n) : (softN a ts).length ≤ n := Nat.le_trans (List.length_filter_le _ _) h
theorem softN_comm (a : Abs) (ts : List Nat) (q : Nat → Bool) : (softN a ts).filter q = softN a (ts.filter q) := by
  unfold softN
  rw [List.filter_filter, List.filter_filter]
  refine List.filter_congr fun x _ => ?_
  rw [Bool.and_comm]
theorem sum_cast (l : List Nat) : ((l.sum : Nat) : Int) = (l.map fun (n : Nat) => (n : Int)).sum := by
  induction l with
  | nil => rfl
  | cons x l ih =>
    rw [List.sum_cons, List.map_cons, List.sum_cons, ← ih]
    rfl
theorem foldmin : ∀ (l : List Nat) (b : Nat), l.foldl min b ≤ b ∧ (∀ x ∈ l, l.foldl min b ≤ x) ∧ (l.foldl min b = b ∨ l.foldl min b ∈ l)
  | [], b => ⟨Nat.le_refl _, fun x h => by simp at h, .inl rfl⟩
  | y :: l, b => by
    obtain ⟨h1, h2, h3⟩ := foldmin l (min b y)
    show l.foldl min (min b y) ≤ b ∧ (∀ x ∈ y :: l, l.foldl min (min b y) ≤ x) ∧ (l.foldl min (min b y) = b ∨ l.foldl min (min b y) ∈ y :: l)
    refine ⟨by omega, fun x hx => ?_, ?_⟩
    · rcases List.mem_cons.mp hx with z | z
      · omega
      · exact h2 x z
    · rcases h3 with z | z
      · rw [z]
        rcases Nat.le_total b y with w | w
        · left; omega
        · right
          rw [Nat.min_eq_right w]
          exact List.mem_cons_self
      · right; exact List.mem_cons_of_mem _ z
theorem foldmax : ∀ (l : List Nat) (b : Nat), b ≤ l.foldl max b ∧ (∀ x ∈ l, x ≤ l.foldl max b) ∧ (l.foldl max b = b ∨ l.foldl max b ∈ l)
  | [], b => ⟨Nat.le_refl _, fun x h => by simp at h, .inl rfl⟩
  | y :: l, b => by
    obtain ⟨h1, h2, h3⟩ := foldmax l (max b y)
    show b ≤ l.foldl max (max b y) ∧ (∀ x ∈ y :: l, x ≤ l.foldl max (max b y)) ∧ (l.foldl max (max b y) = b ∨ l.foldl max (max b y) ∈ y :: l)
    refine ⟨by omega, fun x hx => ?_, ?_⟩
    · rcases List.mem_cons.mp hx with z | z
      · omega
      · exact h2 x z
    · rcases h3 with z | z
      · rw [z]
        rcases Nat.le_total b y with w | w
        · right
          rw [Nat.max_eq_right w]
          exact List.mem_cons_self
        · left; omega
      · right; exact List.mem_cons_of_mem _ z
theorem min_is {l : List Nat} {m : Int} (hb : ∀ x ∈ l, x ≤ 1000) (hm : m ∈ l.map fun (n : Nat) => (n : Int)) (h : ∀ y ∈ l.map (fun (n : Nat) => (n : Int)), m ≤ y) : m = ((l.foldl min 1000 : Nat) : Int) := by
  obtain ⟨x, hx, rfl⟩ := List.mem_map.mp hm
  obtain ⟨h1, h2, h3⟩ := foldmin l 1000
  have a1 := h2 x hx
  rcases h3 with z | z
  · have := hb x hx
    omega
  · have := h _ (List.mem_map_of_mem z)
    omega
theorem max_is {l : List Nat} {m : Int} (hm : m ∈ l.map fun (n : Nat) => (n : Int)) (h : ∀ y ∈ l.map (fun (n : Nat) => (n : Int)), y ≤ m) : m = ((l.foldl max 0 : Nat) : Int) := by
  obtain ⟨x, hx, rfl⟩ := List.mem_map.mp hm
  obtain ⟨h1, h2, h3⟩ := foldmax l 0
  have a1 := h2 x hx
  rcases h3 with z | z
  · omega
  · have := h _ (List.mem_map_of_mem z)
    omega
theorem frosts_le {a : Abs} (W : WF a) : ∀ x ∈ (List.range a.out.length).map (fun t => (a.tray t).frost), x ≤ 1000 := fun x hx => by
  obtain ⟨t, ht, rfl⟩ := List.mem_map.mp hx
  have h1 := W.fr _ (tray_mem (out_lt W t ht))
  omega
theorem flat_take {l : List (Nat × Nat × Nat)} {i : Nat} {x : Nat × Nat × Nat} (h : l[i]? = some x) : ((l.take (i + 1)).flatMap fun x => [x.1, x.2.1, x.2.2]) = ((l.take i).flatMap fun x => [x.1, x.2.1, x.2.2]) ++ [x.1, x.2.1, x.2.2] := by
  rw [List.take_add_one, h, List.flatMap_append]
  rfl
end Sp

set_option Elab.async false
set_option linter.all false
set_option maxRecDepth 100000
set_option maxHeartbeats 2000000
namespace Sp
open PySem PySem.Spec PyProof.Rows L2
open Su74 (Abs Tray)

/-! ### the text by places -/
def top (i : Nat) : Stmt := PySem.Challenge.pw_coldspiral_s01_answers.main.body.getD i (.Pass ⟨0, 0, 0, 0⟩)

/-! ### fields -/
def trF (n : Nat) (t : Tray) (o : V) : List (Str × V) := [("number", .int n), ("flavour", .int t.flavour), ("litres", .int t.litres), ("frost", .int t.frost), ("put_minute", .int t.came), ("out_minute", o)]
theorem trF_number (n : Nat) (t : Tray) (o : V) : (trF n t o).lookup ("number" : Str) = some (.int n) := rfl
theorem trF_flavour (n : Nat) (t : Tray) (o : V) : (trF n t o).lookup ("flavour" : Str) = some (.int t.flavour) := rfl
theorem trF_litres (n : Nat) (t : Tray) (o : V) : (trF n t o).lookup ("litres" : Str) = some (.int t.litres) := rfl
theorem trF_frost (n : Nat) (t : Tray) (o : V) : (trF n t o).lookup ("frost" : Str) = some (.int t.frost) := rfl
theorem trF_put (n : Nat) (t : Tray) (o : V) : (trF n t o).lookup ("put_minute" : Str) = some (.int t.came) := rfl
theorem trF_out (n : Nat) (t : Tray) (o : V) : (trF n t o).lookup ("out_minute" : Str) = some o := rfl
theorem trF_setFrost (n : Nat) (t : Tray) (o : V) (f : Nat) : putF "frost" (.int f) (trF n t o) = trF n { t with frost := f } o := rfl
theorem trF_setOut (n : Nat) (t : Tray) (o v : V) : putF "out_minute" v (trF n t o) = trF n t v := rfl
def spF (a : Abs) (tl sl : Addr) : List (Str × V) := [("places", .int a.places.length), ("pace", .int a.every), ("base", .int a.base), ("warm", .int a.warm), ("opened", .int a.door), ("slow", .int a.slow), ("wanted", .int a.want),
  ("minute", .int a.now_), ("door_left", .int a.left), ("trays", .ref tl), ("slots", .ref sl)]
theorem spF_places (a : Abs) (tl sl : Addr) : (spF a tl sl).lookup ("places" : Str) = some (.int a.places.length) := rfl
theorem spF_pace (a : Abs) (tl sl : Addr) : (spF a tl sl).lookup ("pace" : Str) = some (.int a.every) := rfl
theorem spF_base (a : Abs) (tl sl : Addr) : (spF a tl sl).lookup ("base" : Str) = some (.int a.base) := rfl
theorem spF_warm (a : Abs) (tl sl : Addr) : (spF a tl sl).lookup ("warm" : Str) = some (.int a.warm) := rfl
theorem spF_opened (a : Abs) (tl sl : Addr) : (spF a tl sl).lookup ("opened" : Str) = some (.int a.door) := rfl
theorem spF_slow (a : Abs) (tl sl : Addr) : (spF a tl sl).lookup ("slow" : Str) = some (.int a.slow) := rfl
theorem spF_wanted (a : Abs) (tl sl : Addr) : (spF a tl sl).lookup ("wanted" : Str) = some (.int a.want) := rfl
theorem spF_minute (a : Abs) (tl sl : Addr) : (spF a tl sl).lookup ("minute" : Str) = some (.int a.now_) := rfl
theorem spF_door (a : Abs) (tl sl : Addr) : (spF a tl sl).lookup ("door_left" : Str) = some (.int a.left) := rfl
theorem spF_trays (a : Abs) (tl sl : Addr) : (spF a tl sl).lookup ("trays" : Str) = some (.ref tl) := rfl
theorem spF_slots (a : Abs) (tl sl : Addr) : (spF a tl sl).lookup ("slots" : Str) = some (.ref sl) := rfl

/-! ### what stands in the heap -/
def slotV : Nat → V
  | 0 => .non
  | n + 1 => .int n
def outV (a : Abs) (t : Nat) : V := match a.out[t]? with
  | some x => .int x.2.1
  | none => .non
/-- the spiral's own record -/
def SpAt (CS : Addr) (H : Hp) (p : Addr) (a : Abs) : Prop := ∃ dx tl sl, H p = some (.ins CS dx (spF a tl sl))
structure RepX (CT CS : Addr) (H0 H : Hp) (p : Addr) (a : Abs) (dx tl sl : Addr) (rs : List Addr) : Prop where
  wf : WF a
  sp : H p = some (.ins CS dx (spF a tl sl))
  trs : H tl = some (.lst (rs.map V.ref))
  sls : H sl = some (.lst (a.places.map slotV))
  len : rs.length = a.trays.length
  nd : rs.Nodup
  tray : ∀ (t : Nat) (r : Addr), rs[t]? = some r → ∃ d, H r = some (.ins CT d (trF t (a.tray t) (outV a t)))
  ne : tl ≠ sl
  np : H0 p = none
  nt : H0 tl = none
  ns : H0 sl = none
  nr : ∀ r ∈ rs, H0 r = none
def Rep (CT CS : Addr) (H0 H : Hp) (p : Addr) (a : Abs) : Prop := ∃ dx tl sl rs, RepX CT CS H0 H p a dx tl sl rs

/-! ### what the top holds -/
structure Txt (K : PySem.W.Frag) (mg : Str → Option Value) (CT CS : Addr) : Prop where
  clT : Cls K CT
  clS : Cls K CS
  t0 : NoAttr K CT "number"
  t1 : NoAttr K CT "flavour"
  t2 : NoAttr K CT "litres"
  t3 : NoAttr K CT "frost"
  t4 : NoAttr K CT "put_minute"
  t5 : NoAttr K CT "out_minute"
  s1 : NoAttr K CS "places"
  s2 : NoAttr K CS "pace"
  s3 : NoAttr K CS "base"
  s4 : NoAttr K CS "warm"
  s5 : NoAttr K CS "opened"
  s6 : NoAttr K CS "slow"
  s7 : NoAttr K CS "wanted"
  s8 : NoAttr K CS "minute"
  s9 : NoAttr K CS "door_left"
  s10 : NoAttr K CS "trays"
  s11 : NoAttr K CS "slots"
  mgT : mg "Tray" = some (.ref CT)
  mgS : mg "Spiral" = some (.ref CS)
  len : mg "len" = none
  range : mg "range" = none
  max : mg "max" = none
  min : mg "min" = none
  list : mg "list" = none
  zip : mg "zip" = none
  sum : mg "sum" = none
/-- a def of the top that may be called -/
def Def (P : Program) (w : World) (K : PySem.W.Frag) (mg : Str → Option Value) (base : Heap) (x : Str) (ps : List Str) (k : Nat) (sp : Sp) : Prop :=
  ∃ f fd, FnOk P w K mg base CX0 k f fd ps sp ∧ mg x = some (.ref f) ∧ PySem.W.keepIn K (.ref f) = true ∧ Binds K fd ps []
theorem pe_def {X : Cx} {x : Str} {ps : List Str} {k : Nat} {sp : Sp} {p pos : Pos} {e : Expr} {es : List Expr} {t : TA} (D : Def X.prog X.w X.K X.mg X.base x ps k sp) (hr : Room k X.A) (ha : PA X (e :: es) t)
    (hg : Gl X x := by rfl) (hdb : (x == ("__debug__" : Str)) = false := by decide) (he : starEach (e :: es) X.env = (false, eval e X.env) :: starEach es X.env := by rfl) (hpl : (backTo pos (starEach es X.env)).any (·.1) = false := by rfl) :
    PE X (.Call (.Name x p) (e :: es) [] pos) (tCall sp [] E0 t) := by
  obtain ⟨f, fd, F, hm, hk, hb⟩ := D
  exact pe_call F hr hg hm hk hb .nil pass0 ha hdb he hpl
end Sp

set_option Elab.async false
set_option linter.all false
set_option maxRecDepth 100000
set_option maxHeartbeats 2000000
namespace Sp
open PySem PySem.Spec PyProof.Rows L2
open Su74 (Abs Tray)
abbrev sWithin : Stmt := top 23
abbrev sAir : Stmt := top 24
abbrev sChanged : Stmt := top 25
abbrev sSteady : Stmt := top 26
section
variable {P : Program} {w : World} {K : PySem.W.Frag} {mg : Str → Option Value} {base : Heap} {CT CS : Addr}
/-! ### is_within -/
def spWithin : Sp := fun vs H Q _ => ∃ (n l g : Int), vs = [.int n, .int l, .int g] ∧ Q (.bl (decide (l ≤ n) && decide (n ≤ g))) H
theorem scWithin : FnScope ["number", "least", "greatest"] ["number", "least", "greatest"] (defScope sWithin) := ⟨rfl, rfl, rfl, by decide +kernel, rfl, by decide +kernel, by decide +kernel⟩
theorem ok_within {f : Addr} {fd : FuncData} (F : Fun K "is_within" "is_within" sWithin f fd) : FnOk P w K mg base CX0 1 f fd ["number", "least", "greatest"] spWithin := by
  refine F.ok scWithin (fun vs H Q E h => ?_) (fun cdv A outer s H vs Q E hr h => ?_)
  · obtain ⟨n, l, g, rfl, _⟩ := h
    rfl
  · obtain ⟨n, l, g, rfl, k⟩ := h
    refine ⟨_, pss_one (ps_ret (pe_and (pe_cmpR op_le (pv 1) (pv 0) (nomark _)) (pe_one (pe_cmpR op_le (pv 0) (pv 2) (nomark _))))), ?_⟩
    refine ⟨_, rfl, _, rfl, _, _, rfl, rfl, _, rfl, ?_⟩
    refine ite2 (fun c => ?_) (fun c => ?_)
    · refine ⟨_, rfl, _, rfl, _, _, rfl, rfl, ?_⟩
      rw [c, Bool.true_and] at k
      exact k
    · rw [Bool.eq_false_iff.mpr c, Bool.false_and] at k
      exact k
/-! ### air_frost -/
def spAir (CS : Addr) : Sp := fun vs H Q _ => ∃ (p : Addr) (a : Abs) (n : Nat) (o : Bool), vs = [.ref p, .int n, .bl o] ∧ SpAt CS H p a ∧ a.warm ≤ 50 ∧ Q (.int (a.air n o : Nat)) H
theorem scAir : FnScope ["spiral", "trays", "door_is_open", "frost"] ["spiral", "trays", "door_is_open"] (defScope sAir) := ⟨rfl, rfl, rfl, by decide +kernel, rfl, by decide +kernel, by decide +kernel⟩
theorem ok_air {f : Addr} {fd : FuncData} (F : Fun K "air_frost" "air_frost" sAir f fd) (T : Txt K mg CT CS) : FnOk P w K mg base CX0 1 f fd ["spiral", "trays", "door_is_open"] (spAir CS) := by
  refine F.ok scAir (fun vs H Q E h => ?_) (fun cdv A outer s H vs Q E hr h => ?_)
  · obtain ⟨p, a, n, o, rfl, _⟩ := h
    rfl
  · obtain ⟨p, a, n, o, rfl, ⟨dx, tl, sl, hp⟩, hw, k⟩ := h
    refine ⟨_, pss_cons (ps_set (i := 3) scAir.nd rfl (Or.inl rfl) (pe_op op_sub (pe_fld (pv 0) rfl) (pe_op op_mul (pe_fld (pv 0) rfl) (pv 1))))
      (pss_cons (ps_if (pt_val (pv 2)) (pss_one (ps_set (i := 3) scAir.nd rfl (Or.inl rfl) (pe_op op_sub (pv 3) (pe_fld (pv 0) rfl)))) pss_nil)
      (pss_one (ps_ret (pe_callB (call_max2 rfl) rfl T.max (by decide +kernel) (pa_cons pe_int (pa_cons (pv 3) pa_nil)))))), ?_⟩
    refine ⟨_, rfl, p, CS, dx, _, _, rfl, hp, T.clS, T.s3, spF_base _ _ _, _, rfl, p, CS, dx, _, _, rfl, hp, T.clS, T.s4, spF_warm _ _ _, _, rfl, _, _, rfl, rfl, .inl ⟨by omega, by omega⟩, _, _, rfl, rfl, ?_⟩
    refine ⟨_, rfl, _, rfl, ?_⟩
    have e := air_int a n o
    cases o with
    | true =>
      refine iteT ⟨_, rfl, _, rfl, p, CS, dx, _, _, rfl, hp, T.clS, T.s5, spF_opened _ _ _, _, _, rfl, rfl, ?_⟩
      refine ⟨_, rfl, _, _, rfl, ?_⟩
      rw [e] at k
      have q : max (0 : Int) ((a.base : Int) - (a.warm : Int) * n - (if true = true then (a.door : Int) else 0)) = (if (a.base : Int) - (a.warm : Int) * n - (a.door : Int) > 0 then (a.base : Int) - (a.warm : Int) * n - (a.door : Int) else 0) := by
        rw [if_pos rfl]
        split <;> omega
      rw [q] at k
      exact k
    | false =>
      refine iteF ?_
      refine ⟨_, rfl, _, _, rfl, ?_⟩
      rw [e] at k
      have q : max (0 : Int) ((a.base : Int) - (a.warm : Int) * n - (if false = true then (a.door : Int) else 0)) = (if (a.base : Int) - (a.warm : Int) * n > 0 then (a.base : Int) - (a.warm : Int) * n else 0) := by
        rw [if_neg Bool.false_ne_true]
        split <;> omega
      rw [q] at k
      exact k
/-! ### changed_frost -/
def spChanged : Sp := fun vs H Q _ => ∃ (a : Abs) (g air : Nat), vs = [.int g, .int air, .int a.slow] ∧ 1 ≤ a.slow ∧ a.slow ≤ 500 ∧ Q (.int (a.next air g : Nat)) H
theorem scChanged : FnScope ["frost", "air", "slow"] ["frost", "air", "slow"] (defScope sChanged) := ⟨rfl, rfl, rfl, by decide +kernel, rfl, by decide +kernel, by decide +kernel⟩
theorem ok_changed {f : Addr} {fd : FuncData} (F : Fun K "changed_frost" "changed_frost" sChanged f fd) (T : Txt K mg CT CS) : FnOk P w K mg base CX0 1 f fd ["frost", "air", "slow"] spChanged := by
  refine F.ok scChanged (fun vs H Q E h => ?_) (fun cdv A outer s H vs Q E hr h => ?_)
  · obtain ⟨a, g, air, rfl, _⟩ := h
    rfl
  · obtain ⟨a, g, air, rfl, h1, h2, k⟩ := h
    refine ⟨_, pss_cons (ps_if (pt_cmpR op_lt (pv 0) (pv 1) (nomark _)) (pss_one (ps_ret (pe_callB (call_min2 rfl) rfl T.min (by decide +kernel) (pa_cons (pv 1) (pa_cons (pe_op op_add (pe_op op_add (pv 0) pe_int) (pe_op op_fdiv (pe_op op_sub (pv 1) (pv 0)) (pv 2))) pa_nil))))) pss_nil)
      (pss_cons (ps_if (pt_cmpR op_gt (pv 0) (pv 1) (nomark _)) (pss_one (ps_ret (pe_op op_sub (pv 0) pe_int))) pss_nil)
      (pss_one (ps_ret (pv 0)))), ?_⟩
    refine ⟨_, rfl, _, rfl, _, _, rfl, rfl, _, rfl, ite2 (fun c => ?_) (fun c => ?_)⟩
    · have c' : g < air := by have := of_decide_eq_true c; omega
      refine ⟨_, rfl, _, rfl, _, _, rfl, rfl, _, rfl, _, rfl, _, _, rfl, rfl, _, rfl, _, _, rfl, rfl, ⟨by omega, by omega⟩, _, _, rfl, rfl, _, _, rfl, ?_⟩
      rw [next_int h1 air g c'] at k
      have q : min (air : Int) ((g : Int) + 1 + ((air : Int) - g) / a.slow) = (if (g : Int) + 1 + ((air : Int) - g) / a.slow < (air : Int) then (g : Int) + 1 + ((air : Int) - g) / a.slow else (air : Int)) := by
        split <;> omega
      rw [q] at k
      exact k
    · have c' : ¬ g < air := by
        intro q
        exact c (decide_eq_true (by omega))
      refine ⟨_, rfl, _, rfl, _, _, rfl, rfl, _, rfl, ite2 (fun d => ?_) (fun d => ?_)⟩
      · have d' : air < g := by have := of_decide_eq_true d; omega
        refine ⟨_, rfl, _, _, rfl, rfl, ?_⟩
        have e : ((a.next air g : Nat) : Int) = (g : Int) - 1 := by
          unfold Abs.next
          rw [if_neg c', if_pos d']
          omega
        rw [e] at k
        exact k
      · have d' : ¬ air < g := by
          intro q
          exact d (decide_eq_true (by omega))
        refine ⟨_, rfl, ?_⟩
        have e : a.next air g = g := by
          unfold Abs.next
          rw [if_neg c', if_neg d']
        rw [e] at k
        exact k
end
end Sp

set_option Elab.async false
set_option linter.all false
set_option maxRecDepth 100000
set_option maxHeartbeats 2000000
namespace Sp
open PySem PySem.Spec PyProof.Rows L2
open Su74 (Abs Tray)
section
variable {P : Program} {w : World} {K : PySem.W.Frag} {mg : Str → Option Value} {base : Heap} {CT CS : Addr}
/-! ### steady_frost -/
def spSteady (CS : Addr) : Sp := fun vs H Q _ => ∃ (p : Addr) (a : Abs) (n g m : Nat), vs = [.ref p, .int n, .int g, .int m] ∧ SpAt CS H p a ∧ a.warm ≤ 50 ∧ 1 ≤ a.slow ∧ a.slow ≤ 500 ∧ m ≤ 100000 ∧ Q (.int (a.steady n m g : Nat)) H
theorem scSteady : FnScope ["spiral", "trays", "frost", "minutes", "air", "passed"] ["spiral", "trays", "frost", "minutes"] (defScope sSteady) := ⟨rfl, rfl, rfl, by decide +kernel, rfl, by decide +kernel, by decide +kernel⟩
theorem ok_steady {f : Addr} {fd : FuncData} (F : Fun K "steady_frost" "steady_frost" sSteady f fd) (T : Txt K mg CT CS) (dA : Def P w K mg base "air_frost" ["spiral", "trays", "door_is_open"] 1 (spAir CS)) (dC : Def P w K mg base "changed_frost" ["frost", "air", "slow"] 1 spChanged) :
    FnOk P w K mg base CX0 2 f fd ["spiral", "trays", "frost", "minutes"] (spSteady CS) := by
  refine F.ok scSteady (fun vs H Q E h => ?_) (fun cdv A outer s H vs Q E hr h => ?_)
  · obtain ⟨p, a, n, g, m, rfl, _⟩ := h
    rfl
  · obtain ⟨p, a, n, g, m, rfl, hp, hw, h1, h2, hm, k⟩ := h
    refine ⟨_, pss_cons (ps_set (i := 4) scSteady.nd rfl (Or.inl rfl) (pe_def dA hr (pa_cons (pv 0) (pa_cons (pv 1) (pa_cons pe_bl pa_nil)))))
      (pss_cons (ps_for PassesOwn.never rfl (pi_range1 rfl T.range (pa_cons (pv 3) pa_nil)) (pg_name (i := 5) scSteady.nd rfl (Or.inl rfl))
        (pss_one (ps_set (i := 2) scSteady.nd rfl (Or.inl rfl) (pe_def dC hr (pa_cons (pv 2) (pa_cons (pv 4) (pa_cons (pe_fld (pv 0) rfl) pa_nil)))))))
      (pss_one (ps_ret (pv 2)))), ?_⟩
    refine ⟨_, rfl, _, rfl, p, a, n, false, rfl, hp, hw, ?_⟩
    refine ⟨_, rfl, (m : Int), rfl, by omega, by omega, for_range (lo := 0) (n := (m : Int).toNat) (fun i σ H' => H' = H ∧ ∃ v : Option V, σ = [some (.ref p), some (.int n), some (.int (a.steady n i g : Nat)), some (.int m), some (.int (a.air n false : Nat)), v]) ⟨rfl, none, rfl⟩ ?_ ?_⟩
    · rintro i σ H' hi ⟨rfl, v, rfl⟩
      obtain ⟨dx, tl, sl, hp'⟩ := hp
      refine ⟨_, rfl, _, rfl, _, rfl, p, CS, dx, _, _, rfl, hp', T.clS, T.s6, spF_slow _ _ _, a, a.steady n i g, a.air n false, rfl, h1, h2, ?_⟩
      refine ⟨rfl, some (V.int (0 + (i : Nat))), ?_⟩
      rw [steady_succ]
      rfl
    · rintro σ H' ⟨rfl, v, rfl⟩
      refine ⟨_, rfl, ?_⟩
      have e : (m : Int).toNat = m := by omega
      rw [e]
      exact k
/-! ### trays_on_chain -/
abbrev sOn : Stmt := top 27
def onRefs (rs : List Addr) (a : Abs) : List Addr := (onC a.places).map fun x => rs.getD (x - 1) 0
def spOn (CS : Addr) : Sp := fun vs H Q _ => ∃ (p : Addr) (a : Abs) (dx tl sl : Addr) (rs : List Addr), vs = [.ref p] ∧ WF a ∧ H p = some (.ins CS dx (spF a tl sl)) ∧ H tl = some (.lst (rs.map V.ref)) ∧ H sl = some (.lst (a.places.map slotV)) ∧ rs.length = a.trays.length ∧
  ∀ l, H l = none → Q (.ref l) (upd H l (.lst ((onRefs rs a).map V.ref)))
theorem scOn : FnScope ["spiral", "number"] ["spiral"] (defScope sOn) := ⟨rfl, rfl, rfl, by decide +kernel, rfl, by decide +kernel, by decide +kernel⟩
theorem onC_take {l : List Nat} {i x : Nat} (h : l[i]? = some x) : onC (l.take (i + 1)) = onC (l.take i) ++ (if x = 0 then [] else [x]) := by
  have e : l.take (i + 1) = l.take i ++ [x] := by
    rw [List.take_add_one, h]
    rfl
  rw [e, onC_append]
  congr 1
  unfold onC
  rw [List.filter_cons, List.filter_nil]
  by_cases c : x = 0
  · subst c; rfl
  · rw [if_neg c, if_pos (by simpa using c)]
theorem ok_on {f : Addr} {fd : FuncData} (F : Fun K "trays_on_chain" "trays_on_chain" sOn f fd) (T : Txt K mg CT CS) : FnOk P w K mg base CX0 1 f fd ["spiral"] (spOn CS) := by
  refine F.ok scOn (fun vs H Q E h => ?_) (fun cdv A outer s H vs Q E hr h => ?_)
  · obtain ⟨p, a, dx, tl, sl, rs, rfl, _⟩ := h
    rfl
  · obtain ⟨p, a, dx, tl, sl, rs, rfl, W, hp, ht, hs, hl, k⟩ := h
    refine ⟨_, pss_one (ps_ret (pe_lc (own := [("number", 1)]) (g := gName 1) (tt := tTest (tOp (fun x y H Q => y = .non ∧ Q (.bl (!decide (x = .non))) H) (tVar 1) (tC .non))) (te := tOp (rIxL K) (tFld K (tVar 0) "trays") (tVar 1)) rfl scOn.nd (pi_list (pe_fld (pv 0) rfl)) (blkOk_by (by change blkC ["spiral", "number"] (defScope sOn) _ _ = true; decide +kernel)) (fun _ _ _ _ _ => pg_name (i := 1) scOn.nd rfl (Or.inl rfl))
      (fun _ _ _ _ _ => pts_one (pt_cmpR op_notN (pv 1) pe_non (nomark _))) (fun _ _ _ _ _ => pe_ix ix_list (pe_fld (pv 0) rfl) (pv 1) (fun _ _ => rfl)))), ?_⟩
    refine ⟨_, rfl, p, CS, dx, _, _, rfl, hp, T.clS, T.s11, spF_slots _ _ _, sl, rfl, ⟨_, SqL.of hs⟩, fun D hD => ?_⟩
    have sm : ∀ {o : HO} {b : Addr} {u : HO}, H b = some u → upd H D o b = some u := fun {o b u} e => by
      rw [upd_ne (ne_of_none e hD)]
      exact e
    refine lc_list (K := K) (a := sl) (xs := a.places.map slotV) (fun i H' => H' = upd H D (.lst (((onC (a.places.take i)).map fun x => rs.getD (x - 1) 0).map V.ref))) rfl (fun i H' _ e => by rw [e]; exact SqL.of (sm hs)) ?_ ?_
    · rintro i x H' hx rfl
      rw [List.getElem?_map] at hx
      cases hq : a.places[i]? with
      | none => rw [hq] at hx; cases hx
      | some z =>
        rw [hq] at hx
        have hx' : x = slotV z := (Option.some.inj hx).symm
        subst hx'
        have hm : z ∈ a.places := List.mem_of_getElem? hq
        refine ⟨rfl, ?_⟩
        cases z with
        | zero =>
          refine ⟨_, rfl, rfl, _, rfl, iteF ?_⟩
          rw [onC_take hq, if_pos rfl, List.append_nil]
        | succ z =>
          have hz := W.place_lt hm (by omega)
          have hz' : z < rs.length := by omega
          refine ⟨_, rfl, rfl, _, rfl, iteT ⟨_, rfl, p, CS, dx, _, _, rfl, sm hp, T.clS, T.s10, spF_trays _ _ _, _, rfl, tl, _, _, _, rfl, rfl, SqL.of (sm ht), atI_nat (j := z) (v := V.ref (rs.getD z 0)) ?_, _, upd_same, ?_, ?_⟩⟩
          · rw [List.getElem?_map, List.getD_eq_getElem?_getD, List.getElem?_eq_getElem hz']
            rfl
          · rw [List.length_map, List.length_map]
            have h1 : (onC (a.places.take i)).length ≤ (a.places.take i).length := List.length_filter_le _ _
            rw [List.length_take] at h1
            have h2 := W.pl.2
            have h3 : 12 < sizeLine := by decide
            omega
          · rw [upd_upd, onC_take hq, if_neg (by omega), List.map_append, List.map_append]
            rfl
    · rintro H' rfl
      have e : (a.places.map slotV).length = a.places.length := List.length_map _
      rw [e, List.take_length]
      exact k D hD
end
end Sp

set_option Elab.async false
set_option linter.all false
set_option maxRecDepth 100000
set_option maxHeartbeats 2000000
namespace Sp
open PySem PySem.Spec PyProof.Rows L2
open Su74 (Abs Tray)
abbrev sInitT : Stmt := inClass (top 19) 0
abbrev sInitS : Stmt := inClass (top 20) 0
abbrev sTwinT : Stmt := top 21
abbrev sTwinS : Stmt := top 22
section
variable {P : Program} {w : World} {K : PySem.W.Frag} {mg : Str → Option Value} {base : Heap} {CT CS : Addr}
/-! ### Tray.__init__ -/
def spInitT (CT : Addr) : Sp := fun vs H Q _ => ∃ (p dx : Addr) (n : Nat) (t : Tray), vs = [.ref p, .int n, .int t.flavour, .int t.litres, .int t.frost, .int t.came] ∧ H p = some (.ins CT dx []) ∧ Q .non (upd H p (.ins CT dx (trF n t .non)))
theorem scInitT : FnScope ["self", "number", "flavour", "litres", "frost", "put_minute"] ["self", "number", "flavour", "litres", "frost", "put_minute"] (defScope sInitT) := ⟨rfl, rfl, rfl, by decide +kernel, rfl, by decide +kernel, by decide +kernel⟩
theorem ok_initT {f : Addr} {fd : FuncData} (F : Fun K "__init__" "Tray.__init__" sInitT f fd) (T : Txt K mg CT CS) : FnOk P w K mg base CX0 1 f fd ["self", "number", "flavour", "litres", "frost", "put_minute"] (spInitT CT) := by
  refine F.ok scInitT (fun vs H Q E h => ?_) (fun cdv A outer s H vs Q E hr h => ?_)
  · obtain ⟨p, dx, n, t, rfl, _⟩ := h
    rfl
  · obtain ⟨p, dx, n, t, rfl, hp, k⟩ := h
    refine ⟨_, pss_cons (ps_fld (pv 0) (pv 1) rfl) (pss_cons (ps_fld (pv 0) (pv 2) rfl) (pss_cons (ps_fld (pv 0) (pv 3) rfl) (pss_cons (ps_fld (pv 0) (pv 4) rfl) (pss_cons (ps_fld (pv 0) (pv 5) rfl) (pss_one (ps_fld (pv 0) pe_non rfl)))))), ?_⟩
    refine ⟨_, rfl, _, rfl, p, CT, dx, [], rfl, hp, T.clT, T.t0, (by show 0 < 1000; decide), ?_⟩
    refine ⟨_, rfl, _, rfl, p, CT, dx, _, rfl, upd_same, T.clT, T.t1, (by show 1 < 1000; decide), ?_⟩
    refine ⟨_, rfl, _, rfl, p, CT, dx, _, rfl, upd_same, T.clT, T.t2, (by show 2 < 1000; decide), ?_⟩
    refine ⟨_, rfl, _, rfl, p, CT, dx, _, rfl, upd_same, T.clT, T.t3, (by show 3 < 1000; decide), ?_⟩
    refine ⟨_, rfl, _, rfl, p, CT, dx, _, rfl, upd_same, T.clT, T.t4, (by show 4 < 1000; decide), ?_⟩
    refine ⟨_, rfl, p, CT, dx, _, rfl, upd_same, T.clT, T.t5, (by show 5 < 1000; decide), ?_⟩
    rw [upd_upd, upd_upd, upd_upd, upd_upd, upd_upd]
    exact k
/-! ### Spiral.__init__ -/
def spInitS (CS : Addr) : Sp := fun vs H Q _ => ∃ (p dx : Addr) (pl pa ba wa op sl wt : Nat), vs = [.ref p, .int pl, .int pa, .int ba, .int wa, .int op, .int sl, .int wt] ∧ pl ≤ 12 ∧ H p = some (.ins CS dx []) ∧
  ∀ (H' : Hp) (tl sl' : Addr), H' p = some (.ins CS dx (spF (Su74.new pl pa ba wa op sl wt) tl sl')) → H' tl = some (.lst []) → H' sl' = some (.lst ((List.replicate pl 0).map slotV)) → H tl = none → H sl' = none → tl ≠ sl' →
    (∀ b o, H b = some o → b ≠ p → H' b = some o) → Q .non H'
theorem scInitS : FnScope ["self", "places", "pace", "base", "warm", "opened", "slow", "wanted"] ["self", "places", "pace", "base", "warm", "opened", "slow", "wanted"] (defScope sInitS) := ⟨rfl, rfl, rfl, by decide +kernel, rfl, by decide +kernel, by decide +kernel⟩
theorem rep_non (n : Nat) : (List.replicate n [V.non]).flatten = (List.replicate n 0).map slotV := by
  induction n with
  | zero => rfl
  | succ n ih =>
    rw [List.replicate_succ, List.flatten_cons, ih, List.replicate_succ, List.map_cons]
    rfl
theorem ok_initS {f : Addr} {fd : FuncData} (F : Fun K "__init__" "Spiral.__init__" sInitS f fd) (T : Txt K mg CT CS) : FnOk P w K mg base CX0 1 f fd ["self", "places", "pace", "base", "warm", "opened", "slow", "wanted"] (spInitS CS) := by
  refine F.ok scInitS (fun vs H Q E h => ?_) (fun cdv A outer s H vs Q E hr h => ?_)
  · obtain ⟨p, dx, pl, pa, ba, wa, op, sl, wt, rfl, _⟩ := h
    rfl
  · obtain ⟨p, dx, pl, pa, ba, wa, op, sl, wt, rfl, h12, hp, k⟩ := h
    refine ⟨_, pss_cons (ps_fld (pv 0) (pv 1) rfl) (pss_cons (ps_fld (pv 0) (pv 2) rfl) (pss_cons (ps_fld (pv 0) (pv 3) rfl) (pss_cons (ps_fld (pv 0) (pv 4) rfl) (pss_cons (ps_fld (pv 0) (pv 5) rfl) (pss_cons (ps_fld (pv 0) (pv 6) rfl) (pss_cons (ps_fld (pv 0) (pv 7) rfl)
      (pss_cons (ps_fld (pv 0) pe_int rfl) (pss_cons (ps_fld (pv 0) pe_int rfl) (pss_cons (ps_fld (pv 0) (pe_lst pa_nil) rfl) (pss_one (ps_fld (pv 0) (pe_op op_rep (pe_lst (pa_cons pe_non pa_nil)) (pv 1)) rfl))))))))))), ?_⟩
    refine ⟨_, rfl, _, rfl, p, CS, dx, [], rfl, hp, T.clS, T.s1, (by show 0 < 1000; decide), ?_⟩
    refine ⟨_, rfl, _, rfl, p, CS, dx, _, rfl, upd_same, T.clS, T.s2, (by show 1 < 1000; decide), ?_⟩
    refine ⟨_, rfl, _, rfl, p, CS, dx, _, rfl, upd_same, T.clS, T.s3, (by show 2 < 1000; decide), ?_⟩
    refine ⟨_, rfl, _, rfl, p, CS, dx, _, rfl, upd_same, T.clS, T.s4, (by show 3 < 1000; decide), ?_⟩
    refine ⟨_, rfl, _, rfl, p, CS, dx, _, rfl, upd_same, T.clS, T.s5, (by show 4 < 1000; decide), ?_⟩
    refine ⟨_, rfl, _, rfl, p, CS, dx, _, rfl, upd_same, T.clS, T.s6, (by show 5 < 1000; decide), ?_⟩
    refine ⟨_, rfl, _, rfl, p, CS, dx, _, rfl, upd_same, T.clS, T.s7, (by show 6 < 1000; decide), ?_⟩
    refine ⟨_, rfl, p, CS, dx, _, rfl, upd_same, T.clS, T.s8, (by show 7 < 1000; decide), ?_⟩
    refine ⟨_, rfl, p, CS, dx, _, rfl, upd_same, T.clS, T.s9, (by show 8 < 1000; decide), ?_⟩
    rw [upd_upd, upd_upd, upd_upd, upd_upd, upd_upd, upd_upd, upd_upd, upd_upd]
    refine ⟨Nat.zero_le _, fun tl htl => ?_⟩
    have np : p ≠ tl := fun q => by rw [← q, upd_same] at htl; cases htl
    have e1 : H tl = none := by rw [upd_ne (Ne.symm np)] at htl; exact htl
    refine ⟨_, rfl, p, CS, dx, _, rfl, Eq.trans (upd_ne np) upd_same, T.clS, T.s10, (by show 9 < 1000; decide), ?_⟩
    refine ⟨(by show 1 ≤ sizeLine; decide), fun l1 hl1 => ?_⟩
    have np1 : p ≠ l1 := fun q => by rw [← q, upd_same] at hl1; cases hl1
    rw [upd_ne (Ne.symm np1)] at hl1
    have nt1 : tl ≠ l1 := fun q => by rw [← q, upd_same] at hl1; cases hl1
    rw [upd_ne (Ne.symm nt1), upd_ne (Ne.symm np1)] at hl1
    refine ⟨_, rfl, l1, (pl : Int), _, rfl, rfl, upd_same, by omega, by omega, ?_, fun sl' hsl => ?_⟩
    · have : 12 < sizeLine := by decide
      show 1 * (pl : Int).toNat ≤ sizeLine
      omega
    have ns1 : l1 ≠ sl' := fun q => by rw [← q, upd_same] at hsl; cases hsl
    rw [upd_ne (Ne.symm ns1)] at hsl
    have nsp : p ≠ sl' := fun q => by rw [← q, upd_same] at hsl; cases hsl
    rw [upd_ne (Ne.symm nsp)] at hsl
    have nst : tl ≠ sl' := fun q => by rw [← q, upd_same] at hsl; cases hsl
    rw [upd_ne (Ne.symm nst), upd_ne (Ne.symm nsp)] at hsl
    refine ⟨_, rfl, p, CS, dx, _, rfl, Eq.trans (upd_ne nsp) (Eq.trans (upd_ne np1) upd_same), T.clS, T.s11, (by show 10 < 1000; decide), ?_⟩
    refine k _ tl sl' (Eq.trans upd_same ?_) ?_ ?_ e1 hsl nst ?_
    · have e : (Su74.new pl pa ba wa op sl wt).places.length = pl := List.length_replicate
      unfold spF
      rw [e]
      rfl
    · rw [upd_ne (Ne.symm np), upd_ne nst, upd_ne nt1, upd_ne (Ne.symm np), upd_same]
    · rw [upd_ne (Ne.symm nsp), upd_same]
      have e : (pl : Int).toNat = pl := by omega
      rw [e, rep_non]
    · intro b o hb hbp
      rw [upd_ne hbp, upd_ne (ne_of_none hb hsl), upd_ne (ne_of_none hb hl1), upd_ne hbp, upd_ne (ne_of_none hb e1), upd_ne hbp]
      exact hb
/-! ### twin_tray -/
def spTwinT (CT : Addr) : Sp := fun vs H Q _ => ∃ (r d : Addr) (n : Nat) (t : Tray) (o : V), vs = [.ref r] ∧ H r = some (.ins CT d (trF n t o)) ∧ ∀ (H' : Hp) (r' d' : Addr), H r' = none → H' r' = some (.ins CT d' (trF n t o)) → Same H H' → Q (.ref r') H'
theorem scTwinT : FnScope ["tray", "other"] ["tray"] (defScope sTwinT) := ⟨rfl, rfl, rfl, by decide +kernel, rfl, by decide +kernel, by decide +kernel⟩
theorem ok_twinT {f fI : Addr} {fd fdI : FuncData} (F : Fun K "twin_tray" "twin_tray" sTwinT f fd) (T : Txt K mg CT CS) (M : Mk K CT fI) (GI : FnOk P w K mg base CX0 1 fI fdI ["self", "number", "flavour", "litres", "frost", "put_minute"] (spInitT CT)) (bI : Binds K fdI ["self", "number", "flavour", "litres", "frost", "put_minute"] []) :
    FnOk P w K mg base CX0 3 f fd ["tray"] (spTwinT CT) := by
  refine F.ok scTwinT (fun vs H Q E h => ?_) (fun cdv A outer s H vs Q E hr h => ?_)
  · obtain ⟨r, d, n, t, o, rfl, _⟩ := h
    rfl
  · obtain ⟨r, d, n, t, o, rfl, hr0, k⟩ := h
    refine ⟨_, pss_cons (ps_set (i := 1) scTwinT.nd rfl (Or.inl rfl) (pe_make M GI hr rfl T.mgT bI .nil pass0 (pa_cons (pe_fld (pv 0) rfl) (pa_cons (pe_fld (pv 0) rfl) (pa_cons (pe_fld (pv 0) rfl) (pa_cons (pe_fld (pv 0) rfl) (pa_cons (pe_fld (pv 0) rfl) pa_nil)))))))
      (pss_cons (ps_fld (pv 1) (pe_fld (pv 0) rfl) rfl) (pss_one (ps_ret (pv 1)))), ?_⟩
    refine ⟨_, rfl, r, CT, d, _, _, rfl, hr0, T.clT, T.t0, trF_number _ _ _, _, rfl, r, CT, d, _, _, rfl, hr0, T.clT, T.t1, trF_flavour _ _ _, _, rfl, r, CT, d, _, _, rfl, hr0, T.clT, T.t2, trF_litres _ _ _, _, rfl, r, CT, d, _, _, rfl, hr0, T.clT, T.t3, trF_frost _ _ _, _, rfl, r, CT, d, _, _, rfl, hr0, T.clT, T.t4, trF_put _ _ _, ?_⟩
    intro x dx nx ndx nex
    refine ⟨x, dx, n, t, rfl, upd_same, rfl, ?_⟩
    have nr : r ≠ x := ne_of_none hr0 nx
    have nrd : r ≠ dx := ne_of_none hr0 ndx
    refine ⟨_, rfl, r, CT, d, _, _, rfl, ?_, T.clT, T.t5, trF_out n t o, _, rfl, x, CT, dx, _, rfl, upd_same, T.clT, T.t5, (by show 6 < 1000; decide), ?_⟩
    · rw [upd_ne nr, upd_ne nr, upd_ne nrd]
      exact hr0
    refine ⟨_, rfl, ?_⟩
    refine k _ x dx nx upd_same fun b u hb => ?_
    rw [upd_ne (ne_of_none hb nx), upd_ne (ne_of_none hb nx), upd_ne (ne_of_none hb nx), upd_ne (ne_of_none hb ndx)]
    exact hb
end
end Sp

set_option Elab.async false
set_option linter.all false
set_option maxRecDepth 100000
set_option maxHeartbeats 2000000
namespace Sp
open PySem PySem.Spec PyProof.Rows L2
open Su74 (Abs Tray)
abbrev sSoft : Stmt := top 29
abbrev sMove : Stmt := top 32
/-! ### the heap's parts stand apart -/
theorem ins_ne {C C' d d' : Addr} {a : Abs} {tl sl : Addr} {n : Nat} {t : Tray} {o : V} : HO.ins C d (spF a tl sl) ≠ HO.ins C' d' (trF n t o) := by
  intro z
  injection z with _ _ z
  exact absurd (congrArg List.length z) (by show ¬ (11 = 6); decide)
theorem spF_setMinute (a : Abs) (tl sl : Addr) (n : Nat) : putF "minute" (.int n) (spF a tl sl) = spF { a with now_ := n } tl sl := rfl
theorem spF_setDoor (a : Abs) (tl sl : Addr) (n : Nat) : putF "door_left" (.int n) (spF a tl sl) = spF { a with left := n } tl sl := rfl
theorem spF_setPace (a : Abs) (tl sl : Addr) (n : Nat) : putF "pace" (.int n) (spF a tl sl) = spF { a with every := n } tl sl := rfl
theorem spF_setTrays (a : Abs) (tl sl q : Addr) : putF "trays" (.ref q) (spF a tl sl) = spF a q sl := rfl
theorem spF_setSlots (a : Abs) (tl sl q : Addr) : putF "slots" (.ref q) (spF a tl sl) = spF a tl q := rfl
theorem spF_len (a : Abs) (tl sl : Addr) : (spF a tl sl).length < 1000 := by show 11 < 1000; decide
theorem trF_len (n : Nat) (t : Tray) (o : V) : (trF n t o).length < 1000 := by show 6 < 1000; decide
theorem Same.up {H : Hp} {q : Addr} {o : HO} (h : H q = none) : Same H (upd H q o) := fun b u e => by
  rw [upd_ne (ne_of_none e h)]
  exact e
theorem Same.up0 {H0 H : Hp} {q : Addr} {o : HO} (s : Same H0 H) (h : H0 q = none) : Same H0 (upd H q o) := fun b u e => by
  rw [upd_ne (ne_of_none e h)]
  exact s b u e
section
variable {CT CS : Addr} {H0 H H' : Hp} {p dx tl sl : Addr} {a : Abs} {rs : List Addr}
theorem RepX.same (R : RepX CT CS H0 H p a dx tl sl rs) (s : Same H H') : RepX CT CS H0 H' p a dx tl sl rs :=
  ⟨R.wf, s _ _ R.sp, s _ _ R.trs, s _ _ R.sls, R.len, R.nd, fun t r h => let ⟨d, e⟩ := R.tray t r h; ⟨d, s _ _ e⟩, R.ne, R.np, R.nt, R.ns, R.nr⟩
/-- an object that H0 knows is changed -/
theorem RepX.upd0 (R : RepX CT CS H0 H p a dx tl sl rs) {q : Addr} {o : HO} (h : H0 q ≠ none) : RepX CT CS H0 (upd H q o) p a dx tl sl rs := by
  have n : ∀ b, H0 b = none → b ≠ q := fun b e z => h (z ▸ e)
  refine ⟨R.wf, ?_, ?_, ?_, R.len, R.nd, fun t r hr => ?_, R.ne, R.np, R.nt, R.ns, R.nr⟩
  · rw [upd_ne (n _ R.np)]; exact R.sp
  · rw [upd_ne (n _ R.nt)]; exact R.trs
  · rw [upd_ne (n _ R.ns)]; exact R.sls
  · obtain ⟨d, e⟩ := R.tray t r hr
    refine ⟨d, ?_⟩
    rw [upd_ne (n _ (R.nr r (List.mem_of_getElem? hr)))]
    exact e
theorem RepX.p_tl (R : RepX CT CS H0 H p a dx tl sl rs) : p ≠ tl := ne_of R.sp R.trs (by intro z; cases z)
theorem RepX.p_sl (R : RepX CT CS H0 H p a dx tl sl rs) : p ≠ sl := ne_of R.sp R.sls (by intro z; cases z)
theorem RepX.r_p (R : RepX CT CS H0 H p a dx tl sl rs) {t : Nat} {r : Addr} (h : rs[t]? = some r) : r ≠ p := by
  obtain ⟨d, e⟩ := R.tray t r h
  exact fun z => ne_of R.sp e ins_ne z.symm
theorem RepX.r_tl (R : RepX CT CS H0 H p a dx tl sl rs) {t : Nat} {r : Addr} (h : rs[t]? = some r) : r ≠ tl := by
  obtain ⟨d, e⟩ := R.tray t r h
  exact ne_of e R.trs (by intro z; cases z)
theorem RepX.r_sl (R : RepX CT CS H0 H p a dx tl sl rs) {t : Nat} {r : Addr} (h : rs[t]? = some r) : r ≠ sl := by
  obtain ⟨d, e⟩ := R.tray t r h
  exact ne_of e R.sls (by intro z; cases z)
/-- a field of the spiral's own record is stored -/
theorem RepX.setSp (R : RepX CT CS H0 H p a dx tl sl rs) {b : Abs} (W : WF b) (e1 : b.places = a.places) (e2 : b.trays = a.trays) (e3 : b.out = a.out) : RepX CT CS H0 (upd H p (.ins CS dx (spF b tl sl))) p b dx tl sl rs := by
  refine ⟨W, upd_same, ?_, ?_, by rw [e2]; exact R.len, R.nd, fun t r hr => ?_, R.ne, R.np, R.nt, R.ns, R.nr⟩
  · rw [upd_ne (Ne.symm R.p_tl)]; exact R.trs
  · rw [upd_ne (Ne.symm R.p_sl), e1]; exact R.sls
  · obtain ⟨d, e⟩ := R.tray t r hr
    refine ⟨d, ?_⟩
    have q1 : b.tray t = a.tray t := by unfold Abs.tray; rw [e2]
    have q2 : outV b t = outV a t := by unfold outV; rw [e3]
    rw [upd_ne (R.r_p hr), q1, q2]
    exact e
theorem RepX.ref_at (R : RepX CT CS H0 H p a dx tl sl rs) {t : Nat} (h : t < a.trays.length) : rs[t]? = some (rs.getD t 0) := by
  rw [List.getD_eq_getElem?_getD, List.getElem?_eq_getElem (by rw [R.len]; exact h)]
  rfl
end
section
variable {P : Program} {w : World} {K : PySem.W.Frag} {mg : Str → Option Value} {base : Heap} {CT CS : Addr}
/-! ### soft_trays -/
/-- those of rs whose frosts fs are below want -/
def sel (want : Nat) : List Addr → List Nat → List Addr
  | r :: rs, f :: fs => if f < want then r :: sel want rs fs else sel want rs fs
  | _, _ => []
theorem sel_snoc (want : Nat) (r : Addr) (f : Nat) : ∀ (rs : List Addr) (fs : List Nat), rs.length = fs.length → sel want (rs ++ [r]) (fs ++ [f]) = sel want rs fs ++ (if f < want then [r] else [])
  | [], [], _ => by
    show (if f < want then r :: [] else []) = [] ++ _
    rw [List.nil_append]
  | x :: rs, y :: fs, h => by
    have h' : rs.length = fs.length := by simpa using h
    show (if y < want then x :: sel want (rs ++ [r]) (fs ++ [f]) else sel want (rs ++ [r]) (fs ++ [f])) = (if y < want then x :: sel want rs fs else sel want rs fs) ++ _
    rw [sel_snoc want r f rs fs h']
    split <;> rfl
  | [], y :: fs, h => by simp at h
  | x :: rs, [], h => by simp at h
theorem sel_len (want : Nat) : ∀ (rs : List Addr) (fs : List Nat), rs.length = fs.length → (sel want rs fs).length = (fs.filter fun f => decide (f < want)).length
  | [], [], _ => rfl
  | x :: rs, y :: fs, h => by
    have h' : rs.length = fs.length := by simpa using h
    have ih := sel_len want rs fs h'
    show (if y < want then x :: sel want rs fs else sel want rs fs).length = _
    rw [List.filter_cons]
    by_cases c : y < want
    · rw [if_pos c, if_pos (decide_eq_true c), List.length_cons, List.length_cons, ih]
    · rw [if_neg c, if_neg (by simpa using c), ih]
  | [], y :: fs, h => by simp at h
  | x :: rs, [], h => by simp at h
theorem sel_le (want : Nat) (rs : List Addr) (fs : List Nat) : (sel want rs fs).length ≤ rs.length := by
  induction rs generalizing fs with
  | nil => cases fs <;> simp [sel]
  | cons r rs ih =>
    cases fs with
    | nil => simp [sel]
    | cons f fs =>
      show (if f < want then r :: sel want rs fs else sel want rs fs).length ≤ _
      have := ih fs
      split <;> simp <;> omega
def spSoft (K : PySem.W.Frag) (CT CS : Addr) : Sp := fun vs H Q _ => ∃ (p l : Addr) (a : Abs) (rs : List Addr) (fs : List Nat), vs = [.ref p, .ref l] ∧ SpAt CS H p a ∧ H l = some (.lst (rs.map V.ref)) ∧ rs.length = fs.length ∧ rs.length ≤ 1000 ∧
  (∀ (i : Nat) (r : Addr), rs[i]? = some r → ∃ d n t o, H r = some (.ins CT d (trF n t o)) ∧ fs[i]? = some t.frost) ∧ ∀ l', H l' = none → Q (.ref l') (upd H l' (.lst ((sel a.want rs fs).map V.ref)))
theorem scSoft : FnScope ["spiral", "trays", "tray"] ["spiral", "trays"] (defScope sSoft) := ⟨rfl, rfl, rfl, by decide +kernel, rfl, by decide +kernel, by decide +kernel⟩
theorem take1 {α : Type} {l : List α} {i : Nat} {x : α} (h : l[i]? = some x) : l.take (i + 1) = l.take i ++ [x] := by
  rw [List.take_add_one, h]
  rfl
theorem ok_soft {f : Addr} {fd : FuncData} (F : Fun K "soft_trays" "soft_trays" sSoft f fd) (T : Txt K mg CT CS) : FnOk P w K mg base CX0 1 f fd ["spiral", "trays"] (spSoft K CT CS) := by
  refine F.ok scSoft (fun vs H Q E h => ?_) (fun cdv A outer s H vs Q E hr h => ?_)
  · obtain ⟨p, l, a, rs, fs, rfl, _⟩ := h
    rfl
  · obtain ⟨p, l, a, rs, fs, rfl, ⟨dx, tl, sl, hp⟩, hl, hlen, h1000, hrs, k⟩ := h
    refine ⟨_, pss_one (ps_ret (pe_lc (own := [("tray", 2)]) (g := gName 2) (tt := tTest (tOp (rI0 fun i j => .bl (decide (i < j))) (tFld K (tVar 2) "frost") (tFld K (tVar 0) "wanted"))) (te := tVar 2) rfl scSoft.nd (pi_list (pv 1)) (blkOk_by (by change blkC ["spiral", "trays", "tray"] (defScope sSoft) _ _ = true; decide +kernel)) (fun _ _ _ _ _ => pg_name (i := 2) scSoft.nd rfl (Or.inl rfl))
      (fun _ _ _ _ _ => pts_one (pt_cmpR op_lt (pe_fld (pv 2) rfl) (pe_fld (pv 0) rfl) (nomark _))) (fun _ _ _ _ _ => pv 2))), ?_⟩
    refine ⟨_, rfl, l, rfl, ⟨_, SqL.of hl⟩, fun D hD => ?_⟩
    have sm : ∀ {o : HO} {b : Addr} {u : HO}, H b = some u → upd H D o b = some u := fun {o b u} e => by
      rw [upd_ne (ne_of_none e hD)]
      exact e
    refine lc_list (K := K) (a := l) (xs := rs.map V.ref) (fun i H' => H' = upd H D (.lst ((sel a.want (rs.take i) (fs.take i)).map V.ref))) rfl (fun i H' _ e => by rw [e]; exact SqL.of (sm hl)) ?_ ?_
    · rintro i x H' hx rfl
      rw [List.getElem?_map] at hx
      cases hq : rs[i]? with
      | none => rw [hq] at hx; cases hx
      | some r =>
        rw [hq] at hx
        have hx' : x = V.ref r := (Option.some.inj hx).symm
        subst hx'
        obtain ⟨d, nn, t, o, e1, e2⟩ := hrs i r hq
        have hts : (rs.take i).length = (fs.take i).length := by rw [List.length_take, List.length_take, hlen]
        have hsn := sel_snoc a.want r t.frost (rs.take i) (fs.take i) hts
        refine ⟨rfl, _, rfl, r, CT, d, _, _, rfl, sm e1, T.clT, T.t3, trF_frost _ _ _, _, rfl, p, CS, dx, _, _, rfl, sm hp, T.clS, T.s7, spF_wanted _ _ _, _, _, rfl, rfl, _, rfl, ite2 (fun c => ?_) (fun c => ?_)⟩
        · have c' : t.frost < a.want := by have := of_decide_eq_true c; omega
          rw [if_pos c'] at hsn
          refine ⟨_, rfl, _, upd_same, ?_, ?_⟩
          · rw [List.length_map]
            have h3 := sel_le a.want (rs.take i) (fs.take i)
            rw [List.length_take] at h3
            have h4 : 1000 < sizeLine := by decide
            omega
          · rw [upd_upd, take1 hq, take1 e2, hsn, List.map_append]
            rfl
        · have c' : ¬ t.frost < a.want := fun q => c (decide_eq_true (by omega))
          rw [if_neg c', List.append_nil] at hsn
          rw [take1 hq, take1 e2, hsn]
    · rintro H' rfl
      have e : (rs.map V.ref).length = rs.length := List.length_map _
      rw [e, List.take_length, hlen, List.take_length]
      exact k D hD
end
end Sp

set_option Elab.async false
set_option linter.all false
set_option maxRecDepth 100000
set_option maxHeartbeats 2000000
namespace Sp
open PySem PySem.Spec PyProof.Rows L2
open Su74 (Abs Tray)
section
variable {CT CS : Addr} {H0 H H' : Hp} {p dx tl sl : Addr} {a : Abs} {rs : List Addr}
theorem moves0_eq {a : Abs} (h : a.places.getLastD 0 = 0) : a.moves = { a with places := 0 :: a.places.dropLast } := by
  unfold Abs.moves
  simp only [h, if_true]
theorem spF_moves (W : WF a) (tl sl : Addr) : spF a.moves tl sl = spF a tl sl := by
  have e : a.moves.places.length = a.places.length := (moves_kin W.pl.1).pl
  unfold spF
  rw [e]
  rfl
theorem RepX.setSlots (R : RepX CT CS H0 H p a dx tl sl rs) {b : Abs} {q : Addr} (W : WF b) (hq : H q = some (.lst (b.places.map slotV))) (hq0 : H0 q = none) (hqt : tl ≠ q) (e2 : b.trays = a.trays) (e3 : b.out = a.out) :
    RepX CT CS H0 (upd H p (.ins CS dx (spF b tl q))) p b dx tl q rs := by
  have nq : q ≠ p := ne_of hq R.sp (by intro z; cases z)
  refine ⟨W, upd_same, ?_, ?_, by rw [e2]; exact R.len, R.nd, fun t r hr => ?_, hqt, R.np, R.nt, hq0, R.nr⟩
  · rw [upd_ne (Ne.symm R.p_tl)]; exact R.trs
  · rw [upd_ne nq]; exact hq
  · obtain ⟨d, e⟩ := R.tray t r hr
    refine ⟨d, ?_⟩
    have q1 : b.tray t = a.tray t := by unfold Abs.tray; rw [e2]
    have q2 : outV b t = outV a t := by unfold outV; rw [e3]
    rw [upd_ne (R.r_p hr), q1, q2]
    exact e
theorem RepX.setOut (R : RepX CT CS H0 H p a dx tl sl rs) {b : Abs} {q : Addr} (W : WF b) (hq : H q = some (.lst (b.places.map slotV))) (hq0 : H0 q = none) (hqt : tl ≠ q) (e2 : b.trays = a.trays) {n : Nat} {r d : Addr} {v : V}
    (hr : rs[n]? = some r) (e3 : outV b n = v) (e4 : ∀ t, t ≠ n → outV b t = outV a t) :
    RepX CT CS H0 (upd (upd H p (.ins CS dx (spF b tl q))) r (.ins CT d (trF n (a.tray n) v))) p b dx tl q rs := by
  have nq : q ≠ p := ne_of hq R.sp (by intro z; cases z)
  obtain ⟨d0, er⟩ := R.tray n r hr
  have nqr : q ≠ r := ne_of hq er (by intro z; cases z)
  refine ⟨W, ?_, ?_, ?_, by rw [e2]; exact R.len, R.nd, fun t r' hr' => ?_, hqt, R.np, R.nt, hq0, R.nr⟩
  · rw [upd_ne (Ne.symm (R.r_p hr)), upd_same]
  · rw [upd_ne (Ne.symm (R.r_tl hr)), upd_ne (Ne.symm R.p_tl)]; exact R.trs
  · rw [upd_ne nqr, upd_ne nq]; exact hq
  · have q1 : b.tray t = a.tray t := by unfold Abs.tray; rw [e2]
    by_cases c : t = n
    · subst c
      have : r' = r := Option.some.inj (hr'.symm.trans hr)
      subst this
      refine ⟨d, ?_⟩
      rw [upd_same, q1, e3]
    · obtain ⟨d', e⟩ := R.tray t r' hr'
      have nrr : r' ≠ r := fun z => c (nd_ix R.nd hr' (by rw [z]; exact hr))
      refine ⟨d', ?_⟩
      rw [upd_ne nrr, upd_ne (R.r_p hr'), q1, e4 t c]
      exact e
end
theorem cutV_init (xs : List V) : cutV xs none (some (-1)) = xs.dropLast := by
  unfold cutV
  have e : HT.sIx xs.length xs.length (some (-1)) = xs.length - 1 := by
    unfold HT.sIx
    simp only []
    split <;> omega
  rw [HT.sIx_none, e, List.drop_zero, Nat.sub_zero, List.dropLast_eq_take]
theorem map_slot_split {l : List Nat} (h : l ≠ []) : l.map slotV = l.dropLast.map slotV ++ [slotV (l.getLastD 0)] := by
  conv => lhs; rw [getLastD_split l h, List.map_append]
  rfl
theorem slots_split {l : List Nat} (h : l ≠ []) : atI (l.map slotV) (-1) = some (slotV (l.getLastD 0)) := by
  rw [map_slot_split h]
  exact atI_last _ _
theorem slotV_non {n : Nat} : slotV n = .non ↔ n = 0 := by
  cases n with
  | zero => exact ⟨fun _ => rfl, fun _ => rfl⟩
  | succ n => exact ⟨fun h => (by cases h), fun h => (by omega)⟩
def movedOut (a : Abs) : List (Nat × Nat × Nat) := if a.places.getLastD 0 = 0 then [] else [(a.places.getLastD 0 - 1, a.now_, (a.tray (a.places.getLastD 0 - 1)).frost)]
def refsOf (rs : List Addr) (xs : List (Nat × Nat × Nat)) : List V := xs.map fun x => V.ref (rs.getD x.1 0)
section
variable {P : Program} {w : World} {K : PySem.W.Frag} {mg : Str → Option Value} {base : Heap} {CT CS : Addr}
/-! ### move_chain -/
def spMove (CT CS : Addr) : Sp := fun vs H Q _ => ∃ (H0 : Hp) (p : Addr) (a : Abs) (dx tl sl : Addr) (rs : List Addr), vs = [.ref p] ∧ RepX CT CS H0 H p a dx tl sl rs ∧ Same H0 H ∧
  ∀ (H' : Hp) (sl' l : Addr), RepX CT CS H0 H' p a.moves dx tl sl' rs → Same H0 H' → H0 l = none → H' l = some (.lst (refsOf rs (movedOut a))) → Q (.ref l) H'
theorem scMove : FnScope ["spiral", "number", "tray"] ["spiral"] (defScope sMove) := ⟨rfl, rfl, rfl, by decide +kernel, rfl, by decide +kernel, by decide +kernel⟩
theorem ok_move {f : Addr} {fd : FuncData} (F : Fun K "move_chain" "move_chain" sMove f fd) (T : Txt K mg CT CS) : FnOk P w K mg base CX0 1 f fd ["spiral"] (spMove CT CS) := by
  refine F.ok scMove (fun vs H Q E h => ?_) (fun cdv A outer s H vs Q E hr h => ?_)
  · obtain ⟨H0, p, a, dx, tl, sl, rs, rfl, _⟩ := h
    rfl
  · obtain ⟨H0, p, a, dx, tl, sl, rs, rfl, R, s0, k⟩ := h
    have W := R.wf
    have hne : a.places ≠ [] := by intro q; have := W.pl.1; rw [q] at this; simp at this
    refine ⟨_, pss_cons (ps_set (i := 1) scMove.nd rfl (Or.inl rfl) (pe_ix ix_list (pe_fld (pv 0) rfl) (pe_un un_neg pe_int) (fun _ _ => rfl)))
      (pss_cons (ps_fld (pv 0) (pe_op op_cat (pe_lst (pa_cons pe_non pa_nil)) (pe_slice sl_list (pe_fld (pv 0) rfl) po_none (po_some (pe_un un_neg pe_int)))) rfl)
      (pss_cons (ps_if (pt_cmpR op_isN (pv 1) pe_non (nomark _)) (pss_one (ps_ret (pe_lst pa_nil))) pss_nil)
      (pss_cons (ps_set (i := 2) scMove.nd rfl (Or.inl rfl) (pe_ix ix_list (pe_fld (pv 0) rfl) (pv 1) (fun _ _ => rfl)))
      (pss_cons (ps_fld (pv 2) (pe_fld (pv 0) rfl) rfl)
      (pss_one (ps_ret (pe_lst (pa_cons (pv 2) pa_nil)))))))), ?_⟩
    refine ⟨_, rfl, p, CS, dx, _, _, rfl, R.sp, T.clS, T.s11, spF_slots _ _ _, _, rfl, sl, _, _, _, rfl, rfl, SqL.of R.sls, slots_split hne, ?_⟩
    refine ⟨(by show 1 ≤ sizeLine; decide), fun l1 n1 => ?_⟩
    have s1 : Same H (upd H l1 (.lst [.non])) := Same.up n1
    have R1 := R.same s1
    refine ⟨_, rfl, p, CS, dx, _, _, rfl, R1.sp, T.clS, T.s11, spF_slots _ _ _, _, rfl, _, rfl, sl, _, rfl, SqL.of R1.sls, fun l2 n2 => ?_⟩
    rw [cutV_init]
    have s2 := Same.up (o := .lst (a.places.map slotV).dropLast) n2
    have R2 := R1.same s2
    have g1 := s2 _ _ (upd_same (H := H) (a := l1) (o := .lst [.non]))
    refine ⟨l1, l2, _, _, rfl, rfl, g1, upd_same, ?_, fun q n3 => ?_⟩
    · show 1 + (a.places.map slotV).dropLast.length ≤ sizeLine
      rw [List.length_dropLast, List.length_map]
      have := W.pl
      have : 12 < sizeLine := by decide
      omega
    have s3 := Same.up (o := .lst ([.non] ++ (a.places.map slotV).dropLast)) n3
    have R3 := R2.same s3
    have sA : Same H (upd (upd (upd H l1 (.lst [.non])) l2 (.lst (a.places.map slotV).dropLast)) q (.lst ([.non] ++ (a.places.map slotV).dropLast))) := (s1.trans s2).trans s3
    have hq : upd (upd (upd H l1 (.lst [.non])) l2 (.lst (a.places.map slotV).dropLast)) q (.lst ([.non] ++ (a.places.map slotV).dropLast)) q = some (.lst (a.moves.places.map slotV)) := by
      rw [upd_same]
      congr 2
      show _ = (0 :: a.places.dropLast).map slotV
      rw [List.map_cons, ← List.map_dropLast]
      rfl
    have nHq : H q = none := (s1.trans s2).free n3
    have hq0 : H0 q = none := s0.free nHq
    have nq : tl ≠ q := ne_of_none R.trs nHq
    generalize upd (upd (upd H l1 (.lst [.non])) l2 (.lst (a.places.map slotV).dropLast)) q (.lst ([.non] ++ (a.places.map slotV).dropLast)) = HA at sA R3 hq ⊢
    have sA0 := s0.trans sA
    refine ⟨_, rfl, p, CS, dx, _, rfl, R3.sp, T.clS, T.s11, spF_len _ _ _, ?_⟩
    rw [spF_setSlots]
    refine ⟨_, rfl, rfl, _, rfl, ite2 (fun c => ?_) (fun c => ?_)⟩
    · have c' : a.places.getLastD 0 = 0 := slotV_non.mp (of_decide_eq_true c)
      refine ⟨Nat.zero_le _, fun l hl => ?_⟩
      have hH : H l = none := by
        have := (sA.trans (show Same HA _ from fun b o e => e)).free (l := l) (by
          by_cases z : l = p
          · rw [z, upd_same] at hl; cases hl
          · rw [upd_ne z] at hl; exact hl)
        exact this
      have Rf := R3.setSlots W.moves hq hq0 nq rfl (by rw [moves0_eq c'])
      rw [spF_moves W] at Rf
      refine k _ q l (Rf.same (Same.up hl)) (Same.up0 (Same.up0 sA0 R.np) (s0.free hH)) (s0.free hH) ?_
      rw [upd_same]
      unfold movedOut
      rw [if_pos c']
      rfl
    · have c' : a.places.getLastD 0 ≠ 0 := fun q => c (decide_eq_true (slotV_non.mpr q))
      obtain ⟨w1, w2, w3⟩ := W.last1 c'
      have hr := R3.ref_at w2
      obtain ⟨d, hd⟩ := R3.tray _ _ hr
      have np := R3.r_p hr
      have hsl : slotV (a.places.getLastD 0) = V.int (a.out.length : Nat) := by
        rw [← w1]
        cases hz : a.places.getLastD 0 with
        | zero => exact absurd hz c'
        | succ z => rfl
      have hout : a.moves.out = a.out ++ [(a.out.length, a.now_, (a.tray a.out.length).frost)] := by rw [moves1_eq c', w1]
      refine ⟨_, rfl, p, CS, dx, _, _, rfl, upd_same, T.clS, T.s10, spF_trays _ _ _, _, rfl, tl, _, (a.out.length : Int), V.ref (rs.getD a.out.length 0), rfl, hsl, SqL.of (Eq.trans (upd_ne (Ne.symm R3.p_tl)) R3.trs), atI_nat (by rw [List.getElem?_map, hr]; rfl), ?_⟩
      refine ⟨_, rfl, p, CS, dx, _, _, rfl, upd_same, T.clS, T.s8, spF_minute _ _ _, _, rfl, _, CT, d, _, rfl, Eq.trans (upd_ne np) hd, T.clT, T.t5, trF_len _ _ _, ?_⟩
      rw [trF_setOut]
      refine ⟨_, rfl, (by show 1 ≤ sizeLine; decide), fun l hl => ?_⟩
      have Rf := R3.setOut (d := d) (v := .int a.now_) W.moves hq hq0 nq rfl hr (by
        unfold outV
        rw [hout, List.getElem?_append_right (Nat.le_refl _), Nat.sub_self]
        rfl) (fun t ht => by
        unfold outV
        rw [hout]
        rcases Nat.lt_or_ge t a.out.length with z | z
        · rw [List.getElem?_append_left z]
        · rw [List.getElem?_eq_none (by rw [List.length_append, List.length_singleton]; omega), List.getElem?_eq_none z])
      rw [spF_moves W] at Rf
      have hH : H l = none := by
        refine sA.free (l := l) ?_
        by_cases z : l = rs.getD a.out.length 0
        · rw [z, upd_same] at hl; cases hl
        · rw [upd_ne z] at hl
          by_cases z2 : l = p
          · rw [z2, upd_same] at hl; cases hl
          · rw [upd_ne z2] at hl; exact hl
      refine k _ q l (Rf.same (Same.up hl)) (Same.up0 (Same.up0 (Same.up0 sA0 R.np) (R.nr _ (List.mem_of_getElem? hr))) (s0.free hH)) (s0.free hH) ?_
      rw [upd_same]
      unfold movedOut
      rw [if_neg c', w1]
      rfl
end
end Sp

set_option Elab.async false
set_option linter.all false
set_option maxRecDepth 100000
set_option maxHeartbeats 2000000
namespace Sp
open PySem PySem.Spec PyProof.Rows L2
open Su74 (Abs Tray)
abbrev sNow : Stmt := top 31
theorem onRefs_len (rs : List Addr) (a : Abs) : ((onRefs rs a).map V.ref).length = a.load := by
  unfold onRefs
  rw [List.length_map, List.length_map]
  rfl
theorem left_open (a : Abs) : decide ((0 : Int) < (a.left : Int)) = (a.left != 0) := by
  cases a.left with
  | zero => rfl
  | succ n =>
    rw [decide_eq_true (by omega)]
    rfl
section
variable {P : Program} {w : World} {K : PySem.W.Frag} {mg : Str → Option Value} {base : Heap} {CT CS : Addr}
/-! ### air_frost_now -/
def spNow (CT CS : Addr) : Sp := fun vs H Q _ => ∃ (H0 : Hp) (p : Addr) (a : Abs) (dx tl sl : Addr) (rs : List Addr), vs = [.ref p] ∧ RepX CT CS H0 H p a dx tl sl rs ∧ ∀ H', Same H H' → Q (.int (a.air a.load (a.left != 0) : Nat)) H'
theorem scNow : FnScope ["spiral"] ["spiral"] (defScope sNow) := ⟨rfl, rfl, rfl, by decide +kernel, rfl, by decide +kernel, by decide +kernel⟩
theorem ok_now {f : Addr} {fd : FuncData} (F : Fun K "air_frost_now" "air_frost_now" sNow f fd) (T : Txt K mg CT CS) (dO : Def P w K mg base "trays_on_chain" ["spiral"] 1 (spOn CS)) (dA : Def P w K mg base "air_frost" ["spiral", "trays", "door_is_open"] 1 (spAir CS)) : FnOk P w K mg base CX0 2 f fd ["spiral"] (spNow CT CS) := by
  refine F.ok scNow (fun vs H Q E h => ?_) (fun cdv A outer s H vs Q E hr h => ?_)
  · obtain ⟨H0, p, a, dx, tl, sl, rs, rfl, _⟩ := h
    rfl
  · obtain ⟨H0, p, a, dx, tl, sl, rs, rfl, R, k⟩ := h
    have W := R.wf
    refine ⟨_, pss_one (ps_ret (pe_def dA hr (pa_cons (pv 0) (pa_cons (pe_callB call_len_seq rfl T.len PySem.boot_len (pa_cons (pe_def dO hr (pa_cons (pv 0) pa_nil)) pa_nil)) (pa_cons (pe_cmpR op_gt (pe_fld (pv 0) rfl) pe_int (nomark _)) pa_nil))))), ?_⟩
    refine ⟨_, rfl, _, rfl, p, a, dx, tl, sl, rs, rfl, W, R.sp, R.trs, R.sls, R.len, fun c hc => ?_⟩
    have s1 : Same H (upd H c (.lst ((onRefs rs a).map V.ref))) := Same.up hc
    have R1 := R.same s1
    have hcl : upd H c (.lst ((onRefs rs a).map V.ref)) c = some (.lst ((onRefs rs a).map V.ref)) := upd_same
    generalize upd H c (.lst ((onRefs rs a).map V.ref)) = H1 at s1 R1 hcl ⊢
    refine ⟨c, _, rfl, .inl (SqL.of hcl), _, rfl, p, CS, dx, _, _, rfl, R1.sp, T.clS, T.s9, spF_door _ _ _, _, _, rfl, rfl, ?_⟩
    refine ⟨p, a, _, _, rfl, ⟨dx, tl, sl, R1.sp⟩, W.wa, ?_⟩
    rw [onRefs_len, left_open]
    exact k H1 s1
end
end Sp

set_option Elab.async false
set_option linter.all false
set_option maxRecDepth 100000
set_option maxHeartbeats 2000000
namespace Sp
open PySem PySem.Spec PyProof.Rows L2
open Su74 (Abs Tray)
abbrev sPassM : Stmt := top 33
abbrev sPass : Stmt := top 34
/-- a tray in the midst of the cooling: those of the places in l are cooled -/
def midT (a : Abs) (l : List Nat) (t : Nat) : Tray := if (t + 1) ∈ l then { (a.tray t) with frost := a.next (a.air a.load (a.left != 0)) (a.tray t).frost } else a.tray t
structure Mid (CT CS : Addr) (H0 H : Hp) (p : Addr) (a : Abs) (dx tl sl : Addr) (rs : List Addr) (l : List Nat) : Prop where
  sp : H p = some (.ins CS dx (spF a tl sl))
  trs : H tl = some (.lst (rs.map V.ref))
  sls : H sl = some (.lst (a.places.map slotV))
  tray : ∀ (t : Nat) (r : Addr), rs[t]? = some r → ∃ d, H r = some (.ins CT d (trF t (midT a l t) (outV a t)))
  same : Same H0 H
section
variable {CT CS : Addr} {H0 H H' : Hp} {p dx tl sl : Addr} {a : Abs} {rs : List Addr}
theorem RepX.mid (R : RepX CT CS H0 H p a dx tl sl rs) (s : Same H0 H) : Mid CT CS H0 H p a dx tl sl rs [] := by
  refine ⟨R.sp, R.trs, R.sls, fun t r h => ?_, s⟩
  have e : midT a [] t = a.tray t := if_neg (by simp)
  rw [e]
  exact R.tray t r h
theorem Mid.step {l : List Nat} (W : WF a) (R : RepX CT CS H0 H p a dx tl sl rs) (M : Mid CT CS H0 H' p a dx tl sl rs l) {t : Nat} {r : Addr} (hr : rs[t]? = some r) {d : Addr} (hd : H' r = some (.ins CT d (trF t (midT a l t) (outV a t)))) (hn : t + 1 ∉ l) :
    Mid CT CS H0 (upd H' r (.ins CT d (trF t { (a.tray t) with frost := a.next (a.air a.load (a.left != 0)) (a.tray t).frost } (outV a t)))) p a dx tl sl rs (l ++ [t + 1]) := by
  refine ⟨?_, ?_, ?_, fun t' r' hr' => ?_, Same.up0 M.same (R.nr r (List.mem_of_getElem? hr))⟩
  · rw [upd_ne (Ne.symm (R.r_p hr))]; exact M.sp
  · rw [upd_ne (Ne.symm (R.r_tl hr))]; exact M.trs
  · rw [upd_ne (Ne.symm (R.r_sl hr))]; exact M.sls
  · by_cases c : t' = t
    · subst c
      have : r' = r := Option.some.inj (hr'.symm.trans hr)
      subst this
      refine ⟨d, ?_⟩
      rw [upd_same]
      unfold midT
      rw [if_pos (by simp)]
    · have nrr : r' ≠ r := fun z => c (nd_ix R.nd hr' (by rw [z]; exact hr))
      obtain ⟨d', e⟩ := M.tray t' r' hr'
      refine ⟨d', ?_⟩
      rw [upd_ne nrr, e]
      have q : midT a (l ++ [t + 1]) t' = midT a l t' := by
        unfold midT
        by_cases z : t' + 1 ∈ l
        · rw [if_pos z, if_pos (List.mem_append_left _ z)]
        · rw [if_neg z, if_neg]
          intro y
          rcases List.mem_append.mp y with y | y
          · exact z y
          · rw [List.mem_singleton] at y
            omega
      rw [q]
theorem Mid.cools (R : RepX CT CS H0 H p a dx tl sl rs) (M : Mid CT CS H0 H' p a dx tl sl rs (onC a.places)) : RepX CT CS H0 H' p a.cools dx tl sl rs := by
  refine ⟨R.wf.cools, M.sp, M.trs, M.sls, by rw [cools_len]; exact R.len, R.nd, fun t r hr => ?_, R.ne, R.np, R.nt, R.ns, R.nr⟩
  obtain ⟨d, e⟩ := M.tray t r hr
  refine ⟨d, ?_⟩
  have ht : t < a.trays.length := by
    rw [← R.len]
    exact (List.getElem?_eq_some_iff.mp hr).1
  have q : a.cools.tray t = midT a (onC a.places) t := by
    rw [cools_tray a ht]
    unfold midT
    have i1 : a.inside t = true ↔ t + 1 ∈ onC a.places := by
      rw [mem_onC]
      unfold Abs.inside
      rw [List.contains_iff_mem]
      exact ⟨fun h => ⟨h, by omega⟩, fun h => h.1⟩
    by_cases c : a.inside t = true
    · rw [if_pos c, if_pos (i1.mp c)]
    · rw [if_neg c, if_neg fun z => c (i1.mpr z)]
  rw [q]
  exact e
end
section
variable {P : Program} {w : World} {K : PySem.W.Frag} {mg : Str → Option Value} {base : Heap} {CT CS : Addr}
/-! ### pass_minute -/
def spPassM (CT CS : Addr) : Sp := fun vs H Q _ => ∃ (H0 : Hp) (p : Addr) (a : Abs) (dx tl sl : Addr) (rs : List Addr), vs = [.ref p] ∧ RepX CT CS H0 H p a dx tl sl rs ∧ Same H0 H ∧
  ∀ (H' : Hp) (sl' l : Addr), RepX CT CS H0 H' p a.minute dx tl sl' rs → Same H0 H' → H0 l = none → H' l = some (.lst (refsOf rs (cameM a))) → Q (.ref l) H'
theorem scPassM : FnScope ["spiral", "air", "tray"] ["spiral"] (defScope sPassM) := ⟨rfl, rfl, rfl, by decide +kernel, rfl, by decide +kernel, by decide +kernel⟩
theorem ok_passM {f : Addr} {fd : FuncData} (F : Fun K "pass_minute" "pass_minute" sPassM f fd) (T : Txt K mg CT CS) (dO : Def P w K mg base "trays_on_chain" ["spiral"] 1 (spOn CS)) (dN : Def P w K mg base "air_frost_now" ["spiral"] 2 (spNow CT CS))
    (dC : Def P w K mg base "changed_frost" ["frost", "air", "slow"] 1 spChanged) (dM : Def P w K mg base "move_chain" ["spiral"] 1 (spMove CT CS)) : FnOk P w K mg base CX0 3 f fd ["spiral"] (spPassM CT CS) := by
  refine F.ok scPassM (fun vs H Q E h => ?_) (fun cdv A outer s H vs Q E hr h => ?_)
  · obtain ⟨H0, p, a, dx, tl, sl, rs, rfl, _⟩ := h
    rfl
  · obtain ⟨H0, p, a, dx, tl, sl, rs, rfl, R, s0, k⟩ := h
    have W := R.wf
    have hr1 : Room 1 _ := hr.mono (by decide)
    refine ⟨_, pss_cons (ps_set (i := 1) scPassM.nd rfl (Or.inl rfl) (pe_def dN hr (pa_cons (pv 0) pa_nil)))
      (pss_cons (ps_for PassesOwn.never rfl (pi_list (pe_def dO hr1 (pa_cons (pv 0) pa_nil))) (pg_name (i := 2) scPassM.nd rfl (Or.inl rfl)) (pss_one (ps_fld (pv 2) (pe_def dC hr1 (pa_cons (pe_fld (pv 2) rfl) (pa_cons (pv 1) (pa_cons (pe_fld (pv 0) rfl) pa_nil)))) rfl)))
      (pss_cons (ps_fld (pv 0) (pe_op op_add (pe_fld (pv 0) rfl) pe_int) rfl)
      (pss_cons (ps_fld (pv 0) (pe_callB (call_max2 rfl) rfl T.max PyProof.Rows.boot_max (pa_cons pe_int (pa_cons (pe_op op_sub (pe_fld (pv 0) rfl) pe_int) pa_nil))) rfl)
      (pss_cons (ps_if (pt_cmpR op_eq (pe_op op_mod (pe_fld (pv 0) rfl) (pe_fld (pv 0) rfl)) pe_int (nomark _)) (pss_one (ps_ret (pe_def dM hr1 (pa_cons (pv 0) pa_nil)))) pss_nil)
      (pss_one (ps_ret (pe_lst pa_nil))))))), ?_⟩
    -- air
    refine ⟨_, rfl, H0, p, a, dx, tl, sl, rs, rfl, R, fun Ha sa => ?_⟩
    have Ra := R.same sa
    have s0a := s0.trans sa
    -- carried
    refine ⟨_, rfl, p, a, dx, tl, sl, rs, rfl, W, Ra.sp, Ra.trs, Ra.sls, Ra.len, fun c hc => ?_⟩
    have s1 : Same Ha (upd Ha c (.lst ((onRefs rs a).map V.ref))) := Same.up hc
    have R1 := Ra.same s1
    have c0 : H0 c = none := s0a.free hc
    have hcl : upd Ha c (.lst ((onRefs rs a).map V.ref)) c = some (.lst ((onRefs rs a).map V.ref)) := upd_same
    have s01 := s0a.trans s1
    generalize upd Ha c (.lst ((onRefs rs a).map V.ref)) = H1 at s1 R1 hcl s01 ⊢
    have eload := onRefs_len rs a
    -- the loop
    refine ⟨c, rfl, ⟨_, SqL.of hcl⟩, for_list (K := K) (a := c) (xs := (onRefs rs a).map V.ref) (fun i σ H' => ∃ v : Option V, σ = [some (.ref p), some (.int (a.air a.load (a.left != 0) : Nat)), v] ∧ H' c = some (.lst ((onRefs rs a).map V.ref)) ∧ Mid CT CS H0 H' p a dx tl sl rs ((onC a.places).take i))
      ⟨none, rfl, hcl, R1.mid s01⟩ (fun i σ H' _ ⟨_, _, h, _⟩ => SqL.of h) ?_ ?_⟩
    · rintro i y σ H' hi ⟨v, rfl, hc', M⟩
      unfold onRefs at hi
      rw [List.getElem?_map, List.getElem?_map] at hi
      cases hx : (onC a.places)[i]? with
      | none => rw [hx] at hi; cases hi
      | some x =>
        rw [hx] at hi
        have hy : y = V.ref (rs.getD (x - 1) 0) := (Option.some.inj hi).symm
        subst hy
        have hm := mem_onC.mp (List.mem_of_getElem? hx)
        have hlt := W.place_lt hm.1 hm.2
        have hr0 := R1.ref_at hlt.2
        have ex : x - 1 + 1 = x := by omega
        have hn : x - 1 + 1 ∉ (onC a.places).take i := by
          rw [ex]
          intro z
          obtain ⟨j, hj⟩ := List.getElem?_of_mem z
          have hj2 := (List.getElem?_eq_some_iff.mp hj).1
          rw [List.length_take] at hj2
          rw [List.getElem?_take, if_pos (by omega)] at hj
          have := nd_ix W.onC_nodup hj hx
          omega
        obtain ⟨d, hd⟩ := M.tray _ _ hr0
        have em : midT a ((onC a.places).take i) (x - 1) = a.tray (x - 1) := if_neg hn
        refine ⟨_, rfl, _, CT, d, _, _, rfl, hd, T.clT, T.t3, trF_frost _ _ _, _, rfl, _, rfl, p, CS, dx, _, _, rfl, M.sp, T.clS, T.s6, spF_slow _ _ _, a, _, _, rfl, W.sl.1, W.sl.2, ?_⟩
        refine ⟨_, rfl, _, CT, d, _, rfl, hd, T.clT, T.t3, trF_len _ _ _, ?_⟩
        rw [trF_setFrost, em]
        refine ⟨_, rfl, ?_, ?_⟩
        · have ncr : c ≠ rs.getD (x - 1) 0 := fun z => by
            have := Ra.tray _ _ hr0
            obtain ⟨d2, e2⟩ := this
            rw [← z, hc] at e2
            cases e2
          rw [upd_ne ncr]
          exact hc'
        · have := Mid.step W R1 M hr0 hd hn
          rw [ex] at this
          rw [take1 hx]
          exact this
    · rintro σ H2 ⟨v, rfl, hc', M⟩
      have el : ((onRefs rs a).map V.ref).length = (onC a.places).length := eload
      rw [el, List.take_length] at M
      have R2 := Mid.cools R1 M
      have s2 := M.same
      -- minute, door
      refine ⟨_, rfl, p, CS, dx, _, _, rfl, R2.sp, T.clS, T.s8, spF_minute _ _ _, _, _, rfl, rfl, _, rfl, p, CS, dx, _, rfl, R2.sp, T.clS, T.s8, spF_len _ _ _, ?_⟩
      have e1 : putF "minute" (.int ((a.cools.now_ : Int) + 1)) (spF a.cools tl sl) = spF { a.cools with now_ := a.now_ + 1 } tl sl := spF_setMinute a.cools tl sl (a.now_ + 1)
      rw [e1]
      refine ⟨_, rfl, p, CS, dx, _, _, rfl, upd_same, T.clS, T.s9, spF_door _ _ _, _, _, rfl, rfl, _, _, rfl, _, rfl, p, CS, dx, _, rfl, upd_same, T.clS, T.s9, spF_len _ _ _, ?_⟩
      have e2 : (if (a.left : Int) - 1 > 0 then (a.left : Int) - 1 else 0) = ((a.left - 1 : Nat) : Int) := by
        split <;> omega
      have e3 : putF "door_left" (.int (if (a.left : Int) - 1 > 0 then (a.left : Int) - 1 else 0)) (spF { a.cools with now_ := a.now_ + 1 } tl sl) = spF (Abs.later a) tl sl := by
        rw [e2]
        rfl
      have R3 : RepX CT CS H0 (upd H2 p (.ins CS dx (spF (Abs.later a) tl sl))) p (Abs.later a) dx tl sl rs := R2.setSp W.later rfl rfl rfl
      have s3 : Same H0 (upd H2 p (.ins CS dx (spF (Abs.later a) tl sl))) := Same.up0 s2 R.np
      have e4 : upd (upd H2 p (.ins CS dx (spF { a.cools with now_ := a.now_ + 1 } tl sl))) p (.ins CS dx (putF "door_left" (.int (if (a.left : Int) - 1 > 0 then (a.left : Int) - 1 else 0)) (spF { a.cools with now_ := a.now_ + 1 } tl sl))) = upd H2 p (.ins CS dx (spF (Abs.later a) tl sl)) := by
        rw [upd_upd, e3]
      have e4' := e4
      show tSeq _ _ _ _ (upd (upd H2 p (.ins CS dx (spF { a.cools with now_ := a.now_ + 1 } tl sl))) p (.ins CS dx (putF "door_left" (.int (if (a.left : Int) - 1 > 0 then (a.left : Int) - 1 else 0)) (spF { a.cools with now_ := a.now_ + 1 } tl sl))))
      rw [e4]
      generalize upd H2 p (.ins CS dx (spF (Abs.later a) tl sl)) = H3 at R3 s3 ⊢
      refine ⟨_, rfl, p, CS, dx, _, _, rfl, R3.sp, T.clS, T.s8, spF_minute _ _ _, _, rfl, p, CS, dx, _, _, rfl, R3.sp, T.clS, T.s2, spF_pace _ _ _, _, _, rfl, rfl, ?_, rfl, _, rfl, ite2 (fun c => ?_) (fun c => ?_)⟩
      · show (0 : Int) < (a.every : Int)
        have := W.ev.1
        omega
      · have c' : (a.now_ + 1) % a.every = 0 := by
          have c1 : V.int (((a.now_ + 1 : Nat) : Int) % ((a.every : Nat) : Int)) = V.int 0 := of_decide_eq_true c
          injection c1 with c2
          omega
        refine ⟨_, rfl, H0, p, Abs.later a, dx, tl, sl, rs, rfl, R3, s3, fun H' sl' l R4 s4 h4 h5 => ?_⟩
        have em : a.minute = (Abs.later a).moves := by rw [minute_eq, if_pos c']
        refine k H' sl' l (by rw [em]; exact R4) s4 h4 ?_
        rw [h5]
        unfold cameM
        rw [if_pos c']
        rfl
      · have c' : ¬ (a.now_ + 1) % a.every = 0 := by
          intro z
          apply c
          refine decide_eq_true ?_
          show V.int (((a.now_ + 1 : Nat) : Int) % ((a.every : Nat) : Int)) = V.int 0
          congr 1
          omega
        refine ⟨Nat.zero_le _, fun l hl => ?_⟩
        have em : a.minute = Abs.later a := by rw [minute_eq, if_neg c']
        refine k _ sl l (by rw [em]; exact R3.same (Same.up hl)) (Same.up0 s3 (s3.free hl)) (s3.free hl) ?_
        rw [upd_same]
        unfold cameM
        rw [if_neg c']
        rfl
end
end Sp

set_option Elab.async false
set_option linter.all false
set_option maxRecDepth 100000
set_option maxHeartbeats 2000000
namespace Sp
open PySem PySem.Spec PyProof.Rows L2
open Su74 (Abs Tray)
section
variable {CT CS : Addr} {H0 H0' H H' : Hp} {p dx tl sl : Addr} {a : Abs} {rs : List Addr}
theorem RepX.base (R : RepX CT CS H0 H p a dx tl sl rs) (h : ∀ b, H0 b = none → H b ≠ none → H0' b = none) : RepX CT CS H0' H p a dx tl sl rs := by
  refine ⟨R.wf, R.sp, R.trs, R.sls, R.len, R.nd, R.tray, R.ne, h _ R.np ?_, h _ R.nt ?_, h _ R.ns ?_, fun r hr => h _ (R.nr r hr) ?_⟩
  · rw [R.sp]; simp
  · rw [R.trs]; simp
  · rw [R.sls]; simp
  · obtain ⟨t, ht⟩ := List.getElem?_of_mem hr
    obtain ⟨d, e⟩ := R.tray t r ht
    rw [e]; simp
/-- all but the spiral's own parts -/
def RepX.rest (H : Hp) (p tl sl : Addr) (rs : List Addr) : Hp := fun b => if b = p ∨ b = tl ∨ b = sl ∨ b ∈ rs then none else H b
end
section
variable {P : Program} {w : World} {K : PySem.W.Frag} {mg : Str → Option Value} {base : Heap} {CT CS : Addr}
/-! ### pass_minutes -/
def spPass (CT CS : Addr) : Sp := fun vs H Q _ => ∃ (H0 : Hp) (p : Addr) (a : Abs) (dx tl sl : Addr) (rs : List Addr) (n : Nat), vs = [.ref p, .int n] ∧ n ≤ 100000 ∧ RepX CT CS H0 H p a dx tl sl rs ∧ Same H0 H ∧
  ∀ (H' : Hp) (sl' l : Addr), RepX CT CS H0 H' p (a.goes n) dx tl sl' rs → Same H0 H' → H0 l = none → H' l = some (.lst (refsOf rs (came a n))) → Q (.ref l) H'
theorem scPass : FnScope ["spiral", "minutes", "came_out", "passed"] ["spiral", "minutes"] (defScope sPass) := ⟨rfl, rfl, rfl, by decide +kernel, rfl, by decide +kernel, by decide +kernel⟩
theorem ok_pass {f : Addr} {fd : FuncData} (F : Fun K "pass_minutes" "pass_minutes" sPass f fd) (T : Txt K mg CT CS) (dP : Def P w K mg base "pass_minute" ["spiral"] 3 (spPassM CT CS)) : FnOk P w K mg base CX0 4 f fd ["spiral", "minutes"] (spPass CT CS) := by
  refine F.ok scPass (fun vs H Q E h => ?_) (fun cdv A outer s H vs Q E hr h => ?_)
  · obtain ⟨H0, p, a, dx, tl, sl, rs, n, rfl, _⟩ := h
    rfl
  · obtain ⟨H0, p, a, dx, tl, sl, rs, n, rfl, hn, R, s0, k⟩ := h
    have W := R.wf
    refine ⟨_, pss_cons (ps_set (i := 2) scPass.nd rfl (Or.inl rfl) (pe_lst pa_nil))
      (pss_cons (ps_for PassesOwn.never rfl (pi_range1 rfl T.range (pa_cons (pv 1) pa_nil)) (pg_name (i := 3) scPass.nd rfl (Or.inl rfl))
        (pss_one (ps_expr (pe_bm PySem.F.plainAttrs_list PySem.F.slot_list_extend PySem.F.type_list_extend mt_extend (pv 2) (pa_cons (pe_def dP hr (pa_cons (pv 0) pa_nil)) pa_nil)))))
      (pss_one (ps_ret (pv 2)))), ?_⟩
    refine ⟨Nat.zero_le _, fun c hc => ?_⟩
    have c0 : H0 c = none := s0.free hc
    have R1 : RepX CT CS (upd H0 c (.lst [])) (upd H c (.lst [])) p a dx tl sl rs := by
      have := R.base (H0' := upd H0 c (.lst [])) fun b hb hb2 => by
        rw [upd_ne (fun z => by rw [z] at hb2; exact hb2 hc)]
        exact hb
      exact this.same (Same.up hc)
    have s1 : Same (upd H0 c (.lst [])) (upd H c (.lst [])) := fun b o e => by
      by_cases z : b = c
      · subst z; rw [upd_same] at e ⊢; exact e
      · rw [upd_ne z] at e ⊢; exact s0 b o e
    refine ⟨_, rfl, (n : Int), rfl, by omega, by omega, for_range (lo := 0) (n := (n : Int).toNat) (fun i σ H' => i ≤ n → ∃ (v : Option V) (sl' : Addr), σ = [some (.ref p), some (.int n), some (.ref c), v] ∧ RepX CT CS (upd H0 c (.lst (refsOf rs (came a i)))) H' p (a.goes i) dx tl sl' rs ∧ Same (upd H0 c (.lst (refsOf rs (came a i)))) H')
      (fun _ => ⟨none, sl, rfl, R1, s1⟩) ?_ ?_⟩
    · intro i σ H' hi hP
      obtain ⟨v, sl', rfl, R2, s2⟩ := hP (by omega)
      have hc2 : H' c = some (.lst (refsOf rs (came a i))) := s2 _ _ upd_same
      refine ⟨_, rfl, .inl ⟨rfl, _, SqL.of hc2⟩, _, rfl, _, p, a.goes i, dx, tl, sl', rs, rfl, R2, s2, fun H3 sl3 l R3 s3 h3 h4 => ?_⟩
      have hc3 : H3 c = some (.lst (refsOf rs (came a i))) := s3 _ _ upd_same
      refine ⟨c, l, _, _, rfl, rfl, hc3, h4, ?_, fun _ => ?_⟩
      · have h5 := came_len_le W (i + 1)
        have h6 : (came a (i + 1)).length = (came a i).length + (cameM (a.goes i)).length := by
          show (came a i ++ cameM (a.goes i)).length = _
          rw [List.length_append]
        have h7 := W.tr
        have h8 : 100 < sizeLine := by decide
        unfold refsOf
        rw [List.length_map, List.length_map]
        omega
      · have e : refsOf rs (came a i) ++ refsOf rs (cameM (a.goes i)) = refsOf rs (came a (i + 1)) := by
          unfold refsOf
          rw [← List.map_append]
          rfl
        rw [e]
        refine ⟨_, sl3, rfl, ?_, ?_⟩
        · rw [goes_succ]
          have R4 := R3.upd0 (q := c) (o := .lst (refsOf rs (came a (i + 1)))) (by rw [upd_same]; simp)
          refine R4.base fun b hb _ => ?_
          by_cases z : b = c
          · subst z; rw [upd_same] at hb; cases hb
          · rw [upd_ne z] at hb ⊢; exact hb
        · intro b o hb
          by_cases z : b = c
          · subst z; rw [upd_same] at hb ⊢; exact hb
          · rw [upd_ne z] at hb ⊢
            exact s3 b o (by rw [upd_ne z]; exact hb)
    · intro σ H' hP
      have e : (n : Int).toNat = n := by omega
      rw [e] at hP
      obtain ⟨v, sl', rfl, R2, s2⟩ := hP (Nat.le_refl _)
      refine ⟨_, rfl, ?_⟩
      refine k H' sl' c (R2.base fun b hb _ => ?_) ((Same.up c0).trans s2) c0 (s2 _ _ upd_same)
      by_cases z : b = c
      · subst z; exact c0
      · rw [upd_ne z] at hb; exact hb
/-! ### twin_spiral -/
def spTwinS (CT CS : Addr) : Sp := fun vs H Q _ => ∃ (H0 : Hp) (p : Addr) (a : Abs) (dx tl sl : Addr) (rs : List Addr), vs = [.ref p] ∧ RepX CT CS H0 H p a dx tl sl rs ∧
  ∀ (H' : Hp) (p' dx' tl' sl' : Addr) (rs' : List Addr), Same H H' → RepX CT CS H H' p' a dx' tl' sl' rs' → Q (.ref p') H'
theorem scTwinS : FnScope ["spiral", "other", "tray"] ["spiral"] (defScope sTwinS) := ⟨rfl, rfl, rfl, by decide +kernel, rfl, by decide +kernel, by decide +kernel⟩
/-- the twins made so far -/
structure Twins (CT : Addr) (H H1 H' : Hp) (a : Abs) (D : Addr) (rs' : List Addr) (i : Nat) : Prop where
  lst : H' D = some (.lst (rs'.map V.ref))
  same : Same H1 H'
  len : rs'.length = i
  nd : rs'.Nodup
  at_ : ∀ (t : Nat) (r : Addr), rs'[t]? = some r → H1 r = none ∧ ∃ d, H' r = some (.ins CT d (trF t (a.tray t) (outV a t)))
theorem tYes_if {σ : L2.St} {H : Hp} {A B : Hp → Prop} (h : A H) : tYes σ H (fun b H3 => if b = true then A H3 else B H3) := by
  show if true = true then A H else B H
  rw [if_pos rfl]
  exact h
theorem spF_eq {a b : Abs} (tl sl : Addr) (h1 : a.places.length = b.places.length) (h2 : a.every = b.every) (h3 : a.base = b.base) (h4 : a.warm = b.warm) (h5 : a.door = b.door) (h6 : a.slow = b.slow) (h7 : a.want = b.want) (h8 : a.now_ = b.now_) (h9 : a.left = b.left) : spF a tl sl = spF b tl sl := by
  unfold spF
  rw [h1, h2, h3, h4, h5, h6, h7, h8, h9]
theorem ok_twinS {f fI : Addr} {fd fdI : FuncData} (F : Fun K "twin_spiral" "twin_spiral" sTwinS f fd) (T : Txt K mg CT CS) (M : Mk K CS fI) (GI : FnOk P w K mg base CX0 1 fI fdI ["self", "places", "pace", "base", "warm", "opened", "slow", "wanted"] (spInitS CS))
    (bI : Binds K fdI ["self", "places", "pace", "base", "warm", "opened", "slow", "wanted"] []) (dT : Def P w K mg base "twin_tray" ["tray"] 3 (spTwinT CT)) :
    FnOk P w K mg base CX0 4 f fd ["spiral"] (spTwinS CT CS) := by
  refine F.ok scTwinS (fun vs H Q E h => ?_) (fun cdv A outer s H vs Q E hr h => ?_)
  · obtain ⟨H0, p, a, dx, tl, sl, rs, rfl, _⟩ := h
    rfl
  · obtain ⟨H0, p, a, dx, tl, sl, rs, rfl, R, k⟩ := h
    have W := R.wf
    have hr2 : Room 2 _ := hr.mono (by decide)
    refine ⟨_, pss_cons (ps_set (i := 1) scTwinS.nd rfl (Or.inl rfl) (pe_make M GI hr2 rfl T.mgS bI .nil pass0 (pa_cons (pe_fld (pv 0) rfl) (pa_cons (pe_fld (pv 0) rfl) (pa_cons (pe_fld (pv 0) rfl) (pa_cons (pe_fld (pv 0) rfl) (pa_cons (pe_fld (pv 0) rfl) (pa_cons (pe_fld (pv 0) rfl) (pa_cons (pe_fld (pv 0) rfl) pa_nil)))))))))
      (pss_cons (ps_fld (pv 1) (pe_fld (pv 0) rfl) rfl)
      (pss_cons (ps_fld (pv 1) (pe_fld (pv 0) rfl) rfl)
      (pss_cons (ps_fld (pv 1) (pe_lc (own := [("tray", 2)]) (g := gName 2) (tt := tYes) (te := tCall (spTwinT CT) [] E0 (tCons (tVar 2) tNil)) rfl scTwinS.nd (pi_list (pe_fld (pv 0) rfl)) (blkOk_by (by change blkC ["spiral", "other", "tray"] (defScope sTwinS) _ _ = true; decide +kernel)) (fun _ _ _ _ _ => pg_name (i := 2) scTwinS.nd rfl (Or.inl rfl))
        (fun _ _ _ _ _ => pts_nil) (fun _ _ _ _ _ => pe_def dT hr (pa_cons (pv 2) pa_nil))) rfl)
      (pss_cons (ps_fld (pv 1) (pe_callTy call_list_of rfl T.list (by decide +kernel) (pa_cons (pe_fld (pv 0) rfl) pa_nil)) rfl)
      (pss_one (ps_ret (pv 1))))))), ?_⟩
    refine ⟨_, rfl, p, CS, dx, _, _, rfl, R.sp, T.clS, T.s1, spF_places _ _ _, _, rfl, p, CS, dx, _, _, rfl, R.sp, T.clS, T.s2, spF_pace _ _ _, _, rfl, p, CS, dx, _, _, rfl, R.sp, T.clS, T.s3, spF_base _ _ _, _, rfl, p, CS, dx, _, _, rfl, R.sp, T.clS, T.s4, spF_warm _ _ _,
      _, rfl, p, CS, dx, _, _, rfl, R.sp, T.clS, T.s5, spF_opened _ _ _, _, rfl, p, CS, dx, _, _, rfl, R.sp, T.clS, T.s6, spF_slow _ _ _, _, rfl, p, CS, dx, _, _, rfl, R.sp, T.clS, T.s7, spF_wanted _ _ _, ?_⟩
    intro x dx' nx ndx nex
    refine ⟨x, dx', a.places.length, a.every, a.base, a.warm, a.door, a.slow, a.want, rfl, W.pl.2, upd_same, fun H1 tl0 sl0 g1 g2 g3 f2 f3 ne kp => ⟨rfl, ?_⟩⟩
    have s1 : Same H H1 := Same.made nx ndx kp
    have R1 := R.same s1
    have npx : p ≠ x := ne_of_none R.sp nx
    refine ⟨_, rfl, p, CS, dx, _, _, rfl, R1.sp, T.clS, T.s8, spF_minute _ _ _, _, rfl, x, CS, dx', _, rfl, g1, T.clS, T.s8, spF_len _ _ _, ?_⟩
    rw [spF_setMinute]
    have s2 : Same H (upd H1 x (.ins CS dx' (spF { Su74.new a.places.length a.every a.base a.warm a.door a.slow a.want with now_ := a.now_ } tl0 sl0))) := Same.up0 s1 nx
    refine ⟨_, rfl, p, CS, dx, _, _, rfl, (R.same s2).sp, T.clS, T.s9, spF_door _ _ _, _, rfl, x, CS, dx', _, rfl, upd_same, T.clS, T.s9, spF_len _ _ _, ?_⟩
    rw [spF_setDoor, upd_upd]
    have eF : spF { Su74.new a.places.length a.every a.base a.warm a.door a.slow a.want with now_ := a.now_, left := a.left } tl0 sl0 = spF a tl0 sl0 := spF_eq tl0 sl0 (List.length_replicate) rfl rfl rfl rfl rfl rfl rfl rfl
    show tSeq _ _ _ _ (upd H1 x (.ins CS dx' (spF { Su74.new a.places.length a.every a.base a.warm a.door a.slow a.want with now_ := a.now_, left := a.left } tl0 sl0)))
    rw [eF]
    have s3 : Same H (upd H1 x (.ins CS dx' (spF a tl0 sl0))) := Same.up0 s1 nx
    have g4 : upd H1 x (.ins CS dx' (spF a tl0 sl0)) x = some (.ins CS dx' (spF a tl0 sl0)) := upd_same
    generalize upd H1 x (.ins CS dx' (spF a tl0 sl0)) = H2 at s3 g4 ⊢
    have R2 := R.same s3
    -- the trays
    refine ⟨_, rfl, p, CS, dx, _, _, rfl, R2.sp, T.clS, T.s10, spF_trays _ _ _, tl, rfl, ⟨_, SqL.of R2.trs⟩, fun D hD => ?_⟩
    refine lc_list (K := K) (a := tl) (xs := rs.map V.ref) (fun i H' => ∃ rs', Twins CT H H2 H' a D rs' i) ⟨[], upd_same, Same.up hD, rfl, List.nodup_nil, fun t r h => by simp at h⟩ (fun i H' _ ⟨rs', Z⟩ => SqL.of (Z.same _ _ R2.trs)) ?_ ?_
    · rintro i y H' hi ⟨rs', Z⟩
      rw [List.getElem?_map] at hi
      cases hq : rs[i]? with
      | none => rw [hq] at hi; cases hi
      | some r =>
        rw [hq] at hi
        have hy : y = V.ref r := (Option.some.inj hi).symm
        subst hy
        obtain ⟨d, hd⟩ := R2.tray i r hq
        refine ⟨rfl, tYes_if ?_⟩
        refine ⟨_, rfl, r, d, i, a.tray i, outV a i, rfl, Z.same _ _ hd, fun H3 r' d' n3 h3 s3' => ⟨rs'.map V.ref, s3' _ _ Z.lst, ?_, rs' ++ [r'], ?_, ?_, ?_, ?_, ?_⟩⟩
        · rw [List.length_map, Z.len]
          have h1 := (List.getElem?_eq_some_iff.mp hq).1
          rw [R.len] at h1
          have h2 := W.tr
          have h3 : 100 < sizeLine := by decide
          omega
        · rw [upd_same, List.map_append]
          rfl
        · exact Same.up0 (Z.same.trans s3') hD
        · rw [List.length_append, Z.len]
          rfl
        · refine List.nodup_append.mpr ⟨Z.nd, by simp, ?_⟩
          intro u hu v hv z
          rw [List.mem_singleton] at hv
          subst hv
          subst z
          obtain ⟨t, ht⟩ := List.getElem?_of_mem hu
          obtain ⟨_, d2, e2⟩ := Z.at_ t u ht
          rw [n3] at e2
          cases e2
        · intro t u hu
          rcases Nat.lt_or_ge t rs'.length with z | z
          · rw [List.getElem?_append_left z] at hu
            obtain ⟨e1, d2, e2⟩ := Z.at_ t u hu
            refine ⟨e1, d2, ?_⟩
            have nu : u ≠ D := ne_of e2 Z.lst (by intro q; cases q)
            rw [upd_ne nu]
            exact s3' _ _ e2
          · have ht : t = rs'.length := by
              have h1 := (List.getElem?_eq_some_iff.mp hu).1
              rw [List.length_append, List.length_singleton] at h1
              omega
            rw [ht, List.getElem?_append_right (Nat.le_refl _), Nat.sub_self] at hu
            have hu' : u = r' := (Option.some.inj hu).symm
            subst hu'
            refine ⟨Z.same.free n3, d', ?_⟩
            have nu : u ≠ D := fun q => by
              rw [q, Z.lst] at n3
              cases n3
            rw [upd_ne nu, ht, Z.len]
            exact h3
    · rintro H3 ⟨rs', Z⟩
      have e : (rs.map V.ref).length = rs.length := List.length_map _
      have zl : rs'.length = a.trays.length := by rw [Z.len, e, R.len]
      have g5 := Z.same _ _ g4
      have R3 := R2.same Z.same
      refine ⟨_, rfl, x, CS, dx', _, rfl, g5, T.clS, T.s10, spF_len _ _ _, ?_⟩
      rw [spF_setTrays]
      have sx : Same H (upd H3 x (.ins CS dx' (spF a D sl0))) := Same.up0 (s3.trans Z.same) nx
      have R4 := R.same sx
      refine ⟨_, rfl, p, CS, dx, _, _, rfl, R4.sp, T.clS, T.s11, spF_slots _ _ _, sl, _, rfl, .inl (SqL.of R4.sls), fun q hq => ?_⟩
      have nxq : x ≠ q := fun z => by rw [← z, upd_same] at hq; cases hq
      refine ⟨_, rfl, x, CS, dx', _, rfl, Eq.trans (upd_ne nxq) upd_same, T.clS, T.s11, spF_len _ _ _, ?_⟩
      rw [spF_setSlots]
      refine ⟨_, rfl, ?_⟩
      have hqH : H q = none := sx.free hq
      rw [upd_ne (Ne.symm nxq)] at hq
      have nDq : D ≠ q := ne_of_none Z.lst hq
      have nDx : D ≠ x := ne_of Z.lst g5 (by intro z; cases z)
      have hDH : H D = none := s3.free hD
      refine k _ x dx' D q rs' (Same.up0 (Same.up0 sx hqH) nx) ⟨W, upd_same, ?_, ?_, zl, Z.nd, ?_, nDq, nx, hDH, hqH, ?_⟩
      · rw [upd_ne nDx, upd_ne nDq, upd_ne nDx]
        exact Z.lst
      · rw [upd_ne (Ne.symm nxq), upd_same]
      · intro t r hr'
        obtain ⟨e1, d2, e2⟩ := Z.at_ t r hr'
        have n1 : r ≠ x := fun z => by rw [z, g4] at e1; cases e1
        refine ⟨d2, ?_⟩
        rw [upd_ne n1, upd_ne (ne_of_none e2 hq), upd_ne n1]
        exact e2
      · intro r hr'
        obtain ⟨t, ht⟩ := List.getElem?_of_mem hr'
        obtain ⟨e1, _⟩ := Z.at_ t r ht
        exact s3.free e1
end
end Sp

set_option Elab.async false
set_option linter.all false
set_option maxRecDepth 100000
set_option maxHeartbeats 2000000
namespace Sp
open PySem PySem.Spec PyProof.Rows L2
open Su74 (Abs Tray)
abbrev sPut : Stmt := top 36
abbrev sMinutes : Stmt := top 37
abbrev sEvery : Stmt := top 38
abbrev sDoor : Stmt := top 39
/-! ### numbers of the top -/
def GI (mg : Str → Option Value) (x : Str) (n : Int) : Prop := ∃ t, mg x = some (.int n t)
theorem pe_gi {X : Cx} {x : Str} {n : Int} {pos : Pos} (h : GI X.mg x n) (hg : Gl X x := by rfl) (hd : (x == ("__debug__" : Str)) = false := by decide) : PE X (.Name x pos) (tC (.int n)) := by
  obtain ⟨t, e⟩ := h
  exact pe_glob hg e ⟨t, rfl⟩ hd
structure Nums (mg : Str → Option Value) : Prop where
  noneSuch : GI mg "NONE_SUCH" (-2)
  notBegun : GI mg "NOT_BEGUN" (-11)
  one : GI mg "THERE_IS_ONE" (-16)
  out : GI mg "IS_OUT" (-17)
  range : GI mg "OUT_OF_RANGE" (-22)
  many : GI mg "TOO_MANY" (-28)
  notSo : GI mg "NOT_SO" (-33)
  flavour : GI mg "GREATEST_FLAVOUR" 9
  litres : GI mg "GREATEST_LITRES" 1000
  frost : GI mg "GREATEST_FROST" 600
  pace : GI mg "GREATEST_PACE" 60
  minutes : GI mg "MOST_MINUTES" 500
  trays : GI mg "MOST_TRAYS" 100
  longest : GI mg "LONGEST_IN_STEADY_AIR" 2000
  noneOut : GI mg "NONE_CAME_OUT" (-6)
/-! ### a call's answer -/
def ansV (r : Su74.Ans) : List V := .int r.value :: r.out.map fun (n : Nat) => V.int n
def AnsSp (CT CS : Addr) (c : Su74.Call) (args vs : List V) (H : Hp) (Q : VK) : Prop :=
  ∃ (H0 : Hp) (p : Addr) (a : Abs) (dx tl sl : Addr) (rs : List Addr), vs = .ref p :: args ∧ RepX CT CS H0 H p a dx tl sl rs ∧ Same H0 H ∧
    ∀ (H' : Hp) (l dx' tl' sl' : Addr) (rs' : List Addr), RepX CT CS H0 H' p (Su74.does a c).1 dx' tl' sl' rs' → Same H0 H' → H0 l = none → H' l = some (.lst (ansV (Su74.does a c).2)) → Q (.ref l) H'
section
variable {CT CS : Addr} {H0 H : Hp} {p dx tl sl : Addr} {a : Abs} {rs : List Addr} {Q : VK} {c : Su74.Call}
/-- a new list is the answer, and nothing was changed -/
theorem ans_same (R : RepX CT CS H0 H p a dx tl sl rs) (s0 : Same H0 H) (k : ∀ (H' : Hp) (l dx' tl' sl' : Addr) (rs' : List Addr), RepX CT CS H0 H' p (Su74.does a c).1 dx' tl' sl' rs' → Same H0 H' → H0 l = none → H' l = some (.lst (ansV (Su74.does a c).2)) → Q (.ref l) H')
    {r : Su74.Ans} (e : Su74.does a c = (a, r)) {xs : List V} (ex : xs = ansV r) : ∀ l, H l = none → Q (.ref l) (upd H l (.lst xs)) := fun l hl => by
  rw [e] at k
  exact k _ l dx tl sl rs (R.same (Same.up hl)) (Same.up0 s0 (s0.free hl)) (s0.free hl) (by rw [upd_same, ex])
end
theorem bool_not {b : Bool} (h : ¬ b = true) : b = false := Bool.eq_false_iff.mpr h
section
variable {P : Program} {w : World} {K : PySem.W.Frag} {mg : Str → Option Value} {base : Heap} {CT CS : Addr}
/-! ### answer_every -/
def spEvery (CT CS : Addr) : Sp := fun vs H Q _ => ∃ n : Nat, AnsSp CT CS (.every n) [.int n] vs H Q
theorem scEvery : FnScope ["spiral", "pace", "before"] ["spiral", "pace"] (defScope sEvery) := ⟨rfl, rfl, rfl, by decide +kernel, rfl, by decide +kernel, by decide +kernel⟩
theorem ok_every {f : Addr} {fd : FuncData} (F : Fun K "answer_every" "answer_every" sEvery f fd) (T : Txt K mg CT CS) (N : Nums mg) (dW : Def P w K mg base "is_within" ["number", "least", "greatest"] 1 spWithin) : FnOk P w K mg base CX0 2 f fd ["spiral", "pace"] (spEvery CT CS) := by
  refine F.ok scEvery (fun vs H Q E h => ?_) (fun cdv A outer s H vs Q E hr h => ?_)
  · obtain ⟨n, H0, p, a, dx, tl, sl, rs, rfl, _⟩ := h
    rfl
  · obtain ⟨n, H0, p, a, dx, tl, sl, rs, rfl, R, s0, k⟩ := h
    have W := R.wf
    refine ⟨_, pss_cons (ps_if (pt_not (pt_val (pe_def dW hr (pa_cons (pv 1) (pa_cons pe_int (pa_cons (pe_gi N.pace) pa_nil)))))) (pss_one (ps_ret (pe_lst (pa_cons (pe_gi N.range) pa_nil)))) pss_nil)
      (pss_cons (ps_set (i := 2) scEvery.nd rfl (Or.inl rfl) (pe_fld (pv 0) rfl))
      (pss_cons (ps_fld (pv 0) (pv 1) rfl)
      (pss_one (ps_ret (pe_lst (pa_cons (pv 2) pa_nil)))))), ?_⟩
    refine ⟨_, rfl, (n : Int), 1, 60, rfl, _, rfl, ite2 (fun c => ?_) (fun c => ?_)⟩
    · have hn : n = 0 ∨ Su74.SLOW < n := by
        have hS : Su74.SLOW = 60 := rfl
        rw [Bool.not_eq_true', Bool.and_eq_false_iff, decide_eq_false_iff_not, decide_eq_false_iff_not] at c
        omega
      refine ⟨(by show 1 ≤ sizeLine; decide), ans_same R s0 k (r := Su74.no (-22)) ?_ rfl⟩
      show (if n = 0 ∨ Su74.SLOW < n then (a, Su74.no (-22)) else _) = _
      rw [if_pos hn]
    · have hn : ¬ (n = 0 ∨ Su74.SLOW < n) := by
        have hS : Su74.SLOW = 60 := rfl
        rw [Bool.not_eq_true', Bool.and_eq_false_iff, decide_eq_false_iff_not, decide_eq_false_iff_not] at c
        omega
      have e : Su74.does a (.every n) = ({ a with every := n }, Su74.num a.every []) := by
        show (if n = 0 ∨ Su74.SLOW < n then (a, Su74.no (-22)) else _) = _
        rw [if_neg hn]
      rw [e] at k
      have hS : Su74.SLOW = 60 := rfl
      refine ⟨_, rfl, p, CS, dx, _, _, rfl, R.sp, T.clS, T.s2, spF_pace _ _ _, _, rfl, _, rfl, p, CS, dx, _, rfl, R.sp, T.clS, T.s2, spF_len _ _ _, ?_⟩
      rw [spF_setPace]
      refine ⟨_, rfl, (by show 1 ≤ sizeLine; decide), fun l hl => ?_⟩
      have R2 := R.setSp (b := { a with every := n }) (W.every (by omega) (by omega)) rfl rfl rfl
      have s2 : Same H0 (upd H p (.ins CS dx (spF { a with every := n } tl sl))) := Same.up0 s0 R.np
      exact k _ l dx tl sl rs (R2.same (Same.up hl)) (Same.up0 s2 (s2.free hl)) (s2.free hl) (by rw [upd_same]; rfl)
/-! ### answer_door -/
def spDoor (CT CS : Addr) : Sp := fun vs H Q _ => ∃ n : Nat, AnsSp CT CS (.door n) [.int n] vs H Q
theorem scDoor : FnScope ["spiral", "minutes", "before"] ["spiral", "minutes"] (defScope sDoor) := ⟨rfl, rfl, rfl, by decide +kernel, rfl, by decide +kernel, by decide +kernel⟩
theorem ok_door {f : Addr} {fd : FuncData} (F : Fun K "answer_door" "answer_door" sDoor f fd) (T : Txt K mg CT CS) (N : Nums mg) : FnOk P w K mg base CX0 1 f fd ["spiral", "minutes"] (spDoor CT CS) := by
  refine F.ok scDoor (fun vs H Q E h => ?_) (fun cdv A outer s H vs Q E hr h => ?_)
  · obtain ⟨n, H0, p, a, dx, tl, sl, rs, rfl, _⟩ := h
    rfl
  · obtain ⟨n, H0, p, a, dx, tl, sl, rs, rfl, R, s0, k⟩ := h
    have W := R.wf
    refine ⟨_, pss_cons (ps_if (pt_cmpR op_gt (pv 1) (pe_gi N.minutes) (nomark _)) (pss_one (ps_ret (pe_lst (pa_cons (pe_gi N.range) pa_nil)))) pss_nil)
      (pss_cons (ps_set (i := 2) scDoor.nd rfl (Or.inl rfl) (pe_fld (pv 0) rfl))
      (pss_cons (ps_fld (pv 0) (pv 1) rfl)
      (pss_one (ps_ret (pe_lst (pa_cons (pv 2) pa_nil)))))), ?_⟩
    refine ⟨_, rfl, _, _, rfl, rfl, _, rfl, ite2 (fun c => ?_) (fun c => ?_)⟩
    · have hn : 500 < n := by have := of_decide_eq_true c; omega
      refine ⟨(by show 1 ≤ sizeLine; decide), ans_same R s0 k (r := Su74.no (-22)) ?_ rfl⟩
      show (if 500 < n then (a, Su74.no (-22)) else _) = _
      rw [if_pos hn]
    · have hn : ¬ 500 < n := fun q => c (decide_eq_true (by omega))
      have e : Su74.does a (.door n) = ({ a with left := n }, Su74.num a.left []) := by
        show (if 500 < n then (a, Su74.no (-22)) else _) = _
        rw [if_neg hn]
      rw [e] at k
      refine ⟨_, rfl, p, CS, dx, _, _, rfl, R.sp, T.clS, T.s9, spF_door _ _ _, _, rfl, _, rfl, p, CS, dx, _, rfl, R.sp, T.clS, T.s9, spF_len _ _ _, ?_⟩
      rw [spF_setDoor]
      refine ⟨_, rfl, (by show 1 ≤ sizeLine; decide), fun l hl => ?_⟩
      have R2 := R.setSp (b := { a with left := n }) (W.door (by omega)) rfl rfl rfl
      have s2 : Same H0 (upd H p (.ins CS dx (spF { a with left := n } tl sl))) := Same.up0 s0 R.np
      exact k _ l dx tl sl rs (R2.same (Same.up hl)) (Same.up0 s2 (s2.free hl)) (s2.free hl) (by rw [upd_same]; rfl)
/-! ### answer_minutes -/
def spMinutes (CT CS : Addr) : Sp := fun vs H Q _ => ∃ n : Nat, AnsSp CT CS (.minutes n) [.int n] vs H Q
theorem scMinutes : FnScope ["spiral", "minutes", "came_out"] ["spiral", "minutes"] (defScope sMinutes) := ⟨rfl, rfl, rfl, by decide +kernel, rfl, by decide +kernel, by decide +kernel⟩
theorem ok_minutes {f : Addr} {fd : FuncData} (F : Fun K "answer_minutes" "answer_minutes" sMinutes f fd) (T : Txt K mg CT CS) (N : Nums mg) (dW : Def P w K mg base "is_within" ["number", "least", "greatest"] 1 spWithin) (dP : Def P w K mg base "pass_minutes" ["spiral", "minutes"] 4 (spPass CT CS)) :
    FnOk P w K mg base CX0 5 f fd ["spiral", "minutes"] (spMinutes CT CS) := by
  refine F.ok scMinutes (fun vs H Q E h => ?_) (fun cdv A outer s H vs Q E hr h => ?_)
  · obtain ⟨n, H0, p, a, dx, tl, sl, rs, rfl, _⟩ := h
    rfl
  · obtain ⟨n, H0, p, a, dx, tl, sl, rs, rfl, R, s0, k⟩ := h
    have W := R.wf
    refine ⟨_, pss_cons (ps_if (pt_not (pt_val (pe_def dW (hr.mono (by decide)) (pa_cons (pv 1) (pa_cons pe_int (pa_cons (pe_gi N.minutes) pa_nil)))))) (pss_one (ps_ret (pe_lst (pa_cons (pe_gi N.range) pa_nil)))) pss_nil)
      (pss_cons (ps_set (i := 2) scMinutes.nd rfl (Or.inl rfl) (pe_def dP hr (pa_cons (pv 0) (pa_cons (pv 1) pa_nil))))
      (pss_one (ps_ret (pe_lst (pa_cons (pe_fld (pv 0) rfl) (pa_cons (pe_callB call_len_seq rfl T.len PySem.boot_len (pa_cons (pv 2) pa_nil)) pa_nil)))))), ?_⟩
    refine ⟨_, rfl, (n : Int), 1, 500, rfl, _, rfl, ite2 (fun c => ?_) (fun c => ?_)⟩
    · have hn : n = 0 ∨ 500 < n := by
        rw [Bool.not_eq_true', Bool.and_eq_false_iff, decide_eq_false_iff_not, decide_eq_false_iff_not] at c
        omega
      refine ⟨(by show 1 ≤ sizeLine; decide), ans_same R s0 k (r := Su74.no (-22)) ?_ rfl⟩
      show (if n = 0 ∨ 500 < n then (a, Su74.no (-22)) else _) = _
      rw [if_pos hn]
    · have hn : ¬ (n = 0 ∨ 500 < n) := by
        rw [Bool.not_eq_true', Bool.and_eq_false_iff, decide_eq_false_iff_not, decide_eq_false_iff_not] at c
        omega
      have e : Su74.does a (.minutes n) = (a.goes n, Su74.num (a.now_ + n) [(a.goes n).out.length - a.out.length]) := by
        show (if n = 0 ∨ 500 < n then (a, Su74.no (-22)) else _) = _
        rw [if_neg hn]
      rw [e] at k
      refine ⟨_, rfl, _, rfl, H0, p, a, dx, tl, sl, rs, n, rfl, by omega, R, s0, fun H1 sl1 l1 R1 s1 n1 h1 => ?_⟩
      refine ⟨_, rfl, p, CS, dx, _, _, rfl, R1.sp, T.clS, T.s8, spF_minute _ _ _, _, rfl, l1, _, rfl, .inl (SqL.of h1), (by show 2 ≤ sizeLine; decide), fun l hl => ?_⟩
      refine k _ l dx tl sl1 rs (R1.same (Same.up hl)) (Same.up0 s1 (s1.free hl)) (s1.free hl) ?_
      rw [upd_same, goes_now]
      have e2 : (refsOf rs (came a n)).length = (a.goes n).out.length - a.out.length := by
        rw [goes_out_len]
        unfold refsOf
        rw [List.length_map]
      rw [e2]
      rfl
end
end Sp

set_option Elab.async false
set_option linter.all false
set_option maxRecDepth 100000
set_option maxHeartbeats 2000000
namespace Sp
open PySem PySem.Spec PyProof.Rows L2
open Su74 (Abs Tray)
abbrev sAsked : Stmt := top 42
abbrev sHardens : Stmt := top 43
abbrev sNeeds : Stmt := top 44
abbrev sMost : Stmt := top 45
section
variable {P : Program} {w : World} {K : PySem.W.Frag} {mg : Str → Option Value} {base : Heap} {CT CS : Addr}
/-! ### is_steady_air_asked -/
def spAsked (CS : Addr) : Sp := fun vs H Q _ => ∃ (p : Addr) (a : Abs) (n g : Nat), vs = [.ref p, .int n, .int g] ∧ SpAt CS H p a ∧ Q (.bl (decide (n ≤ a.places.length) && decide (g ≤ 600))) H
theorem scAsked : FnScope ["spiral", "trays", "frost"] ["spiral", "trays", "frost"] (defScope sAsked) := ⟨rfl, rfl, rfl, by decide +kernel, rfl, by decide +kernel, by decide +kernel⟩
theorem ok_asked {f : Addr} {fd : FuncData} (F : Fun K "is_steady_air_asked" "is_steady_air_asked" sAsked f fd) (T : Txt K mg CT CS) (N : Nums mg) : FnOk P w K mg base CX0 1 f fd ["spiral", "trays", "frost"] (spAsked CS) := by
  refine F.ok scAsked (fun vs H Q E h => ?_) (fun cdv A outer s H vs Q E hr h => ?_)
  · obtain ⟨p, a, n, g, rfl, _⟩ := h
    rfl
  · obtain ⟨p, a, n, g, rfl, ⟨dx, tl, sl, hp⟩, k⟩ := h
    refine ⟨_, pss_one (ps_ret (pe_and (pe_cmpR op_le (pv 1) (pe_fld (pv 0) rfl) (nomark _)) (pe_one (pe_cmpR op_le (pv 2) (pe_gi N.frost) (nomark _))))), ?_⟩
    refine ⟨_, rfl, _, rfl, p, CS, dx, _, _, rfl, hp, T.clS, T.s1, spF_places _ _ _, _, _, rfl, rfl, _, rfl, ite2 (fun c => ?_) (fun c => ?_)⟩
    · refine ⟨_, rfl, _, _, rfl, rfl, ?_⟩
      have c' : n ≤ a.places.length := by have := of_decide_eq_true c; omega
      rw [decide_eq_true c', Bool.true_and] at k
      have e : decide ((g : Int) ≤ 600) = decide (g ≤ 600) := by
        by_cases z : g ≤ 600
        · rw [decide_eq_true z, decide_eq_true (by omega)]
        · rw [decide_eq_false z, decide_eq_false (by omega)]
      rw [← e] at k
      exact k
    · have c' : ¬ n ≤ a.places.length := fun q => c (decide_eq_true (by omega))
      rw [decide_eq_false c', Bool.false_and] at k
      exact k
theorem asked_no {n L g : Nat} (c : (!(decide (n ≤ L) && decide (g ≤ 600))) = true) : L < n ∨ 600 < g := by
  rw [Bool.not_eq_true', Bool.and_eq_false_iff, decide_eq_false_iff_not, decide_eq_false_iff_not] at c
  omega
theorem asked_yes {n L g : Nat} (c : ¬ (!(decide (n ≤ L) && decide (g ≤ 600))) = true) : ¬ (L < n ∨ 600 < g) := by
  rw [Bool.not_eq_true', Bool.and_eq_false_iff, decide_eq_false_iff_not, decide_eq_false_iff_not] at c
  omega
/-! ### answer_hardens -/
def spHardens (CT CS : Addr) : Sp := fun vs H Q _ => ∃ n g : Nat, AnsSp CT CS (.hardens n g) [.int n, .int g] vs H Q
theorem scHardens : FnScope ["spiral", "trays", "frost", "air", "passed"] ["spiral", "trays", "frost"] (defScope sHardens) := ⟨rfl, rfl, rfl, by decide +kernel, rfl, by decide +kernel, by decide +kernel⟩
theorem ok_hardens {f : Addr} {fd : FuncData} (F : Fun K "answer_hardens" "answer_hardens" sHardens f fd) (T : Txt K mg CT CS) (N : Nums mg) (dQ : Def P w K mg base "is_steady_air_asked" ["spiral", "trays", "frost"] 1 (spAsked CS)) (dA : Def P w K mg base "air_frost" ["spiral", "trays", "door_is_open"] 1 (spAir CS)) (dC : Def P w K mg base "changed_frost" ["frost", "air", "slow"] 1 spChanged) :
    FnOk P w K mg base CX0 2 f fd ["spiral", "trays", "frost"] (spHardens CT CS) := by
  refine F.ok scHardens (fun vs H Q E h => ?_) (fun cdv A outer s H vs Q E hr h => ?_)
  · obtain ⟨n, g, H0, p, a, dx, tl, sl, rs, rfl, _⟩ := h
    rfl
  · obtain ⟨n, g, H0, p, a, dx, tl, sl, rs, rfl, R, s0, k⟩ := h
    have W := R.wf
    refine ⟨_, pss_cons (ps_if (pt_not (pt_val (pe_def dQ hr (pa_cons (pv 0) (pa_cons (pv 1) (pa_cons (pv 2) pa_nil)))))) (pss_one (ps_ret (pe_lst (pa_cons (pe_gi N.range) pa_nil)))) pss_nil)
      (pss_cons (ps_set (i := 3) scHardens.nd rfl (Or.inl rfl) (pe_def dA hr (pa_cons (pv 0) (pa_cons (pv 1) (pa_cons pe_bl pa_nil)))))
      (pss_cons (ps_for PassesOwn.never rfl (pi_range1 rfl T.range (pa_cons (pe_op op_add (pe_gi N.longest) pe_int) pa_nil)) (pg_name (i := 4) scHardens.nd rfl (Or.inl rfl))
        (pss_cons (ps_if (pt_cmpR op_ge (pv 2) (pe_fld (pv 0) rfl) (nomark _)) (pss_one (ps_ret (pe_lst (pa_cons (pv 4) pa_nil)))) pss_nil)
        (pss_one (ps_set (i := 2) scHardens.nd rfl (Or.inl rfl) (pe_def dC hr (pa_cons (pv 2) (pa_cons (pv 3) (pa_cons (pe_fld (pv 0) rfl) pa_nil))))))))
      (pss_one (ps_ret (pe_lst (pa_cons (pe_gi N.notSo) pa_nil)))))), ?_⟩
    refine ⟨_, rfl, _, rfl, _, rfl, p, a, n, g, rfl, ⟨dx, tl, sl, R.sp⟩, _, rfl, ite2 (fun c => ?_) (fun c => ?_)⟩
    · refine ⟨(by show 1 ≤ sizeLine; decide), ans_same R s0 k (r := Su74.no (-22)) ?_ rfl⟩
      show (if a.places.length < n ∨ 600 < g then (a, Su74.no (-22)) else _) = _
      rw [if_pos (asked_no c)]
    · have hn := asked_yes c
      have e : Su74.does a (.hardens n g) = (match a.hardens n 2001 g with | none => (a, Su74.no (-33)) | some m => (a, Su74.num m [])) := by
        show (if a.places.length < n ∨ 600 < g then (a, Su74.no (-22)) else _) = _
        rw [if_neg hn]
        rfl
      refine ⟨_, rfl, _, rfl, p, a, n, false, rfl, ⟨dx, tl, sl, R.sp⟩, W.wa, ?_⟩
      refine ⟨_, _, rfl, rfl, (2000 + 1 : Int), rfl, by omega, by omega, for_range (lo := 0) (n := (2000 + 1 : Int).toNat) (fun i σ H' => H' = H ∧ (∀ j, j < i → ¬ a.want ≤ a.steady n j g) ∧ ∃ v : Option V, σ = [some (.ref p), some (.int n), some (.int (a.steady n i g : Nat)), some (.int (a.air n false : Nat)), v]) ⟨rfl, fun j hj => (by omega), none, rfl⟩ ?_ ?_⟩
      · rintro i σ H' hi ⟨rfl, hj, v, rfl⟩
        have hi' : i < 2001 := hi
        refine ⟨_, rfl, _, rfl, p, CS, dx, _, _, rfl, R.sp, T.clS, T.s7, spF_wanted _ _ _, _, _, rfl, rfl, _, rfl, ite2 (fun c1 => ?_) (fun c1 => ?_)⟩
        · have hw : a.want ≤ a.steady n i g := by have := of_decide_eq_true c1; omega
          have e2 : Su74.does a (.hardens n g) = (a, Su74.num i []) := by rw [e, hardens_some hj hw hi']
          refine ⟨_, rfl, (by show 1 ≤ sizeLine; decide), ans_same R s0 k e2 ?_⟩
          show [V.int (0 + (i : Nat))] = [V.int (i : Nat)]
          rw [Int.zero_add]
        · have hw : ¬ a.want ≤ a.steady n i g := fun q => c1 (decide_eq_true (by omega))
          refine ⟨_, rfl, _, rfl, _, rfl, p, CS, dx, _, _, rfl, R.sp, T.clS, T.s6, spF_slow _ _ _, a, a.steady n i g, a.air n false, rfl, W.sl.1, W.sl.2, ?_⟩
          refine ⟨rfl, fun j hj2 => ?_, some (V.int (0 + (i : Nat))), ?_⟩
          · rcases Nat.lt_or_ge j i with z | z
            · exact hj j z
            · have : j = i := by omega
              subst this
              exact hw
          · rw [steady_succ]
            rfl
      · rintro σ H' ⟨rfl, hj, v, rfl⟩
        have e2 : Su74.does a (.hardens n g) = (a, Su74.no (-33)) := by rw [e, hardens_none (F := 2001) hj]
        exact ⟨(by show 1 ≤ sizeLine; decide), ans_same R s0 k e2 rfl⟩
/-! ### answer_needs -/
def spNeeds (CT CS : Addr) : Sp := fun vs H Q _ => ∃ n g : Nat, AnsSp CT CS (.needs n g) [.int n, .int g] vs H Q
theorem scNeeds : FnScope ["spiral", "trays", "frost", "pace"] ["spiral", "trays", "frost"] (defScope sNeeds) := ⟨rfl, rfl, rfl, by decide +kernel, rfl, by decide +kernel, by decide +kernel⟩
theorem ok_needs {f : Addr} {fd : FuncData} (F : Fun K "answer_needs" "answer_needs" sNeeds f fd) (T : Txt K mg CT CS) (N : Nums mg) (dQ : Def P w K mg base "is_steady_air_asked" ["spiral", "trays", "frost"] 1 (spAsked CS)) (dS : Def P w K mg base "steady_frost" ["spiral", "trays", "frost", "minutes"] 2 (spSteady CS)) :
    FnOk P w K mg base CX0 3 f fd ["spiral", "trays", "frost"] (spNeeds CT CS) := by
  refine F.ok scNeeds (fun vs H Q E h => ?_) (fun cdv A outer s H vs Q E hr h => ?_)
  · obtain ⟨n, g, H0, p, a, dx, tl, sl, rs, rfl, _⟩ := h
    rfl
  · obtain ⟨n, g, H0, p, a, dx, tl, sl, rs, rfl, R, s0, k⟩ := h
    have W := R.wf
    refine ⟨_, pss_cons (ps_if (pt_not (pt_val (pe_def dQ (hr.mono (by decide)) (pa_cons (pv 0) (pa_cons (pv 1) (pa_cons (pv 2) pa_nil)))))) (pss_one (ps_ret (pe_lst (pa_cons (pe_gi N.range) pa_nil)))) pss_nil)
      (pss_cons (ps_for PassesOwn.never rfl (pi_range2 rfl T.range (pa_cons pe_int (pa_cons (pe_op op_add (pe_gi N.pace) pe_int) pa_nil))) (pg_name (i := 3) scNeeds.nd rfl (Or.inl rfl))
        (pss_cons (ps_set (i := 2) scNeeds.nd rfl (Or.inl rfl) (pe_def dS hr (pa_cons (pv 0) (pa_cons (pv 1) (pa_cons (pv 2) (pa_cons (pe_fld (pv 0) rfl) pa_nil))))))
        (pss_one (ps_if (pt_cmpR op_ge (pv 2) (pe_fld (pv 0) rfl) (nomark _)) (pss_one (ps_ret (pe_lst (pa_cons (pv 3) pa_nil)))) pss_nil))))
      (pss_one (ps_ret (pe_lst (pa_cons (pe_gi N.notSo) pa_nil))))), ?_⟩
    refine ⟨_, rfl, _, rfl, _, rfl, p, a, n, g, rfl, ⟨dx, tl, sl, R.sp⟩, _, rfl, ite2 (fun c => ?_) (fun c => ?_)⟩
    · refine ⟨(by show 1 ≤ sizeLine; decide), ans_same R s0 k (r := Su74.no (-22)) ?_ rfl⟩
      show (if a.places.length < n ∨ 600 < g then (a, Su74.no (-22)) else _) = _
      rw [if_pos (asked_no c)]
    · have hn := asked_yes c
      have e : Su74.does a (.needs n g) = (match a.needs n g with | none => (a, Su74.no (-33)) | some m => (a, Su74.num m [])) := by
        show (if a.places.length < n ∨ 600 < g then (a, Su74.no (-22)) else _) = _
        rw [if_neg hn]
        rfl
      refine ⟨_, _, rfl, rfl, 1, (60 + 1 : Int), rfl, ⟨by omega, by omega, by omega, by omega⟩, for_range (lo := 1) (n := ((60 + 1 : Int) - 1).toNat) (fun i σ H' => H' = H ∧ (∀ j, 1 ≤ j → j ≤ i → ¬ a.want ≤ a.steady n (j * a.places.length) g) ∧ ∃ v : Option V, σ = [some (.ref p), some (.int n), some (.int (a.steady n (i * a.places.length) g : Nat)), v])
        ⟨rfl, fun j hj hj2 => (by omega), none, (by rw [Nat.zero_mul]; rfl)⟩ ?_ ?_⟩
      · rintro i σ H' hi ⟨rfl, hj, v, rfl⟩
        have hi' : i < 60 := hi
        refine ⟨_, rfl, _, rfl, _, rfl, _, rfl, p, CS, dx, _, _, rfl, R.sp, T.clS, T.s1, spF_places _ _ _, p, a, n, a.steady n (i * a.places.length) g, a.places.length, rfl, ⟨dx, tl, sl, R.sp⟩, W.wa, W.sl.1, W.sl.2, (by have := W.pl.2; omega), ?_⟩
        have es : a.steady n a.places.length (a.steady n (i * a.places.length) g) = a.steady n ((i + 1) * a.places.length) g := by
          rw [Nat.add_mul, Nat.one_mul, steady_add]
        rw [es]
        refine ⟨_, rfl, _, rfl, p, CS, dx, _, _, rfl, R.sp, T.clS, T.s7, spF_wanted _ _ _, _, _, rfl, rfl, _, rfl, ite2 (fun c1 => ?_) (fun c1 => ?_)⟩
        · have hw : a.want ≤ a.steady n ((i + 1) * a.places.length) g := by have := of_decide_eq_true c1; omega
          have e2 : Su74.does a (.needs n g) = (a, Su74.num (i + 1) []) := by rw [e, needs_some (e := i + 1) (by omega) (by omega) (fun j h1 h2 => hj j h1 (by omega)) hw]
          refine ⟨_, rfl, (by show 1 ≤ sizeLine; decide), ans_same R s0 k e2 ?_⟩
          show [V.int (1 + (i : Nat))] = [V.int ((i + 1 : Nat) : Int)]
          congr 2
          omega
        · have hw : ¬ a.want ≤ a.steady n ((i + 1) * a.places.length) g := fun q => c1 (decide_eq_true (by omega))
          refine ⟨rfl, fun j h1 h2 => ?_, some (V.int (1 + (i : Nat))), rfl⟩
          rcases Nat.lt_or_ge i j with z | z
          · have : j = i + 1 := by omega
            subst this
            exact hw
          · exact hj j h1 z
      · rintro σ H' ⟨rfl, hj, v, rfl⟩
        have e2 : Su74.does a (.needs n g) = (a, Su74.no (-33)) := by rw [e, needs_none (fun j h1 h2 => hj j h1 h2)]
        exact ⟨(by show 1 ≤ sizeLine; decide), ans_same R s0 k e2 rfl⟩
/-! ### answer_most -/
def spMost (CT CS : Addr) : Sp := fun vs H Q _ => ∃ n g : Nat, AnsSp CT CS (.most n g) [.int n, .int g] vs H Q
theorem scMost : FnScope ["spiral", "pace", "frost", "trays"] ["spiral", "pace", "frost"] (defScope sMost) := ⟨rfl, rfl, rfl, by decide +kernel, rfl, by decide +kernel, by decide +kernel⟩
theorem ok_most {f : Addr} {fd : FuncData} (F : Fun K "answer_most" "answer_most" sMost f fd) (T : Txt K mg CT CS) (N : Nums mg) (dW : Def P w K mg base "is_within" ["number", "least", "greatest"] 1 spWithin) (dS : Def P w K mg base "steady_frost" ["spiral", "trays", "frost", "minutes"] 2 (spSteady CS)) :
    FnOk P w K mg base CX0 3 f fd ["spiral", "pace", "frost"] (spMost CT CS) := by
  refine F.ok scMost (fun vs H Q E h => ?_) (fun cdv A outer s H vs Q E hr h => ?_)
  · obtain ⟨n, g, H0, p, a, dx, tl, sl, rs, rfl, _⟩ := h
    rfl
  · obtain ⟨m, g, H0, p, a, dx, tl, sl, rs, rfl, R, s0, k⟩ := h
    have W := R.wf
    have hS : Su74.SLOW = 60 := rfl
    refine ⟨_, pss_cons (ps_if (pw_or (pt_not (pt_val (pe_def dW (hr.mono (by decide)) (pa_cons (pv 1) (pa_cons pe_int (pa_cons (pe_gi N.pace) pa_nil)))))) (pw_or1 (pt_cmpR op_gt (pv 2) (pe_gi N.frost) (nomark _)))).pt (pss_one (ps_ret (pe_lst (pa_cons (pe_gi N.range) pa_nil)))) pss_nil)
      (pss_cons (ps_for PassesOwn.never rfl (pi_range3 rfl T.range (pa_cons (pe_fld (pv 0) rfl) (pa_cons pe_int (pa_cons (pe_un un_neg pe_int) pa_nil)))) (pg_name (i := 3) scMost.nd rfl (Or.inl rfl))
        (pss_one (ps_if (pt_cmpR op_ge (pe_def dS hr (pa_cons (pv 0) (pa_cons (pv 3) (pa_cons (pv 2) (pa_cons (pe_op op_mul (pv 1) (pe_fld (pv 0) rfl)) pa_nil))))) (pe_fld (pv 0) rfl) (nomark _)) (pss_one (ps_ret (pe_lst (pa_cons (pv 3) pa_nil)))) pss_nil)))
      (pss_one (ps_ret (pe_lst (pa_cons (pe_gi N.notSo) pa_nil))))), ?_⟩
    have bad : (m = 0 ∨ Su74.SLOW < m ∨ 600 < g) → ∀ l, H l = none → Q (.ref l) (upd H l (.lst [.int (-22)])) := fun hb => ans_same R s0 k (r := Su74.no (-22)) (by
      show (if m = 0 ∨ Su74.SLOW < m ∨ 600 < g then (a, Su74.no (-22)) else _) = _
      rw [if_pos hb]) rfl
    refine ⟨_, rfl, (m : Int), 1, 60, rfl, _, rfl, ite2 (fun c => iteT ?_) (fun c => ?_)⟩
    · refine ⟨(by show 1 ≤ sizeLine; decide), bad ?_⟩
      rw [Bool.not_eq_true', Bool.and_eq_false_iff, decide_eq_false_iff_not, decide_eq_false_iff_not] at c
      omega
    rw [Bool.not_eq_true', Bool.and_eq_false_iff, decide_eq_false_iff_not, decide_eq_false_iff_not] at c
    refine ⟨_, rfl, _, _, rfl, rfl, _, rfl, ite2 (fun c1 => ?_) (fun c1 => ?_)⟩
    · refine ⟨(by show 1 ≤ sizeLine; decide), bad ?_⟩
      have := of_decide_eq_true c1
      omega
    have c1' : ¬ 600 < g := fun q => c1 (decide_eq_true (by omega))
    have e : Su74.does a (.most m g) = (match a.most m g with | none => (a, Su74.no (-33)) | some m => (a, Su74.num m [])) := by
      show (if m = 0 ∨ Su74.SLOW < m ∨ 600 < g then (a, Su74.no (-22)) else _) = _
      rw [if_neg (by omega)]
      rfl
    have hL := W.pl
    refine ⟨_, rfl, p, CS, dx, _, _, rfl, R.sp, T.clS, T.s1, spF_places _ _ _, _, rfl, (a.places.length : Int), 0, -1, ((a.places.length : Int) - 0).toNat, rfl, RgC.neg (by omega) (by omega) (by omega) (by omega),
      for_rangeC (lo := (a.places.length : Int)) (c := -1) (n := ((a.places.length : Int) - 0).toNat) (fun i σ H' => H' = H ∧ (∀ j, a.places.length < j + i → j ≤ a.places.length → ¬ a.want ≤ a.steady j (m * a.places.length) g) ∧ ∃ v : Option V, σ = [some (.ref p), some (.int m), some (.int g), v])
        ⟨rfl, fun j hj hj2 => (by omega), none, rfl⟩ ?_ ?_⟩
    · rintro i σ H' hi ⟨rfl, hj, v, rfl⟩
      have hi' : i < a.places.length := by omega
      have ei : (a.places.length : Int) + (i : Nat) * (-1) = ((a.places.length - i : Nat) : Int) := by omega
      rw [ei]
      refine ⟨_, rfl, _, rfl, _, rfl, _, rfl, _, rfl, p, CS, dx, _, _, rfl, R.sp, T.clS, T.s1, spF_places _ _ _, _, _, rfl, rfl, .inl ⟨by omega, by omega⟩, p, a, a.places.length - i, g, m * a.places.length, rfl, ⟨dx, tl, sl, R.sp⟩, W.wa, W.sl.1, W.sl.2, ?_, ?_⟩
      · have : m * a.places.length ≤ 60 * 12 := Nat.mul_le_mul (by omega) hL.2
        omega
      refine ⟨_, rfl, p, CS, dx, _, _, rfl, R.sp, T.clS, T.s7, spF_wanted _ _ _, _, _, rfl, rfl, _, rfl, ite2 (fun c2 => ?_) (fun c2 => ?_)⟩
      · have hw : a.want ≤ a.steady (a.places.length - i) (m * a.places.length) g := by have := of_decide_eq_true c2; omega
        have e2 : Su74.does a (.most m g) = (a, Su74.num (a.places.length - i) []) := by rw [e, most_some (n := a.places.length - i) (by omega) (by omega) (fun j h1 h2 => hj j (by omega) h2) hw]
        exact ⟨_, rfl, (by show 1 ≤ sizeLine; decide), ans_same R s0 k e2 rfl⟩
      · have hw : ¬ a.want ≤ a.steady (a.places.length - i) (m * a.places.length) g := fun q => c2 (decide_eq_true (by omega))
        refine ⟨rfl, fun j h1 h2 => ?_, some (V.int ((a.places.length - i : Nat) : Int)), rfl⟩
        rcases Nat.lt_or_ge a.places.length (j + i) with z | z
        · exact hj j z h2
        · have : j = a.places.length - i := by omega
          subst this
          exact hw
    · rintro σ H' ⟨rfl, hj, v, rfl⟩
      have e2 : Su74.does a (.most m g) = (a, Su74.no (-33)) := by rw [e, most_none (fun j h1 h2 => hj j (by omega) h2)]
      exact ⟨(by show 1 ≤ sizeLine; decide), ans_same R s0 k e2 rfl⟩
end
end Sp

set_option Elab.async false
set_option linter.all false
set_option maxRecDepth 100000
set_option maxHeartbeats 2000000
namespace Sp
open PySem PySem.Spec PyProof.Rows L2
open Su74 (Abs Tray)
abbrev sAhead : Stmt := top 40
abbrev sEnds : Stmt := top 41
section
variable {CT CS : Addr} {H0 H H1 : Hp} {p dx tl sl : Addr} {a : Abs} {rs : List Addr} {Q : VK} {c : Su74.Call}
/-- a new list is the answer; new things were made, nothing was changed -/
theorem ans_later (R : RepX CT CS H0 H p a dx tl sl rs) (s0 : Same H0 H) (s1 : Same H H1) (k : ∀ (H' : Hp) (l dx' tl' sl' : Addr) (rs' : List Addr), RepX CT CS H0 H' p (Su74.does a c).1 dx' tl' sl' rs' → Same H0 H' → H0 l = none → H' l = some (.lst (ansV (Su74.does a c).2)) → Q (.ref l) H')
    {r : Su74.Ans} (e : Su74.does a c = (a, r)) {xs : List V} (ex : xs = ansV r) : ∀ l, H1 l = none → Q (.ref l) (upd H1 l (.lst xs)) := ans_same (R.same s1) (s0.trans s1) k e ex
theorem WF.outV_non (W : WF a) {t : Nat} (h : t < a.trays.length) : outV a t = .non ↔ a.inside t = true := by
  rw [W.inside]
  unfold outV
  rcases Nat.lt_or_ge t a.out.length with z | z
  · rw [List.getElem?_eq_getElem z]
    exact ⟨fun q => (by cases q), fun q => absurd q.1 (by omega)⟩
  · rw [List.getElem?_eq_none z]
    exact ⟨fun _ => ⟨z, h⟩, fun _ => rfl⟩
end
theorem ends_le {a : Abs} (W : WF a) (t : Nat) : a.ends t ≤ 1000 := by
  unfold Abs.ends
  have h1 : (a.places.length - a.places.idxOf (t + 1) - 1) * a.every ≤ 12 * 60 := Nat.mul_le_mul (by have := W.pl.2; omega) W.ev.2
  have := W.ev.2
  omega
theorem idx_first {x : Nat} : ∀ {l : List Nat} {m : Nat}, m < l.idxOf x → l[m]? = some x → False
  | [], m, h, h2 => by simp at h2
  | y :: l, 0, h, h2 => by
    have e : y = x := Option.some.inj h2
    subst e
    rw [List.idxOf_cons_self] at h
    omega
  | y :: l, m + 1, h, h2 => by
    by_cases c : y = x
    · subst c
      rw [List.idxOf_cons_self] at h
      omega
    · have hb : (y == x) = false := beq_eq_false_iff_ne.mpr c
      rw [List.idxOf_cons, hb, cond_false] at h
      exact idx_first (l := l) (m := m) (by omega) h2
theorem slot_flat (x : Nat) : flatV (slotV x) = true := by cases x <;> rfl
theorem slot_eq {x t : Nat} : eqV (slotV x) (.int t) = decide (x = t + 1) := by
  cases x with
  | zero =>
    rw [decide_eq_false (by omega)]
    rfl
  | succ n =>
    show ((n : Int) == (t : Int)) = _
    by_cases z : n = t
    · subst z
      rw [decide_eq_true rfl]
      exact beq_self_eq_true _
    · rw [decide_eq_false (by omega)]
      exact beq_eq_false_iff_ne.mpr (by omega)
section
variable {P : Program} {w : World} {K : PySem.W.Frag} {mg : Str → Option Value} {base : Heap} {CT CS : Addr}
/-! ### answer_ahead -/
def spAhead (CT CS : Addr) : Sp := fun vs H Q _ => ∃ n : Nat, AnsSp CT CS (.ahead n) [.int n] vs H Q
theorem scAhead : FnScope ["spiral", "minutes", "later", "came_out"] ["spiral", "minutes"] (defScope sAhead) := ⟨rfl, rfl, rfl, by decide +kernel, rfl, by decide +kernel, by decide +kernel⟩
theorem ok_ahead {f : Addr} {fd : FuncData} (F : Fun K "answer_ahead" "answer_ahead" sAhead f fd) (T : Txt K mg CT CS) (N : Nums mg) (dW : Def P w K mg base "is_within" ["number", "least", "greatest"] 1 spWithin) (dT : Def P w K mg base "twin_spiral" ["spiral"] 4 (spTwinS CT CS)) (dP : Def P w K mg base "pass_minutes" ["spiral", "minutes"] 4 (spPass CT CS))
    (dS : Def P w K mg base "soft_trays" ["spiral", "trays"] 1 (spSoft K CT CS)) (dO : Def P w K mg base "trays_on_chain" ["spiral"] 1 (spOn CS)) :
    FnOk P w K mg base CX0 5 f fd ["spiral", "minutes"] (spAhead CT CS) := by
  refine F.ok scAhead (fun vs H Q E h => ?_) (fun cdv A outer s H vs Q E hr h => ?_)
  · obtain ⟨n, H0, p, a, dx, tl, sl, rs, rfl, _⟩ := h
    rfl
  · obtain ⟨n, H0, p, a, dx, tl, sl, rs, rfl, R, s0, k⟩ := h
    have W := R.wf
    refine ⟨_, pss_cons (ps_if (pt_not (pt_val (pe_def dW (hr.mono (by decide)) (pa_cons (pv 1) (pa_cons pe_int (pa_cons (pe_gi N.minutes) pa_nil)))))) (pss_one (ps_ret (pe_lst (pa_cons (pe_gi N.range) pa_nil)))) pss_nil)
      (pss_cons (ps_set (i := 2) scAhead.nd rfl (Or.inl rfl) (pe_def dT hr (pa_cons (pv 0) pa_nil)))
      (pss_cons (ps_set (i := 3) scAhead.nd rfl (Or.inl rfl) (pe_def dP (hr.mono (by decide)) (pa_cons (pv 2) (pa_cons (pv 1) pa_nil))))
      (pss_one (ps_ret (pe_lst (pa_cons (pe_callB call_len_seq rfl T.len PySem.boot_len (pa_cons (pv 3) pa_nil))
        (pa_cons (pe_callB call_len_seq rfl T.len PySem.boot_len (pa_cons (pe_def dS (hr.mono (by decide)) (pa_cons (pv 2) (pa_cons (pv 3) pa_nil))) pa_nil))
        (pa_cons (pe_callB call_len_seq rfl T.len PySem.boot_len (pa_cons (pe_def dO (hr.mono (by decide)) (pa_cons (pv 2) pa_nil)) pa_nil)) pa_nil)))))))), ?_⟩
    refine ⟨_, rfl, (n : Int), 1, 500, rfl, _, rfl, ite2 (fun c => ?_) (fun c => ?_)⟩
    · have hn : n = 0 ∨ 500 < n := by
        rw [Bool.not_eq_true', Bool.and_eq_false_iff, decide_eq_false_iff_not, decide_eq_false_iff_not] at c
        omega
      refine ⟨(by show 1 ≤ sizeLine; decide), ans_same R s0 k (r := Su74.no (-22)) ?_ rfl⟩
      show (if n = 0 ∨ 500 < n then (a, Su74.no (-22)) else _) = _
      rw [if_pos hn]
    · have hn : ¬ (n = 0 ∨ 500 < n) := by
        rw [Bool.not_eq_true', Bool.and_eq_false_iff, decide_eq_false_iff_not, decide_eq_false_iff_not] at c
        omega
      have e : Su74.does a (.ahead n) = (a, Su74.num ((a.goes n).out.length - a.out.length) [(a.goes n).soft.length - a.soft.length, (a.goes n).load]) := by
        show (if n = 0 ∨ 500 < n then (a, Su74.no (-22)) else _) = _
        rw [if_neg hn]
      refine ⟨_, rfl, H0, p, a, dx, tl, sl, rs, rfl, R, fun H1 p' dx' tl' sl' rs' s1 R1 => ?_⟩
      refine ⟨_, rfl, _, rfl, H, p', a, dx', tl', sl', rs', n, rfl, by omega, R1, s1, fun H2 sl2 l2 R2 s2 n2 h2 => ?_⟩
      have W2 := R2.wf
      refine ⟨_, rfl, l2, _, rfl, .inl (SqL.of h2), ?_⟩
      -- soft_trays
      have hxs : ∀ (i : Nat) (r : Addr), ((came a n).map fun x => rs'.getD x.1 0)[i]? = some r → ∃ d m t o, H2 r = some (.ins CT d (trF m t o)) ∧ ((came a n).map fun x => x.2.2)[i]? = some t.frost := by
        intro i r hi
        rw [List.getElem?_map] at hi
        cases hx : (came a n)[i]? with
        | none => rw [hx] at hi; cases hi
        | some x =>
          rw [hx] at hi
          have hr' : r = rs'.getD x.1 0 := (Option.some.inj hi).symm
          subst hr'
          have hm : x ∈ (a.goes n).out := by
            rw [goes_out]
            exact List.mem_append_right _ (List.mem_of_getElem? hx)
          have hm2 : x.1 ∈ (a.goes n).out.map Prod.fst := List.mem_map_of_mem hm
          rw [W2.onum, List.mem_range] at hm2
          have hlt : x.1 < (a.goes n).trays.length := Nat.lt_of_lt_of_le hm2 W2.ole
          obtain ⟨d, hd⟩ := R2.tray _ _ (R2.ref_at hlt)
          refine ⟨d, _, _, _, hd, ?_⟩
          rw [List.getElem?_map, hx]
          show some x.2.2 = _
          rw [W2.ofr x hm]
      have hlen := came_len_le W n
      have htr := W.tr
      refine ⟨_, rfl, _, rfl, p', l2, a.goes n, (came a n).map fun x => rs'.getD x.1 0, (came a n).map fun x => x.2.2, rfl, ⟨dx', tl', sl2, R2.sp⟩, ?_, ?_, ?_, hxs, fun l3 n3 => ?_⟩
      · rw [List.map_map]
        exact h2
      · rw [List.length_map, List.length_map]
      · rw [List.length_map]
        omega
      have s3 := Same.up (o := .lst ((sel (a.goes n).want ((came a n).map fun x => rs'.getD x.1 0) ((came a n).map fun x => x.2.2)).map V.ref)) n3
      refine ⟨l3, _, rfl, .inl (SqL.of upd_same), ?_⟩
      have R3 := R2.same s3
      refine ⟨_, rfl, p', a.goes n, dx', tl', sl2, rs', rfl, W2, R3.sp, R3.trs, R3.sls, R3.len, fun l4 n4 => ?_⟩
      have s4 := Same.up (o := .lst ((onRefs rs' (a.goes n)).map V.ref)) n4
      refine ⟨l4, _, rfl, .inl (SqL.of upd_same), (by show 3 ≤ sizeLine; decide), ?_⟩
      refine ans_later R s0 ((s2.trans s3).trans s4) k e ?_
      have e1 : (refsOf rs' (came a n)).length = (a.goes n).out.length - a.out.length := by
        rw [goes_out_len]
        unfold refsOf
        rw [List.length_map]
      have e2 : ((sel (a.goes n).want ((came a n).map fun x => rs'.getD x.1 0) ((came a n).map fun x => x.2.2)).map V.ref).length = (a.goes n).soft.length - a.soft.length := by
        rw [List.length_map, sel_len _ _ _ (by rw [List.length_map, List.length_map]), goes_soft_len W, (W.goes_kin n).wt, List.filter_map, List.length_map]
        rfl
      have e3 : ((onRefs rs' (a.goes n)).map V.ref).length = (a.goes n).load := by
        unfold onRefs
        rw [List.length_map, List.length_map]
        rfl
      show [V.int ((refsOf rs' (came a n)).length : Nat), V.int (((sel (a.goes n).want ((came a n).map fun x => rs'.getD x.1 0) ((came a n).map fun x => x.2.2)).map V.ref).length : Nat), V.int (((onRefs rs' (a.goes n)).map V.ref).length : Nat)] = _
      rw [e1, e2, e3]
      rfl
/-! ### answer_ends -/
def spEnds (CT CS : Addr) : Sp := fun vs H Q _ => ∃ n : Nat, AnsSp CT CS (.ends n) [.int n] vs H Q
theorem scEnds : FnScope ["spiral", "number", "moves", "minutes", "later"] ["spiral", "number"] (defScope sEnds) := ⟨rfl, rfl, rfl, by decide +kernel, rfl, by decide +kernel, by decide +kernel⟩
theorem ok_ends {f : Addr} {fd : FuncData} (F : Fun K "answer_ends" "answer_ends" sEnds f fd) (T : Txt K mg CT CS) (N : Nums mg) (dT : Def P w K mg base "twin_spiral" ["spiral"] 4 (spTwinS CT CS)) (dP : Def P w K mg base "pass_minutes" ["spiral", "minutes"] 4 (spPass CT CS)) :
    FnOk P w K mg base CX0 5 f fd ["spiral", "number"] (spEnds CT CS) := by
  refine F.ok scEnds (fun vs H Q E h => ?_) (fun cdv A outer s H vs Q E hr h => ?_)
  · obtain ⟨n, H0, p, a, dx, tl, sl, rs, rfl, _⟩ := h
    rfl
  · obtain ⟨t, H0, p, a, dx, tl, sl, rs, rfl, R, s0, k⟩ := h
    have W := R.wf
    refine ⟨_, pss_cons (ps_if (pt_cmpR op_ge (pv 1) (pe_callB call_len_seq rfl T.len PySem.boot_len (pa_cons (pe_fld (pv 0) rfl) pa_nil)) (nomark _)) (pss_one (ps_ret (pe_lst (pa_cons (pe_gi N.noneSuch) pa_nil)))) pss_nil)
      (pss_cons (ps_if (pt_cmpR op_notN (pe_fld (pe_ix ix_list (pe_fld (pv 0) rfl) (pv 1) (fun _ _ => rfl)) rfl) pe_non (nomark _)) (pss_one (ps_ret (pe_lst (pa_cons (pe_gi N.out) pa_nil)))) pss_nil)
      (pss_cons (ps_set (i := 2) scEnds.nd rfl (Or.inl rfl) (pe_op op_sub (pe_fld (pv 0) rfl) (pe_bm PySem.F.plainAttrs_list PySem.F.slot_list_index PySem.F.type_list_index mt_index (pe_fld (pv 0) rfl) (pa_cons (pv 1) pa_nil))))
      (pss_cons (ps_set (i := 3) scEnds.nd rfl (Or.inl rfl) (pe_op op_sub (pe_op op_mul (pv 2) (pe_fld (pv 0) rfl)) (pe_op op_mod (pe_fld (pv 0) rfl) (pe_fld (pv 0) rfl))))
      (pss_cons (ps_set (i := 4) scEnds.nd rfl (Or.inl rfl) (pe_def dT hr (pa_cons (pv 0) pa_nil)))
      (pss_cons (ps_expr (pe_def dP (hr.mono (by decide)) (pa_cons (pv 4) (pa_cons (pv 3) pa_nil))))
      (pss_one (ps_ret (pe_lst (pa_cons (pv 3) (pa_cons (pe_fld (pe_ix ix_list (pe_fld (pv 4) rfl) (pv 1) (fun _ _ => rfl)) rfl) pa_nil)))))))))), ?_⟩
    refine ⟨_, rfl, _, rfl, p, CS, dx, _, _, rfl, R.sp, T.clS, T.s10, spF_trays _ _ _, tl, _, rfl, .inl (SqL.of R.trs), _, _, rfl, rfl, _, rfl, ite2 (fun c => ?_) (fun c => ?_)⟩
    · have c' : a.trays.length ≤ t := by
        have := of_decide_eq_true c
        rw [List.length_map, R.len] at this
        omega
      refine ⟨(by show 1 ≤ sizeLine; decide), ans_same R s0 k (r := Su74.no (-2)) ?_ rfl⟩
      show (if a.isT t = false then (a, Su74.no (-2)) else _) = _
      have hf : a.isT t = false := decide_eq_false (by omega)
      rw [if_pos hf]
    have c' : t < a.trays.length := by
      rcases Nat.lt_or_ge t a.trays.length with z | z
      · exact z
      · exfalso
        apply c
        refine decide_eq_true ?_
        rw [List.length_map, R.len]
        omega
    have hT : ¬ a.isT t = false := by
      intro q
      exact absurd c' (of_decide_eq_false q)
    have hrt := R.ref_at c'
    obtain ⟨d, hd⟩ := R.tray _ _ hrt
    refine ⟨_, rfl, p, CS, dx, _, _, rfl, R.sp, T.clS, T.s10, spF_trays _ _ _, _, rfl, tl, _, _, V.ref (rs.getD t 0), rfl, rfl, SqL.of R.trs, atI_nat (by rw [List.getElem?_map, hrt]; rfl), _, CT, d, _, _, rfl, hd, T.clT, T.t5, trF_out _ _ _, rfl, _, rfl, ite2 (fun c1 => ?_) (fun c1 => ?_)⟩
    · have hin : a.inside t = false := by
        refine bool_not fun q => ?_
        rw [decide_eq_true ((W.outV_non c').mpr q)] at c1
        cases c1
      refine ⟨(by show 1 ≤ sizeLine; decide), ans_same R s0 k (r := Su74.no (-17)) ?_ rfl⟩
      show (if a.isT t = false then (a, Su74.no (-2)) else if a.inside t = false then (a, Su74.no (-17)) else _) = _
      rw [if_neg hT, if_pos hin]
    have hin : a.inside t = true := by
      refine (W.outV_non c').mp ?_
      by_cases q : outV a t = .non
      · exact q
      · rw [decide_eq_false q] at c1
        exact absurd rfl c1
    have e : Su74.does a (.ends t) = (a, Su74.num (a.ends t) [((a.goes (a.ends t)).out.getLastD (0, 0, 0)).2.2]) := by
      show (if a.isT t = false then (a, Su74.no (-2)) else if a.inside t = false then (a, Su74.no (-17)) else _) = _
      rw [if_neg hT, if_neg (by rw [hin]; simp)]
    rw [ends_frost W hin] at e
    have hlt := idx_lt hin
    have hix : ∀ (m : Nat) (z : V), m < a.places.idxOf (t + 1) → (a.places.map slotV)[m]? = some z → eqV z (.int t) = false := by
      intro m z hm hz
      rw [List.getElem?_map] at hz
      cases hq : a.places[m]? with
      | none => rw [hq] at hz; cases hz
      | some y =>
        rw [hq] at hz
        have hz' : z = slotV y := (Option.some.inj hz).symm
        subst hz'
        rw [slot_eq, decide_eq_false]
        intro q
        subst q
        exact idx_first hm hq
    refine ⟨_, rfl, p, CS, dx, _, _, rfl, R.sp, T.clS, T.s1, spF_places _ _ _, _, rfl, p, CS, dx, _, _, rfl, R.sp, T.clS, T.s11, spF_slots _ _ _, .inl ⟨rfl, _, SqL.of R.sls⟩, _, rfl, sl, _, _, a.places.idxOf (t + 1), slotV (t + 1), rfl, rfl, SqL.of R.sls, rfl, ?_, ?_, ?_, hix, _, _, rfl, rfl, ?_⟩
    · rw [List.all_map, List.all_eq_true]
      intro x _
      exact slot_flat x
    · rw [List.getElem?_map, idx_get hin]
      rfl
    · rw [slot_eq, decide_eq_true rfl]
    have hL := W.pl
    have hev := W.ev
    refine ⟨_, rfl, _, rfl, p, CS, dx, _, _, rfl, R.sp, T.clS, T.s2, spF_pace _ _ _, _, _, rfl, rfl, .inl ⟨by omega, by omega⟩, _, rfl, p, CS, dx, _, _, rfl, R.sp, T.clS, T.s8, spF_minute _ _ _, _, rfl, p, CS, dx, _, _, rfl, R.sp, T.clS, T.s2, spF_pace _ _ _, _, _, rfl, rfl, (by omega), _, _, rfl, rfl, ?_⟩
    simp only [← ends_int W hin]
    refine ⟨_, rfl, H0, p, a, dx, tl, sl, rs, rfl, R, fun H1 p' dx' tl' sl' rs' s1 R1 => ?_⟩
    refine ⟨_, rfl, _, rfl, H, p', a, dx', tl', sl', rs', a.ends t, rfl, (by have := ends_le W t; omega), R1, s1, fun H2 sl2 l2 R2 s2 n2 h2 => ?_⟩
    have c2 : t < (a.goes (a.ends t)).trays.length := by rw [(W.goes_kin _).tr]; exact c'
    have hr2 := R2.ref_at c2
    obtain ⟨d2, hd2⟩ := R2.tray _ _ hr2
    refine ⟨_, rfl, _, rfl, p', CS, dx', _, _, rfl, R2.sp, T.clS, T.s10, spF_trays _ _ _, _, rfl, tl', _, _, V.ref (rs'.getD t 0), rfl, rfl, SqL.of R2.trs, atI_nat (by rw [List.getElem?_map, hr2]; rfl), _, CT, d2, _, _, rfl, hd2, T.clT, T.t3, trF_frost _ _ _, (by show 2 ≤ sizeLine; decide), ?_⟩
    exact ans_later R s0 s2 k e rfl
end
end Sp

set_option Elab.async false
set_option linter.all false
set_option maxRecDepth 100000
set_option maxHeartbeats 2000000
namespace Sp
open PySem PySem.Spec PyProof.Rows L2
open Su74 (Abs Tray)
def putA (a : Abs) (v l f : Nat) : Abs := { a with places := a.places.set 0 (a.trays.length + 1), trays := a.trays ++ [⟨v, l, f, a.now_⟩] }
theorem putA_tray_lt {a : Abs} {v l f t : Nat} (h : t < a.trays.length) : (putA a v l f).tray t = a.tray t := by
  show (a.trays ++ [_]).getD t _ = a.trays.getD t _
  rw [List.getD_eq_getElem?_getD, List.getD_eq_getElem?_getD, List.getElem?_append_left h]
theorem putA_tray_new {a : Abs} {v l f : Nat} : (putA a v l f).tray a.trays.length = ⟨v, l, f, a.now_⟩ := by
  show (a.trays ++ [_]).getD a.trays.length _ = _
  rw [List.getD_eq_getElem?_getD, List.getElem?_append_right (Nat.le_refl _), Nat.sub_self]
  rfl
theorem map_set_slot (l : List Nat) (n : Nat) : (l.map slotV).set 0 (V.int (n : Nat)) = (l.set 0 (n + 1)).map slotV := by
  cases l with
  | nil => rfl
  | cons x r => rfl
section
variable {CT CS : Addr} {H0 H : Hp} {p dx tl sl : Addr} {a : Abs} {rs : List Addr}
theorem RepX.put (R : RepX CT CS H0 H p a dx tl sl rs) {v l f : Nat} (W' : WF (putA a v l f)) {x d : Addr} (hx : H x = some (.ins CT d (trF a.trays.length ⟨v, l, f, a.now_⟩ .non))) (hx0 : H0 x = none) (hn : x ∉ rs) :
    RepX CT CS H0 (upd (upd H tl (.lst ((rs ++ [x]).map V.ref))) sl (.lst ((putA a v l f).places.map slotV))) p (putA a v l f) dx tl sl (rs ++ [x]) := by
  have W := R.wf
  have n1 : x ≠ tl := ne_of hx R.trs (by intro z; cases z)
  have n2 : x ≠ sl := ne_of hx R.sls (by intro z; cases z)
  refine ⟨W', ?_, ?_, upd_same, ?_, ?_, fun t r hr => ?_, R.ne, R.np, R.nt, R.ns, ?_⟩
  · rw [upd_ne R.p_sl, upd_ne R.p_tl, R.sp]
    congr 2
    exact spF_eq tl sl (by show a.places.length = (a.places.set 0 _).length; rw [List.length_set]) rfl rfl rfl rfl rfl rfl rfl rfl
  · rw [upd_ne R.ne, upd_same]
  · show _ = (a.trays ++ [_]).length
    rw [List.length_append, List.length_append, R.len]
    rfl
  · refine List.nodup_append.mpr ⟨R.nd, by simp, ?_⟩
    intro u hu y hy z
    rw [List.mem_singleton] at hy
    subst hy
    subst z
    exact hn hu
  · have ho : outV (putA a v l f) t = outV a t := rfl
    rcases Nat.lt_or_ge t rs.length with z | z
    · rw [List.getElem?_append_left z] at hr
      obtain ⟨d', e⟩ := R.tray t r hr
      refine ⟨d', ?_⟩
      rw [upd_ne (R.r_sl hr), upd_ne (R.r_tl hr), putA_tray_lt (by rw [← R.len]; exact z), ho]
      exact e
    · have ht : t = rs.length := by
        have h1 := (List.getElem?_eq_some_iff.mp hr).1
        rw [List.length_append, List.length_singleton] at h1
        omega
      rw [ht, List.getElem?_append_right (Nat.le_refl _), Nat.sub_self] at hr
      have hr' : r = x := (Option.some.inj hr).symm
      subst hr'
      refine ⟨d, ?_⟩
      have ho2 : outV a rs.length = .non := by
        unfold outV
        rw [List.getElem?_eq_none (by rw [R.len]; exact W.ole)]
      rw [upd_ne n2, upd_ne n1, ho, ht, ho2, R.len, putA_tray_new]
      exact hx
  · intro r hr
    rcases List.mem_append.mp hr with z | z
    · exact R.nr r z
    · rw [List.mem_singleton] at z
      subst z
      exact hx0
end
section
variable {P : Program} {w : World} {K : PySem.W.Frag} {mg : Str → Option Value} {base : Heap} {CT CS : Addr}
/-! ### answer_put -/
def spPut (CT CS : Addr) : Sp := fun vs H Q _ => ∃ v l g : Nat, AnsSp CT CS (.put v l g) [.int v, .int l, .int g] vs H Q
theorem scPut : FnScope ["spiral", "flavour", "litres", "frost", "number"] ["spiral", "flavour", "litres", "frost"] (defScope sPut) := ⟨rfl, rfl, rfl, by decide +kernel, rfl, by decide +kernel, by decide +kernel⟩
theorem ok_put {f fI : Addr} {fd fdI : FuncData} (F : Fun K "answer_put" "answer_put" sPut f fd) (T : Txt K mg CT CS) (N : Nums mg) (dW : Def P w K mg base "is_within" ["number", "least", "greatest"] 1 spWithin) (M : Mk K CT fI) (GT : FnOk P w K mg base CX0 1 fI fdI ["self", "number", "flavour", "litres", "frost", "put_minute"] (spInitT CT))
    (bI : Binds K fdI ["self", "number", "flavour", "litres", "frost", "put_minute"] []) : FnOk P w K mg base CX0 3 f fd ["spiral", "flavour", "litres", "frost"] (spPut CT CS) := by
  refine F.ok scPut (fun vs H Q E h => ?_) (fun cdv A outer s H vs Q E hr h => ?_)
  · obtain ⟨v, l, g, H0, p, a, dx, tl, sl, rs, rfl, _⟩ := h
    rfl
  · obtain ⟨v, li, g, H0, p, a, dx, tl, sl, rs, rfl, R, s0, k⟩ := h
    have W := R.wf
    refine ⟨_, pss_cons (ps_if (pw_or (pt_cmpR op_gt (pv 1) (pe_gi N.flavour) (nomark _)) (pw_or (pt_not (pt_val (pe_def dW (hr.mono (by decide)) (pa_cons (pv 2) (pa_cons pe_int (pa_cons (pe_gi N.litres) pa_nil)))))) (pw_or1 (pt_cmpR op_gt (pv 3) (pe_gi N.frost) (nomark _))))).pt (pss_one (ps_ret (pe_lst (pa_cons (pe_gi N.range) pa_nil)))) pss_nil)
      (pss_cons (ps_if (pt_cmpR op_notN (pe_ix ix_list (pe_fld (pv 0) rfl) pe_int (fun _ _ => rfl)) pe_non (nomark _)) (pss_one (ps_ret (pe_lst (pa_cons (pe_gi N.one) pa_nil)))) pss_nil)
      (pss_cons (ps_set (i := 4) scPut.nd rfl (Or.inl rfl) (pe_callB call_len_seq rfl T.len PySem.boot_len (pa_cons (pe_fld (pv 0) rfl) pa_nil)))
      (pss_cons (ps_if (pt_cmpR op_eq (pv 4) (pe_gi N.trays) (nomark _)) (pss_one (ps_ret (pe_lst (pa_cons (pe_gi N.many) pa_nil)))) pss_nil)
      (pss_cons (ps_expr (pe_bm PySem.F.plainAttrs_list PySem.F.slot_list_append PySem.F.type_list_append mt_append (pe_fld (pv 0) rfl) (pa_cons (pe_make M GT hr rfl T.mgT bI .nil pass0 (pa_cons (pv 4) (pa_cons (pv 1) (pa_cons (pv 2) (pa_cons (pv 3) (pa_cons (pe_fld (pv 0) rfl) pa_nil)))))) pa_nil)))
      (pss_cons (ps_asg (pv 4) (pg_sub (pe_fld (pv 0) rfl) pe_int set_list))
      (pss_one (ps_ret (pe_lst (pa_cons (pv 4) pa_nil))))))))), ?_⟩
    have bad : (9 < v ∨ li = 0 ∨ 1000 < li ∨ 600 < g) → ∀ l, H l = none → Q (.ref l) (upd H l (.lst [.int (-22)])) := fun hb => ans_same R s0 k (r := Su74.no (-22)) (by
      show (if 9 < v ∨ li = 0 ∨ 1000 < li ∨ 600 < g then (a, Su74.no (-22)) else _) = _
      rw [if_pos hb]) rfl
    refine ⟨_, rfl, _, _, rfl, rfl, _, rfl, ite2 (fun c => iteT ?_) (fun c => ?_)⟩
    · refine ⟨(by show 1 ≤ sizeLine; decide), bad ?_⟩
      have := of_decide_eq_true c
      omega
    have c' : ¬ 9 < v := fun q => c (decide_eq_true (by omega))
    refine ⟨_, rfl, (li : Int), 1, 1000, rfl, _, rfl, ite2 (fun c1 => iteT ?_) (fun c1 => ?_)⟩
    · refine ⟨(by show 1 ≤ sizeLine; decide), bad ?_⟩
      rw [Bool.not_eq_true', Bool.and_eq_false_iff, decide_eq_false_iff_not, decide_eq_false_iff_not] at c1
      omega
    rw [Bool.not_eq_true', Bool.and_eq_false_iff, decide_eq_false_iff_not, decide_eq_false_iff_not] at c1
    refine ⟨_, rfl, _, _, rfl, rfl, _, rfl, ite2 (fun c2 => ?_) (fun c2 => ?_)⟩
    · refine ⟨(by show 1 ≤ sizeLine; decide), bad ?_⟩
      have := of_decide_eq_true c2
      omega
    have c2' : ¬ 600 < g := fun q => c2 (decide_eq_true (by omega))
    have hok : ¬ (9 < v ∨ li = 0 ∨ 1000 < li ∨ 600 < g) := by omega
    have hz : a.places[0]? = some (a.places.headD 0) := by
      cases hp : a.places with
      | nil => have := W.pl.1; rw [hp] at this; simp at this
      | cons x r => rfl
    refine ⟨_, rfl, p, CS, dx, _, _, rfl, R.sp, T.clS, T.s11, spF_slots _ _ _, sl, _, _, slotV (a.places.headD 0), rfl, rfl, SqL.of R.sls, atI_nat (j := 0) (by rw [List.getElem?_map, hz]; rfl), rfl, _, rfl, ite2 (fun c3 => ?_) (fun c3 => ?_)⟩
    · have h3 : a.places.headD 0 ≠ 0 := fun q => by
        rw [decide_eq_true (slotV_non.mpr q)] at c3
        cases c3
      refine ⟨(by show 1 ≤ sizeLine; decide), ans_same R s0 k (r := Su74.no (-16)) ?_ rfl⟩
      show (if 9 < v ∨ li = 0 ∨ 1000 < li ∨ 600 < g then (a, Su74.no (-22)) else if a.places.headD 0 ≠ 0 then (a, Su74.no (-16)) else _) = _
      rw [if_neg hok, if_pos h3]
    have h3 : a.places.headD 0 = 0 := by
      by_cases q : slotV (a.places.headD 0) = .non
      · exact slotV_non.mp q
      · rw [decide_eq_false q] at c3
        exact absurd rfl c3
    refine ⟨_, rfl, p, CS, dx, _, _, rfl, R.sp, T.clS, T.s10, spF_trays _ _ _, tl, _, rfl, .inl (SqL.of R.trs), ?_⟩
    have eln : (rs.map V.ref).length = a.trays.length := by rw [List.length_map, R.len]
    rw [eln]
    refine ⟨_, rfl, rfl, _, rfl, ite2 (fun c4 => ?_) (fun c4 => ?_)⟩
    · have h4 : Su74.TRAYS ≤ a.trays.length := by
        have q := of_decide_eq_true c4
        injection q with q
        have hT : Su74.TRAYS = 100 := rfl
        omega
      refine ⟨(by show 1 ≤ sizeLine; decide), ans_same R s0 k (r := Su74.no (-28)) ?_ rfl⟩
      show (if 9 < v ∨ li = 0 ∨ 1000 < li ∨ 600 < g then (a, Su74.no (-22)) else if a.places.headD 0 ≠ 0 then (a, Su74.no (-16)) else if Su74.TRAYS ≤ a.trays.length then (a, Su74.no (-28)) else _) = _
      rw [if_neg hok, if_neg (fun q => q h3), if_pos h4]
    have h4 : a.trays.length < 100 := by
      have h5 := W.tr
      rcases Nat.lt_or_ge a.trays.length 100 with z | z
      · exact z
      · exfalso
        have : a.trays.length = 100 := by omega
        apply c4
        rw [this]
        rfl
    have hT : Su74.TRAYS = 100 := rfl
    have e : Su74.does a (.put v li g) = (putA a v li g, Su74.num a.trays.length []) := by
      show (if 9 < v ∨ li = 0 ∨ 1000 < li ∨ 600 < g then (a, Su74.no (-22)) else if a.places.headD 0 ≠ 0 then (a, Su74.no (-16)) else if Su74.TRAYS ≤ a.trays.length then (a, Su74.no (-28)) else _) = _
      rw [if_neg hok, if_neg (fun q => q h3), if_neg (by omega)]
      rfl
    rw [e] at k
    have W' : WF (putA a v li g) := W.put (by omega) h3 h4
    refine ⟨_, rfl, p, CS, dx, _, _, rfl, R.sp, T.clS, T.s10, spF_trays _ _ _, .inl ⟨rfl, _, SqL.of R.trs⟩, _, rfl, _, rfl, _, rfl, _, rfl, _, rfl, p, CS, dx, _, _, rfl, R.sp, T.clS, T.s8, spF_minute _ _ _, ?_⟩
    intro x d nx nd ne
    have s1 : Same H (upd (upd (upd H d (.own x)) x (.ins CT d [])) x (.ins CT d (trF a.trays.length ⟨v, li, g, a.now_⟩ .non))) := fun b o hb => by
      rw [upd_ne (ne_of_none hb nx), upd_ne (ne_of_none hb nx), upd_ne (ne_of_none hb nd)]
      exact hb
    refine ⟨x, d, a.trays.length, ⟨v, li, g, a.now_⟩, rfl, upd_same, rfl, ?_⟩
    have hx : upd (upd (upd H d (.own x)) x (.ins CT d [])) x (.ins CT d (trF a.trays.length ⟨v, li, g, a.now_⟩ .non)) x = some (.ins CT d (trF a.trays.length ⟨v, li, g, a.now_⟩ .non)) := upd_same
    generalize upd (upd (upd H d (.own x)) x (.ins CT d [])) x (.ins CT d (trF a.trays.length ⟨v, li, g, a.now_⟩ .non)) = H1 at s1 hx ⊢
    have R1 := R.same s1
    have hx0 := s0.free nx
    have hn : x ∉ rs := fun q => by
      obtain ⟨t, ht⟩ := List.getElem?_of_mem q
      obtain ⟨d', e'⟩ := R.tray t x ht
      rw [nx] at e'
      cases e'
    refine ⟨tl, _, _, rfl, rfl, R1.trs, ?_, ?_⟩
    · rw [eln]
      have : 100 < sizeLine := by decide
      omega
    have em : rs.map V.ref ++ [V.ref x] = (rs ++ [x]).map V.ref := by
      rw [List.map_append]
      rfl
    rw [em]
    have hs2 : upd H1 tl (.lst ((rs ++ [x]).map V.ref)) sl = some (.lst (a.places.map slotV)) := by
      rw [upd_ne (Ne.symm R.ne)]
      exact R1.sls
    refine ⟨_, rfl, _, rfl, p, CS, dx, _, _, rfl, Eq.trans (upd_ne R.p_tl) R1.sp, T.clS, T.s11, spF_slots _ _ _, sl, _, _, 0, rfl, rfl, hs2, ?_, ?_⟩
    · rw [List.length_map]
      have := W.pl.1
      unfold ixN
      rw [if_pos (by omega), if_pos (by omega)]
      rfl
    rw [map_set_slot]
    have R2 := R1.put (v := v) (l := li) (f := g) W' hx hx0 hn
    have s2 : Same H0 (upd (upd H1 tl (.lst ((rs ++ [x]).map V.ref))) sl (.lst ((putA a v li g).places.map slotV))) := Same.up0 (Same.up0 (s0.trans s1) R.nt) R.ns
    refine ⟨_, rfl, (by show 1 ≤ sizeLine; decide), fun l hl => ?_⟩
    exact k _ l dx tl sl (rs ++ [x]) (R2.same (Same.up hl)) (Same.up0 s2 (s2.free hl)) (s2.free hl) (by rw [upd_same]; rfl)
end
end Sp

set_option Elab.async false
set_option linter.all false
set_option maxRecDepth 100000
set_option maxHeartbeats 4000000
namespace Sp
open PySem PySem.Spec PyProof.Rows L2
open Su74 (Abs Tray)
abbrev sOut : Stmt := top 28
abbrev sLit : Stmt := top 30
/-- the trays of these numbers -/
def refN (rs : List Addr) (ts : List Nat) : List V := ts.map fun t => V.ref (rs.getD t 0)
theorem refN_len (rs : List Addr) (ts : List Nat) : (refN rs ts).length = ts.length := List.length_map _
theorem outV_ge {a : Abs} {t : Nat} (h : a.out.length ≤ t) : outV a t = .non := by
  unfold outV
  rw [List.getElem?_eq_none h]
theorem outV_lt {a : Abs} {t : Nat} (h : t < a.out.length) : outV a t = .int ((a.out[t].2.1 : Nat) : Int) := by
  unfold outV
  rw [List.getElem?_eq_getElem h]
theorem outV_ne {a : Abs} {t : Nat} (h : t < a.out.length) : outV a t ≠ .non := by
  rw [outV_lt h]
  intro z
  cases z
theorem sel_map (a : Abs) (f : Nat → Addr) : ∀ ts : List Nat, sel a.want (ts.map f) (ts.map fun t => (a.tray t).frost) = (softN a ts).map f
  | [] => rfl
  | t :: ts => by
    have ih := sel_map a f ts
    show (if (a.tray t).frost < a.want then f t :: sel a.want (ts.map f) (ts.map fun t => (a.tray t).frost) else sel a.want (ts.map f) (ts.map fun t => (a.tray t).frost)) = _
    rw [ih]
    unfold softN
    rw [List.filter_cons]
    by_cases c : (a.tray t).frost < a.want
    · rw [if_pos c, if_pos (decide_eq_true c)]
      rfl
    · rw [if_neg c, if_neg (by simpa using c)]
section
variable {K : PySem.W.Frag} {CT CS : Addr} {H0 H : Hp} {p dx tl sl : Addr} {a : Abs} {rs : List Addr} {ts : List Nat} {l : Addr} {Q : VK}
/-- soft_trays of the trays of some numbers -/
theorem sel_refs (a : Abs) (rs : List Addr) (ts : List Nat) : (sel a.want (ts.map fun t => rs.getD t 0) (ts.map fun t => (a.tray t).frost)).map V.ref = refN rs (softN a ts) := by
  rw [sel_map, List.map_map]
  rfl
theorem soft_l (hl : H l = some (.lst (refN rs ts))) : H l = some (.lst ((ts.map fun t => rs.getD t 0).map V.ref)) := by
  rw [List.map_map]
  exact hl
theorem soft_n (a : Abs) (rs : List Addr) (ts : List Nat) : (ts.map fun t => rs.getD t 0).length = (ts.map fun t => (a.tray t).frost).length := by rw [List.length_map, List.length_map]
theorem soft_m (hlen : ts.length ≤ 100) : (ts.map fun t => rs.getD t 0).length ≤ 1000 := by
  rw [List.length_map]
  omega
theorem soft_at (R : RepX CT CS H0 H p a dx tl sl rs) (hts : ∀ t ∈ ts, t < a.trays.length) (i : Nat) (r : Addr) (hi : (ts.map fun t => rs.getD t 0)[i]? = some r) : ∃ d n t o, H r = some (.ins CT d (trF n t o)) ∧ (ts.map fun t => (a.tray t).frost)[i]? = some t.frost := by
  rw [List.getElem?_map] at hi
  cases hq : ts[i]? with
  | none => rw [hq] at hi; cases hi
  | some t =>
    rw [hq] at hi
    have hr' : r = rs.getD t 0 := (Option.some.inj hi).symm
    subst hr'
    obtain ⟨d, hd⟩ := R.tray _ _ (R.ref_at (hts t (List.mem_of_getElem? hq)))
    refine ⟨d, _, _, _, hd, ?_⟩
    rw [List.getElem?_map, hq]
    rfl
/-- [tray.x for tray in l] -/
theorem lc_fld {j : Nat} {σ : L2.St} {x : Str} {v : Nat → V} {D : Addr} {Qd : Hp → Prop} (C : Cls K CT) (n : NoAttr K CT x) (R : RepX CT CS H0 H p a dx tl sl rs) (hl : H l = some (.lst (refN rs ts))) (hts : ∀ t ∈ ts, t < a.trays.length) (hlen : ts.length ≤ 100)
    (hv : ∀ t, (trF t (a.tray t) (outV a t)).lookup x = some (v t)) (hD : H D = none) (hk : Qd (upd H D (.lst (ts.map v)))) (h1 : ∀ y, wipe ((wipe σ [j]).set j (some y)) [j] = wipe σ [j]) (h2 : ∀ y, ((wipe σ [j]).set j (some y))[j]? = some (some y)) :
    ∃ W : Nat → Nat → Hp → Prop, (∃ m, W 0 m (upd H D (.lst []))) ∧ ∀ i m H, W i m H →
      ((Itl K l).stop i H ∧ Qd H) ∨ ((Itl K l).go i H ∧ ∃ Nx : Hp → Prop, (∀ H', Nx H' → ∃ m', m' < m ∧ W (i + 1) m' H') ∧ ∀ x' H', (Itl K l).yld i H x' H' → gName j x' (wipe σ [j]) H' fun σ2 H2 => wipe σ2 [j] = wipe σ [j] ∧ tYes σ2 H2 fun b H3 =>
        if b = true then tFld K (tVar j) x σ2 H3 fun y H4 => ∃ acc, H4 D = some (.lst acc) ∧ acc.length < sizeLine ∧ Nx (upd H4 D (.lst (acc ++ [y]))) else Nx H3) := by
  have sm : ∀ {o : HO} {b : Addr} {u : HO}, H b = some u → upd H D o b = some u := fun {o b u} e => by
    rw [upd_ne (ne_of_none e hD)]
    exact e
  refine lc_list (K := K) (a := l) (xs := refN rs ts) (fun i H' => H' = upd H D (.lst ((ts.take i).map v))) rfl (fun i H' _ e => by rw [e]; exact SqL.of (sm hl)) ?_ ?_
  · rintro i y H' hi rfl
    unfold refN at hi
    rw [List.getElem?_map] at hi
    cases hq : ts[i]? with
    | none => rw [hq] at hi; cases hi
    | some t =>
      rw [hq] at hi
      have hy : y = V.ref (rs.getD t 0) := (Option.some.inj hi).symm
      subst hy
      obtain ⟨d, hd⟩ := R.tray t _ (R.ref_at (hts t (List.mem_of_getElem? hq)))
      refine ⟨h1 _, tYes_if ?_⟩
      refine ⟨_, h2 _, _, CT, d, _, _, rfl, sm hd, C, n, hv t, _, upd_same, ?_, ?_⟩
      · rw [List.length_map, List.length_take]
        have h4 : 100 < sizeLine := by decide
        omega
      · rw [upd_upd, take1 hq, List.map_append]
        rfl
  · rintro H' rfl
    rw [refN_len, List.take_length]
    exact hk
end
section
variable {P : Program} {w : World} {K : PySem.W.Frag} {mg : Str → Option Value} {base : Heap} {CT CS : Addr}
/-! ### trays_out -/
def spOut (CT CS : Addr) : Sp := fun vs H Q _ => ∃ (H0 : Hp) (p : Addr) (a : Abs) (dx tl sl : Addr) (rs : List Addr), vs = [.ref p] ∧ RepX CT CS H0 H p a dx tl sl rs ∧ ∀ l, H l = none → Q (.ref l) (upd H l (.lst (refN rs (List.range a.out.length))))
theorem scOut : FnScope ["spiral", "tray"] ["spiral"] (defScope sOut) := ⟨rfl, rfl, rfl, by decide +kernel, rfl, by decide +kernel, by decide +kernel⟩
theorem ok_out {f : Addr} {fd : FuncData} (F : Fun K "trays_out" "trays_out" sOut f fd) (T : Txt K mg CT CS) : FnOk P w K mg base CX0 1 f fd ["spiral"] (spOut CT CS) := by
  refine F.ok scOut (fun vs H Q E h => ?_) (fun cdv A outer s H vs Q E hr h => ?_)
  · obtain ⟨H0, p, a, dx, tl, sl, rs, rfl, _⟩ := h
    rfl
  · obtain ⟨H0, p, a, dx, tl, sl, rs, rfl, R, k⟩ := h
    have W := R.wf
    refine ⟨_, pss_one (ps_ret (pe_lc (own := [("tray", 1)]) (g := gName 1) (tt := tTest (tOp (fun x y H Q => y = .non ∧ Q (.bl (!decide (x = .non))) H) (tFld K (tVar 1) "out_minute") (tC .non))) (te := tVar 1) rfl scOut.nd (pi_list (pe_fld (pv 0) rfl)) (blkOk_by (by change blkC ["spiral", "tray"] (defScope sOut) _ _ = true; decide +kernel)) (fun _ _ _ _ _ => pg_name (i := 1) scOut.nd rfl (Or.inl rfl))
      (fun _ _ _ _ _ => pts_one (pt_cmpR op_notN (pe_fld (pv 1) rfl) pe_non (nomark _))) (fun _ _ _ _ _ => pv 1))), ?_⟩
    refine ⟨_, rfl, p, CS, dx, _, _, rfl, R.sp, T.clS, T.s10, spF_trays _ _ _, tl, rfl, ⟨_, SqL.of R.trs⟩, fun D hD => ?_⟩
    have sm : ∀ {o : HO} {b : Addr} {u : HO}, H b = some u → upd H D o b = some u := fun {o b u} e => by
      rw [upd_ne (ne_of_none e hD)]
      exact e
    refine lc_list (K := K) (a := tl) (xs := rs.map V.ref) (fun i H' => H' = upd H D (.lst (refN rs (List.range (min i a.out.length))))) (by rw [Nat.zero_min]; rfl) (fun i H' _ e => by rw [e]; exact SqL.of (sm R.trs)) ?_ ?_
    · rintro i x H' hx rfl
      rw [List.getElem?_map] at hx
      cases hq : rs[i]? with
      | none => rw [hq] at hx; cases hx
      | some r =>
        rw [hq] at hx
        have hx' : x = V.ref r := (Option.some.inj hx).symm
        subst hx'
        obtain ⟨d, e1⟩ := R.tray i r hq
        have hi := (List.getElem?_eq_some_iff.mp hq).1
        rw [R.len] at hi
        have htr := W.tr
        refine ⟨rfl, _, rfl, r, CT, d, _, _, rfl, sm e1, T.clT, T.t5, trF_out _ _ _, rfl, _, rfl, ite2 (fun c => ?_) (fun c => ?_)⟩
        · have c' : i < a.out.length := by
            rcases Nat.lt_or_ge i a.out.length with z | z
            · exact z
            · rw [outV_ge z, decide_eq_true rfl] at c
              cases c
          refine ⟨_, rfl, _, upd_same, ?_, ?_⟩
          · rw [refN_len, List.length_range]
            have h4 : 100 < sizeLine := by decide
            omega
          · have e2 : min (i + 1) a.out.length = i + 1 := by omega
            have e3 : min i a.out.length = i := by omega
            have e4 : refN rs (List.range (i + 1)) = refN rs (List.range i) ++ [V.ref r] := by
              unfold refN
              rw [List.range_succ, List.map_append, List.map_cons, List.map_nil, List.getD_eq_getElem?_getD, hq]
              rfl
            rw [upd_upd, e2, e3, e4]
        · have c' : a.out.length ≤ i := by
            rcases Nat.lt_or_ge i a.out.length with z | z
            · exact absurd (by rw [decide_eq_false (outV_ne z)]; rfl) c
            · exact z
          rw [Nat.min_eq_right c', Nat.min_eq_right (Nat.le_succ_of_le c')]
    · rintro H' rfl
      have e : (rs.map V.ref).length = a.trays.length := by rw [List.length_map, R.len]
      rw [e, Nat.min_eq_right W.ole]
      exact k D hD
/-! ### litres_together -/
def spLit (CT CS : Addr) : Sp := fun vs H Q _ => ∃ (H0 : Hp) (p : Addr) (a : Abs) (dx tl sl : Addr) (rs : List Addr) (l : Addr) (ts : List Nat), vs = [.ref l] ∧ RepX CT CS H0 H p a dx tl sl rs ∧ H l = some (.lst (refN rs ts)) ∧ (∀ t ∈ ts, t < a.trays.length) ∧ ts.length ≤ 100 ∧
  ∀ H', Same H H' → Q (.int (a.litres ts : Nat)) H'
theorem scLit : FnScope ["trays", "tray"] ["trays"] (defScope sLit) := ⟨rfl, rfl, rfl, by decide +kernel, rfl, by decide +kernel, by decide +kernel⟩
theorem ok_lit {f : Addr} {fd : FuncData} (F : Fun K "litres_together" "litres_together" sLit f fd) (T : Txt K mg CT CS) : FnOk P w K mg base CX0 1 f fd ["trays"] (spLit CT CS) := by
  refine F.ok scLit (fun vs H Q E h => ?_) (fun cdv A outer s H vs Q E hr h => ?_)
  · obtain ⟨H0, p, a, dx, tl, sl, rs, l, ts, rfl, _⟩ := h
    rfl
  · obtain ⟨H0, p, a, dx, tl, sl, rs, l, ts, rfl, R, hl, hts, hlen, k⟩ := h
    refine ⟨_, pss_one (ps_ret (pe_callB (cr_sum rfl) rfl T.sum (by decide +kernel) (pa_cons (pe_lc (own := [("tray", 1)]) (g := gName 1) (tt := tYes) (te := tFld K (tVar 1) "litres") rfl scLit.nd (pi_list (pv 0)) (blkOk_by (by change blkC ["trays", "tray"] (defScope sLit) _ _ = true; decide +kernel)) (fun _ _ _ _ _ => pg_name (i := 1) scLit.nd rfl (Or.inl rfl))
      (fun _ _ _ _ _ => pts_nil) (fun _ _ _ _ _ => pe_fld (pv 1) rfl)) pa_nil))), ?_⟩
    refine ⟨_, rfl, l, rfl, ⟨_, SqL.of hl⟩, fun D hD => ?_⟩
    refine lc_fld (v := fun t => .int ((a.tray t).litres : Nat)) T.clT T.t2 R hl hts hlen (fun t => trF_litres _ _ _) hD ?_ (fun _ => rfl) (fun _ => rfl)
    refine ⟨D, (ts.map fun t => (a.tray t).litres).map fun (n : Nat) => (n : Int), rfl, SqL.of ?_, ?_⟩
    · rw [upd_same, List.map_map, List.map_map]
      rfl
    · rw [← sum_cast]
      exact k _ (Same.up hD)
end
end Sp

set_option Elab.async false
set_option linter.all false
set_option maxRecDepth 100000
set_option maxHeartbeats 4000000
namespace Sp
open PySem PySem.Spec PyProof.Rows L2
open Su74 (Abs Tray)
abbrev sASteady : Stmt := top 46
abbrev sAAir : Stmt := top 47
abbrev sALook : Stmt := top 51
abbrev sASums : Stmt := top 54
abbrev sAState : Stmt := top 55
section
variable {P : Program} {w : World} {K : PySem.W.Frag} {mg : Str → Option Value} {base : Heap} {CT CS : Addr}
/-! ### answer_steady -/
def spASteady (CT CS : Addr) : Sp := fun vs H Q _ => ∃ n m g : Nat, AnsSp CT CS (.steady n m g) [.int n, .int m, .int g] vs H Q
theorem scASteady : FnScope ["spiral", "trays", "minutes", "frost"] ["spiral", "trays", "minutes", "frost"] (defScope sASteady) := ⟨rfl, rfl, rfl, by decide +kernel, rfl, by decide +kernel, by decide +kernel⟩
theorem ok_aSteady {f : Addr} {fd : FuncData} (F : Fun K "answer_steady" "answer_steady" sASteady f fd) (T : Txt K mg CT CS) (N : Nums mg) (dQ : Def P w K mg base "is_steady_air_asked" ["spiral", "trays", "frost"] 1 (spAsked CS)) (dS : Def P w K mg base "steady_frost" ["spiral", "trays", "frost", "minutes"] 2 (spSteady CS)) :
    FnOk P w K mg base CX0 3 f fd ["spiral", "trays", "minutes", "frost"] (spASteady CT CS) := by
  refine F.ok scASteady (fun vs H Q E h => ?_) (fun cdv A outer s H vs Q E hr h => ?_)
  · obtain ⟨n, m, g, H0, p, a, dx, tl, sl, rs, rfl, _⟩ := h
    rfl
  · obtain ⟨n, m, g, H0, p, a, dx, tl, sl, rs, rfl, R, s0, k⟩ := h
    have W := R.wf
    have hS : Su74.WAIT = 2000 := rfl
    refine ⟨_, pss_cons (ps_if (pw_or (pt_not (pt_val (pe_def dQ (hr.mono (by decide)) (pa_cons (pv 0) (pa_cons (pv 1) (pa_cons (pv 3) pa_nil)))))) (pw_or1 (pt_cmpR op_gt (pv 2) (pe_gi N.longest) (nomark _)))).pt (pss_one (ps_ret (pe_lst (pa_cons (pe_gi N.range) pa_nil)))) pss_nil)
      (pss_one (ps_ret (pe_lst (pa_cons (pe_def dS hr (pa_cons (pv 0) (pa_cons (pv 1) (pa_cons (pv 3) (pa_cons (pv 2) pa_nil))))) pa_nil)))), ?_⟩
    have bad : (a.places.length < n ∨ Su74.WAIT < m ∨ 600 < g) → ∀ l, H l = none → Q (.ref l) (upd H l (.lst [.int (-22)])) := fun hb => ans_same R s0 k (r := Su74.no (-22)) (by
      show (if a.places.length < n ∨ Su74.WAIT < m ∨ 600 < g then (a, Su74.no (-22)) else _) = _
      rw [if_pos hb]) rfl
    refine ⟨_, rfl, _, rfl, _, rfl, p, a, n, g, rfl, ⟨dx, tl, sl, R.sp⟩, _, rfl, ite2 (fun c => iteT ?_) (fun c => ?_)⟩
    · refine ⟨(by show 1 ≤ sizeLine; decide), bad ?_⟩
      have := asked_no c
      omega
    have c' := asked_yes c
    refine ⟨_, rfl, _, _, rfl, rfl, _, rfl, ite2 (fun c1 => ?_) (fun c1 => ?_)⟩
    · refine ⟨(by show 1 ≤ sizeLine; decide), bad ?_⟩
      have := of_decide_eq_true c1
      omega
    have c1' : ¬ 2000 < m := fun q => c1 (decide_eq_true (by omega))
    refine ⟨_, rfl, _, rfl, _, rfl, _, rfl, p, a, n, g, m, rfl, ⟨dx, tl, sl, R.sp⟩, W.wa, W.sl.1, W.sl.2, by omega, (by show 1 ≤ sizeLine; decide), ans_same R s0 k (r := Su74.num (a.steady n m g) []) ?_ rfl⟩
    show (if a.places.length < n ∨ Su74.WAIT < m ∨ 600 < g then (a, Su74.no (-22)) else _) = _
    rw [if_neg (by omega)]
/-! ### answer_air -/
def spAAir (CT CS : Addr) : Sp := fun vs H Q _ => ∃ n : Nat, AnsSp CT CS (.air n) [.int n] vs H Q
theorem scAAir : FnScope ["spiral", "trays"] ["spiral", "trays"] (defScope sAAir) := ⟨rfl, rfl, rfl, by decide +kernel, rfl, by decide +kernel, by decide +kernel⟩
theorem ok_aAir {f : Addr} {fd : FuncData} (F : Fun K "answer_air" "answer_air" sAAir f fd) (T : Txt K mg CT CS) (N : Nums mg) (dA : Def P w K mg base "air_frost" ["spiral", "trays", "door_is_open"] 1 (spAir CS)) (dN : Def P w K mg base "air_frost_now" ["spiral"] 2 (spNow CT CS)) :
    FnOk P w K mg base CX0 3 f fd ["spiral", "trays"] (spAAir CT CS) := by
  refine F.ok scAAir (fun vs H Q E h => ?_) (fun cdv A outer s H vs Q E hr h => ?_)
  · obtain ⟨n, H0, p, a, dx, tl, sl, rs, rfl, _⟩ := h
    rfl
  · obtain ⟨n, H0, p, a, dx, tl, sl, rs, rfl, R, s0, k⟩ := h
    have W := R.wf
    have hr1 : Room 1 _ := hr.mono (by decide)
    refine ⟨_, pss_cons (ps_if (pt_cmpR op_gt (pv 1) (pe_fld (pv 0) rfl) (nomark _)) (pss_one (ps_ret (pe_lst (pa_cons (pe_gi N.range) pa_nil)))) pss_nil)
      (pss_one (ps_ret (pe_lst (pa_cons (pe_def dA hr1 (pa_cons (pv 0) (pa_cons (pv 1) (pa_cons pe_bl pa_nil)))) (pa_cons (pe_def dA hr1 (pa_cons (pv 0) (pa_cons (pv 1) (pa_cons pe_bl pa_nil)))) (pa_cons (pe_def dN hr (pa_cons (pv 0) pa_nil)) pa_nil)))))), ?_⟩
    refine ⟨_, rfl, _, rfl, p, CS, dx, _, _, rfl, R.sp, T.clS, T.s1, spF_places _ _ _, _, _, rfl, rfl, _, rfl, ite2 (fun c => ?_) (fun c => ?_)⟩
    · have c' : a.places.length < n := by have := of_decide_eq_true c; omega
      refine ⟨(by show 1 ≤ sizeLine; decide), ans_same R s0 k (r := Su74.no (-22)) ?_ rfl⟩
      show (if a.places.length < n then (a, Su74.no (-22)) else _) = _
      rw [if_pos c']
    · have c' : ¬ a.places.length < n := fun q => c (decide_eq_true (by omega))
      refine ⟨_, rfl, _, rfl, p, a, n, false, rfl, ⟨dx, tl, sl, R.sp⟩, W.wa, _, rfl, _, rfl, p, a, n, true, rfl, ⟨dx, tl, sl, R.sp⟩, W.wa, _, rfl, H0, p, a, dx, tl, sl, rs, rfl, R, fun H1 s1 => ⟨(by show 3 ≤ sizeLine; decide), ?_⟩⟩
      refine ans_later R s0 s1 k (r := Su74.num (a.air n false) [a.air n true, a.air a.load (a.left != 0)]) ?_ rfl
      show (if a.places.length < n then (a, Su74.no (-22)) else _) = _
      rw [if_neg c']
/-! ### answer_look -/
def spALook (CT CS : Addr) : Sp := fun vs H Q _ => ∃ t : Nat, AnsSp CT CS (.look t) [.int t] vs H Q
theorem scALook : FnScope ["spiral", "number", "tray"] ["spiral", "number"] (defScope sALook) := ⟨rfl, rfl, rfl, by decide +kernel, rfl, by decide +kernel, by decide +kernel⟩
theorem ok_aLook {f : Addr} {fd : FuncData} (F : Fun K "answer_look" "answer_look" sALook f fd) (T : Txt K mg CT CS) (N : Nums mg) : FnOk P w K mg base CX0 1 f fd ["spiral", "number"] (spALook CT CS) := by
  refine F.ok scALook (fun vs H Q E h => ?_) (fun cdv A outer s H vs Q E hr h => ?_)
  · obtain ⟨t, H0, p, a, dx, tl, sl, rs, rfl, _⟩ := h
    rfl
  · obtain ⟨t, H0, p, a, dx, tl, sl, rs, rfl, R, s0, k⟩ := h
    have W := R.wf
    refine ⟨_, pss_cons (ps_if (pt_cmpR op_ge (pv 1) (pe_callB call_len_seq rfl T.len PySem.boot_len (pa_cons (pe_fld (pv 0) rfl) pa_nil)) (nomark _)) (pss_one (ps_ret (pe_lst (pa_cons (pe_gi N.noneSuch) pa_nil)))) pss_nil)
      (pss_cons (ps_set (i := 2) scALook.nd rfl (Or.inl rfl) (pe_ix ix_list (pe_fld (pv 0) rfl) (pv 1) (fun _ _ => rfl)))
      (pss_one (ps_ret (pe_lst (pa_cons (pe_fld (pv 2) rfl) (pa_cons (pe_fld (pv 2) rfl) (pa_cons (pe_fld (pv 2) rfl) (pa_cons (pe_fld (pv 2) rfl) (pa_cons (pe_ifExp (pt_cmpR op_isN (pe_fld (pv 2) rfl) pe_non (nomark _)) pe_int pe_int) pa_nil))))))))), ?_⟩
    refine ⟨_, rfl, _, rfl, p, CS, dx, _, _, rfl, R.sp, T.clS, T.s10, spF_trays _ _ _, tl, _, rfl, .inl (SqL.of R.trs), _, _, rfl, rfl, _, rfl, ite2 (fun c => ?_) (fun c => ?_)⟩
    · have c' : a.trays.length ≤ t := by
        have := of_decide_eq_true c
        rw [List.length_map, R.len] at this
        omega
      refine ⟨(by show 1 ≤ sizeLine; decide), ans_same R s0 k (r := Su74.no (-2)) ?_ rfl⟩
      show (if a.isT t = false then (a, Su74.no (-2)) else _) = _
      have hF : a.isT t = false := decide_eq_false (by omega)
      rw [if_pos hF]
    have c' : t < a.trays.length := by
      rcases Nat.lt_or_ge t a.trays.length with z | z
      · exact z
      · exfalso
        apply c
        refine decide_eq_true ?_
        rw [List.length_map, R.len]
        omega
    have hT : ¬ a.isT t = false := by
      intro q
      exact absurd c' (of_decide_eq_false q)
    have hrt := R.ref_at c'
    obtain ⟨d, hd⟩ := R.tray _ _ hrt
    have e : Su74.does a (.look t) = (a, Su74.num (a.tray t).flavour [(a.tray t).litres, (a.tray t).frost, (a.tray t).came, Su74.bit (a.inside t)]) := by
      show (if a.isT t = false then (a, Su74.no (-2)) else _) = _
      rw [if_neg hT]
    refine ⟨_, rfl, p, CS, dx, _, _, rfl, R.sp, T.clS, T.s10, spF_trays _ _ _, _, rfl, tl, _, _, V.ref (rs.getD t 0), rfl, rfl, SqL.of R.trs, atI_nat (by rw [List.getElem?_map, hrt]; rfl), ?_⟩
    refine ⟨_, rfl, _, CT, d, _, _, rfl, hd, T.clT, T.t1, trF_flavour _ _ _, _, rfl, _, CT, d, _, _, rfl, hd, T.clT, T.t2, trF_litres _ _ _, _, rfl, _, CT, d, _, _, rfl, hd, T.clT, T.t3, trF_frost _ _ _, _, rfl, _, CT, d, _, _, rfl, hd, T.clT, T.t4, trF_put _ _ _,
      _, rfl, _, CT, d, _, _, rfl, hd, T.clT, T.t5, trF_out _ _ _, rfl, _, rfl, ite2 (fun c1 => ?_) (fun c1 => ?_)⟩
    · have hin : a.inside t = true := (W.outV_non c').mp (of_decide_eq_true c1)
      rw [hin] at e
      exact ⟨(by show 5 ≤ sizeLine; decide), ans_same R s0 k e rfl⟩
    · have hin : a.inside t = false := bool_not fun q => c1 (decide_eq_true ((W.outV_non c').mpr q))
      rw [hin] at e
      exact ⟨(by show 5 ≤ sizeLine; decide), ans_same R s0 k e rfl⟩
/-! ### answer_sums -/
def spASums (CT CS : Addr) : Sp := fun vs H Q _ => AnsSp CT CS .sums [] vs H Q
theorem scASums : FnScope ["spiral", "came_out"] ["spiral"] (defScope sASums) := ⟨rfl, rfl, rfl, by decide +kernel, rfl, by decide +kernel, by decide +kernel⟩
theorem ok_aSums {f : Addr} {fd : FuncData} (F : Fun K "answer_sums" "answer_sums" sASums f fd) (T : Txt K mg CT CS) (dU : Def P w K mg base "trays_out" ["spiral"] 1 (spOut CT CS)) (dO : Def P w K mg base "trays_on_chain" ["spiral"] 1 (spOn CS)) (dS : Def P w K mg base "soft_trays" ["spiral", "trays"] 1 (spSoft K CT CS)) :
    FnOk P w K mg base CX0 2 f fd ["spiral"] (spASums CT CS) := by
  refine F.ok scASums (fun vs H Q E h => ?_) (fun cdv A outer s H vs Q E hr h => ?_)
  · obtain ⟨H0, p, a, dx, tl, sl, rs, rfl, _⟩ := h
    rfl
  · obtain ⟨H0, p, a, dx, tl, sl, rs, rfl, R, s0, k⟩ := h
    have W := R.wf
    refine ⟨_, pss_cons (ps_set (i := 1) scASums.nd rfl (Or.inl rfl) (pe_def dU hr (pa_cons (pv 0) pa_nil)))
      (pss_one (ps_ret (pe_lst (pa_cons pe_int (pa_cons (pe_callB call_len_seq rfl T.len PySem.boot_len (pa_cons (pe_fld (pv 0) rfl) pa_nil)) (pa_cons (pe_callB call_len_seq rfl T.len PySem.boot_len (pa_cons (pe_def dO hr (pa_cons (pv 0) pa_nil)) pa_nil))
        (pa_cons (pe_callB call_len_seq rfl T.len PySem.boot_len (pa_cons (pv 1) pa_nil)) (pa_cons (pe_callB call_len_seq rfl T.len PySem.boot_len (pa_cons (pe_def dS hr (pa_cons (pv 0) (pa_cons (pv 1) pa_nil))) pa_nil)) pa_nil)))))))), ?_⟩
    refine ⟨_, rfl, H0, p, a, dx, tl, sl, rs, rfl, R, fun l1 n1 => ?_⟩
    have s1 : Same H (upd H l1 (.lst (refN rs (List.range a.out.length)))) := Same.up n1
    have h1 : upd H l1 (.lst (refN rs (List.range a.out.length))) l1 = some (.lst (refN rs (List.range a.out.length))) := upd_same
    generalize upd H l1 (.lst (refN rs (List.range a.out.length))) = H1 at s1 h1 ⊢
    have R1 := R.same s1
    refine ⟨_, rfl, p, CS, dx, _, _, rfl, R1.sp, T.clS, T.s10, spF_trays _ _ _, tl, _, rfl, .inl (SqL.of R1.trs), _, rfl, p, a, dx, tl, sl, rs, rfl, W, R1.sp, R1.trs, R1.sls, R1.len, fun l2 n2 => ?_⟩
    have s2 : Same H1 (upd H1 l2 (.lst ((onRefs rs a).map V.ref))) := Same.up n2
    have h2 : upd H1 l2 (.lst ((onRefs rs a).map V.ref)) l2 = some (.lst ((onRefs rs a).map V.ref)) := upd_same
    generalize upd H1 l2 (.lst ((onRefs rs a).map V.ref)) = H2 at s2 h2 ⊢
    have R2 := R1.same s2
    refine ⟨l2, _, rfl, .inl (SqL.of h2), _, rfl, l1, _, rfl, .inl (SqL.of (s2 _ _ h1)), _, rfl, _, rfl, p, l1, a, (List.range a.out.length).map fun t => rs.getD t 0, (List.range a.out.length).map fun t => (a.tray t).frost, rfl, ⟨dx, tl, sl, R2.sp⟩, soft_l (s2 _ _ h1), soft_n a rs _, soft_m (out_len W), soft_at R2 (out_lt W), fun l3 n3 => ?_⟩
    rw [sel_refs]
    have s3 : Same H2 (upd H2 l3 (.lst (refN rs (softN a (List.range a.out.length))))) := Same.up n3
    refine ⟨l3, _, rfl, .inl (SqL.of upd_same), (by show 5 ≤ sizeLine; decide), ?_⟩
    refine ans_later R s0 ((s1.trans s2).trans s3) k (r := Su74.num 0 [a.trays.length, a.load, a.out.length, a.soft.length]) rfl ?_
    rw [onRefs_len, refN_len, refN_len, List.length_range, List.length_map, R.len, soft_eq W]
    rfl
/-! ### answer_state -/
def spAState (CT CS : Addr) : Sp := fun vs H Q _ => AnsSp CT CS .state [] vs H Q
theorem scAState : FnScope ["spiral"] ["spiral"] (defScope sAState) := ⟨rfl, rfl, rfl, by decide +kernel, rfl, by decide +kernel, by decide +kernel⟩
theorem ok_aState {f : Addr} {fd : FuncData} (F : Fun K "answer_state" "answer_state" sAState f fd) (T : Txt K mg CT CS) : FnOk P w K mg base CX0 1 f fd ["spiral"] (spAState CT CS) := by
  refine F.ok scAState (fun vs H Q E h => ?_) (fun cdv A outer s H vs Q E hr h => ?_)
  · obtain ⟨H0, p, a, dx, tl, sl, rs, rfl, _⟩ := h
    rfl
  · obtain ⟨H0, p, a, dx, tl, sl, rs, rfl, R, s0, k⟩ := h
    refine ⟨_, pss_one (ps_ret (pe_lst (pa_cons (pe_fld (pv 0) rfl) (pa_cons (pe_fld (pv 0) rfl) (pa_cons (pe_fld (pv 0) rfl) (pa_cons (pe_fld (pv 0) rfl) (pa_cons (pe_fld (pv 0) rfl) pa_nil))))))), ?_⟩
    refine ⟨_, rfl, p, CS, dx, _, _, rfl, R.sp, T.clS, T.s8, spF_minute _ _ _, _, rfl, p, CS, dx, _, _, rfl, R.sp, T.clS, T.s2, spF_pace _ _ _, _, rfl, p, CS, dx, _, _, rfl, R.sp, T.clS, T.s1, spF_places _ _ _, _, rfl, p, CS, dx, _, _, rfl, R.sp, T.clS, T.s9, spF_door _ _ _,
      _, rfl, p, CS, dx, _, _, rfl, R.sp, T.clS, T.s7, spF_wanted _ _ _, (by show 5 ≤ sizeLine; decide), ?_⟩
    exact ans_same R s0 k (r := Su74.num a.now_ [a.every, a.places.length, a.left, a.want]) rfl rfl
end
end Sp

set_option Elab.async false
set_option linter.all false
set_option maxRecDepth 100000
set_option maxHeartbeats 4000000
namespace Sp
open PySem PySem.Spec PyProof.Rows L2
open Su74 (Abs Tray)
abbrev sASoft : Stmt := top 48
abbrev sAOut : Stmt := top 49
abbrev sAOf : Stmt := top 50
abbrev sAChain : Stmt := top 52
abbrev sAMean : Stmt := top 53
section
variable {P : Program} {w : World} {K : PySem.W.Frag} {mg : Str → Option Value} {base : Heap} {CT CS : Addr}
/-! ### answer_soft -/
def spASoft (CT CS : Addr) : Sp := fun vs H Q _ => AnsSp CT CS .soft [] vs H Q
theorem scASoft : FnScope ["spiral", "soft", "tray"] ["spiral"] (defScope sASoft) := ⟨rfl, rfl, rfl, by decide +kernel, rfl, by decide +kernel, by decide +kernel⟩
theorem ok_aSoft {f : Addr} {fd : FuncData} (F : Fun K "answer_soft" "answer_soft" sASoft f fd) (T : Txt K mg CT CS) (dU : Def P w K mg base "trays_out" ["spiral"] 1 (spOut CT CS)) (dS : Def P w K mg base "soft_trays" ["spiral", "trays"] 1 (spSoft K CT CS)) (dL : Def P w K mg base "litres_together" ["trays"] 1 (spLit CT CS)) :
    FnOk P w K mg base CX0 2 f fd ["spiral"] (spASoft CT CS) := by
  refine F.ok scASoft (fun vs H Q E h => ?_) (fun cdv A outer s H vs Q E hr h => ?_)
  · obtain ⟨H0, p, a, dx, tl, sl, rs, rfl, _⟩ := h
    rfl
  · obtain ⟨H0, p, a, dx, tl, sl, rs, rfl, R, s0, k⟩ := h
    have W := R.wf
    refine ⟨_, pss_cons (ps_set (i := 1) scASoft.nd rfl (Or.inl rfl) (pe_def dS hr (pa_cons (pv 0) (pa_cons (pe_def dU hr (pa_cons (pv 0) pa_nil)) pa_nil))))
      (pss_one (ps_ret (pe_op op_cat (pe_lst (pa_cons (pe_callB call_len_seq rfl T.len PySem.boot_len (pa_cons (pv 1) pa_nil)) (pa_cons (pe_def dL hr (pa_cons (pv 1) pa_nil)) pa_nil)))
        (pe_lc (own := [("tray", 2)]) (g := gName 2) (tt := tYes) (te := tFld K (tVar 2) "number") rfl scASoft.nd (pi_list (pv 1)) (blkOk_by (by change blkC ["spiral", "soft", "tray"] (defScope sASoft) _ _ = true; decide +kernel)) (fun _ _ _ _ _ => pg_name (i := 2) scASoft.nd rfl (Or.inl rfl))
          (fun _ _ _ _ _ => pts_nil) (fun _ _ _ _ _ => pe_fld (pv 2) rfl))))), ?_⟩
    refine ⟨_, rfl, _, rfl, H0, p, a, dx, tl, sl, rs, rfl, R, fun l1 n1 => ?_⟩
    have s1 : Same H (upd H l1 (.lst (refN rs (List.range a.out.length)))) := Same.up n1
    have h1 : upd H l1 (.lst (refN rs (List.range a.out.length))) l1 = some (.lst (refN rs (List.range a.out.length))) := upd_same
    generalize upd H l1 (.lst (refN rs (List.range a.out.length))) = H1 at s1 h1 ⊢
    have R1 := R.same s1
    refine ⟨p, l1, a, (List.range a.out.length).map fun t => rs.getD t 0, (List.range a.out.length).map fun t => (a.tray t).frost, rfl, ⟨dx, tl, sl, R1.sp⟩, soft_l h1, soft_n a rs _, soft_m (out_len W), soft_at R1 (out_lt W), fun l2 n2 => ?_⟩
    rw [sel_refs]
    have hss : ∀ t ∈ a.soft, t < a.trays.length := by
      rw [soft_eq W]
      exact softN_lt (out_lt W)
    have hsl : a.soft.length ≤ 100 := by
      rw [soft_eq W]
      exact softN_len (out_len W)
    rw [← soft_eq W]
    have s2 : Same H1 (upd H1 l2 (.lst (refN rs a.soft))) := Same.up n2
    have h2 : upd H1 l2 (.lst (refN rs a.soft)) l2 = some (.lst (refN rs a.soft)) := upd_same
    generalize upd H1 l2 (.lst (refN rs a.soft)) = H2 at s2 h2 ⊢
    have R2 := R1.same s2
    refine ⟨_, rfl, l2, _, rfl, .inl (SqL.of h2), _, rfl, H0, p, a, dx, tl, sl, rs, l2, a.soft, rfl, R2, h2, hss, hsl, fun H3 s3 => ⟨(by show 2 ≤ sizeLine; decide), fun l4 n4 => ?_⟩⟩
    have s4 : Same H3 (upd H3 l4 (.lst [.int ((refN rs a.soft).length : Nat), .int (a.litres a.soft : Nat)])) := Same.up n4
    have h4 : upd H3 l4 (.lst [.int ((refN rs a.soft).length : Nat), .int (a.litres a.soft : Nat)]) l4 = some (.lst [.int ((refN rs a.soft).length : Nat), .int (a.litres a.soft : Nat)]) := upd_same
    generalize upd H3 l4 (.lst [.int ((refN rs a.soft).length : Nat), .int (a.litres a.soft : Nat)]) = H4 at s4 h4 ⊢
    have R4 := (R2.same s3).same s4
    have h24 := s4 _ _ (s3 _ _ h2)
    refine ⟨_, rfl, l2, rfl, ⟨_, SqL.of h24⟩, fun D hD => ?_⟩
    refine lc_fld (v := fun t => .int (t : Nat)) T.clT T.t0 R4 h24 hss hsl (fun t => trF_number _ _ _) hD ?_ (fun _ => rfl) (fun _ => rfl)
    have s5 : Same H4 (upd H4 D (.lst (a.soft.map fun t => V.int (t : Nat)))) := Same.up hD
    refine ⟨l4, D, _, _, rfl, rfl, s5 _ _ h4, upd_same, ?_, ?_⟩
    · have h6 : 1000 < sizeLine := by decide
      show 2 + (a.soft.map _).length ≤ sizeLine
      rw [List.length_map]
      omega
    refine ans_later R s0 ((((s1.trans s2).trans s3).trans s4).trans s5) k (r := Su74.num a.soft.length (a.litres a.soft :: a.soft)) rfl ?_
    rw [refN_len]
    rfl
/-! ### answer_out -/
def spAOut (CT CS : Addr) : Sp := fun vs H Q _ => AnsSp CT CS .out [] vs H Q
theorem scAOut : FnScope ["spiral", "came_out", "answer", "tray"] ["spiral"] (defScope sAOut) := ⟨rfl, rfl, rfl, by decide +kernel, rfl, by decide +kernel, by decide +kernel⟩
def outL (a : Abs) (i : Nat) : List V := .int (a.out.length : Nat) :: ((a.out.take i).flatMap fun x => [x.1, x.2.1, x.2.2]).map fun (n : Nat) => V.int n
theorem outL_len (a : Abs) (i : Nat) : (outL a i).length ≤ 1 + 3 * i := by
  unfold outL
  rw [List.length_cons, List.length_map, flat3, List.length_take]
  omega
theorem ok_aOut {f : Addr} {fd : FuncData} (F : Fun K "answer_out" "answer_out" sAOut f fd) (T : Txt K mg CT CS) (dU : Def P w K mg base "trays_out" ["spiral"] 1 (spOut CT CS)) : FnOk P w K mg base CX0 2 f fd ["spiral"] (spAOut CT CS) := by
  refine F.ok scAOut (fun vs H Q E h => ?_) (fun cdv A outer s H vs Q E hr h => ?_)
  · obtain ⟨H0, p, a, dx, tl, sl, rs, rfl, _⟩ := h
    rfl
  · obtain ⟨H0, p, a, dx, tl, sl, rs, rfl, R, s0, k⟩ := h
    have W := R.wf
    have htr := W.tr
    have hole := W.ole
    refine ⟨_, pss_cons (ps_set (i := 1) scAOut.nd rfl (Or.inl rfl) (pe_def dU hr (pa_cons (pv 0) pa_nil)))
      (pss_cons (ps_set (i := 2) scAOut.nd rfl (Or.inl rfl) (pe_lst (pa_cons (pe_callB call_len_seq rfl T.len PySem.boot_len (pa_cons (pv 1) pa_nil)) pa_nil)))
      (pss_cons (ps_for PassesOwn.never rfl (pi_list (pv 1)) (pg_name (i := 3) scAOut.nd rfl (Or.inl rfl))
        (pss_one (ps_expr (pe_bm PySem.F.plainAttrs_list PySem.F.slot_list_extend PySem.F.type_list_extend mt_extend (pv 2) (pa_cons (pe_lst (pa_cons (pe_fld (pv 3) rfl) (pa_cons (pe_fld (pv 3) rfl) (pa_cons (pe_fld (pv 3) rfl) pa_nil)))) pa_nil)))))
      (pss_one (ps_ret (pv 2))))), ?_⟩
    refine ⟨_, rfl, H0, p, a, dx, tl, sl, rs, rfl, R, fun l1 n1 => ?_⟩
    have s1 : Same H (upd H l1 (.lst (refN rs (List.range a.out.length)))) := Same.up n1
    have h1 : upd H l1 (.lst (refN rs (List.range a.out.length))) l1 = some (.lst (refN rs (List.range a.out.length))) := upd_same
    generalize upd H l1 (.lst (refN rs (List.range a.out.length))) = H1 at s1 h1 ⊢
    have R1 := R.same s1
    refine ⟨_, rfl, l1, _, rfl, .inl (SqL.of h1), (by show 1 ≤ sizeLine; decide), fun l n2 => ?_⟩
    have e0 : [V.int ((refN rs (List.range a.out.length)).length : Nat)] = outL a 0 := by
      rw [refN_len, List.length_range]
      rfl
    rw [e0]
    refine ⟨_, rfl, l1, rfl, ⟨_, SqL.of ((Same.up n2) _ _ h1)⟩, for_list (K := K) (a := l1) (xs := refN rs (List.range a.out.length)) (fun i σ H' => ∃ v : Option V, σ = [some (.ref p), some (.ref l1), some (.ref l), v] ∧ Same H1 H' ∧ H' l = some (.lst (outL a i)))
      ⟨none, rfl, Same.up n2, upd_same⟩ (fun i σ H' _ ⟨_, _, h, _⟩ => SqL.of (h _ _ h1)) ?_ ?_⟩
    · rintro i y σ H' hi ⟨v, rfl, sH, hlH⟩
      unfold refN at hi
      rw [List.getElem?_map] at hi
      cases hq : (List.range a.out.length)[i]? with
      | none => rw [hq] at hi; cases hi
      | some t =>
        rw [hq] at hi
        have hy : y = V.ref (rs.getD t 0) := (Option.some.inj hi).symm
        subst hy
        have hin : i < a.out.length := by
          have := (List.getElem?_eq_some_iff.mp hq).1
          rw [List.length_range] at this
          exact this
        have hti : t = i := by
          rw [List.getElem?_range hin] at hq
          exact (Option.some.inj hq).symm
        subst hti
        obtain ⟨d, hd0⟩ := R1.tray t _ (R1.ref_at (by omega))
        have hd := sH _ _ hd0
        refine ⟨_, rfl, .inl ⟨rfl, _, SqL.of hlH⟩, _, rfl, _, CT, d, _, _, rfl, hd, T.clT, T.t0, trF_number _ _ _, _, rfl, _, CT, d, _, _, rfl, hd, T.clT, T.t5, trF_out _ _ _, _, rfl, _, CT, d, _, _, rfl, hd, T.clT, T.t3, trF_frost _ _ _, (by show 3 ≤ sizeLine; decide), fun b nb => ?_⟩
        have nbl : l ≠ b := ne_of_none hlH nb
        refine ⟨l, b, outL a t, _, rfl, rfl, Eq.trans (upd_ne nbl) hlH, upd_same, ?_, ?_⟩
        · have h5 := outL_len a t
          have h6 : 1000 < sizeLine := by decide
          show (outL a t).length + 3 ≤ sizeLine
          omega
        refine ⟨_, rfl, Same.up0 (sH.trans (Same.up nb)) n2, ?_⟩
        rw [upd_same, outV_lt hin]
        have eo := out_at W hin
        have e2 : outL a (t + 1) = outL a t ++ [.int (t : Nat), .int (a.out[t].2.1 : Nat), .int ((a.tray t).frost : Nat)] := by
          unfold outL
          rw [flat_take (List.getElem?_eq_getElem hin), List.map_append, eo.1, eo.2]
          rfl
        rw [e2]
    · rintro σ H' ⟨v, rfl, sH, hlH⟩
      refine ⟨_, rfl, ?_⟩
      rw [refN_len, List.length_range] at hlH
      have e : Su74.does a .out = (a, Su74.num a.out.length (a.out.flatMap fun x => [x.1, x.2.1, x.2.2])) := rfl
      rw [e] at k
      have s2 := s1.trans sH
      refine k H' l dx tl sl rs (R.same s2) (s0.trans s2) ((s0.trans s1).free n2) ?_
      rw [hlH]
      unfold outL
      rw [List.take_length]
      rfl
/-! ### answer_of -/
def spAOf (CT CS : Addr) : Sp := fun vs H Q _ => ∃ v : Nat, AnsSp CT CS (.of v) [.int v] vs H Q
theorem scAOf : FnScope ["spiral", "flavour", "came_out", "tray"] ["spiral", "flavour"] (defScope sAOf) := ⟨rfl, rfl, rfl, by decide +kernel, rfl, by decide +kernel, by decide +kernel⟩
theorem ok_aOf {f : Addr} {fd : FuncData} (F : Fun K "answer_of" "answer_of" sAOf f fd) (T : Txt K mg CT CS) (N : Nums mg) (dU : Def P w K mg base "trays_out" ["spiral"] 1 (spOut CT CS)) (dS : Def P w K mg base "soft_trays" ["spiral", "trays"] 1 (spSoft K CT CS)) (dL : Def P w K mg base "litres_together" ["trays"] 1 (spLit CT CS)) :
    FnOk P w K mg base CX0 2 f fd ["spiral", "flavour"] (spAOf CT CS) := by
  refine F.ok scAOf (fun vs H Q E h => ?_) (fun cdv A outer s H vs Q E hr h => ?_)
  · obtain ⟨v, H0, p, a, dx, tl, sl, rs, rfl, _⟩ := h
    rfl
  · obtain ⟨v, H0, p, a, dx, tl, sl, rs, rfl, R, s0, k⟩ := h
    have W := R.wf
    refine ⟨_, pss_cons (ps_if (pt_cmpR op_gt (pv 1) (pe_gi N.flavour) (nomark _)) (pss_one (ps_ret (pe_lst (pa_cons (pe_gi N.range) pa_nil)))) pss_nil)
      (pss_cons (ps_setLc (i := 2) (own := [("tray", 3)]) (g := gName 3) (tt := tTest (tOp rEq (tFld K (tVar 3) "flavour") (tVar 1))) (te := tVar 3) rfl scAOf.nd rfl rfl (sw_true rfl rfl rfl rfl) (pi_list (pe_def dU hr (pa_cons (pv 0) pa_nil))) (blkOk_by (by change blkC ["spiral", "flavour", "came_out", "tray"] (defScope sAOf) _ _ = true; decide +kernel)) (fun _ _ _ _ _ => pg_name (i := 3) scAOf.nd rfl (Or.inl rfl))
        (fun _ _ _ _ _ => pts_one (pt_cmpR op_eq (pe_fld (pv 3) rfl) (pv 1) (nomark _))) (fun _ _ _ _ _ => pv 3))
      (pss_one (ps_ret (pe_lst (pa_cons (pe_def dL hr (pa_cons (pv 2) pa_nil)) (pa_cons (pe_def dL hr (pa_cons (pe_def dS hr (pa_cons (pv 0) (pa_cons (pv 2) pa_nil))) pa_nil)) pa_nil)))))), ?_⟩
    refine ⟨_, rfl, _, _, rfl, rfl, _, rfl, ite2 (fun c => ?_) (fun c => ?_)⟩
    · have c' : 9 < v := by have := of_decide_eq_true c; omega
      refine ⟨(by show 1 ≤ sizeLine; decide), ans_same R s0 k (r := Su74.no (-22)) ?_ rfl⟩
      show (if 9 < v then (a, Su74.no (-22)) else _) = _
      rw [if_pos c']
    have c' : ¬ 9 < v := fun q => c (decide_eq_true (by omega))
    refine ⟨_, rfl, H0, p, a, dx, tl, sl, rs, rfl, R, fun l1 n1 => ?_⟩
    have s1 : Same H (upd H l1 (.lst (refN rs (List.range a.out.length)))) := Same.up n1
    have h1 : upd H l1 (.lst (refN rs (List.range a.out.length))) l1 = some (.lst (refN rs (List.range a.out.length))) := upd_same
    generalize upd H l1 (.lst (refN rs (List.range a.out.length))) = H1 at s1 h1 ⊢
    have R1 := R.same s1
    refine ⟨l1, rfl, ⟨_, SqL.of h1⟩, fun D hD => ?_⟩
    have sm : ∀ {o : HO} {b : Addr} {u : HO}, H1 b = some u → upd H1 D o b = some u := fun {o b u} e => by
      rw [upd_ne (ne_of_none e hD)]
      exact e
    refine lc_list (K := K) (a := l1) (xs := refN rs (List.range a.out.length)) (fun i H' => H' = upd H1 D (.lst (refN rs (((List.range a.out.length).take i).filter fun t => (a.tray t).flavour == v)))) rfl (fun i H' _ e => by rw [e]; exact SqL.of (sm h1)) ?_ ?_
    · rintro i y H' hi rfl
      unfold refN at hi
      rw [List.getElem?_map] at hi
      cases hq : (List.range a.out.length)[i]? with
      | none => rw [hq] at hi; cases hi
      | some t =>
        rw [hq] at hi
        have hy : y = V.ref (rs.getD t 0) := (Option.some.inj hi).symm
        subst hy
        obtain ⟨d, hd⟩ := R1.tray t _ (R1.ref_at (out_lt W t (List.mem_of_getElem? hq)))
        have ef : ((List.range a.out.length).take (i + 1)).filter (fun t => (a.tray t).flavour == v) = ((List.range a.out.length).take i).filter (fun t => (a.tray t).flavour == v) ++ (if (a.tray t).flavour = v then [t] else []) := by
          rw [take1 hq, List.filter_append, List.filter_cons, List.filter_nil]
          congr 1
          by_cases z : (a.tray t).flavour = v
          · rw [if_pos z, if_pos (by simpa using z)]
          · rw [if_neg z, if_neg (by simpa using z)]
        refine ⟨rfl, _, rfl, _, CT, d, _, _, rfl, sm hd, T.clT, T.t1, trF_flavour _ _ _, _, rfl, rfl, _, rfl, ite2 (fun c1 => ?_) (fun c1 => ?_)⟩
        · have z : (a.tray t).flavour = v := by
            have q := of_decide_eq_true c1
            injection q with q
            omega
          rw [if_pos z] at ef
          refine ⟨_, rfl, _, upd_same, ?_, ?_⟩
          · rw [refN_len]
            have h4 : 100 < sizeLine := by decide
            have h5 := List.length_filter_le (fun t => (a.tray t).flavour == v) ((List.range a.out.length).take i)
            have h6 := out_len W
            rw [List.length_take] at h5
            omega
          · rw [upd_upd, ef]
            unfold refN
            rw [List.map_append]
            rfl
        · have z : ¬ (a.tray t).flavour = v := fun q => c1 (decide_eq_true (by rw [q]))
          rw [if_neg z, List.append_nil] at ef
          rw [ef]
    · rintro H' rfl
      rw [refN_len, List.take_length]
      have hfs : ∀ t ∈ (List.range a.out.length).filter (fun t => (a.tray t).flavour == v), t < a.trays.length := fun t ht => out_lt W t (List.mem_filter.mp ht).1
      have hfl : ((List.range a.out.length).filter (fun t => (a.tray t).flavour == v)).length ≤ 100 := Nat.le_trans (List.length_filter_le _ _) (out_len W)
      have e : Su74.does a (.of v) = (a, Su74.num (a.litres ((List.range a.out.length).filter fun t => (a.tray t).flavour == v)) [a.litres (softN a ((List.range a.out.length).filter fun t => (a.tray t).flavour == v))]) := by
        show (if 9 < v then (a, Su74.no (-22)) else (a, Su74.num (a.litres ((a.out.map Prod.fst).filter fun t => (a.tray t).flavour == v)) [a.litres (a.soft.filter fun t => (a.tray t).flavour == v)])) = _
        rw [if_neg c', W.onum, soft_eq W, softN_comm]
      generalize (List.range a.out.length).filter (fun t => (a.tray t).flavour == v) = fs at hfs hfl e ⊢
      have s2 : Same H1 (upd H1 D (.lst (refN rs fs))) := Same.up hD
      have h2 : upd H1 D (.lst (refN rs fs)) D = some (.lst (refN rs fs)) := upd_same
      generalize upd H1 D (.lst (refN rs fs)) = H2 at s2 h2 ⊢
      have R2 := R1.same s2
      refine ⟨_, rfl, H0, p, a, dx, tl, sl, rs, D, fs, rfl, R2, h2, hfs, hfl, fun H3 s3 => ?_⟩
      have R3 := R2.same s3
      refine ⟨_, rfl, _, rfl, p, D, a, (fs).map fun t => rs.getD t 0, (fs).map fun t => (a.tray t).frost, rfl, ⟨dx, tl, sl, R3.sp⟩, soft_l (s3 _ _ h2), soft_n a rs _, soft_m hfl, soft_at R3 hfs, fun l4 n4 => ?_⟩
      rw [sel_refs]
      have s4 : Same H3 (upd H3 l4 (.lst (refN rs (softN a fs)))) := Same.up n4
      have h4 : upd H3 l4 (.lst (refN rs (softN a fs))) l4 = some (.lst (refN rs (softN a fs))) := upd_same
      generalize upd H3 l4 (.lst (refN rs (softN a fs))) = H4 at s4 h4 ⊢
      refine ⟨H0, p, a, dx, tl, sl, rs, l4, softN a fs, rfl, R3.same s4, h4, softN_lt hfs, softN_len hfl, fun H5 s5 => ⟨(by show 2 ≤ sizeLine; decide), ?_⟩⟩
      exact ans_later R s0 ((((s1.trans s2).trans s3).trans s4).trans s5) k e rfl
/-! ### answer_chain -/
def spAChain (CT CS : Addr) : Sp := fun vs H Q _ => AnsSp CT CS .chain [] vs H Q
theorem scAChain : FnScope ["spiral", "number"] ["spiral"] (defScope sAChain) := ⟨rfl, rfl, rfl, by decide +kernel, rfl, by decide +kernel, by decide +kernel⟩
theorem ok_aChain {f : Addr} {fd : FuncData} (F : Fun K "answer_chain" "answer_chain" sAChain f fd) (T : Txt K mg CT CS) (dO : Def P w K mg base "trays_on_chain" ["spiral"] 1 (spOn CS)) : FnOk P w K mg base CX0 2 f fd ["spiral"] (spAChain CT CS) := by
  refine F.ok scAChain (fun vs H Q E h => ?_) (fun cdv A outer s H vs Q E hr h => ?_)
  · obtain ⟨H0, p, a, dx, tl, sl, rs, rfl, _⟩ := h
    rfl
  · obtain ⟨H0, p, a, dx, tl, sl, rs, rfl, R, s0, k⟩ := h
    have W := R.wf
    refine ⟨_, pss_one (ps_ret (pe_op op_cat (pe_lst (pa_cons (pe_callB call_len_seq rfl T.len PySem.boot_len (pa_cons (pe_def dO hr (pa_cons (pv 0) pa_nil)) pa_nil)) pa_nil))
      (pe_lc (own := [("number", 1)]) (g := gName 1) (tt := tYes) (te := tIf (tTest (tOp (fun x y H Q => y = .non ∧ Q (.bl (decide (x = .non))) H) (tVar 1) (tC .non))) (tC (.int 0)) (tOp (rI0 fun i j => .int (i + j)) (tVar 1) (tC (.int 1)))) rfl scAChain.nd (pi_list (pe_fld (pv 0) rfl)) (blkOk_by (by change blkC ["spiral", "number"] (defScope sAChain) _ _ = true; decide +kernel)) (fun _ _ _ _ _ => pg_name (i := 1) scAChain.nd rfl (Or.inl rfl))
        (fun _ _ _ _ _ => pts_nil) (fun _ _ _ _ _ => pe_ifExp (pt_cmpR op_isN (pv 1) pe_non (nomark _)) pe_int (pe_op op_add (pv 1) pe_int))))), ?_⟩
    refine ⟨_, rfl, p, a, dx, tl, sl, rs, rfl, W, R.sp, R.trs, R.sls, R.len, fun l1 n1 => ?_⟩
    have s1 : Same H (upd H l1 (.lst ((onRefs rs a).map V.ref))) := Same.up n1
    have h1 : upd H l1 (.lst ((onRefs rs a).map V.ref)) l1 = some (.lst ((onRefs rs a).map V.ref)) := upd_same
    generalize upd H l1 (.lst ((onRefs rs a).map V.ref)) = H1 at s1 h1 ⊢
    have R1 := R.same s1
    refine ⟨l1, _, rfl, .inl (SqL.of h1), (by show 1 ≤ sizeLine; decide), fun l2 n2 => ?_⟩
    rw [onRefs_len]
    have s2 : Same H1 (upd H1 l2 (.lst [.int (a.load : Nat)])) := Same.up n2
    have h2 : upd H1 l2 (.lst [.int (a.load : Nat)]) l2 = some (.lst [.int (a.load : Nat)]) := upd_same
    generalize upd H1 l2 (.lst [.int (a.load : Nat)]) = H2 at s2 h2 ⊢
    have R2 := R1.same s2
    refine ⟨_, rfl, p, CS, dx, _, _, rfl, R2.sp, T.clS, T.s11, spF_slots _ _ _, sl, rfl, ⟨_, SqL.of R2.sls⟩, fun D hD => ?_⟩
    have sm : ∀ {o : HO} {b : Addr} {u : HO}, H2 b = some u → upd H2 D o b = some u := fun {o b u} e => by
      rw [upd_ne (ne_of_none e hD)]
      exact e
    have hpl := W.pl
    refine lc_list (K := K) (a := sl) (xs := a.places.map slotV) (fun i H' => H' = upd H2 D (.lst ((a.places.take i).map fun (n : Nat) => V.int n))) rfl (fun i H' _ e => by rw [e]; exact SqL.of (sm R2.sls)) ?_ ?_
    · rintro i x H' hx rfl
      rw [List.getElem?_map] at hx
      cases hq : a.places[i]? with
      | none => rw [hq] at hx; cases hx
      | some z =>
        rw [hq] at hx
        have hx' : x = slotV z := (Option.some.inj hx).symm
        subst hx'
        have hlen : ((a.places.take i).map fun (n : Nat) => V.int n).length < sizeLine := by
          rw [List.length_map, List.length_take]
          have h3 : 12 < sizeLine := by decide
          omega
        refine ⟨rfl, tYes_if ?_⟩
        refine ⟨_, rfl, rfl, _, rfl, ite2 (fun c => ?_) (fun c => ?_)⟩
        · have hz : z = 0 := slotV_non.mp (of_decide_eq_true c)
          subst hz
          refine ⟨_, upd_same, hlen, ?_⟩
          rw [upd_upd, take1 hq, List.map_append]
          rfl
        · cases z with
          | zero => exact absurd (decide_eq_true rfl) c
          | succ z =>
            refine ⟨_, rfl, (z : Int), 1, rfl, rfl, _, upd_same, hlen, ?_⟩
            rw [upd_upd, take1 hq, List.map_append]
            rfl
    · rintro H' rfl
      have e : (a.places.map slotV).length = a.places.length := List.length_map _
      rw [e, List.take_length]
      have s3 : Same H2 (upd H2 D (.lst (a.places.map fun (n : Nat) => V.int n))) := Same.up hD
      refine ⟨l2, D, _, _, rfl, rfl, s3 _ _ h2, upd_same, ?_, ?_⟩
      · have h6 : 1000 < sizeLine := by decide
        show 1 + (a.places.map _).length ≤ sizeLine
        rw [List.length_map]
        omega
      exact ans_later R s0 ((s1.trans s2).trans s3) k (r := Su74.num a.load a.places) rfl rfl
/-! ### answer_mean -/
def spAMean (CT CS : Addr) : Sp := fun vs H Q _ => AnsSp CT CS .mean [] vs H Q
theorem scAMean : FnScope ["spiral", "frosts", "tray"] ["spiral"] (defScope sAMean) := ⟨rfl, rfl, rfl, by decide +kernel, rfl, by decide +kernel, by decide +kernel⟩
theorem ok_aMean {f : Addr} {fd : FuncData} (F : Fun K "answer_mean" "answer_mean" sAMean f fd) (T : Txt K mg CT CS) (N : Nums mg) (dU : Def P w K mg base "trays_out" ["spiral"] 1 (spOut CT CS)) : FnOk P w K mg base CX0 2 f fd ["spiral"] (spAMean CT CS) := by
  refine F.ok scAMean (fun vs H Q E h => ?_) (fun cdv A outer s H vs Q E hr h => ?_)
  · obtain ⟨H0, p, a, dx, tl, sl, rs, rfl, _⟩ := h
    rfl
  · obtain ⟨H0, p, a, dx, tl, sl, rs, rfl, R, s0, k⟩ := h
    have W := R.wf
    refine ⟨_, pss_cons (ps_setLc (i := 1) (own := [("tray", 2)]) (g := gName 2) (tt := tYes) (te := tFld K (tVar 2) "frost") rfl scAMean.nd rfl rfl (sw_true rfl rfl rfl rfl) (pi_list (pe_def dU hr (pa_cons (pv 0) pa_nil))) (blkOk_by (by change blkC ["spiral", "frosts", "tray"] (defScope sAMean) _ _ = true; decide +kernel)) (fun _ _ _ _ _ => pg_name (i := 2) scAMean.nd rfl (Or.inl rfl))
        (fun _ _ _ _ _ => pts_nil) (fun _ _ _ _ _ => pe_fld (pv 2) rfl))
      (pss_cons (ps_if (pt_cmpR op_eq (pe_callB call_len_seq rfl T.len PySem.boot_len (pa_cons (pv 1) pa_nil)) pe_int (nomark _)) (pss_one (ps_ret (pe_lst (pa_cons (pe_gi N.noneOut) pa_nil)))) pss_nil)
      (pss_one (ps_ret (pe_lst (pa_cons (pe_op op_fdiv (pe_callB (cr_sum rfl) rfl T.sum (by decide +kernel) (pa_cons (pv 1) pa_nil)) (pe_callB call_len_seq rfl T.len PySem.boot_len (pa_cons (pv 1) pa_nil)))
        (pa_cons (pe_callB (cr_min rfl) rfl T.min (by decide +kernel) (pa_cons (pv 1) pa_nil)) (pa_cons (pe_callB (cr_max rfl) rfl T.max (by decide +kernel) (pa_cons (pv 1) pa_nil)) pa_nil))))))), ?_⟩
    refine ⟨_, rfl, H0, p, a, dx, tl, sl, rs, rfl, R, fun l1 n1 => ?_⟩
    have s1 : Same H (upd H l1 (.lst (refN rs (List.range a.out.length)))) := Same.up n1
    have h1 : upd H l1 (.lst (refN rs (List.range a.out.length))) l1 = some (.lst (refN rs (List.range a.out.length))) := upd_same
    generalize upd H l1 (.lst (refN rs (List.range a.out.length))) = H1 at s1 h1 ⊢
    have R1 := R.same s1
    refine ⟨l1, rfl, ⟨_, SqL.of h1⟩, fun D hD => ?_⟩
    refine lc_fld (v := fun t => .int ((a.tray t).frost : Nat)) T.clT T.t3 R1 h1 (out_lt W) (out_len W) (fun t => trF_frost _ _ _) hD ?_ (fun _ => rfl) (fun _ => rfl)
    have ev : ((List.range a.out.length).map fun t => V.int ((a.tray t).frost : Nat)) = ((a.out.map fun x => x.2.2).map fun (n : Nat) => (n : Int)).map V.int := by
      rw [out_frosts W, List.map_map, List.map_map]
      rfl
    have hle : ∀ x ∈ (a.out.map fun x => x.2.2), x ≤ 1000 := by
      rw [out_frosts W]
      exact frosts_le W
    have hn : (a.out.map fun x => x.2.2).length = a.out.length := List.length_map _
    have hbig : a.out.length ≤ 100 := Nat.le_trans W.ole W.tr
    rw [ev]
    have e : Su74.does a .mean = if a.out = [] then (a, Su74.no (-6)) else (a, Su74.num ((a.out.map fun x => x.2.2).sum / a.out.length) [(a.out.map fun x => x.2.2).foldl min 1000, (a.out.map fun x => x.2.2).foldl max 0]) := rfl
    rw [← hn] at e
    generalize (a.out.map fun x => x.2.2) = fs at hle hn e ⊢
    have s2 : Same H1 (upd H1 D (.lst ((fs.map fun (n : Nat) => (n : Int)).map V.int))) := Same.up hD
    have h2 : upd H1 D (.lst ((fs.map fun (n : Nat) => (n : Int)).map V.int)) D = some (.lst ((fs.map fun (n : Nat) => (n : Int)).map V.int)) := upd_same
    generalize upd H1 D (.lst ((fs.map fun (n : Nat) => (n : Int)).map V.int)) = H2 at s2 h2 ⊢
    have hll : (((fs.map fun (n : Nat) => (n : Int)).map V.int).length : Int) = (fs.length : Int) := by rw [List.length_map, List.length_map]
    refine ⟨_, rfl, D, _, rfl, .inl (SqL.of h2), rfl, _, rfl, ite2 (fun c => ?_) (fun c => ?_)⟩
    · have z : fs.length = 0 := by
        have q := of_decide_eq_true c
        injection q with q
        rw [hll] at q
        omega
      have z2 : a.out = [] := List.eq_nil_of_length_eq_zero (by omega)
      rw [if_pos z2] at e
      exact ⟨(by show 1 ≤ sizeLine; decide), ans_later R s0 (s1.trans s2) k e rfl⟩
    · have z : fs.length ≠ 0 := fun q => c (decide_eq_true (by rw [hll, q]; rfl))
      have z2 : a.out ≠ [] := fun q => z (by rw [hn, q]; rfl)
      rw [if_neg z2] at e
      have hpos : 0 < (fs.map fun (n : Nat) => (n : Int)).length := by
        rw [List.length_map]
        omega
      refine ⟨_, rfl, D, _, rfl, SqL.of h2, _, rfl, D, _, rfl, .inl (SqL.of h2), _, _, rfl, rfl, ⟨by rw [hll]; omega, by rw [hll]; omega⟩, _, rfl, D, _, rfl, SqL.of h2, hpos, fun m hm hmin => ?_⟩
      refine ⟨_, rfl, D, _, rfl, SqL.of h2, hpos, fun M hM hmax => ⟨(by show 3 ≤ sizeLine; decide), ans_later R s0 (s1.trans s2) k e ?_⟩⟩
      rw [hll, min_is hle hm hmin, max_is hM hmax, ← sum_cast]
      rfl
end
end Sp

set_option Elab.async false
set_option linter.all false
set_option maxRecDepth 100000
set_option maxHeartbeats 4000000
namespace Sp
open PySem PySem.Spec PyProof.Rows L2
open Su74 (Abs Tray)
abbrev sAnswers : Stmt := top 58
/-- a call that is handed on -/
def spDisp (CT CS : Addr) (lo hi : Nat) : Sp := fun vs H Q _ => ∃ (j n : Nat) (l : Addr) (xs : List Int) (c : Su74.Call), lo ≤ j ∧ j ≤ hi ∧ widths[j]? = some n ∧ xs.length = n ∧ (∀ x ∈ xs, 0 ≤ x) ∧ H l = some (.lst (xs.map V.int)) ∧ Su74Neutral.callOf ((j : Int) :: xs) = some c ∧ AnsSp CT CS c [.int j, .ref l] vs H Q
def spBegun (CT CS : Addr) : Sp := fun vs H Q _ => ∃ (l : Addr) (p e b w d s t : Nat), vs = [.ref l] ∧ H l = some (.lst [.int p, .int e, .int b, .int w, .int d, .int s, .int t]) ∧
  (badB p e b w d s t → ∀ H', Same H H' → Q .non H') ∧ (¬ badB p e b w d s t → ∀ (H' : Hp) (q dx tl sl : Addr), Same H H' → RepX CT CS H H' q (Su74.new p e b w d s t) dx tl sl [] → Q (.ref q) H')
def spAnswers (K : PySem.W.Frag) : Sp := fun vs H Q _ => ∃ (a : Addr) (ns : List Int), vs = [.ref a] ∧ SqL K H a (ns.map V.int) ∧ (∀ x ∈ ns, 0 ≤ x) ∧ ns.length ≤ 3200 ∧ PySu74.answers_asked ns = true ∧
  ∀ (H' : Hp) (q : Addr), H' q = some (.lst ((PySu74.answers ns).map V.int)) → Q (.ref q) H'
/-- the object, if it has begun -/
def SpR (CT CS : Addr) (H0 H : Hp) (st : Option Abs) (sv : V) : Prop := match st with
  | none => sv = .non
  | some a => ∃ p dx tl sl rs, sv = .ref p ∧ RepX CT CS H0 H p a dx tl sl rs
theorem SpR.same {CT CS : Addr} {H0 H H' : Hp} {st : Option Abs} {sv : V} (h : SpR CT CS H0 H st sv) (s : Same H H') : SpR CT CS H0 H' st sv := by
  cases st with
  | none => exact h
  | some a =>
    obtain ⟨p, dx, tl, sl, rs, e, R⟩ := h
    exact ⟨p, dx, tl, sl, rs, e, R.same s⟩
theorem SpR.upd0 {CT CS : Addr} {H0 H : Hp} {st : Option Abs} {sv : V} {q : Addr} {o : HO} (h : SpR CT CS H0 H st sv) (n : H0 q ≠ none) : SpR CT CS H0 (upd H q o) st sv := by
  cases st with
  | none => exact h
  | some a =>
    obtain ⟨p, dx, tl, sl, rs, e, R⟩ := h
    exact ⟨p, dx, tl, sl, rs, e, R.upd0 n⟩
theorem ansV_int (r : Su74.Ans) : ansV r = (outI r).map V.int := by
  unfold ansV outI
  rw [List.map_cons, List.map_map]
  rfl
/-- between two calls -/
structure Loop (CT CS : Addr) (Hs H : Hp) (q : Addr) (ns : List Int) (st : Option Abs) (sv : V) (k f : Nat) (cs : List (List (List Int))) (res : List Int) : Prop where
  hk : k ≤ ns.length
  cl : PyFlat.calls PySu74.shape f (ns.drop k) = some cs
  eq : res ++ due st cs = PySu74.answers ns
  len : res.length + 310 * cs.length ≤ 124000
  lst : H q = some (.lst (res.map V.int))
  same : Same Hs H
  new : Hs q = none
  sp : SpR CT CS (upd Hs q (.lst [])) H st sv
section
variable {P : Program} {w : World} {K : PySem.W.Frag} {mg : Str → Option Value} {base : Heap} {CT CS : Addr}
/-- answered.append(len(answer)); answered.extend(answer) -/
def tTail (K : PySem.W.Frag) : TS := tSeq (tDrop (tBM K "list" rAppend (tVar 2) (tCons (tCB (fun xs H Q => ∃ p ys, xs = [.ref p] ∧ (SqL K H p ys ∨ SqT K H p ys) ∧ Q (.int ys.length) H) (tCons (tVar 7) tNil)) tNil))) (tDrop (tBM K "list" rExtend (tVar 2) (tCons (tVar 7) tNil)))
theorem tail_ok {Hs H : Hp} {q l a : Addr} {ns res ans : List Int} {st st' : Option Abs} {sv : V} {k k' f f' : Nat} {cs' : List (List (List Int))} {D : Ends} {v4 v5 v6 v8 : Option V}
    (hk : k' ≤ ns.length) (cl : PyFlat.calls PySu74.shape f' (ns.drop k') = some cs') (eq : res ++ ((((ans.length : Nat) : Int) :: ans) ++ due st' cs') = PySu74.answers ns) (len : res.length + 310 * (cs'.length + 1) ≤ 124000) (hal : ans.length ≤ 301)
    (lst : H q = some (.lst (res.map V.int))) (same : Same Hs H) (new : Hs q = none) (sp : SpR CT CS (upd Hs q (.lst [])) H st' sv) (hl : H l = some (.lst (ans.map V.int))) (hlq : l ≠ q)
    (nx : ∀ (H' : Hp) (res' : List Int), Loop CT CS Hs H' q ns st' sv k' f' cs' res' → D.nx [some (.ref a), some sv, some (.ref q), some (.int k'), v4, v5, v6, some (.ref l), v8] H') :
    tTail K D [some (.ref a), some sv, some (.ref q), some (.int k'), v4, v5, v6, some (.ref l), v8] H := by
  have hz : 124000 < sizeLine := by decide
  refine ⟨_, rfl, .inl ⟨rfl, _, SqL.of lst⟩, _, rfl, l, _, rfl, .inl (SqL.of hl), q, _, _, rfl, rfl, lst, ?_, ?_⟩
  · rw [List.length_map]
    omega
  have hl2 : upd H q (.lst (res.map V.int ++ [.int ((ans.map V.int).length : Nat)])) l = some (.lst (ans.map V.int)) := by
    rw [upd_ne hlq]
    exact hl
  refine ⟨_, rfl, .inl ⟨rfl, _, SqL.of upd_same⟩, _, rfl, q, l, _, _, rfl, rfl, upd_same, hl2, ?_, ?_⟩
  · rw [List.length_append, List.length_map, List.length_map]
    show res.length + 1 + ans.length ≤ sizeLine
    omega
  rw [upd_upd]
  have e : res.map V.int ++ [.int ((ans.map V.int).length : Nat)] ++ ans.map V.int = (res ++ (((ans.length : Nat) : Int) :: ans)).map V.int := by
    rw [List.length_map, List.map_append, List.append_assoc]
    rfl
  rw [e]
  refine nx _ (res ++ (((ans.length : Nat) : Int) :: ans)) ⟨hk, cl, ?_, ?_, upd_same, Same.up0 same new, new, ?_⟩
  · rw [List.append_assoc]
    exact eq
  · rw [List.length_append, List.length_cons]
    omega
  · exact sp.upd0 (by rw [upd_same]; simp)
theorem cut_eq {ns : List Int} {k n : Nat} (h : k + 1 + n ≤ ns.length) : cutV (ns.map V.int) (some ((k : Int) + 1)) (some ((k : Int) + 1 + (n : Int))) = ((ns.drop (k + 1)).take n).map V.int := by
  unfold cutV
  have e1 : HT.sIx (ns.map V.int).length 0 (some ((k : Int) + 1)) = k + 1 := by
    show HT.sIx _ 0 (some (((k + 1 : Nat)) : Int)) = k + 1
    rw [HT.sIx_nat, List.length_map]
    omega
  have e2 : HT.sIx (ns.map V.int).length (ns.map V.int).length (some ((k : Int) + 1 + (n : Int))) = k + 1 + n := by
    show HT.sIx _ _ (some (((k + 1 + n : Nat)) : Int)) = k + 1 + n
    rw [HT.sIx_nat, List.length_map]
    omega
  rw [e1, e2, ← List.map_drop, ← List.map_take]
  congr 2
  omega
/-- how far it is to the end -/
def atOf (n : Nat) (σ : L2.St) : Nat := match σ[3]? with
  | some (some (V.int z)) => ((n : Int) - z).toNat
  | _ => 0
/-- the numbers of the calls, and the tuples of the top -/
structure Tops (K : PySem.W.Frag) (mg : Str → Option Value) : Prop where
  begin_ : GI mg "BEGIN" 0
  widths : ∃ a, mg "WIDTHS" = some (.ref a) ∧ ∀ H, SqT K H a (widths.map fun (n : Nat) => V.int n)
theorem scAnswers : FnScope ["calls", "spiral", "answered", "at", "call", "behind", "numbers", "answer", "fresh"] ["calls"] (defScope sAnswers) := ⟨rfl, rfl, rfl, by decide +kernel, rfl, by decide +kernel, by decide +kernel⟩
theorem ok_answers {f : Addr} {fd : FuncData} {kB kC k : Nat} (F : Fun K "answers" "answers" sAnswers f fd) (T : Txt K mg CT CS) (N : Nums mg) (Z : Tops K mg) (dB : Def P w K mg base "begun_spiral" ["numbers"] kB (spBegun CT CS)) (dC : Def P w K mg base "answer_of_call" ["spiral", "call", "numbers"] kC (spDisp CT CS 1 19))
    (h1 : kB ≤ k) (h2 : kC ≤ k) : FnOk P w K mg base CX0 (k + 1) f fd ["calls"] (spAnswers K) := by
  refine F.ok scAnswers (fun vs H Q E h => ?_) (fun cdv A outer s H vs Q E hr h => ?_)
  · obtain ⟨a, ns, rfl, _⟩ := h
    rfl
  · obtain ⟨a, ns, rfl, hS, hnn, h3200, hask, kk⟩ := h
    obtain ⟨wa, hwa, hwt⟩ := Z.widths
    obtain ⟨cs0, hcs0, h400⟩ := asked_calls hask
    refine ⟨_, pss_cons (ps_set (i := 1) scAnswers.nd rfl (Or.inl rfl) (pe_non))
      (pss_cons (ps_set (i := 2) scAnswers.nd rfl (Or.inl rfl) (pe_lst pa_nil))
      (pss_cons (ps_set (i := 3) scAnswers.nd rfl (Or.inl rfl) (pe_int))
      (pss_cons (ps_while PassesOwn.never (pt_cmpR op_lt (pv 3) (pe_callB call_len_seq rfl T.len PySem.boot_len (pa_cons (pv 0) pa_nil)) (nomark _)) (pss_cons (ps_set (i := 4) scAnswers.nd rfl (Or.inl rfl) (pe_ix ix_list (pv 0) (pv 3) (fun _ _ => rfl)))
      (pss_cons (ps_set (i := 5) scAnswers.nd rfl (Or.inl rfl) (pe_op op_add (pe_op op_add (pv 3) pe_int) (pe_ix ix_tup (pe_glob (v := .ref wa) rfl hwa rfl) (pv 4) (fun _ _ => rfl))))
      (pss_cons (ps_set (i := 6) scAnswers.nd rfl (Or.inl rfl) (pe_slice sl_list (pv 0) (po_some (pe_op op_add (pv 3) pe_int)) (po_some (pv 5))))
      (pss_cons (ps_set (i := 3) scAnswers.nd rfl (Or.inl rfl) (pv 5))
      (pss_cons (ps_set (i := 7) scAnswers.nd rfl (Or.inl rfl) (pe_lst (pa_cons pe_int pa_nil)))
      (pss_cons (ps_if (pt_cmpR op_eq (pv 4) (pe_gi Z.begin_) (nomark _)) (pss_cons (ps_set (i := 8) scAnswers.nd rfl (Or.inl rfl) (pe_def dB (hr.mono h1) (pa_cons (pv 6) pa_nil)))
      (pss_one (ps_if (pt_cmpR op_isN (pv 8) pe_non (nomark _)) (pss_one (ps_set (i := 7) scAnswers.nd rfl (Or.inl rfl) (pe_lst (pa_cons (pe_gi N.range) pa_nil)))) (pss_one (ps_set (i := 1) scAnswers.nd rfl (Or.inl rfl) (pv 8)))))) (pss_one (ps_if (pt_cmpR op_isN (pv 1) pe_non (nomark _)) (pss_one (ps_set (i := 7) scAnswers.nd rfl (Or.inl rfl) (pe_lst (pa_cons (pe_gi N.notBegun) pa_nil)))) (pss_one (ps_set (i := 7) scAnswers.nd rfl (Or.inl rfl) (pe_def dC (hr.mono h2) (pa_cons (pv 1) (pa_cons (pv 4) (pa_cons (pv 6) pa_nil)))))))))
      (pss_cons (ps_expr (pe_bm PySem.F.plainAttrs_list PySem.F.slot_list_append PySem.F.type_list_append mt_append (pv 2) (pa_cons (pe_callB call_len_seq rfl T.len PySem.boot_len (pa_cons (pv 7) pa_nil)) pa_nil)))
      (pss_one (ps_expr (pe_bm PySem.F.plainAttrs_list PySem.F.slot_list_extend PySem.F.type_list_extend mt_extend (pv 2) (pa_cons (pv 7) pa_nil))))))))))))
      (pss_one (ps_ret (pv 2)))))), ?_⟩
    refine ⟨Nat.zero_le _, fun q hq => ?_⟩
    have hq0 : upd H q (.lst []) q = some (.lst (([] : List Int).map V.int)) := upd_same
    have L0 : Loop CT CS H (upd H q (.lst [])) q ns none .non 0 ns.length cs0 [] := by
      refine ⟨Nat.zero_le _, hcs0, ?_, ?_, hq0, Same.up hq, hq, rfl⟩
      · rw [List.nil_append, answers_due hcs0]
      · show 0 + 310 * cs0.length ≤ 124000
        omega
    refine while_by (fun σ H' => ∃ (st : Option Abs) (sv : V) (j g : Nat) (cs : List (List (List Int))) (res : List Int) (v4 v5 v6 v7 v8 : Option V), σ = [some (.ref a), some sv, some (.ref q), some (.int (j : Nat)), v4, v5, v6, v7, v8] ∧ Loop CT CS H H' q ns st sv j g cs res)
      (fun σ _ => atOf ns.length σ) ⟨none, .non, 0, ns.length, cs0, [], none, none, none, none, none, rfl, L0⟩ ?_ ?_
    · rintro σ H1 ⟨st, sv, j, g, cs, res, v4, v5, v6, v7, v8, rfl, L⟩
      have hS1 := L.same.seq hS
      refine ⟨_, rfl, _, rfl, a, _, rfl, .inl hS1, _, _, rfl, rfl, _, rfl, ite2 (fun c => ?_) (fun c => ?_)⟩
      · have cj : j < ns.length := by
          have := of_decide_eq_true c
          rw [List.length_map] at this
          omega
        have hd : ns.drop j = ns[j] :: ns.drop (j + 1) := List.drop_eq_getElem_cons cj
        have cl := L.cl
        rw [hd] at cl
        obtain ⟨g', n, i, cs', rfl, hp, hw, hn, hcs, hcl⟩ := calls_cons cl
        rw [hp] at hcs
        have hlen : (ns.drop (j + 1)).length = ns.length - (j + 1) := List.length_drop
        have hbn : j + 1 + n ≤ ns.length := by omega
        have hxl : ((ns.drop (j + 1)).take n).length = n := by
          rw [List.length_take]
          omega
        have hxn : ∀ x ∈ (ns.drop (j + 1)).take n, 0 ≤ x := fun x hx => hnn x (List.mem_of_mem_drop (List.mem_of_mem_take hx))
        have hcut : cutV (ns.map V.int) (some ((j : Int) + 1)) (some ((j : Int) + 1 + (n : Int))) = ((ns.drop (j + 1)).take n).map V.int := cut_eq hbn
        rw [List.drop_drop] at hcl
        generalize hxs : (ns.drop (j + 1)).take n = xs at hcs hxl hxn hcut
        have hnj : ns[j]? = some ((i : Nat) : Int) := by rw [List.getElem?_eq_getElem cj, hp]
        have key : ∀ (st' : Option Abs) (ans : List Int), Su74Neutral.step st (((i : Nat) : Int) :: xs) = (st', ans) → res ++ ((((ans.length : Nat) : Int) :: ans) ++ due st' cs') = PySu74.answers ns := fun st' ans e => by
          have e1 := L.eq
          rw [hcs, due_cons st cs' hw hxl, e] at e1
          exact e1
        have hll : res.length + 310 * (cs'.length + 1) ≤ 124000 := by
          have := L.len
          rw [hcs, List.length_cons] at this
          exact this
        refine ⟨_, rfl, _, rfl, a, _, _, V.int ((i : Nat) : Int), rfl, rfl, hS1, atI_nat (by rw [List.getElem?_map, hnj]; rfl), ?_⟩
        refine ⟨_, rfl, _, _, rfl, rfl, _, rfl, wa, _, _, V.int (n : Nat), rfl, rfl, hwt _, atI_nat (by rw [List.getElem?_map, hw]; rfl), _, _, rfl, rfl, ?_⟩
        refine ⟨_, rfl, _, rfl, _, _, rfl, rfl, _, rfl, _, rfl, _, rfl, a, _, rfl, hS1, fun l hl => ?_⟩
        rw [hcut]
        refine ⟨_, rfl, ?_⟩
        refine ⟨(by show 1 ≤ sizeLine; decide), fun l0 hl0 => ?_⟩
        have s2 : Same H1 (upd (upd H1 l (.lst (xs.map V.int))) l0 (.lst [.int 0])) := (Same.up hl).trans (Same.up hl0)
        have hL2 : upd (upd H1 l (.lst (xs.map V.int))) l0 (.lst [.int 0]) l = some (.lst (xs.map V.int)) := by
          rw [upd_ne (ne_of_none upd_same hl0), upd_same]
        have h02 : upd (upd H1 l (.lst (xs.map V.int))) l0 (.lst [.int 0]) l0 = some (.lst (([0] : List Int).map V.int)) := upd_same
        have nq0 : l0 ≠ q := fun z => by
          have := (Same.up (o := .lst (xs.map V.int)) hl) _ _ L.lst
          rw [z] at hl0
          rw [hl0] at this
          cases this
        generalize upd (upd H1 l (.lst (xs.map V.int))) l0 (.lst [.int 0]) = H2 at s2 hL2 h02 ⊢
        have sp2 := L.sp.same s2
        have q2 := s2 _ _ L.lst
        have sH2 := L.same.trans s2
        have mu : ∀ (w1 w2 w4 w5 w6 w7 w8 : Option V), atOf ns.length [some (.ref a), w1, w2, some (V.int ((j + 1 + n : Nat) : Int)), w4, w5, w6, w7, w8] < atOf ns.length [some (.ref a), some sv, some (.ref q), some (V.int ((j : Nat) : Int)), v4, v5, v6, v7, v8] := by
          intro w1 w2 w4 w5 w6 w7 w8
          show ((ns.length : Int) - ((j + 1 + n : Nat) : Int)).toNat < ((ns.length : Int) - ((j : Nat) : Int)).toNat
          omega
        refine ⟨_, rfl, rfl, _, rfl, ite2 (fun c1 => ?_) (fun c1 => ?_)⟩
        · have hi : i = 0 := by
            have z := of_decide_eq_true c1
            injection z with z
            omega
          subst hi
          have hn7 : n = 7 := by
            injection hw with hw
            exact hw.symm
          subst hn7
          obtain ⟨x0, x1, x2, x3, x4, x5, x6, rfl⟩ := len7 hxl
          have tn : ∀ x ∈ [x0, x1, x2, x3, x4, x5, x6], V.int x = V.int ((x.toNat : Nat) : Int) := fun x hx => by rw [Int.toNat_of_nonneg (hxn x hx)]
          have hL3 : H2 l = some (.lst [.int ((x0.toNat : Nat) : Int), .int ((x1.toNat : Nat) : Int), .int ((x2.toNat : Nat) : Int), .int ((x3.toNat : Nat) : Int), .int ((x4.toNat : Nat) : Int), .int ((x5.toNat : Nat) : Int), .int ((x6.toNat : Nat) : Int)]) := by
            rw [hL2, ← tn x0 (by simp), ← tn x1 (by simp), ← tn x2 (by simp), ← tn x3 (by simp), ← tn x4 (by simp), ← tn x5 (by simp), ← tn x6 (by simp)]
            rfl
          refine ⟨_, rfl, l, _, _, _, _, _, _, _, rfl, hL3, fun hb H3 s3 => ?_, fun hb H3 p' dx tl sl s3 R3 => ?_⟩
          · refine ⟨_, rfl, rfl, _, rfl, ite2 (fun _ => ?_) (fun c2 => absurd (decide_eq_true rfl) c2)⟩
            refine ⟨(by show 1 ≤ sizeLine; decide), fun l1 hl1 => ?_⟩
            have s4 := s3.trans (Same.up (o := .lst [.int (-22)]) hl1)
            exact tail_ok (st := st) (k := j) (f := g' + 1) hbn hcl (key st [-22] (step_bad st hb)) hll (by decide) (s4 _ _ q2) (sH2.trans s4) L.new (sp2.same s4) (l := l1) (ans := [-22]) upd_same (fun z => by
              have := s3 _ _ q2
              rw [← z, hl1] at this
              cases this) fun H' res' L' => ⟨⟨st, sv, j + 1 + 7, g', cs', res', _, _, _, _, _, rfl, L'⟩, mu _ _ _ _ _ _ _⟩
          · refine ⟨_, rfl, rfl, _, rfl, ite2 (fun c2 => ?_) (fun c2 => ?_)⟩
            · exact absurd (of_decide_eq_true c2) (by intro z; cases z)
            refine ⟨_, rfl, ?_⟩
            exact tail_ok (st := st) (k := j) (f := g' + 1) hbn hcl (key _ [0] (step_new st hb)) hll (by decide) (s3 _ _ q2) (sH2.trans s3) L.new (sv := .ref p') ⟨p', dx, tl, sl, [], rfl, R3.base fun b hb1 hb2 => (by
              have hH : H b = none := (sH2).free hb1
              rw [upd_ne (fun z => by rw [z, q2] at hb1; cases hb1)]
              exact hH)⟩ (l := l0) (ans := [0]) (s3 _ _ h02) nq0 fun H' res' L' => ⟨⟨_, .ref p', j + 1 + 7, g', cs', res', _, _, _, _, _, rfl, L'⟩, mu _ _ _ _ _ _ _⟩
        · have hi : i ≠ 0 := fun z => c1 (decide_eq_true (by rw [z]; rfl))
          cases st with
          | none =>
            have hsv : sv = .non := L.sp
            subst hsv
            refine ⟨_, rfl, rfl, _, rfl, ite2 (fun _ => ?_) (fun c2 => absurd (decide_eq_true rfl) c2)⟩
            refine ⟨(by show 1 ≤ sizeLine; decide), fun l1 hl1 => ?_⟩
            have s4 := Same.up (o := .lst [.int (-11)]) hl1
            exact tail_ok (st := none) (k := j) (f := g' + 1) hbn hcl (key none [-11] (step_none hw hxl hi)) hll (by decide) (s4 _ _ q2) (sH2.trans s4) L.new (sv := .non) rfl (l := l1) (ans := [-11]) upd_same (fun z => by
              rw [← z, hl1] at q2
              cases q2) fun H' res' L' => ⟨⟨none, .non, j + 1 + n, g', cs', res', _, _, _, _, _, rfl, L'⟩, mu _ _ _ _ _ _ _⟩
          | some b =>
            obtain ⟨p, dx, tl, sl, rs, rfl, R⟩ := sp2
            obtain ⟨cc, hcc⟩ := callOf_some hw hxl
            have R0 : RepX CT CS (upd H q (.lst (res.map V.int))) H2 p b dx tl sl rs := R.base fun b hb1 _ => by
              by_cases z : b = q
              · subst z; rw [upd_same] at hb1; cases hb1
              · rw [upd_ne z] at hb1 ⊢; exact hb1
            have s0 : Same (upd H q (.lst (res.map V.int))) H2 := fun b o hb => by
              by_cases z : b = q
              · subst z; rw [upd_same] at hb; rw [← hb]; exact q2
              · rw [upd_ne z] at hb; exact sH2 b o hb
            have fin : ∀ (H3 : Hp) (l3 dx' tl' sl' : Addr) (rs' : List Addr), RepX CT CS (upd H q (.lst (res.map V.int))) H3 p (Su74.does b cc).1 dx' tl' sl' rs' → Same (upd H q (.lst (res.map V.int))) H3 → upd H q (.lst (res.map V.int)) l3 = none → H3 l3 = some (.lst (ansV (Su74.does b cc).2)) →
                H3 q = some (.lst (res.map V.int)) ∧ Same H H3 ∧ SpR CT CS (upd H q (.lst [])) H3 (some (Su74.does b cc).1) (.ref p) ∧ H3 l3 = some (.lst ((outI (Su74.does b cc).2).map V.int)) ∧ l3 ≠ q := by
              intro H3 l3 dx' tl' sl' rs' R3 s3 n3 h3
              refine ⟨s3 _ _ upd_same, (Same.up L.new).trans s3, ⟨p, dx', tl', sl', rs', rfl, R3.base fun b hb1 _ => ?_⟩, by rw [← ansV_int]; exact h3, fun z => by rw [z, upd_same] at n3; cases n3⟩
              by_cases z : b = q
              · subst z; rw [upd_same] at hb1; cases hb1
              · rw [upd_ne z] at hb1 ⊢; exact hb1
            have hal : (outI (Su74.does b cc).2).length ≤ 301 := by
              have := does_len R.wf cc
              unfold outI
              rw [List.length_cons, List.length_map]
              omega
            refine ⟨_, rfl, rfl, _, rfl, ite2 (fun c2 => absurd (of_decide_eq_true c2) (by intro z; cases z)) (fun _ => ?_)⟩
            have h5 := width_lt hw
            refine ⟨_, rfl, _, rfl, _, rfl, i, n, l, xs, cc, by omega, by omega, hw, hxl, hxn, hL2, hcc, _, p, b, dx, tl, sl, rs, rfl, R0, s0, fun H3 l3 dx' tl' sl' rs' R3 s3 n3 h3 => ?_⟩
            obtain ⟨f1, f2, f3, f4, f5⟩ := fin H3 l3 dx' tl' sl' rs' R3 s3 n3 h3
            exact tail_ok (st := some b) (k := j) (f := g' + 1) hbn hcl (key _ _ (step_some hcc)) hll hal f1 f2 L.new f3 f4 f5 fun H' res' L' => ⟨⟨_, .ref p, j + 1 + n, g', cs', res', _, _, _, _, _, rfl, L'⟩, mu _ _ _ _ _ _ _⟩
      · have c' : ns.length ≤ j := by
          rcases Nat.lt_or_ge j ns.length with z | z
          · exfalso
            apply c
            refine decide_eq_true ?_
            rw [List.length_map]
            omega
          · exact z
        have e1 : ns.drop j = [] := List.drop_eq_nil_of_le c'
        have cl := L.cl
        rw [e1] at cl
        have e2 := calls_nil cl
        have e3 := L.eq
        rw [e2, due_nil, List.append_nil] at e3
        refine ⟨_, rfl, ?_⟩
        exact kk H1 q (by rw [← e3]; exact L.lst)
    · rintro σ H1 Q1 Q2 hm ⟨v, e, v2, e2, p, ys, e3, h3, i, z, e4, e5, b, e6, hh⟩
      exact ⟨v, e, v2, e2, p, ys, e3, h3, i, z, e4, e5, b, e6, hm _ _ hh⟩
end
end Sp

set_option Elab.async false
set_option linter.all false
set_option maxRecDepth 100000
set_option maxHeartbeats 2000000
namespace SpZ
open PySem PySem.Spec PyProof.Rows L2
/-! zip of a list and a tuple: the library's own rules speak of two lists -/
section
variable {prog : Program} {w : World} {A : Around} {E : Value → Shared → Prop} {s : Shared}
theorem nextT {tr t : Addr} {n : Nat} {its : Array Value} {x : Value} {Q : Value → Shared → Prop} (I : s.heap.IsTupleIter tr t n) (J : s.heap.IsTuple t its) (e : its[n]? = some x)
    (k : ∀ g, g.IsTupleIter tr t (n + 1) → Heap.SameBut tr s.heap g → Q x { s with heap := g }) : wpAny (model prog w) A (Builtin.SmallTypes.nextOf (.ref tr)) Q E s := by
  obtain ⟨u, u1, u2, u3⟩ := id I
  obtain ⟨v, v1, _, m, v2⟩ := J
  unfold Builtin.SmallTypes.nextOf
  refine wpAny_bind (wpAny_callSpecial?_slot (name := Str.ofString "__next__") I.typeIs PySem.F.slot_tuple_iterator_next (wpAny_call_entry PySem.F.slot_tuple_iterator_next I.typeIs PySem.F.entry_tuple_iterator_next ?_ (PySem.F.args_tuple_iterator_next_1 _)))
  show wpAny _ _ (field (.ref tr) 0 >>= _) _ _ s
  refine wpAny_bind (wpAny_field u1 u3 (x := .ref t) rfl ?_)
  show wpAny _ _ (ite ((Value.ref t == Value.none) = true) _ _) _ _ s
  rw [if_neg (by exact Bool.false_ne_true)]
  show wpAny _ _ (field (.ref tr) 1 >>= _) _ _ s
  refine wpAny_bind (wpAny_field u1 u3 (x := .int n 0) rfl ?_)
  refine wpAny_bind (wpAny_seqItems v1 v2 ?_)
  simp only [Int.toNat_natCast, e]
  refine wpAny_bind (wpAny_setField u1 u3 (by simp) (wpAny_pure ⟨x, rfl, wpAny_pure (k _ ⟨_, Heap.get?_update_self _ u1 (Obj.isFreed_of_fields (Obj.data_mapFields u3 _)), (Obj.cls_mapFields ..).trans u2, ?_⟩ (Heap.SameBut.update ..))⟩))
  rw [Obj.data_mapFields u3]
  simp [rawInt]
theorem zipT_item {z ti to_ r1 r2 l t : Addr} {n1 n2 : Nat} {xs ys : Array Value} {x y a b : Value} {Q : Value → Shared → Prop} (D : ZipApart z ti to_ r1 r2 l t)
    (Z : IsZip s.heap z ti to_ .none) (TI : IsPair s.heap ti (.ref r1) (.ref r2)) (TO : IsPair s.heap to_ a b) (I1 : s.heap.IsListIter r1 l n1) (I2 : s.heap.IsTupleIter r2 t n2) (L : s.heap.IsList l xs) (T : s.heap.IsTuple t ys) (ex : xs[n1]? = some x) (ey : ys[n2]? = some y)
    (k : ∀ g, IsZip g z ti to_ (rawInt s.heap.objs.size) → IsPair g to_ x y → g.IsListIter r1 l (n1 + 1) → g.IsTupleIter r2 t (n2 + 1) → IsPair g s.heap.objs.size x y → g.objs.size = s.heap.objs.size + 1 →
      (∀ c o, c ≠ z → c ≠ to_ → c ≠ r1 → c ≠ r2 → s.heap.get? c = some o → g.get? c = some o) → Q (.ref s.heap.objs.size) { s with heap := g }) :
    wpAny (model prog w) A (Builtin.«zip.__next__» ⟨[.ref z], []⟩) (fun fin s' => ∃ v, fin = .done (.ret v) ∧ Q v s') E s := by
  show wpAny _ _ (field (.ref z) 2 >>= _) _ _ s
  refine wpAny_bind (wpAny_field Z rfl (x := .bool false) rfl ?_)
  show wpAny _ _ (field (.ref z) 3 >>= _) _ _ s
  refine wpAny_bind (wpAny_field Z rfl (x := .ref ti) rfl (wpAny_bind (wpAny_seqItems TI rfl ?_)))
  show wpAny _ _ (Builtin.SmallTypes.ownedTupleIsFree (.ref z) >>= _) _ _ s
  refine wpAny_bind ?_
  unfold Builtin.SmallTypes.ownedTupleIsFree
  refine wpAny_bind (wpAny_field Z rfl (x := .none) rfl (wpAny_pure ?_))
  simp only [if_true]
  refine wpAny_bind (wpAny_rule (wpAny_bind (wpAny_field Z rfl (x := .ref to_) rfl (wpAny_bind (wpAny_setField_rec Z (by simp) fun ha Za ka => ?_)))))
  replace Za : IsZip ha z ti to_ .ellipsis := Za
  refine wpAny_bind ?_
  simp only [List.zipIdx_cons, List.zipIdx_nil, List.forIn_cons, List.forIn_nil]
  refine wpAny_bind (wpAny_bind (wpAny_onRaise ?_))
  show wpAny _ _ (Builtin.SmallTypes.nextOf (.ref r1) >>= _) _ _ _
  refine wpAny_bind (wpAny_nextOf_list_item (I1.extBut ka.extBut D.i1z) (L.extBut ka.extBut D.l1z) ex fun hb Ib kb => wpAny_pure ?_)
  have Tb : IsPair hb to_ a b := kb.extBut _ _ D.TOi1 (ka.extBut _ _ D.TOz TO)
  refine wpAny_bind (wpAny_seqItems Tb rfl (wpAny_bind (wpAny_updateSeq_pair Tb fun hc Tc kc => ?_)))
  replace Tc : IsPair hc to_ x b := Tc
  refine wpAny_bind (wpAny_letGo (wpAny_pure (wpAny_bind (wpAny_bind (wpAny_onRaise ?_)))))
  show wpAny _ _ (Builtin.SmallTypes.nextOf (.ref r2) >>= _) _ _ _
  refine wpAny_bind (nextT (((I2.extBut ka.extBut D.i2z).extBut kb.extBut D.i12.symm).extBut kc.extBut D.TOi2.symm) (((T.extBut ka.extBut D.l2z).extBut kb.extBut D.l2i1).extBut kc.extBut D.l2TO) ey fun hd Id kd => wpAny_pure ?_)
  have Td : IsPair hd to_ x b := kd.extBut _ _ D.TOi2 Tc
  refine wpAny_bind (wpAny_seqItems Td rfl (wpAny_bind (wpAny_updateSeq_pair Td fun he Te ke => ?_)))
  replace Te : IsPair he to_ x y := Te
  refine wpAny_bind (wpAny_letGo (wpAny_pure (wpAny_pure (wpAny_bind (wpAny_seqItems Te rfl (wpAny_bind (wpAny_newTuple ?_)))))))
  have sz : he.objs.size = s.heap.objs.size := by rw [ke.1, kd.1, kc.1, kb.1, ka.1]
  have Ze : IsZip he z ti to_ .ellipsis := ke.extBut _ _ D.TOz.symm (kd.extBut _ _ D.i2z.symm (kc.extBut _ _ D.TOz.symm (kb.extBut _ _ D.i1z.symm Za)))
  have kp : ∀ c o, c ≠ z → c ≠ to_ → c ≠ r1 → c ≠ r2 → s.heap.get? c = some o → he.get? c = some o := fun c o n1 n2 n3 n4 q =>
    ke.extBut _ _ n2 (kd.extBut _ _ n4 (kc.extBut _ _ n2 (kb.extBut _ _ n3 (ka.extBut _ _ n1 q))))
  have Ie : he.IsListIter r1 l (n1 + 1) := ((Ib.extBut kc.extBut D.TOi1.symm).extBut kd.extBut D.i12).extBut ke.extBut D.TOi1.symm
  have Je : he.IsTupleIter r2 t (n2 + 1) := Id.extBut ke.extBut D.TOi2.symm
  have zlt : z < he.objs.size := Heap.lt_size Ze
  show wpAny _ _ (Builtin.SmallTypes.ownedTupleHandOut (.ref z) (.ref he.objs.size) >>= _) _ _ _
  refine wpAny_bind ?_
  unfold Builtin.SmallTypes.ownedTupleHandOut
  have Zf : IsZip (he.push { cls := .type "tuple", data := .seq #[x, y] }) z ti to_ .ellipsis := Heap.get?_push_of_some _ Ze
  refine wpAny_bind (wpAny_setField_rec Zf (by simp) fun hg Zg kg => ?_)
  replace Zg : IsZip hg z ti to_ (rawInt he.objs.size) := Zg
  refine wpAny_setField_rec Zg (by simp) fun hi Zi ki => ?_
  replace Zi : IsZip hi z ti to_ (rawInt he.objs.size) := Zi
  have up : ∀ c o, c ≠ z → he.get? c = some o → hi.get? c = some o := fun c o n q => ki.extBut _ _ n (kg.extBut _ _ n (Heap.get?_push_of_some _ q))
  have Ti : IsPair hi he.objs.size x y := ki.extBut _ _ (Nat.ne_of_gt zlt) (kg.extBut _ _ (Nat.ne_of_gt zlt) (Heap.get?_push_size _ rfl))
  have si : hi.objs.size = he.objs.size + 1 := by rw [ki.1, kg.1, Heap.size_push]
  rw [sz] at Zi Ti si
  refine wpAny_pure ⟨_, rfl, ?_⟩
  show Q (.ref he.objs.size) _
  rw [sz]
  exact k hi Zi (up _ _ D.TOz Te) (Ie.at fun o q => up _ o D.i1z q) (Je.at fun o q => up _ o D.i2z q) Ti si fun c o n1 n2 n3 n4 q => up c o n1 (kp c o n1 n2 n3 n4 q)
/-- the list has come to its end -/
theorem zipT_end {z ti to_ r1 r2 l t : Addr} {n1 : Nat} {xs : Array Value} {a b : Value} {Q : Fin → Shared → Prop} (hh : A.handled = none) (D : ZipApart z ti to_ r1 r2 l t)
    (Z : IsZip s.heap z ti to_ .none) (TI : IsPair s.heap ti (.ref r1) (.ref r2)) (TO : IsPair s.heap to_ a b) (I1 : s.heap.IsListIter r1 l n1) (L : s.heap.IsList l xs) (ex : xs[n1]? = none)
    (k : ∀ g e, (∀ c o, c ≠ z → c ≠ to_ → c ≠ r1 → c ≠ r2 → s.heap.get? c = some o → g.get? c = some o) → (∃ o, g.get? e = some o ∧ o.cls = .type "StopIteration") → E (.ref e) { s with heap := g }) :
    wpAny (model prog w) A (Builtin.«zip.__next__» ⟨[.ref z], []⟩) Q E s := by
  show wpAny _ _ (field (.ref z) 2 >>= _) _ _ s
  refine wpAny_bind (wpAny_field Z rfl (x := .bool false) rfl ?_)
  show wpAny _ _ (field (.ref z) 3 >>= _) _ _ s
  refine wpAny_bind (wpAny_field Z rfl (x := .ref ti) rfl (wpAny_bind (wpAny_seqItems TI rfl ?_)))
  show wpAny _ _ (Builtin.SmallTypes.ownedTupleIsFree (.ref z) >>= _) _ _ s
  refine wpAny_bind ?_
  unfold Builtin.SmallTypes.ownedTupleIsFree
  refine wpAny_bind (wpAny_field Z rfl (x := .none) rfl (wpAny_pure ?_))
  simp only [if_true]
  refine wpAny_bind (wpAny_rule (wpAny_bind (wpAny_field Z rfl (x := .ref to_) rfl (wpAny_bind (wpAny_setField_rec Z (by simp) fun ha Za ka => ?_)))))
  replace Za : IsZip ha z ti to_ .ellipsis := Za
  refine wpAny_bind ?_
  simp only [List.zipIdx_cons, List.zipIdx_nil, List.forIn_cons, List.forIn_nil]
  refine wpAny_bind (wpAny_bind (wpAny_onRaise ?_))
  show wpAny _ _ (Builtin.SmallTypes.nextOf (.ref r1) >>= _) _ _ _
  refine wpAny_bind (wpAny_nextOf_list_end hh (I1.extBut ka.extBut D.i1z) (L.extBut ka.extBut D.l1z) ex fun hb e kb he => ?_)
  obtain ⟨oe, h1, h2⟩ := he
  have Zb : IsZip hb z ti to_ .ellipsis := kb _ _ D.i1z.symm Za
  have nz : e ≠ z := fun q => by subst q; rw [Zb] at h1; cases h1; simp at h2
  exact wpAny_setField_rec Zb (by simp) fun hc _ kc => k hc e (fun c o n1 _ n3 _ q => kc.extBut _ _ n1 (kb _ _ n3 (ka.extBut _ _ n1 q))) ⟨oe, kc.extBut _ _ nz h1, h2⟩
theorem nextZ_item {z ti to_ r1 r2 l t : Addr} {n1 n2 : Nat} {xs ys : Array Value} {x y a b : Value} {Q : Option Value → Shared → Prop} (D : ZipApart z ti to_ r1 r2 l t)
    (Z : IsZip s.heap z ti to_ .none) (TI : IsPair s.heap ti (.ref r1) (.ref r2)) (TO : IsPair s.heap to_ a b) (I1 : s.heap.IsListIter r1 l n1) (I2 : s.heap.IsTupleIter r2 t n2) (L : s.heap.IsList l xs) (T : s.heap.IsTuple t ys) (ex : xs[n1]? = some x) (ey : ys[n2]? = some y)
    (k : ∀ g, IsZip g z ti to_ (rawInt s.heap.objs.size) → IsPair g to_ x y → g.IsListIter r1 l (n1 + 1) → g.IsTupleIter r2 t (n2 + 1) → IsPair g s.heap.objs.size x y → g.objs.size = s.heap.objs.size + 1 →
      (∀ c o, c ≠ z → c ≠ to_ → c ≠ r1 → c ≠ r2 → s.heap.get? c = some o → g.get? c = some o) → Q (some (.ref s.heap.objs.size)) { s with heap := g }) :
    wpAny (model prog w) A (pyNext (.ref z)) Q E s := by
  have hT : s.TypeIs (.ref z) "zip" := ⟨_, Z, rfl⟩
  unfold pyNext
  refine wpAny_bind (wpAny_attempt (wpAny_callSpecial?_slot (name := Str.ofString "__next__") hT PySem.F.slot_zip_next (wpAny_call_entry PySem.F.slot_zip_next hT PySem.F.entry_zip_next ?_ (PySem.F.args_zip_next_1 _))))
  exact zipT_item D Z TI TO I1 I2 L T ex ey fun g b1 b2 b3 b4 b5 b6 b7 => wpAny_pure (k g b1 b2 b3 b4 b5 b6 b7)
theorem nextZ_end {z ti to_ r1 r2 l t : Addr} {n1 : Nat} {xs : Array Value} {a b : Value} {Q : Option Value → Shared → Prop} (hh : A.handled = none) (D : ZipApart z ti to_ r1 r2 l t)
    (Z : IsZip s.heap z ti to_ .none) (TI : IsPair s.heap ti (.ref r1) (.ref r2)) (TO : IsPair s.heap to_ a b) (I1 : s.heap.IsListIter r1 l n1) (L : s.heap.IsList l xs) (ex : xs[n1]? = none)
    (k : ∀ g, (∀ c o, c ≠ z → c ≠ to_ → c ≠ r1 → c ≠ r2 → s.heap.get? c = some o → g.get? c = some o) → Q none { s with heap := g }) : wpAny (model prog w) A (pyNext (.ref z)) Q E s := by
  have hT : s.TypeIs (.ref z) "zip" := ⟨_, Z, rfl⟩
  unfold pyNext
  refine wpAny_bind (wpAny_attempt (wpAny_callSpecial?_slot (name := Str.ofString "__next__") hT PySem.F.slot_zip_next (wpAny_call_entry PySem.F.slot_zip_next hT PySem.F.entry_zip_next ?_ (PySem.F.args_zip_next_1 _))))
  refine zipT_end hh D Z TI TO I1 L ex fun g e hk ⟨o, ho, hc⟩ => ?_
  exact wpAny_bind (wpAny_isInstance (T := "StopIteration") (b := true) ⟨o, ho, hc⟩ isSubtype_stop (wpAny_pure (k _ hk)))
end
abbrev zh1 (h : Heap) (l : Addr) : Heap := h.push { cls := .type "list_iterator", data := .fields #[.ref l, .int 0 0] }
abbrev zh2 (h : Heap) (l t : Addr) : Heap := (zh1 h l).push { cls := .type "tuple_iterator", data := .fields #[.ref t, .int 0 0] }
abbrev zh3 (h : Heap) (l t : Addr) : Heap := (zh2 h l t).push { cls := .type "tuple", data := .seq #[.ref h.objs.size, .ref (zh1 h l).objs.size] }
abbrev zh4 (h : Heap) (l t : Addr) : Heap := (zh3 h l t).push { cls := .type "tuple", data := .seq #[.none, .none] }
abbrev zh5 (h : Heap) (l t : Addr) : Heap := (zh4 h l t).push { cls := .type "zip", data := .fields #[.none, .bool false, .bool false, .ref (zh2 h l t).objs.size, .ref (zh3 h l t).objs.size] }
theorem meetsZ (l t : Addr) (xs ys : Array Value) :
    Meets (Builtin.«zip.__new__» ⟨[.type "zip", .ref l, .ref t], []⟩) (fun _ R s => s.heap.IsList l xs ∧ s.heap.IsTuple t ys ∧ R (.ok (.ret (.ref (zh4 s.heap l t).objs.size))) { s with heap := zh5 s.heap l t }) :=
  .of_wp fun prog w A R s h => by
    obtain ⟨hp, g, d, tk, os⟩ := s
    obtain ⟨h1, h2, h3⟩ := h
    have hsub := sub_zip
    have L : Heap.IsList (Shared.heap ⟨hp, g, d, tk, os⟩) l xs := h1
    have T : Heap.IsTuple (Shared.heap ⟨hp.push { cls := .type "list_iterator", data := .fields #[.ref l, .int 0 0] }, g, d, tk, os⟩) t ys := Heap.IsTuple.push h2 _
    wp_walk using wpAny_pyIter_list L, wpAny_pyIter_tuple T
    exact ⟨_, rfl, h3⟩
end SpZ

set_option Elab.async false
set_option linter.all false
set_option maxRecDepth 100000
set_option maxHeartbeats 2000000
namespace SpZ
open PySem PySem.Spec PyProof.Rows L2
section
variable {prog : Program} {w : World} {A : Around} {E : Value → Shared → Prop} {s : Shared}
theorem callZ {l t : Addr} {xs ys : Array Value} {Q : Value → Shared → Prop} (L : s.heap.IsList l xs) (T : s.heap.IsTuple t ys)
    (k : ∀ g, IsZip g (s.heap.objs.size + 4) (s.heap.objs.size + 2) (s.heap.objs.size + 3) .none → IsPair g (s.heap.objs.size + 2) (.ref s.heap.objs.size) (.ref (s.heap.objs.size + 1)) → IsPair g (s.heap.objs.size + 3) .none .none → g.IsListIter s.heap.objs.size l 0 →
      g.IsTupleIter (s.heap.objs.size + 1) t 0 → (∀ c o, s.heap.get? c = some o → g.get? c = some o) → Q (.ref (s.heap.objs.size + 4)) { s with heap := g }) :
    wpAny (model prog w) A (call (.type "zip") [.ref l, .ref t]) Q E s := by
  refine callType_new PySem.F.called_zip (by decide) (PySem.F.typeCall_zip_2 _ _) (PySem.F.newCall_zip_2 _ _) (fun ob => PySem.F.args_object_init_3 ob _ _) PySem.F.entry_zip_new (meetsZ l t xs ys) ⟨L, T, ?_⟩
  have y1 : (zh1 s.heap l).objs.size = s.heap.objs.size + 1 := Heap.size_push ..
  have y2 : (zh2 s.heap l t).objs.size = s.heap.objs.size + 2 := by rw [Heap.size_push, y1]
  have y3 : (zh3 s.heap l t).objs.size = s.heap.objs.size + 3 := by rw [Heap.size_push, y2]
  have y4 : (zh4 s.heap l t).objs.size = s.heap.objs.size + 4 := by rw [Heap.size_push, y3]
  have f5 : (zh5 s.heap l t).get? (zh4 s.heap l t).objs.size = some _ := Heap.get?_push_size _ rfl
  have f4 : (zh5 s.heap l t).get? (zh3 s.heap l t).objs.size = some _ := Heap.get?_push_of_some _ (Heap.get?_push_size _ rfl)
  have f3 : (zh5 s.heap l t).get? (zh2 s.heap l t).objs.size = some _ := Heap.get?_push_of_some _ (Heap.get?_push_of_some _ (Heap.get?_push_size _ rfl))
  have f2 : (zh5 s.heap l t).get? (zh1 s.heap l).objs.size = some _ := Heap.get?_push_of_some _ (Heap.get?_push_of_some _ (Heap.get?_push_of_some _ (Heap.get?_push_size _ rfl)))
  have f1 : (zh5 s.heap l t).get? s.heap.objs.size = some _ := Heap.get?_push_of_some _ (Heap.get?_push_of_some _ (Heap.get?_push_of_some _ (Heap.get?_push_of_some _ (Heap.get?_push_size _ rfl))))
  show _ ∧ _
  rw [y2, y3, y4] at f5
  rw [y1, y2] at f3
  rw [y3] at f4
  rw [y1] at f2
  rw [y4]
  refine ⟨⟨_, f5, rfl⟩, k _ f5 f3 f4 ⟨_, f1, rfl, rfl⟩ ⟨_, f2, rfl, rfl⟩ fun c o q => ?_⟩
  exact Heap.get?_push_of_some _ (Heap.get?_push_of_some _ (Heap.get?_push_of_some _ (Heap.get?_push_of_some _ (Heap.get?_push_of_some _ q))))
end
/-- pairs of a list's and a tuple's items, the list no longer than the tuple -/
def ItzT (K : PySem.W.Frag) (a b : Addr) : It :=
  ⟨fun i H => ∃ (xs ys : List V) (x y : V), SqL K H a xs ∧ SqT K H b ys ∧ xs[i]? = some x ∧ ys[i]? = some y,
    fun i H v H' => ∃ T x y, v = .ref T ∧ H T = none ∧ H' = upd H T (.tup [x, y]) ∧ (∀ xs, SqL K H a xs → xs[i]? = some x) ∧ ∀ ys, SqT K H b ys → ys[i]? = some y,
    fun i H => ∃ xs : List V, SqL K H a xs ∧ xs.length ≤ i⟩
theorem five {z ti to_ r1 r2 c : Addr} (h : c ∈ [z, ti, to_, r1, r2]) : c = z ∨ c = ti ∨ c = to_ ∨ c = r1 ∨ c = r2 := by simpa using h
theorem turnZ {P : Program} {w : World} {K : PySem.W.Frag} {elts : List Expr} {kk : Nat} {tpos : Pos} {a b z ti to_ r1 r2 : Addr} (D : ZipApart z ti to_ r1 r2 a b) :
    Turn P w K (.Tuple elts kk tpos) (ItzT K a b) [z, ti, to_, r1, r2] z (fun i h => IsZip h z ti to_ .none ∧ IsPair h ti (.ref r1) (.ref r2) ∧ (∃ x y, IsPair h to_ x y) ∧ h.IsListIter r1 a i ∧ h.IsTupleIter r2 b i) where
  mem := by simp
  obj := fun i h ⟨e1, e2, ⟨x, y, e3⟩, ⟨o1, f1, _, d1⟩, ⟨o2, f2, _, d2⟩⟩ c hc => by
    rcases five hc with q | q | q | q | q <;> rw [q]
    · exact ⟨_, e1, fun v q => nomatch q⟩
    · exact ⟨_, e2, fun v q => nomatch q⟩
    · exact ⟨_, e3, fun v q => nomatch q⟩
    · exact ⟨o1, f1, fun v q => by rw [d1] at q; cases q⟩
    · exact ⟨o2, f2, fun v q => by rw [d2] at q; cases q⟩
  keep := fun i h h' ⟨e1, e2, ⟨x, y, e3⟩, i1, i2⟩ k => ⟨k z (by simp) _ e1, k ti (by simp) _ e2, ⟨x, y, k to_ (by simp) _ e3⟩, i1.at fun o q => k r1 (by simp) o q, i2.at fun o q => k r2 (by simp) o q⟩
  item := by
    intro X hP hw hK hc i pins s σ H E I hf ⟨e1, e2, ⟨x0, y0, e3⟩, i1, i2⟩ ⟨xs, ys, x, y, hqx, hqy, hx, hy⟩
    subst hP hw hK
    obtain ⟨us, rv, p, _⟩ := I.list hqx
    obtain ⟨vs, rv2, p2, _⟩ := I.tuple hqy
    obtain ⟨u, hu, ru⟩ := rv.get hx
    obtain ⟨v, hv, rv'⟩ := rv2.get hy
    have zl : z < s.heap.objs.size := Heap.lt_size e1
    refine nextZ_item D e1 e2 e3 i1 i2 p.isList (show s.heap.IsTuple b vs.toArray from p2) (x := u) (y := v) (by simpa using hu) (by simpa using hv) fun g a1 a2 a3 a4 a5 a6 a7 => ?_
    refine ⟨_, rfl, wpAny_letOwnedTupleGo_zip (s := { s with heap := g }) a1 fun g' b1 sb => ?_⟩
    have hT : g'.get? s.heap.objs.size = some { cls := .type "tuple", data := .seq #[u, v] } := (sb.2 _ (Nat.ne_of_gt zl)).trans a5
    have new : ObjOk X.prog X.w (upd H s.heap.objs.size (.tup [x, y])) g' s.heap.objs.size (.tup [x, y]) := ⟨by show 2 ≤ sizeLine; decide, [u, v], .cons ru (.cons rv' .nil), ⟨_, hT, rfl, _, rfl⟩⟩
    have kp : ∀ c o, c ∉ [z, ti, to_, r1, r2] → s.heap.get? c = some o → g'.get? c = some o := fun c o hb q => (sb.2 c (fun z' => hb (by simp [z']))).trans (a7 c o (fun z' => hb (by simp [z'])) (fun z' => hb (by simp [z'])) (fun z' => hb (by simp [z'])) (fun z' => hb (by simp [z'])) q)
    have I1 : Inv X pins σ (upd H s.heap.objs.size (.tup [x, y])) { s with heap := g' } := I.turnedNew (t' := s.toks) (ch := [z, ti, to_, r1, r2]) kp hf (Nat.le_refl _) new
    refine ⟨.ref s.heap.objs.size, _, I1, rfl, ⟨_, x, y, rfl, I.hok.fresh (Nat.le_refl _), rfl, fun l hl => by rw [I.list_inj hl hqx]; exact hx, fun l hl => by rw [I.tuple_inj hl hqy]; exact hy⟩, ⟨b1, ?_, ⟨u, v, ?_⟩, ?_, ?_⟩, fun c hm => ?_⟩
    · exact (sb.2 _ D.TIz).trans (a7 _ _ D.TIz D.TITO D.TIi1 D.TIi2 e2)
    · exact (sb.2 _ D.TOz).trans a2
    · exact a3.at fun o q => (sb.2 _ D.i1z).trans q
    · exact a4.at fun o q => (sb.2 _ D.i2z).trans q
    · have lt : c < s.heap.objs.size := by
        obtain ⟨_, j1, _⟩ := i1
        obtain ⟨_, j2, _⟩ := i2
        rcases five hm with q | q | q | q | q <;> rw [q]
        · exact zl
        · exact Heap.lt_size e2
        · exact Heap.lt_size e3
        · exact Heap.lt_size j1
        · exact Heap.lt_size j2
      rw [upd_ne (Nat.ne_of_lt lt)]
      exact (hf c hm).1
  done := by
    intro X hP hw hK hc i pins s σ H E I hf ⟨e1, e2, ⟨x0, y0, e3⟩, i1, i2⟩ ⟨xs, hqx, hend⟩
    subst hP hw hK
    obtain ⟨us, rv, p, _⟩ := I.list hqx
    have l1 := rv.length
    exact nextZ_end (I.ok.hd hc) D e1 e2 e3 i1 p.isList (by simp; omega) fun g hk => ⟨rfl, I.turnedL (t' := s.toks) (ch := [z, ti, to_, r1, r2]) (fun c o hb q => hk c o (fun z' => hb (by simp [z'])) (fun z' => hb (by simp [z'])) (fun z' => hb (by simp [z'])) (fun z' => hb (by simp [z'])) q) hf⟩
  self := fun A i s Q E st h => wpAny_pyIter_zip st.1 h
def iZipT (K : PySem.W.Frag) (ta : TA) : TI := fun σ H R => ta σ H fun vs H1 => ∃ a b xs ys, vs = [.ref a, .ref b] ∧ SqL K H1 a xs ∧ SqT K H1 b ys ∧ R (ItzT K a b) H1
theorem pi_zipT {X : Cx} {e e2 : Expr} {ta : TA} {p pos tpos : Pos} {elts : List Expr} {kk : Nat} (hg : Gl X "zip") (hm : X.mg "zip" = none) (ha : PA X [e, e2] ta)
    (hs : starEach [e, e2] X.env = (false, eval e X.env) :: starEach [e2] X.env := by rfl) (hpl : (backTo pos (starEach [e2] X.env)).any (·.1) = false := by rfl) :
    PI X (.Tuple elts kk tpos) (.Call (.Name "zip" p) [e, e2] [] pos) (iZipT X.K ta) := by
  intro pins s σ H R I h
  refine Call_ (ld_blt I hg hm boot_zip5 (PyProof.Rows.callWith_type1 (thn (ha pos pins s σ H _ I h) fun us s1 ⟨vs, H1, I1, r1, q1⟩ => ?_) hs hpl))
  obtain ⟨a, b, xs, ys, rfl, hqx, hqy, q⟩ := q1
  obtain ⟨u, v, rfl, ru, rv⟩ := vals2 r1
  cases ru
  cases rv
  obtain ⟨its, _, p1, _⟩ := I1.list hqx
  obtain ⟨its2, _, p2, _⟩ := I1.tuple hqy
  refine callZ p1.isList (show s1.heap.IsTuple b its2.toArray from p2) fun g e1 e2 e3 e4 e5 e6 => wpAny_pyIter_zip e1 ?_
  refine ⟨s1.heap.objs.size + 4, [s1.heap.objs.size + 4, s1.heap.objs.size + 2, s1.heap.objs.size + 3, s1.heap.objs.size, s1.heap.objs.size + 1], _, _, H1, rfl, I1.kept (t' := s1.toks) e6, turnZ (PySem.W.ktu_apart s1.heap.objs.size a b p1.lt p2.lt), ⟨e1, e2, ⟨_, _, e3⟩, e4, e5⟩, fun c hm => ?_, q⟩
  have le : s1.heap.objs.size ≤ c := by
    rcases five hm with z | z | z | z | z <;> rw [z]
    · exact Nat.le_add_right _ _
    · exact Nat.le_add_right _ _
    · exact Nat.le_add_right _ _
    · exact Nat.le_refl _
    · exact Nat.le_add_right _ _
  exact I1.fpOk le (I1.hok.fresh le)
end SpZ

set_option Elab.async false
set_option linter.all false
set_option maxRecDepth 100000
set_option maxHeartbeats 4000000
namespace Sp
open PySem PySem.Spec PyProof.Rows L2
open Su74 (Abs Tray)
abbrev sBegun : Stmt := top 35
theorem for_zipT {K : PySem.W.Frag} {a b : Addr} {xs ys : List V} {g : TG} {tb : TS} {D : Ends} {σ : L2.St} {H : Hp} (Pv : Nat → L2.St → Hp → Prop) (h0 : Pv 0 σ H) (hl : ∀ i σ H, Pv i σ H → SqL K H a xs ∧ SqT K H b ys) (hxy : xs.length ≤ ys.length)
    (hs : ∀ i x y T σ H, xs[i]? = some x → ys[i]? = some y → Pv i σ H → H T = none → g (.ref T) σ (upd H T (.tup [x, y])) fun σ2 H2 => tb { D with nx := Pv (i + 1), ct := Pv (i + 1), bk := D.nx } σ2 H2) (hd : ∀ σ H, Pv xs.length σ H → D.nx σ H) :
    ∃ W : Nat → Nat → L2.St → Hp → Prop, (∃ m, W 0 m σ H) ∧ ∀ i m σ H, W i m σ H → ((SpZ.ItzT K a b).stop i H ∧ D.nx σ H) ∨ ((SpZ.ItzT K a b).go i H ∧ ∃ N : L2.St → Hp → Prop, (∀ σ' H', N σ' H' → ∃ m', m' < m ∧ W (i + 1) m' σ' H') ∧
      ∀ x H', (SpZ.ItzT K a b).yld i H x H' → g x σ H' fun σ2 H2 => tb { D with nx := N, ct := N, bk := D.nx } σ2 H2) := by
  refine ⟨fun i m σ H => i + m = xs.length ∧ Pv i σ H, ⟨xs.length, Nat.zero_add _, h0⟩, ?_⟩
  rintro i m σ H ⟨hi, p⟩
  obtain ⟨q1, q2⟩ := hl i σ H p
  cases m with
  | zero =>
    have e : i = xs.length := hi
    subst e
    exact .inl ⟨⟨xs, q1, Nat.le_refl _⟩, hd σ H p⟩
  | succ m =>
    have l1 : i < xs.length := by omega
    have l2 : i < ys.length := by omega
    refine .inr ⟨⟨xs, ys, xs[i], ys[i], q1, q2, List.getElem?_eq_getElem l1, List.getElem?_eq_getElem l2⟩, Pv (i + 1), fun σ' H' p' => ⟨m, Nat.lt_succ_self _, by omega, p'⟩, ?_⟩
    rintro v H' ⟨T, x, y, rfl, hT, rfl, ex, ey⟩
    exact hs i x y T σ H (ex xs q1) (ey ys q2) p hT
def ranges : List (Int × Int) := [(1, 12), (1, 60), (1, 600), (0, 50), (0, 200), (1, 500), (1, 500)]
def RangesAt (K : PySem.W.Frag) (mg : Str → Option Value) : Prop := ∃ (r : Addr) (ps : List Addr), mg "BEGIN_RANGES" = some (.ref r) ∧ (∀ H, SqT K H r (ps.map V.ref)) ∧ ps.length = 7 ∧ ∀ (i : Nat) (p : Addr) (z : Int × Int), ps[i]? = some p → ranges[i]? = some z → ∀ H, SqT K H p [.int z.1, .int z.2]
section
variable {P : Program} {w : World} {K : PySem.W.Frag} {mg : Str → Option Value} {base : Heap} {CT CS : Addr}
theorem scBegun : FnScope ["numbers", "number", "bounds"] ["numbers"] (defScope sBegun) := ⟨rfl, rfl, rfl, by decide +kernel, rfl, by decide +kernel, by decide +kernel⟩
/-- the first i numbers are within their ranges -/
def okTo (xs : List Nat) (i : Nat) : Prop := ∀ (j x : Nat) (z : Int × Int), j < i → xs[j]? = some x → ranges[j]? = some z → z.1 ≤ (x : Int) ∧ (x : Int) ≤ z.2
theorem ok_begun {f fI : Addr} {fd fdI : FuncData} (F : Fun K "begun_spiral" "begun_spiral" sBegun f fd) (T : Txt K mg CT CS) (Z : RangesAt K mg) (dW : Def P w K mg base "is_within" ["number", "least", "greatest"] 1 spWithin) (M : Mk K CS fI) (GI0 : FnOk P w K mg base CX0 1 fI fdI ["self", "places", "pace", "base", "warm", "opened", "slow", "wanted"] (spInitS CS))
    (bI : Binds K fdI ["self", "places", "pace", "base", "warm", "opened", "slow", "wanted"] []) : FnOk P w K mg base CX0 3 f fd ["numbers"] (spBegun CT CS) := by
  refine F.ok scBegun (fun vs H Q E h => ?_) (fun cdv A outer s H vs Q E hr h => ?_)
  · obtain ⟨l, p, e, b, wa, d, sl, t, rfl, _⟩ := h
    rfl
  · obtain ⟨l, p, e, b, wa, d, sl, t, rfl, hl, kb, kg⟩ := h
    obtain ⟨r, ps, hmr, hrt, hps, hpr⟩ := Z
    refine ⟨_, pss_cons (ps_for PassesOwn.never rfl (SpZ.pi_zipT rfl T.zip (pa_cons (pv 0) (pa_cons (pe_glob (v := .ref r) rfl hmr rfl) pa_nil))) (pg_tup rfl (pgs_cons (pg_name (i := 1) scBegun.nd rfl (Or.inl rfl)) (pgs_cons (pg_name (i := 2) scBegun.nd rfl (Or.inl rfl)) pgs_nil)))
        (pss_one (ps_if (pt_not (pt_val (pe_def dW (hr.mono (by decide)) (pa_cons (pv 1) (pa_cons (pe_ix ix_tup (pv 2) pe_int (fun _ _ => rfl)) (pa_cons (pe_ix ix_tup (pv 2) pe_int (fun _ _ => rfl)) pa_nil)))))) (pss_one (ps_ret pe_non)) pss_nil)))
      (pss_one (ps_ret (pe_make M GI0 hr rfl T.mgS bI .nil pass0 (pa_cons (pe_ix ix_list (pv 0) pe_int (fun _ _ => rfl)) (pa_cons (pe_ix ix_list (pv 0) pe_int (fun _ _ => rfl)) (pa_cons (pe_ix ix_list (pv 0) pe_int (fun _ _ => rfl)) (pa_cons (pe_ix ix_list (pv 0) pe_int (fun _ _ => rfl)) (pa_cons (pe_ix ix_list (pv 0) pe_int (fun _ _ => rfl)) (pa_cons (pe_ix ix_list (pv 0) pe_int (fun _ _ => rfl)) (pa_cons (pe_ix ix_list (pv 0) pe_int (fun _ _ => rfl)) pa_nil)))))))))), ?_⟩
    have eV : [V.int (p : Nat), V.int (e : Nat), V.int (b : Nat), V.int (wa : Nat), V.int (d : Nat), V.int (sl : Nat), V.int (t : Nat)] = [p, e, b, wa, d, sl, t].map fun (x : Nat) => V.int (x : Int) := rfl
    refine ⟨_, rfl, l, r, _, _, rfl, SqL.of hl, hrt _, for_zipT (K := K) (a := l) (b := r) (xs := [p, e, b, wa, d, sl, t].map fun (x : Nat) => V.int (x : Int)) (ys := ps.map V.ref) (fun i σ H' => ∃ v1 v2 : Option V, σ = [some (.ref l), v1, v2] ∧ Same H H' ∧ okTo [p, e, b, wa, d, sl, t] i)
      ⟨none, none, rfl, Same.refl H, fun j x z hj => (by omega)⟩ (fun i σ H' ⟨_, _, _, s1, _⟩ => ⟨SqL.of (s1 _ _ hl), hrt _⟩) (by rw [List.length_map, List.length_map, hps]; exact Nat.le_refl _) ?_ ?_⟩
    · rintro i x y T' σ H' hx hy ⟨v1, v2, rfl, s1, ok⟩ hT'
      rw [List.getElem?_map] at hx hy
      cases hq : ([p, e, b, wa, d, sl, t] : List Nat)[i]? with
      | none => rw [hq] at hx; cases hx
      | some xn =>
        rw [hq] at hx
        have hx' : x = V.int (xn : Nat) := (Option.some.inj hx).symm
        subst hx'
        cases hq2 : ps[i]? with
        | none => rw [hq2] at hy; cases hy
        | some pr =>
          rw [hq2] at hy
          have hy' : y = V.ref pr := (Option.some.inj hy).symm
          subst hy'
          have hi7 : i < 7 := (List.getElem?_eq_some_iff.mp hq).1
          obtain ⟨z, hz⟩ : ∃ z, ranges[i]? = some z := ⟨_, List.getElem?_eq_getElem (show i < ranges.length from hi7)⟩
          have hsq := hpr i pr z hq2 hz
          refine ⟨T', _, rfl, SqT.of upd_same, rfl, _, _, rfl, _, _, rfl, rfl, ?_⟩
          have s2 := s1.trans (Same.up (o := .tup [.int (xn : Nat), .ref pr]) hT')
          refine ⟨_, rfl, _, rfl, pr, _, _, _, rfl, rfl, hsq _, atI_nat (j := 0) rfl, _, rfl, pr, _, _, _, rfl, rfl, hsq _, atI_nat (j := 1) rfl, _, _, _, rfl, _, rfl, ite2 (fun c => ?_) (fun c => ?_)⟩
          · refine kb ?_ _ s2
            rw [Bool.not_eq_true', Bool.and_eq_false_iff, decide_eq_false_iff_not, decide_eq_false_iff_not] at c
            have hS : Su74.SLOW = 60 := rfl
            unfold badB
            match i, hi7, hq, hz with
            | 0, _, hq, hz => cases hq; cases hz; omega
            | 1, _, hq, hz => cases hq; cases hz; omega
            | 2, _, hq, hz => cases hq; cases hz; omega
            | 3, _, hq, hz => cases hq; cases hz; omega
            | 4, _, hq, hz => cases hq; cases hz; omega
            | 5, _, hq, hz => cases hq; cases hz; omega
            | 6, _, hq, hz => cases hq; cases hz; omega
            | i + 7, h, _, _ => omega
          · rw [Bool.not_eq_true', Bool.and_eq_false_iff, decide_eq_false_iff_not, decide_eq_false_iff_not] at c
            refine ⟨_, _, rfl, s2, fun j x2 z2 hj hx2 hz2 => ?_⟩
            rcases Nat.lt_or_ge j i with q | q
            · exact ok j x2 z2 q hx2 hz2
            · have : j = i := by omega
              subst this
              rw [hq] at hx2
              rw [hz] at hz2
              cases hx2
              cases hz2
              omega
    · rintro σ H' ⟨v1, v2, rfl, s1, ok⟩
      have ok7 : okTo [p, e, b, wa, d, sl, t] 7 := ok
      have g0 := ok7 0 p (1, 12) (by decide) rfl rfl
      have g1 := ok7 1 e (1, 60) (by decide) rfl rfl
      have g2 := ok7 2 b (1, 600) (by decide) rfl rfl
      have g3 := ok7 3 wa (0, 50) (by decide) rfl rfl
      have g4 := ok7 4 d (0, 200) (by decide) rfl rfl
      have g5 := ok7 5 sl (1, 500) (by decide) rfl rfl
      have g6 := ok7 6 t (1, 500) (by decide) rfl rfl
      simp only [] at g0 g1 g2 g3 g4 g5 g6
      have hS : Su74.SLOW = 60 := rfl
      have nb : ¬ badB p e b wa d sl t := by
        unfold badB
        omega
      have hl' : SqL K H' l [V.int (p : Nat), V.int (e : Nat), V.int (b : Nat), V.int (wa : Nat), V.int (d : Nat), V.int (sl : Nat), V.int (t : Nat)] := SqL.of (s1 _ _ hl)
      refine ⟨_, rfl, l, _, _, _, rfl, rfl, hl', atI_nat (j := 0) rfl, _, rfl, l, _, _, _, rfl, rfl, hl', atI_nat (j := 1) rfl, _, rfl, l, _, _, _, rfl, rfl, hl', atI_nat (j := 2) rfl, _, rfl, l, _, _, _, rfl, rfl, hl', atI_nat (j := 3) rfl,
        _, rfl, l, _, _, _, rfl, rfl, hl', atI_nat (j := 4) rfl, _, rfl, l, _, _, _, rfl, rfl, hl', atI_nat (j := 5) rfl, _, rfl, l, _, _, _, rfl, rfl, hl', atI_nat (j := 6) rfl, ?_⟩
      intro x dx nx ndx nex
      refine ⟨x, dx, p, e, b, wa, d, sl, t, rfl, by omega, upd_same, fun H2 tl sl' h1 h2 h3 n2 n3 ne kp => ⟨rfl, ?_⟩⟩
      have s2 : Same H' H2 := Same.made nx ndx kp
      have W : WF (Su74.new p e b wa d sl t) := WF.new nb
      have nn : ∀ c, upd (upd H' dx (.own x)) x (.ins CS dx []) c = none → H c = none := fun c hc => by
        by_cases z : c = x
        · subst z; rw [upd_same] at hc; cases hc
        · rw [upd_ne z] at hc
          by_cases z2 : c = dx
          · subst z2; rw [upd_same] at hc; cases hc
          · rw [upd_ne z2] at hc
            exact s1.free hc
      refine kg nb H2 x dx tl sl' (s1.trans s2) ⟨W, h1, h2, h3, rfl, List.nodup_nil, fun t r hr => ?_, ne, s1.free nx, nn _ n2, nn _ n3, fun r hr => ?_⟩
      · simp at hr
      · simp at hr
end
end Sp

set_option Elab.async false
set_option linter.all false
set_option maxRecDepth 100000
set_option maxHeartbeats 4000000
namespace Sp
open PySem PySem.Spec PyProof.Rows L2
open Su74 (Abs Tray)
abbrev sCall : Stmt := top 57
theorem nat1 {xs : List Int} (h : xs.length = 1) (hn : ∀ x ∈ xs, 0 ≤ x) : ∃ a : Nat, xs = [(a : Int)] := by
  obtain ⟨a, rfl⟩ := len1 h
  exact ⟨a.toNat, by rw [Int.toNat_of_nonneg (hn a (by simp))]⟩
theorem nat2 {xs : List Int} (h : xs.length = 2) (hn : ∀ x ∈ xs, 0 ≤ x) : ∃ a b : Nat, xs = [(a : Int), (b : Int)] := by
  obtain ⟨a, b, rfl⟩ := len2 h
  exact ⟨a.toNat, b.toNat, by rw [Int.toNat_of_nonneg (hn a (by simp)), Int.toNat_of_nonneg (hn b (by simp))]⟩
theorem nat3 {xs : List Int} (h : xs.length = 3) (hn : ∀ x ∈ xs, 0 ≤ x) : ∃ a b c : Nat, xs = [(a : Int), (b : Int), (c : Int)] := by
  obtain ⟨a, b, c, rfl⟩ := len3 h
  exact ⟨a.toNat, b.toNat, c.toNat, by rw [Int.toNat_of_nonneg (hn a (by simp)), Int.toNat_of_nonneg (hn b (by simp)), Int.toNat_of_nonneg (hn c (by simp))]⟩
theorem eqI_yes {i j : Int} (c : decide (V.int i = V.int j) = true) : i = j := by
  have z := of_decide_eq_true c
  injection z
theorem eqI_no {i j : Int} (c : ¬ decide (V.int i = V.int j) = true) : i ≠ j := fun z => c (decide_eq_true (by rw [z]))
/-! ### a def that a variable holds is called -/
def FnAt (P : Program) (w : World) (K : PySem.W.Frag) (mg : Str → Option Value) (base : Heap) (k : Nat) (f : Addr) (sp : Sp) : Prop :=
  ∃ fd ps, FnOk P w K mg base CX0 k f fd ps sp ∧ PySem.W.keepIn K (.ref f) = true ∧ Binds K fd ps []
def tCallV (P : Program) (w : World) (K : PySem.W.Frag) (mg : Str → Option Value) (base : Heap) (k i : Nat) (t : TA) : TE := fun σ H Q => ∃ (f : Addr) (sp : Sp), σ[i]? = some (some (.ref f)) ∧ FnAt P w K mg base k f sp ∧ t σ H fun vs H1 => sp (vs ++ []) H1 Q E0
theorem pe_callV {X : Cx} (i : Nat) {x : Str} {k : Nat} {p pos : Pos} {e : Expr} {es : List Expr} {t : TA} (hr : Room k X.A) (ha : PA X (e :: es) t) (hN : X.N[i]? = some x := by rfl)
    (hv : Vis X.env.scope x := by first | exact Or.inl rfl | exact Or.inr (Or.inl rfl) | exact Or.inr (Or.inr rfl)) (hd : (x == ("__debug__" : Str)) = false := by decide) (hcd : (x == ("__classdict__" : Str)) = false := by decide)
    (he : starEach (e :: es) X.env = (false, eval e X.env) :: starEach es X.env := by rfl) (hpl : (backTo pos (starEach es X.env)).any (·.1) = false := by rfl) :
    PE X (.Call (.Name x p) (e :: es) [] pos) (tCallV X.prog X.w X.K X.mg X.base k i t) := by
  intro pins s σ H Q I h
  obtain ⟨f, sp, e1, ⟨fd, ps, F, hk, hb⟩, h⟩ := h
  refine wpAny_Call_Name_kw (thn (pe_var hN hv hd hcd pins s σ H (fun v H' => v = .ref f ∧ t σ H' fun vs H1 => sp (vs ++ []) H1 Q E0) I ⟨.ref f, e1, rfl, h⟩) fun u s1 ⟨v, H1, I1, r, e2, q⟩ => ?_)
  subst e2
  cases r
  refine PySem.W.callWith_K (h₀ := X.base) I1.ok.mod.kin hk (thn (ha pos pins s1 σ H1 _ I1 q) fun us s2 ⟨vs, H2, I2, r, q⟩ => ⟨I2.kIn, ?_⟩) he hpl
  exact run_fn F hr hb .nil pass0 I2 r q
/-- the contract of the j-th call, by its numbers -/
def spNum (CT CS : Addr) (j n : Nat) : Sp := fun vs H Q _ => ∃ (xs : List Int) (c : Su74.Call), xs.length = n ∧ (∀ x ∈ xs, 0 ≤ x) ∧ Su74Neutral.callOf ((j : Int) :: xs) = some c ∧ AnsSp CT CS c (xs.map V.int) vs H Q
/-- what stands in ANSWERERS -/
def Hands (P : Program) (w : World) (K : PySem.W.Frag) (mg : Str → Option Value) (base : Heap) (CT CS : Addr) : Prop :=
  ∃ (wa : Addr) (fs : List V), mg "ANSWERERS" = some (.ref wa) ∧ (∀ H, SqT K H wa fs) ∧ ∀ j n, 1 ≤ j → widths[j]? = some n → ∃ f, fs[j]? = some (.ref f) ∧ FnAt P w K mg base 5 f (spNum CT CS j n)
section
variable {P : Program} {w : World} {K : PySem.W.Frag} {mg : Str → Option Value} {base : Heap} {CT CS : Addr}
theorem Def.fnAt {x : Str} {ps : List Str} {k : Nat} {sp sp' : Sp} {f : Addr} (D : Def P w K mg base x ps k sp) (hk : k ≤ 5) (hf : mg x = some (.ref f)) (h : ∀ vs H Q E, sp' vs H Q E → sp vs H Q E) : FnAt P w K mg base 5 f sp' := by
  obtain ⟨f', fd, F, hm, hkp, hb⟩ := D
  have e : f' = f := by
    have := hm.symm.trans hf
    injection this with this
    injection this
  subst e
  exact ⟨fd, ps, (F.mono hk).imp h, hkp, hb⟩
theorem num3 {c : Nat → Nat → Nat → Su74.Call} {j : Nat} {sp : Sp} (hc : ∀ x y z : Nat, Su74Neutral.callOf [(j : Int), (x : Int), (y : Int), (z : Int)] = some (c x y z)) (h : ∀ vs H Q E, (∃ x y z : Nat, AnsSp CT CS (c x y z) [.int x, .int y, .int z] vs H Q) → sp vs H Q E) :
    ∀ vs H Q E, spNum CT CS j 3 vs H Q E → sp vs H Q E := by
  rintro vs H Q E ⟨xs, d, hl, hn, hd, a⟩
  obtain ⟨x, y, z, rfl⟩ := nat3 hl hn
  rw [hc] at hd
  cases hd
  exact h vs H Q E ⟨x, y, z, a⟩
theorem num2 {c : Nat → Nat → Su74.Call} {j : Nat} {sp : Sp} (hc : ∀ x y : Nat, Su74Neutral.callOf [(j : Int), (x : Int), (y : Int)] = some (c x y)) (h : ∀ vs H Q E, (∃ x y : Nat, AnsSp CT CS (c x y) [.int x, .int y] vs H Q) → sp vs H Q E) :
    ∀ vs H Q E, spNum CT CS j 2 vs H Q E → sp vs H Q E := by
  rintro vs H Q E ⟨xs, d, hl, hn, hd, a⟩
  obtain ⟨x, y, rfl⟩ := nat2 hl hn
  rw [hc] at hd
  cases hd
  exact h vs H Q E ⟨x, y, a⟩
theorem num1 {c : Nat → Su74.Call} {j : Nat} {sp : Sp} (hc : ∀ x : Nat, Su74Neutral.callOf [(j : Int), (x : Int)] = some (c x)) (h : ∀ vs H Q E, (∃ x : Nat, AnsSp CT CS (c x) [.int x] vs H Q) → sp vs H Q E) :
    ∀ vs H Q E, spNum CT CS j 1 vs H Q E → sp vs H Q E := by
  rintro vs H Q E ⟨xs, d, hl, hn, hd, a⟩
  obtain ⟨x, rfl⟩ := nat1 hl hn
  rw [hc] at hd
  cases hd
  exact h vs H Q E ⟨x, a⟩
theorem num0 {c : Su74.Call} {j : Nat} {sp : Sp} (hc : Su74Neutral.callOf [(j : Int)] = some c) (h : ∀ vs H Q E, AnsSp CT CS c [] vs H Q → sp vs H Q E) :
    ∀ vs H Q E, spNum CT CS j 0 vs H Q E → sp vs H Q E := by
  rintro vs H Q E ⟨xs, d, hl, hn, hd, a⟩
  obtain rfl := List.eq_nil_of_length_eq_zero hl
  rw [hc] at hd
  cases hd
  exact h vs H Q E a
theorem hands_mk {wa f1 f2 f3 f4 f5 f6 f7 f8 f9 f10 f11 f12 f13 f14 f15 f16 f17 f18 f19 : Addr} (hm : mg "ANSWERERS" = some (.ref wa)) (hT : ∀ H, SqT K H wa [.non, .ref f1, .ref f2, .ref f3, .ref f4, .ref f5, .ref f6, .ref f7, .ref f8, .ref f9, .ref f10, .ref f11, .ref f12, .ref f13, .ref f14, .ref f15, .ref f16, .ref f17, .ref f18, .ref f19])
    (h1 : FnAt P w K mg base 5 f1 (spNum CT CS 1 3)) (h2 : FnAt P w K mg base 5 f2 (spNum CT CS 2 1)) (h3 : FnAt P w K mg base 5 f3 (spNum CT CS 3 1)) (h4 : FnAt P w K mg base 5 f4 (spNum CT CS 4 1)) (h5 : FnAt P w K mg base 5 f5 (spNum CT CS 5 1)) (h6 : FnAt P w K mg base 5 f6 (spNum CT CS 6 1))
    (h7 : FnAt P w K mg base 5 f7 (spNum CT CS 7 2)) (h8 : FnAt P w K mg base 5 f8 (spNum CT CS 8 2)) (h9 : FnAt P w K mg base 5 f9 (spNum CT CS 9 2)) (h10 : FnAt P w K mg base 5 f10 (spNum CT CS 10 3)) (h11 : FnAt P w K mg base 5 f11 (spNum CT CS 11 1)) (h12 : FnAt P w K mg base 5 f12 (spNum CT CS 12 0))
    (h13 : FnAt P w K mg base 5 f13 (spNum CT CS 13 0)) (h14 : FnAt P w K mg base 5 f14 (spNum CT CS 14 1)) (h15 : FnAt P w K mg base 5 f15 (spNum CT CS 15 1)) (h16 : FnAt P w K mg base 5 f16 (spNum CT CS 16 0)) (h17 : FnAt P w K mg base 5 f17 (spNum CT CS 17 0)) (h18 : FnAt P w K mg base 5 f18 (spNum CT CS 18 0))
    (h19 : FnAt P w K mg base 5 f19 (spNum CT CS 19 0)) : Hands P w K mg base CT CS := by
  refine ⟨wa, _, hm, hT, fun j n hj hw => ?_⟩
  match j, hj, hw with
  | 0, hj, _ => exact absurd hj (by decide)
  | 1, _, hw => cases hw; exact ⟨f1, rfl, h1⟩
  | 2, _, hw => cases hw; exact ⟨f2, rfl, h2⟩
  | 3, _, hw => cases hw; exact ⟨f3, rfl, h3⟩
  | 4, _, hw => cases hw; exact ⟨f4, rfl, h4⟩
  | 5, _, hw => cases hw; exact ⟨f5, rfl, h5⟩
  | 6, _, hw => cases hw; exact ⟨f6, rfl, h6⟩
  | 7, _, hw => cases hw; exact ⟨f7, rfl, h7⟩
  | 8, _, hw => cases hw; exact ⟨f8, rfl, h8⟩
  | 9, _, hw => cases hw; exact ⟨f9, rfl, h9⟩
  | 10, _, hw => cases hw; exact ⟨f10, rfl, h10⟩
  | 11, _, hw => cases hw; exact ⟨f11, rfl, h11⟩
  | 12, _, hw => cases hw; exact ⟨f12, rfl, h12⟩
  | 13, _, hw => cases hw; exact ⟨f13, rfl, h13⟩
  | 14, _, hw => cases hw; exact ⟨f14, rfl, h14⟩
  | 15, _, hw => cases hw; exact ⟨f15, rfl, h15⟩
  | 16, _, hw => cases hw; exact ⟨f16, rfl, h16⟩
  | 17, _, hw => cases hw; exact ⟨f17, rfl, h17⟩
  | 18, _, hw => cases hw; exact ⟨f18, rfl, h18⟩
  | 19, _, hw => cases hw; exact ⟨f19, rfl, h19⟩
  | j + 20, _, hw =>
    have := width_lt hw
    omega
/-! ### answer_of_call -/
theorem width_le3 {j n : Nat} (hj : 1 ≤ j) (h : widths[j]? = some n) : n ≤ 3 := by
  have hl := width_lt h
  match j, hj, hl, h with
  | 0, hj, _, _ => exact absurd hj (by decide)
  | 1, _, _, h | 2, _, _, h | 3, _, _, h | 4, _, _, h | 5, _, _, h | 6, _, _, h | 7, _, _, h | 8, _, _, h | 9, _, _, h | 10, _, _, h | 11, _, _, h | 12, _, _, h | 13, _, _, h | 14, _, _, h | 15, _, _, h | 16, _, _, h | 17, _, _, h | 18, _, _, h | 19, _, _, h => cases h; decide
  | j + 20, _, hl, _ => omega
theorem scCall : FnScope ["spiral", "call", "numbers", "answerer"] ["spiral", "call", "numbers"] (defScope sCall) := ⟨rfl, rfl, rfl, by decide +kernel, rfl, by decide +kernel, by decide +kernel⟩
theorem ok_call {f : Addr} {fd : FuncData} (F : Fun K "answer_of_call" "answer_of_call" sCall f fd) (T : Txt K mg CT CS) (Z : Hands P w K mg base CT CS) : FnOk P w K mg base CX0 6 f fd ["spiral", "call", "numbers"] (spDisp CT CS 1 19) := by
  refine F.ok scCall (fun vs H Q E h => ?_) (fun cdv A outer s H vs Q E hr h => ?_)
  · obtain ⟨j, n, l, xs, c, _, _, _, _, _, _, _, H0, p, a, dx, tl, sl, rs, rfl, _⟩ := h
    rfl
  · obtain ⟨j, n, l, xs, c, h1, h2, hw, hxl, hxn, hl, hc, H0, p, a, dx, tl, sl, rs, rfl, R, s0, k⟩ := h
    obtain ⟨wa, fs, hm, hT, hZ⟩ := Z
    obtain ⟨g, hg, G⟩ := hZ j n h1 hw
    refine ⟨_, pss_cons (ps_set (i := 3) scCall.nd rfl (Or.inl rfl) (pe_ix ix_tup (pe_glob (v := .ref wa) rfl hm rfl) (pv 1) (fun _ _ => rfl)))
      (pss_cons (ps_if (pt_cmpR op_eq (pe_callB call_len_seq rfl T.len PySem.boot_len (pa_cons (pv 2) pa_nil)) pe_int (nomark _)) (pss_one (ps_ret (pe_callV 3 hr (pa_cons (pv 0) pa_nil)))) pss_nil)
      (pss_cons (ps_if (pt_cmpR op_eq (pe_callB call_len_seq rfl T.len PySem.boot_len (pa_cons (pv 2) pa_nil)) pe_int (nomark _)) (pss_one (ps_ret (pe_callV 3 hr (pa_cons (pv 0) (pa_cons (pe_ix ix_list (pv 2) pe_int (fun _ _ => rfl)) pa_nil))))) pss_nil)
      (pss_cons (ps_if (pt_cmpR op_eq (pe_callB call_len_seq rfl T.len PySem.boot_len (pa_cons (pv 2) pa_nil)) pe_int (nomark _)) (pss_one (ps_ret (pe_callV 3 hr (pa_cons (pv 0) (pa_cons (pe_ix ix_list (pv 2) pe_int (fun _ _ => rfl)) (pa_cons (pe_ix ix_list (pv 2) pe_int (fun _ _ => rfl)) pa_nil)))))) pss_nil)
      (pss_one (ps_ret (pe_callV 3 hr (pa_cons (pv 0) (pa_cons (pe_ix ix_list (pv 2) pe_int (fun _ _ => rfl)) (pa_cons (pe_ix ix_list (pv 2) pe_int (fun _ _ => rfl)) (pa_cons (pe_ix ix_list (pv 2) pe_int (fun _ _ => rfl)) pa_nil)))))))))), ?_⟩
    refine ⟨_, rfl, wa, _, _, V.ref g, rfl, rfl, hT _, atI_nat hg, ?_⟩
    have hlen : (xs.map V.int).length = n := by rw [List.length_map, hxl]
    have h3 := width_le3 h1 hw
    refine ⟨_, rfl, l, _, rfl, .inl (SqL.of hl), rfl, _, rfl, ite2 (fun c1 => ?_) (fun c1 => ?_)⟩
    · have z := eqI_yes c1
      have hn : n = 0 := by omega
      subst hn
      obtain rfl := List.eq_nil_of_length_eq_zero hxl
      exact ⟨g, spNum CT CS j _, rfl, G, _, rfl, [], c, hxl, hxn, hc, H0, p, a, dx, tl, sl, rs, rfl, R, s0, k⟩
    have z0 := eqI_no c1
    refine ⟨_, rfl, l, _, rfl, .inl (SqL.of hl), rfl, _, rfl, ite2 (fun c1 => ?_) (fun c1 => ?_)⟩
    · have z := eqI_yes c1
      have hn : n = 1 := by omega
      subst hn
      obtain ⟨x, rfl⟩ := len1 hxl
      exact ⟨g, spNum CT CS j _, rfl, G, _, rfl, _, rfl, l, _, _, _, rfl, rfl, SqL.of hl, atI_nat (j := 0) rfl, [x], c, hxl, hxn, hc, H0, p, a, dx, tl, sl, rs, rfl, R, s0, k⟩
    have z1 := eqI_no c1
    refine ⟨_, rfl, l, _, rfl, .inl (SqL.of hl), rfl, _, rfl, ite2 (fun c1 => ?_) (fun c1 => ?_)⟩
    · have z := eqI_yes c1
      have hn : n = 2 := by omega
      subst hn
      obtain ⟨x, y, rfl⟩ := len2 hxl
      exact ⟨g, spNum CT CS j _, rfl, G, _, rfl, _, rfl, l, _, _, _, rfl, rfl, SqL.of hl, atI_nat (j := 0) rfl, _, rfl, l, _, _, _, rfl, rfl, SqL.of hl, atI_nat (j := 1) rfl, [x, y], c, hxl, hxn, hc, H0, p, a, dx, tl, sl, rs, rfl, R, s0, k⟩
    have z2 := eqI_no c1
    have hn : n = 3 := by omega
    subst hn
    obtain ⟨x, y, u, rfl⟩ := len3 hxl
    exact ⟨g, spNum CT CS j _, rfl, G, _, rfl, _, rfl, l, _, _, _, rfl, rfl, SqL.of hl, atI_nat (j := 0) rfl, _, rfl, l, _, _, _, rfl, rfl, SqL.of hl, atI_nat (j := 1) rfl, _, rfl, l, _, _, _, rfl, rfl, SqL.of hl, atI_nat (j := 2) rfl, [x, y, u], c, hxl, hxn, hc, H0, p, a, dx, tl, sl, rs, rfl, R, s0, k⟩
end
end Sp

set_option Elab.async false
set_option linter.all false
set_option maxRecDepth 100000
set_option maxHeartbeats 4000000
namespace Sp
open PySem PySem.Spec PyProof.Rows L2
open Su74 (Abs Tray)
/-! ### what the top has written, by the fragment -/
def DefIn (K : PySem.W.Frag) (x : Str) (st : Stmt) (ps : List Str) : Prop := ∃ f fd, PySem.W.nsIn K mainGlobals x = some (some (.ref f)) ∧ Fun K x x st f fd ∧ Binds K fd ps []
theorem defIn_mk {K : PySem.W.Frag} {x : Str} {st : Stmt} {ps : List Str} {f : Addr} {oc : Value} {od an : Option Addr} {osl : Array (Option Value)} {kV doc pm cdv ct : Value} (a : PySem.W.nsIn K mainGlobals x = some (some (.ref f)))
    (l : K.lookup f = some ⟨oc, od, .func (PySem.W.fnOf x x (defArgs st) (defBody st) (defScope st) .none kV doc pm an cdv ct), osl⟩) (c : PySem.W.codeIn K cdv x = true) (k : PySem.W.keepIn K (.ref f) = true)
    (b : ∀ (kV doc pm : Value) (an : Option Addr) (cdv ct : Value) (us : List Value), us.length = ps.length → bindArgs (PySem.W.fnOf x x (defArgs st) (defBody st) (defScope st) .none kV doc pm an cdv ct) ⟨us, []⟩ = pure (ps.zip us)) : DefIn K x st ps := by
  have F := fun_mk (st := st) l c k
  exact ⟨f, _, a, F, F.binds b⟩
def ClsIn (K : PySem.W.Frag) (x qual : Str) (st : Stmt) (ps : List Str) (C : Addr) : Prop := ∃ fI fd, Fun K "__init__" qual st fI fd ∧ Binds K fd ps [] ∧ Mk K C fI ∧ Cls K C ∧ PySem.W.nsIn K mainGlobals x = some (some (.ref C))
theorem clsIn_mk {K : PySem.W.Frag} {x qual : Str} {st : Stmt} {ps : List Str} {C f : Addr} {oc : Value} {od an : Option Addr} {osl : Array (Option Value)} {kV doc pm cdv ct : Value} (aC : PySem.W.nsIn K mainGlobals x = some (some (.ref C)))
    (a : PySem.W.findIn K (.ref C) "__init__" = some (some (.ref f))) (i : PySem.W.isFn K (.ref f) = true) (l : K.lookup f = some ⟨oc, od, .func (PySem.W.fnOf "__init__" qual (defArgs st) (defBody st) (defScope st) .none kV doc pm an cdv ct), osl⟩) (c : PySem.W.codeIn K cdv qual = true) (k : PySem.W.keepIn K (.ref f) = true)
    (pg : PySem.W.plainGet K C Str.empty = true) (hd : PySem.W.hasDictIn K C = true) (po : PySem.W.plainOver K C = true) (sa : PySem.W.findIn K (.ref C) "__setattr__" = some (some (.builtin "object.__setattr__"))) (mk : PySem.W.makesIn K C = true) (kc : PySem.W.keepIn K (.ref C) = true)
    (b : ∀ (kV doc pm : Value) (an : Option Addr) (cdv ct : Value) (us : List Value), us.length = ps.length → bindArgs (PySem.W.fnOf "__init__" qual (defArgs st) (defBody st) (defScope st) .none kV doc pm an cdv ct) ⟨us, []⟩ = pure (ps.zip us)) : ClsIn K x qual st ps C := by
  have F := fun_mk (st := st) l c k
  exact ⟨f, _, F, F.binds b, ⟨mk, a, i, kc⟩, ⟨pg, hd, po, sa⟩, aC⟩
def IntIn (K : PySem.W.Frag) (x : Str) (n : Int) : Prop := ∃ t, PySem.W.nsIn K mainGlobals x = some (some (.int n t))
/-- a tuple of the fragment -/
def TupIn (K : PySem.W.Frag) (a : Addr) (xs : List V) : Prop := ∃ (od : Option Addr) (its : Array Value) (n : Nat) (sl : Array (Option Value)), K.lookup a = some ⟨.type "tuple", od, .seq its n, sl⟩ ∧ its.size ≤ sizeLine ∧ Vals xs its.toList
theorem intIn_mk {K : PySem.W.Frag} {x : Str} {n : Int} {t : Tok} (e : PySem.W.nsIn K mainGlobals x = some (some (.int n t))) : IntIn K x n := ⟨t, e⟩
theorem tupIn_mk {K : PySem.W.Frag} {a : Addr} {xs : List V} {od : Option Addr} {its : Array Value} {n : Nat} {sl : Array (Option Value)} (l : K.lookup a = some ⟨.type "tuple", od, .seq its n, sl⟩) (z : its.size ≤ sizeLine) (v : Vals xs its.toList) : TupIn K a xs := ⟨od, its, n, sl, l, z, v⟩
theorem TupIn.sq {K : PySem.W.Frag} {a : Addr} {xs : List V} (h : TupIn K a xs) (H : Hp) : SqT K H a xs := by
  obtain ⟨od, its, n, sl, e1, e2, e3⟩ := h
  exact .inr ⟨_, its, n, e1, rfl, rfl, e2, e3⟩
section
variable {P : Program} {w : World} {K : PySem.W.Frag} {mg : Str → Option Value} {base h : Heap}
theorem DefIn.def {x : Str} {st : Stmt} {ps : List Str} {k : Nat} {sp : Sp} (D : DefIn K x st ps) (X : K.In h) (G : h.Ns mainGlobals mg) (F : ∀ {f : Addr} {fd : FuncData}, Fun K x x st f fd → FnOk P w K mg base CX0 k f fd ps sp) : Def P w K mg base x ps k sp := by
  obtain ⟨f, fd, a, Fu, b⟩ := D
  exact ⟨f, fd, F Fu, PySem.W.mg_of X G a, Fu.kp, b⟩
theorem IntIn.gi {x : Str} {n : Int} (I : IntIn K x n) (X : K.In h) (G : h.Ns mainGlobals mg) : GI mg x n := by
  obtain ⟨t, e⟩ := I
  exact ⟨t, PySem.W.mg_of X G e⟩
end
end Sp

set_option Elab.async false
set_option linter.all false
set_option maxRecDepth 100000
set_option maxHeartbeats 4000000
namespace Sp
open PySem PySem.Spec PyProof.Rows L2
open Su74 (Abs Tray)
theorem all_mk {P : Program} {w : World} {K : PySem.W.Frag} {h : Heap} {mg : Str → Option Value} {fa CT CS wa ra r0 r1 r2 r3 r4 r5 r6 aa f1 f2 f3 f4 f5 f6 f7 f8 f9 f10 f11 f12 f13 f14 f15 f16 f17 f18 f19 : Addr} (X : K.In h) (G : h.Ns mainGlobals mg) (hfa : mg "answers" = some (.ref fa))
    (cT : ClsIn K "Tray" "Tray.__init__" sInitT ["self", "number", "flavour", "litres", "frost", "put_minute"] CT)
    (cS : ClsIn K "Spiral" "Spiral.__init__" sInitS ["self", "places", "pace", "base", "warm", "opened", "slow", "wanted"] CS)
    (t0 : PySem.W.findIn K (.ref CT) "number" = some none)
    (t1 : PySem.W.findIn K (.ref CT) "flavour" = some none)
    (t2 : PySem.W.findIn K (.ref CT) "litres" = some none)
    (t3 : PySem.W.findIn K (.ref CT) "frost" = some none)
    (t4 : PySem.W.findIn K (.ref CT) "put_minute" = some none)
    (t5 : PySem.W.findIn K (.ref CT) "out_minute" = some none)
    (s1 : PySem.W.findIn K (.ref CS) "places" = some none)
    (s2 : PySem.W.findIn K (.ref CS) "pace" = some none)
    (s3 : PySem.W.findIn K (.ref CS) "base" = some none)
    (s4 : PySem.W.findIn K (.ref CS) "warm" = some none)
    (s5 : PySem.W.findIn K (.ref CS) "opened" = some none)
    (s6 : PySem.W.findIn K (.ref CS) "slow" = some none)
    (s7 : PySem.W.findIn K (.ref CS) "wanted" = some none)
    (s8 : PySem.W.findIn K (.ref CS) "minute" = some none)
    (s9 : PySem.W.findIn K (.ref CS) "door_left" = some none)
    (s10 : PySem.W.findIn K (.ref CS) "trays" = some none)
    (s11 : PySem.W.findIn K (.ref CS) "slots" = some none)
    (b_len : PySem.W.nsIn K mainGlobals "len" = some none)
    (b_range : PySem.W.nsIn K mainGlobals "range" = some none)
    (b_max : PySem.W.nsIn K mainGlobals "max" = some none)
    (b_min : PySem.W.nsIn K mainGlobals "min" = some none)
    (b_list : PySem.W.nsIn K mainGlobals "list" = some none)
    (b_zip : PySem.W.nsIn K mainGlobals "zip" = some none)
    (b_sum : PySem.W.nsIn K mainGlobals "sum" = some none)
    (i_NONE_SUCH : IntIn K "NONE_SUCH" (-2))
    (i_NOT_BEGUN : IntIn K "NOT_BEGUN" (-11))
    (i_THERE_IS_ONE : IntIn K "THERE_IS_ONE" (-16))
    (i_IS_OUT : IntIn K "IS_OUT" (-17))
    (i_OUT_OF_RANGE : IntIn K "OUT_OF_RANGE" (-22))
    (i_TOO_MANY : IntIn K "TOO_MANY" (-28))
    (i_NOT_SO : IntIn K "NOT_SO" (-33))
    (i_GREATEST_FLAVOUR : IntIn K "GREATEST_FLAVOUR" 9)
    (i_GREATEST_LITRES : IntIn K "GREATEST_LITRES" 1000)
    (i_GREATEST_FROST : IntIn K "GREATEST_FROST" 600)
    (i_GREATEST_PACE : IntIn K "GREATEST_PACE" 60)
    (i_MOST_MINUTES : IntIn K "MOST_MINUTES" 500)
    (i_MOST_TRAYS : IntIn K "MOST_TRAYS" 100)
    (i_LONGEST_IN_STEADY_AIR : IntIn K "LONGEST_IN_STEADY_AIR" 2000)
    (i_NONE_CAME_OUT : IntIn K "NONE_CAME_OUT" (-6))
    (i_BEGIN : IntIn K "BEGIN" 0)
    (wA : PySem.W.nsIn K mainGlobals "WIDTHS" = some (some (.ref wa)))
    (wT : TupIn K wa (widths.map fun (n : Nat) => V.int n))
    (rA : PySem.W.nsIn K mainGlobals "BEGIN_RANGES" = some (some (.ref ra)))
    (rT : TupIn K ra ([r0, r1, r2, r3, r4, r5, r6].map V.ref))
    (r0T : TupIn K r0 [.int 1, .int 12])
    (r1T : TupIn K r1 [.int 1, .int 60])
    (r2T : TupIn K r2 [.int 1, .int 600])
    (r3T : TupIn K r3 [.int 0, .int 50])
    (r4T : TupIn K r4 [.int 0, .int 200])
    (r5T : TupIn K r5 [.int 1, .int 500])
    (r6T : TupIn K r6 [.int 1, .int 500])
    (n1 : PySem.W.nsIn K mainGlobals "answer_put" = some (some (.ref f1)))
    (n2 : PySem.W.nsIn K mainGlobals "answer_minutes" = some (some (.ref f2)))
    (n3 : PySem.W.nsIn K mainGlobals "answer_every" = some (some (.ref f3)))
    (n4 : PySem.W.nsIn K mainGlobals "answer_door" = some (some (.ref f4)))
    (n5 : PySem.W.nsIn K mainGlobals "answer_ahead" = some (some (.ref f5)))
    (n6 : PySem.W.nsIn K mainGlobals "answer_ends" = some (some (.ref f6)))
    (n7 : PySem.W.nsIn K mainGlobals "answer_hardens" = some (some (.ref f7)))
    (n8 : PySem.W.nsIn K mainGlobals "answer_needs" = some (some (.ref f8)))
    (n9 : PySem.W.nsIn K mainGlobals "answer_most" = some (some (.ref f9)))
    (n10 : PySem.W.nsIn K mainGlobals "answer_steady" = some (some (.ref f10)))
    (n11 : PySem.W.nsIn K mainGlobals "answer_air" = some (some (.ref f11)))
    (n12 : PySem.W.nsIn K mainGlobals "answer_soft" = some (some (.ref f12)))
    (n13 : PySem.W.nsIn K mainGlobals "answer_out" = some (some (.ref f13)))
    (n14 : PySem.W.nsIn K mainGlobals "answer_of" = some (some (.ref f14)))
    (n15 : PySem.W.nsIn K mainGlobals "answer_look" = some (some (.ref f15)))
    (n16 : PySem.W.nsIn K mainGlobals "answer_chain" = some (some (.ref f16)))
    (n17 : PySem.W.nsIn K mainGlobals "answer_mean" = some (some (.ref f17)))
    (n18 : PySem.W.nsIn K mainGlobals "answer_sums" = some (some (.ref f18)))
    (n19 : PySem.W.nsIn K mainGlobals "answer_state" = some (some (.ref f19)))
    (ansA : PySem.W.nsIn K mainGlobals "ANSWERERS" = some (some (.ref aa)))
    (ansT : TupIn K aa [.non, .ref f1, .ref f2, .ref f3, .ref f4, .ref f5, .ref f6, .ref f7, .ref f8, .ref f9, .ref f10, .ref f11, .ref f12, .ref f13, .ref f14, .ref f15, .ref f16, .ref f17, .ref f18, .ref f19])
    (d_twin_tray : DefIn K "twin_tray" sTwinT ["tray"])
    (d_twin_spiral : DefIn K "twin_spiral" sTwinS ["spiral"])
    (d_is_within : DefIn K "is_within" sWithin ["number", "least", "greatest"])
    (d_air_frost : DefIn K "air_frost" sAir ["spiral", "trays", "door_is_open"])
    (d_changed_frost : DefIn K "changed_frost" sChanged ["frost", "air", "slow"])
    (d_steady_frost : DefIn K "steady_frost" sSteady ["spiral", "trays", "frost", "minutes"])
    (d_trays_on_chain : DefIn K "trays_on_chain" sOn ["spiral"])
    (d_soft_trays : DefIn K "soft_trays" sSoft ["spiral", "trays"])
    (d_move_chain : DefIn K "move_chain" sMove ["spiral"])
    (d_pass_minute : DefIn K "pass_minute" sPassM ["spiral"])
    (d_pass_minutes : DefIn K "pass_minutes" sPass ["spiral", "minutes"])
    (d_begun_spiral : DefIn K "begun_spiral" sBegun ["numbers"])
    (d_answer_put : DefIn K "answer_put" sPut ["spiral", "flavour", "litres", "frost"])
    (d_answer_minutes : DefIn K "answer_minutes" sMinutes ["spiral", "minutes"])
    (d_answer_every : DefIn K "answer_every" sEvery ["spiral", "pace"])
    (d_answer_door : DefIn K "answer_door" sDoor ["spiral", "minutes"])
    (d_answer_ahead : DefIn K "answer_ahead" sAhead ["spiral", "minutes"])
    (d_answer_ends : DefIn K "answer_ends" sEnds ["spiral", "number"])
    (d_is_steady_air_asked : DefIn K "is_steady_air_asked" sAsked ["spiral", "trays", "frost"])
    (d_answer_hardens : DefIn K "answer_hardens" sHardens ["spiral", "trays", "frost"])
    (d_answer_needs : DefIn K "answer_needs" sNeeds ["spiral", "trays", "frost"])
    (d_answer_most : DefIn K "answer_most" sMost ["spiral", "pace", "frost"])
    (d_trays_out : DefIn K "trays_out" sOut ["spiral"])
    (d_litres_together : DefIn K "litres_together" sLit ["trays"])
    (d_air_frost_now : DefIn K "air_frost_now" sNow ["spiral"])
    (d_answer_steady : DefIn K "answer_steady" sASteady ["spiral", "trays", "minutes", "frost"])
    (d_answer_air : DefIn K "answer_air" sAAir ["spiral", "trays"])
    (d_answer_soft : DefIn K "answer_soft" sASoft ["spiral"])
    (d_answer_out : DefIn K "answer_out" sAOut ["spiral"])
    (d_answer_of : DefIn K "answer_of" sAOf ["spiral", "flavour"])
    (d_answer_look : DefIn K "answer_look" sALook ["spiral", "number"])
    (d_answer_chain : DefIn K "answer_chain" sAChain ["spiral"])
    (d_answer_mean : DefIn K "answer_mean" sAMean ["spiral"])
    (d_answer_sums : DefIn K "answer_sums" sASums ["spiral"])
    (d_answer_state : DefIn K "answer_state" sAState ["spiral"])
    (d_answer_of_call : DefIn K "answer_of_call" sCall ["spiral", "call", "numbers"])
    (d_answers : DefIn K "answers" sAnswers ["calls"]) :
    ∃ fd : FuncData, (∀ (s : Shared) (us : List Value), us.length = (["calls"] : List Str).length → BindsTo s fd ⟨us, []⟩ ((["calls"] : List Str).zip us)) ∧ ∀ base : Heap, K.In base → base.Ns mainGlobals mg → FnOk P w K mg base CX0 8 fa fd ["calls"] (spAnswers K) := by
  obtain ⟨fT, fdT, FT, bT, MT, clT, aT⟩ := cT
  obtain ⟨fS, fdS, FS, bS, MS, clS, aS⟩ := cS
  have T : Txt K mg CT CS := ⟨clT, clS, t0, t1, t2, t3, t4, t5, s1, s2, s3, s4, s5, s6, s7, s8, s9, s10, s11, PySem.W.mg_of X G aT, PySem.W.mg_of X G aS, PySem.W.mg_none_of X G b_len, PySem.W.mg_none_of X G b_range, PySem.W.mg_none_of X G b_max, PySem.W.mg_none_of X G b_min, PySem.W.mg_none_of X G b_list, PySem.W.mg_none_of X G b_zip, PySem.W.mg_none_of X G b_sum⟩
  have N : Nums mg := ⟨i_NONE_SUCH.gi X G, i_NOT_BEGUN.gi X G, i_THERE_IS_ONE.gi X G, i_IS_OUT.gi X G, i_OUT_OF_RANGE.gi X G, i_TOO_MANY.gi X G, i_NOT_SO.gi X G, i_GREATEST_FLAVOUR.gi X G, i_GREATEST_LITRES.gi X G, i_GREATEST_FROST.gi X G, i_GREATEST_PACE.gi X G, i_MOST_MINUTES.gi X G, i_MOST_TRAYS.gi X G, i_LONGEST_IN_STEADY_AIR.gi X G, i_NONE_CAME_OUT.gi X G⟩
  have Z : Tops K mg := ⟨i_BEGIN.gi X G, wa, PySem.W.mg_of X G wA, fun H => wT.sq H⟩
  have ZR : RangesAt K mg := ⟨ra, [r0, r1, r2, r3, r4, r5, r6], PySem.W.mg_of X G rA, fun H => rT.sq H, rfl, fun i p z hp hz H => by
    match i, hp, hz with
    | 0, hp, hz => cases hp; cases hz; exact r0T.sq H
    | 1, hp, hz => cases hp; cases hz; exact r1T.sq H
    | 2, hp, hz => cases hp; cases hz; exact r2T.sq H
    | 3, hp, hz => cases hp; cases hz; exact r3T.sq H
    | 4, hp, hz => cases hp; cases hz; exact r4T.sq H
    | 5, hp, hz => cases hp; cases hz; exact r5T.sq H
    | 6, hp, hz => cases hp; cases hz; exact r6T.sq H
    | i + 7, hp, _ => simp at hp⟩
  obtain ⟨f, fd, a, Fu, b⟩ := d_answers
  have e : fa = f := by
    have := hfa.symm.trans (PySem.W.mg_of X G a)
    injection this with this
    injection this
  subst e
  refine ⟨fd, fun s us hu => ?_, fun base _ _ => ?_⟩
  · obtain ⟨oc, od, kV, doc, pm, an, cdv, ct, osl, rfl, _, _⟩ := Fu.ex
    match us, hu with
    | [_], _ => exact .of_eq rfl
  have GT : FnOk P w K mg base CX0 1 fT fdT _ (spInitT CT) := ok_initT FT T
  have GS : FnOk P w K mg base CX0 1 fS fdS _ (spInitS CS) := ok_initS FS T
  have DW := d_is_within.def (P := P) (w := w) (base := base) X G fun F => ok_within F
  have DA := d_air_frost.def (P := P) (w := w) (base := base) X G fun F => ok_air F T
  have DC := d_changed_frost.def (P := P) (w := w) (base := base) X G fun F => ok_changed F T
  have DSt := d_steady_frost.def (P := P) (w := w) (base := base) X G fun F => ok_steady F T DA DC
  have DO := d_trays_on_chain.def (P := P) (w := w) (base := base) X G fun F => ok_on F T
  have DSo := d_soft_trays.def (P := P) (w := w) (base := base) X G fun F => ok_soft F T
  have DMv := d_move_chain.def (P := P) (w := w) (base := base) X G fun F => ok_move F T
  have DN := d_air_frost_now.def (P := P) (w := w) (base := base) X G fun F => ok_now F T DO DA
  have DPM := d_pass_minute.def (P := P) (w := w) (base := base) X G fun F => ok_passM F T DO DN DC DMv
  have DP := d_pass_minutes.def (P := P) (w := w) (base := base) X G fun F => ok_pass F T DPM
  have DTT := d_twin_tray.def (P := P) (w := w) (base := base) X G fun F => ok_twinT F T MT GT bT
  have DTS := d_twin_spiral.def (P := P) (w := w) (base := base) X G fun F => ok_twinS F T MS GS bS DTT
  have DB := d_begun_spiral.def (P := P) (w := w) (base := base) X G fun F => ok_begun F T ZR DW MS GS bS
  have DPu := d_answer_put.def (P := P) (w := w) (base := base) X G fun F => ok_put F T N DW MT GT bT
  have DMi := d_answer_minutes.def (P := P) (w := w) (base := base) X G fun F => ok_minutes F T N DW DP
  have DEv := d_answer_every.def (P := P) (w := w) (base := base) X G fun F => ok_every F T N DW
  have DDo := d_answer_door.def (P := P) (w := w) (base := base) X G fun F => ok_door F T N
  have DAh := d_answer_ahead.def (P := P) (w := w) (base := base) X G fun F => ok_ahead F T N DW DTS DP DSo DO
  have DEn := d_answer_ends.def (P := P) (w := w) (base := base) X G fun F => ok_ends F T N DTS DP
  have DAs := d_is_steady_air_asked.def (P := P) (w := w) (base := base) X G fun F => ok_asked F T N
  have DHa := d_answer_hardens.def (P := P) (w := w) (base := base) X G fun F => ok_hardens F T N DAs DA DC
  have DNe := d_answer_needs.def (P := P) (w := w) (base := base) X G fun F => ok_needs F T N DAs DSt
  have DMo := d_answer_most.def (P := P) (w := w) (base := base) X G fun F => ok_most F T N DW DSt
  have DU := d_trays_out.def (P := P) (w := w) (base := base) X G fun F => ok_out F T
  have DLi := d_litres_together.def (P := P) (w := w) (base := base) X G fun F => ok_lit F T
  have A10 := d_answer_steady.def (P := P) (w := w) (base := base) X G fun F => ok_aSteady F T N DAs DSt
  have A11 := d_answer_air.def (P := P) (w := w) (base := base) X G fun F => ok_aAir F T N DA DN
  have A12 := d_answer_soft.def (P := P) (w := w) (base := base) X G fun F => ok_aSoft F T DU DSo DLi
  have A13 := d_answer_out.def (P := P) (w := w) (base := base) X G fun F => ok_aOut F T DU
  have A14 := d_answer_of.def (P := P) (w := w) (base := base) X G fun F => ok_aOf F T N DU DSo DLi
  have A15 := d_answer_look.def (P := P) (w := w) (base := base) X G fun F => ok_aLook F T N
  have A16 := d_answer_chain.def (P := P) (w := w) (base := base) X G fun F => ok_aChain F T DO
  have A17 := d_answer_mean.def (P := P) (w := w) (base := base) X G fun F => ok_aMean F T N DU
  have A18 := d_answer_sums.def (P := P) (w := w) (base := base) X G fun F => ok_aSums F T DU DO DSo
  have A19 := d_answer_state.def (P := P) (w := w) (base := base) X G fun F => ok_aState F T
  have HA : Hands P w K mg base CT CS := hands_mk (PySem.W.mg_of X G ansA) (fun H => ansT.sq H) (DPu.fnAt (by decide) (PySem.W.mg_of X G n1) (num3 (c := Su74.Call.put) (fun _ _ _ => rfl) fun _ _ _ _ h => h)) (DMi.fnAt (by decide) (PySem.W.mg_of X G n2) (num1 (c := Su74.Call.minutes) (fun _ => rfl) fun _ _ _ _ h => h)) (DEv.fnAt (by decide) (PySem.W.mg_of X G n3) (num1 (c := Su74.Call.every) (fun _ => rfl) fun _ _ _ _ h => h)) (DDo.fnAt (by decide) (PySem.W.mg_of X G n4) (num1 (c := Su74.Call.door) (fun _ => rfl) fun _ _ _ _ h => h))
    (DAh.fnAt (by decide) (PySem.W.mg_of X G n5) (num1 (c := Su74.Call.ahead) (fun _ => rfl) fun _ _ _ _ h => h)) (DEn.fnAt (by decide) (PySem.W.mg_of X G n6) (num1 (c := Su74.Call.ends) (fun _ => rfl) fun _ _ _ _ h => h)) (DHa.fnAt (by decide) (PySem.W.mg_of X G n7) (num2 (c := Su74.Call.hardens) (fun _ _ => rfl) fun _ _ _ _ h => h)) (DNe.fnAt (by decide) (PySem.W.mg_of X G n8) (num2 (c := Su74.Call.needs) (fun _ _ => rfl) fun _ _ _ _ h => h)) (DMo.fnAt (by decide) (PySem.W.mg_of X G n9) (num2 (c := Su74.Call.most) (fun _ _ => rfl) fun _ _ _ _ h => h))
    (A10.fnAt (by decide) (PySem.W.mg_of X G n10) (num3 (c := Su74.Call.steady) (fun _ _ _ => rfl) fun _ _ _ _ h => h)) (A11.fnAt (by decide) (PySem.W.mg_of X G n11) (num1 (c := Su74.Call.air) (fun _ => rfl) fun _ _ _ _ h => h)) (A12.fnAt (by decide) (PySem.W.mg_of X G n12) (num0 (c := Su74.Call.soft) rfl fun _ _ _ _ h => h)) (A13.fnAt (by decide) (PySem.W.mg_of X G n13) (num0 (c := Su74.Call.out) rfl fun _ _ _ _ h => h)) (A14.fnAt (by decide) (PySem.W.mg_of X G n14) (num1 (c := Su74.Call.of) (fun _ => rfl) fun _ _ _ _ h => h)) (A15.fnAt (by decide) (PySem.W.mg_of X G n15) (num1 (c := Su74.Call.look) (fun _ => rfl) fun _ _ _ _ h => h))
    (A16.fnAt (by decide) (PySem.W.mg_of X G n16) (num0 (c := Su74.Call.chain) rfl fun _ _ _ _ h => h)) (A17.fnAt (by decide) (PySem.W.mg_of X G n17) (num0 (c := Su74.Call.mean) rfl fun _ _ _ _ h => h)) (A18.fnAt (by decide) (PySem.W.mg_of X G n18) (num0 (c := Su74.Call.sums) rfl fun _ _ _ _ h => h)) (A19.fnAt (by decide) (PySem.W.mg_of X G n19) (num0 (c := Su74.Call.state) rfl fun _ _ _ _ h => h))
  have DCa := d_answer_of_call.def (P := P) (w := w) (base := base) X G fun F => ok_call F T HA
  exact ok_answers (k := 7) Fu T N Z DB DCa (by decide) (by decide)
end Sp
open PySem PySem.W PyProof.Rows
set_option maxRecDepth 100000 in
set_option maxHeartbeats 0 in
theorem PySem.Challenge.cw_coldspiral_s01_answers_holds : PySem.Challenge.rw_coldspiral_s01_answers.Holds := by
  w_on; k_headS; (case hw => exact ⟨[.list [.int 12]], by decide +kernel, by decide +kernel⟩)
  k_fillS
  refine L2.walk_specK (r := PySem.Challenge.rw_coldspiral_s01_answers) (k := 8) (CX := L2.CX0) (ps := ["calls"]) (sp := Sp.spAnswers) (by decide +kernel) rfl rfl ⟨rfl, by decide, by decide⟩ (fun w h Y => PySem.W.kIn_of Y) ?F ?S (fun _ _ _ _ z => z)
  case F =>
    intro w mg fa h Y KX G hmg
    refine' Sp.all_mk KX G hmg ?cT ?cS ?t0 ?t1 ?t2 ?t3 ?t4 ?t5 ?s1 ?s2 ?s3 ?s4 ?s5 ?s6 ?s7 ?s8 ?s9 ?s10 ?s11 ?b_len ?b_range ?b_max ?b_min ?b_list ?b_zip ?b_sum ?i_NONE_SUCH ?i_NOT_BEGUN ?i_THERE_IS_ONE ?i_IS_OUT ?i_OUT_OF_RANGE ?i_TOO_MANY ?i_NOT_SO ?i_GREATEST_FLAVOUR ?i_GREATEST_LITRES ?i_GREATEST_FROST ?i_GREATEST_PACE ?i_MOST_MINUTES ?i_MOST_TRAYS ?i_LONGEST_IN_STEADY_AIR ?i_NONE_CAME_OUT ?i_BEGIN ?wA ?wT ?rA ?rT ?r0T ?r1T ?r2T ?r3T ?r4T ?r5T ?r6T ?n1 ?n2 ?n3 ?n4 ?n5 ?n6 ?n7 ?n8 ?n9 ?n10 ?n11 ?n12 ?n13 ?n14 ?n15 ?n16 ?n17 ?n18 ?n19 ?ansA ?ansT ?d_twin_tray ?d_twin_spiral ?d_is_within ?d_air_frost ?d_changed_frost ?d_steady_frost ?d_trays_on_chain ?d_soft_trays ?d_move_chain ?d_pass_minute ?d_pass_minutes ?d_begun_spiral ?d_answer_put ?d_answer_minutes ?d_answer_every ?d_answer_door ?d_answer_ahead ?d_answer_ends ?d_is_steady_air_asked ?d_answer_hardens ?d_answer_needs ?d_answer_most ?d_trays_out ?d_litres_together ?d_air_frost_now ?d_answer_steady ?d_answer_air ?d_answer_soft ?d_answer_out ?d_answer_of ?d_answer_look ?d_answer_chain ?d_answer_mean ?d_answer_sums ?d_answer_state ?d_answer_of_call ?d_answers
    (case cT => (refine' Sp.clsIn_mk ?aC ?a ?i ?l ?c ?k ?pg ?hd ?po ?sa ?mk ?kc ?b; (case aC => k_is); (case a => k_is); (case i => k_is); (case l => k_is); (case c => k_is); (case k => k_is); (case pg => k_is); (case hd => k_is); (case po => k_is); (case sa => k_is); (case mk => k_is); (case kc => k_is); (case b => exact fun _ _ _ _ _ _ us hl => match us, hl with | [_, _, _, _, _, _], _ => rfl)))
    (case cS => (refine' Sp.clsIn_mk ?aC ?a ?i ?l ?c ?k ?pg ?hd ?po ?sa ?mk ?kc ?b; (case aC => k_is); (case a => k_is); (case i => k_is); (case l => k_is); (case c => k_is); (case k => k_is); (case pg => k_is); (case hd => k_is); (case po => k_is); (case sa => k_is); (case mk => k_is); (case kc => k_is); (case b => exact fun _ _ _ _ _ _ us hl => match us, hl with | [_, _, _, _, _, _, _, _], _ => rfl)))
    (case t0 => k_is)
    (case t1 => k_is)
    (case t2 => k_is)
    (case t3 => k_is)
    (case t4 => k_is)
    (case t5 => k_is)
    (case s1 => k_is)
    (case s2 => k_is)
    (case s3 => k_is)
    (case s4 => k_is)
    (case s5 => k_is)
    (case s6 => k_is)
    (case s7 => k_is)
    (case s8 => k_is)
    (case s9 => k_is)
    (case s10 => k_is)
    (case s11 => k_is)
    (case b_len => k_is)
    (case b_range => k_is)
    (case b_max => k_is)
    (case b_min => k_is)
    (case b_list => k_is)
    (case b_zip => k_is)
    (case b_sum => k_is)
    (case i_NONE_SUCH => (refine' Sp.intIn_mk ?a; (case a => k_is)))
    (case i_NOT_BEGUN => (refine' Sp.intIn_mk ?a; (case a => k_is)))
    (case i_THERE_IS_ONE => (refine' Sp.intIn_mk ?a; (case a => k_is)))
    (case i_IS_OUT => (refine' Sp.intIn_mk ?a; (case a => k_is)))
    (case i_OUT_OF_RANGE => (refine' Sp.intIn_mk ?a; (case a => k_is)))
    (case i_TOO_MANY => (refine' Sp.intIn_mk ?a; (case a => k_is)))
    (case i_NOT_SO => (refine' Sp.intIn_mk ?a; (case a => k_is)))
    (case i_GREATEST_FLAVOUR => (refine' Sp.intIn_mk ?a; (case a => k_is)))
    (case i_GREATEST_LITRES => (refine' Sp.intIn_mk ?a; (case a => k_is)))
    (case i_GREATEST_FROST => (refine' Sp.intIn_mk ?a; (case a => k_is)))
    (case i_GREATEST_PACE => (refine' Sp.intIn_mk ?a; (case a => k_is)))
    (case i_MOST_MINUTES => (refine' Sp.intIn_mk ?a; (case a => k_is)))
    (case i_MOST_TRAYS => (refine' Sp.intIn_mk ?a; (case a => k_is)))
    (case i_LONGEST_IN_STEADY_AIR => (refine' Sp.intIn_mk ?a; (case a => k_is)))
    (case i_NONE_CAME_OUT => (refine' Sp.intIn_mk ?a; (case a => k_is)))
    (case i_BEGIN => (refine' Sp.intIn_mk ?a; (case a => k_is)))
    (case wA => k_is)
    (case wT => (refine' Sp.tupIn_mk ?l ?z ?v; (case l => k_is); (case z => decide); (case v => exact .cons ⟨_, rfl⟩ (.cons ⟨_, rfl⟩ (.cons ⟨_, rfl⟩ (.cons ⟨_, rfl⟩ (.cons ⟨_, rfl⟩ (.cons ⟨_, rfl⟩ (.cons ⟨_, rfl⟩ (.cons ⟨_, rfl⟩ (.cons ⟨_, rfl⟩ (.cons ⟨_, rfl⟩ (.cons ⟨_, rfl⟩ (.cons ⟨_, rfl⟩ (.cons ⟨_, rfl⟩ (.cons ⟨_, rfl⟩ (.cons ⟨_, rfl⟩ (.cons ⟨_, rfl⟩ (.cons ⟨_, rfl⟩ (.cons ⟨_, rfl⟩ (.cons ⟨_, rfl⟩ (.cons ⟨_, rfl⟩ (.nil)))))))))))))))))))))))
    (case rA => k_is)
    (case rT => (refine' Sp.tupIn_mk ?l ?z ?v; (case l => k_is); (case z => decide); (case v => exact .cons rfl (.cons rfl (.cons rfl (.cons rfl (.cons rfl (.cons rfl (.cons rfl (.nil))))))))))
    (case r0T => (refine' Sp.tupIn_mk ?l ?z ?v; (case l => k_is); (case z => decide); (case v => exact .cons ⟨_, rfl⟩ (.cons ⟨_, rfl⟩ .nil))))
    (case r1T => (refine' Sp.tupIn_mk ?l ?z ?v; (case l => k_is); (case z => decide); (case v => exact .cons ⟨_, rfl⟩ (.cons ⟨_, rfl⟩ .nil))))
    (case r2T => (refine' Sp.tupIn_mk ?l ?z ?v; (case l => k_is); (case z => decide); (case v => exact .cons ⟨_, rfl⟩ (.cons ⟨_, rfl⟩ .nil))))
    (case r3T => (refine' Sp.tupIn_mk ?l ?z ?v; (case l => k_is); (case z => decide); (case v => exact .cons ⟨_, rfl⟩ (.cons ⟨_, rfl⟩ .nil))))
    (case r4T => (refine' Sp.tupIn_mk ?l ?z ?v; (case l => k_is); (case z => decide); (case v => exact .cons ⟨_, rfl⟩ (.cons ⟨_, rfl⟩ .nil))))
    (case r5T => (refine' Sp.tupIn_mk ?l ?z ?v; (case l => k_is); (case z => decide); (case v => exact .cons ⟨_, rfl⟩ (.cons ⟨_, rfl⟩ .nil))))
    (case r6T => (refine' Sp.tupIn_mk ?l ?z ?v; (case l => k_is); (case z => decide); (case v => exact .cons ⟨_, rfl⟩ (.cons ⟨_, rfl⟩ .nil))))
    (case n1 => k_is)
    (case n2 => k_is)
    (case n3 => k_is)
    (case n4 => k_is)
    (case n5 => k_is)
    (case n6 => k_is)
    (case n7 => k_is)
    (case n8 => k_is)
    (case n9 => k_is)
    (case n10 => k_is)
    (case n11 => k_is)
    (case n12 => k_is)
    (case n13 => k_is)
    (case n14 => k_is)
    (case n15 => k_is)
    (case n16 => k_is)
    (case n17 => k_is)
    (case n18 => k_is)
    (case n19 => k_is)
    (case ansA => k_is)
    (case ansT => (refine' Sp.tupIn_mk ?l ?z ?v; (case l => k_is); (case z => decide); (case v => exact .cons rfl (.cons rfl (.cons rfl (.cons rfl (.cons rfl (.cons rfl (.cons rfl (.cons rfl (.cons rfl (.cons rfl (.cons rfl (.cons rfl (.cons rfl (.cons rfl (.cons rfl (.cons rfl (.cons rfl (.cons rfl (.cons rfl (.cons rfl (.nil)))))))))))))))))))))))
    (case d_twin_tray => (refine' Sp.defIn_mk ?a ?l ?c ?k ?b; (case a => k_is); (case l => k_is); (case c => k_is); (case k => k_is); (case b => exact fun _ _ _ _ _ _ us hl => match us, hl with | [_], _ => rfl)))
    (case d_twin_spiral => (refine' Sp.defIn_mk ?a ?l ?c ?k ?b; (case a => k_is); (case l => k_is); (case c => k_is); (case k => k_is); (case b => exact fun _ _ _ _ _ _ us hl => match us, hl with | [_], _ => rfl)))
    (case d_is_within => (refine' Sp.defIn_mk ?a ?l ?c ?k ?b; (case a => k_is); (case l => k_is); (case c => k_is); (case k => k_is); (case b => exact fun _ _ _ _ _ _ us hl => match us, hl with | [_, _, _], _ => rfl)))
    (case d_air_frost => (refine' Sp.defIn_mk ?a ?l ?c ?k ?b; (case a => k_is); (case l => k_is); (case c => k_is); (case k => k_is); (case b => exact fun _ _ _ _ _ _ us hl => match us, hl with | [_, _, _], _ => rfl)))
    (case d_changed_frost => (refine' Sp.defIn_mk ?a ?l ?c ?k ?b; (case a => k_is); (case l => k_is); (case c => k_is); (case k => k_is); (case b => exact fun _ _ _ _ _ _ us hl => match us, hl with | [_, _, _], _ => rfl)))
    (case d_steady_frost => (refine' Sp.defIn_mk ?a ?l ?c ?k ?b; (case a => k_is); (case l => k_is); (case c => k_is); (case k => k_is); (case b => exact fun _ _ _ _ _ _ us hl => match us, hl with | [_, _, _, _], _ => rfl)))
    (case d_trays_on_chain => (refine' Sp.defIn_mk ?a ?l ?c ?k ?b; (case a => k_is); (case l => k_is); (case c => k_is); (case k => k_is); (case b => exact fun _ _ _ _ _ _ us hl => match us, hl with | [_], _ => rfl)))
    (case d_soft_trays => (refine' Sp.defIn_mk ?a ?l ?c ?k ?b; (case a => k_is); (case l => k_is); (case c => k_is); (case k => k_is); (case b => exact fun _ _ _ _ _ _ us hl => match us, hl with | [_, _], _ => rfl)))
    (case d_move_chain => (refine' Sp.defIn_mk ?a ?l ?c ?k ?b; (case a => k_is); (case l => k_is); (case c => k_is); (case k => k_is); (case b => exact fun _ _ _ _ _ _ us hl => match us, hl with | [_], _ => rfl)))
    (case d_pass_minute => (refine' Sp.defIn_mk ?a ?l ?c ?k ?b; (case a => k_is); (case l => k_is); (case c => k_is); (case k => k_is); (case b => exact fun _ _ _ _ _ _ us hl => match us, hl with | [_], _ => rfl)))
    (case d_pass_minutes => (refine' Sp.defIn_mk ?a ?l ?c ?k ?b; (case a => k_is); (case l => k_is); (case c => k_is); (case k => k_is); (case b => exact fun _ _ _ _ _ _ us hl => match us, hl with | [_, _], _ => rfl)))
    (case d_begun_spiral => (refine' Sp.defIn_mk ?a ?l ?c ?k ?b; (case a => k_is); (case l => k_is); (case c => k_is); (case k => k_is); (case b => exact fun _ _ _ _ _ _ us hl => match us, hl with | [_], _ => rfl)))
    (case d_answer_put => (refine' Sp.defIn_mk ?a ?l ?c ?k ?b; (case a => k_is); (case l => k_is); (case c => k_is); (case k => k_is); (case b => exact fun _ _ _ _ _ _ us hl => match us, hl with | [_, _, _, _], _ => rfl)))
    (case d_answer_minutes => (refine' Sp.defIn_mk ?a ?l ?c ?k ?b; (case a => k_is); (case l => k_is); (case c => k_is); (case k => k_is); (case b => exact fun _ _ _ _ _ _ us hl => match us, hl with | [_, _], _ => rfl)))
    (case d_answer_every => (refine' Sp.defIn_mk ?a ?l ?c ?k ?b; (case a => k_is); (case l => k_is); (case c => k_is); (case k => k_is); (case b => exact fun _ _ _ _ _ _ us hl => match us, hl with | [_, _], _ => rfl)))
    (case d_answer_door => (refine' Sp.defIn_mk ?a ?l ?c ?k ?b; (case a => k_is); (case l => k_is); (case c => k_is); (case k => k_is); (case b => exact fun _ _ _ _ _ _ us hl => match us, hl with | [_, _], _ => rfl)))
    (case d_answer_ahead => (refine' Sp.defIn_mk ?a ?l ?c ?k ?b; (case a => k_is); (case l => k_is); (case c => k_is); (case k => k_is); (case b => exact fun _ _ _ _ _ _ us hl => match us, hl with | [_, _], _ => rfl)))
    (case d_answer_ends => (refine' Sp.defIn_mk ?a ?l ?c ?k ?b; (case a => k_is); (case l => k_is); (case c => k_is); (case k => k_is); (case b => exact fun _ _ _ _ _ _ us hl => match us, hl with | [_, _], _ => rfl)))
    (case d_is_steady_air_asked => (refine' Sp.defIn_mk ?a ?l ?c ?k ?b; (case a => k_is); (case l => k_is); (case c => k_is); (case k => k_is); (case b => exact fun _ _ _ _ _ _ us hl => match us, hl with | [_, _, _], _ => rfl)))
    (case d_answer_hardens => (refine' Sp.defIn_mk ?a ?l ?c ?k ?b; (case a => k_is); (case l => k_is); (case c => k_is); (case k => k_is); (case b => exact fun _ _ _ _ _ _ us hl => match us, hl with | [_, _, _], _ => rfl)))
    (case d_answer_needs => (refine' Sp.defIn_mk ?a ?l ?c ?k ?b; (case a => k_is); (case l => k_is); (case c => k_is); (case k => k_is); (case b => exact fun _ _ _ _ _ _ us hl => match us, hl with | [_, _, _], _ => rfl)))
    (case d_answer_most => (refine' Sp.defIn_mk ?a ?l ?c ?k ?b; (case a => k_is); (case l => k_is); (case c => k_is); (case k => k_is); (case b => exact fun _ _ _ _ _ _ us hl => match us, hl with | [_, _, _], _ => rfl)))
    (case d_trays_out => (refine' Sp.defIn_mk ?a ?l ?c ?k ?b; (case a => k_is); (case l => k_is); (case c => k_is); (case k => k_is); (case b => exact fun _ _ _ _ _ _ us hl => match us, hl with | [_], _ => rfl)))
    (case d_litres_together => (refine' Sp.defIn_mk ?a ?l ?c ?k ?b; (case a => k_is); (case l => k_is); (case c => k_is); (case k => k_is); (case b => exact fun _ _ _ _ _ _ us hl => match us, hl with | [_], _ => rfl)))
    (case d_air_frost_now => (refine' Sp.defIn_mk ?a ?l ?c ?k ?b; (case a => k_is); (case l => k_is); (case c => k_is); (case k => k_is); (case b => exact fun _ _ _ _ _ _ us hl => match us, hl with | [_], _ => rfl)))
    (case d_answer_steady => (refine' Sp.defIn_mk ?a ?l ?c ?k ?b; (case a => k_is); (case l => k_is); (case c => k_is); (case k => k_is); (case b => exact fun _ _ _ _ _ _ us hl => match us, hl with | [_, _, _, _], _ => rfl)))
    (case d_answer_air => (refine' Sp.defIn_mk ?a ?l ?c ?k ?b; (case a => k_is); (case l => k_is); (case c => k_is); (case k => k_is); (case b => exact fun _ _ _ _ _ _ us hl => match us, hl with | [_, _], _ => rfl)))
    (case d_answer_soft => (refine' Sp.defIn_mk ?a ?l ?c ?k ?b; (case a => k_is); (case l => k_is); (case c => k_is); (case k => k_is); (case b => exact fun _ _ _ _ _ _ us hl => match us, hl with | [_], _ => rfl)))
    (case d_answer_out => (refine' Sp.defIn_mk ?a ?l ?c ?k ?b; (case a => k_is); (case l => k_is); (case c => k_is); (case k => k_is); (case b => exact fun _ _ _ _ _ _ us hl => match us, hl with | [_], _ => rfl)))
    (case d_answer_of => (refine' Sp.defIn_mk ?a ?l ?c ?k ?b; (case a => k_is); (case l => k_is); (case c => k_is); (case k => k_is); (case b => exact fun _ _ _ _ _ _ us hl => match us, hl with | [_, _], _ => rfl)))
    (case d_answer_look => (refine' Sp.defIn_mk ?a ?l ?c ?k ?b; (case a => k_is); (case l => k_is); (case c => k_is); (case k => k_is); (case b => exact fun _ _ _ _ _ _ us hl => match us, hl with | [_, _], _ => rfl)))
    (case d_answer_chain => (refine' Sp.defIn_mk ?a ?l ?c ?k ?b; (case a => k_is); (case l => k_is); (case c => k_is); (case k => k_is); (case b => exact fun _ _ _ _ _ _ us hl => match us, hl with | [_], _ => rfl)))
    (case d_answer_mean => (refine' Sp.defIn_mk ?a ?l ?c ?k ?b; (case a => k_is); (case l => k_is); (case c => k_is); (case k => k_is); (case b => exact fun _ _ _ _ _ _ us hl => match us, hl with | [_], _ => rfl)))
    (case d_answer_sums => (refine' Sp.defIn_mk ?a ?l ?c ?k ?b; (case a => k_is); (case l => k_is); (case c => k_is); (case k => k_is); (case b => exact fun _ _ _ _ _ _ us hl => match us, hl with | [_], _ => rfl)))
    (case d_answer_state => (refine' Sp.defIn_mk ?a ?l ?c ?k ?b; (case a => k_is); (case l => k_is); (case c => k_is); (case k => k_is); (case b => exact fun _ _ _ _ _ _ us hl => match us, hl with | [_], _ => rfl)))
    (case d_answer_of_call => (refine' Sp.defIn_mk ?a ?l ?c ?k ?b; (case a => k_is); (case l => k_is); (case c => k_is); (case k => k_is); (case b => exact fun _ _ _ _ _ _ us hl => match us, hl with | [_, _, _], _ => rfl)))
    (case d_answers => (refine' Sp.defIn_mk ?a ?l ?c ?k ?b; (case a => k_is); (case l => k_is); (case c => k_is); (case k => k_is); (case b => exact fun _ _ _ _ _ _ us hl => match us, hl with | [_], _ => rfl)))
  case S =>
    intro K H xs a hO hwi hask hx
    cases hx with
    | cons h1 h2 =>
      cases h2
      cases h1 with
      | lst hs ha =>
        have e := L2.ints_dw a.1 _ ha
        subst e
        have q : ((Codec.inLen 0 3200 a.1 && a.1.all (Codec.inInt 0 4294967295)) && true) = true := hwi
        rw [Bool.and_eq_true, Bool.and_eq_true] at q
        refine ⟨_, a.1, rfl, hs, fun x hx => ?_, (Codec.inNat_iff.mp q.1.1).2, hask, fun H' p hp => .lst (L2.SqL.of hp) (L2.dw_ints _)⟩
        exact (Codec.inInt_iff.mp (List.all_eq_true.mp q.1.2 x hx)).1
