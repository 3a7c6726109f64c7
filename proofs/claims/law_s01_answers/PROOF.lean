import PyProof.Rows.All
import Wide.All
import OpenK.AllK
import Wide.FinOn
import PyProof.EqAt
import PyProof.EqKinds
import PyProof.TupleCall
import KE.BitLaws
import Open.SpecLaws
import KE.OsHead
import KE.OsGo
import PySem.Challenge.RW_loopnest_s01_answers
section
set_option Elab.async false
set_option linter.all false
set_option maxRecDepth 100000
/-! THE HAND LAYER, for ints, bools, texts, own classes, lists, tuples, dicts, comprehensions, walks over dicts, enumerate, zip, reversed, texts, calls, loops. Paste it whole ahead of your own text; what your proof does not reach may be deleted. -/
namespace L2
open PySem PySem.Spec PyProof.Rows

/-- a key: an int or a str -/
abbrev Key := Sum Int Str
def keyIs : Key → Value → Bool
  | .inl k, v => Value.isInt k v
  | .inr x, v => Value.isStrOf x v
def keyH (w : World) : Key → Int
  | .inl k => hashInt k
  | .inr x => hashStr w x
theorem keyIs_shape : ∀ {k : Key} {v : Value}, keyIs k v = true → (∃ i t, k = Sum.inl i ∧ v = Value.int i t) ∨ (∃ x t, k = Sum.inr x ∧ v = Value.str x t)
  | .inl i, v, h => by
    obtain ⟨t, e⟩ := Value.isInt_shape (k := i) (v := v) h
    exact .inl ⟨i, t, rfl, e⟩
  | .inr x, v, h => by
    obtain ⟨t, e⟩ := Value.isStrOf_shape (x := x) (v := v) h
    exact .inr ⟨x, t, rfl, e⟩
theorem key_ll (a b : Int) : decide ((Sum.inl a : Key) = Sum.inl b) = (a == b) := by
  by_cases e : a = b
  · subst e; simp
  · have h : ¬ (Sum.inl a : Key) = Sum.inl b := fun q => e (Sum.inl.inj q)
    rw [decide_eq_false h]
    exact (beq_eq_false_iff_ne.mpr e).symm
theorem key_rr (a b : Str) : decide ((Sum.inr a : Key) = Sum.inr b) = decide (a = b) := by
  by_cases e : a = b
  · subst e; simp
  · have h : ¬ (Sum.inr a : Key) = Sum.inr b := fun q => e (Sum.inr.inj q)
    rw [decide_eq_false h, decide_eq_false e]
theorem key_lr (a : Int) (b : Str) : decide ((Sum.inl a : Key) = Sum.inr b) = false := decide_eq_false (fun q => nomatch q)
theorem key_rl (a : Str) (b : Int) : decide ((Sum.inr a : Key) = Sum.inl b) = false := decide_eq_false (fun q => nomatch q)

def mixKind (prog : Program) (w : World) : PySem.KeyKind prog w Key where
  is := keyIs
  hash := keyH w
  inj := fun v a b ha hb => by
    rcases keyIs_shape ha with ⟨i, t, rfl, rfl⟩ | ⟨x, t, rfl, rfl⟩
    · rcases keyIs_shape hb with ⟨j, u, rfl, e⟩ | ⟨y, u, rfl, e⟩
      · injection e with e1 _; rw [e1]
      · exact nomatch e
    · rcases keyIs_shape hb with ⟨j, u, rfl, e⟩ | ⟨y, u, rfl, e⟩
      · exact nomatch e
      · injection e with e1 _; rw [e1]
  byValue := fun k v h => by
    rcases keyIs_shape h with ⟨i, t, rfl, rfl⟩ | ⟨x, t, rfl, rfl⟩ <;> rfl
  pyHash := fun hv h => by
    rcases keyIs_shape hv with ⟨i, t, rfl, rfl⟩ | ⟨x, t, rfl, rfl⟩
    · exact wpAny_pyHash_int h
    · exact wpAny_pyHash_str h
  eqBool := fun hu hv h => by
    rcases keyIs_shape hu with ⟨i, t, rfl, rfl⟩ | ⟨x, t, rfl, rfl⟩
    · rcases keyIs_shape hv with ⟨j, u, rfl, rfl⟩ | ⟨y, u, rfl, rfl⟩
      · rw [key_ll] at h; exact wpAny_eqBool_int h
      · rw [key_lr] at h; exact SeqAt.EqAt.int_str i t y u _ _ _ _ h
    · rcases keyIs_shape hv with ⟨j, u, rfl, rfl⟩ | ⟨y, u, rfl, rfl⟩
      · rw [key_rl] at h; exact SeqAt.EqAt.str_int x t j u _ _ _ _ h
      · rw [key_rr] at h; exact wpAny_eqBool_str h
  «strs» := fun k x t v h => by
    rcases keyIs_shape h with ⟨i, u, rfl, e⟩ | ⟨y, u, rfl, e⟩
    · exact nomatch e
    · injection e with e1 _
      subst e1
      cases v <;> rfl

end L2

namespace L2
open PySem PySem.Spec PyProof.Rows

/-- a value, without the heap -/
inductive V where
  | non | bl (b : Bool) | int (i : Int) | str (x : Str) | byt (b : Array UInt8) | flt (b : UInt64) | ref (a : Addr) | ty (n : String)
  deriving DecidableEq

def RelV : V → Value → Prop
  | .non, u => u = Value.none
  | .bl b, u => u = Value.bool b
  | .int i, u => ∃ t, u = Value.int i t
  | .str x, u => ∃ t, u = Value.str x t
  | .byt b, u => ∃ t, u = Value.bytes b t
  | .flt b, u => ∃ t, u = Value.float b t
  | .ref a, u => u = Value.ref a
  | .ty n, u => u = Value.type n

abbrev Vals : List V → List Value → Prop := Paired RelV
theorem Vals.length {xs : List V} {us : List Value} (r : Vals xs us) : xs.length = us.length := Paired.length r
theorem Vals.get : ∀ {xs : List V} {us : List Value} {i : Nat} {x : V}, Vals xs us → xs[i]? = some x → ∃ u, us[i]? = some u ∧ RelV x u
  | _, _, _, _, .nil, e => by simp at e
  | _, _, 0, _, .cons r _, e => by simp at e; subst e; exact ⟨_, rfl, r⟩
  | _, _, i + 1, x, .cons _ t, e => by
    obtain ⟨u, h1, h2⟩ := Vals.get (i := i) (x := x) t (by simpa using e)
    exact ⟨u, by simpa using h1, h2⟩
theorem Vals.set {x : V} {u : Value} (r : RelV x u) : ∀ {xs : List V} {us : List Value} (i : Nat), Vals xs us → Vals (xs.set i x) (us.set i u)
  | _, _, _, .nil => .nil
  | _, _, 0, .cons _ t => .cons r t
  | _, _, i + 1, .cons q t => .cons q (Vals.set r i t)
theorem Vals.append : ∀ {xs ys : List V} {us ws : List Value}, Vals xs us → Vals ys ws → Vals (xs ++ ys) (us ++ ws)
  | _, _, _, _, .nil, s => s
  | _, _, _, _, .cons r t, s => .cons r (Vals.append t s)
theorem Vals.take : ∀ {xs : List V} {us : List Value} (n : Nat), Vals xs us → Vals (xs.take n) (us.take n)
  | _, _, 0, _ => .nil
  | _, _, _ + 1, .nil => .nil
  | _, _, n + 1, .cons r t => .cons r (Vals.take n t)
theorem Vals.drop : ∀ {xs : List V} {us : List Value} (n : Nat), Vals xs us → Vals (xs.drop n) (us.drop n)
  | _, _, 0, r => r
  | _, _, _ + 1, .nil => .nil
  | _, _, n + 1, .cons _ t => Vals.drop n t

def RelO : Option V → Option Value → Prop
  | some v, some u => RelV v u
  | none, none => True
  | _, _ => False
def KV {κ : Type} : List (κ × V) → List (κ × Value) → Prop := Paired fun (p : κ × V) (q : κ × Value) => p.1 = q.1 ∧ RelV p.2 q.2

/-- a key of a dict (00_mix): an int or a text -/
def kV : Key → V
  | .inl i => .int i
  | .inr x => .str x

/-- what stands at a tracked address -/
inductive HO where
  /-- a list -/
  | lst (xs : List V)
  /-- a tuple (never changes) -/
  | tup (xs : List V)
  /-- a dict whose keys are ints and texts; one whose keys are tuples of ints and texts (the empty one is both) -/
  | dK (kvs : List (Key × V)) | dT (kvs : List (List Key × V))
  /-- a set of ints: its members, its size -/
  | set (S : Int → Bool) (n : Nat)
  /-- an instance of the class at C, its dict at dx, its attributes -/
  | ins (C dx : Addr) (fs : List (Str × V))
  /-- the dict of the instance at x -/
  | own (x : Addr)
  /-- the dict of an exception -/
  | xd (fs : List (Str × V))
  /-- a bound method, f of x -/
  | met (f x : Addr)
  /-- a range object lo, lo + 1, .. below hi -/
  | rng (lo hi : Int)
  /-- a thing that is known to the object (the script; a dict while a loop walks it): read, never written while it is so -/
  | frz (o : Obj) (u : HO)
  /-- a code object's table -/
  | tbl (ps : Array Value)
  /-- any other thing, by what is true of its one object (a def of one's own: SetO a S n := HO.ext fun h => ..) -/
  | ext (φ : Heap → Prop)

abbrev Hp := Addr → Option HO
def upd (H : Hp) (a : Addr) (o : HO) : Hp := fun b => if b = a then some o else H b
theorem upd_same {H : Hp} {a : Addr} {o : HO} : upd H a o a = some o := by unfold upd; rw [if_pos rfl]
theorem upd_ne {H : Hp} {a b : Addr} {o : HO} (h : b ≠ a) : upd H a o b = H b := by unfold upd; rw [if_neg h]
theorem upd_upd {H : Hp} {a : Addr} {o u : HO} : upd (upd H a o) a u = upd H a u := by
  funext b; unfold upd; split <;> rfl
/-- two objects of different content stand apart -/
theorem ne_of {H : Hp} {a b : Addr} {o u : HO} (h : H a = some o) (h' : H b = some u) (d : o ≠ u) : a ≠ b := by
  intro e; subst e; rw [h] at h'; exact d (Option.some.inj h')
theorem ne_of_none {H : Hp} {a b : Addr} {o : HO} (h : H a = some o) (h' : H b = none) : a ≠ b := by
  intro e; subst e; rw [h] at h'; cases h'

section
variable (P : Program) (w : World)
def ObjOk (H : Hp) (h : Heap) (a : Addr) : HO → Prop
  | .lst xs => xs.length ≤ sizeLine ∧ ∃ (its : List Value) (n : Nat), Vals xs its ∧ h.get? a = some { cls := .type "list", data := .seq its.toArray n }
  | .tup xs => xs.length ≤ sizeLine ∧ ∃ its : List Value, Vals xs its ∧ IsTup h a its.toArray
  | .dK kvs => kvs.length ≤ sizeLine ∧ (a == sysModules) = false ∧ ∃ vs, KV kvs vs ∧ h.DictOf (mixKind P w) a vs
  | .dT kvs => kvs.length ≤ sizeLine ∧ (a == sysModules) = false ∧ ∃ xs : List (List Key × Addr × Value),
      Paired (fun (p : List Key × V) (q : List Key × Addr × Value) => p.1 = q.1 ∧ H q.2.1 = some (.tup (p.1.map kV)) ∧ RelV p.2 q.2.2) kvs xs ∧
      ∃ o es ep, h.get? a = some o ∧ o.ExactDict ∧ o.data = .dict es ep ∧ es.toList = xs.map (entryOfKey (tupleKind (mixKind P w))) ∧ (xs.map (·.1)).Nodup
  | .set S n => h.SetOf (intKind P w) a S n
  | .ins C dx fs => H dx = some (.own a) ∧ fs.length ≤ 1000 ∧ dx ≠ a ∧ h.get? a = some (PySem.W.instObj C dx) ∧
      ∃ mA, h.Ns1 dx mA ∧ (∀ f, RelO (fs.lookup f) (mA f)) ∧ PySem.Within mA (fs.map (·.1))
  | .own _ => ∃ o, h.get? a = some o
  | .xd fs => ∃ mA, h.Ns1 a mA ∧ ∀ f, RelO (fs.lookup f) (mA f)
  | .rng lo hi => ∃ t u v, h.get? a = some { cls := .type "range", data := .fields #[.int lo t, .int hi u, .int 1 v] }
  | .frz o u => h.get? a = some o ∧ ObjOk H h a u
  | .tbl ps => h.get? a = some { cls := .none, data := .fields ps }
  | .met f x => h.get? a = some (PySem.W.methodObj (.ref f) (.ref x))
  | .ext φ => φ h ∧ (∃ o, h.get? a = some o) ∧ ∀ h1 h2 : Heap, φ h1 → (∀ o, h1.get? a = some o → h2.get? a = some o) → φ h2
/-- the abstract heap is held -/
def HOk (H : Hp) (h : Heap) : Prop := ∀ a o, H a = some o → ObjOk P w H h a o
end

section
variable {P : Program} {w : World} {H H' : Hp} {h h' : Heap} {a : Addr} {o : HO}
theorem ObjOk.lt (x : ObjOk P w H h a o) : a < h.objs.size := by
  cases o with
  | lst xs => obtain ⟨_, _, _, _, e⟩ := x; exact Heap.lt_size e
  | tup xs => obtain ⟨_, _, _, p⟩ := x; exact p.lt
  | dK kvs => obtain ⟨_, _, _, _, o, _, _, e, _⟩ := x; exact Heap.lt_size e
  | dT kvs => obtain ⟨_, _, _, _, o, _, _, e, _⟩ := x; exact Heap.lt_size e
  | set S n => obtain ⟨o, _, _, _, e, _⟩ := x; exact Heap.lt_size e
  | ins C dx fs => obtain ⟨_, _, _, e, _⟩ := x; exact Heap.lt_size e
  | own y => obtain ⟨_, e⟩ := x; exact Heap.lt_size e
  | xd fs => obtain ⟨_, ⟨_, _, _, e, _⟩, _⟩ := x; exact Heap.lt_size e
  | rng lo hi => obtain ⟨_, _, _, e⟩ := x; exact Heap.lt_size e
  | frz ob u => obtain ⟨e, _⟩ := x; exact Heap.lt_size e
  | tbl ps => exact Heap.lt_size (show h.get? a = some _ from x)
  | met f y => exact Heap.lt_size (show h.get? a = some _ from x)
  | ext φ => obtain ⟨_, ⟨_, e⟩, _⟩ := x; exact Heap.lt_size e
theorem Paired.mapP {α β : Type} {F G : α → β → Prop} : ∀ {l₁ : List α} {l₂ : List β}, Paired F l₁ l₂ → (∀ a b, F a b → G a b) → Paired G l₁ l₂
  | _, _, .nil, _ => .nil
  | _, _, .cons r t, f => .cons (f _ _ r) (Paired.mapP t f)
/-- what an object's description leans on: its own object, its own dict, the tuples -/
theorem ObjOk.stay (x : ObjOk P w H h a o) (k : ∀ b u, (b = a ∨ H b = some (.own a)) → h.get? b = some u → h'.get? b = some u)
    (ho : ∀ b, H b = some (.own a) → H' b = some (.own a)) (ht : ∀ b xs, H b = some (.tup xs) → H' b = some (.tup xs)) : ObjOk P w H' h' a o := by
  induction o with
  | lst xs => obtain ⟨z, its, n, r, e⟩ := x; exact ⟨z, its, n, r, k _ _ (.inl rfl) e⟩
  | tup xs => obtain ⟨z, its, r, ob, e, c⟩ := x; exact ⟨z, its, r, ob, k _ _ (.inl rfl) e, c⟩
  | dK kvs => obtain ⟨z, y, vs, r, ob, es, ep, e, c⟩ := x; exact ⟨z, y, vs, r, ob, es, ep, k _ _ (.inl rfl) e, c⟩
  | dT kvs =>
    obtain ⟨z, y, xs, r, ob, es, ep, e, c⟩ := x
    exact ⟨z, y, xs, Paired.mapP r fun p q z => ⟨z.1, ht _ _ z.2.1, z.2.2⟩, ob, es, ep, k _ _ (.inl rfl) e, c⟩
  | set S n => obtain ⟨ob, es, ep, t, e, c⟩ := x; exact ⟨ob, es, ep, t, k _ _ (.inl rfl) e, c⟩
  | ins C dx fs =>
    obtain ⟨d, z, ne, e, mA, ⟨od, es, ep, e2, c⟩, r⟩ := x
    exact ⟨ho _ d, z, ne, k _ _ (.inl rfl) e, mA, ⟨od, es, ep, k _ _ (.inr d) e2, c⟩, r⟩
  | own y => obtain ⟨ob, e⟩ := x; exact ⟨ob, k _ _ (.inl rfl) e⟩
  | xd fs => obtain ⟨mA, ⟨od, es, ep, e, c⟩, r⟩ := x; exact ⟨mA, ⟨od, es, ep, k _ _ (.inl rfl) e, c⟩, r⟩
  | rng lo hi => obtain ⟨t, u, v, e⟩ := x; exact ⟨t, u, v, k _ _ (.inl rfl) e⟩
  | frz ob u ih => obtain ⟨e, q⟩ := x; exact ⟨k _ _ (.inl rfl) e, ih q⟩
  | tbl ps =>
    have e : h.get? a = some { cls := .none, data := .fields ps } := x
    show h'.get? a = some { cls := .none, data := .fields ps }
    exact k a _ (.inl rfl) e
  | met f y =>
    have e : h.get? a = some (PySem.W.methodObj (.ref f) (.ref y)) := x
    show h'.get? a = some (PySem.W.methodObj (.ref f) (.ref y))
    exact k a _ (.inl rfl) e
  | ext φ => obtain ⟨p, ⟨o, e⟩, st⟩ := x; exact ⟨st _ _ p fun o q => k _ _ (.inl rfl) q, ⟨o, k _ _ (.inl rfl) e⟩, st⟩
theorem HOk.lt (x : HOk P w H h) (e : H a = some o) : a < h.objs.size := (x a o e).lt
theorem HOk.fresh (x : HOk P w H h) (e : h.objs.size ≤ a) : H a = none := by
  cases q : H a with
  | none => rfl
  | some u => exact absurd (Nat.lt_of_lt_of_le (x.lt q) e) (Nat.lt_irrefl _)
/-- every object of the heap is kept -/
theorem HOk.kept (x : HOk P w H h) (k : ∀ b u, h.get? b = some u → h'.get? b = some u) : HOk P w H h' := fun a o e =>
  (x a o e).stay (fun b u _ q => k b u q) (fun _ q => q) fun _ _ q => q
/-- a new object is laid and tracked -/
theorem HOk.laid (x : HOk P w H h) (k : ∀ b u, h.get? b = some u → h'.get? b = some u) (hp : h.objs.size ≤ a) (new : ObjOk P w (upd H a o) h' a o) : HOk P w (upd H a o) h' := fun b u e => by
  have hn := x.fresh hp
  by_cases hb : b = a
  · subst hb; rw [upd_same] at e; cases e; exact new
  · rw [upd_ne hb] at e
    exact (x b u e).stay (fun c v _ q => k c v q) (fun c q => by rw [upd_ne (ne_of_none q hn)]; exact q) fun c xs q => by rw [upd_ne (ne_of_none q hn)]; exact q
end

/-- what may be read as u: it is u, or a known u -/
def Rd (H : Hp) (a : Addr) (u : HO) : Prop := H a = some u ∨ ∃ o, H a = some (.frz o u)
theorem Rd.ok {P : Program} {w : World} {H : Hp} {h : Heap} {a : Addr} {u : HO} (r : Rd H a u) (x : HOk P w H h) : ObjOk P w H h a u := by
  rcases r with r | ⟨o, r⟩
  · exact x a u r
  · obtain ⟨_, q⟩ := x a _ r
    exact q
/-- what may be written -/
def Mut : Option HO → Prop
  | some (.lst _) => True
  | some (.dK _) => True
  | some (.dT _) => True
  | some (.set _ _) => True
  | some (.ins _ _ _) => True
  | some (.ext _) => True
  | _ => False
section
variable {P : Program} {w : World} {H : Hp} {h h' : Heap} {x e : Addr} {o' : HO}
/-- the object at e is changed: x itself, or the dict of the instance x -/
theorem HOk.write (ok : HOk P w H h) (mu : Mut (H x)) (he : e = x ∨ H e = some (.own x)) (k : ∀ b u, b ≠ e → h.get? b = some u → h'.get? b = some u) (heo : ∃ u, h'.get? e = some u)
    (new : ObjOk P w (upd H x o') h' x o') : HOk P w (upd H x o') h' := fun b u q => by
  have nown : ∀ c y, H c = some (.own y) → c ≠ x := fun c y r z => by subst z; rw [r] at mu; exact mu
  have ntup : ∀ c xs, H c = some (.tup xs) → c ≠ x := fun c xs r z => by subst z; rw [r] at mu; exact mu
  by_cases hb : b = x
  · subst hb; rw [upd_same] at q; cases q; exact new
  · rw [upd_ne hb] at q
    by_cases hbe : b = e
    · have q' : H b = some (.own x) := by
        rcases he with z | z
        · exact absurd (hbe.trans z) hb
        · rw [hbe]; exact z
      rw [q] at q'; cases q'
      obtain ⟨v, hv⟩ := heo
      exact ⟨v, by rw [hbe]; exact hv⟩
    · refine (ok b u q).stay (fun c v hc r => k c v ?_ r) (fun c r => by rw [upd_ne (nown c b r)]; exact r) fun c xs r => by rw [upd_ne (ntup c xs r)]; exact r
      rcases hc with rfl | hc
      · exact hbe
      · rintro rfl
        rcases he with z | z
        · exact nown c b hc z
        · rw [hc] at z; cases z; exact hb rfl
end

/-! ### kept unless tracked; of the frames at fs (the callers') the slots may change (an exception that passes writes there); of the records at ex (iterators) nothing is said -/
structure Un (fs ex : List Addr) (H H' : Hp) (h h' : Heap) : Prop where
  keep : ∀ b o, h.get? b = some o → H b = none → b ∉ fs → b ∉ ex → h'.get? b = some o
  slot : ∀ b o, h.get? b = some o → H b = none → b ∈ fs → b ∉ ex → ∃ sl, h'.get? b = some { o with slots := sl }
  free : ∀ b o, h.get? b = some o → H b = none → b ∉ ex → H' b = none
  there : ∀ b o, h.get? b = some o → b ∉ ex → ∃ o', h'.get? b = some o'
  tups : ∀ b xs, H b = some (.tup xs) → H' b = some (.tup xs)
  frzs : ∀ b o u, H b = some (.frz o u) → H' b = some (.frz o u)
  tbls : ∀ b ps, H b = some (.tbl ps) → ∃ more, H' b = some (.tbl (ps ++ more))
section
variable {fs fs' ex ex' : List Addr} {H H1 H2 : Hp} {h h1 h2 h' : Heap} {a x e : Addr} {o : HO}
theorem Un.any (u : Un fs ex H H1 h h1) {b : Addr} {ob : Obj} (q : h.get? b = some ob) (n : H b = none) (hx : b ∉ ex) : ∃ sl, h1.get? b = some { ob with slots := sl } := by
  by_cases hb : b ∈ fs
  · exact u.slot b ob q n hb hx
  · exact ⟨ob.slots, u.keep b ob q n hb hx⟩
theorem Un.kept (k : ∀ b u, h.get? b = some u → h'.get? b = some u) : Un fs ex H H h h' :=
  ⟨fun b ob q _ _ _ => k b ob q, fun b ob q _ _ _ => ⟨ob.slots, k b ob q⟩, fun _ _ _ n _ => n, fun b ob q _ => ⟨ob, k b ob q⟩, fun _ _ q => q, fun _ _ _ q => q, fun _ ps q => ⟨#[], by rw [q]; simp⟩⟩
theorem Un.refl : Un fs ex H H h h := Un.kept fun _ _ q => q
theorem Un.laid (k : ∀ b u, h.get? b = some u → h'.get? b = some u) (hp : h.objs.size ≤ a) (hn : H a = none) : Un fs ex H (upd H a o) h h' where
  keep := fun b u q _ _ _ => k b u q
  slot := fun b u q _ _ _ => ⟨u.slots, k b u q⟩
  free := fun b u q n _ => by rw [upd_ne (Nat.ne_of_lt (Nat.lt_of_lt_of_le (Heap.lt_size q) hp))]; exact n
  there := fun b u q _ => ⟨u, k b u q⟩
  tups := fun b xs q => by rw [upd_ne (ne_of_none q hn)]; exact q
  frzs := fun b u xs q => by rw [upd_ne (ne_of_none q hn)]; exact q
  tbls := fun b ps q => ⟨#[], by rw [upd_ne (ne_of_none q hn), q]; simp⟩
theorem Un.write (mu : Mut (H x)) (he : e = x ∨ H e = some (.own x)) (k : ∀ b u, b ≠ e → h.get? b = some u → h'.get? b = some u) (heo : ∃ u, h'.get? e = some u) : Un fs ex H (upd H x o) h h' := by
  have hx : ∀ b, H b = none → b ≠ x := fun b n z => by subst z; rw [n] at mu; exact mu
  have hb : ∀ b, H b = none → b ≠ e := fun b n z => by
    subst z
    rcases he with r | r
    · exact hx b n r
    · rw [n] at r; cases r
  have hm : ∀ b u, H b = some u → ¬ Mut (some u) → b ≠ x := fun b u q nm z => by subst z; rw [q] at mu; exact nm mu
  refine ⟨fun b u q n _ _ => k b u (hb b n) q, fun b u q n _ _ => ⟨u.slots, k b u (hb b n) q⟩, fun b u q n _ => by rw [upd_ne (hx b n)]; exact n, fun b u q _ => ?_,
    fun b xs q => by rw [upd_ne (hm b _ q fun z => z)]; exact q, fun b u xs q => by rw [upd_ne (hm b _ q fun z => z)]; exact q, fun b ps q => ⟨#[], by rw [upd_ne (hm b _ q fun z => z), q]; simp⟩⟩
  by_cases hbe : b = e
  · subst hbe; exact heo
  · exact ⟨u, k b u hbe q⟩
end

/-! ### the heap without what is tracked -/
def trk (h : Heap) (H : Hp) : List Addr := (List.range h.objs.size).filter fun a => (H a).isSome
def hidT (h : Heap) (H : Hp) : Heap := PySem.W.hideAll h (trk h H)
theorem hidT_size (h : Heap) (H : Hp) : (hidT h H).objs.size = h.objs.size := PySem.W.hideAll_size _ _
theorem hidT_get {h : Heap} {H : Hp} {b : Addr} {o : Obj} (e : h.get? b = some o) (n : H b = none) : (hidT h H).get? b = some o :=
  PySem.W.hideAll_get _ e fun hm => by
    have q : (H b).isSome = true := (List.mem_filter.mp hm).2
    rw [n] at q; simp at q
theorem of_hidT {h : Heap} {H : Hp} {b : Addr} {o : Obj} (e : (hidT h H).get? b = some o) : h.get? b = some o ∧ H b = none := by
  have e' : h.get? b = some o := PySem.W.of_hideAll (trk h H) e
  refine ⟨e', ?_⟩
  cases q : H b with
  | none => rfl
  | some x =>
    have hm : b ∈ trk h H := List.mem_filter.mpr ⟨List.mem_range.mpr (Heap.lt_size e'), by simp [q]⟩
    have z : (hidT h H).get? b = none := PySem.W.hideAll_none (trk h H) hm
    rw [z] at e; cases e

/-! ### OpenK's ledger, filled with every new object but one -/
end L2

namespace L2
open PySem PySem.Spec PyProof.Rows

/-- the module's facts, over the base: the heap at the law's entry without what is tracked there -/
structure Mod (K : PySem.W.Frag) (mg : Str → Option Value) (base : Heap) : Prop where
  kin : K.In base
  glob : base.Ns mainGlobals mg
  blt : ∃ mb, base.Ns builtinsNs mb ∧ ∀ x : Str, x ≠ "__name__" → mb x = bootBuiltins x
  nolimit : base.NoLimit

/-- the context: a def's body (or a comprehension's block) running. base: fixed through the whole law; s₀, H₀: the entry; outer: the frames whose slots others may change (a def's callers); stack: all frames that run;
   ex: iterators that were made ahead of the entry and are walked here (a comprehension's); fn: the names whose cells were made at the entry (a def: all; a comprehension's block: its own); calm: not within an except suite; pn: pins that every state bears; xe: what is wanted of an exception that leaves the code -/
structure Cx where
  prog : Program
  w : World
  K : PySem.W.Frag
  mg : Str → Option Value
  base : Heap
  A : Around
  N : List Str
  s_0 : Shared
  H_0 : Hp
  env : Env
  outer : List Env
  stack : List Env
  ex : List Addr
  fn : Str → Bool
  calm : Bool
  pn : List (Addr × Obj)
  xe : Value → Shared → Prop
/-- the callers' frames -/
def frs (l : List Env) : List Addr := l.filterMap (·.frame)
abbrev Cx.fs (X : Cx) : List Addr := frs X.outer

def Vis (sc : Scope) (x : Str) : Prop := sc.names.lookup x = some .local ∨ sc.names.lookup x = some .cell ∨ sc.names.lookup x = some .free
def Loc (sc : Scope) (x : Str) : Prop := sc.names.lookup x = some .local ∨ sc.names.lookup x = some .cell
def Look (env : Env) (h : Heap) (m : Str → Option Value) (x : Str) (u : Value) : Prop :=
  (env.kindOf x = some .local ∧ m x = some u) ∨ ((env.kindOf x = some .cell ∨ env.kindOf x = some .free) ∧ ∃ c, env.cells.lookup x = some c ∧ h.IsCell c (some u))

structure Cx.Ok (X : Cx) : Prop where
  mod : Mod X.K X.mg X.base
  kind : X.env.scope.kind = .function
  glob : X.env.globals = mainGlobals
  blt : X.env.builtins = builtinsNs
  above : X.s_0.heap.objs.size ≤ X.env.locals
  inj : ∀ x y c, X.env.cells.lookup x = some c → X.env.cells.lookup y = some c → x = y
  has : ∀ x, (X.env.kindOf x = some .cell ∨ X.env.kindOf x = some .free) → ∃ c, X.env.cells.lookup x = some c
  cab : ∀ x c, X.fn x = true → X.env.cells.lookup x = some c → X.s_0.heap.objs.size ≤ c
  hd : X.calm = true → X.A.handled = none
  frames : X.A.frames = some X.stack
  stk : X.stack = X.outer ∨ (X.stack = X.env :: X.outer ∧ X.env.frame = some X.env.locals)
  exf : ∀ b ∈ X.ex, b ≠ X.env.locals ∧ ∀ x c, X.env.cells.lookup x = some c → c ≠ b
  bs : ∀ b o, X.base.get? b = some o → X.s_0.heap.get? b = some o ∧ X.H_0 b = none
  bsz : X.base.objs.size ≤ X.s_0.heap.objs.size
  noex : ∀ b o, X.base.get? b = some o → b ∉ X.ex
  exfs : ∀ b ∈ X.ex, b ∉ X.fs
  funs : X.s_0.heap.FunFrames X.base X.outer
  frf : ∀ b ∈ X.fs, X.H_0 b = none

structure Inv (X : Cx) (pins : List (Addr × Obj)) (σ : List (Option V)) (H : Hp) (s : Shared) : Prop where
  ok : X.Ok
  os : s.os = X.s_0.os
  bare : AllBare s.gens
  base : Un X.fs X.ex X.H_0 H X.s_0.heap s.heap
  loc : ∃ m, s.heap.Ns X.env.locals m ∧ ∀ (i : Nat) (x : Str) (v : V), X.N[i]? = some x → σ[i]? = some (some v) → Vis X.env.scope x → ∃ u, RelV v u ∧ Look X.env s.heap m x u
  cell : ∀ x c, X.env.cells.lookup x = some c → ∃ v, s.heap.IsCell c v
  free : H X.env.locals = none
  freeC : ∀ x c, X.env.cells.lookup x = some c → H c = none
  pin : ∀ p ∈ X.pn ++ pins, s.heap.get? p.1 = some p.2 ∧ H p.1 = none ∧ p.1 ≠ X.env.locals ∧ p.1 ∉ X.fs ∧ ∀ v, p.2.data ≠ .cell v
  hok : HOk X.prog X.w H s.heap
  len : σ.length = X.N.length

section
variable {X : Cx} {pins : List (Addr × Obj)} {σ : List (Option V)} {H H' : Hp} {s : Shared} {h' : Heap}

theorem Cx.Ok.nofr (ok : X.Ok) {b : Addr} {o : Obj} (e : X.base.get? b = some o) : b ∉ X.fs := fun hb => by
  have := (ok.funs.mem hb).1
  rw [e] at this; cases this
theorem Inv.bs (I : Inv X pins σ H s) : ∀ b o, X.base.get? b = some o → s.heap.get? b = some o ∧ H b = none := fun b o e =>
  ⟨I.base.keep b o (I.ok.bs b o e).1 (I.ok.bs b o e).2 (I.ok.nofr e) (I.ok.noex b o e), I.base.free b o (I.ok.bs b o e).1 (I.ok.bs b o e).2 (I.ok.noex b o e)⟩
theorem Inv.bk (I : Inv X pins σ H s) : ∀ b o, X.base.get? b = some o → s.heap.get? b = some o := fun b o e => (I.bs b o e).1
theorem Inv.mod (I : Inv X pins σ H s) : Mod X.K X.mg X.base := I.ok.mod
theorem Inv.kIn (I : Inv X pins σ H s) : X.K.In s.heap := I.ok.mod.kin.keeps I.bk
theorem Inv.lt (I : Inv X pins σ H s) : X.env.locals < s.heap.objs.size := let ⟨_, hn, _⟩ := I.loc; hn.lt
theorem Inv.sz (I : Inv X pins σ H s) : X.s_0.heap.objs.size ≤ s.heap.objs.size := Nat.le_trans I.ok.above (Nat.le_of_lt I.lt)
theorem Inv.nofs (I : Inv X pins σ H s) {a : Addr} (h : s.heap.objs.size ≤ a) : a ∉ X.fs := fun hb => by
  obtain ⟨_, o, ho, _⟩ := I.ok.funs.mem hb
  exact absurd (Nat.lt_of_lt_of_le (Heap.lt_size ho) (Nat.le_trans I.sz h)) (Nat.lt_irrefl _)
theorem Inv.cne (I : Inv X pins σ H s) : ∀ x c, X.env.cells.lookup x = some c → c ≠ X.env.locals := fun x c e z => by
  obtain ⟨v, o, ho, hd⟩ := I.cell x c e
  obtain ⟨m, ⟨o', es, ep, ho', hd', _⟩, _⟩ := I.loc
  rw [z, ho'] at ho; cases ho; rw [hd'] at hd; cases hd
theorem Inv.funs (I : Inv X pins σ H s) : s.heap.FunFrames X.base X.outer := by
  have all : ∀ (l : List Env), (∀ b ∈ frs l, b ∈ X.fs) → X.s_0.heap.FunFrames X.base l → s.heap.FunFrames X.base l := by
    intro l
    induction l with
    | nil => intro _ _; trivial
    | cons env r ih =>
      intro hs hl
      obtain ⟨hk, ⟨L, o, hf, hn, ho, hd⟩, hr⟩ := hl
      have hL : L ∈ X.fs := hs L (by unfold frs; rw [List.filterMap_cons, hf]; exact List.mem_cons_self)
      obtain ⟨sl, e⟩ := I.base.slot L o ho (I.ok.frf L hL) hL fun z => I.ok.exfs L z hL
      exact ⟨hk, ⟨L, _, hf, hn, e, hd⟩, ih (fun b hb => hs b (by unfold frs; rw [List.filterMap_cons, hf]; exact List.mem_cons_of_mem _ hb)) hr⟩
  exact all X.outer (fun _ hb => hb) I.ok.funs

/-- the frames that run, for a call -/
theorem Inv.stack (I : Inv X pins σ H s) : s.heap.FunFrames X.base X.stack := by
  rcases I.ok.stk with e | ⟨e, hf⟩
  · rw [e]; exact I.funs
  · rw [e]
    obtain ⟨m, hn, _⟩ := I.loc
    refine .cons (by rw [I.ok.kind]; decide) hf hn ?_ I.funs
    exact Heap.get?_none_of_le (Nat.le_trans I.ok.bsz I.ok.above)
theorem Inv.stkSub (I : Inv X pins σ H s) : ∀ b ∈ frs X.stack, b ∈ X.env.locals :: X.fs := fun b hb => by
  rcases I.ok.stk with e | ⟨e, hf⟩
  · rw [e] at hb; exact List.mem_cons_of_mem _ hb
  · rw [e] at hb
    unfold frs at hb
    rw [List.filterMap_cons, hf] at hb
    exact hb
theorem Inv.stkFree (I : Inv X pins σ H s) : ∀ b ∈ frs X.stack, H b = none := fun b hb => by
  rcases List.mem_cons.mp (I.stkSub b hb) with e | hb
  · rw [e]; exact I.free
  · obtain ⟨_, o, ho, _⟩ := I.ok.funs.mem hb
    exact I.base.free b o ho (I.ok.frf b hb) fun z => I.ok.exfs b z hb

/-- THE STEP: the untracked objects but the frame and the records at ch are kept (the callers' frames up to slots), the frame's map is kept, the new abstract heap is held -/
theorem Inv.step {g' : Array GenState} {t' : Nat} {d' : Drawn} {ch : List Addr} (I : Inv X pins σ H s)
    (hch : ∀ b ∈ ch, (b ∈ X.ex ∨ X.s_0.heap.objs.size ≤ b) ∧ b ≠ X.env.locals ∧ (∀ x c, X.env.cells.lookup x = some c → c ≠ b) ∧ ∀ p ∈ X.pn ++ pins, p.1 ≠ b)
    (keep : ∀ b o, b ≠ X.env.locals → b ∉ X.fs → b ∉ ch → s.heap.get? b = some o → H b = none → h'.get? b = some o)
    (slot : ∀ b o, b ≠ X.env.locals → b ∈ X.fs → b ∉ ch → s.heap.get? b = some o → H b = none → ∃ sl, h'.get? b = some { o with slots := sl }) (free : ∀ b o, b ∉ ch → s.heap.get? b = some o → H b = none → H' b = none)
    (there : ∀ b o, b ∉ ch → s.heap.get? b = some o → ∃ o', h'.get? b = some o')
    (tups : ∀ b xs, H b = some (.tup xs) → H' b = some (.tup xs)) (frzs : ∀ b o u, H b = some (.frz o u) → H' b = some (.frz o u)) (tbls : ∀ b ps, H b = some (.tbl ps) → ∃ more, H' b = some (.tbl (ps ++ more)))
    (ns : ∀ m, s.heap.Ns X.env.locals m → h'.Ns X.env.locals m) (hok : HOk X.prog X.w H' h') (hg : AllBare g') :
    Inv X pins σ H' { s with heap := h', gens := g', drawn := d', toks := t' } := by
  have neL : ∀ b o, X.s_0.heap.get? b = some o → b ≠ X.env.locals := fun b o e => Nat.ne_of_lt (Nat.lt_of_lt_of_le (Heap.lt_size e) I.ok.above)
  have neC : ∀ b o, X.s_0.heap.get? b = some o → b ∉ X.ex → b ∉ ch := fun b o e hx hb => by
    rcases (hch b hb).1 with z | z
    · exact hx z
    · exact absurd (Nat.lt_of_lt_of_le (Heap.lt_size e) z) (Nat.lt_irrefl _)
  have cellK : ∀ x c, X.env.cells.lookup x = some c → ∀ v, s.heap.IsCell c v → h'.IsCell c v := fun x c e v ⟨o, ho, hd⟩ => by
    have nch : c ∉ ch := fun z => (hch c z).2.2.1 x c e rfl
    by_cases hc : c ∈ X.fs
    · obtain ⟨sl, q⟩ := slot c o (I.cne x c e) hc nch ho (I.freeC x c e)
      exact ⟨_, q, hd⟩
    · exact ⟨o, keep c o (I.cne x c e) hc nch ho (I.freeC x c e), hd⟩
  refine ⟨I.ok, I.os, hg, ⟨fun b o e n hb hx => ?_, fun b o e n hb hx => ?_, fun b o e n hx => ?_, fun b o e hx => ?_, fun b xs e => tups b xs (I.base.tups b xs e), fun b o xs e => frzs b o xs (I.base.frzs b o xs e), fun b ps e => ?_⟩, ?_, fun x c e => ?_, ?_, fun x c e => ?_, fun p hp => ?_, hok, I.len⟩
  · exact keep b o (neL b o e) hb (neC b o e hx) (I.base.keep b o e n hb hx) (I.base.free b o e n hx)
  · obtain ⟨sl, e1⟩ := I.base.slot b o e n hb hx
    obtain ⟨sl', e2⟩ := slot b _ (neL b o e) hb (neC b o e hx) e1 (I.base.free b o e n hx)
    exact ⟨sl', e2⟩
  · obtain ⟨o', e1⟩ := I.base.there b o e hx
    exact free b o' (neC b o e hx) e1 (I.base.free b o e n hx)
  · obtain ⟨o', e1⟩ := I.base.there b o e hx
    exact there b o' (neC b o e hx) e1
  · obtain ⟨m1, e1⟩ := I.base.tbls b ps e
    obtain ⟨m2, e2⟩ := tbls b _ e1
    exact ⟨m1 ++ m2, by rw [e2, Array.append_assoc]⟩
  · obtain ⟨m, hn, hl⟩ := I.loc
    refine ⟨m, ns m hn, fun i x v e1 e2 e3 => ?_⟩
    obtain ⟨u, r, l⟩ := hl i x v e1 e2 e3
    refine ⟨u, r, ?_⟩
    rcases l with l | ⟨k, c, e, z⟩
    · exact .inl l
    · exact .inr ⟨k, c, e, cellK x c e _ z⟩
  · obtain ⟨v, z⟩ := I.cell x c e
    exact ⟨v, cellK x c e v z⟩
  · obtain ⟨m, ⟨o, _, _, ho, _⟩, _⟩ := I.loc
    exact free _ o (fun z => (hch _ z).2.1 rfl) ho I.free
  · obtain ⟨v, o, ho, hd⟩ := I.cell x c e
    exact free c o (fun z => (hch c z).2.2.1 x c e rfl) ho (I.freeC x c e)
  · obtain ⟨e, n, ne, nf, d⟩ := I.pin p hp
    have nch : p.1 ∉ ch := fun z => (hch p.1 z).2.2.2 p hp rfl
    exact ⟨keep p.1 p.2 ne nf nch e n, free p.1 p.2 nch e n, ne, nf, d⟩
/-- .. where the frame's own object is kept too -/
theorem Inv.un {t' : Nat} (I : Inv X pins σ H s) (u : Un X.fs [] H H' s.heap h') (hok : HOk X.prog X.w H' h') : Inv X pins σ H' { s with heap := h', toks := t' } := by
  obtain ⟨m, ⟨o, es, ep, ho, r⟩, _⟩ := id I.loc
  obtain ⟨sl, hL⟩ := u.any ho I.free (by simp)
  exact I.step (g' := s.gens) (d' := s.drawn) (ch := []) (fun _ z => nomatch z) (fun b o _ hb _ e n => u.keep b o e n hb (by simp)) (fun b o _ hb _ e n => u.slot b o e n hb (by simp)) (fun b o _ e n => u.free b o e n (by simp)) (fun b o _ e => u.there b o e (by simp)) u.tups u.frzs u.tbls (fun m' hm => by
    obtain ⟨o', es', ep', ho', r'⟩ := hm
    rw [ho] at ho'; cases ho'
    exact ⟨_, es', ep', hL, r'⟩) hok I.bare
/-- behind a call (or a comprehension's block): the slots of this frame may have changed too, the records at ch may have turned -/
theorem Inv.call {g' : Array GenState} {t' : Nat} {d' : Drawn} {ch : List Addr} (I : Inv X pins σ H s) (u : Un (frs X.stack) ch H H' s.heap h') (hok : HOk X.prog X.w H' h') (hg : AllBare g')
    (hch : ∀ b ∈ ch, (b ∈ X.ex ∨ X.s_0.heap.objs.size ≤ b) ∧ b ≠ X.env.locals ∧ (∀ x c, X.env.cells.lookup x = some c → c ≠ b) ∧ ∀ p ∈ X.pn ++ pins, p.1 ≠ b) :
    Inv X pins σ H' { s with heap := h', gens := g', drawn := d', toks := t' } := by
  obtain ⟨m, ⟨o, es, ep, ho, r⟩, _⟩ := id I.loc
  obtain ⟨sl, hL⟩ := u.any ho I.free fun z => (hch _ z).2.1 rfl
  exact I.step (ch := ch) hch (fun b o hL hb hc e n => u.keep b o e n (fun z => (List.mem_cons.mp (I.stkSub b z)).elim hL hb) hc) (fun b o _ _ hc e n => u.any e n hc) (fun b o hc e n => u.free b o e n hc) (fun b o hc e => u.there b o e hc) u.tups u.frzs u.tbls (fun m' hm => by
    obtain ⟨o', es', ep', ho', r'⟩ := hm
    rw [ho] at ho'; cases ho'
    exact ⟨_, es', ep', hL, r'⟩) hok hg
/-- an untracked record of ours (an iterator) has turned -/
theorem Inv.turned {t' : Nat} {it : Addr} (I : Inv X pins σ H s) (k : ∀ b o, b ≠ it → s.heap.get? b = some o → h'.get? b = some o) (hn : H it = none) (hL : it ≠ X.env.locals)
    (h1 : it ∈ X.ex ∨ X.s_0.heap.objs.size ≤ it) (h2 : ∀ x c, X.env.cells.lookup x = some c → c ≠ it) (h3 : ∀ p ∈ X.pn ++ pins, p.1 ≠ it) : Inv X pins σ H { s with heap := h', toks := t' } := by
  have nit : ∀ b u, H b = some u → b ≠ it := fun b u e z => by rw [z, hn] at e; cases e
  refine I.step (g' := s.gens) (d' := s.drawn) (ch := [it]) (fun b hb => ?_) (fun b o _ _ hc e _ => k b o (fun z => hc (by simp [z])) e) (fun b o _ _ hc e _ => ⟨o.slots, k b o (fun z => hc (by simp [z])) e⟩) (fun _ _ _ _ n => n)
    (fun b o hc e => ⟨o, k b o (fun z => hc (by simp [z])) e⟩) (fun _ _ e => e) (fun _ _ _ e => e) (fun b ps e => ⟨#[], by rw [e]; simp⟩) (fun m hm => ?_) (fun b u e => ?_) I.bare
  · have e : b = it := by simpa using hb
    subst e
    exact ⟨h1, hL, h2, h3⟩
  · obtain ⟨o, es, ep, ho, r⟩ := hm
    exact ⟨o, es, ep, k _ o (Ne.symm hL) ho, r⟩
  · refine (I.hok b u e).stay (fun c v hc q => k c v ?_ q) (fun _ q => q) fun _ _ q => q
    rcases hc with z | z
    · rw [z]; exact nit b u e
    · exact nit c _ z
theorem Inv.tok (I : Inv X pins σ H s) (t : Nat) : Inv X pins σ H { s with toks := t } := I.un (h' := s.heap) (t' := t) Un.refl I.hok
/-- all objects kept -/
theorem Inv.kept {t' : Nat} (I : Inv X pins σ H s) (k : ∀ b u, s.heap.get? b = some u → h'.get? b = some u) : Inv X pins σ H { s with heap := h', toks := t' } := I.un (Un.kept k) (I.hok.kept k)
/-- a new object laid and tracked -/
theorem Inv.laid {a : Addr} {o : HO} {t' : Nat} (I : Inv X pins σ H s) (k : ∀ b u, s.heap.get? b = some u → h'.get? b = some u) (hp : s.heap.objs.size ≤ a) (new : ObjOk X.prog X.w (upd H a o) h' a o) :
    Inv X pins σ (upd H a o) { s with heap := h', toks := t' } := I.un (Un.laid k hp (I.hok.fresh hp)) (I.hok.laid k hp new)
/-- an object written -/
theorem Inv.write {x e : Addr} {o : HO} {t' : Nat} (I : Inv X pins σ H s) (mu : Mut (H x)) (he : e = x ∨ H e = some (.own x)) (k : ∀ b u, b ≠ e → s.heap.get? b = some u → h'.get? b = some u) (heo : ∃ u, h'.get? e = some u)
    (new : ObjOk X.prog X.w (upd H x o) h' x o) : Inv X pins σ (upd H x o) { s with heap := h', toks := t' } := I.un (Un.write mu he k heo) (I.hok.write mu he k heo new)
/-- forgetting slots, pins -/
theorem Inv.weak {σ' : List (Option V)} (I : Inv X pins σ H s) (hl : σ'.length = σ.length) (w : ∀ (i : Nat) v, σ'[i]? = some (some v) → σ[i]? = some (some v)) : Inv X pins σ' H s :=
  ⟨I.ok, I.os, I.bare, I.base, let ⟨m, hn, hl'⟩ := I.loc; ⟨m, hn, fun i x v e1 e2 e3 => hl' i x v e1 (w i v e2) e3⟩, I.cell, I.free, I.freeC, I.pin, I.hok, hl.trans I.len⟩
theorem Inv.pins_of {pins' : List (Addr × Obj)} (I : Inv X pins σ H s) (h : ∀ p ∈ pins', s.heap.get? p.1 = some p.2 ∧ H p.1 = none ∧ p.1 ≠ X.env.locals ∧ p.1 ∉ X.fs ∧ ∀ v, p.2.data ≠ .cell v) : Inv X pins' σ H s :=
  ⟨I.ok, I.os, I.bare, I.base, I.loc, I.cell, I.free, I.freeC, fun p hp => (List.mem_append.mp hp).elim (fun z => I.pin p (List.mem_append_left _ z)) (h p), I.hok, I.len⟩

theorem nodup_ix {N : List Str} (hN : N.Nodup) {i j : Nat} {x : Str} (a : N[i]? = some x) (b : N[j]? = some x) : i = j := by
  obtain ⟨h1, e1⟩ := List.getElem?_eq_some_iff.mp a
  obtain ⟨h2, e2⟩ := List.getElem?_eq_some_iff.mp b
  exact (List.getElem_inj hN).mp (e1.trans e2.symm)

/-- a name is stored; what changed -/
theorem store_ok2 {M : Model} {A : Around} {E : Value → Shared → Prop} {i : Nat} {x : Str} {v : V} {u : Value} {Q : Unit → Shared → Prop} (I : Inv X pins σ H s) (hN : X.N.Nodup) (hi : X.N[i]? = some x) (hx : Loc X.env.scope x) (r : RelV v u)
    (h : ∀ s', Inv X pins (σ.set i (some v)) H s' → (∃ a, Heap.SameBut a s.heap s'.heap ∧ (a = X.env.locals ∨ X.env.cells.lookup x = some a)) → Q () s') (hf : X.fn x = true ∨ X.env.scope.names.lookup x = some .local := by first | exact .inl rfl | exact .inr rfl | assumption) : wpAny M A (storeName X.env x u) Q E s := by
  obtain ⟨m, hn, hl⟩ := id I.loc
  have hcls : (X.env.scope.kind == .class || (X.env.scope.kind == .module && X.env.locals != X.env.globals)) = false := by rw [I.ok.kind]; rfl
  have hiσ : i < σ.length := by rw [I.len]; exact (List.getElem?_eq_some_iff.mp hi).1
  have cne := I.cne
  have tracked : ∀ {a : Addr} {h' : Heap}, (∃ o, s.heap.get? a = some o ∧ H a = none) → Heap.SameBut a s.heap h' → HOk X.prog X.w H h' := fun {a h'} ha hs b ob e => by
    obtain ⟨_, _, hfree⟩ := ha
    refine (I.hok b ob e).stay (fun c w' hc q => (hs.2 c ?_).trans q) (fun _ q => q) fun _ _ q => q
    rintro rfl
    rcases hc with rfl | hc
    · rw [hfree] at e; cases e
    · rw [hfree] at hc; cases hc
  rcases hx with hk | hk
  · refine wpAny_storeName_local hk hn (fun h' hn' hs => ?_) hcls
    obtain ⟨oL, _, _, hoL, _⟩ := id hn
    refine h _ ⟨I.ok, I.os, I.bare, ⟨fun b o e n hb hx => ?_, fun b o e n hb hx => ?_, I.base.free, fun b o e hx => ?_, I.base.tups, I.base.frzs, I.base.tbls⟩, ⟨_, hn', fun j y v' e1 e2 e3 => ?_⟩, fun y c e => ?_, I.free, I.freeC, fun p hp => ?_, tracked ⟨oL, hoL, I.free⟩ hs, by simpa using I.len⟩ ⟨_, hs, .inl rfl⟩
    · exact (hs.2 b (Nat.ne_of_lt (Nat.lt_of_lt_of_le (Heap.lt_size e) I.ok.above))).trans (I.base.keep b o e n hb hx)
    · obtain ⟨sl, e1⟩ := I.base.slot b o e n hb hx
      exact ⟨sl, (hs.2 b (Nat.ne_of_lt (Nat.lt_of_lt_of_le (Heap.lt_size e) I.ok.above))).trans e1⟩
    · obtain ⟨o', e1⟩ := I.base.there b o e hx
      exact ⟨o', (hs.2 b (Nat.ne_of_lt (Nat.lt_of_lt_of_le (Heap.lt_size e) I.ok.above))).trans e1⟩
    · by_cases hj : j = i
      · subst hj
        rw [hi] at e1; cases e1
        rw [List.getElem?_set_self hiσ] at e2
        cases e2
        exact ⟨u, r, .inl ⟨hk, by simp⟩⟩
      · rw [List.getElem?_set_ne (Ne.symm hj)] at e2
        obtain ⟨u', r', q⟩ := hl j y v' e1 e2 e3
        refine ⟨u', r', ?_⟩
        rcases q with ⟨k, e⟩ | ⟨k, c, e, z⟩
        · refine .inl ⟨k, ?_⟩
          have : y ≠ x := fun e => hj (nodup_ix hN e1 (e ▸ hi))
          simp [this, e]
        · exact .inr ⟨k, c, e, z.sameBut hs (cne y c e)⟩
    · obtain ⟨w', z⟩ := I.cell y c e
      exact ⟨w', z.sameBut hs (cne y c e)⟩
    · obtain ⟨e, n, ne, nf, d⟩ := I.pin p hp
      exact ⟨(hs.2 p.1 ne).trans e, n, ne, nf, d⟩
  · have hfn : X.fn x = true := by
      rcases hf with z | z
      · exact z
      · rw [z] at hk; cases hk
    obtain ⟨c, hc⟩ := I.ok.has x (.inl hk)
    obtain ⟨w', z⟩ := I.cell x c hc
    refine wpAny_storeName_cell I.ok.kind hk hc z (fun h' hc' hs => ?_)
    obtain ⟨oc, hoc, hocd⟩ := id z
    refine h { s with heap := h' } ⟨I.ok, I.os, I.bare, ⟨fun b o e n hb hx => ?_, fun b o e n hb hx => ?_, I.base.free, fun b o e hx => ?_, I.base.tups, I.base.frzs, I.base.tbls⟩, ⟨m, hn.sameBut hs (Ne.symm (cne x c hc)), fun j y v' e1 e2 e3 => ?_⟩, fun y c' e => ?_, I.free, I.freeC, fun p hp => ?_, tracked ⟨oc, hoc, I.freeC x c hc⟩ hs, by simpa using I.len⟩ ⟨c, hs, .inr hc⟩
    · exact (hs.2 b (Nat.ne_of_lt (Nat.lt_of_lt_of_le (Heap.lt_size e) (I.ok.cab x c hfn hc)))).trans (I.base.keep b o e n hb hx)
    · obtain ⟨sl, e1⟩ := I.base.slot b o e n hb hx
      exact ⟨sl, (hs.2 b (Nat.ne_of_lt (Nat.lt_of_lt_of_le (Heap.lt_size e) (I.ok.cab x c hfn hc)))).trans e1⟩
    · obtain ⟨o', e1⟩ := I.base.there b o e hx
      exact ⟨o', (hs.2 b (Nat.ne_of_lt (Nat.lt_of_lt_of_le (Heap.lt_size e) (I.ok.cab x c hfn hc)))).trans e1⟩
    · by_cases hj : j = i
      · subst hj
        rw [hi] at e1; cases e1
        rw [List.getElem?_set_self hiσ] at e2
        cases e2
        exact ⟨u, r, .inr ⟨.inl hk, c, hc, hc'⟩⟩
      · rw [List.getElem?_set_ne (Ne.symm hj)] at e2
        obtain ⟨u', r', q⟩ := hl j y v' e1 e2 e3
        refine ⟨u', r', ?_⟩
        rcases q with q | ⟨k, c', e, z'⟩
        · exact .inl q
        · refine .inr ⟨k, c', e, z'.sameBut hs ?_⟩
          rintro rfl
          exact hj (nodup_ix hN e1 (I.ok.inj _ _ _ e hc ▸ hi))
    · by_cases hcc : c' = c
      · subst hcc; exact ⟨_, hc'⟩
      · obtain ⟨w2, z2⟩ := I.cell y c' e
        exact ⟨w2, z2.sameBut hs hcc⟩
    · obtain ⟨e, n, ne, nf, d⟩ := I.pin p hp
      refine ⟨(hs.2 p.1 ?_).trans e, n, ne, nf, d⟩
      intro q
      rw [q, hoc] at e
      have q' : oc = p.2 := Option.some.inj e
      exact d w' (by rw [← q']; exact hocd)
theorem store_ok {M : Model} {A : Around} {E : Value → Shared → Prop} {i : Nat} {x : Str} {v : V} {u : Value} {Q : Unit → Shared → Prop} (I : Inv X pins σ H s) (hN : X.N.Nodup) (hi : X.N[i]? = some x) (hx : Loc X.env.scope x) (r : RelV v u)
    (h : ∀ s', Inv X pins (σ.set i (some v)) H s' → Q () s') (hf : X.fn x = true ∨ X.env.scope.names.lookup x = some .local := by first | exact .inl rfl | exact .inr rfl | assumption) : wpAny M A (storeName X.env x u) Q E s :=
  store_ok2 I hN hi hx r (fun s' I' _ => h s' I') hf
/-- behind a call or a block, the state as it is -/
theorem Inv.call' {s' : Shared} {ch : List Addr} (I : Inv X pins σ H s) (ho : s'.os = s.os) (u : Un (frs X.stack) ch H H' s.heap s'.heap) (hok : HOk X.prog X.w H' s'.heap) (hg : AllBare s'.gens)
    (hch : ∀ b ∈ ch, (b ∈ X.ex ∨ X.s_0.heap.objs.size ≤ b) ∧ b ≠ X.env.locals ∧ (∀ x c, X.env.cells.lookup x = some c → c ≠ b) ∧ ∀ p ∈ X.pn ++ pins, p.1 ≠ b) : Inv X pins σ H' s' := by
  obtain ⟨h', g', d', t', o'⟩ := s'
  have e : o' = s.os := ho
  subst e
  exact I.call (g' := g') (t' := t') (d' := d') u hok hg hch
end

/-! ### the judgements -/
/-- an exception: its class, its own dict's address (where it has one), the abstract heap behind it -/
abbrev XK := Value → Option Addr → Hp → Prop
abbrev St := List (Option V)
abbrev VK := V → Hp → Prop
/-- an expression's reading; a test's; an argument list's -/
abbrev TE := St → Hp → VK → Prop
abbrev TT := St → Hp → (Bool → Hp → Prop) → Prop
abbrev TA := St → Hp → (List V → Hp → Prop) → Prop
/-- what is wanted behind a statement -/
structure Ends where
  nx : St → Hp → Prop
  rt : VK
  bk : St → Hp → Prop := fun _ _ => False
  ct : St → Hp → Prop := fun _ _ => False
abbrev TS := Ends → St → Hp → Prop

def EP (X : Cx) (pins : List (Addr × Obj)) (σ : St) (Q : VK) (u : Value) (s' : Shared) : Prop := ∃ v H', Inv X pins σ H' s' ∧ RelV v u ∧ Q v H'
def TP (X : Cx) (pins : List (Addr × Obj)) (σ : St) (Q : Bool → Hp → Prop) (b : Bool) (s' : Shared) : Prop := ∃ H', Inv X pins σ H' s' ∧ Q b H'
def AP (X : Cx) (pins : List (Addr × Obj)) (σ : St) (Q : List V → Hp → Prop) (us : List Value) (s' : Shared) : Prop := ∃ vs H', Inv X pins σ H' s' ∧ Vals vs us ∧ Q vs H'
def SP (X : Cx) (pins : List (Addr × Obj)) (D : Ends) (f : Flow) (s' : Shared) : Prop :=
  match f with
  | .next => ∃ σ' H', Inv X pins σ' H' s' ∧ D.nx σ' H'
  | .brk => ∃ σ' H', Inv X pins σ' H' s' ∧ D.bk σ' H'
  | .cont => ∃ σ' H', Inv X pins σ' H' s' ∧ D.ct σ' H'
  | .ret u => ∃ v σ' H', Inv X pins σ' H' s' ∧ RelV v u ∧ D.rt v H'

def PE (X : Cx) (e : Expr) (t : TE) : Prop :=
  ∀ (pins : List (Addr × Obj)) (s : Shared) (σ : St) (H : Hp) (Q : VK), Inv X pins σ H s → t σ H Q → wpAny (model X.prog X.w) X.A (eval e X.env) (EP X pins σ Q) X.xe s
def PT (X : Cx) (e : Expr) (t : TT) : Prop :=
  ∀ (pins : List (Addr × Obj)) (s : Shared) (σ : St) (H : Hp) (Q : Bool → Hp → Prop), Inv X pins σ H s → t σ H Q → wpAny (model X.prog X.w) X.A (isTrue e X.env (eval e X.env)) (TP X pins σ Q) X.xe s
/-- a test whatever its 'whole' is (and, or) -/
def PW (X : Cx) (e : Expr) (t : TT) : Prop :=
  ∀ (whole : Sem Value) (pins : List (Addr × Obj)) (s : Shared) (σ : St) (H : Hp) (Q : Bool → Hp → Prop), Inv X pins σ H s → t σ H Q → wpAny (model X.prog X.w) X.A (isTrue e X.env whole) (TP X pins σ Q) X.xe s
theorem PW.pt {X : Cx} {e : Expr} {t : TT} (h : PW X e t) : PT X e t := h _
/-- an argument list (no star), from the left -/
def PA (X : Cx) (es : List Expr) (t : TA) : Prop :=
  ∀ (pos : Pos) (pins : List (Addr × Obj)) (s : Shared) (σ : St) (H : Hp) (Q : List V → Hp → Prop), Inv X pins σ H s → t σ H Q → wpAny (model X.prog X.w) X.A (spliced (backTo pos (starEach es X.env))) (AP X pins σ Q) X.xe s
def PS (X : Cx) (st : Stmt) (t : TS) : Prop :=
  ∀ (pins : List (Addr × Obj)) (s : Shared) (σ : St) (H : Hp) (D : Ends), Inv X pins σ H s → t D σ H → wpAny (model X.prog X.w) X.A (exec st X.env) (SP X pins D) X.xe s
def PSs (X : Cx) (st : List Stmt) (t : TS) : Prop :=
  ∀ (pins : List (Addr × Obj)) (s : Shared) (σ : St) (H : Hp) (D : Ends), Inv X pins σ H s → t D σ H → wpAny (model X.prog X.w) X.A (execs st X.env) (SP X pins D) X.xe s
/-- weaken the end -/
theorem thn {α : Type} {t : Sem α} {Q Q' : α → Shared → Prop} {M : Model} {A : Around} {E : Value → Shared → Prop} {s : Shared} (h : wpAny M A t Q E s) (hQ : ∀ a s, Q a s → Q' a s) : wpAny M A t Q' E s := wpAny_mono h hQ fun _ _ x => x
end L2

namespace L2
open PySem PySem.Spec PyProof.Rows
section
variable {X : Cx}


/-! ### names and constants -/
def tVar (i : Nat) : TE := fun σ H Q => ∃ v, σ[i]? = some (some v) ∧ Q v H
abbrev tC (v : V) : TE := fun _ H Q => Q v H
theorem pe_var {i : Nat} {x : Str} {pos : Pos} (hN : X.N[i]? = some x) (hv : Vis X.env.scope x) (hd : (x == ("__debug__" : Str)) = false := by decide) (hcd : (x == ("__classdict__" : Str)) = false := by decide) : PE X (.Name x pos) (tVar i) := by
  intro pins s σ H Q I h
  obtain ⟨v, e, h⟩ := h
  obtain ⟨m, hn, hl⟩ := I.loc
  obtain ⟨u, r, l⟩ := hl i x v hN e hv
  have fin : EP X pins σ Q u s := ⟨v, H, I, r, h⟩
  rcases l with ⟨hk, hm⟩ | ⟨hk, c, hc, hcell⟩
  · exact wpAny_Name (wpAny_loadName_local I.ok.kind hk hn hm fin) hd
  · rcases hk with hk | hk
    · exact wpAny_Name (wpAny_loadName_cell I.ok.kind hk hc hcell fin) hd
    · exact wpAny_Name (wpAny_loadName_free I.ok.kind hk hc hcell fin hcd) hd
theorem pe_int {i j pos} : PE X (.Constant (.int i) j pos) (tC (.int i)) := fun _ _ _ H _ I h => wpAny_Constant_int ⟨.int i, H, I.tok _, ⟨_, rfl⟩, h⟩
theorem pe_bl {b j pos} : PE X (.Constant (.bool b) j pos) (tC (.bl b)) := fun _ _ _ H _ I h => Constant_bool ⟨.bl b, H, I, rfl, h⟩
theorem pe_non {j pos} : PE X (.Constant .none j pos) (tC .non) := fun _ _ _ H _ I h => Constant_none ⟨.non, H, I, rfl, h⟩

/-- a global name of the def -/
def Gl (X : Cx) (x : Str) : Prop := X.env.kindOf x = some .globalImplicit
theorem ld_glob {E : Value → Shared → Prop} {pins : List (Addr × Obj)} {s : Shared} {σ : St} {H : Hp} {x : Str} {u : Value} {pos : Pos} {Q : Value → Shared → Prop} (I : Inv X pins σ H s) (hg : Gl X x) (hm : X.mg x = some u) (h : Q u s)
    (hd : (x == ("__debug__" : Str)) = false := by decide) : wpAny (model X.prog X.w) X.A (eval (.Name x pos) X.env) Q E s :=
  Calls.Name_function_global I.ok.kind hg (Calls.loadGlobal_global (by rw [I.ok.glob]; exact I.mod.glob.keeps I.bk) hm h) hd
theorem ld_blt {E : Value → Shared → Prop} {pins : List (Addr × Obj)} {s : Shared} {σ : St} {H : Hp} {x : Str} {u : Value} {pos : Pos} {Q : Value → Shared → Prop} (I : Inv X pins σ H s) (hg : Gl X x) (hm : X.mg x = none) (hv : bootBuiltins x = some u) (h : Q u s)
    (hn : x ≠ "__name__" := by decide) (hd : (x == ("__debug__" : Str)) = false := by decide) : wpAny (model X.prog X.w) X.A (eval (.Name x pos) X.env) Q E s := by
  obtain ⟨mb, h1, h2⟩ := I.mod.blt
  exact Calls.Name_function_global I.ok.kind hg (Calls.loadGlobal_builtin (by rw [I.ok.glob]; exact I.mod.glob.keeps I.bk) hm (by rw [I.ok.blt]; exact h1.keeps I.bk) ((h2 x hn).trans hv) h) hd
/-- a module's constant, a class, a function, as a value -/
theorem pe_glob {x : Str} {v : V} {u : Value} {pos : Pos} (hg : Gl X x) (hm : X.mg x = some u) (r : RelV v u) (hd : (x == ("__debug__" : Str)) = false := by decide) : PE X (.Name x pos) (tC v) :=
  fun _ _ _ H _ I h => ld_glob I hg hm ⟨v, H, I, r, h⟩ hd

/-! ### arithmetic -/
variable {a b : Expr} {ta tb : TE} {pos : Pos}

/-! ### comparisons -/
/-- a comparison as a value, as a test -/
def tB (t : TE) : TT := fun σ H Q => t σ H fun x H1 => ∃ c, x = .bl c ∧ Q c H1
/-- an expression whose value is a bool, as a test -/
theorem pt_val {e : Expr} {t : TE} (h : PE X e t) (he : ∀ whole, isTrue e X.env whole = (do let v ← whole; standAt e.pos; holding [v] (truthy v)) := by intro _; rfl) : PT X e (tB t) := by
  intro pins s σ H Q I hw
  refine isTrue_plain (thn (h pins s σ H _ I hw) fun v s1 ⟨x, H1, I1, r1, q1⟩ => ?_) (he _)
  obtain ⟨d, rfl, q⟩ := q1
  cases r1
  exact wpAny_truthy_bool ⟨H1, I1, q⟩

/-! ### and, or, not -/
variable {tA tB' : TT} {rest : List Expr}
def tAnd (t u : TT) : TT := fun σ H Q => t σ H fun c H1 => if c = true then u σ H1 Q else Q false H1
def tOr (t u : TT) : TT := fun σ H Q => t σ H fun c H1 => if c = true then Q true H1 else u σ H1 Q
abbrev tNot (t : TT) : TT := fun σ H Q => t σ H fun c H1 => Q (!c) H1
theorem pw_and1 (ha : PT X a tA) : PW X (.BoolOp .And [a] pos) tA := by
  intro wh pins s σ H Q I h
  refine isTrue_and (thn (ha pins s σ H Q I h) fun c s1 e => ?_)
  cases c with
  | true => exact isTrue_and_nil e
  | false => exact e
theorem pw_or1 (ha : PT X a tA) : PW X (.BoolOp .Or [a] pos) tA := by
  intro wh pins s σ H Q I h
  refine isTrue_or (thn (ha pins s σ H Q I h) fun c s1 e => ?_)
  cases c with
  | false => exact isTrue_or_nil e
  | true => exact e
theorem pw_and (ha : PT X a tA) (hb : PW X (.BoolOp .And (b :: rest) pos) tB') : PW X (.BoolOp .And (a :: b :: rest) pos) (tAnd tA tB') := by
  intro wh pins s σ H Q I h
  refine isTrue_and (thn (ha pins s σ H _ I h) fun c s1 ⟨H1, I1, q1⟩ => ?_)
  cases c with
  | true => exact hb wh pins s1 σ H1 Q I1 q1
  | false => exact ⟨H1, I1, q1⟩
theorem pw_or (ha : PT X a tA) (hb : PW X (.BoolOp .Or (b :: rest) pos) tB') : PW X (.BoolOp .Or (a :: b :: rest) pos) (tOr tA tB') := by
  intro wh pins s σ H Q I h
  refine isTrue_or (thn (ha pins s σ H _ I h) fun c s1 ⟨H1, I1, q1⟩ => ?_)
  cases c with
  | true => exact ⟨H1, I1, q1⟩
  | false => exact hb wh pins s1 σ H1 Q I1 q1
theorem pt_not (ha : PT X a tA) : PT X (.UnaryOp .Not a pos) (tNot tA) := by
  intro pins s σ H Q I h
  exact isTrue_not (ha pins s σ H (fun c H1 => Q (!c) H1) I h)
/-- a if t else b -/
abbrev tIf (t : TT) (ta tb : TE) : TE := fun σ H Q => t σ H fun c H1 => if c = true then ta σ H1 Q else tb σ H1 Q
theorem pe_ifExp {c : Expr} (hc : PT X c tA) (ha : PE X a ta) (hb : PE X b tb) : PE X (.IfExp c a b pos) (tIf tA ta tb) := by
  intro pins s σ H Q I h
  refine wpAny_IfExp (thn (hc pins s σ H _ I h) fun d s1 ⟨H1, I1, q1⟩ => ?_)
  cases d with
  | true => exact ha pins s1 σ H1 Q I1 q1
  | false => exact hb pins s1 σ H1 Q I1 q1
end
end L2

namespace L2
open PySem PySem.Spec PyProof.Rows

/-! ### a list, a tuple that is read: tracked, frozen, or an object of the module -/
def SqL (K : PySem.W.Frag) (H : Hp) (a : Addr) (xs : List V) : Prop :=
  Rd H a (.lst xs) ∨
    ∃ (o : Obj) (its : Array Value) (n : Nat), K.lookup a = some o ∧ o.cls = .type "list" ∧ o.dict = none ∧ o.data = .seq its n ∧ its.size ≤ sizeLine ∧ Vals xs its.toList
def SqT (K : PySem.W.Frag) (H : Hp) (a : Addr) (xs : List V) : Prop :=
  Rd H a (.tup xs) ∨
    ∃ (o : Obj) (its : Array Value) (n : Nat), K.lookup a = some o ∧ o.cls = .type "tuple" ∧ o.data = .seq its n ∧ its.size ≤ sizeLine ∧ Vals xs its.toList
def absV : Value → Option V
  | .none => some .non
  | .bool b => some (.bl b)
  | .int i _ => some (.int i)
  | .str x _ => some (.str x)
  | .bytes b _ => some (.byt b)
  | .float b _ => some (.flt b)
  | .ref a => some (.ref a)
  | .type n => some (.ty n)
  | _ => none
theorem RelV.abs {x : V} {u : Value} (r : RelV x u) : absV u = some x := by
  cases x with
  | non => cases r; rfl
  | bl _ => cases r; rfl
  | int _ => obtain ⟨t, rfl⟩ := r; rfl
  | str _ => obtain ⟨t, rfl⟩ := r; rfl
  | byt _ => obtain ⟨t, rfl⟩ := r; rfl
  | flt _ => obtain ⟨t, rfl⟩ := r; rfl
  | ref _ => cases r; rfl
  | ty _ => cases r; rfl
theorem RelV.inj {x y : V} {u : Value} (r : RelV x u) (q : RelV y u) : x = y := Option.some.inj (r.abs.symm.trans q.abs)
theorem Vals.inj : ∀ {xs ys : List V} {us : List Value}, Vals xs us → Vals ys us → xs = ys
  | _, _, _, .nil, .nil => rfl
  | _, _, _, .cons r t, .cons r' t' => by rw [r.inj r', Vals.inj t t']
section
variable {X : Cx} {pins : List (Addr × Obj)} {σ : St} {H : Hp} {s : Shared} {a : Addr} {xs ys : List V}
theorem SqL.of {K : PySem.W.Frag} (h : H a = some (.lst xs)) : SqL K H a xs := .inl (.inl h)
theorem SqT.of {K : PySem.W.Frag} (h : H a = some (.tup xs)) : SqT K H a xs := .inl (.inl h)
theorem Inv.list (I : Inv X pins σ H s) (h : SqL X.K H a xs) : ∃ its : List Value, Vals xs its ∧ PlainL s.heap a its.toArray ∧ xs.length ≤ sizeLine := by
  rcases h with h | ⟨o, its, n, hk, hc, hd, hs, hz, r⟩
  · obtain ⟨z, its, n, r, e⟩ := h.ok I.hok
    exact ⟨its, r, ⟨_, n, e, rfl, rfl, rfl⟩, z⟩
  · refine ⟨its.toList, r, ⟨o, n, I.kIn a o hk, hc, hd, by simpa using hs⟩, ?_⟩
    have e := r.length
    simp only [Array.length_toList] at e
    omega
theorem Inv.tuple (I : Inv X pins σ H s) (h : SqT X.K H a xs) : ∃ its : List Value, Vals xs its ∧ IsTup s.heap a its.toArray ∧ xs.length ≤ sizeLine := by
  rcases h with h | ⟨o, its, n, hk, hc, hs, hz, r⟩
  · obtain ⟨z, its, r, p⟩ := h.ok I.hok
    exact ⟨its, r, p, z⟩
  · refine ⟨its.toList, r, ⟨o, I.kIn a o hk, hc, n, by simpa using hs⟩, ?_⟩
    have e := r.length
    simp only [Array.length_toList] at e
    omega
theorem Inv.list_inj (I : Inv X pins σ H s) (h : SqL X.K H a xs) (h' : SqL X.K H a ys) : xs = ys := by
  obtain ⟨its, r, ⟨o, n, e, _, _, d⟩, _⟩ := I.list h
  obtain ⟨its', r', ⟨o', n', e', _, _, d'⟩, _⟩ := I.list h'
  rw [e] at e'; cases e'
  rw [d] at d'
  injection d' with d1 _
  have : its = its' := by simpa using congrArg Array.toList d1
  subst this
  exact r.inj r'
end

/-! ### another wish about exceptions -/
abbrev Cx.wish (X : Cx) (E : Value → Shared → Prop) : Cx := { X with xe := E }
/-- no exception leaves -/
abbrev Cx.nox (X : Cx) : Cx := X.wish fun _ _ => False
theorem Cx.Ok.wish {X : Cx} (ok : X.Ok) (E : Value → Shared → Prop) : (X.wish E).Ok :=
  ⟨ok.mod, ok.kind, ok.glob, ok.blt, ok.above, ok.inj, ok.has, ok.cab, ok.hd, ok.frames, ok.stk, ok.exf, ok.bs, ok.bsz, ok.noex, ok.exfs, ok.funs, ok.frf⟩
theorem Cx.Ok.unwish {X : Cx} {E : Value → Shared → Prop} (ok : (X.wish E).Ok) : X.Ok :=
  ⟨ok.mod, ok.kind, ok.glob, ok.blt, ok.above, ok.inj, ok.has, ok.cab, ok.hd, ok.frames, ok.stk, ok.exf, ok.bs, ok.bsz, ok.noex, ok.exfs, ok.funs, ok.frf⟩
section
variable {X : Cx} {pins : List (Addr × Obj)} {σ : St} {H : Hp} {s : Shared} {E : Value → Shared → Prop}
theorem Inv.wish (I : Inv X pins σ H s) (E : Value → Shared → Prop) : Inv (X.wish E) pins σ H s := ⟨I.ok.wish E, I.os, I.bare, I.base, I.loc, I.cell, I.free, I.freeC, I.pin, I.hok, I.len⟩
theorem Inv.unwish (I : Inv (X.wish E) pins σ H s) : Inv X pins σ H s := ⟨I.ok.unwish, I.os, I.bare, I.base, I.loc, I.cell, I.free, I.freeC, I.pin, I.hok, I.len⟩
theorem SP.unwish {D : Ends} {f : Flow} {s' : Shared} (h : SP (X.wish E) pins D f s') : SP X pins D f s' := by
  cases f with
  | next => obtain ⟨σ', H', I, q⟩ := h; exact ⟨σ', H', I.unwish, q⟩
  | brk => obtain ⟨σ', H', I, q⟩ := h; exact ⟨σ', H', I.unwish, q⟩
  | cont => obtain ⟨σ', H', I, q⟩ := h; exact ⟨σ', H', I.unwish, q⟩
  | ret u => obtain ⟨v, σ', H', I, r, q⟩ := h; exact ⟨v, σ', H', I.unwish, r, q⟩
theorem PSs.nox {st : List Stmt} {t : TS} (h : PSs X.nox st t) : PSs X st t := fun pins s σ H D I hw =>
  wpAny_mono (h pins s σ H D (I.wish _) hw) (fun _ _ q => q.unwish) fun _ _ z => False.elim z
end

/-! ### blocks and small statements -/
section
variable {X : Cx} {st : Stmt} {rest : List Stmt} {t u : TS} {e : Expr} {te : TE} {pos : Pos}
abbrev tNext : TS := fun D σ H => D.nx σ H
abbrev tSeq (t u : TS) : TS := fun D σ H => t { D with nx := u D } σ H
theorem pss_nil : PSs X [] tNext := fun _ _ σ H _ I h => wpAny_execs_nil ⟨σ, H, I, h⟩
theorem pss_cons (h1 : PS X st t) (h2 : PSs X rest u) : PSs X (st :: rest) (tSeq t u) := by
  intro pins s σ H D I h
  refine wpAny_execs_cons (thn (h1 pins s σ H { D with nx := u D } I h) fun f s1 q => ?_)
  cases f with
  | next =>
    obtain ⟨σ', H', I', q⟩ := q
    exact h2 pins s1 σ' H' D I' q
  | ret v => exact q
  | brk => exact q
  | cont => exact q
theorem pss_one (h1 : PS X st t) : PSs X [st] t := by
  intro pins s σ H D I h
  refine wpAny_execs_cons (thn (h1 pins s σ H D I h) fun f s1 q => ?_)
  cases f with
  | next => exact wpAny_execs_nil q
  | ret v => exact q
  | brk => exact q
  | cont => exact q
/-- in a def's body nothing is shown -/
theorem Inv.quiet {pins : List (Addr × Obj)} {σ : St} {H : Hp} {s : Shared} (I : Inv X pins σ H s) : interactive X.env = false := by simp [interactive, I.ok.kind]
/-- an expression whose value is dropped -/
abbrev tDrop (te : TE) : TS := fun D σ H => te σ H fun _ H1 => D.nx σ H1
theorem ps_expr (he : PE X e te) (hs : swapsWith e none pos.line X.env = pure false := by rfl) : PS X (.Expr e pos) (tDrop te) := by
  intro pins s σ H D I h
  exact wpAny_Expr_any (thn (he pins s σ H _ I h) fun v s1 ⟨x, H1, I1, r1, q1⟩ => ⟨σ, H1, I1, q1⟩) I.quiet hs
abbrev tRet (te : TE) : TS := fun D σ H => te σ H D.rt
theorem ps_ret (he : PE X e te) : PS X (.Return (some e) pos) (tRet te) := by
  intro pins s σ H D I h
  exact wpAny_Return_some (thn (he pins s σ H _ I h) fun v s1 ⟨x, H1, I1, r1, q1⟩ => ⟨x, σ, H1, I1, r1, q1⟩)
abbrev tIfS (c : TT) (t u : TS) : TS := fun D σ H => c σ H fun b H1 => if b = true then t D σ H1 else u D σ H1
theorem ps_if {c : Expr} {a b : List Stmt} {tc : TT} (hc : PT X c tc) (ha : PSs X a t) (hb : PSs X b u) : PS X (.If c a b pos) (tIfS tc t u) := by
  intro pins s σ H D I h
  refine wpAny_If (thn (hc pins s σ H _ I h) fun d s1 ⟨H1, I1, q1⟩ => ?_)
  cases d with
  | true => exact ha pins s1 σ H1 D I1 q1
  | false => exact hb pins s1 σ H1 D I1 q1
end

/-! ### targets -/
abbrev TG := V → St → Hp → (St → Hp → Prop) → Prop
abbrev TGs := List V → St → Hp → (St → Hp → Prop) → Prop
def PG (X : Cx) (target : Expr) (t : TG) : Prop :=
  ∀ (pins : List (Addr × Obj)) (s : Shared) (σ : St) (H : Hp) (v : V) (u : Value) (Q : St → Hp → Prop), Inv X pins σ H s → RelV v u → t v σ H Q →
    wpAny (model X.prog X.w) X.A (assign target X.env u) (fun _ s' => ∃ σ' H', Inv X pins σ' H' s' ∧ Q σ' H') X.xe s
/-- several targets, one after another -/
def PGs (X : Cx) (ts : List Expr) (t : TGs) : Prop :=
  ∀ (pins : List (Addr × Obj)) (s : Shared) (σ : St) (H : Hp) (vs : List V) (us : List Value) (Q : St → Hp → Prop), Inv X pins σ H s → Vals vs us → t vs σ H Q →
    wpAny (model X.prog X.w) X.A (assignInOrder ((assignEach ts X.env).map (·.2)) us) (fun _ s' => ∃ σ' H', Inv X pins σ' H' s' ∧ Q σ' H') X.xe s
/-- o[i] = v, by values -/
abbrev TSet := V → V → V → Hp → (Hp → Prop) → Prop
def PSet (X : Cx) (t : TSet) : Prop :=
  ∀ (pins : List (Addr × Obj)) (s : Shared) (σ : St) (H : Hp) (o i v : V) (ov iv u : Value) (Q : Hp → Prop), Inv X pins σ H s → RelV o ov → RelV i iv → RelV v u → t o i v H Q →
    wpAny (model X.prog X.w) X.A (setItem ov iv u) (fun _ s' => ∃ H', Inv X pins σ H' s' ∧ Q H') X.xe s
section
variable {X : Cx} {pos : Pos}
abbrev gName (i : Nat) : TG := fun v σ H Q => Q (σ.set i (some v)) H
theorem pg_name {i : Nat} {x : Str} (hN : X.N.Nodup) (hi : X.N[i]? = some x) (hx : Loc X.env.scope x) (hf : X.fn x = true ∨ X.env.scope.names.lookup x = some .local := by first | exact .inl rfl | exact .inr rfl | assumption) : PG X (.Name x pos) (gName i) := by
  intro pins s σ H v u Q I r h
  exact wpAny_assign_Name (store_ok I hN hi hx r (fun s' I' => ⟨_, H, I', h⟩) hf)
def gNil : TGs := fun vs σ H Q => vs = [] ∧ Q σ H
def gCons (t : TG) (u : TGs) : TGs := fun vs σ H Q => ∃ v r, vs = v :: r ∧ t v σ H fun σ' H' => u r σ' H' Q
theorem pgs_nil : PGs X [] gNil := by
  intro pins s σ H vs us Q I r h
  obtain ⟨e, h⟩ := h
  subst e
  cases r
  exact assignInOrder_nil ⟨σ, H, I, h⟩
theorem pgs_cons {e : Expr} {es : List Expr} {t : TG} {u : TGs} (h1 : PG X e t) (h2 : PGs X es u)
    (hs : (assignEach (e :: es) X.env).map (·.2) = assign e X.env :: (assignEach es X.env).map (·.2) := by rfl) : PGs X (e :: es) (gCons t u) := by
  intro pins s σ H vs us Q I r h
  obtain ⟨v, vr, e1, h⟩ := h
  subst e1
  cases r with
  | cons r rr =>
    rw [hs]
    refine assignInOrder_cons (thn (h1 pins s σ H _ _ _ I r h) fun _ s1 ⟨σ1, H1, I1, q1⟩ => ?_)
    exact h2 pins s1 σ1 H1 _ _ Q I1 rr q1
/-- (a, b, ..) = a tuple of that length -/
def gTup (K : PySem.W.Frag) (n : Nat) (t : TGs) : TG := fun v σ H Q => ∃ a xs, v = .ref a ∧ SqT K H a xs ∧ xs.length = n ∧ t xs σ H Q
theorem pg_tup {es : List Expr} {k : Nat} {t : TGs} {n : Nat} (hc : X.calm = true) (h : PGs X es t)
    (hn : (assignEach es X.env).length = n := by rfl) (hst : (assignEach es X.env).findIdx? (·.1) = none := by rfl) : PG X (.Tuple es k pos) (gTup X.K n t) := by
  intro pins s σ H v u Q I r hw
  obtain ⟨a, xs, e1, hq, hl, hw⟩ := hw
  subst e1
  cases r
  obtain ⟨its, rv, ht, hz⟩ := I.tuple hq
  refine assign_Tuple_tuple (I.ok.hd hc) ht (by simp [hn, ← hl, rv.length]) hst fun h' hx => ?_
  have I1 : Inv X pins σ H { s with heap := h' } := I.kept (t' := s.toks) fun b o e => hx b o (Nat.ne_of_lt (Heap.lt_size e)) e
  exact h pins _ σ H xs _ Q I1 (by simpa using rv) hw
/-- o[i] = .. -/
abbrev gSub (to ti : TE) (t : TSet) : TG := fun v σ H Q => to σ H fun o H1 => ti σ H1 fun i H2 => t o i v H2 fun H3 => Q σ H3
theorem pg_sub {o i : Expr} {to ti : TE} {t : TSet} (ho : PE X o to) (hi : PE X i ti) (hs : PSet X t)
    (ha : ∀ v, assign (.Subscript o i pos) X.env v = (do
      let ov ← holding [v] (eval o X.env)
      let iv ← holding [v, ov] (eval i X.env)
      standAt pos
      holding [v, ov, iv] (setItem ov iv v)
      release [v, ov, iv] []) := by intro _; rfl) : PG X (.Subscript o i pos) (gSub to ti t) := by
  intro pins s σ H v u Q I r h
  rw [ha]
  refine wpAny_bind (wpAny_holding (thn (ho pins s σ H _ I h) fun ov s1 ⟨x, H1, I1, r1, q1⟩ => ?_))
  refine wpAny_bind (wpAny_holding (thn (hi pins s1 σ H1 _ I1 q1) fun iv s2 ⟨y, H2, I2, r2, q2⟩ => ?_))
  refine wpAny_bind (wpAny_standAt (wpAny_bind (wpAny_holding (thn (hs pins s2 σ H2 x y v ov iv u _ I2 r1 r2 r q2) fun _ s3 ⟨H3, I3, q3⟩ => ?_))))
  exact wpAny_release ⟨σ, H3, I3, q3⟩
/-- target = value -/
abbrev tAsg (te : TE) (g : TG) : TS := fun D σ H => te σ H fun x H1 => g x σ H1 D.nx
theorem ps_asg {tg e : Expr} {te : TE} {g : TG} (he : PE X e te) (hg : PG X tg g) (hs : swapsWithSole [tg] e pos.line X.env = pure false := by rfl) (hw : swappedStores [tg] e X.env = pure none := by rfl)
    (h1 : (assignEach [tg] X.env).map (·.2) = [assign tg X.env] := by rfl) : PS X (.Assign [tg] e pos) (tAsg te g) := by
  intro pins s σ H D I h
  refine wpAny_Assign_stores (thn (he pins s σ H _ I h) fun v s1 ⟨x, H1, I1, r1, q1⟩ => ?_) hs hw
  rw [h1]
  exact thn (hg pins s1 σ H1 x v _ I1 r1 q1) fun _ s2 q => q
/-- name = value -/
theorem ps_set {i : Nat} {x : Str} {e : Expr} {te : TE} {pos' : Pos} (hN : X.N.Nodup) (hi : X.N[i]? = some x) (hx : Loc X.env.scope x) (he : PE X e te) (hs : swapsWith e (some (.Name x pos')) pos.line X.env = pure false := by rfl) (hf : X.fn x = true ∨ X.env.scope.names.lookup x = some .local := by first | exact .inl rfl | exact .inr rfl | assumption) :
    PS X (.Assign [.Name x pos'] e pos) (tAsg te (gName i)) := by
  intro pins s σ H D I h
  refine wpAny_Assign_Name (thn (he pins s σ H _ I h) fun v s1 ⟨y, H1, I1, r1, q1⟩ => ?_) hs
  exact store_ok I1 hN hi hx r1 (fun s2 I2 => ⟨_, H1, I2, q1⟩) hf
end

/-! ### while -/
section
variable {X : Cx} {pos : Pos}
/-- the invariant W with its measure -/
abbrev tWhile (c : TT) (tb : TS) : TS := fun D σ H => ∃ W : Nat → St → Hp → Prop, (∃ m, W m σ H) ∧ ∀ m σ H, W m σ H →
  c σ H fun b H1 => if b = true then ∃ N : St → Hp → Prop, (∀ σ' H', N σ' H' → ∃ m', m' < m ∧ W m' σ' H') ∧ tb { D with nx := N, ct := N, bk := D.nx } σ H1 else D.nx σ H1
theorem ps_while {c : Expr} {body : List Stmt} {tc : TT} {tb : TS} (hp : PassesOwn (model X.prog X.w) X.A X.env X.xe) (hc : PT X c tc) (hb : PSs X body tb) : PS X (.While c body [] pos) (tWhile tc tb) := by
  intro pins s σ H D I h
  obtain ⟨W, ⟨m0, w0⟩, turn⟩ := h
  refine wpAny_While (codeAny_whileLoop (fun n s' => ∃ σ' H', Inv X pins σ' H' s' ∧ W n σ' H') ?_ m0 ⟨σ, H, I, w0⟩)
  rintro n s1 ⟨σ1, H1, I1, w1⟩
  refine wpAny_passesOwn hp (thn (hc pins s1 σ1 H1 _ I1 (turn n σ1 H1 w1)) fun b s2 ⟨H2, I2, q2⟩ => ?_)
  cases b with
  | true =>
    obtain ⟨N, hN, q2⟩ := q2
    rw [if_pos rfl]
    refine wpAny_passesOwn hp (thn (hb pins s2 σ1 H2 _ I2 q2) fun f s3 q3 => ?_)
    cases f with
    | next =>
      obtain ⟨σ3, H3, I3, n3⟩ := q3
      obtain ⟨m', hm, w3⟩ := hN σ3 H3 n3
      exact ⟨m', hm, σ3, H3, I3, w3⟩
    | cont =>
      obtain ⟨σ3, H3, I3, n3⟩ := q3
      obtain ⟨m', hm, w3⟩ := hN σ3 H3 n3
      exact ⟨m', hm, σ3, H3, I3, w3⟩
    | brk => exact q3
    | ret v => exact q3
  | false =>
    rw [if_neg Bool.false_ne_true]
    exact wpAny_execs_nil ⟨σ1, H2, I2, q2⟩
end

/-! ### what a loop or a comprehension walks -/
/-- at turn i: it yields x (the heap may grow), or it stops -/
structure It where
  go : Nat → Hp → Prop
  yld : Nat → Hp → V → Hp → Prop
  stop : Nat → Hp → Prop
/-- the iterator's own objects may turn: they are not the frame's, not pinned, younger than the entry (or a comprehension's own) -/
def FpOk (X : Cx) (pins : List (Addr × Obj)) (H : Hp) (b : Addr) : Prop :=
  H b = none ∧ b ≠ X.env.locals ∧ b ∉ X.fs ∧ (b ∈ X.ex ∨ X.s_0.heap.objs.size ≤ b) ∧ (∀ x c, X.env.cells.lookup x = some c → c ≠ b) ∧ ∀ p ∈ X.pn ++ pins, p.1 ≠ b
theorem Inv.fpOk {X : Cx} {pins : List (Addr × Obj)} {σ : St} {H H' : Hp} {s : Shared} {b : Addr} (I : Inv X pins σ H s) (hb : s.heap.objs.size ≤ b) (hn : H' b = none) : FpOk X pins H' b := by
  refine ⟨hn, Nat.ne_of_gt (Nat.lt_of_lt_of_le I.lt hb), I.nofs hb, .inr (Nat.le_trans I.sz hb), fun x c e z => ?_, fun p hp z => ?_⟩
  · obtain ⟨v, q⟩ := I.cell x c e
    exact absurd (Nat.lt_of_lt_of_le q.lt (by rw [z]; exact hb)) (Nat.lt_irrefl _)
  · exact absurd (Nat.lt_of_lt_of_le (Heap.lt_size (I.pin p hp).1) (by rw [z]; exact hb)) (Nat.lt_irrefl _)
structure Turn (P : Program) (w : World) (K : PySem.W.Frag) (tg : Expr) (J : It) (fp : List Addr) (it : Addr) (tn : Nat → Heap → Prop) : Prop where
  mem : it ∈ fp
  obj : ∀ i h, tn i h → ∀ b ∈ fp, ∃ o, h.get? b = some o ∧ ∀ v, o.data ≠ .cell v
  keep : ∀ i h h', tn i h → (∀ b ∈ fp, ∀ o, h.get? b = some o → h'.get? b = some o) → tn i h'
  item : ∀ (X : Cx), X.prog = P → X.w = w → X.K = K → X.calm = true → ∀ (i : Nat) (pins : List (Addr × Obj)) (s : Shared) (σ : St) (H : Hp) (E : Value → Shared → Prop), Inv X pins σ H s → (∀ b ∈ fp, FpOk X pins H b) → tn i s.heap → J.go i H →
    wpAny (model P w) X.A (pyNext (.ref it)) (fun r s1 => ∃ u, r = some u ∧
      wpAny (model P w) X.A (letOwnedTupleGo tg (.ref it) u) (fun _ s2 => ∃ x H', Inv X pins σ H' s2 ∧ RelV x u ∧ J.yld i H x H' ∧ tn (i + 1) s2.heap ∧ ∀ b ∈ fp, H' b = none) E s1) E s
  done : ∀ (X : Cx), X.prog = P → X.w = w → X.K = K → X.calm = true → ∀ (i : Nat) (pins : List (Addr × Obj)) (s : Shared) (σ : St) (H : Hp) (E : Value → Shared → Prop), Inv X pins σ H s → (∀ b ∈ fp, FpOk X pins H b) → tn i s.heap → J.stop i H →
    wpAny (model P w) X.A (pyNext (.ref it)) (fun r s1 => r = none ∧ Inv X pins σ H s1) E s
  self : ∀ (A : Around) (i : Nat) (s : Shared) (Q : Value → Shared → Prop) (E : Value → Shared → Prop), tn i s.heap → Q (.ref it) s → wpAny (model P w) A (pyIter (.ref it)) Q E s
abbrev TI := St → Hp → (It → Hp → Prop) → Prop
/-- an iterator has come -/
def PIE (X : Cx) (pins : List (Addr × Obj)) (σ : St) (tg : Expr) (R : It → Hp → Prop) (itv : Value) (s2 : Shared) : Prop :=
  ∃ (it : Addr) (fp : List Addr) (tn : Nat → Heap → Prop) (J : It) (H' : Hp), itv = .ref it ∧ Inv X pins σ H' s2 ∧ Turn X.prog X.w X.K tg J fp it tn ∧ tn 0 s2.heap ∧ (∀ b ∈ fp, FpOk X pins H' b) ∧ R J H'
def PI (X : Cx) (tg iter : Expr) (wi : TI) : Prop :=
  ∀ (pins : List (Addr × Obj)) (s : Shared) (σ : St) (H : Hp) (R : It → Hp → Prop), Inv X pins σ H s → wi σ H R →
    wpAny (model X.prog X.w) X.A (eval iter X.env) (fun v s1 => wpAny (model X.prog X.w) X.A (pyIter v) (PIE X pins σ tg R) X.xe s1) X.xe s

/-- the step ahead of the store is nothing for an iterator that keeps no tuple -/
theorem go_of {M : Model} {A : Around} {E : Value → Shared → Prop} {s : Shared} {tg : Expr} {it : Addr} {u : Value} {o : Obj} {n : String} {vs : Array Value} {Q : Unit → Shared → Prop} (ho : s.heap.get? it = some o) (hc : o.cls = .type n) (hd : o.data = .fields vs)
    (hn : ["enumerate", "zip", "dict_itemiterator", "dict_reverseitemiterator", "odict_iterator", "itertools.zip_longest", "itertools.pairwise"].contains n = false) (hQ : Q () s) : wpAny M A (letOwnedTupleGo tg (.ref it) u) Q E s := by
  unfold letOwnedTupleGo
  cases tg <;> first
    | exact wpAny_pure hQ
    | (cases u <;> first
        | exact wpAny_pure hQ
        | (refine wpAny_bind (wpAny_load ho ?_)
           rw [hc, hd]
           show wpAny M A (if (["enumerate", "zip", "dict_itemiterator", "dict_reverseitemiterator", "odict_iterator", "itertools.zip_longest", "itertools.pairwise"].contains n && vs[0]? == some (rawInt _)) = true then _ else _) Q E s
           rw [if_neg (by intro h; rw [hn, Bool.false_and] at h; cases h)]
           exact wpAny_pure hQ))

/-- the list at a, as it stands at each turn (a loop may append to it) -/
def Itl (K : PySem.W.Frag) (a : Addr) : It :=
  ⟨fun i H => ∃ xs x, SqL K H a xs ∧ xs[i]? = some x, fun i H x H' => H' = H ∧ ∀ xs, SqL K H a xs → xs[i]? = some x, fun i H => ∃ xs, SqL K H a xs ∧ xs.length ≤ i⟩
/-- lo, lo + 1, .. (n of them) -/
def Itr (lo : Int) (n : Nat) : It := ⟨fun i _ => i < n, fun i H x H' => H' = H ∧ x = .int (lo + i), fun i _ => n ≤ i⟩
theorem turn_list {P : Program} {w : World} {K : PySem.W.Frag} {tg : Expr} (a it : Addr) : Turn P w K tg (Itl K a) [it] it (fun i h => h.IsListIter it a i) where
  mem := by simp
  obj := fun i h st b hb => by
    have e : b = it := by simpa using hb
    subst e
    obtain ⟨o, e, c, d⟩ := st
    exact ⟨o, e, fun v z => by rw [d] at z; cases z⟩
  keep := fun i h h' st k => st.at fun o e => k it (by simp) o e
  item := by
    intro X hP hw hK hc i pins s σ H E I hf st hg
    subst hP hw hK
    obtain ⟨xs, x, hq, hx⟩ := hg
    obtain ⟨its, rv, p, hz⟩ := I.list hq
    obtain ⟨u, hu, ru⟩ := rv.get hx
    obtain ⟨f0, f1, f2, f3, f4, f5⟩ := hf it (by simp)
    refine wpAny_pyNext_list_item st p.isList (x := u) (by simpa using hu) fun h' st' sb => ?_
    have I1 : Inv X pins σ H { s with heap := h' } := I.turned (t' := s.toks) (fun b o hb e => (sb.2 b hb).trans e) f0 f1 f3 f4 f5
    obtain ⟨o, e, c, d⟩ := id st'
    exact ⟨u, rfl, go_of (s := { s with heap := h' }) e c d (by decide) ⟨x, H, I1, ru, ⟨rfl, fun ys hy => by rw [I.list_inj hy hq]; exact hx⟩, st', fun b hb => (hf b hb).1⟩⟩
  done := by
    intro X hP hw hK hc i pins s σ H E I hf st hg
    subst hP hw hK
    obtain ⟨xs, hq, hx⟩ := hg
    obtain ⟨its, rv, p, hz⟩ := I.list hq
    obtain ⟨f0, f1, f2, f3, f4, f5⟩ := hf it (by simp)
    have hl := rv.length
    exact wpAny_pyNext_list_end (I.ok.hd hc) st p.isList (by simp; omega) fun h' eb => ⟨rfl, I.turned (t' := s.toks) (fun b o hb e => eb b o hb e) f0 f1 f3 f4 f5⟩
  self := fun _ _ _ _ _ st h => wpAny_pyIter_listiter st h
theorem turn_range {P : Program} {w : World} {K : PySem.W.Frag} {tg : Expr} (it : Addr) (lo : Int) (n : Nat) : Turn P w K tg (Itr lo n) [it] it (fun i h => IsRangeIter h it (lo + (i : Nat) * 1) ((n : Int) - (i : Nat)) 1) where
  mem := by simp
  obj := fun i h st b hb => by
    have e : b = it := by simpa using hb
    subst e
    exact ⟨_, st, fun v z => by
      have z' : Data.fields _ = Data.cell v := z
      cases z'⟩
  keep := fun i h h' st k => k it (by simp) _ st
  item := by
    intro X hP hw hK hc i pins s σ H E I hf st hg
    subst hP hw hK
    obtain ⟨f0, f1, f2, f3, f4, f5⟩ := hf it (by simp)
    have W := Walks.range (prog := X.prog) (w := X.w) (I.ok.hd hc) it lo 1 n
    refine W.item i s _ _ hg st fun v h' tk hv st' kk => ?_
    obtain ⟨t, rfl⟩ := hv
    have I1 : Inv X pins σ H { s with heap := h', toks := tk } := I.turned (fun b o hb e => kk b o (by simpa using hb) e) f0 f1 f3 f4 f5
    refine ⟨_, rfl, go_of (s := { s with heap := h', toks := tk }) (n := "range_iterator") st' rfl rfl (by decide) ⟨.int (lo + i), H, I1, ⟨t, ?_⟩, ⟨rfl, rfl⟩, st', fun b hb => (hf b hb).1⟩⟩
    rw [Int.mul_one]
  done := by
    intro X hP hw hK hc i pins s σ H E I hf st hg
    subst hP hw hK
    obtain ⟨f0, f1, f2, f3, f4, f5⟩ := hf it (by simp)
    exact wpAny_pyNext_range_end (I.ok.hd hc) st (by have : n ≤ i := hg; omega) fun h' eb => ⟨rfl, I.turned (t' := s.toks) (fun b o hb e => eb b o hb e) f0 f1 f3 f4 f5⟩
  self := fun _ _ _ _ _ st h => wpAny_pyIter_rangeiter st h
end L2

namespace L2
open PySem PySem.Spec PyProof.Rows
section
variable {X : Cx} {tg : Expr}
abbrev iList (K : PySem.W.Frag) (tl : TE) : TI := fun σ H R => tl σ H fun x H1 => ∃ a, x = .ref a ∧ (∃ xs, SqL K H1 a xs) ∧ R (Itl K a) H1
theorem pi_list {l : Expr} {tl : TE} (hl : PE X l tl) : PI X tg l (iList X.K tl) := by
  intro pins s σ H R I h
  refine thn (hl pins s σ H _ I h) fun v s1 ⟨x, H1, I1, r1, q1⟩ => ?_
  obtain ⟨a, e, ⟨xs, hq⟩, q⟩ := q1
  subst e
  cases r1
  obtain ⟨its, rv, p, hz⟩ := I1.list hq
  refine wpAny_pyIter_list p.isList ?_
  refine ⟨s1.heap.objs.size, [s1.heap.objs.size], _, _, H1, rfl, I1.kept (t' := s1.toks) fun b o e => Heap.get?_push_of_some _ e, turn_list a _, ⟨_, Heap.get?_push_size _ rfl, rfl, rfl⟩, fun b hb => ?_, q⟩
  have e : b = s1.heap.objs.size := by simpa using hb
  subst e
  exact I1.fpOk (Nat.le_refl _) (I1.hok.fresh (Nat.le_refl _))
/-- a range object just made, walked -/
theorem range_it {pins : List (Addr × Obj)} {σ : St} {H : Hp} {s : Shared} {R : It → Hp → Prop} {E : Value → Shared → Prop} {lo hi : Int} {t u v : Tok} {tk : Nat} (I : Inv X pins σ H s) (h1 : -(2 ^ 62) ≤ lo) (h2 : lo < 2 ^ 62) (h3 : -(2 ^ 62) ≤ hi) (h4 : hi < 2 ^ 62)
    (q : R (Itr lo (hi - lo).toNat) H) : wpAny (model X.prog X.w) X.A (pyIter (.ref s.heap.objs.size)) (PIE X pins σ tg R) E { s with heap := s.heap.push { cls := .type "range", data := .fields #[.int lo t, .int hi u, .int 1 v] }, toks := tk } := by
  refine wpAny_pyIter_range (IsRange.new ..) (small_one h1 h2 h3 h4) ?_
  have I1 : Inv X pins σ H { s with heap := s.heap.push { cls := .type "range", data := .fields #[.int lo t, .int hi u, .int 1 v] }, toks := tk } := I.kept fun b o e => Heap.get?_push_of_some _ e
  refine ⟨(s.heap.push { cls := .type "range", data := .fields #[.int lo t, .int hi u, .int 1 v] }).objs.size, [(s.heap.push { cls := .type "range", data := .fields #[.int lo t, .int hi u, .int 1 v] }).objs.size], _, _, H, rfl,
    I1.kept (t' := tk) fun b o e => Heap.get?_push_of_some _ e, turn_range _ lo (hi - lo).toNat, ?_, fun b hb => ?_, q⟩
  · have e1 : lo + ((0 : Nat) : Int) * 1 = lo := by simp
    have e2 : (((hi - lo).toNat : Nat) : Int) - ((0 : Nat) : Int) = Builtin.Range.rangeSize lo hi 1 := by rw [rangeSize_one]; split <;> omega
    show IsRangeIter _ _ (lo + ((0 : Nat) : Int) * 1) ((((hi - lo).toNat : Nat) : Int) - ((0 : Nat) : Int)) 1
    rw [e1, e2]
    exact Heap.get?_push_size _ rfl
  · have e : b = (s.heap.push { cls := .type "range", data := .fields #[.int lo t, .int hi u, .int 1 v] }).objs.size := by simpa using hb
    subst e
    exact I1.fpOk (Nat.le_refl _) (I1.hok.fresh (Nat.le_refl _))
abbrev iRng1 (ta : TA) : TI := fun σ H R => ta σ H fun vs H1 => ∃ j : Int, vs = [.int j] ∧ -(2 ^ 62) ≤ j ∧ j < 2 ^ 62 ∧ R (Itr 0 j.toNat) H1
abbrev iRng2 (ta : TA) : TI := fun σ H R => ta σ H fun vs H1 => ∃ i j : Int, vs = [.int i, .int j] ∧ (-(2 ^ 62) ≤ i ∧ i < 2 ^ 62 ∧ -(2 ^ 62) ≤ j ∧ j < 2 ^ 62) ∧ R (Itr i (j - i).toNat) H1
theorem pi_range1 {a : Expr} {ta : TA} {p pos : Pos} (hg : Gl X "range") (hm : X.mg "range" = none) (ha : PA X [a] ta) (hs : starEach [a] X.env = [(false, eval a X.env)] := by rfl) : PI X tg (.Call (.Name "range" p) [a] [] pos) (iRng1 ta) := by
  intro pins s σ H R I h
  refine Call_ (ld_blt I hg hm boot_range (PyProof.Rows.callWith_type1 (thn (ha pos pins s σ H _ I h) fun us s1 ⟨vs, H1, I1, r1, q1⟩ => ?_) hs rfl))
  obtain ⟨j, e, q1, q2, q⟩ := q1
  subst e
  cases r1 with
  | cons r rr =>
    cases rr
    obtain ⟨t, rfl⟩ := r
    exact call_range_1 (range_it I1 (by omega) (by omega) q1 q2 (by simpa using q))
theorem pi_range2 {a b : Expr} {ta : TA} {p pos : Pos} (hg : Gl X "range") (hm : X.mg "range" = none) (ha : PA X [a, b] ta) (hs : starEach [a, b] X.env = [(false, eval a X.env), (false, eval b X.env)] := by rfl) (hs2 : starEach [b] X.env = [(false, eval b X.env)] := by rfl) :
    PI X tg (.Call (.Name "range" p) [a, b] [] pos) (iRng2 ta) := by
  intro pins s σ H R I h
  refine Call_ (ld_blt I hg hm boot_range (PyProof.Rows.callWith_type1 (thn (ha pos pins s σ H _ I h) fun us s1 ⟨vs, H1, I1, r1, q1⟩ => ?_) (by rw [hs, hs2]) (by rw [hs2]; rfl)))
  obtain ⟨i, j, e, ⟨q1, q2, q3, q4⟩, q⟩ := q1
  subst e
  cases r1 with
  | cons r rr =>
    cases rr with
    | cons r' rr =>
      cases rr
      obtain ⟨t, rfl⟩ := r
      obtain ⟨t', rfl⟩ := r'
      exact call_range_2 (range_it I1 q1 q2 q3 q4 q)

/-! ### for -/
/-- W: the invariant by the turn and a measure; N: what the body is to reach -/
abbrev tFor (wi : TI) (g : TG) (tb : TS) : TS := fun D σ H => wi σ H fun J H1 => ∃ W : Nat → Nat → St → Hp → Prop, (∃ m, W 0 m σ H1) ∧ ∀ i m σ H, W i m σ H →
  (J.stop i H ∧ D.nx σ H) ∨ (J.go i H ∧ ∃ N : St → Hp → Prop, (∀ σ' H', N σ' H' → ∃ m', m' < m ∧ W (i + 1) m' σ' H') ∧ ∀ x H', J.yld i H x H' → g x σ H' fun σ2 H2 => tb { D with nx := N, ct := N, bk := D.nx } σ2 H2)
/-- the records at fp as they stand -/
def pinsAt (fp : List Addr) (h : Heap) : List (Addr × Obj) := fp.filterMap fun b => (h.get? b).map fun o => (b, o)
theorem mem_pinsAt {fp : List Addr} {h : Heap} {b : Addr} {o : Obj} (hb : b ∈ fp) (e : h.get? b = some o) : (b, o) ∈ pinsAt fp h := List.mem_filterMap.mpr ⟨b, hb, by rw [e]; rfl⟩
theorem of_pinsAt {fp : List Addr} {h : Heap} {p : Addr × Obj} (hp : p ∈ pinsAt fp h) : p.1 ∈ fp ∧ h.get? p.1 = some p.2 := by
  obtain ⟨b, hb, e⟩ := List.mem_filterMap.mp hp
  cases q : h.get? b with
  | none => rw [q] at e; cases e
  | some o =>
    rw [q] at e
    have e' : (b, o) = p := Option.some.inj e
    subst e'
    exact ⟨hb, q⟩
theorem Inv.pinned {pins : List (Addr × Obj)} {σ : St} {H : Hp} {s : Shared} {fp : List Addr} (I : Inv X pins σ H s) (hf : ∀ b ∈ fp, FpOk X pins H b) (ho : ∀ b ∈ fp, ∃ o, s.heap.get? b = some o ∧ ∀ v, o.data ≠ .cell v) : Inv X (pins ++ pinsAt fp s.heap) σ H s :=
  I.pins_of fun p hp => (List.mem_append.mp hp).elim (fun z => I.pin p (List.mem_append_right _ z)) fun z => by
    obtain ⟨hb, e⟩ := of_pinsAt z
    obtain ⟨f0, f1, f2, _⟩ := hf p.1 hb
    obtain ⟨o, e', d⟩ := ho p.1 hb
    rw [e] at e'; cases e'
    exact ⟨e, f0, f1, f2, d⟩
theorem Inv.unpinned {pins pl : List (Addr × Obj)} {σ : St} {H : Hp} {s : Shared} (I : Inv X (pins ++ pl) σ H s) : Inv X pins σ H s := I.pins_of fun p hp => I.pin p (List.mem_append_right _ (List.mem_append_left _ hp))
theorem ps_for {iter : Expr} {body : List Stmt} {wi : TI} {g : TG} {tb : TS} {pos : Pos} (hp : PassesOwn (model X.prog X.w) X.A X.env X.xe) (hc : X.calm = true) (hi : PI X tg iter wi) (hg : PG X tg g) (hb : PSs X body tb)
    (hs : ∀ x, foldedSetIterable iter X.env x = pure x := by intro _; rfl) : PS X (.For tg iter body [] pos) (tFor wi g tb) := by
  intro pins s σ H D I h
  refine wpAny_For (thn (hi pins s σ H _ I h) fun v s1 h1 => thn h1 fun itv s2 h2 => ?_) hs
  obtain ⟨it, fp, tn, J, H2, e, I2, T, st2, f2, W, ⟨m0, w0⟩, turn⟩ := h2
  subst e
  -- what stays true of the iterator's objects through the loop
  have stat : ∀ {H' : Hp}, (∀ b ∈ fp, H' b = none) → ∀ b ∈ fp, FpOk X pins H' b := fun hn b hb => ⟨hn b hb, (f2 b hb).2⟩
  refine codeAny_forLoop_any (fun n s' => ∃ i σ' H', Inv X pins σ' H' s' ∧ tn i s'.heap ∧ (∀ b ∈ fp, H' b = none) ∧ W i n σ' H') ?_ m0 ⟨0, σ, H2, I2, st2, fun b hb => (f2 b hb).1, w0⟩
  rintro n s3 ⟨i, σ3, H3, I3, st3, fr3, w3⟩
  rcases turn i n σ3 H3 w3 with ⟨stop, qn⟩ | ⟨go, N, hN, step⟩
  · refine wpAny_passesOwn hp (thn (T.done X rfl rfl rfl hc i pins s3 σ3 H3 X.xe I3 (stat fr3) st3 stop) fun r s4 ⟨hr, I4⟩ => ?_)
    subst hr
    exact wpAny_execs_nil ⟨σ3, H3, I4, qn⟩
  · refine wpAny_passesOwn hp (thn (T.item X rfl rfl rfl hc i pins s3 σ3 H3 X.xe I3 (stat fr3) st3 go) fun r s4 ⟨u, hr, h4⟩ => ?_)
    subst hr
    refine wpAny_passesOwn hp (thn h4 fun _ s5 ⟨x, H5, I5, r5, y5, st5, fr5⟩ => ?_)
    have I5' := I5.pinned (stat fr5) (T.obj _ _ st5)
    refine wpAny_passesOwn hp (thn (hg _ s5 σ3 H5 x u _ I5' r5 (step x H5 y5)) fun _ s6 ⟨σ6, H6, I6, q6⟩ => ?_)
    refine wpAny_passesOwn hp (thn (hb _ s6 σ6 H6 _ I6 q6) fun f s7 q7 => ?_)
    have again : ∀ {σ7 : St} {H7 : Hp}, Inv X (pins ++ pinsAt fp s5.heap) σ7 H7 s7 → N σ7 H7 → ∃ m, m < n ∧ ∃ i σ' H', Inv X pins σ' H' s7 ∧ tn i s7.heap ∧ (∀ b ∈ fp, H' b = none) ∧ W i m σ' H' := fun {σ7 H7} I7 n7 => by
      obtain ⟨m', hm, w7⟩ := hN σ7 H7 n7
      refine ⟨m', hm, i + 1, σ7, H7, I7.unpinned, T.keep _ _ _ st5 fun b hb o e => (I7.pin (b, o) (List.mem_append_right _ (List.mem_append_right _ (mem_pinsAt hb e)))).1, fun b hb => ?_, w7⟩
      obtain ⟨o, e, d⟩ := T.obj _ _ st5 b hb
      exact (I7.pin (b, o) (List.mem_append_right _ (List.mem_append_right _ (mem_pinsAt hb e)))).2.1
    cases f with
    | next => obtain ⟨σ7, H7, I7, n7⟩ := q7; exact again I7 n7
    | cont => obtain ⟨σ7, H7, I7, n7⟩ := q7; exact again I7 n7
    | brk => obtain ⟨σ7, H7, I7, q7⟩ := q7; exact ⟨σ7, H7, I7.unpinned, q7⟩
    | ret v => obtain ⟨x7, σ7, H7, I7, r7, q7⟩ := q7; exact ⟨x7, σ7, H7, I7.unpinned, r7, q7⟩
end

/-! ### the forms one uses -/
/-- over a list that the body leaves as it is -/
theorem for_list {K : PySem.W.Frag} {a : Addr} {xs : List V} {g : TG} {tb : TS} {D : Ends} {σ : St} {H : Hp} (Pv : Nat → St → Hp → Prop) (h0 : Pv 0 σ H) (hl : ∀ i σ H, i ≤ xs.length → Pv i σ H → SqL K H a xs)
    (hs : ∀ i x σ H, xs[i]? = some x → Pv i σ H → g x σ H fun σ2 H2 => tb { D with nx := Pv (i + 1), ct := Pv (i + 1), bk := D.nx } σ2 H2) (hd : ∀ σ H, Pv xs.length σ H → D.nx σ H) :
    ∃ W : Nat → Nat → St → Hp → Prop, (∃ m, W 0 m σ H) ∧ ∀ i m σ H, W i m σ H →
      ((Itl K a).stop i H ∧ D.nx σ H) ∨ ((Itl K a).go i H ∧ ∃ N : St → Hp → Prop, (∀ σ' H', N σ' H' → ∃ m', m' < m ∧ W (i + 1) m' σ' H') ∧ ∀ x H', (Itl K a).yld i H x H' → g x σ H' fun σ2 H2 => tb { D with nx := N, ct := N, bk := D.nx } σ2 H2) := by
  refine ⟨fun i m σ H => m = xs.length - i ∧ i ≤ xs.length ∧ Pv i σ H, ⟨xs.length, by simp, Nat.zero_le _, h0⟩, ?_⟩
  rintro i m σ H ⟨rfl, hi, p⟩
  have q := hl i σ H hi p
  by_cases hlt : i < xs.length
  · refine .inr ⟨⟨xs, xs[i], q, by simp [hlt]⟩, Pv (i + 1), fun σ' H' p' => ⟨xs.length - (i + 1), by omega, rfl, hlt, p'⟩, fun x H' y => ?_⟩
    obtain ⟨e, y⟩ := y
    subst e
    exact hs i x σ _ (y xs q) p
  · have e : i = xs.length := by omega
    subst e
    exact .inl ⟨⟨xs, q, Nat.le_refl _⟩, hd σ H p⟩
theorem for_range {lo : Int} {n : Nat} {g : TG} {tb : TS} {D : Ends} {σ : St} {H : Hp} (Pv : Nat → St → Hp → Prop) (h0 : Pv 0 σ H)
    (hs : ∀ i σ H, i < n → Pv i σ H → g (.int (lo + i)) σ H fun σ2 H2 => tb { D with nx := Pv (i + 1), ct := Pv (i + 1), bk := D.nx } σ2 H2) (hd : ∀ σ H, Pv n σ H → D.nx σ H) :
    ∃ W : Nat → Nat → St → Hp → Prop, (∃ m, W 0 m σ H) ∧ ∀ i m σ H, W i m σ H →
      ((Itr lo n).stop i H ∧ D.nx σ H) ∨ ((Itr lo n).go i H ∧ ∃ N : St → Hp → Prop, (∀ σ' H', N σ' H' → ∃ m', m' < m ∧ W (i + 1) m' σ' H') ∧ ∀ x H', (Itr lo n).yld i H x H' → g x σ H' fun σ2 H2 => tb { D with nx := N, ct := N, bk := D.nx } σ2 H2) := by
  refine ⟨fun i m σ H => m = n - i ∧ i ≤ n ∧ Pv i σ H, ⟨n, by simp, Nat.zero_le _, h0⟩, ?_⟩
  rintro i m σ H ⟨rfl, hi, p⟩
  by_cases hlt : i < n
  · refine .inr ⟨hlt, Pv (i + 1), fun σ' H' p' => ⟨n - (i + 1), by omega, rfl, hlt, p'⟩, fun x H' y => ?_⟩
    obtain ⟨e, y⟩ := y
    subst e y
    exact hs i σ _ hlt p
  · have e : i = n := by omega
    subst e
    exact .inl ⟨Nat.le_refl _, hd σ H p⟩
/-- while, by a word and a measure of the state -/
theorem while_by {c : TT} {tb : TS} {D : Ends} {σ : St} {H : Hp} (Pv : St → Hp → Prop) (μ : St → Hp → Nat) (h0 : Pv σ H)
    (hs : ∀ σ H, Pv σ H → c σ H fun b H1 => if b = true then tb { D with nx := fun σ' H' => Pv σ' H' ∧ μ σ' H' < μ σ H, ct := fun σ' H' => Pv σ' H' ∧ μ σ' H' < μ σ H, bk := D.nx } σ H1 else D.nx σ H1)
    (mono : ∀ σ H Q Q', (∀ b H1, Q b H1 → Q' b H1) → c σ H Q → c σ H Q') : tWhile c tb D σ H := by
  refine ⟨fun m σ H => m = μ σ H ∧ Pv σ H, ⟨_, rfl, h0⟩, ?_⟩
  rintro m σ H ⟨rfl, p⟩
  refine mono σ H _ _ (fun b H1 q => ?_) (hs σ H p)
  cases b with
  | true => exact ⟨_, fun σ' H' ⟨p', l⟩ => ⟨_, l, rfl, p'⟩, q⟩
  | false => exact q
end L2

namespace L2
open PySem PySem.Spec PyProof.Rows

abbrev R2 := V → V → Hp → VK → Prop
/-- a two-place operation on values: f is binaryOp op, inplaceOp op or compareOp op -/
def OpR (X : Cx) (f : Value → Value → Sem Value) (r : R2) : Prop :=
  ∀ (pins : List (Addr × Obj)) (s : Shared) (σ : St) (H : Hp) (x y : V) (v u : Value) (Q : VK), Inv X pins σ H s → RelV x v → RelV y u → r x y H Q →
    wpAny (model X.prog X.w) X.A (f v u) (EP X pins σ Q) X.xe s
/-- a one-place operation -/
def UnR (X : Cx) (f : Value → Sem Value) (r : V → Hp → VK → Prop) : Prop :=
  ∀ (pins : List (Addr × Obj)) (s : Shared) (σ : St) (H : Hp) (x : V) (v : Value) (Q : VK), Inv X pins σ H s → RelV x v → r x H Q →
    wpAny (model X.prog X.w) X.A (f v) (EP X pins σ Q) X.xe s
/-- a call of a value that is known (a builtin, a type) with values -/
def CallR (X : Cx) (f : Value) (r : List V → Hp → VK → Prop) : Prop :=
  ∀ (pins : List (Addr × Obj)) (s : Shared) (σ : St) (H : Hp) (xs : List V) (us : List Value) (Q : VK), Inv X pins σ H s → Vals xs us → r xs H Q →
    wpAny (model X.prog X.w) X.A (call f us) (EP X pins σ Q) X.xe s

abbrev tOp (r : R2) (ta tb : TE) : TE := fun σ H Q => ta σ H fun x H1 => tb σ H1 fun y H2 => r x y H2 Q
abbrev tUn (r : V → Hp → VK → Prop) (ta : TE) : TE := fun σ H Q => ta σ H fun x H1 => r x H1 Q
/-- ints in, under C, and a value out -/
def rI (C : Int → Int → Prop) (g : Int → Int → V) : R2 := fun x y H Q => ∃ i j, x = .int i ∧ y = .int j ∧ C i j ∧ Q (g i j) H
def rI0 (g : Int → Int → V) : R2 := fun x y H Q => ∃ i j, x = .int i ∧ y = .int j ∧ Q (g i j) H
def rU (g : Int → V) : V → Hp → VK → Prop := fun x H Q => ∃ i, x = .int i ∧ Q (g i) H

section
variable {X : Cx} {a b c : Expr} {ta tb tc : TE} {pos : Pos}

theorem binT (ha : PE X a ta) (hb : PE X b tb) {pins : List (Addr × Obj)} {s : Shared} {σ : St} {H : Hp} {R : V → V → Hp → Prop} (I : Inv X pins σ H s)
    (h : ta σ H fun x H1 => tb σ H1 fun y H2 => R x y H2) {Q : Value → Shared → Prop} {f : Value → Value → Sem Value}
    (hf : ∀ v u s2 x y H2, Inv X pins σ H2 s2 → RelV x v → RelV y u → R x y H2 → wpAny (model X.prog X.w) X.A (f v u) Q X.xe s2) :
    wpAny (model X.prog X.w) X.A (eval a X.env) (fun v s₁ => wpAny (model X.prog X.w) X.A (eval b X.env) (fun u s₂ => wpAny (model X.prog X.w) X.A (f v u) Q X.xe s₂) X.xe s₁) X.xe s := by
  refine thn (ha pins s σ H _ I h) fun v s1 ⟨x, H1, I1, r1, q1⟩ => ?_
  refine thn (hb pins s1 σ H1 _ I1 q1) fun u s2 ⟨y, H2, I2, r2, q2⟩ => ?_
  exact hf v u s2 x y H2 I2 r1 r2 q2

theorem pe_op {op : Operator} {r : R2} (ho : OpR X (binaryOp op) r) (ha : PE X a ta) (hb : PE X b tb) : PE X (.BinOp a op b pos) (tOp r ta tb) := by
  intro pins s σ H Q I h
  exact wpAny_BinOp (binT ha hb I h fun v u s2 x y H2 I2 rx ry q => ho pins s2 σ H2 x y v u Q I2 rx ry q)
theorem pe_un {op : UnaryOp} {r : V → Hp → VK → Prop} (ho : UnR X (unaryOp op) r) (ha : PE X a ta) : PE X (.UnaryOp op a pos) (tUn r ta) := by
  intro pins s σ H Q I h
  exact UnaryOp_ (thn (ha pins s σ H _ I h) fun v s1 ⟨x, H1, I1, r1, q1⟩ => ho pins s1 σ H1 x v Q I1 r1 q1)

/-! ### ints -/
theorem opI {f : Value → Value → Sem Value} {C : Int → Int → Prop} {g : Int → Int → Int}
    (rule : ∀ (i j : Int) (t u : Tok) (s : Shared) (Q : Value → Shared → Prop) (E : Value → Shared → Prop), C i j → Q (.int (g i j) s.toks) { s with toks := s.toks + 1 } → wpAny (model X.prog X.w) X.A (f (.int i t) (.int j u)) Q E s) :
    OpR X f (rI C fun i j => .int (g i j)) := by
  intro pins s σ H x y v u Q I rx ry h
  obtain ⟨i, j, rfl, rfl, hc, q⟩ := h
  obtain ⟨t, rfl⟩ := rx
  obtain ⟨t', rfl⟩ := ry
  exact rule i j t t' s _ _ hc ⟨.int (g i j), H, I.tok _, ⟨_, rfl⟩, q⟩
theorem opI0 {f : Value → Value → Sem Value} {g : Int → Int → Int}
    (rule : ∀ (i j : Int) (t u : Tok) (s : Shared) (Q : Value → Shared → Prop) (E : Value → Shared → Prop), Q (.int (g i j) s.toks) { s with toks := s.toks + 1 } → wpAny (model X.prog X.w) X.A (f (.int i t) (.int j u)) Q E s) :
    OpR X f (rI0 fun i j => .int (g i j)) := by
  intro pins s σ H x y v u Q I rx ry h
  obtain ⟨i, j, rfl, rfl, q⟩ := h
  obtain ⟨t, rfl⟩ := rx
  obtain ⟨t', rfl⟩ := ry
  exact rule i j t t' s _ _ ⟨.int (g i j), H, I.tok _, ⟨_, rfl⟩, q⟩
theorem opB0 {f : Value → Value → Sem Value} {g : Int → Int → Bool}
    (rule : ∀ (i j : Int) (t u : Tok) (s : Shared) (Q : Value → Shared → Prop) (E : Value → Shared → Prop), Q (.bool (g i j)) s → wpAny (model X.prog X.w) X.A (f (.int i t) (.int j u)) Q E s) :
    OpR X f (rI0 fun i j => .bl (g i j)) := by
  intro pins s σ H x y v u Q I rx ry h
  obtain ⟨i, j, rfl, rfl, q⟩ := h
  obtain ⟨t, rfl⟩ := rx
  obtain ⟨t', rfl⟩ := ry
  exact rule i j t t' s _ _ ⟨.bl (g i j), H, I, rfl, q⟩

def CMul (i j : Int) : Prop := (-(2 ^ 64) < i ∧ i < 2 ^ 64) ∨ (-(2 ^ 64) < j ∧ j < 2 ^ 64)
theorem CMul.ok {i j : Int} (h : CMul i j) : IntMulOk i j := by
  rcases h with ⟨h1, h2⟩ | ⟨h1, h2⟩
  · exact .of_left (intBits_le_64 h1 h2)
  · exact .of_right (intBits_le_64 h1 h2)

theorem op_add : OpR X (binaryOp .Add) (rI0 fun i j => .int (i + j)) := opI0 fun _ _ _ _ _ _ _ q => add_int q
theorem op_sub : OpR X (binaryOp .Sub) (rI0 fun i j => .int (i - j)) := opI0 fun _ _ _ _ _ _ _ q => sub_int q
theorem op_mul : OpR X (binaryOp .Mult) (rI CMul fun i j => .int (i * j)) := opI fun _ _ _ _ _ _ _ hc q => mul_int q hc.ok


theorem unI {f : Value → Sem Value} {g : Int → Int}
    (rule : ∀ (i : Int) (t : Tok) (s : Shared) (Q : Value → Shared → Prop) (E : Value → Shared → Prop), Q (.int (g i) s.toks) { s with toks := s.toks + 1 } → wpAny (model X.prog X.w) X.A (f (.int i t)) Q E s) :
    UnR X f (rU fun i => .int (g i)) := by
  intro pins s σ H x v Q I rx h
  obtain ⟨i, rfl, q⟩ := h
  obtain ⟨t, rfl⟩ := rx
  exact rule i t s _ _ ⟨.int (g i), H, I.tok _, ⟨_, rfl⟩, q⟩
theorem un_neg : UnR X (unaryOp .USub) (rU fun i => .int (-i)) := unI fun _ _ _ _ _ q => neg_int q

/-! ### bools among ints: n += (a < b) -/
end

/-! ### comparisons -/
/-- the scalars that == tells apart as data does -/
def scal : V → V → Bool
  | .non, .non => true | .non, .int _ => true | .int _, .non => true | .non, .bl _ => true | .bl _, .non => true | .non, .str _ => true | .str _, .non => true
  | .int _, .int _ => true | .bl _, .bl _ => true | .str _, .str _ => true | .byt _, .byt _ => true
  | .int _, .str _ => true | .str _, .int _ => true | .bl _, .str _ => true | .str _, .bl _ => true
  | _, _ => false
def rEq : R2 := fun x y H Q => scal x y = true ∧ Q (.bl (decide (x = y))) H
def rNe : R2 := fun x y H Q => scal x y = true ∧ Q (.bl (!decide (x = y))) H

theorem dec_int {i j : Int} : decide (V.int i = V.int j) = (i == j) := by
  rw [Bool.eq_iff_iff]
  simp
theorem dec_bl {i j : Bool} : decide (V.bl i = V.bl j) = (i == j) := by
  rw [Bool.eq_iff_iff]
  simp
theorem dec_str {i j : Str} : decide (V.str i = V.str j) = (i == j) := by
  rw [Bool.eq_iff_iff]
  simp
theorem dec_byt {i j : Array UInt8} : decide (V.byt i = V.byt j) = (i.toList == j.toList) := by
  rw [Bool.eq_iff_iff]
  cases i
  cases j
  simp

section
variable {X : Cx} {a b c : Expr} {ta tb tc : TE} {pos : Pos}
theorem fin_bl {pins : List (Addr × Obj)} {σ : St} {H : Hp} {s : Shared} {Q : VK} {k k' : Bool} (I : Inv X pins σ H s) (q : Q (.bl k) H) (e : k = k') : EP X pins σ Q (.bool k') s := by
  subst e
  exact ⟨.bl k, H, I, rfl, q⟩
theorem op_eq : OpR X (compareOp .Eq) rEq := by
  intro pins s σ H x y v u Q I rx ry h
  obtain ⟨hs, q⟩ := h
  cases x with
  | non =>
    cases rx
    cases y with
    | non => cases ry; exact PySem.EqNone.eq_none_none (fin_bl I q (by simp))
    | bl j => cases ry; exact PySem.EqNone.eq_none_bool (fin_bl I q (by simp))
    | int j => obtain ⟨t', rfl⟩ := ry; exact PySem.EqNone.eq_none_int (fin_bl I q (by simp))
    | str j => obtain ⟨t', rfl⟩ := ry; exact PySem.EqNone.eq_none_str (fin_bl I q (by simp))
    | _ => exact absurd (show false = true from hs) Bool.false_ne_true
  | bl i =>
    cases rx
    cases y with
    | non => cases ry; exact PySem.EqNone.eq_bool_none (fin_bl I q (by simp))
    | bl j => cases ry; exact eq_bool (fin_bl I q dec_bl)
    | str j => obtain ⟨t', rfl⟩ := ry; exact PySem.EqMixed.eq_bool_str (fin_bl I q (by simp))
    | _ => exact absurd (show false = true from hs) Bool.false_ne_true
  | int i =>
    obtain ⟨t, rfl⟩ := rx
    cases y with
    | non => cases ry; exact PySem.EqNone.eq_int_none (fin_bl I q (by simp))
    | int j => obtain ⟨t', rfl⟩ := ry; exact eq_int (fin_bl I q dec_int)
    | str j => obtain ⟨t', rfl⟩ := ry; exact PySem.EqMixed.eq_int_str (fin_bl I q (by simp))
    | _ => exact absurd (show false = true from hs) Bool.false_ne_true
  | str i =>
    obtain ⟨t, rfl⟩ := rx
    cases y with
    | non => cases ry; exact PySem.EqNone.eq_str_none (fin_bl I q (by simp))
    | bl j => cases ry; exact PySem.EqMixed.eq_str_bool (fin_bl I q (by simp))
    | int j => obtain ⟨t', rfl⟩ := ry; exact PySem.EqMixed.eq_str_int (fin_bl I q (by simp))
    | str j => obtain ⟨t', rfl⟩ := ry; exact eq_str (fin_bl I q dec_str)
    | _ => exact absurd (show false = true from hs) Bool.false_ne_true
  | byt i =>
    obtain ⟨t, rfl⟩ := rx
    cases y with
    | byt j => obtain ⟨t', rfl⟩ := ry; exact PySem.W.eq_bytes (fin_bl I q dec_byt)
    | _ => exact absurd (show false = true from hs) Bool.false_ne_true
  | _ => cases y <;> exact absurd (show false = true from hs) Bool.false_ne_true
theorem op_ne : OpR X (compareOp .NotEq) rNe := by
  intro pins s σ H x y v u Q I rx ry h
  obtain ⟨hs, q⟩ := h
  cases x with
  | non =>
    cases rx
    cases y with
    | non => cases ry; exact PySem.EqNone.ne_none_none (fin_bl I q (by simp))
    | bl j => cases ry; exact PySem.EqNone.ne_none_bool (fin_bl I q (by simp))
    | int j => obtain ⟨t', rfl⟩ := ry; exact PySem.EqNone.ne_none_int (fin_bl I q (by simp))
    | str j => obtain ⟨t', rfl⟩ := ry; exact PySem.EqNone.ne_none_str (fin_bl I q (by simp))
    | _ => exact absurd (show false = true from hs) Bool.false_ne_true
  | bl i =>
    cases rx
    cases y with
    | non => cases ry; exact PySem.EqNone.ne_bool_none (fin_bl I q (by simp))
    | bl j => cases ry; exact ne_bool (fin_bl I q (congrArg not dec_bl))
    | str j => obtain ⟨t', rfl⟩ := ry; exact PySem.EqMixed.ne_bool_str (fin_bl I q (by simp))
    | _ => exact absurd (show false = true from hs) Bool.false_ne_true
  | int i =>
    obtain ⟨t, rfl⟩ := rx
    cases y with
    | non => cases ry; exact PySem.EqNone.ne_int_none (fin_bl I q (by simp))
    | int j => obtain ⟨t', rfl⟩ := ry; exact ne_int (fin_bl I q (congrArg not dec_int))
    | str j => obtain ⟨t', rfl⟩ := ry; exact PySem.EqMixed.ne_int_str (fin_bl I q (by simp))
    | _ => exact absurd (show false = true from hs) Bool.false_ne_true
  | str i =>
    obtain ⟨t, rfl⟩ := rx
    cases y with
    | non => cases ry; exact PySem.EqNone.ne_str_none (fin_bl I q (by simp))
    | bl j => cases ry; exact PySem.EqMixed.ne_str_bool (fin_bl I q (by simp))
    | int j => obtain ⟨t', rfl⟩ := ry; exact PySem.EqMixed.ne_str_int (fin_bl I q (by simp))
    | str j => obtain ⟨t', rfl⟩ := ry; exact ne_str (fin_bl I q (congrArg not dec_str))
    | _ => exact absurd (show false = true from hs) Bool.false_ne_true
  | byt i =>
    obtain ⟨t, rfl⟩ := rx
    cases y with
    | byt j => obtain ⟨t', rfl⟩ := ry; exact PySem.W.ne_bytes (fin_bl I q (congrArg not dec_byt))
    | _ => exact absurd (show false = true from hs) Bool.false_ne_true
  | _ => cases y <;> exact absurd (show false = true from hs) Bool.false_ne_true

theorem op_lt : OpR X (compareOp .Lt) (rI0 fun i j => .bl (decide (i < j))) := opB0 fun _ _ _ _ _ _ _ q => lt_int q
theorem op_le : OpR X (compareOp .LtE) (rI0 fun i j => .bl (decide (i ≤ j))) := opB0 fun _ _ _ _ _ _ _ q => le_int q
theorem op_gt : OpR X (compareOp .Gt) (rI0 fun i j => .bl (decide (j < i))) := opB0 fun _ _ _ _ _ _ _ q => gt_int q
theorem op_ge : OpR X (compareOp .GtE) (rI0 fun i j => .bl (decide (j ≤ i))) := opB0 fun _ _ _ _ _ _ _ q => ge_int q

/-- is None, is not None: the right side a value none -/
theorem op_isN : OpR X (compareOp .Is) (fun x y H Q => y = .non ∧ Q (.bl (decide (x = .non))) H) := by
  intro pins s σ H x y v u Q I rx ry h
  obtain ⟨rfl, q⟩ := h
  cases ry
  refine is_none_gen (fin_bl I q ?_)
  cases x <;> first
    | (cases rx; rfl)
    | (obtain ⟨t, rfl⟩ := rx; rfl)



theorem nomark (b : Expr) {op : CmpOp} (h : op ≠ .In := by decide) (h2 : op ≠ .NotIn := by decide) : behindInMarks op b = false := by
  have e1 : (op == CmpOp.In) = false := by cases op <;> first | rfl | exact absurd rfl h
  have e2 : (op == CmpOp.NotIn) = false := by cases op <;> first | rfl | exact absurd rfl h2
  cases b <;> simp [behindInMarks, e1, e2]
/-- a comparison as a value; hm: nomark b, or (for in, not in) by with_unfolding_all rfl -/
theorem pe_cmpR {op : CmpOp} {r : R2} (ho : OpR X (compareOp op) r) (ha : PE X a ta) (hb : PE X b tb) (hm : behindInMarks op b = false) : PE X (.Compare a [op] [b] pos) (tOp r ta tb) := by
  intro pins s σ H Q I h
  exact wpAny_Compare1 (binT ha hb I h fun v u s2 x y H2 I2 rx ry q => ho pins s2 σ H2 x y v u Q I2 rx ry q) hm
/-- a reading of a value as a test -/
abbrev tTest (t : TE) : TT := fun σ H Q => t σ H fun x H' => ∃ k, x = .bl k ∧ Q k H'
theorem pt_cmpR {op : CmpOp} {r : R2} (ho : OpR X (compareOp op) r) (ha : PE X a ta) (hb : PE X b tb) (hm : behindInMarks op b = false) : PT X (.Compare a [op] [b] pos) (tTest (tOp r ta tb)) := by
  intro pins s σ H Q I h
  refine wpAny_isTrue_Compare1 (thn (ha pins s σ H _ I h) fun v s1 ⟨x, H1, I1, r1, q1⟩ => thn (hb pins s1 σ H1 _ I1 q1) fun u s2 ⟨y, H2, I2, r2, q2⟩ =>
    thn (ho pins s2 σ H2 x y v u _ I2 r1 r2 q2) fun c s3 ⟨z, H3, I3, r3, k, e, q3⟩ => ?_) hm
  subst e
  cases r3
  exact wpAny_truthy_bool ⟨H3, I3, q3⟩
/-- a op1 b op2 c -/
def tChain (r r' : R2) (ta tb tc : TE) : TE := fun σ H Q => ta σ H fun x H1 => tb σ H1 fun y H2 => r x y H2 fun z H3 => ∃ k, z = .bl k ∧
  (if k = true then tc σ H3 fun w' H4 => r' y w' H4 Q else Q (.bl false) H3)
theorem pe_chain {op op' : CmpOp} {r r' : R2} (ho : OpR X (compareOp op) r) (ho' : OpR X (compareOp op') r') (ha : PE X a ta) (hb : PE X b tb) (hc : PE X c tc)
    (hm : lastMarks [op, op'] [b, c] = false := by with_unfolding_all rfl) : PE X (.Compare a [op, op'] [b, c] pos) (tChain r r' ta tb tc) := by
  intro pins s σ H Q I h
  refine Compare_chain (thn (ha pins s σ H _ I h) fun v s1 ⟨x, H1, I1, r1, q1⟩ => chain_link (thn (hb pins s1 σ H1 _ I1 q1) fun u s2 ⟨y, H2, I2, r2, q2⟩ =>
    thn (ho pins s2 σ H2 x y v u _ I2 r1 r2 q2) fun d s3 ⟨z, H3, I3, r3, k, e, q3⟩ => ?_)) hm
  subst e
  cases r3
  refine wpAny_truthy_bool ?_
  cases k with
  | false => exact ite_ff ⟨.bl false, H3, I3, rfl, q3⟩
  | true => exact ite_tt (chain_last (thn (hc pins s3 σ H3 _ I3 q3) fun w' s4 ⟨z', H4, I4, r4, q4⟩ => ho' pins s4 σ H4 y z' u w' Q I4 r2 r4 q4))

/-! ### truth -/
theorem line63 : (sizeLine : Nat) < 2 ^ 63 := by rw [sizeLine_eq]; decide

/-! ### strs and bytes -/


/-! ### scalar builtins, by CallR -/
theorem vals1 {x : V} {us : List Value} (r : Vals [x] us) : ∃ u, us = [u] ∧ RelV x u := by
  cases r with
  | cons r1 r2 => cases r2; exact ⟨_, rfl, r1⟩
theorem vals2 {x y : V} {us : List Value} (r : Vals [x, y] us) : ∃ u w', us = [u, w'] ∧ RelV x u ∧ RelV y w' := by
  cases r with
  | cons r1 r2 =>
    cases r2 with
    | cons r3 r4 => cases r4; exact ⟨_, _, rfl, r1, r3⟩
theorem call_max2 (hc : X.calm = true) : CallR X (.builtin "max") (fun xs H Q => ∃ i j, xs = [.int i, .int j] ∧ Q (.int (if j > i then j else i)) H) := by
  intro pins s σ H xs us Q I r h
  obtain ⟨i, j, rfl, q⟩ := h
  obtain ⟨u, w', rfl, ⟨t, rfl⟩, ⟨t', rfl⟩⟩ := vals2 r
  refine max_two_ints (I.ok.hd hc) fun h' tk k => ⟨_, H, I.kept k, ?_, q⟩
  by_cases hj : j > i
  · rw [if_pos hj, if_pos hj]; exact ⟨_, rfl⟩
  · rw [if_neg hj, if_neg hj]; exact ⟨_, rfl⟩
end
end L2

namespace L2
open PySem PySem.Spec PyProof.Rows

/-! ### an instance, its attributes a map -/
structure ObjM (h : Heap) (x dx C : Addr) (mA : Str → Option Value) : Prop where
  obj : h.get? x = some (PySem.W.instObj C dx)
  ns : h.Ns1 dx mA
  ne : dx ≠ x

theorem lookIn_ns {h : Heap} {dx : Addr} {mA : Str → Option Value} (n : h.Ns1 dx mA) : ∃ od, h.get? dx = some od ∧ ∀ name, PySem.W.lookIn name od = some (mA name) := by
  obtain ⟨o, es, ep, ho, hd, hk, _, hm⟩ := n
  refine ⟨o, ho, fun name => ?_⟩
  have e := hm name
  unfold nsFind findBy at e
  rw [← Array.find?_toList] at e
  unfold PySem.W.lookIn
  rw [hd]
  dsimp only
  split
  · rename_i y q
    rw [q] at e
    exact congrArg some e
  · rename_i q
    rw [q] at e
    have a : es.toList.any (·.refKey) = false := by
      rw [List.any_eq_false]
      intro y hy
      obtain ⟨z, t, hkey⟩ := hk y (Array.mem_toList_iff.mp hy)
      simp [DictEntry.refKey, hkey]
    have a' : ¬ es.toList.any (·.refKey) = true := by rw [a]; exact Bool.false_ne_true
    rw [if_neg a']
    exact congrArg some e

theorem ObjM.look {h : Heap} {x dx C : Addr} {mA : Str → Option Value} (I : ObjM h x dx C mA) : ∃ od, PySem.W.InstAt h x (PySem.W.instObj C dx) C (some od) ∧ ∀ name, PySem.W.lookIn name od = some (mA name) :=
  let ⟨od, ho, hl⟩ := lookIn_ns I.ns
  ⟨od, ⟨I.obj, rfl, rfl, ho⟩, hl⟩

section
variable {prog : Program} {w : World} {A : Around} {E : Value → Shared → Prop} {s : Shared} {K : PySem.W.Frag} {x dx C f : Addr} {mA : Str → Option Value} {name : Str} {v : Value}

theorem get_map {expr : Bool} {Q : Value → Shared → Prop} (X : K.In s.heap) (I : ObjM s.heap x dx C mA) (hg : PySem.W.plainGet K C name = true) (hh : PySem.W.hasDictIn K C = true)
    (ha : PySem.W.findIn K (.ref C) name = some none) (hv : mA name = some v) (hv' : PySem.W.handedIn v = true) (h : Q v { s with toks := s.toks + 1 }) :
    wpAny (model prog w) A (getAttr (.ref x) name expr) Q E s := by
  obtain ⟨od, J, hl⟩ := I.look
  exact PySem.W.get_value X J (PySem.W.plainGet_of hg).1 (PySem.W.findObj_own hh ha rfl (by rw [hl, hv])) hv' h


theorem get_meth {pl : Sem Bool} {Q : Value × List Value → Shared → Prop} (X : K.In s.heap) (I : ObjM s.heap x dx C mA) (hg : PySem.W.plainGet K C name = true)
    (hf : PySem.W.findIn K (.ref C) name = some (some (.ref f))) (ht : PySem.W.isFn K (.ref f) = true) (hv : mA name = none) (h : Q (.ref f, [.ref x]) s) :
    wpAny (model prog w) A (getMethod (.ref x) name pl) Q E s := by
  obtain ⟨od, J, hl⟩ := I.look
  exact PySem.W.method_fn X J (PySem.W.plainGet_of hg).1 (PySem.W.plainGet_of hg).2 hf (beq_iff_eq.mp ht) (by show (PySem.W.lookIn name od).map (·.isSome) = some false; rw [hl, hv]; rfl) h

theorem set_map {ns : List Str} {Q : Unit → Shared → Prop} (X : K.In s.heap) (I : ObjM s.heap x dx C mA)
    (hs : PySem.W.findIn K (.ref C) "__setattr__" = some (some (.builtin "object.__setattr__"))) (hp : PySem.W.plainOver K C = true) (ht : PySem.W.takerIn K C name = some none) (hh : PySem.W.hasDictIn K C = true)
    (hw : PySem.Within mA ns) (hsz : ns.length ≤ sizeLine)
    (h : ∀ h', ObjM h' x dx C (fun y => if y = name then some v else mA y) → Heap.SameBut dx s.heap h' → Q () { s with heap := h', toks := s.toks + 2 }) :
    wpAny (model prog w) A (setAttr (.ref x) name v) Q E s := by
  obtain ⟨od, J, hl⟩ := I.look
  refine PySem.W.set_plain X J hs (PySem.W.osa_open (s := { s with toks := s.toks + 1 }) (r := none) X J hp ht fun b => ?_)
  obtain ⟨cd, hc, hd'⟩ := PySem.W.any_some hh
  have hx : s.heap.get? x = some ⟨.ref C, some dx, .plain, #[]⟩ := I.obj
  refine wpAny_bind (wpAny_pure (wpAny_bind (wpAny_bind (wpAny_loadPart hx (wpAny_bind (PySem.W.Looks.here (s := { s with toks := s.toks + 1 }) (PySem.W.looks_clsIn X hc) ?_))))))
  rw [hd']
  refine wpAny_pure (a := some dx) (wpAny_bind (wpAny_pure (wpAny_bind ?_)))
  refine wpAny_nsSet1 (s := { s with toks := s.toks + 1 }) I.ns fun h' hn2 hs2 => ?_
  obtain ⟨oD, esD, epD, hoD, hdD, hcD⟩ := hn2.count (PySem.Within.cons name v hw)
  refine wpAny_bind (wpAny_lookBehind hoD (by rw [hdD]; exact pastItsLine_dict (Nat.le_trans hcD (by rw [List.length_cons]; omega))) ?_)
  exact wpAny_pure (h _ ⟨(hs2.2 _ (Ne.symm I.ne)).trans I.obj, hn2, I.ne⟩ hs2)

/-- C(..): the dict at the heap's end, the instance behind it; then its __init__ -/
theorem make_map {R : Result → Shared → Prop} {vs : List Value} {kw : List (Str × Value)} (X : K.In s.heap) (hm : PySem.W.makesIn K C = true)
    (hi : PySem.W.findIn K (.ref C) "__init__" = some (some (.ref f))) (hf : PySem.W.typeIn K (.ref f) = some (.type "function"))
    (h : codeAny (model prog w) (A.under (.builtin "type.__call__" ⟨.ref C :: vs, kw⟩)) (.call (.ref f) ⟨.ref (s.heap.objs.size + 1) :: vs, kw⟩) (PySem.W.InitBack (s.heap.objs.size + 1) R)
      { s with heap := (s.heap.push PySem.W.emptyDict).push (PySem.W.instObj C s.heap.objs.size) }) :
    codeAny (model prog w) A (.call (.ref C) ⟨vs, kw⟩) R s := by
  obtain ⟨hh, g, d, t, os⟩ := s
  exact PySem.W.make_core (PySem.W.makes_of X hm) (PySem.W.looks_findIn X hi) (fun self => PySem.W.bind_fn X self hf) (.inl rfl) h
end

/-! ### the attributes as a list of pairs -/
def putF (f : Str) (v : V) : List (Str × V) → List (Str × V)
  | [] => [(f, v)]
  | (g, x) :: r => if g = f then (g, v) :: r else (g, x) :: putF f v r
theorem lookup_putF (f g : Str) (v : V) : ∀ fs : List (Str × V), (putF f v fs).lookup g = if g = f then some v else fs.lookup g
  | [] => by
    show List.lookup g [(f, v)] = _
    by_cases h : g = f
    · have hb : (g == f) = true := beq_iff_eq.mpr h
      simp only [List.lookup, hb, if_pos h]
    · have hb : (g == f) = false := beq_eq_false_iff_ne.mpr h
      simp only [List.lookup, hb, if_neg h]
  | (k, x) :: r => by
    have ih := lookup_putF f g v r
    rw [show putF f v ((k, x) :: r) = (if k = f then (k, v) :: r else (k, x) :: putF f v r) from rfl]
    by_cases hk : k = f
    · rw [if_pos hk]
      by_cases h : g = k
      · have hb : (g == k) = true := beq_iff_eq.mpr h
        simp only [List.lookup, hb, if_pos (h.trans hk)]
      · have hb : (g == k) = false := beq_eq_false_iff_ne.mpr h
        simp only [List.lookup, hb, if_neg (fun e : g = f => h (e.trans hk.symm))]
    · rw [if_neg hk]
      by_cases h : g = k
      · have hb : (g == k) = true := beq_iff_eq.mpr h
        simp only [List.lookup, hb, if_neg (fun e : g = f => hk (h.symm.trans e))]
      · have hb : (g == k) = false := beq_eq_false_iff_ne.mpr h
        simp only [List.lookup, hb]
        exact ih
theorem keys_putF (f : Str) (v : V) : ∀ fs : List (Str × V), f ∈ (putF f v fs).map (·.1) ∧ ∀ g, g ∈ fs.map (·.1) → g ∈ (putF f v fs).map (·.1)
  | [] => ⟨by simp [putF], fun g h => by simp at h⟩
  | (k, x) :: r => by
    obtain ⟨i1, i2⟩ := keys_putF f v r
    rw [show putF f v ((k, x) :: r) = (if k = f then (k, v) :: r else (k, x) :: putF f v r) from rfl]
    by_cases hk : k = f
    · rw [if_pos hk]
      subst hk
      exact ⟨by simp, fun g h => by simpa using h⟩
    · rw [if_neg hk]
      refine ⟨?_, fun g h => ?_⟩
      · rw [List.map_cons]
        exact List.mem_cons_of_mem _ i1
      · rw [List.map_cons] at h ⊢
        rcases List.mem_cons.mp h with e | e
        · exact List.mem_cons.mpr (.inl e)
        · exact List.mem_cons_of_mem _ (i2 g e)
theorem length_putF (f : Str) (v : V) : ∀ fs : List (Str × V), (putF f v fs).length ≤ fs.length + 1
  | [] => by simp [putF]
  | (k, x) :: r => by
    have ih := length_putF f v r
    rw [show putF f v ((k, x) :: r) = (if k = f then (k, v) :: r else (k, x) :: putF f v r) from rfl]
    by_cases hk : k = f
    · rw [if_pos hk, List.length_cons, List.length_cons]; omega
    · rw [if_neg hk, List.length_cons, List.length_cons]; omega

theorem RelO.some_of {v : V} {o : Option Value} (r : RelO (some v) o) : ∃ u, o = some u ∧ RelV v u := by
  cases o with
  | none => exact (show False from r).elim
  | some u => exact ⟨u, rfl, r⟩
theorem RelO.none_of {o : Option Value} (r : RelO none o) : o = none := by
  cases o with
  | none => rfl
  | some u => exact (show False from r).elim
theorem handed_of {v : V} {u : Value} (r : RelV v u) : PySem.W.handedIn u = true := by
  cases v with
  | non => cases (show u = Value.none from r); rfl
  | bl b => cases (show u = Value.bool b from r); rfl
  | int i => obtain ⟨t, e⟩ := (show ∃ t, u = Value.int i t from r); cases e; rfl
  | str x => obtain ⟨t, e⟩ := (show ∃ t, u = Value.str x t from r); cases e; rfl
  | byt b => obtain ⟨t, e⟩ := (show ∃ t, u = Value.bytes b t from r); cases e; rfl
  | flt b => obtain ⟨t, e⟩ := (show ∃ t, u = Value.float b t from r); cases e; rfl
  | ref a => cases (show u = Value.ref a from r); rfl
  | ty n => cases (show u = Value.type n from r); rfl

section
variable {P : Program} {w : World} {H H' : Hp} {h h' : Heap} {a C dx : Addr} {fs fs' : List (Str × V)}
theorem ins_get (hok : HOk P w H h) (e : H a = some (.ins C dx fs)) : ∃ mA, ObjM h a dx C mA ∧ (∀ f, RelO (fs.lookup f) (mA f)) ∧ PySem.Within mA (fs.map (·.1)) ∧ fs.length ≤ 1000 ∧ H dx = some (.own a) := by
  obtain ⟨d, z, ne, ob, mA, n, r, q⟩ := (show ObjOk P w H h a (.ins C dx fs) from hok a _ e)
  exact ⟨mA, ⟨ob, n, ne⟩, r, q, z, d⟩
end

/-! ### what of the text a class must have -/
structure Cls (K : PySem.W.Frag) (C : Addr) : Prop where
  pg : PySem.W.plainGet K C Str.empty = true
  hd : PySem.W.hasDictIn K C = true
  po : PySem.W.plainOver K C = true
  sa : PySem.W.findIn K (.ref C) "__setattr__" = some (some (.builtin "object.__setattr__"))
theorem Cls.get {K : PySem.W.Frag} {C : Addr} (c : Cls K C) (f : Str) : PySem.W.plainGet K C f = true := c.pg
/-- no class of it has the name -/
def NoAttr (K : PySem.W.Frag) (C : Addr) (f : Str) : Prop := PySem.W.findIn K (.ref C) f = some none
theorem NoAttr.taker {K : PySem.W.Frag} {C : Addr} {f : Str} (n : NoAttr K C f) : PySem.W.takerIn K C f = some none := by
  unfold PySem.W.takerIn
  rw [show PySem.W.findIn K (.ref C) f = some none from n]
  rfl
/-- a method: a plain def of the class or of one above it -/
structure Meth (K : PySem.W.Frag) (C : Addr) (m : Str) (f : Addr) : Prop where
  at_ : PySem.W.findIn K (.ref C) m = some (some (.ref f))
  fn : PySem.W.isFn K (.ref f) = true
  kp : PySem.W.keepIn K (.ref f) = true

section
variable {X : Cx} {pins : List (Addr × Obj)} {σ : St} {H : Hp} {s : Shared} {a C dx : Addr} {fs : List (Str × V)} {f : Str} {v : V} {A : Around} {E : Value → Shared → Prop}

theorem getattr_ok {b : Bool} {Q : Value → Shared → Prop} (I : Inv X pins σ H s) (e : H a = some (.ins C dx fs)) (c : Cls X.K C) (n : NoAttr X.K C f) (l : fs.lookup f = some v)
    (h : ∀ u s', Inv X pins σ H s' → RelV v u → Q u s') : wpAny (model X.prog X.w) A (getAttr (.ref a) f b) Q E s := by
  obtain ⟨mA, O, r, _, _, _⟩ := ins_get I.hok e
  obtain ⟨u, hu, ru⟩ := RelO.some_of (v := v) (o := mA f) (by rw [← l]; exact r f)
  exact get_map I.kIn O (c.get f) c.hd n hu (handed_of ru) (h u _ (I.tok _) ru)


theorem getmeth_ok {m : Str} {g : Addr} {pl : Sem Bool} {Q : Value × List Value → Shared → Prop} (I : Inv X pins σ H s) (e : H a = some (.ins C dx fs)) (c : Cls X.K C) (k : Meth X.K C m g) (l : fs.lookup m = none)
    (h : Q (.ref g, [.ref a]) s) : wpAny (model X.prog X.w) A (getMethod (.ref a) m pl) Q E s := by
  obtain ⟨mA, O, r, _, _, _⟩ := ins_get I.hok e
  have hn : mA m = none := RelO.none_of (by rw [← l]; exact r m)
  exact get_meth I.kIn O (c.get m) k.at_ k.fn hn h

theorem setattr_ok {y : V} {u : Value} {Q : Unit → Shared → Prop} (I : Inv X pins σ H s) (e : H a = some (.ins C dx fs)) (c : Cls X.K C) (n : NoAttr X.K C f) (hl : fs.length < 1000) (ry : RelV y u)
    (h : ∀ s', Inv X pins σ (upd H a (.ins C dx (putF f y fs))) s' → Q () s') : wpAny (model X.prog X.w) A (setAttr (.ref a) f u) Q E s := by
  obtain ⟨mA, O, r, wi, _, ho⟩ := ins_get I.hok e
  have hz : (fs.map (·.1)).length ≤ sizeLine := by rw [List.length_map, sizeLine_eq]; omega
  refine set_map I.kIn O c.sa c.po n.taker c.hd wi hz fun h' O' sb => h _ ?_
  have hd : ∃ o, h'.get? dx = some o := let ⟨o, _, _, e', _⟩ := O'.ns; ⟨o, e'⟩
  refine I.write (x := a) (e := dx) (by rw [e]; exact True.intro) (.inr ho) (fun b q hb z => (sb.2 b hb).trans z) hd ?_
  refine ⟨by rw [upd_ne O.ne]; exact ho, ?_, O.ne, O'.obj, _, O'.ns, fun g => ?_, fun g hg => ?_⟩
  · have := length_putF f y fs; omega
  · show RelO ((putF f y fs).lookup g) (if g = f then some u else mA g)
    rw [lookup_putF]
    by_cases q : g = f
    · rw [if_pos q, if_pos q]; exact ry
    · rw [if_neg q, if_neg q]; exact r g
  · by_cases q : g = f
    · rw [q]; exact (keys_putF f y fs).1
    · refine (keys_putF f y fs).2 g (wi g fun z => hg ?_)
      show (if g = f then some u else mA g) = none
      rw [if_neg q]; exact z

/-- a new instance, tracked, without attributes -/
theorem Inv.made (I : Inv X pins σ H s) : Inv X pins σ (upd (upd H s.heap.objs.size (.own (s.heap.objs.size + 1))) (s.heap.objs.size + 1) (.ins C s.heap.objs.size []))
    { s with heap := (s.heap.push PySem.W.emptyDict).push (PySem.W.instObj C s.heap.objs.size) } := by
  have e1 : (s.heap.push PySem.W.emptyDict).get? s.heap.objs.size = some PySem.W.emptyDict := Heap.get?_push_size s.heap rfl
  have e2 : ((s.heap.push PySem.W.emptyDict).push (PySem.W.instObj C s.heap.objs.size)).get? (s.heap.objs.size + 1) = some (PySem.W.instObj C s.heap.objs.size) := by
    have := Heap.get?_push_size (s.heap.push PySem.W.emptyDict) (o := PySem.W.instObj C s.heap.objs.size) rfl
    rwa [Heap.size_push] at this
  have e3 : (s.heap.push PySem.W.emptyDict).Ns s.heap.objs.size (fun _ => none) := ⟨PySem.W.emptyDict, #[], _, e1, rfl, (fun e he => absurd he (by simp)), fun _ => rfl⟩
  have I1 := I.laid (a := s.heap.objs.size) (o := .own (s.heap.objs.size + 1)) (h' := s.heap.push PySem.W.emptyDict) (t' := s.toks) (fun b u q => Heap.get?_push_of_some _ q) (Nat.le_refl _) ⟨_, e1⟩
  refine I1.laid (a := s.heap.objs.size + 1) (o := .ins C s.heap.objs.size []) (t' := s.toks) (fun b u q => Heap.get?_push_of_some _ q) (Nat.le_of_eq (Heap.size_push _ _)) ?_
  have ne : s.heap.objs.size ≠ s.heap.objs.size + 1 := Nat.ne_of_lt (Nat.lt_succ_self _)
  refine ⟨by rw [upd_ne ne, upd_same], Nat.zero_le _, ne, e2, fun _ => none, (Heap.Ns1.of_empty e3).at fun o q => Heap.get?_push_of_some _ q, fun _ => True.intro, fun y hy => absurd rfl hy⟩

/-- e.f where nothing but the object is asked: through attributeBase (super) and the last hold -/
theorem attr_of {prog : Program} {w : World} {env : Env} {e : Expr} {f : Str} {pos : Pos} {s : Shared} {Q : Value → Shared → Prop} (hb : attributeBase e f env (eval e env) = eval e env)
    (h : wpAny (model prog w) A (eval e env) (fun o s₁ => wpAny (model prog w) A (getAttr o f true) Q E s₁) E s) : wpAny (model prog w) A (eval (.Attribute e f pos) env) Q E s :=
  Attribute_any_ h (by rw [arm_eval_Attribute, hb])
end

/-! ### readings and rules -/
/-- e.f, an attribute of the instance -/
def tFld (K : PySem.W.Frag) (ta : TE) (f : Str) : TE := fun σ H Q => ta σ H fun x H1 => ∃ a C dx fs v, x = .ref a ∧ H1 a = some (.ins C dx fs) ∧ Cls K C ∧ NoAttr K C f ∧ fs.lookup f = some v ∧ Q v H1
/-- e.f = value -/
abbrev sFld (K : PySem.W.Frag) (ta tv : TE) (f : Str) : TS := fun D σ H => tv σ H fun y H1 => ta σ H1 fun x H2 => ∃ a C dx fs, x = .ref a ∧ H2 a = some (.ins C dx fs) ∧ Cls K C ∧ NoAttr K C f ∧ fs.length < 1000 ∧
  D.nx σ (upd H2 a (.ins C dx (putF f y fs)))

section
variable {X : Cx} {o e value : Expr} {f : Str} {pos pos' tpos : Pos} {ta tv : TE}
theorem pe_fld (he : PE X e ta) (hb : attributeBase e f X.env (eval e X.env) = eval e X.env) : PE X (.Attribute e f pos) (tFld X.K ta f) := by
  intro pins s σ H Q I h
  refine attr_of hb (thn (he pins s σ H _ I h) fun u s1 ⟨x, H1, I1, rx, a, C, dx, fs, v, ex, ea, c, n, l, q⟩ => ?_)
  subst ex
  obtain rfl : u = Value.ref a := rx
  exact getattr_ok I1 ea c n l fun u' s2 I2 ru => ⟨v, H1, I2, ru, q⟩
theorem ps_fld (ha : PE X o ta) (hv : PE X value tv) (hs : swapsWith value (some (.Attribute o f pos')) pos.line X.env = pure false) : PS X (.Assign [.Attribute o f pos'] value pos) (sFld X.K ta tv f) := by
  intro pins s σ H D I h
  refine plainObj_wpAny_Assign_Attribute (thn (hv pins s σ H _ I h) fun u s1 ⟨y, H1, I1, ry, q⟩ => thn (ha pins s1 σ H1 _ I1 q) fun ov s2 ⟨x, H2, I2, rx, a, C, dx, fs, ex, ea, c, n, l, q2⟩ => ?_) hs
  subst ex
  obtain rfl : ov = Value.ref a := rx
  exact setattr_ok I2 ea c n l ry fun s3 I3 => ⟨σ, _, I3, q2⟩

end

/-! ### isinstance -/
section
variable {X : Cx} {pins : List (Addr × Obj)} {σ : St} {H : Hp} {s : Shared} {A : Around} {E : Value → Shared → Prop} {Q : Value → Shared → Prop} {c : Value} {b : Bool}
end
end L2

namespace L2
open PySem PySem.Spec PyProof.Rows

/-! ### room -/
structure Room (k : Nat) (A : Around) : Prop where
  hd : A.handled = none
  dp : A.depth + 3 * k + 5 < recursionLimit
  un : A.units + 16 * k + 200 < cLine
theorem Room.mono {j k : Nat} {A : Around} (r : Room k A) (h : j ≤ k) : Room j A := ⟨r.hd, by have := r.dp; omega, by have := r.un; omega⟩
theorem Room.deeper {k : Nat} {A : Around} (r : Room (k + 1) A) (env : Env) : Room k (A.deeper env) :=
  ⟨r.hd, by have := r.dp; show A.depth + 1 + 3 * k + 5 < _; omega, by have := r.un; show A.units + 3 + 16 * k + 200 < _; omega⟩
theorem make_depth {A : Around} {C : Addr} {us : List Value} {kw : List (Str × Value)} : (A.under (.builtin "type.__call__" ⟨.ref C :: us, kw⟩)).depth = A.depth + 1 := by
  first | rfl | simp [Around.under, Code.weight, Code.isCreation, Code.isGuard, Code.isCaller, Code.frames, Code.isFrame, guardIds]
theorem make_units {A : Around} {C : Addr} {us : List Value} {kw : List (Str × Value)} : (A.under (.builtin "type.__call__" ⟨.ref C :: us, kw⟩)).units = A.units + 1 := by
  first | rfl | simp [Around.under, Code.cUnits, Code.frames, Code.isFrame]
theorem Room.make {k : Nat} {A : Around} (r : Room (k + 1) A) (C : Addr) (us : List Value) (kw : List (Str × Value)) : Room k (A.under (.builtin "type.__call__" ⟨.ref C :: us, kw⟩)) :=
  ⟨r.hd, by have := r.dp; rw [make_depth]; omega, by have := r.un; rw [make_units]; omega⟩
theorem Room.depth {k : Nat} {A : Around} (r : Room k A) : A.depth < recursionLimit := by have := r.dp; omega
theorem Room.units {k : Nat} {A : Around} (r : Room k A) : A.units + 64 < cLine := by have := r.un; omega

/-! ### argument lists and displays -/
abbrev tNil : TA := fun _ H Q => Q [] H
abbrev tCons (ta : TE) (tr : TA) : TA := fun σ H Q => ta σ H fun x H1 => tr σ H1 fun xs H2 => Q (x :: xs) H2
section
variable {X : Cx} {e : Expr} {es : List Expr} {te : TE} {t : TA} {pos : Pos}
theorem pa_nil : PA X [] tNil := fun _ _ _ _ H Q I h => Calls.spliced_nil ⟨[], H, I, .nil, h⟩
theorem pa_cons (ha : PE X e te) (hr : PA X es t) (hs : starEach (e :: es) X.env = (false, eval e X.env) :: starEach es X.env := by rfl) : PA X (e :: es) (tCons te t) := by
  intro pos pins s σ H Q I h
  rw [hs]
  show wpAny _ _ (spliced ((false, eval e X.env) :: backTo pos (starEach es X.env))) _ _ s
  refine Calls.spliced_cons (thn (ha pins s σ H _ I h) fun u s1 ⟨x, H1, I1, r1, q1⟩ => ?_)
  exact thn (hr pos pins s1 σ H1 _ I1 q1) fun us s2 ⟨xs, H2, I2, r2, q2⟩ => ⟨x :: xs, H2, I2, .cons r1 r2, q2⟩

/-- a tuple, a list of written items -/
abbrev tTup (t : TA) : TE := fun σ H Q => t σ H fun xs H1 => xs.length ≤ sizeLine ∧ ∀ p, H1 p = none → Q (.ref p) (upd H1 p (.tup xs))
abbrev tLst (t : TA) : TE := fun σ H Q => t σ H fun xs H1 => xs.length ≤ sizeLine ∧ ∀ p, H1 p = none → Q (.ref p) (upd H1 p (.lst xs))
theorem pe_tup {x1} (h : PA X es t) : PE X (.Tuple es x1 pos) (tTup t) := by
  intro pins s σ H Q I hq
  refine wpAny_Tuple_spliced (thn (h pos pins s σ H _ I hq) fun us s1 ⟨xs, H1, I1, r, z, q⟩ => ⟨by rw [← r.length]; exact z, ?_⟩)
  have hf : H1 s1.heap.objs.size = none := I1.hok.fresh (Nat.le_refl _)
  refine ⟨.ref s1.heap.objs.size, upd H1 s1.heap.objs.size (.tup xs), I1.laid (t' := s1.toks) (fun b u e => Heap.get?_push_of_some _ e) (Nat.le_refl _) ?_, rfl, q _ hf⟩
  exact ⟨z, us, r, ⟨_, Heap.get?_push_size _ rfl, rfl, _, rfl⟩⟩
theorem pe_lst (h : PA X es t) : PE X (.List es pos) (tLst t) := by
  intro pins s σ H Q I hq
  refine wpAny_List_spliced (thn (h pos pins s σ H _ I hq) fun us s1 ⟨xs, H1, I1, r, z, q⟩ => ⟨by rw [← r.length]; exact z, ?_⟩)
  have hf : H1 s1.heap.objs.size = none := I1.hok.fresh (Nat.le_refl _)
  refine ⟨.ref s1.heap.objs.size, upd H1 s1.heap.objs.size (.lst xs), I1.laid (t' := s1.toks) (fun b u e => Heap.get?_push_of_some _ e) (Nat.le_refl _) ?_, rfl, q _ hf⟩
  exact ⟨z, us, 0, r, Heap.get?_push_size _ rfl⟩
end

/-! ### what a def promises -/
/-- a def's promise: the bound arguments in the parameters' order, the heap, the wanted end, the wanted exception -/
abbrev Sp := List V → Hp → VK → XK → Prop
/-- how an exception lies behind a call (file 08 gives it): the callers' frames, abstract heap and state ahead of the call, the wish, the exception, the state -/
abbrev CXT := List Env → Hp → Shared → XK → Value → Shared → Prop

/-- the state at a call -/
structure Env0 (P : Program) (w : World) (K : PySem.W.Frag) (mg : Str → Option Value) (base : Heap) (A : Around) (outer : List Env) (s : Shared) (H : Hp) : Prop where
  frames : A.frames = some outer
  mod : Mod K mg base
  bs : ∀ b o, base.get? b = some o → s.heap.get? b = some o ∧ H b = none
  bsz : base.objs.size ≤ s.heap.objs.size
  funs : s.heap.FunFrames base outer
  frf : ∀ b ∈ frs outer, H b = none
  hok : HOk P w H s.heap
  bare : AllBare s.gens
/-- a call's end -/
def CE (outer : List Env) (P : Program) (w : World) (H : Hp) (s : Shared) (Q : VK) (u : Value) (s' : Shared) : Prop :=
  ∃ v H', s'.os = s.os ∧ AllBare s'.gens ∧ Un (frs outer) [] H H' s.heap s'.heap ∧ HOk P w H' s'.heap ∧ RelV v u ∧ Q v H'
def CR (CX : CXT) (outer : List Env) (P : Program) (w : World) (H : Hp) (s : Shared) (Q : VK) (E : XK) (r : Result) (s' : Shared) : Prop :=
  match r with
  | .ok (.ret u) => CE outer P w H s Q u s'
  | .ok _ => False
  | .error e => CX outer H s E e s'
structure FnOk (P : Program) (w : World) (K : PySem.W.Frag) (mg : Str → Option Value) (base : Heap) (CX : CXT) (k : Nat) (f : Addr) (fd : FuncData) (ps : List Str) (sp : Sp) : Prop where
  len : ∀ vs H Q E, sp vs H Q E → vs.length = ps.length
  run : ∀ (A : Around) (outer : List Env) (s : Shared) (H : Hp) (args : Args) (us : List Value) (vs : List V) (Q : VK) (E : XK), Room k A → Env0 P w K mg base A outer s H → BindsTo s fd args (ps.zip us) → Vals vs us → sp vs H Q E →
    codeAny (model P w) A (.call (.ref f) args) (CR CX outer P w H s Q E) s

theorem Env0.make {P : Program} {w : World} {K : PySem.W.Frag} {mg : Str → Option Value} {base : Heap} {A : Around} {outer : List Env} {s : Shared} {H : Hp} (e : Env0 P w K mg base A outer s H) (C : Addr) (us : List Value) (kw : List (Str × Value)) :
    Env0 P w K mg base (A.under (.builtin "type.__call__" ⟨.ref C :: us, kw⟩)) outer s H := ⟨by first | exact e.frames | (simpa [Around.under, Code.envs, Code.isFrame, pushEnvs] using e.frames), e.mod, e.bs, e.bsz, e.funs, e.frf, e.hok, e.bare⟩

section
variable {X : Cx} {pins : List (Addr × Obj)} {σ : St} {H : Hp} {s s' : Shared}
/-- from a body: what a callee wants -/
theorem Inv.env0 (I : Inv X pins σ H s) : Env0 X.prog X.w X.K X.mg X.base X.A X.stack s H :=
  ⟨I.ok.frames, I.ok.mod, I.bs, Nat.le_trans I.ok.bsz I.sz, I.stack, I.stkFree, I.hok, I.bare⟩
/-- behind a call -/
theorem Inv.after {Q : VK} {u : Value} (I : Inv X pins σ H s) (h : CE X.stack X.prog X.w H s Q u s') : EP X pins σ Q u s' := by
  obtain ⟨v, H', os, bare, un, hok, r, q⟩ := h
  obtain ⟨hh, g, d, t, os'⟩ := s'
  obtain rfl : os' = s.os := os
  exact ⟨v, H', I.call (h' := hh) (g' := g) (d' := d) (t' := t) (ch := []) un hok bare (fun b z => absurd z (by simp)), r, q⟩
end

/-! ### calls -/
/-- f(..): the written arguments, then the defaults dvs; E: what is wanted of an exception -/
abbrev tCall (sp : Sp) (dvs : List V) (E : XK) (t : TA) : TE := fun σ H Q => t σ H fun vs H1 => sp (vs ++ dvs) H1 Q E
/-- o.m(..) of an instance of the class at C -/
def tMeth (C : Addr) (m : Str) (sp : Sp) (dvs : List V) (E : XK) (ta : TE) (t : TA) : TE := fun σ H Q => ta σ H fun x H1 => ∃ a dx fs, x = .ref a ∧ H1 a = some (.ins C dx fs) ∧ fs.lookup m = none ∧
  t σ H1 fun vs H2 => sp (x :: (vs ++ dvs)) H2 Q E
/-- C(..): a new instance and its dict, then __init__ -/
abbrev tMake (C : Addr) (sp : Sp) (dvs : List V) (E : XK) (t : TA) : TE := fun σ H Q => t σ H fun vs H1 => ∀ x dx, H1 x = none → H1 dx = none → dx ≠ x →
  sp (.ref x :: (vs ++ dvs)) (upd (upd H1 dx (.own x)) x (.ins C dx [])) (fun v H2 => v = .non ∧ Q (.ref x) H2) E

/-- how the parameters are bound: us the positional arguments, kw the keywords' values by name, ds the defaults that fill up -/
def Binds (K : PySem.W.Frag) (fd : FuncData) (ps : List Str) (ds : List Value) : Prop :=
  ∀ (s : Shared) (us : List Value), K.In s.heap → (us ++ ds).length = ps.length → BindsTo s fd ⟨us, []⟩ (ps.zip (us ++ ds))
/-- every parameter is given -/
theorem Binds.all {K : PySem.W.Frag} {fd : FuncData} {ps : List Str} (h : ∀ us : List Value, us.length = ps.length → bindArgs fd ⟨us, []⟩ = pure (ps.zip us)) : Binds K fd ps [] := fun s us _ hl => by
  rw [List.append_nil] at hl ⊢
  exact .of_eq (h us hl)

/-- an exception of a callee reaches what this body wants of exceptions -/
def Passes (CX : CXT) (X : Cx) (E : XK) : Prop := ∀ (pins : List (Addr × Obj)) (σ : St) (H : Hp) (s : Shared) (e : Value) (s' : Shared), Inv X pins σ H s → CX X.stack H s E e s' → X.xe e s'

section
variable {X : Cx} {CX : CXT} {k : Nat} {f C : Addr} {fd : FuncData} {ps : List Str} {sp : Sp} {dvs : List V} {ds : List Value} {E : XK} {x m : Str} {p pos apos : Pos} {e o : Expr} {es : List Expr} {ta : TE} {t : TA}

/-- the callee runs -/
theorem run_fn {pins : List (Addr × Obj)} {σ : St} {H : Hp} {s : Shared} {Q : VK} {us : List Value} {vs : List V} (F : FnOk X.prog X.w X.K X.mg X.base CX k f fd ps sp) (hr : Room k X.A) (hb : Binds X.K fd ps ds) (hd : Vals dvs ds) (hx : Passes CX X E)
    (I : Inv X pins σ H s) (r : Vals vs us) (h : sp (vs ++ dvs) H Q E) : wpAny (model X.prog X.w) X.A (call (.ref f) us) (EP X pins σ Q) X.xe s := by
  have r2 : Vals (vs ++ dvs) (us ++ ds) := r.append hd
  have hl : (us ++ ds).length = ps.length := by rw [← r2.length]; exact F.len _ _ _ _ h
  refine wpAny_call (codeAny_mono (F.run X.A X.stack s H ⟨us, []⟩ (us ++ ds) (vs ++ dvs) Q E hr I.env0 (hb s us I.kIn hl) r2 h) fun r s' hq => ?_)
  cases r with
  | error e => exact hx pins σ H s e s' I hq
  | ok fl =>
    cases fl with
    | ret u => exact I.after hq
    | next => exact False.elim hq
    | brk => exact False.elim hq
    | cont => exact False.elim hq

theorem pe_call (F : FnOk X.prog X.w X.K X.mg X.base CX k f fd ps sp) (hr : Room k X.A) (hg : Gl X x) (hm : X.mg x = some (.ref f)) (hk : PySem.W.keepIn X.K (.ref f) = true) (hb : Binds X.K fd ps ds) (hd : Vals dvs ds) (hx : Passes CX X E)
    (ha : PA X (e :: es) t) (hdb : (x == ("__debug__" : Str)) = false := by decide) (he : starEach (e :: es) X.env = (false, eval e X.env) :: starEach es X.env := by rfl) (hpl : (backTo pos (starEach es X.env)).any (·.1) = false := by rfl) :
    PE X (.Call (.Name x p) (e :: es) [] pos) (tCall sp dvs E t) := by
  intro pins s σ H Q I h
  refine wpAny_Call_Name_kw (ld_glob I hg hm ?_ hdb)
  refine PySem.W.callWith_K (h₀ := X.base) I.ok.mod.kin hk (thn (ha pos pins s σ H _ I h) fun us s1 ⟨vs, H1, I1, r, q⟩ => ⟨I1.kIn, ?_⟩) he hpl
  exact run_fn F hr hb hd hx I1 r q

/-- o.m(e, ..) -/
theorem pe_meth {pl : Sem Bool} (he : PE X o ta) (c : Cls X.K C) (hm : Meth X.K C m f) (F : FnOk X.prog X.w X.K X.mg X.base CX k f fd ps sp) (hr : Room k X.A) (hb : Binds X.K fd ps ds) (hd : Vals dvs ds) (hx : Passes CX X E) (ha : PA X (e :: es) t)
    (hst : starEach (e :: es) X.env = (false, eval e X.env) :: starEach es X.env := by rfl) (hpl : (backTo pos (starEach es X.env)).any (·.1) = false := by rfl)
    (ht : eval (.Call (.Attribute o m apos) (e :: es) [] pos) X.env = (do
      let ov ← eval o X.env
      standAt apos.atName
      let (f, first) ← holding [ov] (getMethod ov m pl)
      callWith pos f first (backTo pos (starEach (e :: es) X.env)) (backToKw pos (keywordEach [] X.env))) := by rfl) :
    PE X (.Call (.Attribute o m apos) (e :: es) [] pos) (tMeth C m sp dvs E ta t) := by
  intro pins s σ H Q I h
  refine PySem.W.methodCall_KW (pl := pl) (thn (he pins s σ H _ I h) fun u s1 ⟨x, H1, I1, rx, a, dx, fs, ex, ea, l, q⟩ => ?_) ht
  subst ex
  obtain rfl : u = Value.ref a := rx
  refine getmeth_ok I1 ea c hm l ?_
  refine PySem.W.callWith_K (first := [.ref a]) (h₀ := X.base) I.ok.mod.kin hm.kp (thn (ha pos pins s1 σ H1 _ I1 q) fun us s2 ⟨vs, H2, I2, r, q2⟩ => ⟨I2.kIn, ?_⟩) hst hpl
  exact run_fn (us := .ref a :: us) (vs := .ref a :: vs) F hr hb hd hx I2 (.cons rfl r) q2
/-- o.m() -/
theorem pe_meth0 {pl : Sem Bool} (he : PE X o ta) (c : Cls X.K C) (hm : Meth X.K C m f) (F : FnOk X.prog X.w X.K X.mg X.base CX k f fd ps sp) (hr : Room k X.A) (hb : Binds X.K fd ps ds) (hd : Vals dvs ds) (hx : Passes CX X E)
    (ht : eval (.Call (.Attribute o m apos) [] [] pos) X.env = (do
      let ov ← eval o X.env
      standAt apos.atName
      let (f, first) ← holding [ov] (getMethod ov m pl)
      callWith pos f first (backTo pos (starEach [] X.env)) (backToKw pos (keywordEach [] X.env))) := by rfl) :
    PE X (.Call (.Attribute o m apos) [] [] pos) (tMeth C m sp dvs E ta tNil) := by
  intro pins s σ H Q I h
  refine PySem.W.methodCall_KW (pl := pl) (thn (he pins s σ H _ I h) fun u s1 ⟨x, H1, I1, rx, a, dx, fs, ex, ea, l, q⟩ => ?_) ht
  subst ex
  obtain rfl : u = Value.ref a := rx
  refine getmeth_ok I1 ea c hm l ?_
  exact PySem.W.callWith_K0 (first := [.ref a]) I1.kIn hm.kp (run_fn (us := [.ref a]) (vs := [.ref a]) F hr hb hd hx I1 (.cons rfl .nil) q)

/-- what a class must have to be made -/
structure Mk (K : PySem.W.Frag) (C f : Addr) : Prop where
  makes : PySem.W.makesIn K C = true
  init : PySem.W.findIn K (.ref C) "__init__" = some (some (.ref f))
  fn : PySem.W.isFn K (.ref f) = true
  kp : PySem.W.keepIn K (.ref C) = true

theorem run_make {pins : List (Addr × Obj)} {σ : St} {H : Hp} {s : Shared} {Q : VK} {us : List Value} {vs : List V} (M : Mk X.K C f) (F : FnOk X.prog X.w X.K X.mg X.base CX k f fd ps sp) (hr : Room (k + 1) X.A) (hb : Binds X.K fd ps ds) (hd : Vals dvs ds)
    (hx : Passes CX X E) (I : Inv X pins σ H s) (r : Vals vs us)
    (h : ∀ x dx, H x = none → H dx = none → dx ≠ x → sp (.ref x :: (vs ++ dvs)) (upd (upd H dx (.own x)) x (.ins C dx [])) (fun v H2 => v = .non ∧ Q (.ref x) H2) E) :
    wpAny (model X.prog X.w) X.A (call (.ref C) us) (EP X pins σ Q) X.xe s := by
  have hq := h (s.heap.objs.size + 1) s.heap.objs.size (I.hok.fresh (Nat.le_succ _)) (I.hok.fresh (Nat.le_refl _)) (Nat.ne_of_lt (Nat.lt_succ_self _))
  have I2 := Inv.made (C := C) I
  have r2 : Vals (V.ref (s.heap.objs.size + 1) :: (vs ++ dvs)) (Value.ref (s.heap.objs.size + 1) :: (us ++ ds)) := .cons rfl (r.append hd)
  have hl : (Value.ref (s.heap.objs.size + 1) :: us ++ ds).length = ps.length := by
    have e := r2.length
    rw [F.len _ _ _ _ hq] at e
    exact e.symm
  refine wpAny_call (make_map (f := f) I.kIn M.makes M.init (beq_iff_eq.mp M.fn) (codeAny_mono (F.run _ X.stack _ _ ⟨Value.ref (s.heap.objs.size + 1) :: us, []⟩ (Value.ref (s.heap.objs.size + 1) :: (us ++ ds)) _ _ E (hr.make C us [])
    (I2.env0.make C us []) (hb _ (Value.ref (s.heap.objs.size + 1) :: us) I2.kIn hl) r2 hq) fun r s' hq' => ?_))
  cases r with
  | error e => exact hx pins σ _ _ e s' I2 hq'
  | ok fl =>
    cases fl with
    | ret u =>
      obtain ⟨v, H', I3, rv, ev, q3⟩ := I2.after hq'
      subst ev
      exact ⟨rv, ⟨V.ref (s.heap.objs.size + 1), H', I3, rfl, q3⟩⟩
    | next => exact False.elim hq'
    | brk => exact False.elim hq'
    | cont => exact False.elim hq'
theorem pe_make (M : Mk X.K C f) (F : FnOk X.prog X.w X.K X.mg X.base CX k f fd ps sp) (hr : Room (k + 1) X.A) (hg : Gl X x) (hm : X.mg x = some (.ref C)) (hb : Binds X.K fd ps ds) (hd : Vals dvs ds) (hx : Passes CX X E)
    (ha : PA X (e :: es) t) (hdb : (x == ("__debug__" : Str)) = false := by decide) (he : starEach (e :: es) X.env = (false, eval e X.env) :: starEach es X.env := by rfl) (hpl : (backTo pos (starEach es X.env)).any (·.1) = false := by rfl) :
    PE X (.Call (.Name x p) (e :: es) [] pos) (tMake C sp dvs E t) := by
  intro pins s σ H Q I h
  refine wpAny_Call_Name_kw (ld_glob I hg hm ?_ hdb)
  refine PySem.W.callWith_K (h₀ := X.base) I.ok.mod.kin M.kp (thn (ha pos pins s σ H _ I h) fun us s1 ⟨vs, H1, I1, r, q⟩ => ⟨I1.kIn, ?_⟩) he hpl
  exact run_make M F hr hb hd hx I1 r q
theorem pe_make0 (M : Mk X.K C f) (F : FnOk X.prog X.w X.K X.mg X.base CX k f fd ps sp) (hr : Room (k + 1) X.A) (hg : Gl X x) (hm : X.mg x = some (.ref C)) (hb : Binds X.K fd ps ds) (hd : Vals dvs ds) (hx : Passes CX X E)
    (hdb : (x == ("__debug__" : Str)) = false := by decide) : PE X (.Call (.Name x p) [] [] pos) (tMake C sp dvs E tNil) := by
  intro pins s σ H Q I h
  refine wpAny_Call_Name_kw (ld_glob I hg hm ?_ hdb)
  exact PySem.W.callWith_K0 I.kIn M.kp (run_make (us := []) M F hr hb hd hx I .nil h)
end

/-! ### keywords -/
section
variable {X : Cx} {CX : CXT} {k : Nat} {f C : Addr} {fd : FuncData} {ps ks : List Str} {sp : Sp} {E : XK} {x m : Str} {p pos apos kpos : Pos} {e o : Expr} {es : List Expr} {kws : List Keyword} {te ta : TE} {t tk : TA} {nm : Option Str}

variable {g : List Value → List Value → List Value} {gV : List V → List V → List V}
end

/-! ### a def's body keeps its promise -/
/-- names: the parameters first -/
structure FnScope (N P : List Str) (sc : Scope) : Prop where
  kind : sc.kind = .function
  co : sc.isCoroutine = false
  gen : sc.isGenerator = false
  nd : N.Nodup
  pre : N.take P.length = P
  par : ∀ x ∈ P, sc.names.lookup x = some .local ∨ sc.names.lookup x = some .cell
  nofree : ∀ y ∈ sc.names, y.2 ≠ .free

theorem bindL_out {kindOf : Str → Option NameKind} {x : Str} : ∀ {binds : List (Str × Value)} {m : Str → Option Value}, (∀ v, (x, v) ∉ binds) → bindL kindOf binds m x = m x
  | [], _, _ => rfl
  | (n, v) :: r, m, h => by
    unfold bindL
    rw [bindL_out fun w hw => h w (List.mem_cons_of_mem _ hw)]
    split
    · have : x ≠ n := by rintro rfl; exact h v List.mem_cons_self
      simp [this]
    · rfl
theorem bindC_out {kindOf : Str → Option NameKind} {x : Str} : ∀ {binds : List (Str × Value)} {m : Str → Option Value}, (∀ v, (x, v) ∉ binds) → bindC kindOf binds m x = m x
  | [], _, _ => rfl
  | (n, v) :: r, m, h => by
    unfold bindC
    rw [bindC_out fun w hw => h w (List.mem_cons_of_mem _ hw)]
    split
    · rfl
    · have : x ≠ n := by rintro rfl; exact h v List.mem_cons_self
      simp [this]
theorem bindL_get {kindOf : Str → Option NameKind} {x : Str} {v : Value} : ∀ {P : List Str} {vs : List Value} {i : Nat} {m : Str → Option Value}, P.Nodup → P[i]? = some x → vs[i]? = some v → kindOf x = some .local →
    bindL kindOf (P.zip vs) m x = some v
  | [], _, _, _, _, h, _, _ => by simp at h
  | _ :: _, [], _, _, _, _, h, _ => by simp at h
  | p :: P, w :: vs, 0, m, nd, h1, h2, hk => by
    simp at h1 h2; subst h1; subst h2
    show bindL kindOf ((p, w) :: P.zip vs) m p = _
    unfold bindL
    rw [bindL_out fun v hv => (List.nodup_cons.mp nd).1 (List.of_mem_zip hv).1, if_pos hk]
    simp
  | p :: P, w :: vs, i + 1, m, nd, h1, h2, hk => by
    show bindL kindOf ((p, w) :: P.zip vs) m x = _
    unfold bindL
    exact bindL_get (i := i) (List.nodup_cons.mp nd).2 (by simpa using h1) (by simpa using h2) hk
theorem bindC_get {kindOf : Str → Option NameKind} {x : Str} {v : Value} : ∀ {P : List Str} {vs : List Value} {i : Nat} {m : Str → Option Value}, P.Nodup → P[i]? = some x → vs[i]? = some v → kindOf x ≠ some .local →
    bindC kindOf (P.zip vs) m x = some v
  | [], _, _, _, _, h, _, _ => by simp at h
  | _ :: _, [], _, _, _, _, h, _ => by simp at h
  | p :: P, w :: vs, 0, m, nd, h1, h2, hk => by
    simp at h1 h2; subst h1; subst h2
    show bindC kindOf ((p, w) :: P.zip vs) m p = _
    unfold bindC
    rw [bindC_out fun v hv => (List.nodup_cons.mp nd).1 (List.of_mem_zip hv).1, if_neg hk]
    simp
  | p :: P, w :: vs, i + 1, m, nd, h1, h2, hk => by
    show bindC kindOf ((p, w) :: P.zip vs) m x = _
    unfold bindC
    exact bindC_get (i := i) (List.nodup_cons.mp nd).2 (by simpa using h1) (by simpa using h2) hk

/-- the names' values at the entry -/
def start (N : List Str) (vs : List V) : St := vs.map some ++ List.replicate (N.length - vs.length) none

/-- the context of a def's body, at its entry; an exception leaves the frame, then lies as CX says -/
def cxOf (CX : CXT) (P : Program) (w : World) (K : PySem.W.Frag) (mg : Str → Option Value) (base : Heap) (N : List Str) (qual : Str) (scope : Scope) (f : Addr) (cd : Value) (A : Around) (outer : List Env) (s : Shared) (H : Hp) (E : XK) : Cx where
  prog := P
  w := w
  K := K
  mg := mg
  base := base
  A := A.deeper (envOfC qual scope s.heap.objs.size f cd)
  N := N
  s_0 := s
  H_0 := H
  env := envOfC qual scope s.heap.objs.size f cd
  outer := outer
  stack := envOfC qual scope s.heap.objs.size f cd :: outer
  ex := []
  calm := true
  fn := fun _ => true
  pn := []
  xe := fun e s' => wpAny (model P w) (A.deeper (envOfC qual scope s.heap.objs.size f cd)) (leaving (envOfC qual scope s.heap.objs.size f cd) e) (fun _ s'' => CX outer H s E e s'') (fun e' s'' => CX outer H s E e' s'') s'

theorem cell_has {sc : Scope} {n : Nat} {x : Str} (h : sc.names.lookup x = some .cell) : ∃ c, (cellsFrom n sc.names []).lookup x = some c := by
  have q := PySem.W.cellsFrom_some sc.names n [] (.inl h)
  exact Option.isSome_iff_exists.mp q

theorem inv_start {CX : CXT} {P : Program} {w : World} {K : PySem.W.Frag} {mg : Str → Option Value} {base : Heap} {N ps : List Str} {qual : Str} {scope : Scope} {f : Addr} {cd : Value} {A : Around} {outer : List Env} {s s1 : Shared} {H : Hp} {E : XK} {us : List Value} {vs : List V}
    (S : FnScope N ps scope) (hd : A.handled = none) (e0 : Env0 P w K mg base A outer s H) (hl : vs.length = ps.length) (r : Vals vs us)
    (x : InCallC s s.heap.objs.size (bindL (envOfC qual scope s.heap.objs.size f cd).kindOf (ps.zip us) fun _ => none) (cellsFrom (s.heap.objs.size + 1) scope.names []) (bindC (envOfC qual scope s.heap.objs.size f cd).kindOf (ps.zip us) fun _ => none) s1) :
    Inv (cxOf CX P w K mg base N qual scope f cd A outer s H E) [] (start N vs) H s1 := by
  have hpl : ps.length ≤ N.length := by have := congrArg List.length S.pre; rw [List.length_take] at this; omega
  obtain ⟨h1, tk, rfl, hk⟩ := x.done
  have noA : ∀ b : Addr, b ∉ (cxOf CX P w K mg base N qual scope f cd A outer s H E).ex := fun b z => absurd (show b ∈ ([] : List Addr) from z) (by simp)
  refine ⟨⟨e0.mod, S.kind, rfl, rfl, Nat.le_refl _, fun y z c h1 h2 => ?_, fun y hy => ?_, fun y c _ h => ?_, fun _ => hd, Around.frames_deeper e0.frames, .inr ⟨rfl, rfl⟩, fun b z => absurd z (noA b), e0.bs, e0.bsz, fun b _ _ => noA b, fun b z => absurd z (noA b), e0.funs, e0.frf⟩,
    rfl, e0.bare, Un.kept hk, ⟨_, x.toInCall.ns, fun i y v h1 h2 h3 => ?_⟩, fun y c h => ⟨_, x.cell y c h⟩, e0.hok.fresh (Nat.le_refl _), fun y c h => ?_, fun p hp => absurd (show p ∈ ([] : List (Addr × Obj)) from hp) (by simp), e0.hok.kept hk, ?_⟩
  · exact name_of_addr x.apart (PySem.mem_of_lookup h1) (PySem.mem_of_lookup h2)
  · have hy : scope.names.lookup y = some .cell ∨ scope.names.lookup y = some .free := hy
    rcases hy with hy | hy
    · exact cell_has hy
    · exact absurd rfl (S.nofree _ (PySem.mem_of_lookup hy))
  · exact Nat.le_of_lt (x.above y c (PySem.mem_of_lookup h))
  · have hi : i < vs.length := by
      unfold start at h2
      by_cases hi : i < vs.length
      · exact hi
      · rw [List.getElem?_append_right (by simpa using hi)] at h2
        rw [List.getElem?_replicate] at h2
        split at h2 <;> cases h2
    have ha : vs[i]? = some v := by
      unfold start at h2
      rw [List.getElem?_append_left (by simpa using hi), List.getElem?_map] at h2
      cases e : vs[i]? with
      | none => rw [e] at h2; cases h2
      | some a => rw [e] at h2; cases h2; rfl
    obtain ⟨u, hu, rv⟩ := r.get ha
    have hp : ps[i]? = some y := by
      rw [← S.pre, List.getElem?_take_of_lt (by omega)]; exact h1
    have ndP : ps.Nodup := by rw [← S.pre]; exact S.nd.sublist (List.take_sublist _ _)
    refine ⟨u, rv, ?_⟩
    rcases S.par y (List.mem_of_getElem? hp) with k | k
    · exact .inl ⟨k, bindL_get ndP hp hu k⟩
    · obtain ⟨c, e⟩ := cell_has (n := s.heap.objs.size + 1) k
      refine .inr ⟨.inl k, c, e, ?_⟩
      have q := x.cell y c e
      rw [bindC_get ndP hp hu (by show scope.names.lookup y ≠ _; rw [k]; decide)] at q
      exact q
  · exact e0.hok.fresh (Nat.le_of_lt (x.above y c (PySem.mem_of_lookup h)))
  · unfold start
    show _ = N.length
    rw [List.length_append, List.length_map, List.length_replicate]
    omega

/-- THE RULE: a def (or a method) of the text, by its body. The body's reading t is chosen for each entry; it is run at the parameters' values -/
theorem fn_of {CX : CXT} {P : Program} {w : World} {K : PySem.W.Frag} {mg : Str → Option Value} {base : Heap} {k : Nat} {f : Addr} {name qual : Str} {params : Arguments} {body : List Stmt} {scope : Scope} {dV kV doc pm cdv ct oc : Value} {an od : Option Addr}
    {osl : Array (Option Value)} {N ps : List Str} {sp : Sp} (lk : K.lookup f = some ⟨oc, od, .func (PySem.W.fnOf name qual params body scope dV kV doc pm an cdv ct), osl⟩) (hcd : PySem.W.codeIn K cdv qual = true) (S : FnScope N ps scope)
    (len : ∀ vs H Q E, sp vs H Q E → vs.length = ps.length)
    (hbody : ∀ (A : Around) (outer : List Env) (s : Shared) (H : Hp) (vs : List V) (Q : VK) (E : XK), Room k (A.deeper (envOfC qual scope s.heap.objs.size f cdv)) → sp vs H Q E →
      ∃ t, PSs (cxOf CX P w K mg base N qual scope f cdv A outer s H E) body t ∧ t { nx := fun _ H' => Q .non H', rt := Q } (start N vs) H) :
    FnOk P w K mg base CX (k + 1) f (PySem.W.fnOf name qual params body scope dV kV doc pm an cdv ct) ps sp := by
  refine ⟨len, fun A outer s H args us vs Q E hr e0 hb r hsp => ?_⟩
  have hl := len _ _ _ _ hsp
  have KX : K.In s.heap := e0.mod.kin.keeps fun b o e => (e0.bs b o e).1
  have lim : s.heap.NoLimit := e0.mod.nolimit.keeps fun b o e => (e0.bs b o e).1
  have hkind : ∀ y ∈ ps.zip us, scope.names.lookup y.1 = some .local ∨ (scope.names.lookup y.1 = some .cell ∧ ((cellsFrom (s.heap.objs.size + 1) scope.names []).lookup y.1).isSome = true) := fun ⟨n, v⟩ hy => by
    rcases S.par n (List.of_mem_zip hy).1 with q | q
    · exact .inl q
    · exact .inr ⟨q, PySem.W.cellsFrom_some _ _ _ (.inl q)⟩
  refine codeAny_call_function hr.depth (KX _ _ lk) rfl S.co S.gen rfl (PySem.W.codeRec_of KX hcd) (hb _ _ _ _ ?_)
  refine wpAny_newFunctionEnv_cells S.kind hkind fun env he s1 x => ?_
  subst he
  refine ⟨lim.keeps x.toInCall.keep, codeAny_func ?_⟩
  obtain ⟨t, ht, hq⟩ := hbody A outer s H vs Q E (hr.deeper _) hsp
  have I : Inv (cxOf CX P w K mg base N qual scope f cdv A outer s H E) [] (start N vs) H s1 := inv_start S hr.hd e0 hl r x
  refine wpAny_mono (ht [] s1 (start N vs) H _ I hq) (fun fl s' hs => ?_) fun e s' hs => hs
  have fin : ∀ {σ' : St} {H' : Hp} {v : V} {u : Value}, Inv (cxOf CX P w K mg base N qual scope f cdv A outer s H E) [] σ' H' s' → RelV v u → Q v H' → CE outer P w H s Q u s' :=
    fun {σ' H' v u} J rv q => ⟨v, H', J.os, J.bare, J.base, J.hok, rv, q⟩
  cases fl with
  | ret u =>
    obtain ⟨v, σ', H', J, rv, q⟩ := hs
    exact fin J rv q
  | next =>
    obtain ⟨σ', H', J, q⟩ := hs
    exact fin (v := V.non) (u := Value.none) J rfl q
  | brk =>
    obtain ⟨_, _, _, q⟩ := hs
    exact False.elim q
  | cont =>
    obtain ⟨_, _, _, q⟩ := hs
    exact False.elim q
end L2

namespace L2
open PySem PySem.Spec PyProof.Rows
section
variable {X : Cx} {x : Str} {p pos : Pos} {e : Expr} {es : List Expr} {t : TA} {id T : String} {r : List V → Hp → VK → Prop}

abbrev tCB (r : List V → Hp → VK → Prop) (t : TA) : TE := fun σ H Q => t σ H fun vs H1 => r vs H1 Q
/-- f(e, ..), f a built-in function -/
theorem pe_callB (hc : CallR X (.builtin id) r) (hg : Gl X x) (hm : X.mg x = none) (hv : bootBuiltins x = some (.builtin id)) (ha : PA X (e :: es) t) (hn : x ≠ "__name__" := by decide) (hdb : (x == ("__debug__" : Str)) = false := by decide)
    (he : starEach (e :: es) X.env = (false, eval e X.env) :: starEach es X.env := by rfl) (hpl : (backTo pos (starEach es X.env)).any (·.1) = false := by rfl) : PE X (.Call (.Name x p) (e :: es) [] pos) (tCB r t) := by
  intro pins s σ H Q I h
  refine wpAny_Call_Name_kw (ld_blt I hg hm hv ?_ hn hdb)
  exact PyProof.Rows.callWith_builtin1 (thn (ha pos pins s σ H _ I h) fun us s1 ⟨vs, H1, I1, r1, q1⟩ => hc pins s1 σ H1 vs us Q I1 r1 q1) he hpl
end
end L2

namespace HT
open PySem PyProof.Rows

/-- t < u of tuples of ints -/
def lexLt : List Int → List Int → Bool
  | [], [] => false
  | [], _ :: _ => true
  | _ :: _, [] => false
  | x :: xs, y :: ys => if x = y then lexLt xs ys else decide (x < y)
theorem lexLt_cons (x y : Int) (xs ys : List Int) : lexLt (x :: xs) (y :: ys) = if x = y then lexLt xs ys else decide (x < y) := rfl

theorem eqAt_int (A : Around) (s : Shared) (a : Int) (t : Tok) (c : Int) (u : Tok) : ∃ e, SeqAt.EqAt A s (.int a t) (.int c u) e ∧ (e = true ↔ a = c) :=
  ⟨(a == c), SeqAt.EqAt.int_int a t c u, by simp⟩

section
open PySem.SeqAt
open PySem.AutoSeq1 (wpAny_loadPart')
open PySem.MeetsSeq PySem.MeetsSeq2 PySem.MeetsSeq3

end

section
variable {prog : Program} {w : World} {A : Around} {E : Value → Shared → Prop} {s : Shared}



/-! ### t[a:b], not the whole -/
/-- a slice's bound as a place among n (d where it is left out) -/
def sIx (n d : Nat) : Option Int → Nat
  | none => d
  | some v => if v < 0 then (v + (n : Int)).toNat else min v.toNat n
theorem sIx_none (n d : Nat) : sIx n d none = d := rfl
theorem sIx_nat (n d k : Nat) : sIx n d (some (k : Int)) = min k n := by
  show (if (k : Int) < 0 then ((k : Int) + (n : Int)).toNat else min (k : Int).toNat n) = min k n
  rw [if_neg (by omega), Int.toNat_natCast]

end
end HT

namespace L2
open PySem PySem.Spec PyProof.Rows

/-! ### the parts of a slice -/
abbrev TO := St → Hp → (Option Int → Hp → Prop) → Prop
/-- a slice's part (left out, or an int) -/
def PO (X : Cx) (e : Option Expr) (t : TO) : Prop :=
  ∀ (pins : List (Addr × Obj)) (s : Shared) (σ : St) (H : Hp) (Q : Option Int → Hp → Prop), Inv X pins σ H s → t σ H Q →
    wpAny (model X.prog X.w) X.A (evalPart e X.env) (fun u s' => ∃ o H', Inv X pins σ H' s' ∧ IsPart u o ∧ Q o H') X.xe s
abbrev tNoPart : TO := fun _ H Q => Q none H
abbrev tPart (t : TE) : TO := fun σ H Q => t σ H fun x H1 => ∃ i, x = .int i ∧ Q (some i) H1

theorem intsAre_of {ns : List Int} : ∀ {us : List Value}, Vals (ns.map V.int) us → IntsAre us ns := by
  induction ns with
  | nil => intro us r; rw [List.map_nil] at r; cases r; exact .nil
  | cons n ns ih =>
    intro us r
    rw [List.map_cons] at r
    cases r with
    | cons r1 r2 =>
      obtain ⟨t, e⟩ := r1
      subst e
      exact .cons n t (ih r2)

section
variable {X : Cx} {e : Expr} {te : TE} {lo hi : Option Expr} {tl th : TO} {pos p2 : Pos}

theorem po_none : PO X none tNoPart := by
  intro pins s σ H Q I h
  rw [evalPart_none]
  exact wpAny_pure ⟨none, H, I, .none, h⟩
theorem po_some (h : PE X e te) : PO X (some e) (tPart te) := by
  intro pins s σ H Q I hw
  rw [evalPart_some]
  refine thn (h pins s σ H _ I hw) fun u s1 ⟨x, H1, I1, r1, q1⟩ => ?_
  obtain ⟨i, rfl, q⟩ := q1
  obtain ⟨t, rfl⟩ := r1
  exact ⟨some i, H1, I1, .int i t, q⟩

/-- what a slice of a value is, by values: the slice object stands at sl -/
def SlR (X : Cx) (r : V → Option Int → Option Int → Hp → VK → Prop) : Prop :=
  ∀ (pins : List (Addr × Obj)) (s : Shared) (σ : St) (H : Hp) (x : V) (v vl vu : Value) (lo hi : Option Int) (sl : Addr) (Q : VK), Inv X pins σ H s → RelV x v → s.heap.IsSliceOf sl vl vu .none → IsPart vl lo → IsPart vu hi → r x lo hi H Q →
    ∃ T id, typeLookup (.type T) "__getitem__" = pure (some (.builtin id)) ∧ s.TypeIs v T ∧ wpAny (model X.prog X.w) X.A (getItem v (.ref sl)) (EP X pins σ Q) X.xe s
abbrev tSl (r : V → Option Int → Option Int → Hp → VK → Prop) (te : TE) (tl th : TO) : TE := fun σ H Q => te σ H fun x H1 => tl σ H1 fun l H2 => th σ H2 fun u H3 => r x l u H3 Q
/-- a[lo:hi], any a -/
theorem pe_slice {r : V → Option Int → Option Int → Hp → VK → Prop} (hr : SlR X r) (he : PE X e te) (hl : PO X lo tl) (hu : PO X hi th) : PE X (.Subscript e (.Slice lo hi none p2) pos) (tSl r te tl th) := by
  intro pins s σ H Q I h
  refine Subscript_ (thn (he pins s σ H _ I h) fun v s1 ⟨x, H1, I1, r1, q1⟩ => ?_)
  refine wpAny_Slice (thn (hl pins s1 σ H1 _ I1 q1) fun vl s2 ⟨l, H2, I2, pl, q2⟩ => thn (hu pins s2 σ H2 _ I2 q2) fun vu s3 ⟨u, H3, I3, pu, q3⟩ => ?_)
  rw [evalPart_none]
  refine wpAny_pure ?_
  have I4 : Inv X pins σ H3 { s3 with heap := s3.heap.push { cls := .type "slice", data := .fields #[vl, vu, .none] } } := I3.kept (t' := s3.toks) fun b ob q => Heap.get?_push_of_some _ q
  obtain ⟨T, id, hT, ht, hg⟩ := hr pins { s3 with heap := s3.heap.push { cls := .type "slice", data := .fields #[vl, vu, .none] } } σ H3 x v vl vu l u s3.heap.objs.size Q I4 r1 (Heap.IsSliceOf.new ..) pl pu q3
  show wpAny (model X.prog X.w) X.A (subscriptTail e (.Slice lo hi none p2) v (.ref s3.heap.objs.size)) (EP X pins σ Q) X.xe { s3 with heap := s3.heap.push { cls := .type "slice", data := .fields #[vl, vu, .none] } }
  exact tail_any (ops := [.ref s3.heap.objs.size, v]) ht hT hg (by with_unfolding_all rfl)

/-- the items of xs[lo:hi] -/
def cutV (xs : List V) (lo hi : Option Int) : List V := (xs.drop (HT.sIx xs.length 0 lo)).take (HT.sIx xs.length xs.length hi - HT.sIx xs.length 0 lo)
theorem cutV_length (xs : List V) (lo hi : Option Int) : (cutV xs lo hi).length ≤ xs.length := by
  unfold cutV
  rw [List.length_take, List.length_drop]
  omega

/-! ### t < u, t + u -/
end
end L2

namespace L2
open PySem PySem.Spec PyProof.Rows

/-! ### places -/
/-- the place that an index of any sign means -/
def ixN (n : Nat) (i : Int) : Option Nat := if 0 ≤ i then (if i < n then some i.toNat else none) else if -(n : Int) ≤ i then some (i + n).toNat else none
def atI {α : Type} (xs : List α) (i : Int) : Option α := (ixN xs.length i).bind fun j => xs[j]?
theorem ixN_seq {n : Nat} {i : Int} {j : Nat} (h : ixN n i = some j) : seqIndex? i n = some j ∧ j < n ∧ -(n : Int) ≤ i ∧ i < n := by
  unfold ixN at h
  by_cases h0 : 0 ≤ i
  · rw [if_pos h0] at h
    by_cases h1 : i < n
    · rw [if_pos h1] at h
      have e : i.toNat = j := Option.some.inj h
      exact ⟨by rw [seqIndex_of h0 h1, e], by omega, by omega, h1⟩
    · rw [if_neg h1] at h; cases h
  · rw [if_neg h0] at h
    by_cases h1 : -(n : Int) ≤ i
    · rw [if_pos h1] at h
      have e : (i + n).toNat = j := Option.some.inj h
      exact ⟨by rw [seqIndex_neg (by omega) h1, e], by omega, h1, by omega⟩
    · rw [if_neg h1] at h; cases h
theorem atI_get {α : Type} {xs : List α} {i : Int} {v : α} (h : atI xs i = some v) : ∃ j, seqIndex? i xs.length = some j ∧ xs[j]? = some v ∧ j < xs.length ∧ -(xs.length : Int) ≤ i ∧ i < xs.length := by
  unfold atI at h
  cases e : ixN xs.length i with
  | none => rw [e] at h; cases h
  | some j =>
    rw [e] at h
    obtain ⟨h1, h2, h3, h4⟩ := ixN_seq e
    exact ⟨j, h1, h, h2, h3, h4⟩
theorem atI_nat {α : Type} {xs : List α} {j : Nat} {v : α} (h : xs[j]? = some v) : atI xs (j : Int) = some v := by
  have hj : j < xs.length := (List.getElem?_eq_some_iff.mp h).1
  have e : ixN xs.length (j : Int) = some j := by
    unfold ixN
    rw [if_pos (by omega), if_pos (by omega)]; simp
  unfold atI; rw [e]; exact h

/-! ### what may be subscripted -/
/-- what stands as an index of a plain subscript -/
def PlainIx (b : Expr) : Prop := ∀ o i, subscripted b false o i = operate [o, i] (getItem o i)
/-- a subscript by values -/
def IxR (X : Cx) (r : R2) : Prop :=
  ∀ (value slice : Expr) (pins : List (Addr × Obj)) (s : Shared) (σ : St) (H : Hp) (x y : V) (v u : Value) (Q : VK), Inv X pins σ H s → RelV x v → RelV y u → r x y H Q →
    subscripted slice false v u = operate [v, u] (getItem v u) → wpAny (model X.prog X.w) X.A (subscriptTail value slice v u) (EP X pins σ Q) X.xe s
/-- a call of a builtin's method by values: the receiver, the arguments -/
def MtR (X : Cx) (id : String) (r : V → List V → Hp → VK → Prop) : Prop :=
  ∀ (pins : List (Addr × Obj)) (s : Shared) (σ : St) (H : Hp) (x : V) (xs : List V) (v : Value) (us : List Value) (Q : VK), Inv X pins σ H s → RelV x v → Vals xs us → r x xs H Q →
    wpAny (model X.prog X.w) X.A (call (.builtin id) (v :: us)) (EP X pins σ Q) X.xe s
section
variable {X : Cx} {a b : Expr} {ta tb : TE} {pos : Pos}
/-- a[b] -/
theorem pe_ix {r : R2} (hr : IxR X r) (ha : PE X a ta) (hb : PE X b tb) (hs : PlainIx b) : PE X (.Subscript a b pos) (tOp r ta tb) := by
  intro pins s σ H Q I h
  exact Subscript_ (binT ha hb I h fun v u s2 x y H2 I2 rx ry q => hr a b pins s2 σ H2 x y v u Q I2 rx ry q (hs _ _))

def rIxL (K : PySem.W.Frag) : R2 := fun x y H Q => ∃ p xs i v, x = .ref p ∧ y = .int i ∧ SqL K H p xs ∧ atI xs i = some v ∧ Q v H
def rIxT (K : PySem.W.Frag) : R2 := fun x y H Q => ∃ p xs i v, x = .ref p ∧ y = .int i ∧ SqT K H p xs ∧ atI xs i = some v ∧ Q v H
theorem ix_list : IxR X (rIxL X.K) := by
  intro value slice pins s σ H x y v u Q I rx ry h hs
  obtain ⟨p, xs, i, z, rfl, rfl, hq, he, q⟩ := h
  cases rx
  obtain ⟨t, rfl⟩ := ry
  obtain ⟨its, r, pl, hz⟩ := I.list hq
  obtain ⟨j, h1, h2, h3, h4, h5⟩ := atI_get he
  obtain ⟨w, ew, rw'⟩ := r.get h2
  have hl := r.length
  have hn := line63
  have fin : EP X pins σ Q w s := ⟨z, H, I, rw', q⟩
  by_cases h0 : 0 ≤ i
  · have hj : i.toNat = j := by
      rw [seqIndex_of h0 h5] at h1
      exact Option.some.inj h1
    exact item_listR pl.isList h0 (by omega) (by rw [hj]; simpa using ew) fin hs
  · have hj : (i + (its.toArray.size : Int)).toNat = j := by
      rw [seqIndex_neg (by omega) h4] at h1
      rw [List.size_toArray, ← hl]
      exact Option.some.inj h1
    exact subscriptTail_builtinR (x := w) pl.isList.typeIs slot_list_getitem.lookup
      (wpAny_getItem_list_neg (Q := fun r s' => r = w ∧ EP X pins σ Q r s') pl.isList (by omega) (by rw [List.size_toArray] <;> omega) (by omega) (by rw [hj]; simpa using ew) ⟨rfl, fin⟩) hs
theorem ix_tup : IxR X (rIxT X.K) := by
  intro value slice pins s σ H x y v u Q I rx ry h hs
  obtain ⟨p, xs, i, z, rfl, rfl, hq, he, q⟩ := h
  cases rx
  obtain ⟨t, rfl⟩ := ry
  obtain ⟨its, r, pl, hz⟩ := I.tuple hq
  obtain ⟨j, h1, h2, h3, h4, h5⟩ := atI_get he
  obtain ⟨w, ew, rw'⟩ := r.get h2
  have hl := r.length
  have hn := line63
  have fin : EP X pins σ Q w s := ⟨z, H, I, rw', q⟩
  exact subscriptTail_builtinR (x := w) pl.typeIs slot_tuple_getitem.lookup
    (getItem_tuple (j := j) (Q := fun r s' => r = w ∧ EP X pins σ Q r s') pl (by omega) (by omega) (by rw [List.size_toArray, ← hl]; exact h1) (by simpa using ew) ⟨rfl, fin⟩) hs

/-! ### xs[i] = v, any sign -/
/-- the list's object behind a store -/
theorem mapSeq_set (its : List Value) (n j : Nat) (u : Value) : Obj.mapSeq (·.setIfInBounds j u) { cls := .type "list", data := .seq its.toArray n } = { cls := .type "list", data := .seq (its.set j u).toArray n } := by
  simp [Obj.mapSeq]
theorem Inv.lst {pins : List (Addr × Obj)} {σ : St} {H : Hp} {s : Shared} {p : Addr} {xs : List V} (I : Inv X pins σ H s) (h : H p = some (.lst xs)) :
    ∃ (its : List Value) (n : Nat), Vals xs its ∧ s.heap.get? p = some { cls := .type "list", data := .seq its.toArray n } ∧ xs.length ≤ sizeLine := by
  obtain ⟨z, its, n, r, e⟩ := I.hok p _ h
  exact ⟨its, n, r, e, z⟩
/-- the list at p is written by an update of its object -/
theorem Inv.lstUpd {pins : List (Addr × Obj)} {σ : St} {H : Hp} {s : Shared} {p : Addr} {xs ys : List V} {its its' : List Value} {n n' : Nat} {f : Obj → Obj} (I : Inv X pins σ H s) (h : H p = some (.lst xs))
    (ho : s.heap.get? p = some { cls := .type "list", data := .seq its.toArray n }) (hf : f { cls := .type "list", data := .seq its.toArray n } = { cls := .type "list", data := .seq its'.toArray n' }) (r : Vals ys its') (hz : ys.length ≤ sizeLine) (t : Nat) :
    Inv X pins σ (upd H p (.lst ys)) { s with heap := s.heap.update p f, toks := t } := by
  have e : (s.heap.update p f).get? p = some { cls := .type "list", data := .seq its'.toArray n' } := by
    rw [Heap.get?_update_self f ho (by rw [hf] <;> rfl), hf]
  refine I.write (x := p) (e := p) (by rw [h]; trivial) (.inl rfl) (fun b u hb q => (Heap.get?_update_other _ _ (Ne.symm hb)).trans q) ⟨_, e⟩ ?_
  exact ⟨hz, its', n', r, e⟩
def rSetL : V → V → V → Hp → (Hp → Prop) → Prop := fun o i v H Q => ∃ p xs k j, o = .ref p ∧ i = .int k ∧ H p = some (.lst xs) ∧ ixN xs.length k = some j ∧ Q (upd H p (.lst (xs.set j v)))
theorem set_list : PSet X rSetL := by
  intro pins s σ H o i v ov iv u Q I ro ri rv h
  obtain ⟨p, xs, k, j, rfl, rfl, hp, hj, q⟩ := h
  cases ro
  obtain ⟨t, rfl⟩ := ri
  obtain ⟨its, n, r, ho, hz⟩ := I.lst hp
  obtain ⟨h1, h2, h3, h4⟩ := ixN_seq hj
  have hl := r.length
  have hn := line63
  have I' : Inv X pins σ (upd H p (.lst (xs.set j v))) { s with heap := s.heap.update p (Obj.mapSeq (·.setIfInBounds j u)) } :=
    I.lstUpd hp ho (mapSeq_set its n j u) (r.set rv j) (by rw [List.length_set]; exact hz) s.toks
  by_cases h0 : 0 ≤ k
  · have hk : k.toNat = j := by
      rw [seqIndex_of h0 h4] at h1
      exact Option.some.inj h1
    exact PySem.W.ki_setAt ho h0 (by omega) (by rw [List.size_toArray, ← hl]; exact h4) (by rw [hk]; exact ⟨_, I', q⟩)
  · have hk : (k + (its.toArray.size : Int)).toNat = j := by
      rw [seqIndex_neg (by omega) h3] at h1
      rw [List.size_toArray, ← hl]
      exact Option.some.inj h1
    exact PySem.W.ki_setBack ho (by omega) (by rw [List.size_toArray, ← hl]; exact h3) (by omega) (by rw [hk]; exact ⟨_, I', q⟩)

/-! ### slices -/
theorem slice_bounds (lo hi : Option Int) (n : Nat) : (sliceBounds lo hi none n).1 = ((HT.sIx n 0 lo : Nat) : Int) ∧ (sliceBounds lo hi none n).2.1 = ((HT.sIx n n hi : Nat) : Int) ∧ (sliceBounds lo hi none n).2.2 = 1 := by
  refine ⟨?_, ?_, rfl⟩
  · cases lo with
    | none => simp [sliceBounds, HT.sIx]
    | some i =>
      simp only [sliceBounds, HT.sIx, Option.getD_none, show (1 : Int) > 0 by decide, if_true]
      by_cases h : i < 0
      · simp only [h, if_true] <;> omega
      · simp only [h, if_false] <;> omega
  · cases hi with
    | none => simp [sliceBounds, HT.sIx]
    | some i =>
      simp only [sliceBounds, HT.sIx, Option.getD_none, show (1 : Int) > 0 by decide, if_true]
      by_cases h : i < 0
      · simp only [h, if_true] <;> omega
      · simp only [h, if_false] <;> omega
theorem slicePick_cut (its : List Value) (lo hi : Option Int) : slicePick its.toArray lo hi none = ((its.drop (HT.sIx its.length 0 lo)).take (HT.sIx its.length its.length hi - HT.sIx its.length 0 lo)).toArray := by
  obtain ⟨h1, h2, h3⟩ := slice_bounds lo hi its.toArray.size
  unfold slicePick
  rw [h1, h2, h3]
  simp only [sliceRange_one, pick_run, List.size_toArray] <;> rfl
/-- xs[lo:hi] of a list: a new list -/
def rSlL (K : PySem.W.Frag) : V → Option Int → Option Int → Hp → VK → Prop := fun x lo hi H Q => ∃ a xs, x = .ref a ∧ SqL K H a xs ∧ ∀ p, H p = none → Q (.ref p) (upd H p (.lst (cutV xs lo hi)))
theorem sl_list : SlR X (rSlL X.K) := by
  intro pins s σ H x v vl vu lo hi sl Q I rx hs pl pu h
  obtain ⟨a, xs, rfl, hx, q⟩ := h
  cases rx
  obtain ⟨its, r, ht, hz⟩ := I.list hx
  have hlen := r.length
  refine ⟨"list", _, slot_list_getitem.lookup, ht.isList.typeIs, ?_⟩
  refine wpAny_getItem_list_slice ht.isList hs pl pu .none (by simp) ?_ (by rw [List.size_toArray] <;> omega)
  rw [slicePick_cut, ← hlen]
  refine ⟨.ref s.heap.objs.size, _, I.laid (t' := s.toks) (o := .lst (cutV xs lo hi)) (fun b ob q => Heap.get?_push_of_some _ q) (Nat.le_refl _) ?_, rfl, q _ (I.hok.fresh (Nat.le_refl _))⟩
  exact ⟨Nat.le_trans (cutV_length xs lo hi) hz, _, 0, (r.drop (HT.sIx xs.length 0 lo)).take (HT.sIx xs.length xs.length hi - HT.sIx xs.length 0 lo), Heap.get?_push_size _ rfl⟩

/-! ### in, not in: flat items -/

/-! ### len, list(x), tuple(x) of any list or tuple that is read -/
theorem call_len_seq : CallR X (.builtin "len") (fun xs H Q => ∃ p ys, xs = [.ref p] ∧ (SqL X.K H p ys ∨ SqT X.K H p ys) ∧ Q (.int ys.length) H) := by
  intro pins s σ H xs us Q I r h
  obtain ⟨p, ys, rfl, hq, q⟩ := h
  obtain ⟨u, rfl, rx⟩ := vals1 r
  cases rx
  have hn := line63
  rcases hq with hq | hq
  · obtain ⟨its, r', pl, hz⟩ := I.list hq
    have hlen := r'.length
    exact Calls.call_len_list pl.isList (by simp only [List.size_toArray] <;> omega) ⟨.int ys.length, H, I.tok _, ⟨s.toks + 1, by rw [List.size_toArray, hlen]⟩, q⟩
  · obtain ⟨its, r', pl, hz⟩ := I.tuple hq
    have hlen := r'.length
    exact len_tuple pl (by simp only [List.size_toArray] <;> omega) ⟨.int ys.length, H, I.tok _, ⟨s.toks + 1, by rw [List.size_toArray, hlen]⟩, q⟩

/-! ### the call of a builtin's method: o.m(..) -/
/-- the value is of that builtin type -/
def tyV (K : PySem.W.Frag) (T : String) (x : V) (H : Hp) : Prop := match x with
  | .str _ => T = "str"
  | .int _ => T = "int"
  | .ref p => (T = "list" ∧ ∃ xs, SqL K H p xs) ∨ (T = "tuple" ∧ ∃ o, K.lookup p = some o ∧ o.cls = .type "tuple" ∧ o.dict = none) ∨
      (T = "dict" ∧ ((∃ kvs, H p = some (.dK kvs)) ∨ ∃ kvs, H p = some (.dT kvs))) ∨ (T = "set" ∧ ∃ S n, H p = some (.set S n))
  | _ => False
theorem tyV_is {pins : List (Addr × Obj)} {σ : St} {H : Hp} {s : Shared} {T : String} {x : V} {v : Value} (I : Inv X pins σ H s) (r : RelV x v) (ty : tyV X.K T x H) :
    s.TypeIs v T ∧ ∀ a, v = .ref a → ∃ ob, s.heap.get? a = some ob ∧ ob.dict = none := by
  cases x with
  | str z =>
    obtain ⟨t, rfl⟩ := r
    cases (show T = "str" from ty)
    exact ⟨typeIs_str s z t, fun _ e => nomatch e⟩
  | int i =>
    obtain ⟨t, rfl⟩ := r
    cases (show T = "int" from ty)
    exact ⟨typeIs_int s i t, fun _ e => nomatch e⟩
  | ref p =>
    cases r
    rcases ty with ⟨rfl, xs, hq⟩ | ⟨rfl, o, hk, hc, hd⟩ | ⟨rfl, hk⟩ | ⟨rfl, S, n, hk⟩
    · obtain ⟨its, _, pl, _⟩ := I.list hq
      refine ⟨pl.isList.typeIs, fun a e => ?_⟩
      cases e
      obtain ⟨o, n, e, c, hd, _⟩ := pl
      exact ⟨o, e, hd⟩
    · refine ⟨⟨o, I.kIn p o hk, hc⟩, fun a e => ?_⟩
      cases e
      exact ⟨o, I.kIn _ o hk, hd⟩
    · have z : ∃ o, s.heap.get? p = some o ∧ o.ExactDict := by
        rcases hk with ⟨kvs, hk⟩ | ⟨kvs, hk⟩
        · obtain ⟨_, _, _, _, o, _, _, e, ex, _⟩ := I.hok p _ hk
          exact ⟨o, e, ex⟩
        · obtain ⟨_, _, _, _, o, _, _, e, ex, _⟩ := I.hok p _ hk
          exact ⟨o, e, ex⟩
      obtain ⟨o, e, ex⟩ := z
      refine ⟨⟨o, e, ex.1⟩, fun a e2 => ?_⟩
      cases e2
      exact ⟨o, e, ex.2.1⟩
    · obtain ⟨o, _, _, _, e, ex, _⟩ := I.hok p _ hk
      refine ⟨⟨o, e, ex.1⟩, fun a e2 => ?_⟩
      cases e2
      exact ⟨o, e, ex.2.1⟩
  | _ => exact False.elim ty
abbrev tBM (K : PySem.W.Frag) (T : String) (r : V → List V → Hp → VK → Prop) (to : TE) (t : TA) : TE := fun σ H Q => to σ H fun x H1 => tyV K T x H1 ∧ t σ H1 fun xs H2 => r x xs H2 Q
variable {o e : Expr} {es : List Expr} {to : TE} {t : TA} {name : Str} {apos cpos : Pos} {T id : String} {r : V → List V → Hp → VK → Prop}
theorem pe_bm (pa : PlainAttrs T) (slot : Slot T name id) (hty : typeOf (.builtin id) = pure (.type "method_descriptor")) (hm : MtR X id r) (ho : PE X o to) (ha : PA X (e :: es) t)
    (hbase : attributeBase o name X.env (eval o X.env) = eval o X.env := by rfl)
    (hfew : ((backTo cpos (starEach (e :: es) X.env)).all (fun x => !x.1) && (backToKw cpos (keywordEach [] X.env)).all (fun x => x.1.isSome)
      && decide ((e :: es).length + ([] : List Keyword).length + (if ([] : List Keyword).isEmpty then 0 else 1) < 30)) = true := by rfl)
    (hline : (apos.endLine == cpos.line) = true := by rfl) (hs : starEach (e :: es) X.env = (false, eval e X.env) :: starEach es X.env := by rfl) (hplain : (backTo cpos (starEach es X.env)).any (·.1) = false := by rfl) :
    PE X (.Call (.Attribute o name apos) (e :: es) [] cpos) (tBM X.K T r to t) := by
  intro pins s σ H Q I h
  refine wpAny_Call_method_late hbase hfew hline rfl (thn (ho pins s σ H _ I h) fun v s1 ⟨x, H1, I1, r1, ty, q1⟩ => ?_)
  obtain ⟨h1, h2⟩ := tyV_is I1 r1 ty
  refine ⟨T, id, pa, slot, hty, h1, h2, ?_⟩
  have hA := ha cpos pins s1 σ H1 _ I1 q1
  rw [hs] at hA ⊢
  refine Calls.callWith_builtin (by show (false || (backTo cpos (starEach es X.env)).any (·.1)) = false; rw [hplain] <;> rfl) (Calls.evalArgs_plain ?_)
  exact thn hA fun us s2 ⟨vs, H2, I2, r2, q2⟩ => hm pins s2 σ H2 x vs v us Q I2 r1 r2 q2
/- xs.append(e), list.index on a module's tuple .. are MtR facts of 06m -/
end
end L2

namespace L2
open PySem PySem.Spec PyProof.Rows

def MtM (X : Cx) (id : String) (r : V → List V → Hp → VK → Prop) : Prop :=
  ∀ (pins : List (Addr × Obj)) (s : Shared) (σ : St) (H : Hp) (x : V) (xs : List V) (v : Value) (us : List Value) (Q : VK), Inv X pins σ H s → RelV x v → Vals xs us → r x xs H Q →
    wpAny (model X.prog X.w) X.A (call (.builtin id) (v :: us)) (EP X pins σ Q) X.xe s

/-! ### lists of values -/
theorem Vals.one : ∀ {x : V} {us : List Value}, Vals [x] us → ∃ u, us = [u] ∧ RelV x u
  | _, _, .cons r .nil => ⟨_, rfl, r⟩
theorem Vals.rep {xs : List V} {us : List Value} (h : Vals xs us) : ∀ k : Nat, Vals (List.replicate k xs).flatten (List.replicate k us).flatten
  | 0 => .nil
  | k + 1 => by
    rw [List.replicate_succ, List.replicate_succ, List.flatten_cons, List.flatten_cons]
    exact Vals.append h (Vals.rep h k)
theorem foldl_rep (its : List Value) : ∀ (k : Nat) (acc : List Value),
    List.foldl (fun x1 x2 => x1 ++ x2) acc.toArray (List.replicate k its.toArray) = (acc ++ (List.replicate k its).flatten).toArray
  | 0, acc => by simp
  | k + 1, acc => by
    have e : acc.toArray ++ its.toArray = (acc ++ its).toArray := by simp
    have e2 : (acc ++ its) ++ (List.replicate k its).flatten = acc ++ (List.replicate (k + 1) its).flatten := by
      rw [List.replicate_succ, List.flatten_cons, List.append_assoc]
    rw [← e2, ← foldl_rep its k (acc ++ its), ← e, List.replicate_succ, List.foldl_cons]

section
variable {X : Cx} {pins : List (Addr × Obj)} {σ : St} {H : Hp} {s : Shared} {l b : Addr} {xs ys zs : List V}

/-! ### the two steps: a tracked list is rewritten, a new list is laid -/
theorem Inv.lset {its its' : List Value} {n : Nat} {f : Array Value → Array Value} {t' : Nat} (I : Inv X pins σ H s) (hH : H l = some (.lst xs))
    (e : s.heap.get? l = some { cls := .type "list", data := .seq its.toArray n }) (hf : f its.toArray = its'.toArray) (hv : Vals ys its') (hz : ys.length ≤ sizeLine) :
    Inv X pins σ (upd H l (.lst ys)) { s with heap := s.heap.update l (Obj.mapSeq f), toks := t' } := by
  have q := PySem.IsL.update e f
  rw [hf] at q
  refine I.write (x := l) (e := l) (by rw [hH]; exact trivial) (.inl rfl) (fun b' u hb hu => (Heap.get?_update_other s.heap (Obj.mapSeq f) (Ne.symm hb)).trans hu) ⟨_, q⟩ ?_
  exact ⟨hz, its', _, hv, q⟩
theorem Inv.lnew {its : List Value} {t' : Nat} (I : Inv X pins σ H s) (hv : Vals ys its) (hz : ys.length ≤ sizeLine) :
    Inv X pins σ (upd H s.heap.objs.size (.lst ys)) { s with heap := s.heap.push { cls := .type "list", data := .seq its.toArray }, toks := t' } :=
  I.laid (fun _ _ q => Heap.get?_push_of_some _ q) (Nat.le_refl _) ⟨hz, its, 0, hv, Heap.get?_push_size _ rfl⟩
theorem Inv.fresh (I : Inv X pins σ H s) : H s.heap.objs.size = none := I.hok.fresh (Nat.le_refl _)
theorem Inv.lstM (I : Inv X pins σ H s) (hH : H l = some (.lst xs)) : xs.length ≤ sizeLine ∧ ∃ (its : List Value) (n : Nat), Vals xs its ∧ xs.length = its.length ∧ s.heap.get? l = some { cls := .type "list", data := .seq its.toArray n } := by
  obtain ⟨z, its, n, r, e⟩ := I.hok l _ hH
  exact ⟨z, its, n, r, r.length, e⟩

theorem notLongL {n : Nat} (h : n ≤ sizeLine) : Builtin.List.listTooLong n = false := by
  unfold Builtin.List.listTooLong
  exact decide_eq_false (by omega)
end

section
variable {X : Cx}

/-! ### methods -/
def rAppend : V → List V → Hp → VK → Prop := fun x vs H Q => ∃ l xs y, x = .ref l ∧ vs = [y] ∧ H l = some (.lst xs) ∧ xs.length < sizeLine ∧ Q .non (upd H l (.lst (xs ++ [y])))
theorem mt_append : MtM X "list.append" rAppend := by
  intro pins s σ H x vs v us Q I rx rv h
  obtain ⟨l, xs, y, rfl, rfl, hH, hz, q⟩ := h
  cases rx
  obtain ⟨u, rfl, ru⟩ := rv.one
  obtain ⟨z, its, n, r, hl, e⟩ := I.lstM hH
  refine call_meets F.slot_list_append ⟨_, e, rfl⟩ F.entry_list_append (F.args_list_append_2 _ _) (PySem.list_append l its.toArray n u (by rw [List.size_toArray]; omega)) ⟨e, ?_⟩
  refine ⟨.non, _, I.lset (its' := its ++ [u]) hH e (by simp) (r.append (.cons ru .nil)) ?_, rfl, q⟩
  rw [List.length_append, List.length_singleton]
  omega

def rExtend : V → List V → Hp → VK → Prop := fun x vs H Q => ∃ l b xs zs, x = .ref l ∧ vs = [.ref b] ∧ H l = some (.lst xs) ∧ H b = some (.lst zs) ∧ xs.length + zs.length ≤ sizeLine ∧ Q .non (upd H l (.lst (xs ++ zs)))
theorem mt_extend : MtM X "list.extend" rExtend := by
  intro pins s σ H x vs v us Q I rx rv h
  obtain ⟨l, b, xs, zs, rfl, rfl, hH, hB, hz, q⟩ := h
  cases rx
  obtain ⟨u, rfl, ru⟩ := rv.one
  cases ru
  obtain ⟨z, its, n, r, hl, e⟩ := I.lstM hH
  obtain ⟨z2, its2, n2, r2, hl2, e2⟩ := I.lstM hB
  have hsz : its.toArray.size + its2.toArray.size ≤ sizeLine := by rw [List.size_toArray, List.size_toArray]; omega
  have hlong : ¬ (!its.toArray.isEmpty && Builtin.List.listTooLong (its.toArray.size + its2.toArray.size)) = true := by
    rw [notLongL hsz, Bool.and_false]
    exact Bool.false_ne_true
  refine call_meets F.slot_list_extend ⟨_, e, rfl⟩ F.entry_list_extend (F.args_list_extend_2 _ _)
    (AutoSeq1.list_extend_list_list_0 l its.toArray n b its2.toArray n2 hlong (by rw [List.size_toArray]; omega) (by omega)) ⟨e, e2, ?_⟩
  refine ⟨.non, _, I.lset (its' := its ++ its2) hH e (by simp) (r.append r2) ?_, rfl, q⟩
  rw [List.length_append]
  omega





/-! ### list + list, list += list, list * int -/
def rCat : R2 := fun x y H Q => ∃ l b xs zs, x = .ref l ∧ y = .ref b ∧ H l = some (.lst xs) ∧ H b = some (.lst zs) ∧ xs.length + zs.length ≤ sizeLine ∧ ∀ p, H p = none → Q (.ref p) (upd H p (.lst (xs ++ zs)))
theorem op_cat : OpR X (binaryOp .Add) rCat := by
  intro pins s σ H x y v u Q I rx ry h
  obtain ⟨l, b, xs, zs, rfl, rfl, hH, hB, hz, q⟩ := h
  cases rx
  cases ry
  obtain ⟨z, its, n, r, hl, e⟩ := I.lstM hH
  obtain ⟨z2, its2, n2, r2, hl2, e2⟩ := I.lstM hB
  refine PySem.P.add_list e e2 ?_ (by rw [List.size_toArray, List.size_toArray]; omega)
  have ea : its.toArray ++ its2.toArray = (its ++ its2).toArray := by simp
  rw [ea]
  exact ⟨.ref _, _, I.lnew (t' := s.toks) (r.append r2) (by rw [List.length_append]; omega), rfl, q _ I.fresh⟩
/-- a list times an int (a negative one is nothing) -/
def rRep : R2 := fun x y H Q => ∃ l k xs, x = .ref l ∧ y = .int k ∧ H l = some (.lst xs) ∧ -(2 ^ 63) ≤ k ∧ k < 2 ^ 63 ∧ xs.length * k.toNat ≤ sizeLine ∧
  ∀ p, H p = none → Q (.ref p) (upd H p (.lst (List.replicate k.toNat xs).flatten))
theorem len_rep {α : Type} (xs : List α) (k : Nat) : (List.replicate k xs).flatten.length = k * xs.length := by
  induction k with
  | zero => simp
  | succ k ih => rw [List.replicate_succ, List.flatten_cons, List.length_append, ih, Nat.succ_mul, Nat.add_comm]
theorem op_rep : OpR X (binaryOp .Mult) rRep := by
  intro pins s σ H x y v u Q I rx ry h
  obtain ⟨l, k, xs, rfl, rfl, hH, h1, h2, hz, q⟩ := h
  cases rx
  obtain ⟨t, rfl⟩ := ry
  obtain ⟨z, its, n, r, hl, e⟩ := I.lstM hH
  have hlen : its.toArray.size * k.toNat ≤ sizeLine := by rw [List.size_toArray, ← hl]; exact hz
  have hcap : ¬ its.toArray.size * k.toNat > (2 ^ 63 - 1) / 8 := by
    have : (sizeLine : Nat) ≤ (2 ^ 63 - 1) / 8 := by decide
    omega
  have hfit : ¬ (!Builtin.List.listFitsIndex k) = true := by
    rw [fitsIndex_both h1 h2]
    exact Bool.false_ne_true
  have hlong : ¬ Builtin.List.listTooLong (its.toArray.size * k.toNat) = true := by
    rw [notLongL hlen]
    exact Bool.false_ne_true
  have hnew : List.foldl (fun x1 x2 => x1 ++ x2) #[] (List.replicate (if its.toArray.isEmpty = true then 0 else k.toNat) its.toArray) = (List.replicate k.toNat its).flatten.toArray := by
    have f0 : ∀ m : Nat, List.foldl (fun x1 x2 => x1 ++ x2) #[] (List.replicate m its.toArray) = (List.replicate m its).flatten.toArray := fun m => by
      have := foldl_rep its m []
      rw [List.nil_append] at this
      exact this
    rw [f0]
    cases its with
    | nil => simp
    | cons a r' => rw [if_neg (by simp)]
  refine wpAny_binaryOp_repeat_ref (T := "list") (U := "int") (by decide) ⟨_, e, rfl⟩ (fun s' => typeIs_int s' k t) noFill_list_mul F.fills_int_mul F.slot_int_rmul repeat_list F.slot_int_index.lookup
    (call_meets F.slot_int_rmul (typeIs_int s k t) F.entry_int_rmul (F.args_int_rmul_2 _ _) (int___rmul___int_list k t l its.toArray n)
      ⟨e, rfl, ⟨_, e, rfl⟩, call_meets F.slot_list_mul ⟨_, e, rfl⟩ F.entry_list_mul (F.args_list_mul_2 _ _) (AutoListH.list___mul___list_int_3 l its.toArray n k t hfit hcap hlong) ⟨e, ?_⟩⟩)
  rw [hnew]
  exact ⟨.ref _, _, I.lnew (t' := s.toks) (r.rep k.toNat) (by rw [len_rep, Nat.mul_comm]; exact hz), rfl, q _ I.fresh⟩

/-! ### del xs[i] -/
end

/-! ### xs[a:b] = ys -/
section
variable {prog : Program} {w : World} {A : Around} {E : Value → Shared → Prop} {s : Shared}
end

section
variable {X : Cx}
end
end L2

namespace L2
open PySem PySem.Spec PyProof.Rows

theorem Vals.ints : ∀ {ns : List Int} {us : List Value}, Vals (ns.map V.int) us → IntsAre us ns
  | [], us, h => by
    rw [List.map_nil] at h
    cases h
    exact IntsAre.nil
  | n :: ns, us, h => by
    rw [List.map_cons] at h
    cases h with
    | cons r t =>
      obtain ⟨k, rfl⟩ := r
      exact IntsAre.cons n k (Vals.ints t)
theorem Vals.ref1 {a : Addr} {us : List Value} (r : Vals [V.ref a] us) : us = [Value.ref a] := by
  cases r with
  | cons r t =>
    cases t
    cases r
    rfl

/-! ### the library's walks over a list of ints, kept objects alone -/
section
variable {prog : Program} {w : World} {A : Around} {E : Value → Shared → Prop} {s : Shared} {l : Addr} {its : List Value} {ns : List Int} {Q : Value → Shared → Prop}
theorem sum_raw (hh : A.handled = none) (hl : s.heap.IsList l its.toArray) (hi : IntsAre its ns)
    (h : ∀ h' tk t', (∀ b o, s.heap.get? b = some o → h'.get? b = some o) → Q (.int ns.sum t') { s with heap := h', toks := tk }) : wpAny (model prog w) A (call (.builtin "sum") [.ref l]) Q E s := by
  obtain ⟨xs, e⟩ := hi.allInts.items
  have hn : numsOf (intItems xs).toList = ns := by rw [← e]; exact hi.numsOf
  rw [nums_intItems] at hn
  rw [e] at hl
  refine PySem.sum_intListG hh hl fun h' tk t' hk => ?_
  have := h h' tk t' hk
  rw [preSum_eq, List.take_of_length_le (by simp), hn]; exact this
end

/-! ### the calls, by values (CallR of 03t; MtR of 06l) -/
section
variable {X : Cx}
/-- sum(xs) of a list of ints -/
def rSum (K : PySem.W.Frag) : List V → Hp → VK → Prop := fun vs H Q => ∃ (a : Addr) (ns : List Int), vs = [V.ref a] ∧ SqL K H a (ns.map V.int) ∧ Q (.int ns.sum) H
theorem cr_sum (hc : X.calm = true) : CallR X (.builtin "sum") (rSum X.K) := by
  intro pins s σ H vs us Q I r h
  obtain ⟨a, ns, rfl, hs, q⟩ := h
  obtain ⟨its, rv, hl, _⟩ := I.list hs
  rw [Vals.ref1 r]
  exact sum_raw (I.ok.hd hc) hl.isList rv.ints fun h' tk t' hk => ⟨.int _, H, I.kept hk, ⟨_, rfl⟩, q⟩

/-! sorted, sort (fewer than 64 items: the library's own bound) -/
end

/-! ### list.index, flat items -/
section
variable {X : Cx}
end

/-! ### type(x) of an own instance; is, is not of a module's class -/
section
variable {X : Cx}
end

/-! ### any(xs), all(xs) of a list of bools -/
theorem iter_any {prog : Program} {w : World} {A : Around} {E : Value → Shared → Prop} {s : Shared} {l : Addr} {items : Array Value} {Q : Value → Shared → Prop} (hl : s.heap.IsList l items)
    (h : ∀ s₂ : Shared, s₂ = { s with heap := s.heap.push { cls := .type "list_iterator", data := .fields #[.ref l, .int 0 0] } } →
      (s₂.heap.IsListIter s.heap.objs.size l 0 ∧ s₂.heap.IsList l items) → l ≠ s.heap.objs.size → Q (.ref s.heap.objs.size) s₂) : wpAny (model prog w) A (pyIter (.ref l)) Q E s := by
  have hlt : l < s.heap.objs.size := by obtain ⟨_, e, _⟩ := hl; exact Heap.lt_size e
  exact wpAny_pyIter_list hl (h _ rfl ⟨⟨_, Heap.get?_push_size _ rfl, rfl, rfl⟩, hl.push _⟩ (Nat.ne_of_lt hlt))
section
variable {X : Cx}
end

/-! ### == and != of data at any depth: none, bools, ints, texts, lists, tuples -/
mutual
inductive Dp (K : PySem.W.Frag) (H : Hp) : V → PyData → Prop
  | non : Dp K H .non .none
  | bl (b : Bool) : Dp K H (.bl b) (.bool b)
  | int (i : Int) : Dp K H (.int i) (.int i)
  | str (x : Str) : Dp K H (.str x) (.str x)
  | lst {a : Addr} {xs : List V} {ds : List PyData} : SqL K H a xs → DpAll K H xs ds → Dp K H (.ref a) (.list ds)
  | tup {a : Addr} {xs : List V} {ds : List PyData} : SqT K H a xs → DpAll K H xs ds → Dp K H (.ref a) (.tuple ds)
inductive DpAll (K : PySem.W.Frag) (H : Hp) : List V → List PyData → Prop
  | nil : DpAll K H [] []
  | cons {v : V} {vs : List V} {d : PyData} {ds : List PyData} : Dp K H v d → DpAll K H vs ds → DpAll K H (v :: vs) (d :: ds)
end
section
variable {X : Cx} {pins : List (Addr × Obj)} {σ : St} {H : Hp} {s : Shared}
mutual
theorem Dp.reads (I : Inv X pins σ H s) : ∀ (d : PyData) (v : V) (u : Value), Dp X.K H v d → RelV v u → ∃ as, Reads s.heap u d as
  | .none, _, _, h, r => by
    cases h
    cases r
    exact ⟨_, Reads.none⟩
  | .bool b, _, _, h, r => by
    cases h
    cases r
    exact ⟨_, Reads.bool b⟩
  | .int i, _, _, h, r => by
    cases h
    obtain ⟨t, rfl⟩ := r
    exact ⟨_, Reads.int i t⟩
  | .str x, _, _, h, r => by
    cases h
    obtain ⟨t, rfl⟩ := r
    exact ⟨_, Reads.str x t⟩
  | .list ds, _, _, h, r => by
    cases h with
    | lst hs ha =>
      cases r
      obtain ⟨its, rv, ⟨o, n, ho, hc, _, hd⟩, _⟩ := I.list hs
      obtain ⟨as, hr⟩ := Dp.readsAll I ds _ its ha rv
      exact ⟨_, Reads.list ho hc hd hr⟩
  | .tuple ds, _, _, h, r => by
    cases h with
    | tup hs ha =>
      cases r
      obtain ⟨its, rv, ⟨o, ho, hc, n, hd⟩, _⟩ := I.tuple hs
      obtain ⟨as, hr⟩ := Dp.readsAll I ds _ its ha rv
      exact ⟨_, Reads.tuple ho hc hd hr⟩
  | .dict _, _, _, h, _ => by cases h
theorem Dp.readsAll (I : Inv X pins σ H s) : ∀ (ds : List PyData) (vs : List V) (us : List Value), DpAll X.K H vs ds → Vals vs us → ∃ as, ReadsAll s.heap us ds as
  | [], _, _, h, r => by
    cases h
    cases r
    exact ⟨_, ReadsAll.nil⟩
  | d :: ds, _, _, h, r => by
    cases h with
    | cons h1 h2 =>
      cases r with
      | cons r1 r2 =>
        obtain ⟨as, q1⟩ := Dp.reads I d _ _ h1 r1
        obtain ⟨bs, q2⟩ := Dp.readsAll I ds _ _ h2 r2
        exact ⟨_, ReadsAll.cons q1 q2⟩
end
end
section
variable {X : Cx}
def rEqD (K : PySem.W.Frag) : R2 := fun x y H Q => ∃ d e, Dp K H x d ∧ Dp K H y e ∧ SeqAt.shaped d = true ∧ SeqAt.shaped e = true ∧ Q (.bl (PyData.eqv d e)) H
theorem op_eqD (hu : X.A.units + 64 < cLine) : OpR X (compareOp .Eq) (rEqD X.K) := by
  intro pins s σ H x y v u Q I rx ry h
  obtain ⟨d, e, hd, he, sd, se, q⟩ := h
  obtain ⟨as, r1⟩ := Dp.reads I d x v hd rx
  obtain ⟨bs, r2⟩ := Dp.reads I e y u he ry
  exact SeqAt.compareEq_shaped r1 r2 sd se hu ⟨.bl _, H, I, rfl, q⟩
end
end L2

namespace L2
open PySem PySem.Spec PyProof.Rows
abbrev CellAt (h : Heap) (c : Addr) (v : Option Value) : Prop := h.IsCell c v
def relS (scope sc : Scope) : Scope :=
  { scope with names := scope.names.map fun (n, k) => if (k == .free && sc.kind == .function && sc.names.lookup n == some .cell) then (n, .cell) else (n, k) }

def cloFrom (cells : List (Str × Addr)) : List (Str × NameKind) → List (Str × Addr) → List (Str × Addr)
  | [], acc => acc
  | (n, k) :: r, acc => if k == .free then cloFrom cells r ((n, (cells.lookup n).getD 0) :: acc) else cloFrom cells r acc

theorem closure_loop (env : Env) (f : Str × NameKind → List (Str × Addr) → Sem (ForInStep (List (Str × Addr))))
    (hf : ∀ n k c, f (n, k) c = if k == .free then (do let a ← cellOf env n; pure (.yield ((n, a) :: c))) else pure (.yield c)) :
    ∀ (names : List (Str × NameKind)) (acc : List (Str × Addr)), (∀ y ∈ names, y.2 = .free → ∃ c, env.cells.lookup y.1 = some c) → forIn names acc f = pure (cloFrom env.cells names acc)
  | [], acc, _ => by rw [List.forIn_nil]; rfl
  | (n, k) :: r, acc, h => by
    rw [List.forIn_cons, hf]
    have ih := fun acc => closure_loop env f hf r acc fun y hy => h y (List.mem_cons_of_mem _ hy)
    unfold cloFrom
    by_cases hk : (k == NameKind.free) = true
    · rw [if_pos hk, if_pos hk]
      obtain ⟨c, hc⟩ := h (n, k) List.mem_cons_self (by simpa using hk)
      have e : cellOf env n = pure c := by unfold cellOf; rw [hc]
      rw [e]
      have e2 : (env.cells.lookup n).getD 0 = c := by rw [hc]; rfl
      rw [e2]
      exact ih _
    · rw [if_neg hk, if_neg hk]
      exact ih _
theorem closure_ok {scope : Scope} {env : Env} (h : ∀ y ∈ scope.names, y.2 = .free → ∃ c, env.cells.lookup y.1 = some c) : closureFor scope env = pure (cloFrom env.cells scope.names []) := by
  simp only [closureFor]
  rw [closure_loop env _ (fun n k c => rfl) scope.names [] h]
  rfl

theorem mem_lookup {α : Type} : ∀ {l : List (Str × α)} {n : Str} {c : α}, (n, c) ∈ l → ∃ c', l.lookup n = some c'
  | (k, v) :: r, n, c, h => by
    rw [List.lookup_cons]
    cases hb : n == k with
    | true => exact ⟨_, rfl⟩
    | false =>
      rcases List.mem_cons.mp h with e | h
      · cases e; simp at hb
      · exact mem_lookup h

theorem cloFrom_mem {cells : List (Str × Addr)} : ∀ {names : List (Str × NameKind)} {acc : List (Str × Addr)} {n : Str} {c : Addr}, (n, c) ∈ cloFrom cells names acc → (n, c) ∈ acc ∨ ((n, .free) ∈ names ∧ c = (cells.lookup n).getD 0)
  | [], _, _, _, h => .inl h
  | (m, k) :: r, acc, n, c, h => by
    unfold cloFrom at h
    split at h
    · rename_i hk
      have hk : k = .free := by simpa using hk
      rcases cloFrom_mem h with h | ⟨h1, h2⟩
      · rcases List.mem_cons.mp h with e | h
        · cases e; exact .inr ⟨hk ▸ List.mem_cons_self, rfl⟩
        · exact .inl h
      · exact .inr ⟨List.mem_cons_of_mem _ h1, h2⟩
    · rcases cloFrom_mem h with h | ⟨h1, h2⟩
      · exact .inl h
      · exact .inr ⟨List.mem_cons_of_mem _ h1, h2⟩
theorem cloFrom_acc {cells : List (Str × Addr)} : ∀ {names : List (Str × NameKind)} {acc : List (Str × Addr)} {p : Str × Addr}, p ∈ acc → p ∈ cloFrom cells names acc
  | [], _, _, h => h
  | (m, k) :: r, acc, p, h => by
    unfold cloFrom
    split
    · exact cloFrom_acc (List.mem_cons_of_mem _ h)
    · exact cloFrom_acc h
theorem cloFrom_has {cells : List (Str × Addr)} : ∀ {names : List (Str × NameKind)} {acc : List (Str × Addr)} {n : Str}, (n, .free) ∈ names → (n, (cells.lookup n).getD 0) ∈ cloFrom cells names acc
  | (m, k) :: r, acc, n, h => by
    unfold cloFrom
    rcases List.mem_cons.mp h with e | h
    · cases e
      exact cloFrom_acc List.mem_cons_self
    · split
      · exact cloFrom_has h
      · exact cloFrom_has h

theorem cells_mem : ∀ {names : List (Str × NameKind)} {h : Heap} {acc : List (Str × Addr)} {x : Str} {c : Addr}, (x, c) ∈ cellsFrom h.objs.size names acc →
    (x, c) ∈ acc ∨ ((x, .cell) ∈ names ∧ h.objs.size ≤ c ∧ CellAt (pushCells h names) c none)
  | [], _, _, _, _, h => .inl h
  | (n, k) :: r, h, acc, x, c, hm => by
    unfold cellsFrom at hm
    unfold pushCells
    split at hm
    · rename_i hk
      rw [if_pos hk]
      have hk : k = .cell := by simpa using hk
      rw [← Heap.size_push h { cls := .type "cell", data := .cell none }] at hm
      rcases cells_mem hm with hm | ⟨h1, h2, h3⟩
      · rcases List.mem_cons.mp hm with e | hm
        · cases e
          exact .inr ⟨hk ▸ List.mem_cons_self, Nat.le_refl _, _, pushCells_keeps r _ _ _ (Heap.get?_push_size _ rfl), rfl⟩
        · exact .inl hm
      · rw [Heap.size_push] at h2
        exact .inr ⟨List.mem_cons_of_mem _ h1, Nat.le_of_succ_le h2, h3⟩
    · rename_i hk
      rw [if_neg hk]
      rcases cells_mem hm with hm | ⟨h1, h2, h3⟩
      · exact .inl hm
      · exact .inr ⟨List.mem_cons_of_mem _ h1, h2, h3⟩
theorem cells_acc : ∀ {names : List (Str × NameKind)} {n : Nat} {acc : List (Str × Addr)} {p : Str × Addr}, p ∈ acc → p ∈ cellsFrom n names acc
  | [], _, _, _, h => h
  | (m, k) :: r, n, acc, p, h => by
    unfold cellsFrom
    split
    · exact cells_acc (List.mem_cons_of_mem _ h)
    · exact cells_acc h
theorem cells_has : ∀ {names : List (Str × NameKind)} {n : Nat} {acc : List (Str × Addr)} {x : Str}, (x, .cell) ∈ names → ∃ c, (x, c) ∈ cellsFrom n names acc
  | (m, k) :: r, n, acc, x, h => by
    unfold cellsFrom
    rcases List.mem_cons.mp h with e | h
    · cases e
      exact ⟨n, cells_acc List.mem_cons_self⟩
    · split
      · exact cells_has h
      · exact cells_has h
theorem cells_inj : ∀ {names : List (Str × NameKind)} {h : Heap} {acc : List (Str × Addr)} {x y : Str} {c : Addr}, (∀ p ∈ acc, p.2 < h.objs.size) → (∀ x y c, (x, c) ∈ acc → (y, c) ∈ acc → x = y) →
    (x, c) ∈ cellsFrom h.objs.size names acc → (y, c) ∈ cellsFrom h.objs.size names acc → x = y
  | [], _, _, _, _, _, _, hi, h1, h2 => hi _ _ _ h1 h2
  | (n, k) :: r, h, acc, x, y, c, hl, hi, h1, h2 => by
    unfold cellsFrom at h1 h2
    split at h1
    · rename_i hk
      rw [if_pos hk] at h2
      rw [← Heap.size_push h { cls := .type "cell", data := .cell none }] at h1 h2
      refine cells_inj (h := h.push _) (fun p hp => ?_) (fun x y c a b => ?_) h1 h2
      · rw [Heap.size_push]
        rcases List.mem_cons.mp hp with rfl | hp
        · exact Nat.lt_succ_self _
        · exact Nat.lt_succ_of_lt (hl p hp)
      · rcases List.mem_cons.mp a with e | a <;> rcases List.mem_cons.mp b with e' | b
        · cases e; cases e'; rfl
        · cases e; exact absurd (hl _ b) (Nat.lt_irrefl _)
        · cases e'; exact absurd (hl _ a) (Nat.lt_irrefl _)
        · exact hi _ _ _ a b
    · rename_i hk
      rw [if_neg hk] at h2
      exact cells_inj hl hi h1 h2

theorem newEnv_comp {M : Model} {A : Around} {E : Value → Shared → Prop} {s : Shared} {scope : Scope} {globals : Addr} {closure : List (Str × Addr)} {qual : Str} {func : Option Addr} {code : Value} {around : Env} {builtins : Addr} {Q : Env → Shared → Prop}
    (h : Q (newEnv scope s.heap.objs.size globals (cellsFrom (s.heap.objs.size + 1) scope.names closure) qual func code (some around) builtins)
      { s with heap := pushCells (s.heap.push { cls := .type "dict", data := .dict #[] }) scope.names }) :
    wpAny M A (newFunctionEnv scope globals closure [] qual func code (some around) builtins) Q E s := by
  simp only [newFunctionEnv, Option.isSome_some, if_true]
  refine wpAny_bind (wpAny_alloc ?_)
  refine wpAny_bind (wpAny_layCells _ (fun n k c => rfl) scope.names closure _ _ ?_)
  rw [show ({ s with heap := s.heap.push { cls := .type "dict", data := .dict #[] } } : Shared).heap.objs.size = s.heap.objs.size + 1 from Heap.size_push ..]
  rw [List.forIn_nil]
  exact wpAny_bind (wpAny_pure (wpAny_pure h))

/-- every name of the written scope, in the scope that runs -/
theorem lookup_relS {sc : Scope} : ∀ {names : List (Str × NameKind)} {x : Str} {k : NameKind},
    (names.map fun (n, k) => if (k == NameKind.free && sc.kind == .function && sc.names.lookup n == some .cell) then (n, NameKind.cell) else (n, k)).lookup x = some k →
    ∃ k', names.lookup x = some k' ∧ (k = k' ∨ (k' = .free ∧ k = .cell))
  | [], _, _, h => by simp at h
  | (n, k₀) :: r, x, k, h => by
    have ih := @lookup_relS sc r x k
    have h' : List.lookup x ((if (k₀ == NameKind.free && sc.kind == .function && sc.names.lookup n == some .cell) = true then (n, NameKind.cell) else (n, k₀)) :: (r.map _)) = some k := h
    cases hx : x == n with
    | true =>
      simp only [List.lookup_cons, hx]
      by_cases hc : (k₀ == NameKind.free && sc.kind == .function && sc.names.lookup n == some .cell) = true
      · rw [if_pos hc] at h'
        simp only [List.lookup_cons, hx] at h'
        cases h'
        simp only [Bool.and_eq_true, beq_iff_eq] at hc
        exact ⟨k₀, rfl, .inr ⟨hc.1.1, rfl⟩⟩
      · rw [if_neg hc] at h'
        simp only [List.lookup_cons, hx] at h'
        cases h'
        exact ⟨_, rfl, .inl rfl⟩
    | false =>
      simp only [List.lookup_cons, hx]
      by_cases hc : (k₀ == NameKind.free && sc.kind == .function && sc.names.lookup n == some .cell) = true
      · rw [if_pos hc] at h'
        simp only [List.lookup_cons, hx] at h'
        exact ih h'
      · rw [if_neg hc] at h'
        simp only [List.lookup_cons, hx] at h'
        exact ih h'



/-- the names of a comprehension's block: its own (with their places in N), or captured -/
structure BlkOk (N : List Str) (sc scope : Scope) (own : List (Str × Nat)) : Prop where
  kind : scope.kind = .function
  uniq : ∀ y ∈ scope.names, scope.names.lookup y.1 = some y.2
  ix : ∀ p ∈ own, N[p.2]? = some p.1
  free : ∀ y ∈ scope.names, y.2 = .free → sc.names.lookup y.1 = some .cell ∨ sc.names.lookup y.1 = some .free
  own : ∀ y ∈ scope.names, y.2 = .local ∨ y.2 = .cell → y.1 ∈ own.map (·.1) ∨ y.1 ∉ N
/-- the slots of the block's own names forgotten -/
def wipe (σ : St) : List Nat → St
  | [] => σ
  | v :: vs => (wipe σ vs).set v none
theorem wipe_length (σ : St) : ∀ vs : List Nat, (wipe σ vs).length = σ.length
  | [] => rfl
  | v :: vs => by unfold wipe; rw [List.length_set, wipe_length σ vs]
theorem wipe_some {σ : St} {i : Nat} {x : V} : ∀ {vs : List Nat}, (wipe σ vs)[i]? = some (some x) → σ[i]? = some (some x) ∧ i ∉ vs
  | [], h => ⟨h, by simp⟩
  | v :: vs, h => by
    unfold wipe at h
    by_cases hi : v = i
    · subst hi
      by_cases hv : v < (wipe σ vs).length
      · rw [List.getElem?_set_self hv] at h; cases h
      · rw [List.getElem?_eq_none (by simpa using hv)] at h; cases h
    · rw [List.getElem?_set_ne hi] at h
      obtain ⟨h1, h2⟩ := wipe_some h
      exact ⟨h1, by simp only [List.mem_cons, not_or]; exact ⟨fun e => hi e.symm, h2⟩⟩

/-- the context of a block that starts at s, its iterator's objects at fp -/
abbrev Cx.blk (X : Cx) (s : Shared) (H : Hp) (scope : Scope) (cenv : Env) (fp : List Addr) : Cx := { X with s_0 := s, H_0 := H, env := cenv, outer := X.stack, ex := fp, fn := fun x => scope.names.lookup x == some .cell, pn := [], xe := fun _ _ => False }
section
variable {X : Cx} {pins : List (Addr × Obj)} {σ : St} {H : Hp} {s : Shared}
theorem block_start {scope : Scope} {own : List (Str × Nat)} {fp : List Addr} (I : Inv X pins σ H s) (ok : BlkOk X.N X.env.scope scope own) (hN : X.N.Nodup) (hfp : ∀ b ∈ fp, FpOk X pins H b ∧ b < s.heap.objs.size) :
    Inv (X.blk s H scope (compEnvC scope (cellsFrom (s.heap.objs.size + 1) scope.names (cloFrom X.env.cells scope.names [])) s.heap.objs.size X.env) fp) [] (wipe σ (own.map (·.2))) H { s with heap := pushCells (s.heap.push { cls := .type "dict", data := .dict #[] }) scope.names } := by
  have hfree : ∀ y ∈ scope.names, y.2 = .free → ∃ c, X.env.cells.lookup y.1 = some c := fun y hy e => by
    rcases ok.free y hy e with k | k
    · exact I.ok.has _ (.inl k)
    · exact I.ok.has _ (.inr k)
  generalize hcenv : compEnvC scope (cellsFrom (s.heap.objs.size + 1) scope.names (cloFrom X.env.cells scope.names [])) s.heap.objs.size X.env = cenv
  have kp : ∀ b o, s.heap.get? b = some o → (pushCells (s.heap.push { cls := .type "dict", data := .dict #[] }) scope.names).get? b = some o := fun b o e => pushCells_keeps _ _ _ _ (Heap.get?_push_of_some _ e)
  have hL : cenv.locals = s.heap.objs.size := by rw [← hcenv]; rfl
  have hcl : cenv.cells = cellsFrom (s.heap.objs.size + 1) scope.names (cloFrom X.env.cells scope.names []) := by rw [← hcenv]; rfl
  have hsc : cenv.scope = relS scope X.env.scope := by rw [← hcenv]; rfl
  rw [← Heap.size_push s.heap { cls := .type "dict", data := .dict #[] }] at hcl
  have cm : ∀ {y c}, (y, c) ∈ cloFrom X.env.cells scope.names [] → X.env.cells.lookup y = some c ∧ c < s.heap.objs.size := fun {y c} hm => by
    rcases cloFrom_mem hm with hm | ⟨h1, rfl⟩
    · cases hm
    · obtain ⟨c, hc⟩ := hfree _ h1 rfl
      rw [hc]
      obtain ⟨w, z⟩ := I.cell _ _ hc
      exact ⟨rfl, z.lt⟩
  have mem : ∀ {y c}, cenv.cells.lookup y = some c → (X.env.cells.lookup y = some c ∧ c < s.heap.objs.size) ∨ (s.heap.objs.size + 1 ≤ c ∧ CellAt (pushCells (s.heap.push { cls := .type "dict", data := .dict #[] }) scope.names) c none) := fun {y c} e => by
    rw [hcl] at e
    rcases cells_mem (PySem.mem_of_lookup e) with hm | ⟨_, h2, h3⟩
    · exact .inl (cm hm)
    · rw [Heap.size_push] at h2; exact .inr ⟨h2, h3⟩
  have look : ∀ {y}, scope.names.lookup y = some .free → ∃ c, cenv.cells.lookup y = some c ∧ X.env.cells.lookup y = some c := fun {y} hl => by
    have hy : (y, NameKind.free) ∈ scope.names := PySem.mem_of_lookup hl
    obtain ⟨c', e'⟩ := mem_lookup (cells_acc (names := scope.names) (n := (s.heap.push { cls := .type "dict", data := .dict #[] }).objs.size) (cloFrom_has (cells := X.env.cells) (acc := []) hy))
    rw [← hcl] at e'
    refine ⟨c', e', ?_⟩
    rw [hcl] at e'
    rcases cells_mem (PySem.mem_of_lookup e') with hm | ⟨h1, _, _⟩
    · exact (cm hm).1
    · have := ok.uniq _ h1
      rw [hl] at this; cases this
  have okB : (X.blk s H scope cenv fp).Ok := by
    refine ⟨I.ok.mod, by show cenv.scope.kind = _; rw [hsc]; exact ok.kind, by show cenv.globals = _; rw [← hcenv]; exact I.ok.glob, by show cenv.builtins = _; rw [← hcenv]; exact I.ok.blt, by show s.heap.objs.size ≤ cenv.locals; rw [hL]; exact Nat.le_refl _,
      fun y z c e1 e2 => ?_, fun y hy => ?_, fun y c z e => ?_, I.ok.hd, I.ok.frames, .inl rfl, fun b hb => ⟨?_, fun y c e z => ?_⟩, I.bs, Nat.le_trans I.ok.bsz I.sz, fun b o e hb => ?_, fun b hb z => ?_, I.stack, I.stkFree⟩
    · have e1 : cenv.cells.lookup y = some c := e1
      have e2 : cenv.cells.lookup z = some c := e2
      rw [hcl] at e1 e2
      refine cells_inj (fun p hp => ?_) (fun y z c a b => I.ok.inj y z c (cm a).1 (cm b).1) (PySem.mem_of_lookup e1) (PySem.mem_of_lookup e2)
      rw [Heap.size_push]
      exact Nat.lt_succ_of_lt (cm (y := p.1) (c := p.2) hp).2
    · show ∃ c, cenv.cells.lookup y = some c
      have key : ∀ k, cenv.kindOf y = some k → (k = .cell ∨ k = .free) → ∃ c, cenv.cells.lookup y = some c := fun k hk hk' => by
        unfold Env.kindOf at hk
        rw [hsc] at hk
        obtain ⟨k', e, r⟩ := lookup_relS hk
        have : k' = .cell ∨ k' = .free := by
          rcases r with rfl | ⟨rfl, _⟩
          · exact hk'
          · exact .inr rfl
        rcases this with rfl | rfl
        · obtain ⟨c, hm⟩ := cells_has (n := (s.heap.push { cls := .type "dict", data := .dict #[] }).objs.size) (acc := cloFrom X.env.cells scope.names []) (PySem.mem_of_lookup e)
          obtain ⟨c', e'⟩ := mem_lookup hm
          exact ⟨c', by rw [hcl]; exact e'⟩
        · obtain ⟨c, h1, _⟩ := look e
          exact ⟨c, h1⟩
      rcases hy with hy | hy
      · exact key _ hy (.inl rfl)
      · exact key _ hy (.inr rfl)
    · have z : (scope.names.lookup y == some NameKind.cell) = true := z
      have z : scope.names.lookup y = some .cell := by simpa using z
      have e : cenv.cells.lookup y = some c := e
      rw [hcl] at e
      rcases cells_mem (PySem.mem_of_lookup e) with hm | ⟨_, h2, _⟩
      · rcases cloFrom_mem hm with hm | ⟨h1, _⟩
        · cases hm
        · have q := ok.uniq _ h1
          rw [z] at q; cases q
      · rw [Heap.size_push] at h2
        exact Nat.le_of_succ_le h2
    · show b ≠ cenv.locals
      rw [hL]; exact Nat.ne_of_lt (hfp b hb).2
    · have e : cenv.cells.lookup y = some c := e
      rcases mem e with ⟨h1, _⟩ | ⟨h1, _⟩
      · exact (hfp b hb).1.2.2.2.2.1 y c h1 z
      · have h2 : s.heap.objs.size + 1 ≤ b := by rw [← z]; exact h1
        exact absurd (Nat.lt_of_lt_of_le (hfp b hb).2 (Nat.le_of_succ_le h2)) (Nat.lt_irrefl _)
    · rcases (hfp b hb).1.2.2.2.1 with z | z
      · exact I.ok.noex b o e z
      · exact absurd (Nat.lt_of_lt_of_le (Heap.lt_size e) (Nat.le_trans I.ok.bsz z)) (Nat.lt_irrefl _)
    · rcases List.mem_cons.mp (I.stkSub b z) with z | z
      · exact (hfp b hb).1.2.1 z
      · exact (hfp b hb).1.2.2.1 z
  refine ⟨okB, rfl, I.bare, Un.kept kp, ⟨fun _ => none, ?_, fun i y av e1 e2 e3 => ?_⟩, fun y c e => ?_, ?_, fun y c e => ?_, fun p hp => ?_, I.hok.kept kp, by rw [wipe_length]; exact I.len⟩
  · show Heap.Ns _ cenv.locals _
    rw [hL]
    exact Heap.Ns.keeps (Heap.Ns.new ..) fun b o e => pushCells_keeps _ _ _ _ e
  · obtain ⟨e2, hne⟩ := wipe_some e2
    have hfr : scope.names.lookup y = some .free ∧ (cenv.kindOf y = some .cell ∨ cenv.kindOf y = some .free) := by
      have key : ∀ k, cenv.scope.names.lookup y = some k → k = .local ∨ k = .cell ∨ k = .free → scope.names.lookup y = some .free ∧ (cenv.kindOf y = some .cell ∨ cenv.kindOf y = some .free) := fun k hk hk' => by
        have hk0 := hk
        rw [hsc] at hk
        obtain ⟨k', e, r⟩ := lookup_relS hk
        have no : ¬ (k' = .local ∨ k' = .cell) := fun hh => by
          rcases ok.own _ (PySem.mem_of_lookup e) hh with e' | e'
          · obtain ⟨p, hp, hpy⟩ := List.mem_map.mp e'
            have e3 := ok.ix p hp
            have : p.1 = y := hpy
            rw [this] at e3
            exact hne (List.mem_map.mpr ⟨p, hp, nodup_ix hN e3 e1⟩)
          · exact e' (List.mem_of_getElem? e1)
        rcases r with rfl | ⟨rfl, rfl⟩
        · rcases hk' with rfl | rfl | rfl
          · exact absurd (.inl rfl) no
          · exact absurd (.inr rfl) no
          · exact ⟨e, .inr hk0⟩
        · exact ⟨e, .inl hk0⟩
      have e3 : Vis cenv.scope y := e3
      rcases e3 with e3 | e3 | e3
      · exact key _ e3 (.inl rfl)
      · exact key _ e3 (.inr (.inl rfl))
      · exact key _ e3 (.inr (.inr rfl))
    obtain ⟨m, hn, hl⟩ := I.loc
    have hvis : Vis X.env.scope y := (ok.free _ (PySem.mem_of_lookup hfr.1) rfl).elim (fun k => .inr (.inl k)) (fun k => .inr (.inr k))
    obtain ⟨w, r, q⟩ := hl i y av e1 e2 hvis
    refine ⟨w, r, .inr ⟨hfr.2, ?_⟩⟩
    obtain ⟨c, h1, h2⟩ := look hfr.1
    rcases q with ⟨k, _⟩ | ⟨_, c', e', z⟩
    · have k : X.env.scope.names.lookup y = some .local := k
      rcases ok.free _ (PySem.mem_of_lookup hfr.1) rfl with k' | k' <;> rw [show X.env.scope.names.lookup y = _ from k'] at k <;> cases k
    · rw [h2] at e'; cases e'
      exact ⟨c, h1, z.keeps kp⟩
  · have e : cenv.cells.lookup y = some c := e
    rcases mem e with ⟨h1, _⟩ | ⟨_, z⟩
    · obtain ⟨w, z⟩ := I.cell y c h1
      exact ⟨w, z.keeps kp⟩
    · exact ⟨_, z⟩
  · show H cenv.locals = none
    rw [hL]; exact I.hok.fresh (Nat.le_refl _)
  · have e : cenv.cells.lookup y = some c := e
    rcases mem e with ⟨h1, _⟩ | ⟨h1, _⟩
    · exact I.freeC y c h1
    · exact I.hok.fresh (Nat.le_of_succ_le h1)
  · exact absurd (show p ∈ ([] : List (Addr × Obj)) ++ [] from hp) (by simp)

/-- an item appended to a tracked list -/
theorem app_ok {E : Value → Shared → Prop} {D : Addr} {xs : List V} {y : V} {v : Value} {Q : Value → Shared → Prop} (I : Inv X pins σ H s) (hD : H D = some (.lst xs)) (hz : xs.length < sizeLine) (r : RelV y v)
    (h : ∀ s', Inv X pins σ (upd H D (.lst (xs ++ [y]))) s' → Q .none s') : wpAny (model X.prog X.w) X.A (call (.builtin "list.append") [.ref D, v]) Q E s := by
  obtain ⟨hz', its, n, ri, e⟩ := I.hok D _ hD
  have hl := ri.length
  refine append_at (hsz := by rw [List.size_toArray]; omega) e fun h' sb ho' => ?_
  refine h { s with heap := h' } (I.write (t' := s.toks) (by rw [hD]; trivial) (.inl rfl) (fun b u hb q => (sb.2 b hb).trans q) ⟨_, ho'⟩ ⟨by rw [List.length_append]; exact hz, its ++ [v], n + 1, ri.append (.cons r .nil), ?_⟩)
  rw [ho']
  simp

/-- a clause's tests -/
def PTs (X : Cx) (ifs : List Expr) (t : TT) : Prop :=
  ∀ (pins : List (Addr × Obj)) (s : Shared) (σ : St) (H : Hp) (Q : Bool → Hp → Prop), Inv X pins σ H s → t σ H Q →
    wpAny (model X.prog X.w) X.A (forIn ifs true fun c r => if r = true then do let ok ← isTrue c X.env (eval c X.env); pure (ForInStep.yield ok) else pure (ForInStep.yield r)) (TP X pins σ Q) X.xe s
def tYes : TT := fun _ H Q => Q true H
theorem pts_nil : PTs X [] tYes := fun _ _ _ H _ I h => wpAny_tests_nil ⟨H, I, h⟩
end

theorem thnF {α : Type} {t : Sem α} {Q Q' : α → Shared → Prop} {M : Model} {A : Around} {E : Value → Shared → Prop} {s : Shared} (h : wpAny M A t Q (fun _ _ => False) s) (hQ : ∀ a s, Q a s → Q' a s) : wpAny M A t Q' E s := wpAny_mono h hQ fun _ _ z => False.elim z

/-- the loop of a list comprehension's block, the target of any form (codeAny_compLoop_tests asks a target that no tuple goes to; statement and proof follow it, PyProof/CompMap.lean:41-61, with the step letOwnedTupleGo kept) -/
theorem compLoop_any {prog : Program} {w : World} {A : Around} {R : Result → Shared → Prop} {s : Shared} {elt target iter : Expr} {ifs : List Expr} {scope : Scope} {pos : Pos} {it acc : Value} {env : Env} (I : Nat → Shared → Prop)
    (turn : ∀ n s, I n s → wpAny (model prog w) A (pyNext it) (fun r s₁ => match r with
      | none => R (.ok .next) s₁
      | some v => wpAny (model prog w) A (letOwnedTupleGo target it v) (fun _ s₁' => wpAny (model prog w) A (assign target env v) (fun _ s₂ =>
          wpAny (model prog w) A (forIn ifs true fun c r => if r = true then do let ok ← isTrue c env (eval c env); pure (ForInStep.yield ok) else pure (ForInStep.yield r)) (fun ok s₃ =>
            if ok = true then wpAny (model prog w) A (eval elt env) (fun x s₄ =>
              wpAny (model prog w) A (call (.builtin "list.append") [acc, x]) (fun _ s₅ => ∃ m, m < n ∧ I m s₅) (notedBy (model prog w) A env fun e s' => R (.error e) s') s₄) (notedBy (model prog w) A env fun e s' => R (.error e) s') s₃
            else ∃ m, m < n ∧ I m s₃) (notedBy (model prog w) A env fun e s' => R (.error e) s') s₂) (notedBy (model prog w) A env fun e s' => R (.error e) s') s₁') (notedBy (model prog w) A env fun e s' => R (.error e) s') s₁) (notedBy (model prog w) A env fun e s' => R (.error e) s') s)
    (n : Nat) (h : I n s) :
    codeAny (model prog w) A (.compLoop (.ListComp elt [⟨target, iter, ifs, 0⟩] scope pos) 0 it acc env) R s := by
  refine codeAny_loop rfl I (fun n s hI => ?_) n h
  show wpAny _ A ((compTurn (.ListComp elt [⟨target, iter, ifs, 0⟩] scope pos) 0 it acc env).onRaise (fun x => do noteFrame x env; theTreesLotGoes x)) _ _ s
  refine wpAny_noted ?_
  rw [compTurn_list]
  refine wpAny_bind (wpAny_standAt (wpAny_bind (wpAny_mono (turn n s hI) (fun r s₁ h₁ => ?_) fun _ _ h' => h')))
  cases r with
  | none => exact wpAny_pure h₁
  | some v =>
    refine wpAny_bind (wpAny_mono h₁ (fun _ s₁' h₁' => ?_) fun _ _ h' => h')
    refine wpAny_bind (wpAny_mono h₁' (fun _ s₂ h₂ => wpAny_bind (wpAny_mono h₂ (fun ok s₃ h₃ => ?_) fun _ _ h' => h')) fun _ _ h' => h')
    cases ok with
    | false => exact wpAny_pure ⟨rfl, h₃⟩
    | true =>
      exact wpAny_bind (wpAny_bind (wpAny_mono h₃ (fun x s₄ h₄ => wpAny_bind (wpAny_mono h₄ (fun _ s₅ h₅ => wpAny_pure (wpAny_pure ⟨rfl, h₅⟩)) fun _ _ h' => h')) fun _ _ h' => h'))

section
variable {X : Cx}
/-- [elt for target in iter if ..]: D the new list; W by the turn and a measure, Nx what a turn is to reach -/
abbrev tLc (wi : TI) (g : TG) (tt : TT) (te : TE) (vs : List Nat) : TE := fun σ H Q => wi σ H fun J H1 => ∀ D, H1 D = none → ∃ W : Nat → Nat → Hp → Prop, (∃ m, W 0 m (upd H1 D (.lst []))) ∧ ∀ i m H, W i m H →
  (J.stop i H ∧ Q (.ref D) H) ∨ (J.go i H ∧ ∃ Nx : Hp → Prop, (∀ H', Nx H' → ∃ m', m' < m ∧ W (i + 1) m' H') ∧ ∀ x H', J.yld i H x H' → g x (wipe σ vs) H' fun σ2 H2 => wipe σ2 vs = wipe σ vs ∧ tt σ2 H2 fun b H3 =>
    if b = true then te σ2 H3 fun y H4 => ∃ acc, H4 D = some (.lst acc) ∧ acc.length < sizeLine ∧ Nx (upd H4 D (.lst (acc ++ [y]))) else Nx H3)
theorem lc_core {pins : List (Addr × Obj)} {s : Shared} {σ : St} {H : Hp} {Q : VK} {elt tg iter : Expr} {ifs : List Expr} {scope : Scope} {own : List (Str × Nat)} {pos pos' : Pos} {wi : TI} {g : TG} {tt : TT} {te : TE} {use : Option (Value → Sem Unit)} {Qf : Value → Shared → Prop}
    (hc : X.calm = true) (hN : X.N.Nodup) (I : Inv X pins σ H s) (hi : PI X tg iter wi) (ok : BlkOk X.N X.env.scope scope own)
    (hg : ∀ (s : Shared) (H : Hp) (C : Addr) (cl : List (Str × Addr)) (fp : List Addr), PG (X.blk s H scope (compEnvC scope cl C X.env) fp) tg g) (ht : ∀ (s : Shared) (H : Hp) (C : Addr) (cl : List (Str × Addr)) (fp : List Addr), PTs (X.blk s H scope (compEnvC scope cl C X.env) fp) ifs tt)
    (he : ∀ (s : Shared) (H : Hp) (C : Addr) (cl : List (Str × Addr)) (fp : List Addr), PE (X.blk s H scope (compEnvC scope cl C X.env) fp) elt te) (hs : ∀ x, foldedSetIterable iter X.env x = pure x)
    (h : tLc wi g tt te (own.map (·.2)) σ H Q)
    (hRR : ∀ D C s' m H', Inv X pins σ H' s' → Q (.ref D) H' → s'.heap.Ns C m → FpOk X pins H' C → compPost (model X.prog X.w) X.A X.xe use Qf (.ref D) C (.ok .next) s') :
    wpAny (model X.prog X.w) X.A (comprehension (.ListComp elt [⟨tg, iter, ifs, 0⟩] scope pos) scope X.env pos' (newList []) false (eval iter X.env) use) Qf X.xe s := by
  have hfree : ∀ y ∈ scope.names, y.2 = .free → ∃ c, X.env.cells.lookup y.1 = some c := fun y hy e => by
    rcases ok.free y hy e with k | k
    · exact I.ok.has _ (.inl k)
    · exact I.ok.has _ (.inr k)
  refine wpAny_comprehension_free (use := use) rfl hs (closure_ok hfree) ok.kind (fun y hy e => by rw [ok.uniq y hy, e])
    (thn (hi pins s σ H _ I h) fun xv s1 hx => thn hx fun itv s2 h2 => ?_)
  obtain ⟨it, fp, tn, J, H2, e, I2, T, st2, f2, q⟩ := h2
  subst e
  refine wpAny_newObj_type (newEnv_comp ?_) (by show 0 ≤ sizeLine; decide)
  generalize hD : s2.heap.objs.size = D
  have hDn : H2 D = none := I2.hok.fresh (Nat.le_of_eq hD)
  obtain ⟨W, ⟨m0, w0⟩, turn⟩ := q D hDn
  -- the new list
  generalize hs3 : ({ s2 with heap := s2.heap.push { cls := .type "list", data := .seq ([] : List Value).toArray } } : Shared) = s3
  have I3 : Inv X pins σ (upd H2 D (.lst [])) s3 := by
    rw [← hs3]
    refine I2.laid (t' := s2.toks) (fun b o e => Heap.get?_push_of_some _ e) (Nat.le_of_eq hD) ⟨Nat.zero_le _, [], 0, .nil, ?_⟩
    rw [← hD]
    exact Heap.get?_push_size _ rfl
  have h3 : s3.heap = s2.heap.push { cls := .type "list", data := .seq ([] : List Value).toArray } := by rw [← hs3]
  have sz : ∀ b ∈ fp, b < s2.heap.objs.size := fun b hb => by
    obtain ⟨o, e, _⟩ := T.obj _ _ st2 b hb
    exact Heap.lt_size e
  have f3 : ∀ b ∈ fp, FpOk X pins (upd H2 D (.lst [])) b ∧ b < s3.heap.objs.size := fun b hb => by
    have hlt := sz b hb
    refine ⟨⟨?_, (f2 b hb).2⟩, by rw [h3, Heap.size_push]; exact Nat.lt_succ_of_lt hlt⟩
    rw [upd_ne (by rw [← hD]; exact Nat.ne_of_lt hlt)]
    exact (f2 b hb).1
  have st3 : tn 0 s3.heap := T.keep _ _ _ st2 fun b _ o e => by rw [h3]; exact Heap.get?_push_of_some _ e
  have I4 := block_start I3 ok hN f3
  have pg := hg s3 (upd H2 D (.lst [])) s3.heap.objs.size (cellsFrom (s3.heap.objs.size + 1) scope.names (cloFrom X.env.cells scope.names [])) fp
  have pt := ht s3 (upd H2 D (.lst [])) s3.heap.objs.size (cellsFrom (s3.heap.objs.size + 1) scope.names (cloFrom X.env.cells scope.names [])) fp
  have pe := he s3 (upd H2 D (.lst [])) s3.heap.objs.size (cellsFrom (s3.heap.objs.size + 1) scope.names (cloFrom X.env.cells scope.names [])) fp
  show codeAny _ _ (.compStart (.ListComp elt [⟨tg, iter, ifs, 0⟩] scope pos) 0 (.ref it) (.ref D) (compEnvC scope (cellsFrom (s3.heap.objs.size + 1) scope.names (cloFrom X.env.cells scope.names [])) s3.heap.objs.size X.env)) (compPost (model X.prog X.w) X.A X.xe use Qf (.ref D) s3.heap.objs.size) { s3 with heap := pushCells (s3.heap.push { cls := .type "dict", data := .dict #[] }) scope.names }
  have nfp : ∀ b ∈ fp, (upd H2 D (.lst [])) b = none := fun b hb => (f3 b hb).1.1
  generalize hce : compEnvC scope (cellsFrom (s3.heap.objs.size + 1) scope.names (cloFrom X.env.cells scope.names [])) s3.heap.objs.size X.env = ce at I4 pg pt pe ⊢
  have cL : ce.locals = s3.heap.objs.size := by subst hce; rfl
  generalize hH3 : upd H2 D (.lst []) = H3 at I3 I4 pg pt pe w0 nfp f3
  generalize hs4 : ({ s3 with heap := pushCells (s3.heap.push { cls := .type "dict", data := .dict #[] }) scope.names } : Shared) = s4 at I4 ⊢
  have st4 : tn 0 s4.heap := T.keep _ _ _ st3 fun b _ o e => by rw [← hs4]; exact pushCells_keeps _ _ _ _ (Heap.get?_push_of_some _ e)
  have stat : ∀ {σ' : St} {H' : Hp} {s' : Shared}, Inv (X.blk s3 H3 scope ce fp) [] σ' H' s' → (∀ b ∈ fp, H' b = none) → ∀ b ∈ fp, FpOk (X.blk s3 H3 scope ce fp) [] H' b := fun {σ' H' s'} I' hn b hb =>
    ⟨hn b hb, (I'.ok.exf b hb).1, I'.ok.exfs b hb, .inl hb, fun x c e => (I'.ok.exf b hb).2 x c e, fun p hp => absurd (show p ∈ ([] : List (Addr × Obj)) ++ [] from hp) (by simp)⟩
  have loop : codeAny (model X.prog X.w) X.A (.compLoop (.ListComp elt [⟨tg, iter, ifs, 0⟩] scope pos) 0 (.ref it) (.ref D) ce) (compPost (model X.prog X.w) X.A X.xe use Qf (.ref D) s3.heap.objs.size) s4 := by
    refine compLoop_any (fun n s' => ∃ i H', Inv (X.blk s3 H3 scope ce fp) [] (wipe σ (own.map (·.2))) H' s' ∧ tn i s'.heap ∧ (∀ b ∈ fp, H' b = none) ∧ W i n H') ?_ m0 ⟨0, H3, I4, st4, nfp, w0⟩
    rintro n s5 ⟨i, H5, I5, st5, n5, w5⟩
    rcases turn i n H5 w5 with ⟨stop, qq⟩ | ⟨go, Nx, hNx, step⟩
    · have td := T.done (X.blk s3 H3 scope ce fp) rfl rfl rfl hc i [] s5 _ H5 (fun _ _ => False) I5 (stat I5 n5) st5 stop
      refine thnF td fun r s6 ⟨hr, I6⟩ => ?_
      subst hr
      -- back in the def's context
      have I7 : Inv X pins σ H5 s6 := I3.call' (ch := fp) I6.os I6.base I6.hok I6.bare fun b hb => ⟨(f3 b hb).1.2.2.2.1, (f3 b hb).1.2.1, (f3 b hb).1.2.2.2.2.1, (f3 b hb).1.2.2.2.2.2⟩
      have nC : H5 s3.heap.objs.size = none := by
        have z : H5 ce.locals = none := I6.free
        rw [cL] at z
        exact z
      obtain ⟨m, hn, _⟩ := I6.loc
      have hn : s6.heap.Ns ce.locals m := hn
      rw [cL] at hn
      exact hRR D s3.heap.objs.size s6 m H5 I7 qq hn (I3.fpOk (Nat.le_refl _) nC)
    · have ti := T.item (X.blk s3 H3 scope ce fp) rfl rfl rfl hc i [] s5 _ H5 (fun _ _ => False) I5 (stat I5 n5) st5 go
      refine thnF ti fun r s6 ⟨u, hr, h6⟩ => ?_
      subst hr
      refine thnF h6 fun _ s7 ⟨x, H7, I7, r7, y7, st7, n7⟩ => ?_
      have I7' := I7.pinned (stat I7 n7) (T.obj _ _ st7)
      refine thnF (pg _ s7 _ H7 x u _ I7' r7 (step x H7 y7)) fun _ s8 ⟨σ8, H8, I8, hw8, q8⟩ => ?_
      refine thnF (pt _ s8 σ8 H8 _ I8 q8) fun b s9 ⟨H9, I9, q9⟩ => ?_
      -- the turn's end
      have fin : ∀ {s' : Shared} {H' : Hp}, Inv (X.blk s3 H3 scope ce fp) ([] ++ pinsAt fp s7.heap) σ8 H' s' → Nx H' → ∃ m, m < n ∧ ∃ i H', Inv (X.blk s3 H3 scope ce fp) [] (wipe σ (own.map (·.2))) H' s' ∧ tn i s'.heap ∧ (∀ b ∈ fp, H' b = none) ∧ W i m H' := fun {s' H'} I' nx => by
        obtain ⟨m', hm, w'⟩ := hNx H' nx
        have pin' : ∀ b ∈ fp, ∀ o, s7.heap.get? b = some o → s'.heap.get? b = some o ∧ H' b = none := fun b hb o e =>
          let z := I'.pin (b, o) (List.mem_append_right _ (List.mem_append_right _ (mem_pinsAt hb e)))
          ⟨z.1, z.2.1⟩
        have hl : (wipe σ (own.map (·.2))).length = σ8.length := by rw [← hw8, wipe_length]
        refine ⟨m', hm, i + 1, H', (I'.unpinned (pins := [])).weak hl (fun j v e => ?_), T.keep _ _ _ st7 fun b hb o e => (pin' b hb o e).1, fun b hb => ?_, w'⟩
        · rw [← hw8] at e
          exact (wipe_some e).1
        · obtain ⟨o, e, _⟩ := T.obj _ _ st7 b hb
          exact (pin' b hb o e).2
      cases b with
      | false =>
        simp only [Bool.false_eq_true, if_false] at q9 ⊢
        exact fin I9 q9
      | true =>
        simp only [if_true] at q9 ⊢
        refine thnF (pe _ s9 σ8 H9 _ I9 q9) fun z s10 ⟨yv, H10, I10, r10, acc, hD10, hz10, nx⟩ => ?_
        exact app_ok (X := X.blk s3 H3 scope ce fp) I10 hD10 hz10 r10 fun s11 I11 => fin I11 nx
  exact codeAny_compStart_list loop (T.self X.A 0 _ _ _ st4 loop)
/-- as a value -/
theorem pe_lc {elt tg iter : Expr} {ifs : List Expr} {scope : Scope} {own : List (Str × Nat)} {pos : Pos} {wi : TI} {g : TG} {tt : TT} {te : TE} (hc : X.calm = true) (hN : X.N.Nodup) (hi : PI X tg iter wi) (ok : BlkOk X.N X.env.scope scope own)
    (hg : ∀ (s : Shared) (H : Hp) (C : Addr) (cl : List (Str × Addr)) (fp : List Addr), PG (X.blk s H scope (compEnvC scope cl C X.env) fp) tg g) (ht : ∀ (s : Shared) (H : Hp) (C : Addr) (cl : List (Str × Addr)) (fp : List Addr), PTs (X.blk s H scope (compEnvC scope cl C X.env) fp) ifs tt)
    (he : ∀ (s : Shared) (H : Hp) (C : Addr) (cl : List (Str × Addr)) (fp : List Addr), PE (X.blk s H scope (compEnvC scope cl C X.env) fp) elt te) (hs : ∀ x, foldedSetIterable iter X.env x = pure x := by intro _; rfl) :
    PE X (.ListComp elt [⟨tg, iter, ifs, 0⟩] scope pos) (tLc wi g tt te (own.map (·.2))) := by
  intro pins s σ H Q I h
  rw [eval_ListComp]
  refine lc_core hc hN I hi ok hg ht he hs h fun D C s' m H' I' q hn f => ⟨m, hn, fun h'' sb => ?_⟩
  obtain ⟨f0, f1, f2, f3, f4, f5⟩ := f
  exact ⟨.ref D, H', I'.turned (t' := s'.toks) (fun b o hb e => (sb.2 b hb).trans e) f0 f1 f3 f4 f5, rfl, q⟩
/-- name = [..] on one line, the name a local -/
theorem ps_setLc {i : Nat} {y : Str} {py : Pos} {elt tg iter : Expr} {ifs : List Expr} {scope : Scope} {own : List (Str × Nat)} {pos spos : Pos} {wi : TI} {g : TG} {tt : TT} {te : TE} (hc : X.calm = true) (hN : X.N.Nodup) (hy : X.N[i]? = some y) (hyl : X.env.scope.names.lookup y = some .local)
    (hsw : swapsWith (.ListComp elt [⟨tg, iter, ifs, 0⟩] scope pos) (some (.Name y py)) spos.line X.env = pure true) (hi : PI X tg iter wi) (ok : BlkOk X.N X.env.scope scope own)
    (hg : ∀ (s : Shared) (H : Hp) (C : Addr) (cl : List (Str × Addr)) (fp : List Addr), PG (X.blk s H scope (compEnvC scope cl C X.env) fp) tg g) (ht : ∀ (s : Shared) (H : Hp) (C : Addr) (cl : List (Str × Addr)) (fp : List Addr), PTs (X.blk s H scope (compEnvC scope cl C X.env) fp) ifs tt)
    (he : ∀ (s : Shared) (H : Hp) (C : Addr) (cl : List (Str × Addr)) (fp : List Addr), PE (X.blk s H scope (compEnvC scope cl C X.env) fp) elt te) (hs : ∀ x, foldedSetIterable iter X.env x = pure x := by intro _; rfl) :
    PS X (.Assign [.Name y py] (.ListComp elt [⟨tg, iter, ifs, 0⟩] scope pos) spos) (tAsg (tLc wi g tt te (own.map (·.2))) (gName i)) := by
  intro pins s σ H D I h
  rw [exec_Assign_Name_used _ _ _ _ hsw]
  refine wpAny_bind (wpAny_standAt (wpAny_bind ?_))
  show wpAny _ X.A (do let _ ← comprehension (.ListComp elt [⟨tg, iter, ifs, 0⟩] scope pos) scope X.env (firstIterPos [⟨tg, iter, ifs, 0⟩] pos) (newList []) false (eval iter X.env) (some (assign (.Name y py) X.env))) _ _ s
  have h : tLc wi g tt te (own.map (·.2)) σ H (fun x H1 => gName i x σ H1 D.nx) := h
  refine wpAny_bind (thn (lc_core (Qf := fun _ s' => SP X pins D .next s') hc hN I hi ok hg ht he hs h fun L C s' m H' I' q hn f => ?_) fun _ s' hq => wpAny_pure (wpAny_pure hq))
  show wpAny _ _ (assign (.Name y py) X.env (.ref L)) _ _ _
  refine wpAny_assign_Name (store_ok2 (v := V.ref L) I' hN hy (.inl hyl) rfl (fun s2 I2 ⟨a, sb, ha⟩ => ?_) (.inr hyl))
  obtain ⟨f0, f1, f2, f3, f4, f5⟩ := f
  have haC : C ≠ a := by
    rcases ha with z | z
    · rw [z]; exact f1
    · exact fun e => f4 y a z e.symm
  refine ⟨m, hn.sameBut sb haC, fun h3 sb3 => ?_⟩
  exact ⟨_, H', I2.turned (t' := s2.toks) (fun b o hb e => (sb3.2 b hb).trans e) f0 f1 f3 f4 f5, q⟩
theorem sw_true {elt : Expr} {gs : List Comprehension} {scope : Scope} {pos py : Pos} {y : Str} {l : Nat} {env : Env} (hk : env.scope.kind = .function) (hy : env.scope.names.lookup y = some .local) (hl : (py.line == pos.line) = true)
    (ha : (scope.names.any fun (n, k) => n == y && (k == .local || k == .cell)) = false) : swapsWith (.ListComp elt gs scope pos) (some (.Name y py)) l env = pure true := by
  have ky : env.kindOf y = some .local := hy
  have hb : env.blockKind = .function := by unfold Env.blockKind; rw [hk]; rfl
  unfold swapsWith
  simp only [hb, ky, ha, Expr.pos, hl]
  rfl
end

/-! ### the forms one uses -/
/-- over a list that the block leaves as it is -/
theorem lc_list {K : PySem.W.Frag} {a : Addr} {xs : List V} {g : TG} {tt : TT} {te : TE} {vs : List Nat} {σ : St} {H1 : Hp} {D : Addr} {Qd : Hp → Prop} (Pv : Nat → Hp → Prop) (h0 : Pv 0 (upd H1 D (.lst []))) (hl : ∀ i H, i ≤ xs.length → Pv i H → SqL K H a xs)
    (hs : ∀ i x H, xs[i]? = some x → Pv i H → g x (wipe σ vs) H fun σ2 H2 => wipe σ2 vs = wipe σ vs ∧ tt σ2 H2 fun b H3 =>
      if b = true then te σ2 H3 fun y H4 => ∃ acc, H4 D = some (.lst acc) ∧ acc.length < sizeLine ∧ Pv (i + 1) (upd H4 D (.lst (acc ++ [y]))) else Pv (i + 1) H3) (hd : ∀ H, Pv xs.length H → Qd H) :
    ∃ W : Nat → Nat → Hp → Prop, (∃ m, W 0 m (upd H1 D (.lst []))) ∧ ∀ i m H, W i m H →
      ((Itl K a).stop i H ∧ Qd H) ∨ ((Itl K a).go i H ∧ ∃ Nx : Hp → Prop, (∀ H', Nx H' → ∃ m', m' < m ∧ W (i + 1) m' H') ∧ ∀ x H', (Itl K a).yld i H x H' → g x (wipe σ vs) H' fun σ2 H2 => wipe σ2 vs = wipe σ vs ∧ tt σ2 H2 fun b H3 =>
        if b = true then te σ2 H3 fun y H4 => ∃ acc, H4 D = some (.lst acc) ∧ acc.length < sizeLine ∧ Nx (upd H4 D (.lst (acc ++ [y]))) else Nx H3) := by
  refine ⟨fun i m H => m = xs.length - i ∧ i ≤ xs.length ∧ Pv i H, ⟨xs.length, by simp, Nat.zero_le _, h0⟩, ?_⟩
  rintro i m H ⟨rfl, hi, p⟩
  have q := hl i H hi p
  by_cases hlt : i < xs.length
  · refine .inr ⟨⟨xs, xs[i], q, by simp [hlt]⟩, Pv (i + 1), fun H' p' => ⟨xs.length - (i + 1), by omega, rfl, hlt, p'⟩, fun x H' y => ?_⟩
    obtain ⟨e, y⟩ := y
    subst e
    exact hs i x _ (y xs q) p
  · have e : i = xs.length := by omega
    subst e
    exact .inl ⟨⟨xs, q, Nat.le_refl _⟩, hd H p⟩
def blkC (N : List Str) (sc scope : Scope) (own : List (Str × Nat)) : Bool :=
  (match scope.kind with | .function => true | _ => false) && (scope.names.all fun y => decide (scope.names.lookup y.1 = some y.2)) && (own.all fun p => decide (N[p.2]? = some p.1)) &&
    (scope.names.all fun y => match y.2 with
      | .free => (match sc.names.lookup y.1 with | some .cell => true | some .free => true | _ => false)
      | .local => decide (y.1 ∈ own.map (·.1)) || decide (y.1 ∉ N)
      | .cell => decide (y.1 ∈ own.map (·.1)) || decide (y.1 ∉ N)
      | _ => true)
theorem blkOk_by {N : List Str} {sc scope : Scope} {own : List (Str × Nat)} (h : blkC N sc scope own = true) : BlkOk N sc scope own := by
  unfold blkC at h
  simp only [Bool.and_eq_true, List.all_eq_true, decide_eq_true_eq] at h
  obtain ⟨⟨⟨h1, h2⟩, h3⟩, h4⟩ := h
  refine ⟨?_, h2, h3, fun y hy e => ?_, fun y hy e => ?_⟩
  · split at h1
    · assumption
    · cases h1
  · have q := h4 y hy
    simp only [e] at q
    split at q <;> first | exact .inl (by assumption) | exact .inr (by assumption) | cases q
  · have q := h4 y hy
    rcases e with e | e <;> (simp only [e, Bool.or_eq_true, decide_eq_true_eq] at q; exact q)
end L2

namespace L2
open PySem PySem.Spec PyProof.Rows


section
variable {prog : Program} {w : World} {A : Around} {R : Result → Shared → Prop} {s : Shared} {elt t0 i0 t1 i1 : Expr} {ifs0 ifs1 : List Expr} {scope : Scope} {pos : Pos} {it acc : Value} {env : Env}
end

section
variable {X : Cx}
end
end L2

namespace L2
open PySem PySem.Spec PyProof.Rows

/-! ### lists of pairs as tables -/
section
variable {κ : Type} [DecidableEq κ]



end


/-! ### a tracked dict, its keys ints and texts or tuples of these -/


section
variable {P : Program} {w : World} {H : Hp} {h : Heap} {a : Addr}
end



section
variable {X : Cx} {pins : List (Addr × Obj)} {σ : St} {H : Hp} {s : Shared} {a : Addr} {y v : V} {u r : Value} {o : Option V} {A : Around} {E : Value → Shared → Prop}


end

section
variable {X : Cx} {pins : List (Addr × Obj)} {σ : St} {H : Hp} {s : Shared} {a : Addr} {kvs : List (Key × V)} {k : Key} {u : Value} {A : Around} {E : Value → Shared → Prop}
end


/-! ### readings and rules -/



section
variable {X : Cx} {o i e value : Expr} {pos pos' tpos : Pos} {td ty tv : TE}
end


/-! ### displays -/
section
variable {X : Cx} {pos : Pos}
end




/-! ### methods -/


section
variable {X : Cx} {pins : List (Addr × Obj)} {σ : St} {H : Hp} {s : Shared} {a : Addr} {y d : V} {u r : Value} {o : Option V} {A : Around} {E : Value → Shared → Prop}
end

section
variable {X : Cx} {o e f : Expr} {apos cpos : Pos} {td ty tx : TE}
end

/-! ### dict(d): a copy -/
section
variable {X : Cx} {pins : List (Addr × Obj)} {σ : St} {H : Hp} {s : Shared} {a : Addr} {kvs : List (Key × V)} {A : Around} {E : Value → Shared → Prop}
end


section
variable {X : Cx} {pins : List (Addr × Obj)} {σ : St} {H : Hp} {s : Shared} {a : Addr} {y : V} {u : Value} {A : Around} {E : Value → Shared → Prop}
end
end L2

namespace L2
open PySem PySem.Spec PyProof.Rows


section
variable {prog : Program} {w : World} {A : Around} {E : Value → Shared → Prop}


end

section
variable {X : Cx}
end
end L2

namespace L2
open PySem PySem.Spec PyProof.Rows


section
variable {X : Cx} {pins : List (Addr × Obj)} {σ : St} {H : Hp} {s : Shared} {h' : Heap}

/-! ### locking a thing while a statement runs -/
end
section
variable {X : Cx}

/-! ### one iterator just laid -/
end

/-! ### range with a step -/
section
variable {X : Cx} {tg : Expr}
end

/-! ### reversed(list) -/
section
variable {X : Cx} {tg : Expr}
end

/-! ### a str -/

/-! ### a dict's keys: any dict's entries -/
section
variable {prog : Program} {w : World} {A : Around} {E : Value → Shared → Prop} {s : Shared}
end

/-! ### a locked dict -/
section
variable {X : Cx} {pins : List (Addr × Obj)} {σ : St} {H : Hp} {s : Shared} {d : Addr} {o : Obj}
end

section
variable {P : Program} {w : World} {K : PySem.W.Frag} {tg : Expr} {d : Addr} {o : Obj} {es : Array DictEntry} {ep : Nat}
end

/-! ### for k in d, d.keys(), d.values(), d.items() -/
section
variable {X : Cx} {tg e : Expr} {td : TE} {apos cpos : Pos}
end

/-! ### enumerate(list) -/
/-! ### zip(list, list) -/
end L2

section 
namespace Bits
open PySem PyProof.Rows








end Bits
end 

section 
namespace TL
open PySem PySem.Builtin PySem.Builtin.Str PySem.StrLaws


/-! ### the list functions -/




/-! ### the model's split and partition are these -/




/-! ### computing spl and par -/


/-! ### digits -/

/-! ### words: x.split() -/
end TL
end 

namespace L2
open PySem PySem.Spec PyProof.Rows




section
variable {X : Cx} {pins : List (Addr × Obj)} {σ : St} {H : Hp} {s : Shared} {Q : VK}
end

section
variable {X : Cx}





/-! ### of a text alone -/

/-! ### of a text and a text -/

end

section
variable {X : Cx} {o e : Expr} {to te : TE}

end
end L2

namespace L2
open PySem PySem.Spec PyProof.Rows

section
variable {X : Cx}
end

/-! ### slices of a text -/


end L2

namespace Att
open PySem PySem.W PySem.Calls PyProof.Rows

/-! ### the script -/



/-! ### the attachment: holds_open's last premise (the goal 'hc' behind k_head) from a wpAny of the law's body -/



/-! ### rules over ANY heap (no ledger) from facts about the written part K: the library's own take a ledger (News) for what they write -/
section
variable {prog : Program} {w : World} {A : Around} {E : Value → Shared → Prop} {s : Shared} {K : Frag}





/-! the whole heap as the ledger: makes every rule that writes through a ledger a rule over any heap -/

end
end Att

namespace L2
open PySem PySem.Spec PyProof.Rows



end L2

namespace L2
open PySem PySem.Spec PyProof.Rows


end L2

/- THE LAST THEOREM (shape; LID, My.* are yours):
   My.Adr: a structure of the addresses that your layer names (classes, functions); My.Txt K t: a structure (Prop) of the equations over K;
   My.txt_mk : {K} {implicit addresses ..} (e1 : nsIn K mainGlobals "law" = some (some (.ref f))) (e2 : K.lookup f = some ⟨oc, od, .func (fnOf "law" "law" params body scope dV kV doc pm an cdv ct), sl⟩) (e3 : codeIn K cdv "law" = true) .. : ∃ t, My.Txt K t

set_option maxRecDepth 100000 in
set_option maxHeartbeats 0 in
theorem PySem.Challenge.cw_LID_holds : PySem.Challenge.rw_LID.Holds := by
  w_on; o_law; k_head; (case hw => w_witness2)
  k_fill
  refine L2.walk_of (l := PySem.Challenge.rw_LID) (n := 63) (k := 40) (x := "script") (CX := fun w => ..) (sp := fun _ => My.sp_law) rfl (by decide) rfl ⟨rfl, by decide, by decide⟩ (fun w h Y => PySem.W.kIn_of Y) ?F ?S ?C
  case F =>
    intro w mg fa h KX G hmg
    have T : ∃ t, My.Txt (L2.KOf KX) t := by
      dsimp only [L2.KOf]                          -- K must stand as «<heap const> w.params» for k_is
      refine' My.txt_mk ?e1 ?e2 ?e3 ..
      (case e1 => PySem.W.k_is)                    -- in the order: a name -> its address -> its object -> its parts
      (case e2 => PySem.W.k_is)
      ..
    obtain ⟨t, T⟩ := T
    have e0 := hmg.symm.trans (PySem.W.mg_of KX G T.law)
    cases e0                                       -- fa is the law's own address
    exact ⟨_, fun s u => .of_eq rfl, fun base kb nb => My.law_fn T kb nb⟩     -- if «.of_eq rfl» comes too early: refine' ⟨_, ?b, fun base kb nb => My.law_fn T kb nb⟩; exact fun s u => .of_eq rfl
  case S => exact fun w H a ns hl hO hS => ..
  case C => exact ..
(the tactic k_is has no namespace: write k_is) -/

/-! SHORT WORDS over the layer: a def of the text, its body, what a loop and a test want. -/
namespace L2
open PySem PySem.Spec PyProof.Rows

/-! ### the text by places -/
/-- the j-th statement of a class's body -/
def inClass (s : Stmt) (j : Nat) : Stmt := match s with
  | .ClassDef _ _ _ body _ _ _ _ _ _ _ => body.getD j (.Pass ⟨0, 0, 0, 0⟩)
  | _ => .Pass ⟨0, 0, 0, 0⟩
def defArgs (s : Stmt) : Arguments := match s with
  | .FunctionDef _ a _ _ _ _ _ _ _ _ => a
  | _ => { posonlyargs := [], args := [], vararg := none, kwonlyargs := [], kw_defaults := [], kwarg := none, defaults := [] }
def defBody (s : Stmt) : List Stmt := match s with
  | .FunctionDef _ _ b _ _ _ _ _ _ _ => b
  | _ => []
def defScope (s : Stmt) : Scope := match s with
  | .FunctionDef _ _ _ _ _ _ sc _ _ _ => sc
  | _ => { kind := .function, names := [], isGenerator := false, isCoroutine := false }

/-! ### no exception leaves a def -/
abbrev CX0 : CXT := fun _ _ _ _ _ _ => False
abbrev E0 : XK := fun _ _ _ => False
theorem pass0 {X : Cx} : Passes CX0 X E0 := fun _ _ _ _ _ _ _ h => h.elim

/-! ### a def (or method) of the text as it stands behind the top -/
structure Fun (K : PySem.W.Frag) (x qual : Str) (st : Stmt) (f : Addr) (fd : FuncData) : Prop where
  ex : ∃ (oc : Value) (od : Option Addr) (kV doc pm : Value) (an : Option Addr) (cdv ct : Value) (osl : Array (Option Value)),
    fd = PySem.W.fnOf x qual (defArgs st) (defBody st) (defScope st) .none kV doc pm an cdv ct ∧ K.lookup f = some ⟨oc, od, .func fd, osl⟩ ∧ PySem.W.codeIn K cdv qual = true
  kp : PySem.W.keepIn K (.ref f) = true
section
variable {P : Program} {w : World} {K : PySem.W.Frag} {mg : Str → Option Value} {base : Heap}
/-- THE RULE for a def: its body as a term of rules, and the reading of that term -/
theorem Fun.ok {x qual : Str} {st : Stmt} {f : Addr} {fd : FuncData} {N ps : List Str} {k : Nat} {sp : Sp} (F : Fun K x qual st f fd) (S : FnScope N ps (defScope st)) (len : ∀ vs H Q E, sp vs H Q E → vs.length = ps.length)
    (hbody : ∀ (cdv : Value) (A : Around) (outer : List Env) (s : Shared) (H : Hp) (vs : List V) (Q : VK) (E : XK), Room k (A.deeper (envOfC qual (defScope st) s.heap.objs.size f cdv)) → sp vs H Q E →
      ∃ t, PSs (cxOf CX0 P w K mg base N qual (defScope st) f cdv A outer s H E).nox (defBody st) t ∧ t { nx := fun _ H' => Q .non H', rt := Q } (start N vs) H) : FnOk P w K mg base CX0 (k + 1) f fd ps sp := by
  obtain ⟨oc, od, kV, doc, pm, an, cdv, ct, osl, rfl, lk, hcd⟩ := F.ex
  refine fn_of lk hcd S len fun A outer s H vs Q E hr hsp => ?_
  obtain ⟨t, h, q⟩ := hbody cdv A outer s H vs Q E hr hsp
  exact ⟨t, h.nox, q⟩
/-- how its arguments bind (no defaults): h is «fun _ _ _ _ _ _ us hl => match us, hl with | [_, _], _ => rfl», one _ a parameter -/
theorem Fun.binds {x qual : Str} {st : Stmt} {f : Addr} {fd : FuncData} {ps : List Str} (F : Fun K x qual st f fd)
    (h : ∀ (kV doc pm : Value) (an : Option Addr) (cdv ct : Value) (us : List Value), us.length = ps.length → bindArgs (PySem.W.fnOf x qual (defArgs st) (defBody st) (defScope st) .none kV doc pm an cdv ct) ⟨us, []⟩ = pure (ps.zip us)) : Binds K fd ps [] := by
  obtain ⟨oc, od, kV, doc, pm, an, cdv, ct, osl, rfl, lk, hcd⟩ := F.ex
  exact .all (h kV doc pm an cdv ct)
theorem fun_mk {x qual : Str} {st : Stmt} {f : Addr} {oc : Value} {od an : Option Addr} {osl : Array (Option Value)} {kV doc pm cdv ct : Value} (l : K.lookup f = some ⟨oc, od, .func (PySem.W.fnOf x qual (defArgs st) (defBody st) (defScope st) .none kV doc pm an cdv ct), osl⟩)
    (c : PySem.W.codeIn K cdv qual = true) (k : PySem.W.keepIn K (.ref f) = true) : Fun K x qual st f (PySem.W.fnOf x qual (defArgs st) (defBody st) (defScope st) .none kV doc pm an cdv ct) := ⟨⟨oc, od, kV, doc, pm, an, cdv, ct, osl, rfl, l, c⟩, k⟩
end

/-! ### expressions in short: the name that stands in the i-th slot -/
section
variable {X : Cx}
theorem pv (i : Nat) {x : Str} {pos : Pos} (hN : X.N[i]? = some x := by rfl) (hv : Vis X.env.scope x := by first | exact Or.inl rfl | exact Or.inr (Or.inl rfl) | exact Or.inr (Or.inr rfl)) (hd : (x == ("__debug__" : Str)) = false := by decide)
    (hcd : (x == ("__classdict__" : Str)) = false := by decide) : PE X (.Name x pos) (tVar i) := pe_var hN hv hd hcd
end

/-! ### tests -/

/-! ### heaps -/
/-- all that was tracked is as it was -/
def Same (H H' : Hp) : Prop := ∀ b o, H b = some o → H' b = some o
theorem Same.trans {H H1 H2 : Hp} (a : Same H H1) (b : Same H1 H2) : Same H H2 := fun c o h => b c o (a c o h)
theorem Same.free {H H' : Hp} (e : Same H H') {l : Addr} (h : H' l = Option.none) : H l = Option.none := by
  cases q : H l with
  | none => rfl
  | some o =>
    rw [e l o q] at h
    cases h
theorem Same.seq {K : PySem.W.Frag} {H H' : Hp} {a : Addr} {xs : List V} (e : Same H H') (h : SqL K H a xs) : SqL K H' a xs := by
  rcases h with (h | ⟨o, h⟩) | h
  · exact .inl (.inl (e _ _ h))
  · exact .inl (.inr ⟨o, e _ _ h⟩)
  · exact .inr h

/-! ### a dict's pairs: keys that differ -/
section
variable {κ : Type} [DecidableEq κ]
end
/-! ### lists -/
theorem at_of {xs : List V} {z : Int} {j : Nat} {v : V} (e : z = (j : Int)) (h : xs[j]? = some v) : atI xs z = some v := by
  rw [e]
  exact atI_nat h
/-- a new instance and its __init__ leave all that was tracked as it was -/
theorem Same.made {H H1 : Hp} {x dx C : Addr} (nx : H x = Option.none) (nd : H dx = Option.none) (k : ∀ b o, (upd (upd H dx (.own x)) x (.ins C dx [])) b = some o → b ≠ x → H1 b = some o) : Same H H1 := fun b o e =>
  k b o (by rw [upd_ne (ne_of_none e nx), upd_ne (ne_of_none e nd)]; exact e) (ne_of_none e nx)
end L2

end
section
set_option Elab.async false
set_option linter.all false
set_option maxRecDepth 100000
set_option maxHeartbeats 2000000
namespace L2
open PySem PySem.Spec PyProof.Rows
open PySem.W (WData Codec OpenSpec Well WellAll ReadsW ReadsAllW)
/-! ### an answer as data -/
mutual
/-- x stands for the datum d, lists and tuples all the way -/
inductive Dw (K : PySem.W.Frag) (H : Hp) : V → WData → Prop
  | non : Dw K H .non .none
  | bl (b : Bool) : Dw K H (.bl b) (.bool b)
  | int (i : Int) : Dw K H (.int i) (.int i)
  | str (x : Str) : Dw K H (.str x) (.str x)
  | byt (b : Array UInt8) : Dw K H (.byt b) (.bytes b.toList)
  | lst {a : Addr} {xs : List V} {ds : List WData} : SqL K H a xs → DwAll K H xs ds → Dw K H (.ref a) (.list ds)
  | tup {a : Addr} {xs : List V} {ds : List WData} : SqT K H a xs → DwAll K H xs ds → Dw K H (.ref a) (.tuple ds)
inductive DwAll (K : PySem.W.Frag) (H : Hp) : List V → List WData → Prop
  | nil : DwAll K H [] []
  | cons {v : V} {vs : List V} {d : WData} {ds : List WData} : Dw K H v d → DwAll K H vs ds → DwAll K H (v :: vs) (d :: ds)
end
theorem dw_ints {K : PySem.W.Frag} {H : Hp} : ∀ ns : List Int, DwAll K H (ns.map V.int) (ns.map WData.int)
  | [] => .nil
  | n :: r => .cons (.int n) (dw_ints r)
theorem ints_dw {K : PySem.W.Frag} {H : Hp} : ∀ (ns : List Int) (xs : List V), DwAll K H xs (ns.map WData.int) → xs = ns.map V.int
  | [], xs, h => by
    cases h
    rfl
  | n :: r, xs, h => by
    cases h with
    | cons h1 h2 =>
      cases h1
      rw [ints_dw r _ h2] <;> rfl
section
variable {P : Program} {w : World} {K : PySem.W.Frag} {H : Hp} {h : Heap} {R : PySem.W.WRecords} {cl : Str → Option Addr}
theorem sqL_at {a : Addr} {xs : List V} (hok : HOk P w H h) (KX : K.In h) (q : SqL K H a xs) : ∃ (its : List Value) (o : Obj) (n : Nat), Vals xs its ∧ h.get? a = some o ∧ o.cls = .type "list" ∧ o.data = .seq its.toArray n := by
  rcases q with q | ⟨o, its, n, e, hc, _, hd, _, hv⟩
  · obtain ⟨_, its, n, hv, e⟩ := (show ObjOk P w H h a (.lst xs) from q.ok hok)
    exact ⟨its, _, n, hv, e, rfl, rfl⟩
  · exact ⟨its.toList, o, n, hv, KX _ _ e, hc, by simp [hd]⟩
theorem sqT_at {a : Addr} {xs : List V} (hok : HOk P w H h) (KX : K.In h) (q : SqT K H a xs) : ∃ (its : List Value) (o : Obj) (n : Nat), Vals xs its ∧ h.get? a = some o ∧ o.cls = .type "tuple" ∧ o.data = .seq its.toArray n := by
  rcases q with q | ⟨o, its, n, e, hc, hd, _, hv⟩
  · obtain ⟨_, its, hv, o, e, hc, n, hd⟩ := (show ObjOk P w H h a (.tup xs) from q.ok hok)
    exact ⟨its, o, n, hv, e, hc, hd⟩
  · exact ⟨its.toList, o, n, hv, KX _ _ e, hc, by simp [hd]⟩
mutual
theorem Dw.reads (hok : HOk P w H h) (KX : K.In h) : ∀ (d : WData) (v : V) (u : Value), Dw K H v d → RelV v u → ∃ as, ReadsW R cl h u d as
  | .none, _, _, x, r => by
    cases x
    cases r
    exact ⟨_, ReadsW.none⟩
  | .bool b, _, _, x, r => by
    cases x
    cases r
    exact ⟨_, ReadsW.bool b⟩
  | .int i, _, _, x, r => by
    cases x
    obtain ⟨t, rfl⟩ := r
    exact ⟨_, ReadsW.int i t⟩
  | .str s, _, _, x, r => by
    cases x
    obtain ⟨t, rfl⟩ := r
    exact ⟨_, ReadsW.str s t⟩
  | .bytes b, _, _, x, r => by
    cases x
    obtain ⟨t, rfl⟩ := r
    exact ⟨_, ReadsW.bytes _ t⟩
  | .list ds, _, _, x, r => by
    cases x with
    | lst hs ha =>
      cases r
      obtain ⟨its, o, n, rv, ho, hc, hd⟩ := sqL_at hok KX hs
      obtain ⟨as, hr⟩ := Dw.readsAll hok KX ds _ its ha rv
      exact ⟨_, ReadsW.list ho hc hd hr⟩
  | .tuple ds, _, _, x, r => by
    cases x with
    | tup hs ha =>
      cases r
      obtain ⟨its, o, n, rv, ho, hc, hd⟩ := sqT_at hok KX hs
      obtain ⟨as, hr⟩ := Dw.readsAll hok KX ds _ its ha rv
      exact ⟨_, ReadsW.tuple ho hc hd hr⟩
  | .float _, _, _, x, _ => by cases x
  | .dict _, _, _, x, _ => by cases x
  | .bytearray _, _, _, x, _ => by cases x
  | .set _, _, _, x, _ => by cases x
  | .frozenset _, _, _, x, _ => by cases x
  | .obj _ _, _, _, x, _ => by cases x
theorem Dw.readsAll (hok : HOk P w H h) (KX : K.In h) : ∀ (ds : List WData) (vs : List V) (us : List Value), DwAll K H vs ds → Vals vs us → ∃ as, ReadsAllW R cl h us ds as
  | [], _, _, x, r => by
    cases x
    cases r
    exact ⟨_, ReadsAllW.nil⟩
  | d :: ds, _, _, x, r => by
    cases x with
    | cons h1 h2 =>
      cases r with
      | cons r1 r2 =>
        obtain ⟨as, q1⟩ := Dw.reads hok KX d _ _ h1 r1
        obtain ⟨bs, q2⟩ := Dw.readsAll hok KX ds _ _ h2 r2
        exact ⟨_, ReadsAllW.cons q1 q2⟩
end
end
/-! ### the arguments -/
mutual
/-- data that a codec tells -/
def plW : WData → Bool
  | .none => true
  | .bool _ => true
  | .int _ => true
  | .str _ => true
  | .bytes _ => true
  | .list xs => plWs xs
  | .tuple xs => plWs xs
  | _ => false
def plWs : List WData → Bool
  | [] => true
  | x :: r => plW x && plWs r
end
theorem plWs_map {α : Type} {f : α → WData} (h : ∀ a, plW (f a) = true) : ∀ l : List α, plWs (l.map f) = true
  | [] => rfl
  | x :: r => by
    show (plW (f x) && plWs (r.map f)) = true
    rw [h x, plWs_map h r] <;> rfl
theorem pl_enc : ∀ (c : Codec) (a : c.denote), plW (c.enc a) = true
  | .unit, _ => rfl
  | .bool, _ => rfl
  | .int _ _, _ => rfl
  | .nat _ _, _ => rfl
  | .u8, _ => rfl
  | .bytes _ _, _ => rfl
  | .text _ _ _ _, _ => rfl
  | .list _ _ c, a => plWs_map (fun x => pl_enc c x) a
  | .pair c d, a => by
    show (plW (c.enc a.1) && (plW (d.enc a.2) && true)) = true
    rw [pl_enc c a.1, pl_enc d a.2] <;> rfl
  | .triple c d e, a => by
    show (plW (c.enc a.1) && (plW (d.enc a.2.1) && (plW (e.enc a.2.2) && true))) = true
    rw [pl_enc c a.1, pl_enc d a.2.1, pl_enc e a.2.2] <;> rfl
  | .option c, none => rfl
  | .option c, some x => pl_enc c x
theorem pl_encAll : ∀ (cs : List Codec) (a : Codec.denoteAll cs), plWs (Codec.encAll cs a) = true
  | [], _ => rfl
  | c :: cs, a => by
    show (plW (c.enc a.1) && plWs (Codec.encAll cs a.2)) = true
    rw [pl_enc c a.1, pl_encAll cs a.2] <;> rfl
theorem weight_mem : ∀ {xs : List WData} {d : WData}, d ∈ xs → d.weight ≤ WData.weightAll xs
  | [], d, h => absurd h (by simp)
  | x :: r, d, h => by
    show d.weight ≤ x.weight + 1 + WData.weightAll r
    rcases List.mem_cons.mp h with e | m
    · rw [e]
      omega
    · have z := weight_mem m
      omega
def toV : Value → V
  | .none => .non
  | .bool b => .bl b
  | .int i _ => .int i
  | .str x _ => .str x
  | .bytes b _ => .byt b
  | .ref a => .ref a
  | _ => .non
/-- a value of the arguments, its objects among A -/
def OkU (A : List Addr) : Value → Prop
  | .none => True
  | .bool _ => True
  | .int _ _ => True
  | .str _ _ => True
  | .bytes _ _ => True
  | .ref a => a ∈ A
  | _ => False
theorem OkU.mono {A B : List Addr} (h : ∀ a ∈ A, a ∈ B) : ∀ {u : Value}, OkU A u → OkU B u := fun {u} x => by
  cases u with
  | ref a => exact h a x
  | none => trivial
  | bool b => trivial
  | int i t => trivial
  | str s t => trivial
  | bytes b t => trivial
  | _ => exact False.elim x
theorem relV_toV {A : List Addr} {u : Value} (x : OkU A u) : RelV (toV u) u := by
  cases u with
  | ref a => rfl
  | none => rfl
  | bool b => rfl
  | int i t => exact ⟨t, rfl⟩
  | str s t => exact ⟨t, rfl⟩
  | bytes b t => exact ⟨t, rfl⟩
  | _ => exact False.elim x
theorem vals_toV {A : List Addr} : ∀ {vs : List Value}, (∀ u ∈ vs, OkU A u) → Vals (vs.map toV) vs
  | [], _ => .nil
  | u :: r, h => .cons (relV_toV (h u (List.mem_cons_self ..))) (vals_toV fun x hx => h x (List.mem_cons_of_mem _ hx))
/-- an object of the arguments -/
def ArgOb (h : Heap) (A : List Addr) (a : Addr) : Prop := ∃ vs : List Value, vs.length ≤ sizeLine ∧ (∀ u ∈ vs, OkU A u) ∧
  (h.get? a = some { cls := .type "list", data := .seq vs.toArray } ∨ h.get? a = some { cls := .type "tuple", data := .seq vs.toArray })
theorem ArgOb.mono {h : Heap} {A B : List Addr} {a : Addr} (k : ∀ a ∈ A, a ∈ B) (x : ArgOb h A a) : ArgOb h B a := by
  obtain ⟨vs, h1, h2, h3⟩ := x
  exact ⟨vs, h1, fun u hu => (h2 u hu).mono k, h3⟩
theorem wellAll_len {P : Params} {h : Heap} : ∀ {vs : List Value} {ds : List WData}, WellAll P h vs ds → vs.length = ds.length
  | _, _, .nil => rfl
  | _, _, .cons _ b => by
    show _ + 1 = _ + 1
    rw [wellAll_len b]
theorem well_list {P : Params} {h : Heap} {v : Value} {ds : List WData} (x : Well P h v (.list ds)) : ∃ (a : Addr) (vs : List Value), v = .ref a ∧ h.get? a = some { cls := .type "list", data := .seq vs.toArray } ∧ WellAll P h vs ds := by
  cases x with
  | list ho hall => exact ⟨_, _, rfl, ho, hall⟩
theorem well_tuple {P : Params} {h : Heap} {v : Value} {ds : List WData} (x : Well P h v (.tuple ds)) : ∃ (a : Addr) (vs : List Value), v = .ref a ∧ h.get? a = some { cls := .type "tuple", data := .seq vs.toArray } ∧ WellAll P h vs ds := by
  cases x with
  | tuple ho hall => exact ⟨_, _, rfl, ho, hall⟩
theorem well_cons {P : Params} {h : Heap} {us : List Value} {d : WData} {ds : List WData} (x : WellAll P h us (d :: ds)) : ∃ (v : Value) (vs : List Value), us = v :: vs ∧ Well P h v d ∧ WellAll P h vs ds := by
  cases x with
  | cons a b => exact ⟨_, _, rfl, a, b⟩
theorem line_of {n : Nat} (h : n ≤ 1048576) : n ≤ sizeLine := Nat.le_trans h (by decide)
section
variable {P : Params} {h : Heap}
mutual
theorem area_one : ∀ (d : WData) (v : Value), Well P h v d → plW d = true → d.weight ≤ 1048576 → ∃ A : List Addr, OkU A v ∧ ∀ a ∈ A, ArgOb h A a
  | .none, _, x, _, _ => by
    cases x
    exact ⟨[], trivial, fun a m => absurd m (by simp)⟩
  | .bool b, _, x, _, _ => by
    cases x
    exact ⟨[], trivial, fun a m => absurd m (by simp)⟩
  | .int i, _, x, _, _ => by
    cases x
    exact ⟨[], trivial, fun a m => absurd m (by simp)⟩
  | .str s, _, x, _, _ => by
    cases x
    exact ⟨[], trivial, fun a m => absurd m (by simp)⟩
  | .bytes b, _, x, _, _ => by
    cases x
    exact ⟨[], trivial, fun a m => absurd m (by simp)⟩
  | .list ds, _, x, p, z => by
    obtain ⟨a, vs, rfl, ho, hall⟩ := well_list x
    have z2 : WData.weightAll ds ≤ 1048576 := z
    obtain ⟨A, h1, h2⟩ := area_all ds _ hall p fun d hd => Nat.le_trans (weight_mem hd) z2
    have k : ∀ b ∈ A, b ∈ a :: A := fun b hb => List.mem_cons_of_mem _ hb
    refine ⟨a :: A, List.mem_cons_self .., fun b hb => ?_⟩
    rcases List.mem_cons.mp hb with e | m
    · rw [e]
      exact ⟨vs, line_of (by rw [wellAll_len hall]; exact Nat.le_trans (PySem.W.length_le_weightAllW ds) z2), fun u hu => (h1 u hu).mono k, .inl ho⟩
    · exact (h2 b m).mono k
  | .tuple ds, _, x, p, z => by
    obtain ⟨a, vs, rfl, ho, hall⟩ := well_tuple x
    have z2 : WData.weightAll ds ≤ 1048576 := z
    obtain ⟨A, h1, h2⟩ := area_all ds _ hall p fun d hd => Nat.le_trans (weight_mem hd) z2
    have k : ∀ b ∈ A, b ∈ a :: A := fun b hb => List.mem_cons_of_mem _ hb
    refine ⟨a :: A, List.mem_cons_self .., fun b hb => ?_⟩
    rcases List.mem_cons.mp hb with e | m
    · rw [e]
      exact ⟨vs, line_of (by rw [wellAll_len hall]; exact Nat.le_trans (PySem.W.length_le_weightAllW ds) z2), fun u hu => (h1 u hu).mono k, .inr ho⟩
    · exact (h2 b m).mono k
  | .float _, _, _, p, _ => Bool.noConfusion (show false = true from p)
  | .dict _, _, _, p, _ => Bool.noConfusion (show false = true from p)
  | .bytearray _, _, _, p, _ => Bool.noConfusion (show false = true from p)
  | .set _, _, _, p, _ => Bool.noConfusion (show false = true from p)
  | .frozenset _, _, _, p, _ => Bool.noConfusion (show false = true from p)
  | .obj _ _, _, _, p, _ => Bool.noConfusion (show false = true from p)
theorem area_all : ∀ (ds : List WData) (vs : List Value), WellAll P h vs ds → plWs ds = true → (∀ d ∈ ds, d.weight ≤ 1048576) → ∃ A : List Addr, (∀ u ∈ vs, OkU A u) ∧ ∀ a ∈ A, ArgOb h A a
  | [], _, x, _, _ => by
    cases x
    exact ⟨[], fun u m => absurd m (by simp), fun a m => absurd m (by simp)⟩
  | d :: ds, _, x, p, z => by
    obtain ⟨v, vs, rfl, x1, x2⟩ := well_cons x
    have q : plW d = true ∧ plWs ds = true := Bool.and_eq_true_iff.mp p
    obtain ⟨A, a1, a2⟩ := area_one d v x1 q.1 (z d (List.mem_cons_self ..))
    obtain ⟨B, b1, b2⟩ := area_all ds vs x2 q.2 fun e he => z e (List.mem_cons_of_mem _ he)
    have kA : ∀ b ∈ A, b ∈ A ++ B := fun b hb => List.mem_append.mpr (.inl hb)
    have kB : ∀ b ∈ B, b ∈ A ++ B := fun b hb => List.mem_append.mpr (.inr hb)
    refine ⟨A ++ B, fun u hu => ?_, fun b hb => ?_⟩
    · rcases List.mem_cons.mp hu with e | m
      · rw [e]
        exact a1.mono kA
      · exact (b1 u m).mono kB
    · rcases List.mem_append.mp hb with m | m
      · exact (a2 b m).mono kA
      · exact (b2 b m).mono kB
end
end
/-- what is tracked of an argument's object -/
def hoOf (o : Obj) : Option HO := match o.data with
  | .seq vs _ => if (o.cls == Value.type "list") = true then some (.frz o (.lst (vs.toList.map toV))) else some (.frz o (.tup (vs.toList.map toV)))
  | _ => none
def argH (K : PySem.W.Frag) (h : Heap) (A : List Addr) : Hp := fun b => if b ∈ A then (if (K.lookup b).isNone = true then (h.get? b).bind hoOf else none) else none
/-- nothing is tracked but what is known to the object -/
def OnlyF (H : Hp) : Prop := ∀ b, H b = none ∨ ∃ o u, H b = some (.frz o u)
theorem hoOf_lst (vs : List Value) : hoOf { cls := .type "list", data := .seq vs.toArray } = some (.frz { cls := .type "list", data := .seq vs.toArray } (.lst (vs.map toV))) := by
  show (if (Value.type "list" == Value.type "list") = true then some (HO.frz { cls := .type "list", data := .seq vs.toArray } (.lst (vs.toArray.toList.map toV))) else some (HO.frz { cls := .type "list", data := .seq vs.toArray } (.tup (vs.toArray.toList.map toV)))) = _
  rw [if_pos (beq_self_eq_true _)]
theorem hoOf_tup (vs : List Value) : hoOf { cls := .type "tuple", data := .seq vs.toArray } = some (.frz { cls := .type "tuple", data := .seq vs.toArray } (.tup (vs.map toV))) := by
  show (if (Value.type "tuple" == Value.type "list") = true then some (HO.frz { cls := .type "tuple", data := .seq vs.toArray } (.lst (vs.toArray.toList.map toV))) else some (HO.frz { cls := .type "tuple", data := .seq vs.toArray } (.tup (vs.toArray.toList.map toV)))) = _
  rw [if_neg (by decide)]
section
variable {P : Program} {w : World} {K : PySem.W.Frag} {h : Heap} {A : List Addr}
theorem argH_at {b : Addr} {o : Obj} (hb : b ∈ A) (hk : K.lookup b = none) (e : h.get? b = some o) : argH K h A b = hoOf o := by
  unfold argH
  rw [if_pos hb, hk, if_pos (show (none : Option Obj).isNone = true from rfl), e] <;> rfl
theorem of_argH {b : Addr} {u : HO} (q : argH K h A b = some u) : b ∈ A ∧ K.lookup b = none := by
  unfold argH at q
  by_cases hb : b ∈ A
  · rw [if_pos hb] at q
    cases hk : K.lookup b with
    | none => exact ⟨hb, rfl⟩
    | some o =>
      rw [hk, if_neg (by simp)] at q
      cases q
  · rw [if_neg hb] at q
    cases q
/-- what stands tracked -/
theorem argH_is (ar : ∀ a ∈ A, ArgOb h A a) {b : Addr} {u : HO} (q : argH K h A b = some u) : K.lookup b = none ∧ ∃ vs : List Value, vs.length ≤ sizeLine ∧ (∀ u ∈ vs, OkU A u) ∧
    ((h.get? b = some { cls := .type "list", data := .seq vs.toArray } ∧ u = .frz { cls := .type "list", data := .seq vs.toArray } (.lst (vs.map toV))) ∨
     (h.get? b = some { cls := .type "tuple", data := .seq vs.toArray } ∧ u = .frz { cls := .type "tuple", data := .seq vs.toArray } (.tup (vs.map toV)))) := by
  obtain ⟨hb, hk⟩ := of_argH q
  obtain ⟨vs, h1, h2, h3⟩ := ar b hb
  refine ⟨hk, vs, h1, h2, ?_⟩
  rcases h3 with e | e
  · rw [argH_at hb hk e, hoOf_lst] at q
    exact .inl ⟨e, (Option.some.inj q).symm⟩
  · rw [argH_at hb hk e, hoOf_tup] at q
    exact .inr ⟨e, (Option.some.inj q).symm⟩
theorem argH_only (ar : ∀ a ∈ A, ArgOb h A a) : OnlyF (argH K h A) := fun b => by
  cases q : argH K h A b with
  | none => exact .inl rfl
  | some u =>
    obtain ⟨_, vs, _, _, ⟨_, e⟩ | ⟨_, e⟩⟩ := argH_is ar q
    · exact .inr ⟨_, _, by rw [e]⟩
    · exact .inr ⟨_, _, by rw [e]⟩
theorem argH_ok (ar : ∀ a ∈ A, ArgOb h A a) : HOk P w (argH K h A) h := fun b u q => by
  obtain ⟨_, vs, h1, h2, ⟨e, rfl⟩ | ⟨e, rfl⟩⟩ := argH_is ar q
  · exact ⟨e, by rw [List.length_map]; exact h1, vs, _, vals_toV h2, e⟩
  · exact ⟨e, by rw [List.length_map]; exact h1, vs, vals_toV h2, _, e, rfl, _, rfl⟩
theorem seq_inj {c c' : Value} {vs us : List Value} (e : (some { cls := c, data := .seq vs.toArray } : Option Obj) = some { cls := c', data := .seq us.toArray }) : c = c' ∧ vs = us := by
  have e1 := Option.some.inj e
  have e2 : c = c' := congrArg Obj.cls e1
  have e3 : Data.seq vs.toArray = Data.seq us.toArray := congrArg Obj.data e1
  injection e3 with e4
  refine ⟨e2, ?_⟩
  have e5 := congrArg Array.toList e4
  simpa using e5
/-- a list argument -/
theorem argL (KX : K.In h) (ar : ∀ a ∈ A, ArgOb h A a) {a : Addr} {vs : List Value} (ha : a ∈ A) (e : h.get? a = some { cls := .type "list", data := .seq vs.toArray }) : (∀ u ∈ vs, OkU A u) ∧ SqL K (argH K h A) a (vs.map toV) := by
  obtain ⟨us, h1, h2, h3⟩ := ar a ha
  have hu : us = vs := by
    rcases h3 with q | q
    · rw [e] at q
      exact (seq_inj q).2.symm
    · rw [e] at q
      exact absurd (Value.type.inj (seq_inj q).1) (by decide)
  subst hu
  refine ⟨h2, ?_⟩
  cases hk : K.lookup a with
  | none => exact .inl (.inr ⟨_, by rw [argH_at ha hk e, hoOf_lst]⟩)
  | some o =>
    have e2 := KX a o hk
    rw [e] at e2
    obtain rfl := Option.some.inj e2
    exact .inr ⟨_, us.toArray, _, hk, rfl, rfl, rfl, by rw [List.size_toArray]; exact h1, by simpa using vals_toV h2⟩
theorem argT (KX : K.In h) (ar : ∀ a ∈ A, ArgOb h A a) {a : Addr} {vs : List Value} (ha : a ∈ A) (e : h.get? a = some { cls := .type "tuple", data := .seq vs.toArray }) : (∀ u ∈ vs, OkU A u) ∧ SqT K (argH K h A) a (vs.map toV) := by
  obtain ⟨us, h1, h2, h3⟩ := ar a ha
  have hu : us = vs := by
    rcases h3 with q | q
    · rw [e] at q
      exact absurd (Value.type.inj (seq_inj q).1) (by decide)
    · rw [e] at q
      exact (seq_inj q).2.symm
  subst hu
  refine ⟨h2, ?_⟩
  cases hk : K.lookup a with
  | none => exact .inl (.inr ⟨_, by rw [argH_at ha hk e, hoOf_tup]⟩)
  | some o =>
    have e2 := KX a o hk
    rw [e] at e2
    obtain rfl := Option.some.inj e2
    exact .inr ⟨_, us.toArray, _, hk, rfl, rfl, by rw [List.size_toArray]; exact h1, by simpa using vals_toV h2⟩
mutual
theorem dw_one {Pm : Params} (KX : K.In h) (ar : ∀ a ∈ A, ArgOb h A a) : ∀ (d : WData) (v : Value), Well Pm h v d → plW d = true → OkU A v → Dw K (argH K h A) (toV v) d
  | .none, _, x, _, _ => by
    cases x
    exact .non
  | .bool b, _, x, _, _ => by
    cases x
    exact .bl b
  | .int i, _, x, _, _ => by
    cases x
    exact .int i
  | .str s, _, x, _, _ => by
    cases x
    exact .str s
  | .bytes b, _, x, _, _ => by
    cases x
    have z := Dw.byt (K := K) (H := argH K h A) b.toArray
    exact z
  | .list ds, _, x, p, hu => by
    obtain ⟨a, vs, rfl, ho, hall⟩ := well_list x
    obtain ⟨h2, hs⟩ := argL KX ar hu ho
    exact .lst hs (dw_all KX ar ds _ hall p h2)
  | .tuple ds, _, x, p, hu => by
    obtain ⟨a, vs, rfl, ho, hall⟩ := well_tuple x
    obtain ⟨h2, hs⟩ := argT KX ar hu ho
    exact .tup hs (dw_all KX ar ds _ hall p h2)
  | .float _, _, _, p, _ => Bool.noConfusion (show false = true from p)
  | .dict _, _, _, p, _ => Bool.noConfusion (show false = true from p)
  | .bytearray _, _, _, p, _ => Bool.noConfusion (show false = true from p)
  | .set _, _, _, p, _ => Bool.noConfusion (show false = true from p)
  | .frozenset _, _, _, p, _ => Bool.noConfusion (show false = true from p)
  | .obj _ _, _, _, p, _ => Bool.noConfusion (show false = true from p)
theorem dw_all {Pm : Params} (KX : K.In h) (ar : ∀ a ∈ A, ArgOb h A a) : ∀ (ds : List WData) (vs : List Value), WellAll Pm h vs ds → plWs ds = true → (∀ u ∈ vs, OkU A u) → DwAll K (argH K h A) (vs.map toV) ds
  | [], _, x, _, _ => by
    cases x
    exact .nil
  | d :: ds, _, x, p, hu => by
    obtain ⟨v, vs, rfl, x1, x2⟩ := well_cons x
    have q : plW d = true ∧ plWs ds = true := Bool.and_eq_true_iff.mp p
    exact .cons (dw_one KX ar d v x1 q.1 (hu _ (List.mem_cons_self ..))) (dw_all KX ar ds vs x2 q.2 fun u m => hu u (List.mem_cons_of_mem _ m))
end
end
/-! ### the call -/
theorem spec_call {P : Program} {w : World} {K : PySem.W.Frag} {mg mb : Str → Option Value} {CX : CXT} {k : Nat} {fa : Addr} {fd : FuncData} {ps : List Str} {sp : Sp} {s₁ : Shared} {vals : List Value} {ds : List WData} {R : PySem.W.WRecords} {cl : Str → Option Addr} {d0 : WData}
    (KX : K.In s₁.heap) (hns : s₁.heap.Ns mainGlobals mg) (hb : s₁.heap.Ns builtinsNs mb) (hbb : ∀ x : Str, x ≠ "__name__" → mb x = bootBuiltins x) (hlim : s₁.heap.NoLimit) (hg : s₁.gens = #[])
    (hwl : WellAll w.params s₁.heap vals ds) (hpl : plWs ds = true) (hwt : ∀ d ∈ ds, d.weight ≤ 1048576) (hr : Room k callerA)
    (F : ∀ base : Heap, K.In base → base.Ns mainGlobals mg → FnOk P w K mg base CX k fa fd ps sp) (hbind : ∀ (s : Shared) (us : List Value), us.length = ps.length → BindsTo s fd ⟨us, []⟩ (ps.zip us)) (hlen : ds.length = ps.length)
    (hsp : ∀ (H : Hp) (xs : List V), OnlyF H → DwAll K H xs ds → sp xs H (fun v H' => Dw K H' v d0) fun _ _ _ => False)
    (hCX : ∀ H e s', CX [] H s₁ (fun _ _ _ => False) e s' → False) :
    codeAny (model P w) callerA (.call (.ref fa) ⟨vals, []⟩) (fun r s' => ∃ u as, r = .ok (.ret u) ∧ ReadsW R cl s'.heap u d0 as ∧ OldK s₁.heap s'.heap ∧ s'.os = s₁.os ∧ AllBare s'.gens) s₁ := by
  obtain ⟨A, ho, ar⟩ := area_all ds vals hwl hpl hwt
  have hO : OnlyF (argH K s₁.heap A) := argH_only ar
  have hok : HOk P w (argH K s₁.heap A) s₁.heap := argH_ok ar
  have hS := dw_all KX ar ds vals hwl hpl ho
  have hV := vals_toV ho
  have hK : ∀ b u, argH K s₁.heap A b = some u → K.lookup b = none := fun b u q => (argH_is ar q).1
  have noA : ∀ {b : Addr} {o : Obj} {es : Array DictEntry} {ep : Nat}, s₁.heap.get? b = some o → o.data = .dict es ep → argH K s₁.heap A b = none := fun {b o es ep} e d => by
    cases q : argH K s₁.heap A b with
    | none => rfl
    | some u =>
      obtain ⟨_, vs, _, _, ⟨e2, _⟩ | ⟨e2, _⟩⟩ := argH_is ar q
      · rw [e2] at e
        cases e
        have d' : Data.seq vs.toArray _ = Data.dict es ep := d
        cases d'
      · rw [e2] at e
        cases e
        have d' : Data.seq vs.toArray _ = Data.dict es ep := d
        cases d'
  generalize argH K s₁.heap A = H at hO hok hS hK noA
  have base_of : ∀ {b : Addr} {o : Obj}, s₁.heap.get? b = some o → H b = none → (hidT s₁.heap H).get? b = some o := fun e n => hidT_get e n
  have nsK : ∀ {b : Addr} {m : Str → Option Value}, s₁.heap.Ns b m → (hidT s₁.heap H).Ns b m := fun {b m} ⟨o, es, ep, e, d, r⟩ => ⟨o, es, ep, base_of e (noA e d), d, r⟩
  have nK : ∀ b o, K.lookup b = some o → H b = none := fun b o e => by
    cases q : H b with
    | none => rfl
    | some u =>
      rw [hK b u q] at e
      cases e
  have hKb : K.In (hidT s₁.heap H) := fun b o e => base_of (KX b o e) (nK b o e)
  have hM : Mod K mg (hidT s₁.heap H) := ⟨hKb, nsK hns, ⟨mb, nsK hb, hbb⟩, let ⟨mc, h1, h2⟩ := hlim; ⟨mc, nsK h1, h2⟩⟩
  have e0 : Env0 P w K mg (hidT s₁.heap H) callerA [] s₁ H := ⟨rfl, hM, fun b o e => of_hidT e, Nat.le_of_eq (hidT_size _ _), trivial, fun b hb => absurd (show b ∈ ([] : List Addr) from hb) (by simp), hok, .of_eq hg⟩
  have hl : vals.length = ps.length := by rw [wellAll_len hwl]; exact hlen
  refine codeAny_mono ((F _ hKb (nsK hns)).run callerA [] s₁ H ⟨vals, []⟩ vals (vals.map toV) _ _ hr e0 (hbind s₁ vals hl) hV (hsp H _ hO hS)) fun r s' x => ?_
  cases r with
  | error e => exact (hCX H e s' x).elim
  | ok fl =>
    cases fl with
    | next => exact False.elim x
    | brk => exact False.elim x
    | cont => exact False.elim x
    | ret u =>
      obtain ⟨v, H', os, bare, un, hok', r', q⟩ := x
      have kept : ∀ b o, s₁.heap.get? b = some o → s'.heap.get? b = some o := fun b o e => by
        cases q2 : H b with
        | none => exact un.keep b o e q2 (by intro z; exact absurd (show b ∈ ([] : List Addr) from z) (by simp)) (by simp)
        | some u2 =>
          rcases hO b with z | ⟨ob, u3, z⟩
          · rw [q2] at z
            cases z
          · have z2 := un.frzs b ob _ z
            obtain ⟨e1, _⟩ := hok b _ z
            obtain ⟨e2, _⟩ := hok' b _ z2
            rw [e] at e1
            cases e1
            exact e2
      have KX' : K.In s'.heap := fun b o e => kept b o (KX b o e)
      obtain ⟨as, hrd⟩ := Dw.reads (R := R) (cl := cl) hok' KX' d0 v u q r'
      exact ⟨u, as, rfl, hrd, OldK.of_keep kept, os, bare⟩
/-! ### the row -/
theorem layable_weight {ds : List WData} (h : WData.layableAll ds = true) : ∀ d ∈ ds, d.weight ≤ 1048576 := fun d hd =>
  (PySem.W.layableW_iff.mp (List.all_eq_true.mp h d hd)).2.2
theorem encAll_len : ∀ (cs : List Codec) (a : Codec.denoteAll cs), (Codec.encAll cs a).length = cs.length
  | [], _ => rfl
  | c :: cs, a => by
    show (Codec.encAll cs a.2).length + 1 = cs.length + 1
    rw [encAll_len cs a.2]
/-- the goal that k_headS leaves (case hc), from the promise of the row's def: whatever the arguments that the codecs let and the row asks for, the def gives what stands for enc (f ..) -/
theorem walk_spec {r : OpenSpec} {k : Nat} {q : Program} {loose : List Str} {XP : (Str → Option Value) → Heap → Prop} {YP : World → Heap → Prop} {d : DefRec} {K : Params → PySem.W.Frag} {CX : World → CXT} {ps : List Str} {sp : World → Sp}
    (hwell : r.wellSaid = true) (hdf : d.params.defaults = []) (hlen : r.args.length = ps.length) (hr : Room k callerA)
    (hY : ∀ (w : World) (h : Heap), YP w h → (K w.params).In h)
    (F : ∀ (w : World) (mg : Str → Option Value) (fa : Addr) (h : Heap), YP w h → (K w.params).In h → h.Ns mainGlobals mg → mg d.name = some (.ref fa) →
      ∃ fd : FuncData, (∀ (s : Shared) (us : List Value), us.length = ps.length → BindsTo s fd ⟨us, []⟩ (ps.zip us)) ∧
        ∀ base : Heap, (K w.params).In base → base.Ns mainGlobals mg → FnOk r.prog w (K w.params) mg base (CX w) k fa fd ps (sp w))
    (hsp : ∀ (w : World) (H : Hp) (xs : List V) (a : Codec.denoteAll r.args), OnlyF H → Codec.withinAll r.args a = true → Codec.app r.args r.asked a = true → DwAll (K w.params) H xs (Codec.encAll r.args a) →
      sp w xs H (fun v H' => Dw (K w.params) H' v (r.ret.enc (Codec.app r.args r.f a))) fun _ _ _ => False)
    (hCX : ∀ (w : World) (H : Hp) (s : Shared) (e : Value) (s' : Shared), CX w [] H s (fun _ _ _ => False) e s' → False) :
    PySem.W.WalkOS q loose XP YP r d [] (fun f vs => PySem.call f vs) := by
  intro w s_0 s₁ mg mb G Y fa o pm cd doc dV kV ho hd hcd hD hmg hg args vals as hpre hlay hrd hwl hlo
  obtain ⟨a, e1, e2⟩ := PySem.W.os_pre_some hpre
  obtain ⟨e3, hwi⟩ := Codec.encAll_of_decAll r.args args a e1
  subst e3
  have KX := hY w _ Y
  obtain ⟨fd, hb, hF⟩ := F w mg fa _ Y KX G.T.g hmg
  refine PySem.W.enter_call (codeAny_mono (spec_call (R := []) (cl := classAt s_0.heap) (d0 := r.ret.enc (Codec.app r.args r.f a)) KX G.T.g G.T.b G.T.builtins G.T.nolimit hg hwl (pl_encAll _ _) (layable_weight hlay) hr hF hb (by rw [encAll_len]; exact hlen)
    (fun H xs hO hS => hsp w H xs a hO hwi e2 hS) fun H e s' => hCX w H s₁ e s') fun r' s' hq => ?_)
  obtain ⟨u, as', rfl, h1, h2, h3, h4⟩ := hq
  exact ⟨.inl ⟨u, _, as', rfl, fun _ => rfl, h1, (OpenSpec.post_iff hwell hwi _ _).mpr rfl, fun z => Bool.noConfusion (show false = true from z)⟩, h2, h3, h4⟩
/-- the same where the promise hangs on the written part alone -/
theorem walk_specK {r : OpenSpec} {k : Nat} {q : Program} {loose : List Str} {XP : (Str → Option Value) → Heap → Prop} {YP : World → Heap → Prop} {d : DefRec} {K : Params → PySem.W.Frag} {CX : CXT} {ps : List Str} {sp : PySem.W.Frag → Sp}
    (hwell : r.wellSaid = true) (hdf : d.params.defaults = []) (hlen : r.args.length = ps.length) (hr : Room k callerA)
    (hY : ∀ (w : World) (h : Heap), YP w h → (K w.params).In h)
    (F : ∀ (w : World) (mg : Str → Option Value) (fa : Addr) (h : Heap), YP w h → (K w.params).In h → h.Ns mainGlobals mg → mg d.name = some (.ref fa) →
      ∃ fd : FuncData, (∀ (s : Shared) (us : List Value), us.length = ps.length → BindsTo s fd ⟨us, []⟩ (ps.zip us)) ∧
        ∀ base : Heap, (K w.params).In base → base.Ns mainGlobals mg → FnOk r.prog w (K w.params) mg base CX k fa fd ps (sp (K w.params)))
    (hsp : ∀ (K : PySem.W.Frag) (H : Hp) (xs : List V) (a : Codec.denoteAll r.args), OnlyF H → Codec.withinAll r.args a = true → Codec.app r.args r.asked a = true → DwAll K H xs (Codec.encAll r.args a) →
      sp K xs H (fun v H' => Dw K H' v (r.ret.enc (Codec.app r.args r.f a))) fun _ _ _ => False)
    (hCX : ∀ (H : Hp) (s : Shared) (e : Value) (s' : Shared), CX [] H s (fun _ _ _ => False) e s' → False) :
    PySem.W.WalkOS q loose XP YP r d [] (fun f vs => PySem.call f vs) :=
  walk_spec (K := K) (CX := fun _ => CX) (sp := fun w => sp (K w.params)) hwell hdf hlen hr hY F (fun w H xs a h1 h2 h3 h4 => hsp (K w.params) H xs a h1 h2 h3 h4) fun _ H s e s' => hCX H s e s'
end L2
end

section
set_option autoImplicit false
namespace My
/-! The reader: how the specification takes a line apart, by places. -/
theorem drop_cons_iff {l r : List Int} {p : Int} {q : Nat} (h : l.drop q = p :: r) : l[q]? = some p ∧ r = l.drop (q + 1) ∧ q < l.length := by
  have hl : q < l.length := by
    have := congrArg List.length h
    simp at this; omega
  have e := List.drop_eq_getElem_cons hl
  rw [e] at h
  injection h with h1 h2
  exact ⟨by rw [List.getElem?_eq_getElem hl, h1], h2.symm, hl⟩
theorem row_step {l x s : List Int} {q : Nat} (h : PyFlat.row (l.drop q) = some (x, s)) :
    ∃ c : Int, l[q]? = some c ∧ 0 ≤ c ∧ q + 1 + c.toNat ≤ l.length ∧ x = (l.drop (q + 1)).take c.toNat ∧ x.length = c.toNat ∧ s = l.drop (q + 1 + c.toNat) := by
  cases e : l.drop q with
  | nil => rw [e] at h; cases h
  | cons n r =>
    rw [e] at h
    obtain ⟨h1, h2, h3⟩ := drop_cons_iff e
    simp only [PyFlat.row] at h
    split at h
    · rename_i hc
      injection h with h
      injection h with hx hs
      subst h2
      have hlen : (l.drop (q + 1)).length = l.length - (q + 1) := List.length_drop
      refine ⟨n, h1, hc.1, by omega, hx.symm, ?_, ?_⟩
      · rw [← hx, List.length_take]; omega
      · rw [← hs, List.drop_drop]
    · cases h
theorem rows_step {l t : List Int} {xs : List (List Int)} {k q : Nat} (h : PyFlat.rows (k + 1) (l.drop q) = some (xs, t)) :
    ∃ (c : Int) (xs' : List (List Int)), l[q]? = some c ∧ 0 ≤ c ∧ q + 1 + c.toNat ≤ l.length ∧ xs = (l.drop (q + 1)).take c.toNat :: xs' ∧
      ((l.drop (q + 1)).take c.toNat).length = c.toNat ∧ PyFlat.rows k (l.drop (q + 1 + c.toNat)) = some (xs', t) := by
  unfold PyFlat.rows at h
  cases e : PyFlat.row (l.drop q) with
  | none => rw [e] at h; cases h
  | some p =>
    obtain ⟨x, s⟩ := p
    rw [e] at h
    obtain ⟨c, h1, h2, h3, h4, h5, h6⟩ := row_step e
    simp only at h
    cases e2 : PyFlat.rows k s with
    | none => rw [e2] at h; cases h
    | some p2 =>
      obtain ⟨ys, t'⟩ := p2
      rw [e2] at h
      simp only [Option.some.injEq, Prod.mk.injEq] at h
      obtain ⟨ha, hb⟩ := h
      subst hb
      subst h4
      exact ⟨c, ys, h1, h2, h3, ha.symm, h5, by rw [← h6]; exact e2⟩
/-- how many numbers some rows take, their lengths with them -/
def span (xs : List (List Int)) : Nat := (xs.map fun x => 1 + x.length).sum
theorem rows_span {l : List Int} : ∀ {k q : Nat} {xs : List (List Int)} {t : List Int}, q ≤ l.length → PyFlat.rows k (l.drop q) = some (xs, t) →
    t = l.drop (q + span xs) ∧ q + span xs ≤ l.length ∧ xs.length = k
  | 0, q, xs, t, hq, h => by
    have h : (some (([] : List (List Int)), l.drop q)) = some (xs, t) := h
    injection h with h
    injection h with h1 h2
    subst h1
    exact ⟨by rw [← h2]; rfl, by simpa [span] using hq, rfl⟩
  | k + 1, q, xs, t, hq, h => by
    obtain ⟨c, xs', h1, h2, h3, h4, h5, h6⟩ := rows_step h
    obtain ⟨a, b, d⟩ := rows_span h3 h6
    subst h4
    have e : span ((l.drop (q + 1)).take c.toNat :: xs') = 1 + c.toNat + span xs' := by
      simp only [span, List.map_cons, List.sum_cons, h5]
    rw [e]
    refine ⟨?_, by omega, by simp [d]⟩
    rw [a]; congr 1; omega
theorem calls_step {l : List Int} {f q : Nat} {cs : List (List (List Int))} (hq : q < l.length) (h : PyFlat.calls PyWqaeao.shape f (l.drop q) = some cs) :
    ∃ (p : Int) (n k : Nat) (xs : List (List Int)) (cs' : List (List (List Int))) (f' : Nat), l[q]? = some p ∧ PyWqaeao.shape p = some (n, k) ∧ q + 1 + n ≤ l.length ∧
      PyFlat.rows k (l.drop (q + 1 + n)) = some (xs, l.drop (q + 1 + n + span xs)) ∧ q + 1 + n + span xs ≤ l.length ∧ xs.length = k ∧
      cs = ((p :: (l.drop (q + 1)).take n) :: xs) :: cs' ∧ PyFlat.calls PyWqaeao.shape f' (l.drop (q + 1 + n + span xs)) = some cs' := by
  cases e : l.drop q with
  | nil =>
    have := congrArg List.length e
    simp at this; omega
  | cons p r =>
    rw [e] at h
    obtain ⟨h1, h2, h3⟩ := drop_cons_iff e
    cases f with
    | zero => cases h
    | succ f =>
      unfold PyFlat.calls at h
      cases e1 : PyFlat.call PyWqaeao.shape (p :: r) with
      | none => rw [e1] at h; cases h
      | some ct =>
        obtain ⟨c, t⟩ := ct
        rw [e1] at h
        simp only at h
        cases e2 : PyFlat.calls PyWqaeao.shape f t with
        | none => rw [e2] at h; cases h
        | some cs2 =>
          rw [e2] at h
          simp only [Option.some.injEq] at h
          simp only [PyFlat.call] at e1
          cases e3 : PyWqaeao.shape p with
          | none => rw [e3] at e1; cases e1
          | some nk =>
            obtain ⟨n, k⟩ := nk
            rw [e3] at e1
            simp only at e1
            split at e1
            · cases e1
            · rename_i hn
              subst h2
              rw [List.drop_drop] at e1
              rw [List.length_drop] at hn
              cases e4 : PyFlat.rows k (l.drop (q + 1 + n)) with
              | none => rw [e4] at e1; cases e1
              | some xt =>
                obtain ⟨xs, t'⟩ := xt
                rw [e4] at e1
                simp only [Option.some.injEq, Prod.mk.injEq] at e1
                obtain ⟨ec, et⟩ := e1
                subst et
                obtain ⟨ra, rb, rd⟩ := rows_span (by omega) e4
                rw [ra] at e4 e2
                refine ⟨p, n, k, xs, cs2, f, h1, e3, by omega, e4, rb, rd, ?_, e2⟩
                rw [← h, ← ec]
theorem calls_end {f : Nat} {cs : List (List (List Int))} (h : PyFlat.calls PyWqaeao.shape f [] = some cs) : cs = [] := by
  have h : some [] = some cs := by cases f <;> exact h
  injection h with h
  exact h.symm
end My

end
section
set_option autoImplicit false
namespace My
open NestNs (Nest Inst)
/-! The first pair, by places. -/
theorem find_none {α : Type} {q : α → Bool} {l : List α} (h : ∀ (j : Nat) (v : α), l[j]? = some v → q v = false) : l.find? q = none := by
  rw [List.find?_eq_none]
  intro x hx
  obtain ⟨j, hj⟩ := List.mem_iff_getElem?.mp hx
  rw [h j x hj]; decide
theorem find_some {α : Type} {q : α → Bool} : ∀ {l : List α} {j : Nat} {v : α}, l[j]? = some v → q v = true → (∀ (i : Nat) (u : α), i < j → l[i]? = some u → q u = false) → l.find? q = some v
  | [], j, v, h, _, _ => by simp at h
  | a :: l, 0, v, h, hq, _ => by
    have e : a = v := Option.some.inj h
    subst e
    rw [List.find?_cons, hq]
  | a :: l, j + 1, v, h, hq, hn => by
    have ha := hn 0 a (by omega) rfl
    rw [List.find?_cons, ha]
    exact find_some (j := j) h hq fun i u hi hu => hn (i + 1) u (by omega) hu
/-! The instances, by places. -/
theorem flat_at {α β : Type} {m : Nat} {f : α → Nat → β} : ∀ {l : List α} {i k : Nat}, k < m → (l.flatMap fun x => (List.range m).map (f x))[i * m + k]? = (l[i]?).map fun x => f x k
  | [], i, k, _ => by simp
  | a :: l, 0, k, hk => by
    rw [List.flatMap_cons, List.getElem?_append_left (by simpa using hk)]
    simp [hk]
  | a :: l, i + 1, k, hk => by
    have e : (i + 1) * m + k = m + (i * m + k) := by rw [Nat.add_mul]; omega
    rw [List.flatMap_cons, List.getElem?_append_right (by simp [e]), e]
    simpa using flat_at (l := l) (i := i) hk
theorem flat_len {α β : Type} {m : Nat} {f : α → Nat → β} : ∀ {l : List α}, (l.flatMap fun x => (List.range m).map (f x)).length = l.length * m
  | [] => by simp
  | a :: l => by
    rw [List.flatMap_cons, List.length_append, flat_len (l := l), List.length_map, List.length_range, List.length_cons, Nat.add_mul]; omega
/-- the rounds of three loops, in their order -/
def rounds (x y z : Nat) : List (List Nat) := (List.range x).flatMap fun a => (List.range y).flatMap fun b => (List.range z).map fun c => [a, b, c]
theorem flatMap_flatMap' {α β γ : Type} (f : α → List β) (g : β → List γ) : ∀ l : List α, (l.flatMap f).flatMap g = l.flatMap fun a => (f a).flatMap g
  | [] => rfl
  | a :: l => by rw [List.flatMap_cons, List.flatMap_append, flatMap_flatMap' f g l, List.flatMap_cons]
theorem instances_rounds (s : Nest) : NestNs.instances s = (rounds (s.n.getD 0 1) (s.n.getD 1 1) (s.n.getD 2 1)).flatMap fun x => (List.range s.stmts.length).map fun k => (x, k) := by
  unfold NestNs.instances rounds
  rw [flatMap_flatMap']
  congr 1; funext a
  rw [flatMap_flatMap']
  congr 1; funext b
  rw [List.flatMap_map]
theorem rounds_len (x y z : Nat) : (rounds x y z).length = x * y * z := by
  unfold rounds
  have h : ∀ a : Nat, ((List.range y).flatMap fun b => (List.range z).map fun c => [a, b, c]).length = y * z := fun a => by
    rw [flat_len]; simp
  rw [List.length_flatMap]
  have : (List.range x).map (fun a => ((List.range y).flatMap fun b => (List.range z).map fun c => [a, b, c]).length) = List.replicate x (y * z) := by
    rw [List.eq_replicate_iff]
    refine ⟨by simp, fun b hb => ?_⟩
    obtain ⟨a, _, rfl⟩ := List.mem_map.mp hb
    exact h a
  rw [this, List.sum_replicate_nat, Nat.mul_assoc]
theorem rounds_at {x y z a b c : Nat} (ha : a < x) (hb : b < y) (hc : c < z) : (rounds x y z)[(a * y + b) * z + c]? = some [a, b, c] := by
  have e : rounds x y z = ((List.range x).flatMap fun a => (List.range y).map fun b => (a, b)).flatMap fun p => (List.range z).map fun c => [p.1, p.2, c] := by
    unfold rounds
    rw [flatMap_flatMap']
    congr 1; funext a
    rw [List.flatMap_map]
  rw [e, flat_at hc, flat_at hb]
  simp [ha]
theorem instances_len (s : Nest) : (NestNs.instances s).length = s.n.getD 0 1 * s.n.getD 1 1 * s.n.getD 2 1 * s.stmts.length := by
  rw [instances_rounds, flat_len, rounds_len]
theorem instances_at {s : Nest} {i k : Nat} (hk : k < s.stmts.length) : (NestNs.instances s)[i * s.stmts.length + k]? = ((rounds (s.n.getD 0 1) (s.n.getD 1 1) (s.n.getD 2 1))[i]?).map fun x => (x, k) := by
  rw [instances_rounds, flat_at hk]
/-! The levels, by places. -/
/-- the level of v behind those that are done -/
def lev1 (s : Nest) (done : List (Inst × Nat)) (v : Inst) : Nat := done.foldl (fun (m : Nat) (u : Inst × Nat) => if m ≤ u.2 ∧ NestNs.meet s u.1 v = true then u.2 + 1 else m) 0
def levGo (s : Nest) (done : List (Inst × Nat)) (l : List Inst) : List (Inst × Nat) := l.foldl (fun (d : List (Inst × Nat)) (v : Inst) => d ++ [(v, lev1 s d v)]) done
theorem levels_go (s : Nest) : NestNs.levels s = levGo s [] (NestNs.instances s) := rfl
theorem levGo_len (s : Nest) : ∀ (l : List Inst) (d : List (Inst × Nat)), (levGo s d l).length = d.length + l.length
  | [], d => rfl
  | v :: l, d => by
    show (levGo s (d ++ [(v, lev1 s d v)]) l).length = _
    rw [levGo_len s l]; simp; omega
theorem levGo_pre (s : Nest) : ∀ (l : List Inst) (d : List (Inst × Nat)), (levGo s d l).take d.length = d
  | [], d => by simp [levGo]
  | v :: l, d => by
    show (levGo s (d ++ [(v, lev1 s d v)]) l).take d.length = _
    have h := levGo_pre s l (d ++ [(v, lev1 s d v)])
    have h2 := congrArg (List.take d.length) h
    rw [List.take_take] at h2
    simp at h2
    exact h2
theorem levGo_take (s : Nest) : ∀ (l : List Inst) (d : List (Inst × Nat)) (j : Nat) (v : Inst), l[j]? = some v →
    (levGo s d l).take (d.length + j + 1) = (levGo s d l).take (d.length + j) ++ [(v, lev1 s ((levGo s d l).take (d.length + j)) v)]
  | [], d, j, v, h => by simp at h
  | w :: l, d, 0, v, h => by
    have e : w = v := Option.some.inj h
    subst e
    have h1 := levGo_pre s (w :: l) d
    have h2 := levGo_pre s l (d ++ [(w, lev1 s d w)])
    simp only [Nat.add_zero]
    rw [h1]
    rw [List.length_append] at h2
    exact h2
  | w :: l, d, j + 1, v, h => by
    have ih := levGo_take s l (d ++ [(w, lev1 s d w)]) j v h
    rw [List.length_append] at ih
    have e1 : d.length + (j + 1) = d.length + [(w, lev1 s d w)].length + j := by simp; omega
    rw [e1]
    exact ih
theorem levels_len (s : Nest) : (NestNs.levels s).length = (NestNs.instances s).length := by
  rw [levels_go, levGo_len]; simp
theorem levels_take {s : Nest} {j : Nat} {v : Inst} (h : (NestNs.instances s)[j]? = some v) :
    (NestNs.levels s).take (j + 1) = (NestNs.levels s).take j ++ [(v, lev1 s ((NestNs.levels s).take j) v)] := by
  have := levGo_take s (NestNs.instances s) [] j v h
  simpa [levels_go] using this
theorem levels_at {s : Nest} {j : Nat} {v : Inst} (h : (NestNs.instances s)[j]? = some v) : (NestNs.levels s)[j]? = some (v, lev1 s ((NestNs.levels s).take j) v) := by
  have hj : j < (NestNs.levels s).length := by
    rw [levels_len]
    exact (List.getElem?_eq_some_iff.mp h).1
  have e := levels_take h
  have e2 := congrArg (fun l => l[j]?) e
  simp only [List.getElem?_take, if_pos (Nat.lt_succ_self j)] at e2
  rw [e2]
  have hl : ((NestNs.levels s).take j).length = j := by rw [List.length_take]; omega
  rw [List.getElem?_append_right (by omega), hl, Nat.sub_self]
  rfl
theorem levels_fst (s : Nest) {j : Nat} {x : Inst × Nat} (h : (NestNs.levels s)[j]? = some x) : (NestNs.instances s)[j]? = some x.1 := by
  have hj : j < (NestNs.instances s).length := by
    rw [← levels_len]
    exact (List.getElem?_eq_some_iff.mp h).1
  have e := List.getElem?_eq_getElem hj
  have := levels_at e
  rw [h] at this
  rw [e, Option.some.inj this]
/-- no instance stands twice -/
theorem rounds_get {x y z i : Nat} {r : List Nat} (h : (rounds x y z)[i]? = some r) : ∃ a b c, a < x ∧ b < y ∧ c < z ∧ i = (a * y + b) * z + c ∧ r = [a, b, c] := by
  have hi : i < x * y * z := by
    rw [← rounds_len]
    exact (List.getElem?_eq_some_iff.mp h).1
  have hz : 0 < z := Nat.pos_of_ne_zero fun e => by subst e; simp at hi
  have hy : 0 < y := Nat.pos_of_ne_zero fun e => by subst e; simp at hi
  have h1 : i / z < x * y := Nat.div_lt_of_lt_mul (by rw [Nat.mul_comm]; exact hi)
  have h2 : i / z / y < x := Nat.div_lt_of_lt_mul (by rw [Nat.mul_comm]; exact h1)
  have e : (i / z / y * y + i / z % y) * z + i % z = i := by
    rw [Nat.div_add_mod' (i / z) y, Nat.div_add_mod' i z]
  have := rounds_at (x := x) (y := y) (z := z) h2 (Nat.mod_lt (i / z) hy) (Nat.mod_lt i hz)
  rw [e, h] at this
  exact ⟨_, _, _, h2, Nat.mod_lt _ hy, Nat.mod_lt i hz, e.symm, Option.some.inj this⟩
theorem rounds_inj {x y z i j : Nat} {r : List Nat} (h : (rounds x y z)[i]? = some r) (h' : (rounds x y z)[j]? = some r) : i = j := by
  obtain ⟨a, b, c, _, _, _, e, rfl⟩ := rounds_get h
  obtain ⟨a', b', c', _, _, _, e', q⟩ := rounds_get h'
  injection q with q1 q
  injection q with q2 q
  injection q with q3 q
  subst q1 q2 q3
  rw [e, e']
theorem instances_get {s : Nest} {p : Nat} {u : Inst} (h : (NestNs.instances s)[p]? = some u) :
    ∃ i, p = i * s.stmts.length + u.2 ∧ u.2 < s.stmts.length ∧ (rounds (s.n.getD 0 1) (s.n.getD 1 1) (s.n.getD 2 1))[i]? = some u.1 := by
  have hp : p < (NestNs.instances s).length := (List.getElem?_eq_some_iff.mp h).1
  rw [instances_len] at hp
  have hm : 0 < s.stmts.length := Nat.pos_of_ne_zero fun e => by rw [e] at hp; simp at hp
  have e := Nat.div_add_mod' p s.stmts.length
  have := instances_at (s := s) (i := p / s.stmts.length) (Nat.mod_lt p hm)
  rw [e, h] at this
  cases q : (rounds (s.n.getD 0 1) (s.n.getD 1 1) (s.n.getD 2 1))[p / s.stmts.length]? with
  | none => rw [q] at this; cases this
  | some x =>
    rw [q] at this
    have this : some u = some (x, p % s.stmts.length) := this
    injection this with this
    subst this
    exact ⟨_, e.symm, Nat.mod_lt p hm, q⟩
theorem instances_inj {s : Nest} {p q : Nat} {u : Inst} (h : (NestNs.instances s)[p]? = some u) (h' : (NestNs.instances s)[q]? = some u) : p = q := by
  obtain ⟨i, e, _, hi⟩ := instances_get h
  obtain ⟨j, e', _, hj⟩ := instances_get h'
  rw [e, e', rounds_inj hi hj]
theorem levelOf_at {s : Nest} {j : Nat} {v : Inst} (h : (NestNs.instances s)[j]? = some v) : NestNs.levelOf s v = lev1 s ((NestNs.levels s).take j) v := by
  have e := levels_at h
  unfold NestNs.levelOf
  rw [find_some (j := j) e (by simp) ?_]
  · rfl
  · intro i u hi hu
    have hf := levels_fst s hu
    cases q : (u.1 == v) with
    | false => rfl
    | true =>
      have q' := eq_of_beq q
      rw [q'] at hf
      have := instances_inj hf h
      omega
end My

end
section
set_option autoImplicit false
namespace My
open NestNs (Nest Inst)
/-! The first pair by rounds and statements. -/
abbrev roundsOf (s : Nest) : List (List Nat) := rounds (s.n.getD 0 1) (s.n.getD 1 1) (s.n.getD 2 1)
/-! One call's form, and its answer. -/
theorem call_forms {p : Int} {n k : Nat} {ns : List Int} {xs : List (List Int)} (h : PyWqaeao.shape p = some (n, k)) (hn : ns.length = n) (hk : xs.length = k) :
    (∃ d r, p = 0 ∧ ns = [d] ∧ xs = [r]) ∨ (p = 1 ∧ ns = [] ∧ xs = []) ∨ (∃ a b c r, p = 2 ∧ ns = [a, b, c] ∧ xs = [r]) ∨ (∃ r q, p = 3 ∧ ns = [] ∧ xs = [r, q]) ∨ (∃ a b, p = 4 ∧ ns = [a, b] ∧ xs = []) ∨
    (∃ a, p = 5 ∧ ns = [a] ∧ xs = []) ∨ (∃ a r, p = 6 ∧ ns = [a] ∧ xs = [r]) ∨ (p = 7 ∧ ns = [] ∧ xs = []) ∨ (∃ r, p = 8 ∧ ns = [] ∧ xs = [r]) ∨ (∃ a, p = 9 ∧ ns = [a] ∧ xs = []) := by
  have one : ∀ {α : Type} {l : List α}, l.length = 1 → ∃ a, l = [a] := fun {α l} h => by
    match l, h with
    | [a], _ => exact ⟨a, rfl⟩
  have two : ∀ {α : Type} {l : List α}, l.length = 2 → ∃ a b, l = [a, b] := fun {α l} h => by
    match l, h with
    | [a, b], _ => exact ⟨a, b, rfl⟩
  have three : ∀ {α : Type} {l : List α}, l.length = 3 → ∃ a b c, l = [a, b, c] := fun {α l} h => by
    match l, h with
    | [a, b, c], _ => exact ⟨a, b, c, rfl⟩
  have nil : ∀ {α : Type} {l : List α}, l.length = 0 → l = [] := fun {α l} h => List.length_eq_zero_iff.mp h
  unfold PyWqaeao.shape at h
  split at h
  · rename_i e; injection h with h; injection h with h1 h2; subst h1 h2
    obtain ⟨d, rfl⟩ := one hn; obtain ⟨r, rfl⟩ := one hk
    exact .inl ⟨d, r, e, rfl, rfl⟩
  split at h
  · rename_i e; injection h with h; injection h with h1 h2; subst h1 h2
    exact .inr (.inl ⟨e, nil hn, nil hk⟩)
  split at h
  · rename_i e; injection h with h; injection h with h1 h2; subst h1 h2
    obtain ⟨a, b, c, rfl⟩ := three hn; obtain ⟨r, rfl⟩ := one hk
    exact .inr (.inr (.inl ⟨a, b, c, r, e, rfl, rfl⟩))
  split at h
  · rename_i e; injection h with h; injection h with h1 h2; subst h1 h2
    obtain ⟨r, q, rfl⟩ := two hk
    exact .inr (.inr (.inr (.inl ⟨r, q, e, nil hn, rfl⟩)))
  split at h
  · rename_i e; injection h with h; injection h with h1 h2; subst h1 h2
    obtain ⟨a, b, rfl⟩ := two hn
    exact .inr (.inr (.inr (.inr (.inl ⟨a, b, e, rfl, nil hk⟩))))
  split at h
  · rename_i e; injection h with h; injection h with h1 h2; subst h1 h2
    obtain ⟨a, rfl⟩ := one hn
    exact .inr (.inr (.inr (.inr (.inr (.inl ⟨a, e, rfl, nil hk⟩)))))
  split at h
  · rename_i e; injection h with h; injection h with h1 h2; subst h1 h2
    obtain ⟨a, rfl⟩ := one hn; obtain ⟨r, rfl⟩ := one hk
    exact .inr (.inr (.inr (.inr (.inr (.inr (.inl ⟨a, r, e, rfl, rfl⟩))))))
  split at h
  · rename_i e; injection h with h; injection h with h1 h2; subst h1 h2
    exact .inr (.inr (.inr (.inr (.inr (.inr (.inr (.inl ⟨e, nil hn, nil hk⟩)))))))
  split at h
  · rename_i e; injection h with h; injection h with h1 h2; subst h1 h2
    obtain ⟨r, rfl⟩ := one hk
    exact .inr (.inr (.inr (.inr (.inr (.inr (.inr (.inr (.inl ⟨r, e, nil hn, rfl⟩))))))))
  split at h
  · rename_i e; injection h with h; injection h with h1 h2; subst h1 h2
    obtain ⟨a, rfl⟩ := one hn
    exact .inr (.inr (.inr (.inr (.inr (.inr (.inr (.inr (.inr ⟨a, e, rfl, nil hk⟩))))))))
  · cases h
/-- a call as the reader takes it -/
def Shaped (c : List (List Int)) : Prop := ∃ (p : Int) (ns : List Int) (xs : List (List Int)), c = (p :: ns) :: xs ∧ PyWqaeao.shape p = some (ns.length, xs.length)
theorem calls_all {l : List Int} : ∀ (m q f : Nat) (cs : List (List (List Int))), l.length - q ≤ m → PyFlat.calls PyWqaeao.shape f (l.drop q) = some cs → ∀ c ∈ cs, Shaped c := by
  intro m
  induction m with
  | zero =>
    intro q f cs hm h c hc
    rw [List.drop_eq_nil_of_le (by omega)] at h
    rw [calls_end h] at hc
    cases hc
  | succ m ih =>
    intro q f cs hm h c hc
    by_cases hq : q < l.length
    · obtain ⟨p, n, k, xs, cs', f', _, h2, h3, _, h5, h6, h7, h8⟩ := calls_step hq h
      subst h7
      rcases List.mem_cons.mp hc with rfl | hc
      · exact ⟨p, _, xs, rfl, by rw [h2, h6, List.length_take, List.length_drop, Nat.min_eq_left (by omega)]⟩
      · exact ih _ f' cs' (by omega) h8 c hc
    · rw [List.drop_eq_nil_of_le (by omega)] at h
      rw [calls_end h] at hc
      cases hc
theorem whole_shaped {c : List (List Int)} (h : Shaped c) : PyWqaeao.whole c = c := by
  obtain ⟨p, ns, xs, rfl, h⟩ := h
  rcases call_forms h rfl rfl with ⟨_, _, rfl, rfl, rfl⟩ | ⟨rfl, rfl, rfl⟩ | ⟨_, _, _, _, rfl, rfl, rfl⟩ | ⟨_, _, rfl, rfl, rfl⟩ | ⟨_, _, rfl, rfl, rfl⟩ | ⟨_, rfl, rfl, rfl⟩ | ⟨_, _, rfl, rfl, rfl⟩ | ⟨rfl, rfl, rfl⟩ | ⟨_, rfl, rfl, rfl⟩ | ⟨_, rfl, rfl, rfl⟩ <;> rfl
theorem calls_whole (l : List Int) : PyWqaeao.calls l = PyFlat.calls PyWqaeao.shape l.length l := by
  unfold PyWqaeao.calls
  cases e : PyFlat.calls PyWqaeao.shape l.length l with
  | none => rfl
  | some cs =>
    show some (cs.map PyWqaeao.whole) = some cs
    congr 1
    have : ∀ c ∈ cs, PyWqaeao.whole c = id c := fun c hc => whole_shaped (calls_all l.length 0 _ cs (by omega) e c hc)
    rw [List.map_congr_left this, List.map_id]
theorem told_cons (a : List Int) (l : List (List Int)) : PyFlat.told (a :: l) = (a.length : Int) :: a ++ PyFlat.told l := by
  simp [PyFlat.told]
theorem played_cons (s : NestNs.State) (c : List (List Int)) (r : List (List (List Int))) :
    PyFlat.played NestNeutral.step s (c :: r) = (NestNeutral.step s c).2 :: PyFlat.played NestNeutral.step (NestNeutral.step s c).1 r := rfl
/-- the state behind some calls -/
def stateBy (s : NestNs.State) (cs : List (List (List Int))) : NestNs.State := cs.foldl (fun s c => (NestNeutral.step s c).1) s
theorem told_snoc (l : List (List Int)) (a : List Int) : PyFlat.told (l ++ [a]) = PyFlat.told l ++ ((a.length : Int) :: a) := by
  simp [PyFlat.told]
theorem played_snoc (c : List (List Int)) : ∀ (cs : List (List (List Int))) (s : NestNs.State),
    PyFlat.played NestNeutral.step s (cs ++ [c]) = PyFlat.played NestNeutral.step s cs ++ [(NestNeutral.step (stateBy s cs) c).2]
  | [], s => rfl
  | d :: cs, s => by
    show (NestNeutral.step s d).2 :: PyFlat.played NestNeutral.step (NestNeutral.step s d).1 (cs ++ [c]) = _
    rw [played_snoc c cs]
    rfl
theorem stateBy_snoc (s : NestNs.State) (cs : List (List (List Int))) (c : List (List Int)) : stateBy s (cs ++ [c]) = (NestNeutral.step (stateBy s cs) c).1 := by
  simp [stateBy]
/-- what «asked» says of each call: its form and its numbers' bounds -/
theorem asked_calls {l : List Int} (h : PyWqaeao.answers_asked l = true) : ∃ cs, PyFlat.calls PyWqaeao.shape l.length l = some cs ∧ (∀ c ∈ cs, NestNeutral.asked1 c = true ∧ Shaped c) ∧ 1 ≤ cs.length ∧ cs.length ≤ 400 ∧
    PyWqaeao.answers l = PyFlat.told (PyFlat.played NestNeutral.step NestNeutral.start cs) := by
  unfold PyWqaeao.answers_asked at h
  unfold PyWqaeao.answers
  rw [calls_whole] at h ⊢
  cases e : PyFlat.calls PyWqaeao.shape l.length l with
  | none => rw [e] at h; cases h
  | some cs =>
    rw [e] at h
    simp only [Bool.and_eq_true, NestNeutral.asked, List.all_eq_true, decide_eq_true_eq] at h
    exact ⟨cs, rfl, fun c hc => ⟨h.2.1 c hc, calls_all l.length 0 _ cs (by omega) e c hc⟩, h.2.2.1, h.2.2.2, rfl⟩
end My

end
section
set_option autoImplicit false
namespace My
open NestNs (Nest Inst)
/-! A new nest, an instance, an access: as the program asks for them. -/
theorem nestOf_bad {d : Nat} {n : List Nat} (h : ¬ (1 ≤ d ∧ d ≤ 3 ∧ n.length = d)) : NestNs.nestOf d n = none := by
  simp only [NestNs.nestOf]
  rw [if_neg]
  rintro ⟨a, b, c, _⟩
  exact h ⟨a, b, c⟩
theorem prod_pos : ∀ {x y : Nat}, 1 ≤ x * y ↔ 1 ≤ x ∧ 1 ≤ y
  | 0, y => by simp
  | x + 1, 0 => by simp
  | x + 1, y + 1 => by
    constructor
    · intro _; omega
    · intro _; exact Nat.mul_pos (Nat.succ_pos _) (Nat.succ_pos _)
theorem nestOf_eq {d : Nat} {n : List Nat} (h1 : 1 ≤ d) (h3 : d ≤ 3) (hn : n.length = d) :
    NestNs.nestOf d n = if 1 ≤ n.foldl (· * ·) 1 ∧ n.foldl (· * ·) 1 ≤ 64 then some ⟨d, n ++ List.replicate (3 - d) 1, []⟩ else none := by
  match n, hn with
  | [], hn => simp at hn; omega
  | [a], hn =>
    have e : d = 1 := by simpa using hn.symm
    subst e
    simp [NestNs.nestOf, NestNs.INSIDE]
  | [a, b], hn =>
    have e : d = 2 := by simpa using hn.symm
    subst e
    simp [NestNs.nestOf, NestNs.INSIDE, prod_pos, and_assoc]
  | [a, b, c], hn =>
    have e : d = 3 := by simpa using hn.symm
    subst e
    simp [NestNs.nestOf, NestNs.INSIDE, prod_pos, and_assoc]
  | a :: b :: c :: e :: r, hn => simp at hn; omega
/-- the padded lengths -/
theorem pad_len {d : Nat} {n : List Nat} (h3 : d ≤ 3) (hn : n.length = d) : (n ++ List.replicate (3 - d) 1).length = 3 := by
  simp; omega
theorem instOf_bad {s : Nest} {u : List Nat} (h : u.length ≠ 4) : NestNs.instOf s u = none := by
  simp only [NestNs.instOf]
  rw [if_neg]
  rintro ⟨a, _⟩
  exact h a
theorem instOf_four {s : Nest} {a b c k : Nat} :
    NestNs.instOf s [a, b, c, k] = if a < s.n.getD 0 1 ∧ b < s.n.getD 1 1 ∧ c < s.n.getD 2 1 ∧ k < s.stmts.length then some ([a, b, c], k) else none := by
  have hr : List.range 3 = [0, 1, 2] := rfl
  simp [NestNs.instOf, hr, and_assoc]
theorem instOf_at {s : Nest} {u : List Nat} {v : Inst} (h : NestNs.instOf s u = some v) :
    ∃ a b c k, u = [a, b, c, k] ∧ v = ([a, b, c], k) ∧ a < s.n.getD 0 1 ∧ b < s.n.getD 1 1 ∧ c < s.n.getD 2 1 ∧ k < s.stmts.length ∧ (roundsOf s)[(a * s.n.getD 1 1 + b) * s.n.getD 2 1 + c]? = some [a, b, c] := by
  by_cases hl : u.length = 4
  · match u, hl with
    | [a, b, c, k], _ =>
      rw [instOf_four] at h
      split at h
      · rename_i q
        obtain ⟨q1, q2, q3, q4⟩ := q
        exact ⟨a, b, c, k, rfl, (Option.some.inj h).symm, q1, q2, q3, q4, rounds_at q1 q2 q3⟩
      · cases h
  · rw [instOf_bad hl] at h; cases h
end My

end
section
set_option autoImplicit false
namespace My
open NestNs (Nest Inst)
/-! Steps, levels, how many: by places, in loops' form. -/
theorem snoc_take {α : Type} {l : List α} {i : Nat} {x : α} (h : l[i]? = some x) : l.take (i + 1) = l.take i ++ [x] := by
  rw [List.take_add_one, h]; rfl
/-- the level of v by the first i instances -/
def levUp (s : Nest) (v : Inst) (i : Nat) : Nat := lev1 s ((NestNs.levels s).take i) v
theorem levUp_zero (s : Nest) (v : Inst) : levUp s v 0 = 0 := rfl
theorem levUp_step {s : Nest} {i : Nat} {u v : Inst} (hu : (NestNs.instances s)[i]? = some u) :
    levUp s v (i + 1) = if NestNs.meet s u v = true then max (levUp s v i) (levUp s u i + 1) else levUp s v i := by
  have h := levels_at hu
  unfold levUp
  rw [snoc_take h]
  unfold lev1
  rw [List.foldl_append]
  show (if _ ≤ _ ∧ NestNs.meet s u v = true then _ else _) = _
  by_cases hm : NestNs.meet s u v = true
  · rw [if_pos hm]
    split
    · rename_i q
      have := q.1
      exact (Nat.max_eq_right (by simp only at this ⊢; omega)).symm
    · rename_i q
      have : ¬ _ := fun z => q ⟨z, hm⟩
      refine (Nat.max_eq_left ?_).symm
      simp only at this ⊢
      omega
  · rw [if_neg hm, if_neg (fun z => hm z.2)]
theorem levelOf_up {s : Nest} {j : Nat} {v : Inst} (h : (NestNs.instances s)[j]? = some v) : NestNs.levelOf s v = levUp s v j := levelOf_at h
theorem levels_up {s : Nest} {j : Nat} {v : Inst} (h : (NestNs.instances s)[j]? = some v) : (NestNs.levels s)[j]? = some (v, levUp s v j) := levels_at h
end My

end
section
set_option autoImplicit false
namespace My
open NestNs (Nest Inst)
/-! How long an answer is. -/
theorem pairIn_mem {s : Nest} {p : Inst → Inst → Bool} {u v : Inst} : ∀ {l : List Inst}, NestNs.pairIn s p l = some (u, v) → u ∈ l ∧ v ∈ l
  | [], h => by cases h
  | a :: l, h => by
    unfold NestNs.pairIn at h
    cases e : l.find? (fun (v : Inst) => p a v && NestNs.meet s a v) with
    | none =>
      rw [e] at h
      obtain ⟨h1, h2⟩ := pairIn_mem (l := l) h
      exact ⟨List.mem_cons_of_mem _ h1, List.mem_cons_of_mem _ h2⟩
    | some w =>
      rw [e] at h
      injection h with h
      injection h with h1 h2
      subst h1 h2
      exact ⟨List.mem_cons_self, List.mem_cons_of_mem _ (List.mem_of_find?_eq_some e)⟩
theorem inst_len {s : Nest} {u : Inst} (h : u ∈ NestNs.instances s) : (NestNs.numbers u).length = 4 := by
  obtain ⟨i, hi⟩ := List.mem_iff_getElem?.mp h
  obtain ⟨j, _, _, hr⟩ := instances_get hi
  obtain ⟨a, b, c, _, _, _, _, e⟩ := rounds_get hr
  unfold NestNs.numbers
  rw [e]
  rfl
theorem shown_len (s : Nest) (p : Inst → Inst → Bool) : (NestNeutral.numbersOf (NestNs.shown (NestNs.firstPair s p))).length ≤ 11 := by
  cases e : NestNs.firstPair s p with
  | none => decide
  | some x =>
    obtain ⟨u, v⟩ := x
    obtain ⟨h1, h2⟩ := pairIn_mem e
    simp [NestNs.shown, NestNs.tells, NestNeutral.numbersOf, NestNs.ints, inst_len h1, inst_len h2]
theorem says_len (z : Int) : (NestNeutral.numbersOf (NestNs.says z)).length ≤ 11 := by
  show 3 ≤ 11
  decide
theorem on_len (s : Nest) (c : NestNs.Call) : (NestNeutral.numbersOf (NestNs.on s c).2).length ≤ 11 := by
  cases c with
  | init d n => exact says_len _
  | stmt =>
    unfold NestNs.on
    dsimp only
    split <;> exact says_len _
  | access i a w e =>
    unfold NestNs.on
    dsimp only
    split
    · exact says_len _
    · split
      · exact says_len _
      · split <;> exact says_len _
  | meet u v =>
    show (NestNeutral.numbersOf (match NestNs.instOf s u, NestNs.instOf s v with | some x, some y => NestNs.says (if NestNs.meet s x y = true then 1 else 0) | _, _ => NestNs.says (-1))).length ≤ 11
    split <;> exact says_len _
  | dep i j =>
    show (NestNeutral.numbersOf (if _ then _ else _)).length ≤ 11
    split
    · exact shown_len _ _
    · exact says_len _
  | carried l =>
    show (NestNeutral.numbersOf (if _ then _ else _)).length ≤ 11
    split
    · exact shown_len _ _
    · exact says_len _
  | try_ k r =>
    show (NestNeutral.numbersOf (if _ then _ else _)).length ≤ 11
    split
    · exact shown_len _ _
    · exact says_len _
  | steps => exact says_len _
  | level u =>
    show (NestNeutral.numbersOf (match NestNs.instOf s u with | some x => _ | none => _)).length ≤ 11
    split <;> exact says_len _
  | at_ l => exact says_len _
theorem step_len (st : NestNs.State) (c : NestNs.Call) : (NestNeutral.numbersOf (NestNs.step st c).2).length ≤ 11 := by
  unfold NestNs.step
  split
  · split <;> exact says_len _
  · split
    · exact says_len _
    · exact on_len _ _
theorem neutral_len (st : NestNs.State) (c : List (List Int)) : (NestNeutral.step st c).2.length ≤ 11 := by
  unfold NestNeutral.step
  split
  · exact step_len _ _
  · exact Nat.zero_le _
theorem told_len : ∀ (cs : List (List (List Int))) (st : NestNs.State), (PyFlat.told (PyFlat.played NestNeutral.step st cs)).length ≤ 12 * cs.length
  | [], _ => Nat.le_refl _
  | c :: cs, st => by
    rw [played_cons, told_cons]
    have h1 := neutral_len st c
    have h2 := told_len cs (NestNeutral.step st c).1
    simp only [List.length_append, List.length_cons] at h2 ⊢
    omega
end My

end
section
set_option autoImplicit false
namespace My
/-! What may be asked, form by form. -/
theorem natural_iff {z : Int} (h : NestNeutral.natural z 64 = true) : 0 ≤ z ∧ z < 2 ^ 64 := by
  simp only [NestNeutral.natural, Bool.and_eq_true, decide_eq_true_eq] at h
  exact h
theorem naturals {l : List Int} (h : l.all (fun (z : Int) => NestNeutral.natural z 64) = true) : ∀ z ∈ l, 0 ≤ z ∧ z < 2 ^ 64 := fun z hz => natural_iff (List.all_eq_true.mp h z hz)
theorem signeds {l : List Int} (h : l.all (fun (z : Int) => decide (-(2 ^ 63) ≤ z) && decide (z < 2 ^ 63)) = true) : ∀ z ∈ l, -(2 ^ 63) ≤ z ∧ z < 2 ^ 63 := fun z hz => by
  have := List.all_eq_true.mp h z hz
  simp only [Bool.and_eq_true, decide_eq_true_eq] at this
  exact this
theorem nats_lt {l : List Int} (h : ∀ z ∈ l, 0 ≤ z ∧ z < 2 ^ 64) : ∀ v ∈ NestNeutral.nats l, v < 2 ^ 64 := fun v hv => by
  obtain ⟨z, hz, rfl⟩ := List.mem_map.mp hv
  have := h z hz
  omega
/-- a natural number of 64 bits -/
def N64 (z : Int) : Prop := 0 ≤ z ∧ z < 2 ^ 64
/-- the same, by the call's number -/
structure Form (k : Int) (ns : List Int) (xs : List (List Int)) : Prop where
  f0 : k = 0 → ∃ d r, ns = [d] ∧ xs = [r] ∧ N64 d ∧ ∀ z ∈ r, N64 z
  f1 : k = 1 → ns = [] ∧ xs = []
  f2 : k = 2 → ∃ a b w e, ns = [a, b, w] ∧ xs = [e] ∧ N64 a ∧ N64 b ∧ N64 w ∧ ∀ z ∈ e, -(2 ^ 63) ≤ z ∧ z < 2 ^ 63
  f3 : k = 3 → ∃ u v, ns = [] ∧ xs = [u, v] ∧ (∀ z ∈ u, N64 z) ∧ ∀ z ∈ v, N64 z
  f4 : k = 4 → ∃ a b, ns = [a, b] ∧ xs = [] ∧ N64 a ∧ N64 b
  f5 : k = 5 → ∃ l, ns = [l] ∧ xs = [] ∧ N64 l
  f6 : k = 6 → ∃ a r, ns = [a] ∧ xs = [r] ∧ N64 a ∧ ∀ z ∈ r, -(2 ^ 63) ≤ z ∧ z < 2 ^ 63
  f7 : k = 7 → ns = [] ∧ xs = []
  f8 : k = 8 → ∃ u, ns = [] ∧ xs = [u] ∧ ∀ z ∈ u, N64 z
  f9 : k = 9 → ∃ l, ns = [l] ∧ xs = [] ∧ N64 l
  all : k = 0 ∨ k = 1 ∨ k = 2 ∨ k = 3 ∨ k = 4 ∨ k = 5 ∨ k = 6 ∨ k = 7 ∨ k = 8 ∨ k = 9
  beg : k ≠ 0 → NestNeutral.step none ((k :: ns) :: xs) = (none, NestNeutral.numbersOf (NestNs.says (-8)))
theorem form_of {k : Int} {ns : List Int} {xs : List (List Int)} (h : NestNeutral.asked1 ((k :: ns) :: xs) = true) (hs : PyWqaeao.shape k = some (ns.length, xs.length)) : Form k ns xs := by
  have no : ∀ {a b : Int} {p : Prop}, (a == b) = false → a = b → p := fun e q => by rw [q, beq_self_eq_true] at e; cases e
  rcases call_forms hs rfl rfl with ⟨a, r, rfl, rfl, rfl⟩ | ⟨rfl, rfl, rfl⟩ | ⟨a, b, w, e, rfl, rfl, rfl⟩ | ⟨u, v, rfl, rfl, rfl⟩ | ⟨a, b, rfl, rfl, rfl⟩ | ⟨a, rfl, rfl, rfl⟩ | ⟨a, r, rfl, rfl, rfl⟩ | ⟨rfl, rfl, rfl⟩ | ⟨u, rfl, rfl, rfl⟩ | ⟨a, rfl, rfl, rfl⟩
  · have h : (NestNeutral.natural a 64 && r.all fun (z : Int) => NestNeutral.natural z 64) = true := h
    rw [Bool.and_eq_true] at h
    exact ⟨fun _ => ⟨_, _, rfl, rfl, natural_iff h.1, naturals h.2⟩, no rfl, no rfl, no rfl, no rfl, no rfl, no rfl, no rfl, no rfl, no rfl, by decide, fun q => absurd rfl q⟩
  · exact ⟨no rfl, fun _ => ⟨rfl, rfl⟩, no rfl, no rfl, no rfl, no rfl, no rfl, no rfl, no rfl, no rfl, by decide, fun _ => rfl⟩
  · have h : (NestNeutral.natural a 64 && NestNeutral.natural b 64 && NestNeutral.natural w 64 && e.all fun (z : Int) => decide (-(2 ^ 63) ≤ z) && decide (z < 2 ^ 63)) = true := h
    rw [Bool.and_eq_true, Bool.and_eq_true, Bool.and_eq_true] at h
    exact ⟨no rfl, no rfl, fun _ => ⟨_, _, _, _, rfl, rfl, natural_iff h.1.1.1, natural_iff h.1.1.2, natural_iff h.1.2, signeds h.2⟩, no rfl, no rfl, no rfl, no rfl, no rfl, no rfl, no rfl, by decide, fun _ => rfl⟩
  · have h : ((u.all fun (z : Int) => NestNeutral.natural z 64) && v.all fun (z : Int) => NestNeutral.natural z 64) = true := h
    rw [Bool.and_eq_true] at h
    exact ⟨no rfl, no rfl, no rfl, fun _ => ⟨_, _, rfl, rfl, naturals h.1, naturals h.2⟩, no rfl, no rfl, no rfl, no rfl, no rfl, no rfl, by decide, fun _ => rfl⟩
  · have h : (NestNeutral.natural a 64 && NestNeutral.natural b 64) = true := h
    rw [Bool.and_eq_true] at h
    exact ⟨no rfl, no rfl, no rfl, no rfl, fun _ => ⟨_, _, rfl, rfl, natural_iff h.1, natural_iff h.2⟩, no rfl, no rfl, no rfl, no rfl, no rfl, by decide, fun _ => rfl⟩
  · exact ⟨no rfl, no rfl, no rfl, no rfl, no rfl, fun _ => ⟨_, rfl, rfl, natural_iff h⟩, no rfl, no rfl, no rfl, no rfl, by decide, fun _ => rfl⟩
  · have h : (NestNeutral.natural a 64 && r.all fun (z : Int) => decide (-(2 ^ 63) ≤ z) && decide (z < 2 ^ 63)) = true := h
    rw [Bool.and_eq_true] at h
    exact ⟨no rfl, no rfl, no rfl, no rfl, no rfl, no rfl, fun _ => ⟨_, _, rfl, rfl, natural_iff h.1, signeds h.2⟩, no rfl, no rfl, no rfl, by decide, fun _ => rfl⟩
  · exact ⟨no rfl, no rfl, no rfl, no rfl, no rfl, no rfl, no rfl, fun _ => ⟨rfl, rfl⟩, no rfl, no rfl, by decide, fun _ => rfl⟩
  · exact ⟨no rfl, no rfl, no rfl, no rfl, no rfl, no rfl, no rfl, no rfl, fun _ => ⟨_, rfl, rfl, naturals h⟩, no rfl, by decide, fun _ => rfl⟩
  · exact ⟨no rfl, no rfl, no rfl, no rfl, no rfl, no rfl, no rfl, no rfl, no rfl, fun _ => ⟨_, rfl, rfl, natural_iff h⟩, by decide, fun _ => rfl⟩
end My

end
section
set_option autoImplicit false
namespace My
open NestNs (Nest Inst)
/-! Meeting pairs by places, as one list; levels by going through it. -/
def instAt (s : Nest) (i : Nat) : Inst := (NestNs.instances s).getD i ([], 0)
theorem instAt_get {s : Nest} {i : Nat} (h : i < (NestNs.instances s).length) : (NestNs.instances s)[i]? = some (instAt s i) := by
  unfold instAt
  rw [List.getD_eq_getElem?_getD, List.getElem?_eq_getElem h]; rfl
theorem instAt_of {s : Nest} {i : Nat} {u : Inst} (h : (NestNs.instances s)[i]? = some u) : instAt s i = u := by
  unfold instAt
  rw [List.getD_eq_getElem?_getD, h]; rfl
def rowTo (f : Nat → Nat → Bool) (i k : Nat) : List (Nat × Nat) := ((List.range k).filter fun j => f i (i + 1 + j)).map fun j => (i, i + 1 + j)
def pairsTo (f : Nat → Nat → Bool) (n i : Nat) : List (Nat × Nat) := (List.range i).flatMap fun a => rowTo f a (n - (a + 1))
theorem rowTo_succ (f : Nat → Nat → Bool) (i k : Nat) : rowTo f i (k + 1) = rowTo f i k ++ if f i (i + 1 + k) = true then [(i, i + 1 + k)] else [] := by
  unfold rowTo
  rw [List.range_succ, List.filter_append, List.map_append]
  congr 1
  by_cases h : f i (i + 1 + k) = true <;> simp [h]
theorem pairsTo_succ (f : Nat → Nat → Bool) (n i : Nat) : pairsTo f n (i + 1) = pairsTo f n i ++ rowTo f i (n - (i + 1)) := by
  unfold pairsTo
  rw [List.range_succ, List.flatMap_append, List.flatMap_cons, List.flatMap_nil, List.append_nil]
theorem rowTo_len (f : Nat → Nat → Bool) (i k : Nat) : (rowTo f i k).length ≤ k := by
  unfold rowTo
  rw [List.length_map]
  exact Nat.le_trans (List.length_filter_le _ _) (Nat.le_of_eq List.length_range)
theorem pairsTo_len (f : Nat → Nat → Bool) (n : Nat) : ∀ i, (pairsTo f n i).length ≤ i * n
  | 0 => by simp [pairsTo]
  | i + 1 => by
    rw [pairsTo_succ, List.length_append, Nat.add_mul]
    have h1 := pairsTo_len f n i
    have h2 := rowTo_len f i (n - (i + 1))
    omega
theorem pairsTo_mem {f : Nat → Nat → Bool} {n i : Nat} {x : Nat × Nat} (h : x ∈ pairsTo f n i) : x.1 < x.2 ∧ x.2 < n ∧ f x.1 x.2 = true := by
  unfold pairsTo rowTo at h
  simp only [List.mem_flatMap, List.mem_map, List.mem_filter, List.mem_range] at h
  obtain ⟨a, ha, j, ⟨hj, hf⟩, rfl⟩ := h
  exact ⟨by show a < a + 1 + j; omega, by show a + 1 + j < n; omega, hf⟩
theorem pairsTo_congr {f g : Nat → Nat → Bool} {n : Nat} (h : ∀ a b, a < b → b < n → f a b = g a b) (i : Nat) : pairsTo f n i = pairsTo g n i := by
  unfold pairsTo
  congr 1
  funext a
  unfold rowTo
  congr 1
  refine List.filter_congr fun j hj => ?_
  have := List.mem_range.mp hj
  exact h _ _ (by omega) (by omega)
def meetF (s : Nest) (i j : Nat) : Bool := NestNs.meet s (instAt s i) (instAt s j)
def pairsOf (s : Nest) : List (Nat × Nat) := pairsTo (meetF s) (NestNs.instances s).length (NestNs.instances s).length
def pl (s : Nest) : List Inst → List (Inst × Inst)
  | [] => []
  | u :: l => ((l.filter fun v => NestNs.meet s u v).map fun v => (u, v)) ++ pl s l
theorem pairIn_pl (s : Nest) (p : Inst → Inst → Bool) : ∀ l, NestNs.pairIn s p l = (pl s l).find? fun x => p x.1 x.2
  | [] => rfl
  | u :: l => by
    unfold NestNs.pairIn pl
    have e : ((l.filter fun v => NestNs.meet s u v).map fun v => (u, v)).find? (fun x => p x.1 x.2) = (l.find? fun v => p u v && NestNs.meet s u v).map fun v => (u, v) := by
      rw [List.find?_map, List.find?_filter]
      congr 2
      funext v
      show (decide (NestNs.meet s u v = true ∧ p u v = true)) = (p u v && NestNs.meet s u v)
      cases NestNs.meet s u v <;> cases p u v <;> rfl
    rw [List.find?_append, e, pairIn_pl s p l]
    cases l.find? fun v => p u v && NestNs.meet s u v <;> rfl
def two (s : Nest) (x : Nat × Nat) : Inst × Inst := (instAt s x.1, instAt s x.2)
theorem drop_range (s : Nest) (i : Nat) : (NestNs.instances s).drop i = (List.range ((NestNs.instances s).length - i)).map fun j => instAt s (i + j) := by
  refine List.ext_getElem? fun j => ?_
  rw [List.getElem?_drop, List.getElem?_map]
  by_cases h : i + j < (NestNs.instances s).length
  · rw [instAt_get h, List.getElem?_range (by omega)]; rfl
  · rw [List.getElem?_eq_none (by omega), List.getElem?_eq_none (by rw [List.length_range]; omega)]; rfl
theorem pl_drop {s : Nest} {i : Nat} (h : i < (NestNs.instances s).length) :
    pl s ((NestNs.instances s).drop i) = (rowTo (meetF s) i ((NestNs.instances s).length - (i + 1))).map (two s) ++ pl s ((NestNs.instances s).drop (i + 1)) := by
  rw [List.drop_eq_getElem_cons h]
  have e : (NestNs.instances s)[i] = instAt s i := by
    have := instAt_get h
    rw [List.getElem?_eq_getElem h] at this
    exact Option.some.inj this
  rw [e]
  show _ ++ _ = _ ++ _
  congr 1
  rw [drop_range, List.filter_map, List.map_map]
  unfold rowTo
  rw [List.map_map]
  rfl
theorem pl_pairs (s : Nest) : ∀ i, i ≤ (NestNs.instances s).length → pl s (NestNs.instances s) = (pairsTo (meetF s) (NestNs.instances s).length i).map (two s) ++ pl s ((NestNs.instances s).drop i)
  | 0, _ => rfl
  | i + 1, h => by
    rw [pl_pairs s i (by omega), pl_drop h, pairsTo_succ, List.map_append, List.append_assoc]
theorem fp_pairs (s : Nest) (p : Inst → Inst → Bool) : NestNs.firstPair s p = ((pairsOf s).map (two s)).find? fun x => p x.1 x.2 := by
  unfold NestNs.firstPair pairsOf
  rw [pairIn_pl, pl_pairs s _ (Nat.le_refl _), List.drop_eq_nil_of_le (Nat.le_refl _)]
  show List.find? _ (_ ++ []) = _
  rw [List.append_nil]
theorem fpp_some {s : Nest} {p : Inst → Inst → Bool} {k : Nat} {x : Nat × Nat} (hx : (pairsOf s)[k]? = some x) (hp : p (instAt s x.1) (instAt s x.2) = true)
    (h : ∀ (k' : Nat) (y : Nat × Nat), k' < k → (pairsOf s)[k']? = some y → p (instAt s y.1) (instAt s y.2) = false) : NestNs.firstPair s p = some (instAt s x.1, instAt s x.2) := by
  rw [fp_pairs]
  refine find_some (j := k) (v := two s x) (by rw [List.getElem?_map, hx]; rfl) hp fun i u hi hu => ?_
  rw [List.getElem?_map] at hu
  cases e : (pairsOf s)[i]? with
  | none => rw [e] at hu; cases hu
  | some y =>
    rw [e] at hu
    have : two s y = u := Option.some.inj hu
    rw [← this]
    exact h i y hi e
theorem fpp_none {s : Nest} {p : Inst → Inst → Bool} (h : ∀ (k' : Nat) (y : Nat × Nat), (pairsOf s)[k']? = some y → p (instAt s y.1) (instAt s y.2) = false) : NestNs.firstPair s p = none := by
  rw [fp_pairs]
  refine find_none fun i u hu => ?_
  rw [List.getElem?_map] at hu
  cases e : (pairsOf s)[i]? with
  | none => rw [e] at hu; cases hu
  | some y =>
    rw [e] at hu
    have : two s y = u := Option.some.inj hu
    rw [← this]
    exact h i y e
/-! levels -/
def relax1 (lv : List Nat) (x : Nat × Nat) : List Nat := lv.set x.2 (max (lv.getD x.2 0) (lv.getD x.1 0 + 1))
def relax (lv : List Nat) (ps : List (Nat × Nat)) : List Nat := ps.foldl relax1 lv
theorem relax_snoc (lv : List Nat) (ps : List (Nat × Nat)) (x : Nat × Nat) : relax lv (ps ++ [x]) = relax1 (relax lv ps) x := by
  unfold relax; rw [List.foldl_append]; rfl
theorem relax_append (lv : List Nat) (ps qs : List (Nat × Nat)) : relax lv (ps ++ qs) = relax (relax lv ps) qs := by
  unfold relax; rw [List.foldl_append]
theorem relax_len : ∀ (ps : List (Nat × Nat)) (lv : List Nat), (relax lv ps).length = lv.length
  | [], _ => rfl
  | x :: ps, lv => by
    show (relax (relax1 lv x) ps).length = _
    rw [relax_len ps]
    unfold relax1
    rw [List.length_set]
theorem getD_set {l : List Nat} {i j v : Nat} (h : i < l.length) : (l.set i v).getD j 0 = if i = j then v else l.getD j 0 := by
  rw [List.getD_eq_getElem?_getD, List.getD_eq_getElem?_getD, List.getElem?_set]
  by_cases e : i = j
  · subst e; rw [if_pos rfl, if_pos rfl, if_pos h]; rfl
  · rw [if_neg e, if_neg e]
theorem relax_row {f : Nat → Nat → Bool} {lv : List Nat} {i : Nat} : ∀ k, i + 1 + k ≤ lv.length → ∀ j, (relax lv (rowTo f i k)).getD j 0 = if i < j ∧ j < i + 1 + k ∧ f i j = true then max (lv.getD j 0) (lv.getD i 0 + 1) else lv.getD j 0
  | 0, _, j => by
    rw [if_neg (by omega)]
    rfl
  | k + 1, h, j => by
    have ih := relax_row (f := f) (lv := lv) (i := i) k (by omega)
    rw [rowTo_succ]
    by_cases hf : f i (i + 1 + k) = true
    · rw [if_pos hf, relax_snoc]
      unfold relax1
      rw [getD_set (by rw [relax_len]; show i + 1 + k < _; omega)]
      show (if i + 1 + k = j then max ((relax lv (rowTo f i k)).getD (i + 1 + k) 0) ((relax lv (rowTo f i k)).getD i 0 + 1) else _) = _
      have e1 : (relax lv (rowTo f i k)).getD (i + 1 + k) 0 = lv.getD (i + 1 + k) 0 := by rw [ih, if_neg (by omega)]
      have e2 : (relax lv (rowTo f i k)).getD i 0 = lv.getD i 0 := by rw [ih, if_neg (by omega)]
      rw [e1, e2, ih j]
      by_cases e : i + 1 + k = j
      · subst e
        rw [if_pos rfl, if_pos ⟨by omega, by omega, hf⟩]
      · rw [if_neg e]
        by_cases q : i < j ∧ j < i + 1 + k ∧ f i j = true
        · rw [if_pos q, if_pos ⟨q.1, by omega, q.2.2⟩]
        · rw [if_neg q, if_neg (fun z => q ⟨z.1, by omega, z.2.2⟩)]
    · rw [if_neg hf, List.append_nil, ih j]
      by_cases q : i < j ∧ j < i + 1 + k ∧ f i j = true
      · rw [if_pos q, if_pos ⟨q.1, by omega, q.2.2⟩]
      · rw [if_neg q, if_neg]
        intro z
        by_cases e : j = i + 1 + k
        · subst e; exact hf z.2.2
        · exact q ⟨z.1, by omega, z.2.2⟩
theorem relax_to (s : Nest) : ∀ i, i ≤ (NestNs.instances s).length → ∀ j, j < (NestNs.instances s).length →
    (relax (List.replicate (NestNs.instances s).length 0) (pairsTo (meetF s) (NestNs.instances s).length i)).getD j 0 = levUp s (instAt s j) (min i j)
  | 0, _, j, hj => by
    rw [Nat.zero_min, levUp_zero]
    show (List.replicate _ 0).getD j 0 = 0
    rw [List.getD_eq_getElem?_getD, List.getElem?_replicate, if_pos hj]; rfl
  | i + 1, h, j, hj => by
    have ih := relax_to s i (by omega)
    rw [pairsTo_succ, relax_append, relax_row _ (by rw [relax_len, List.length_replicate]; omega), ih j hj, ih i (by omega), Nat.min_self]
    by_cases hij : i < j
    · rw [Nat.min_eq_left (by omega), Nat.min_eq_left (by omega : i + 1 ≤ j), levUp_step (instAt_get (by omega : i < _))]
      by_cases hm : NestNs.meet s (instAt s i) (instAt s j) = true
      · rw [if_pos ⟨hij, by omega, hm⟩, if_pos hm]
      · rw [if_neg (fun z => hm z.2.2), if_neg hm]
    · rw [if_neg (fun z => hij z.1), Nat.min_eq_right (by omega), Nat.min_eq_right (by omega)]
theorem relax_levels (s : Nest) : relax (List.replicate (NestNs.instances s).length 0) (pairsOf s) = (NestNs.levels s).map (·.2) := by
  refine List.ext_getElem? fun j => ?_
  by_cases hj : j < (NestNs.instances s).length
  · have h1 := relax_to s _ (Nat.le_refl _) j hj
    rw [Nat.min_eq_right (by omega)] at h1
    have hl : j < (relax (List.replicate (NestNs.instances s).length 0) (pairsOf s)).length := by rw [relax_len, List.length_replicate]; exact hj
    rw [List.getD_eq_getElem?_getD] at h1
    rw [List.getElem?_map, levels_up (instAt_get hj)]
    show _ = some (levUp s (instAt s j) j)
    rw [List.getElem?_eq_getElem hl]
    rw [show pairsTo (meetF s) (NestNs.instances s).length (NestNs.instances s).length = pairsOf s from rfl, List.getElem?_eq_getElem hl] at h1
    exact congrArg some h1
  · rw [List.getElem?_eq_none (by rw [relax_len, List.length_replicate]; omega), List.getElem?_eq_none (by rw [List.length_map, levels_len]; omega)]
/-! steps, how many of a level -/
theorem foldMax (ls : List (Inst × Nat)) : ∀ a : Nat, a ≤ ls.foldl (fun (m : Nat) (x : Inst × Nat) => max m (x.2 + 1)) a ∧ (∀ x ∈ ls, x.2 + 1 ≤ ls.foldl (fun (m : Nat) (x : Inst × Nat) => max m (x.2 + 1)) a) ∧
    (ls.foldl (fun (m : Nat) (x : Inst × Nat) => max m (x.2 + 1)) a = a ∨ ∃ x ∈ ls, ls.foldl (fun (m : Nat) (x : Inst × Nat) => max m (x.2 + 1)) a = x.2 + 1) := by
  induction ls with
  | nil => intro a; exact ⟨Nat.le_refl _, fun _ h => absurd h (by simp), .inl rfl⟩
  | cons y ls ih =>
    intro a
    obtain ⟨h1, h2, h3⟩ := ih (max a (y.2 + 1))
    rw [List.foldl_cons]
    refine ⟨by omega, fun x hx => ?_, ?_⟩
    · rcases List.mem_cons.mp hx with rfl | hx
      · omega
      · exact h2 x hx
    · rcases h3 with h3 | ⟨x, hx, h3⟩
      · by_cases q : a ≤ y.2 + 1
        · exact .inr ⟨y, List.mem_cons_self, by omega⟩
        · exact .inl (by omega)
      · exact .inr ⟨x, List.mem_cons_of_mem _ hx, h3⟩
def lvInts (s : Nest) : List Int := (NestNs.levels s).map fun x => ((x.2 : Nat) : Int)
theorem steps_none {s : Nest} (h : lvInts s = []) : NestNs.stepsOf s = 0 := by
  unfold lvInts at h
  unfold NestNs.stepsOf
  rw [List.map_eq_nil_iff.mp h]
  rfl
theorem steps_max {s : Nest} {m : Int} (h : m ∈ lvInts s) (hm : ∀ y ∈ lvInts s, y ≤ m) : m + 1 = (NestNs.stepsOf s : Nat) := by
  obtain ⟨x, hx, rfl⟩ := List.mem_map.mp h
  obtain ⟨h1, h2, h3⟩ := foldMax (NestNs.levels s) 0
  have a1 := h2 x hx
  unfold NestNs.stepsOf
  rcases h3 with h3 | ⟨y, hy, h3⟩
  · omega
  · have := hm _ (List.mem_map.mpr ⟨y, hy, rfl⟩)
    omega
theorem at_count (s : Nest) (l : Nat) : (lvInts s).count (l : Int) = ((NestNs.levels s).filter fun (x : Inst × Nat) => x.2 == l).length := by
  unfold lvInts
  rw [List.count_eq_countP, List.countP_map, List.countP_eq_length_filter]
  congr 2
  funext x
  show (((x.2 : Nat) : Int) == (l : Int)) = (x.2 == l)
  rw [Bool.eq_iff_iff]
  simp
  omega
/-! times -/
theorem affine_more (e : List Int) {x : List Nat} (k : Nat) (h : x.length = 3) : NestNs.affine e (x ++ [k]) = NestNs.affine e x := by
  match x, h with
  | [a, b, c], _ => rfl
theorem inst_three {s : Nest} {i : Nat} (h : i < (NestNs.instances s).length) : (instAt s i).1.length = 3 ∧ (instAt s i).2 < s.stmts.length := by
  obtain ⟨j, _, hk, hr⟩ := instances_get (instAt_get h)
  obtain ⟨a, b, c, _, _, _, _, e⟩ := rounds_get hr
  exact ⟨by rw [e]; rfl, hk⟩
end My

end
section
set_option autoImplicit false
set_option Elab.async false
set_option maxRecDepth 100000
namespace My
open PySem PySem.Spec PyProof.Rows L2
/-! Rules that the layer lacks: xs.count(k), xs >= ys of lists of ints, max(xs, default=d). -/
theorem ints_at {i : Nat} : ∀ {vs : List Value} {ns : List Int} {v : Value}, IntsAre vs ns → vs[i]? = some v → ∃ n t, ns[i]? = some n ∧ v = .int n t := by
  induction i with
  | zero =>
    intro vs ns v h e
    cases h with
    | nil => cases e
    | cons n t h => injection e with e; exact ⟨n, t, rfl, e.symm⟩
  | succ i ih =>
    intro vs ns v h e
    cases h with
    | nil => cases e
    | cons n t h => exact ih h e
/-! count -/
def rCountL (K : PySem.W.Frag) : V → List V → Hp → VK → Prop := fun x xs H Q => ∃ (a : Addr) (ns : List Int) (k : Int), x = V.ref a ∧ xs = [V.int k] ∧ SqL K H a (ns.map V.int) ∧ Q (.int (ns.count k : Nat)) H
theorem mt_countL {X : Cx} : MtR X "list.count" (rCountL X.K) := by
  intro pins s σ H x xs v us Q I rx rxs h
  obtain ⟨a, ns, k, rfl, rfl, hs, q⟩ := h
  cases rx
  obtain ⟨u, rfl, t, rfl⟩ := vals1 rxs
  obtain ⟨its, rv, hl, _⟩ := I.list hs
  exact PyProof.Rows.count_list_ints hl.isList rv.ints ⟨.int (ns.count k : Nat), H, I.tok _, ⟨_, rfl⟩, q⟩
/-! >= : turn by turn, by what is left of both lists -/
/-- a list's object -/
abbrev lsObj (vs : Array Value) (n : Nat) (dd : Option Addr) (sl : Array (Option Value)) : Obj := { cls := .type "list", dict := dd, data := .seq vs n, slots := sl }
section
open PySem.AutoSeq1 (wpAny_loadPart')
variable {prog : Program} {w : World} {A : Around} {R : Result → Shared → Prop} {hp : Heap} {g : Array GenState} {dr : Drawn} {tk : Nat} {os : OsState} {l b : Addr} {xs ys : Array Value} {n n2 i : Nat} {dd dd2 : Option Addr} {sl sl2 : Array (Option Value)}
abbrev geCode (l b : Addr) (i : Nat) : Code := .builtin "list.__eq__.loop" ⟨[.ref l, .ref b, rawInt i, rawInt 5], []⟩
theorem ge_in (h : wpAny (model prog w) A.in1 (Builtin.«list.__eq__.loop» ⟨[.ref l, .ref b, rawInt i, rawInt 5], []⟩) (fun fin s' => match fin with
      | .done f => R (.ok f) s'
      | .again c => c.quiet = true ∧ codeAny (model prog w) A c R s') (fun e s' => R (.error e) s') ⟨hp, g, dr, tk, os⟩) : codeAny (model prog w) A (geCode l b i) R ⟨hp, g, dr, tk, os⟩ :=
  codeAny_builtin PySem.MeetsSeq3.entry_eq_loop (by rw [Around.under_plainId PySem.MeetsSeq3.plain_eq_loop _]; exact h)
/-- one of both is at its end: the lengths decide -/
theorem ge_end (ol : hp.get? l = some (lsObj xs n dd sl)) (ob : hp.get? b = some (lsObj ys n2 dd2 sl2)) (h : xs[i]? = none ∨ ys[i]? = none) (q : R (.ok (.ret (.bool (decide (ys.size ≤ xs.size))))) ⟨hp, g, dr, tk, os⟩) :
    codeAny (model prog w) A (geCode l b i) R ⟨hp, g, dr, tk, os⟩ := by
  refine ge_in ?_
  have ei : ((i : Nat) : Int).toNat = i := Int.toNat_natCast i
  wp_walk using wpAny_loadPart' ol, wpAny_loadPart' ob
  rw [ei]
  rcases h with h | h
  · rw [h]
    wp_walk using wpAny_loadPart' ol, wpAny_loadPart' ob
    exact q
  · rw [h]
    cases xs[i]? <;> (wp_walk using wpAny_loadPart' ol, wpAny_loadPart' ob; exact q)
/-- alike here: the next place -/
theorem ge_next {a : Int} {t u : Tok} (ol : hp.get? l = some (lsObj xs n dd sl)) (ob : hp.get? b = some (lsObj ys n2 dd2 sl2)) (h1 : xs[i]? = some (.int a t)) (h2 : ys[i]? = some (.int a u))
    (q : codeAny (model prog w) A (geCode l b (i + 1)) R ⟨hp, g, dr, tk, os⟩) : codeAny (model prog w) A (geCode l b i) R ⟨hp, g, dr, tk, os⟩ := by
  refine ge_in ?_
  have ei : ((i : Nat) : Int).toNat = i := Int.toNat_natCast i
  wp_walk using wpAny_loadPart' ol, wpAny_loadPart' ob
  rw [ei, h1, h2]
  obtain ⟨e, he, hiff⟩ := HT.eqAt_int A.in1 ⟨hp, g, dr, tk, os⟩ a t a u
  obtain rfl : e = true := hiff.mpr rfl
  refine wpAny_bind (he prog w _ _ ?_)
  wp_walk
  exact ⟨plainId_quiet PySem.MeetsSeq3.plain_eq_loop _, q⟩
/-- the first two that differ decide -/
theorem ge_diff {a c : Int} {t u : Tok} (ol : hp.get? l = some (lsObj xs n dd sl)) (ob : hp.get? b = some (lsObj ys n2 dd2 sl2)) (h1 : xs[i]? = some (.int a t)) (h2 : ys[i]? = some (.int c u)) (hne : a ≠ c)
    (q : R (.ok (.ret (.bool (decide (c ≤ a))))) ⟨hp, g, dr, tk, os⟩) : codeAny (model prog w) A (geCode l b i) R ⟨hp, g, dr, tk, os⟩ := by
  refine ge_in ?_
  have ei : ((i : Nat) : Int).toNat = i := Int.toNat_natCast i
  wp_walk using wpAny_loadPart' ol, wpAny_loadPart' ob
  rw [ei, h1, h2]
  obtain ⟨e, he, hiff⟩ := HT.eqAt_int A.in1 ⟨hp, g, dr, tk, os⟩ a t c u
  obtain rfl : e = false := Bool.eq_false_iff.mpr fun z => hne (hiff.mp z)
  refine wpAny_bind (he prog w _ _ ?_)
  have cmp : ∀ (E Q : Value → Shared → Prop), Q (.bool (decide (c ≤ a))) ⟨hp, g, dr, tk, os⟩ → wpAny (model prog w) A.in1 (richCompare .GtE (.int a t) (.int c u)) Q E ⟨hp, g, dr, tk, os⟩ := fun _ _ z => ge_int z
  wp_walk using wpAny_loadPart' ol, wpAny_loadPart' ob
  rw [h1, h2]
  wp_walk using cmp
  exact q
theorem ge_all (ol : hp.get? l = some (lsObj xs n dd sl)) (ob : hp.get? b = some (lsObj ys n2 dd2 sl2)) : ∀ {vs : List Value} {ns : List Int}, IntsAre vs ns → ∀ {ws : List Value} {ms : List Int}, IntsAre ws ms → ∀ i, xs.toList.drop i = vs → ys.toList.drop i = ws → i ≤ xs.size → i ≤ ys.size →
    R (.ok (.ret (.bool (!HT.lexLt ns ms)))) ⟨hp, g, dr, tk, os⟩ → codeAny (model prog w) A (geCode l b i) R ⟨hp, g, dr, tk, os⟩ := by
  have atx : ∀ {zs : Array Value} {v : Value} {r : List Value} {i : Nat}, zs.toList.drop i = v :: r → zs[i]? = some v ∧ i < zs.size ∧ zs.toList.drop (i + 1) = r := fun {zs v r i} e => by
    have h0 : (zs.toList.drop i)[0]? = some v := by rw [e]; rfl
    rw [List.getElem?_drop, Nat.add_zero] at h0
    refine ⟨by simpa using h0, by simpa using (List.getElem?_eq_some_iff.mp h0).1, ?_⟩
    have h1 : (zs.toList.drop i).drop 1 = r := by rw [e]; rfl
    rwa [List.drop_drop] at h1
  have fin : ∀ {zs : Array Value} {i : Nat}, zs.toList.drop i = [] → zs.size ≤ i := fun e => by
    have := List.drop_eq_nil_iff.mp e
    simpa using this
  have out : ∀ {zs : Array Value} {i : Nat}, zs.size ≤ i → zs[i]? = none := fun h => by simp; omega
  intro vs ns hv
  induction hv with
  | nil =>
    intro ws ms hw i e1 e2 l1 l2 q
    have z1 := fin e1
    refine ge_end ol ob (.inl (out z1)) ?_
    cases hw with
    | nil =>
      have z2 := fin e2
      rw [decide_eq_true (show ys.size ≤ xs.size by omega)]; exact q
    | cons c u hw =>
      have z2 := (atx e2).2.1
      rw [decide_eq_false (show ¬ ys.size ≤ xs.size by omega)]; exact q
  | cons a t hv ih =>
    intro ws ms hw i e1 e2 l1 l2 q
    obtain ⟨x1, x2, x3⟩ := atx e1
    cases hw with
    | nil =>
      have z2 := fin e2
      refine ge_end ol ob (.inr (out z2)) ?_
      rw [decide_eq_true (show ys.size ≤ xs.size by omega)]; exact q
    | cons c u hw =>
      obtain ⟨y1, y2, y3⟩ := atx e2
      rw [HT.lexLt_cons] at q
      by_cases hac : a = c
      · subst hac
        rw [if_pos rfl] at q
        exact ge_next ol ob x1 y1 (ih hw (i + 1) x3 y3 x2 y2 q)
      · rw [if_neg hac] at q
        refine ge_diff ol ob x1 y1 hac ?_
        have e : decide (c ≤ a) = !decide (a < c) := by
          rw [← decide_not, decide_eq_decide]; omega
        rw [e]; exact q
theorem ge_meets {ns ms : List Int} (h1 : IntsAre xs.toList ns) (h2 : IntsAre ys.toList ms) : Meets (Builtin.«list.__ge__» ⟨[.ref l, .ref b], []⟩)
    (fun _ R s => s.heap.get? l = some (lsObj xs n dd sl) ∧ s.heap.get? b = some (lsObj ys n2 dd2 sl2) ∧ R (.ok (.ret (.bool (!HT.lexLt ns ms)))) s) := by
  rintro prog w A R ⟨hp, g, dr, tk, os⟩ ⟨ol, ob, q⟩
  have sub := AutoSeq1.sub_list_list
  wp_walk using wpAny_loadPart' ol, wpAny_loadPart' ob
  exact ⟨plainId_quiet PySem.MeetsSeq3.plain_eq_loop _, ge_all ol ob h1 h2 0 rfl rfl (Nat.zero_le _) (Nat.zero_le _) q⟩
end
def rGeL (K : PySem.W.Frag) : R2 := fun x y H Q => ∃ a b ns ms, x = .ref a ∧ y = .ref b ∧ SqL K H a (ns.map V.int) ∧ SqL K H b (ms.map V.int) ∧ Q (.bl (!HT.lexLt ns ms)) H
theorem op_geL {X : Cx} (hu : X.A.units < cLine) : OpR X (compareOp .GtE) (rGeL X.K) := by
  intro pins s σ H x y v u Q I rx ry h
  obtain ⟨a, b, ns, ms, rfl, rfl, ha, hb, q⟩ := h
  cases rx
  cases ry
  obtain ⟨its, r1, ⟨⟨cls, dd, data, sl⟩, n, ho, hc, _, hd⟩, _⟩ := I.list ha
  obtain ⟨its2, r2, ⟨⟨cls2, dd2, data2, sl2⟩, n2, ho2, hc2, _, hd2⟩, _⟩ := I.list hb
  simp only at hc hd hc2 hd2
  subst hc hd hc2 hd2
  exact richCompare_meets_room (op := .GtE) ⟨_, ho, rfl⟩ ⟨_, ho2, rfl⟩ PySem.F.slot_list_ge PySem.F.entry_list_ge (PySem.F.args_list_ge_2 _ _) (ge_meets (intsAre_of r1) (intsAre_of r2))
    ⟨ho, ho2, show Value.bool _ ≠ Value.notImplemented ∧ _ from ⟨(fun x => nomatch x), ⟨.bl (!HT.lexLt ns ms), H, I, rfl, q⟩⟩⟩ hu
/-! max with a default: turn by turn -/
section
variable {prog : Program} {w : World} {A : Around} {R : Result → Shared → Prop} {s : Shared} {I S : Addr} {d vb v : Value} {c : Nat} {G : Heap → Prop}
abbrev mxCode (I S : Addr) (d : Value) : Code := .builtin "max.loop" ⟨[.ref I, .none, .ref S], [(Str.ofString "default", d)]⟩
theorem mx_nm : (toString "max" ++ toString ".loop" : String) = "max.loop" := by decide
theorem mx_in (h : wpAny (model prog w) A.in1 (Builtin.«max.loop» ⟨[.ref I, .none, .ref S], [(Str.ofString "default", d)]⟩) (fun fin s' => match fin with
      | .done f => R (.ok f) s'
      | .again k => k.quiet = true ∧ codeAny (model prog w) A k R s') (fun e s' => R (.error e) s') s) : codeAny (model prog w) A (mxCode I S d) R s :=
  codeAny_builtin PySem.F.entry_max_loop (by rw [Around.under_plainId PySem.F.plain_max_loop _]; exact h)
/-- the end, with a best value -/
theorem mx_last (ob : s.heap.get? S = some (lsObj #[vb, vb] c none #[])) (hG : ∀ h', G h' → h'.get? S = some (lsObj #[vb, vb] c none #[]))
    (nx : ∀ (Q : Option Value → Shared → Prop) (E : Value → Shared → Prop), (∀ h' tk, G h' → Q none { s with heap := h', toks := tk }) → wpAny (model prog w) A.in1 (pyNext (.ref I)) Q E s)
    (fin : ∀ h' tk, G h' → R (.ok (.ret vb)) { s with heap := h'.update S (Obj.mapSeq fun _ => #[]), toks := tk }) : codeAny (model prog w) A (mxCode I S d) R s :=
  mx_in (wpAny_bind (wpAny_seqItems ob rfl (wpAny_bind (wpAny_tryCatch (nx _ _ fun h' tk gh => wpAny_bind (wpAny_updateSeq (hG h' gh) rfl (wpAny_bind (wpAny_letGo (wpAny_pure (fin h' tk gh))))))))))
/-- the end, without one -/
theorem mx_none (ob : s.heap.get? S = some (lsObj #[] c none #[]))
    (nx : ∀ (Q : Option Value → Shared → Prop) (E : Value → Shared → Prop), (∀ h' tk, G h' → Q none { s with heap := h', toks := tk }) → wpAny (model prog w) A.in1 (pyNext (.ref I)) Q E s)
    (fin : ∀ h' tk, G h' → R (.ok (.ret d)) { s with heap := h', toks := tk }) : codeAny (model prog w) A (mxCode I S d) R s :=
  mx_in (wpAny_bind (wpAny_seqItems ob rfl (wpAny_bind (wpAny_tryCatch (nx _ _ fun h' tk gh => wpAny_bind (wpAny_rule (wpAny_pure (fin h' tk gh))))))))
/-- the first item -/
theorem mx_first {G : Value → Heap → Prop} (ob : s.heap.get? S = some (lsObj #[] c none #[])) (hG : ∀ v h', G v h' → h'.get? S = some (lsObj #[] c none #[]))
    (nx : ∀ (Q : Option Value → Shared → Prop) (E : Value → Shared → Prop), (∀ v h' tk, G v h' → Q (some v) { s with heap := h', toks := tk }) → wpAny (model prog w) A.in1 (pyNext (.ref I)) Q E s)
    (go : ∀ v h' tk, G v h' → codeAny (model prog w) A (mxCode I S d) R { s with heap := h'.update S (Obj.mapSeq fun _ => #[v, v]), toks := tk }) : codeAny (model prog w) A (mxCode I S d) R s :=
  mx_in (wpAny_bind (wpAny_seqItems ob rfl (wpAny_bind (wpAny_tryCatch (nx _ _ fun v h' tk gh => wpAny_bind (wpAny_pure (wpAny_bind (wpAny_updateSeq (hG v h' gh) rfl (by rw [mx_nm]; exact wpAny_pure ⟨plainId_quiet PySem.F.plain_max_loop _, go v h' tk gh⟩)))))))))
/-- one more item, against the best value -/
theorem mx_item {G : Value → Heap → Prop} {better : Value → Bool} (ob : s.heap.get? S = some (lsObj #[vb, vb] c none #[])) (hG : ∀ v h', G v h' → h'.get? S = some (lsObj #[vb, vb] c none #[]))
    (nx : ∀ (Q : Option Value → Shared → Prop) (E : Value → Shared → Prop), (∀ v h' tk, G v h' → Q (some v) { s with heap := h', toks := tk }) → wpAny (model prog w) A.in1 (pyNext (.ref I)) Q E s)
    (cmp : ∀ v h' tk (Q E : Value → Shared → Prop), G v h' → Q (.bool (better v)) { s with heap := h', toks := tk } → wpAny (model prog w) A.in1 (richCompare .Gt v vb) Q E { s with heap := h', toks := tk })
    (go : ∀ v h' tk, G v h' → codeAny (model prog w) A (mxCode I S d) R { s with heap := if better v = true then h'.update S (Obj.mapSeq fun _ => #[v, v]) else h', toks := tk }) : codeAny (model prog w) A (mxCode I S d) R s := by
  refine mx_in (wpAny_bind (wpAny_seqItems ob rfl (wpAny_bind (wpAny_tryCatch (nx _ _ fun v h' tk gh => wpAny_bind (wpAny_pure (wpAny_bind (wpAny_tryCatch (wpAny_holding (wpAny_bind (cmp v h' tk _ _ gh (wpAny_bind (wpAny_holding (wpAny_truthy_bool (wpAny_bind (wpAny_letGo (wpAny_pure ?_)))))))))))))))))
  have z := go v h' tk gh
  rw [mx_nm]
  cases e : better v with
  | true =>
    rw [e] at z
    exact wpAny_bind (wpAny_updateSeq (hG v h' gh) rfl (wpAny_bind (wpAny_letGo (wpAny_pure ⟨plainId_quiet PySem.F.plain_max_loop _, z⟩))))
  | false =>
    rw [e] at z
    exact wpAny_bind (wpAny_letGo (wpAny_pure ⟨plainId_quiet PySem.F.plain_max_loop _, z⟩))
end
section
variable {prog : Program} {w : World} {A : Around} {R : Result → Shared → Prop} {E : Value → Shared → Prop} {s : Shared} {l I S : Addr} {its : List Value} {ns : List Int} {d : Value}
/-- all but the iterator and the box stays -/
def keepBut (I S : Addr) (h h' : Heap) : Prop := ∀ x o, x ≠ I → x ≠ S → h.get? x = some o → h'.get? x = some o
theorem keepBut.trans {h1 h2 h3 : Heap} (a : keepBut I S h1 h2) (b : keepBut I S h2 h3) : keepBut I S h1 h3 := fun x o n1 n2 e => b x o n1 n2 (a x o n1 n2 e)
theorem keepBut.box {h1 h2 : Heap} {f : Obj → Obj} (a : keepBut I S h1 h2) : keepBut I S h1 (h2.update S f) := fun x o n1 n2 e => (Heap.get?_update_other _ _ (Ne.symm n2)).trans (a x o n1 n2 e)
/-- from the j-th item on, the best value so far in the box -/
theorem mx_from (hh : A.handled = none) (hi : IntsAre its ns) (nl : l ≠ I) (nI : S ≠ I) (nS : S ≠ l) : ∀ (left j : Nat) (s : Shared) (m : Int) (t : Tok) (c : Nat), j + left = its.length → s.heap.IsListIter I l j → s.heap.IsList l its.toArray → s.heap.get? S = some (lsObj #[.int m t, .int m t] c none #[]) →
    m ∈ ns → (∀ y ∈ ns.take j, y ≤ m) → (∀ (m' : Int) (t' : Tok) (h' : Heap) (tk : Nat), m' ∈ ns → (∀ y ∈ ns, y ≤ m') → keepBut I S s.heap h' → R (.ok (.ret (.int m' t'))) { s with heap := h', toks := tk }) → codeAny (model prog w) A (mxCode I S d) R s := by
  have W := Walks.list (prog := prog) (w := w) (A := A.in1) hh I l nl its.toArray
  have kb : ∀ {h h' : Heap}, (∀ x o, x ∉ [I] → h.get? x = some o → h'.get? x = some o) → keepBut I S h h' := fun k x o n1 _ e => k x o (fun z => n1 (List.mem_singleton.mp z)) e
  have ok : ∀ {h h' : Heap} {o : Obj}, (∀ x o, x ∉ [I] → h.get? x = some o → h'.get? x = some o) → h.get? S = some o → h'.get? S = some o := fun k e => k _ _ (fun z => nI (List.mem_singleton.mp z)) e
  intro left
  induction left with
  | zero =>
    intro j s m t c hj it ls ob hm hb fin
    have ej : j = its.toArray.size := by simp; omega
    refine mx_last (G := fun h' => ∀ x o, x ∉ [I] → s.heap.get? x = some o → h'.get? x = some o) ob (fun h' k => ok k ob) (fun Q E q => W.done s Q E (ej ▸ ⟨it, ls⟩) fun h' tk k => q h' tk k) fun h' tk k => ?_
    refine fin m t _ tk hm (fun y hy => hb y ?_) (keepBut.box (kb k))
    rw [List.take_of_length_le (by rw [← hi.length]; omega)]
    exact hy
  | succ left ih =>
    intro j s m t c hj it ls ob hm hb fin
    have hlt : j < its.toArray.size := by simp; omega
    obtain ⟨y, hy⟩ : ∃ y, ns[j]? = some y := ⟨_, List.getElem?_eq_getElem (by rw [← hi.length]; omega)⟩
    have num : ∀ {v : Value}, its.toArray[j]? = some v → ∃ u, v = .int y u := fun {v} e => by
      obtain ⟨n, u, en, ev⟩ := ints_at (i := j) (v := v) hi (by simpa using e)
      have : n = y := Option.some.inj (en.symm.trans hy)
      exact ⟨u, by rw [ev, this]⟩
    have ex : ns.take (j + 1) = ns.take j ++ [y] := by rw [List.take_add_one, hy]; rfl
    refine mx_item (better := fun _ => decide (y > m)) (G := fun v h' => its.toArray[j]? = some v ∧ (h'.IsListIter I l (j + 1) ∧ h'.IsList l its.toArray) ∧ ∀ x o, x ∉ [I] → s.heap.get? x = some o → h'.get? x = some o) ob (fun v h' k => ok k.2.2 ob)
      (fun Q E q => W.item j s Q E hlt ⟨it, ls⟩ fun v h' tk p st k => q v h' tk ⟨p, st, k⟩) (fun v h' tk Q E k q => ?_) fun v h' tk k => ?_
    · obtain ⟨u, rfl⟩ := num k.1
      exact gt_int q
    · obtain ⟨u, rfl⟩ := num k.1
      by_cases hym : y > m
      · rw [if_pos (decide_eq_true hym)]
        refine ih (j + 1) _ y u _ (by omega) (k.2.1.1.at fun o e => ?_) (k.2.1.2.at fun o e => ?_) (Heap.get?_update_self _ (ok k.2.2 ob) rfl) (List.mem_of_getElem? hy) (fun z hz => ?_) fun m' t' h'' tk' h1 h2 h3 => ?_
        · exact (Heap.get?_update_other _ _ nI).trans e
        · exact (Heap.get?_update_other _ _ nS).trans e
        · rw [ex] at hz
          rcases List.mem_append.mp hz with hz | hz
          · have := hb z hz; omega
          · rw [List.mem_singleton.mp hz]; exact Int.le_refl _
        · exact fin m' t' h'' tk' h1 h2 ((keepBut.box (kb k.2.2)).trans h3)
      · rw [if_neg (by rw [decide_eq_true_eq]; exact hym)]
        refine ih (j + 1) _ m t c (by omega) k.2.1.1 k.2.1.2 (ok k.2.2 ob) hm (fun z hz => ?_) fun m' t' h'' tk' h1 h2 h3 => fin m' t' h'' tk' h1 h2 ((kb k.2.2).trans h3)
        rw [ex] at hz
        rcases List.mem_append.mp hz with hz | hz
        · exact hb z hz
        · rw [List.mem_singleton.mp hz]; omega
theorem mx_args (a v : Value) : argsOk "max" ⟨[a], [(Str.ofString "default", v)]⟩ := by unfold argsOk; kernel_rfl
/-- max(xs, default=d) of a list of ints -/
theorem mx_call {Q : Value → Shared → Prop} (hh : A.handled = none) (hl : s.heap.IsList l its.toArray) (hi : IntsAre its ns)
    (h0 : ns = [] → ∀ h' tk, (∀ b o, s.heap.get? b = some o → h'.get? b = some o) → Q d { s with heap := h', toks := tk })
    (h1 : ∀ m t h' tk, m ∈ ns → (∀ y ∈ ns, y ≤ m) → (∀ b o, s.heap.get? b = some o → h'.get? b = some o) → Q (.int m t) { s with heap := h', toks := tk }) :
    wpAny (model prog w) A (call (.builtin "max") [.ref l] [(Str.ofString "default", d)]) Q E s := by
  have hlt : l < s.heap.objs.size := by obtain ⟨_, e, _⟩ := hl; exact Heap.lt_size e
  refine wpAny_call (codeAny_call_builtin PySem.F.plain_max PySem.F.entry_max ?_)
  simp only [checkBuiltinCall, PySem.F.kind_max]
  suffices z : wpAny (model prog w) A.in1 (Builtin.«max» ⟨[.ref l], [(Str.ofString "default", d)]⟩) (fun fin s' => match fin with
      | .done f => (match (Except.ok f : Result) with | .ok (.ret v) => Q v s' | .ok _ => False | .error e => E e s')
      | .again k => k.quiet = true ∧ codeAny (model prog w) A k (fun r s' => match r with | .ok (.ret v) => Q v s' | .ok _ => False | .error e => E e s') s') E s by
    cases hsig : Manifest.signature? "max" with
    | none => exact wpAny_pure z
    | some sig =>
      have ok : Bind.checkArgs "max" sig ⟨[.ref l], [(Str.ofString "default", d)]⟩ = pure () := by simpa only [argsOk, hsig] using mx_args (.ref l) d
      simp only [ok]
      exact wpAny_pure z
  have hbind : Builtin.Builtins.bindParams "max" ["key", "default"] 0 ⟨[], [(Str.ofString "default", d)]⟩ = pure [none, some d] := rfl
  refine wpAny_bind (wpAny_of_eq hbind (wpAny_bind (wpAny_pure (wpAny_bind (iter_any hl fun s2 e2 st hne => ?_)))))
  subst e2
  refine wpAny_bind (wpAny_newObj_type (wpAny_pure ⟨plainId_quiet PySem.F.plain_max_loop _, ?_⟩))
  have hz : (s.heap.push { cls := .type "list_iterator", data := .fields #[.ref l, .int 0 0] }).objs.size = s.heap.objs.size + 1 := Heap.size_push ..
  generalize hp_ : s.heap.push { cls := .type "list_iterator", data := .fields #[.ref l, .int 0 0] } = hp at st hz
  have old : ∀ {b : Addr} {o : Obj}, s.heap.get? b = some o → (hp.push { cls := .type "list", data := .seq #[] }).get? b = some o ∧ b ≠ s.heap.objs.size ∧ b ≠ hp.objs.size := fun {b o} e => by
    have hb := Heap.lt_size e
    refine ⟨?_, Nat.ne_of_lt hb, ?_⟩
    · rw [← hp_]; exact Heap.get?_push_of_some _ (Heap.get?_push_of_some _ e)
    · rw [hz]; exact Nat.ne_of_lt (Nat.lt_succ_of_lt hb)
  have obx : (hp.push { cls := .type "list", data := .seq #[] }).get? hp.objs.size = some (lsObj #[] 0 none #[]) := Heap.get?_push_size _ rfl
  have nI : hp.objs.size ≠ s.heap.objs.size := by rw [hz]; exact Nat.ne_of_gt (Nat.lt_succ_self _)
  have nS : hp.objs.size ≠ l := fun e => by rw [← e, hz] at hlt; exact absurd hlt (Nat.not_lt.mpr (Nat.le_succ _))
  have W := Walks.list (prog := prog) (w := w) (A := A.in1) hh s.heap.objs.size l hne its.toArray
  have st2 := W.frame 0 _ (hp.push { cls := .type "list", data := .seq #[] }) st fun b _ o e => Heap.get?_push_of_some _ e
  have kb : ∀ {h h' : Heap}, (∀ x o, x ∉ [s.heap.objs.size] → h.get? x = some o → h'.get? x = some o) → keepBut s.heap.objs.size hp.objs.size h h' := fun k x o n1 _ e => k x o (fun z => n1 (List.mem_singleton.mp z)) e
  have ok : ∀ {h h' : Heap} {o : Obj}, (∀ x o, x ∉ [s.heap.objs.size] → h.get? x = some o → h'.get? x = some o) → h.get? hp.objs.size = some o → h'.get? hp.objs.size = some o := fun k e => k _ _ (fun z => nI (List.mem_singleton.mp z)) e
  have back : ∀ {h' : Heap}, keepBut s.heap.objs.size hp.objs.size (hp.push { cls := .type "list", data := .seq #[] }) h' → ∀ b o, s.heap.get? b = some o → h'.get? b = some o := fun k b o e => k b o (old e).2.1 (old e).2.2 (old e).1
  rw [mx_nm]
  by_cases hn : ns = []
  · have hs0 : its.toArray.size = 0 := by rw [List.size_toArray, hi.length, hn]; rfl
    exact mx_none (G := fun h' => ∀ x o, x ∉ [s.heap.objs.size] → (hp.push { cls := .type "list", data := .seq #[] }).get? x = some o → h'.get? x = some o) obx (fun Q E q => W.done _ Q E (by rw [hs0]; exact st2) fun h' tk k => q h' tk k) fun h' tk k => h0 hn _ _ (back (kb k))
  · have hpos : 0 < its.toArray.size := by rw [List.size_toArray, hi.length]; exact List.length_pos_iff.mpr hn
    refine mx_first (G := fun v h' => its.toArray[0]? = some v ∧ (h'.IsListIter s.heap.objs.size l 1 ∧ h'.IsList l its.toArray) ∧ ∀ x o, x ∉ [s.heap.objs.size] → (hp.push { cls := .type "list", data := .seq #[] }).get? x = some o → h'.get? x = some o) obx (fun v h' k => ok k.2.2 obx)
      (fun Q E q => W.item 0 _ Q E hpos st2 fun v h' tk p st k => q v h' tk ⟨p, st, k⟩) fun v h' tk k => ?_
    obtain ⟨m, t, em, ev⟩ := ints_at (i := 0) (v := v) hi (by simpa using k.1)
    subst ev
    refine mx_from hh hi hne nI nS (its.length - 1) 1 _ m t _ ?_ (k.2.1.1.at fun o e => (Heap.get?_update_other _ _ nI).trans e) (k.2.1.2.at fun o e => (Heap.get?_update_other _ _ nS).trans e) (Heap.get?_update_self _ (ok k.2.2 obx) rfl) (List.mem_of_getElem? em) (fun y hy => ?_)
      fun m' t' h'' tk' q1 q2 q3 => h1 m' t' h'' tk' q1 q2 (back ((keepBut.box (kb k.2.2)).trans q3))
    · rw [List.size_toArray] at hpos; omega
    · rw [List.take_add_one, em] at hy
      have : y = m := by simpa using hy
      omega
end
/-- max(xs, default=d) -/
abbrev tMaxD (K : PySem.W.Frag) (ta : TA) (td : TE) : TE := fun σ H Q => ta σ H fun xs H1 => td σ H1 fun d H2 => ∃ (a : Addr) (ns : List Int) (z : Int), xs = [V.ref a] ∧ d = .int z ∧ SqL K H2 a (ns.map V.int) ∧ (ns = [] → Q (.int z) H2) ∧ ∀ m, m ∈ ns → (∀ y ∈ ns, y ≤ m) → Q (.int m) H2
theorem pe_maxD {X : Cx} {e d : Expr} {ta : TA} {td : TE} {p pos kp : Pos} (hc : X.calm = true) (hg : Gl X "max") (hm : X.mg "max" = none) (ha : PA X [e] ta) (hd : PE X d td)
    (hst : backTo pos (starEach [e] X.env) = (false, eval e X.env) :: backTo pos (starEach [] X.env) := by rfl) (hpl : (backTo pos (starEach [e] X.env)).any (·.1) = false := by rfl) :
    PE X (.Call (.Name "max" p) [e] [⟨some "default", d, kp⟩] pos) (tMaxD X.K ta td) := by
  intro pins s σ H Q I h
  refine wpAny_Call_Name_kw (ld_blt I hg hm boot_max ?_)
  refine PyProof.Rows.callWith_kw ?_ hst hpl
  refine thn (ha pos pins s σ H _ I h) fun us s1 ⟨vs, H1, I1, r1, q1⟩ => ?_
  refine PyProof.Rows.kws_cons (thn (hd pins s1 σ H1 _ I1 q1) fun v s2 ⟨dv, H2, I2, r2, a, ns, z, ex, ed, hs, q0, q2⟩ => PyProof.Rows.kws_nil ?_)
  subst ex ed
  obtain ⟨t, rfl⟩ := r2
  rw [Vals.ref1 r1]
  obtain ⟨its, rv, hl, _⟩ := I2.list hs
  exact mx_call (I2.ok.hd hc) hl.isList rv.ints (fun e h' tk k => ⟨.int z, H2, I2.kept k, ⟨_, rfl⟩, q0 e⟩) (fun m t h' tk h1 h2 k => ⟨.int m, H2, I2.kept k, ⟨_, rfl⟩, q2 m h1 h2⟩)
end My

end
section
set_option autoImplicit false
set_option Elab.async false
set_option maxRecDepth 100000
namespace My
open PySem PySem.Spec PyProof.Rows L2
/-! Heaps: a heap without one address; lists of objects that are made one by one. -/
abbrev nV (n : Nat) : V := .int (n : Int)
theorem pget {α β : Type} {F : α → β → Prop} : ∀ {l : List α} {r : List β} {i : Nat} {x : α}, Paired F l r → l[i]? = some x → ∃ y, r[i]? = some y ∧ F x y
  | _, _, _, _, .nil, e => by simp at e
  | _, _, 0, _, .cons h _, e => by simp at e; subst e; exact ⟨_, rfl, h⟩
  | _, _, i + 1, x, .cons _ t, e => by
    obtain ⟨u, h1, h2⟩ := pget (i := i) (x := x) t (by simpa using e)
    exact ⟨u, by simpa using h1, h2⟩
theorem pgetR {α β : Type} {F : α → β → Prop} : ∀ {l : List α} {r : List β} {i : Nat} {y : β}, Paired F l r → r[i]? = some y → ∃ x, l[i]? = some x ∧ F x y
  | _, _, _, _, .nil, e => by simp at e
  | _, _, 0, _, .cons h _, e => by simp at e; subst e; exact ⟨_, rfl, h⟩
  | _, _, i + 1, x, .cons _ t, e => by
    obtain ⟨u, h1, h2⟩ := pgetR (i := i) (y := x) t (by simpa using e)
    exact ⟨u, by simpa using h1, h2⟩
theorem same_refl {H : Hp} : Same H H := fun _ _ e => e
theorem same_new {H : Hp} {a : Addr} {o : HO} (h : H a = none) : Same H (upd H a o) := fun b u e => by rw [upd_ne (ne_of_none e h)]; exact e
theorem same_to {H H1 : Hp} {a : Addr} {o : HO} (s : Same H H1) (h : H1 a = none) : Same H (upd H1 a o) := s.trans (same_new h)
/-- what is new since H0, without one address -/
def newer (H0 H : Hp) (p : Addr) : Hp := fun b => if b = p then none else match H0 b with
  | none => H b
  | some _ => none
theorem newer_at {H0 H : Hp} {p b : Addr} {o : HO} (e : H b = some o) (n : H0 b = none) (h : b ≠ p) : newer H0 H p b = some o := by
  unfold newer
  rw [if_neg h, n]
  exact e
theorem newer_not {H0 H : Hp} {p b : Addr} {o : HO} (e : newer H0 H p b = some o) : H b = some o ∧ H0 b = none ∧ b ≠ p := by
  unfold newer at e
  split at e
  · cases e
  · rename_i h
    cases q : H0 b with
    | none => rw [q] at e; exact ⟨e, rfl, h⟩
    | some o' => rw [q] at e; cases e
theorem newer_upd {H0 H : Hp} {p : Addr} {o : HO} : newer H0 (upd H p o) p = newer H0 H p := by
  funext b; unfold newer; by_cases h : b = p
  · rw [if_pos h, if_pos h]
  · rw [if_neg h, if_neg h, upd_ne h]
/-- something old changes: nothing new does -/
theorem newer_both {H0 H : Hp} {p l : Addr} {o o' : HO} (h : H0 l = some o) : newer (upd H0 l o') (upd H l o') p = newer H0 H p := by
  funext b
  unfold newer
  by_cases hp : b = p
  · rw [if_pos hp, if_pos hp]
  · rw [if_neg hp, if_neg hp]
    by_cases hl : b = l
    · rw [hl, upd_same, h]
    · rw [upd_ne hl, upd_ne hl]
theorem newer_same {H0 H : Hp} {p : Addr} : Same (newer H0 H p) H := fun _ _ e => (newer_not e).1
theorem newer_mono {H0 H H1 : Hp} {p : Addr} (s : Same H H1) : Same (newer H0 H p) (newer H0 H1 p) := fun b o e => by
  obtain ⟨h1, h2, h3⟩ := newer_not e
  exact newer_at (s _ _ h1) h2 h3
/-- a list at p, each of its items an object of which F is so, whatever p holds -/
structure Acc {α : Type} (F : Hp → Addr → α → Prop) (H0 H : Hp) (p : Addr) (done : List α) (rs : List Addr) : Prop where
  same : Same H0 H
  fr : H0 p = none
  lst : H p = some (.lst (rs.map V.ref))
  new : ∀ r ∈ rs, H0 r = none
  all : Paired (F (newer H0 H p)) rs done
def Mono {α : Type} (F : Hp → Addr → α → Prop) : Prop := ∀ H H1 r c, Same H H1 → F H r c → F H1 r c
theorem Acc.start {α : Type} {F : Hp → Addr → α → Prop} {H : Hp} {p : Addr} (h : H p = none) : Acc F H (upd H p (.lst [])) p [] [] :=
  ⟨same_new h, h, upd_same, fun _ hr => absurd hr (by simp), .nil⟩
theorem Acc.grow {α : Type} {F : Hp → Addr → α → Prop} (M : Mono F) {H0 H H1 : Hp} {p : Addr} {done : List α} {rs : List Addr} (A : Acc F H0 H p done rs) (s : Same H H1) : Acc F H0 H1 p done rs :=
  ⟨A.same.trans s, A.fr, s _ _ A.lst, A.new, A.all.mono fun _ _ h => M _ _ _ _ (newer_mono s) h⟩
theorem Acc.push {α : Type} {F : Hp → Addr → α → Prop} {H0 H : Hp} {p r : Addr} {done : List α} {rs : List Addr} {c : α} (A : Acc F H0 H p done rs) (hn : H0 r = none) (h : F (newer H0 H p) r c) :
    Acc F H0 (upd H p (.lst (rs.map V.ref ++ [V.ref r]))) p (done ++ [c]) (rs ++ [r]) := by
  refine ⟨fun b o e => ?_, A.fr, by rw [upd_same, List.map_append]; rfl, fun b hb => ?_, ?_⟩
  · rw [upd_ne (ne_of_none e A.fr)]; exact A.same _ _ e
  · rcases List.mem_append.mp hb with h1 | h1
    · exact A.new b h1
    · rw [List.mem_singleton.mp h1]; exact hn
  · rw [newer_upd]; exact A.all.snoc h
theorem Acc.out {α : Type} {F : Hp → Addr → α → Prop} (M : Mono F) {H0 H : Hp} {p : Addr} {done : List α} {rs : List Addr} (A : Acc F H0 H p done rs) : Paired (F H) rs done :=
  A.all.mono fun _ _ h => M _ _ _ _ newer_same h
theorem Acc.len {α : Type} {F : Hp → Addr → α → Prop} {H0 H : Hp} {p : Addr} {done : List α} {rs : List Addr} (A : Acc F H0 H p done rs) : rs.length = done.length := A.all.length
/-- a list of numbers; of natural ones -/
def IntsL (H : Hp) (r : Addr) (c : List Int) : Prop := H r = some (.lst (c.map V.int))
def NatsL (H : Hp) (r : Addr) (c : List Nat) : Prop := H r = some (.lst (c.map nV))
theorem mono_ints : Mono IntsL := fun _ _ _ _ s h => s _ _ h
theorem mono_nats : Mono NatsL := fun _ _ _ _ s h => s _ _ h
theorem get_map {α β : Type} {f : α → β} {l : List α} {i : Nat} {y : β} (h : (l.map f)[i]? = some y) : ∃ x, l[i]? = some x ∧ y = f x := by
  rw [List.getElem?_map] at h
  cases e : l[i]? with
  | none => rw [e] at h; cases h
  | some x => rw [e] at h; exact ⟨x, rfl, (Option.some.inj h).symm⟩
theorem at_map {α β : Type} {f : α → β} {l : List α} {i : Nat} {x : α} (h : l[i]? = some x) : (l.map f)[i]? = some (f x) := by
  rw [List.getElem?_map, h]; rfl
theorem take_snoc {α : Type} {l : List α} {i : Nat} {x : α} (h : l[i]? = some x) : l.take (i + 1) = l.take i ++ [x] := by
  rw [List.take_add_one, h]; rfl
theorem size_small {n : Nat} (h : n ≤ 16777216) : n ≤ sizeLine := by rw [sizeLine_eq]; omega
theorem size_lt {n : Nat} (h : n < 16777216) : n < sizeLine := by rw [sizeLine_eq]; omega
theorem len3 {α : Type} {l : List α} (h : l.length = 3) : ∃ a b c, l = [a, b, c] := by
  match l, h with
  | [a, b, c], _ => exact ⟨a, b, c, rfl⟩
theorem len3up {α : Type} {l : List α} (h : 3 ≤ l.length) : ∃ a b c r, l = a :: b :: c :: r := by
  match l, h with
  | a :: b :: c :: r, _ => exact ⟨a, b, c, r, rfl⟩
theorem len4 {α : Type} {l : List α} (h : l.length = 4) : ∃ a b c d, l = [a, b, c, d] := by
  match l, h with
  | [a, b, c, d], _ => exact ⟨a, b, c, d, rfl⟩
@[elab_as_elim] theorem lp1 {α : Type} {P : List α → Prop} (us : List α) (hl : us.length = 1) (h : ∀ a0, P [a0]) : P us := by
  match us, hl with
  | [a0], _ => exact h a0
@[elab_as_elim] theorem lp2 {α : Type} {P : List α → Prop} (us : List α) (hl : us.length = 2) (h : ∀ a0 a1, P [a0, a1]) : P us := by
  match us, hl with
  | [a0, a1], _ => exact h a0 a1
@[elab_as_elim] theorem lp3 {α : Type} {P : List α → Prop} (us : List α) (hl : us.length = 3) (h : ∀ a0 a1 a2, P [a0, a1, a2]) : P us := by
  match us, hl with
  | [a0, a1, a2], _ => exact h a0 a1 a2
@[elab_as_elim] theorem lp4 {α : Type} {P : List α → Prop} (us : List α) (hl : us.length = 4) (h : ∀ a0 a1 a2 a3, P [a0, a1, a2, a3]) : P us := by
  match us, hl with
  | [a0, a1, a2, a3], _ => exact h a0 a1 a2 a3
@[elab_as_elim] theorem lp5 {α : Type} {P : List α → Prop} (us : List α) (hl : us.length = 5) (h : ∀ a0 a1 a2 a3 a4, P [a0, a1, a2, a3, a4]) : P us := by
  match us, hl with
  | [a0, a1, a2, a3, a4], _ => exact h a0 a1 a2 a3 a4
theorem keep_ints {H H' : Hp} : ∀ {rs : List Addr} {l : List (List Int)}, Paired (IntsL H) rs l → (∀ r ∈ rs, ∀ o, H r = some o → H' r = some o) → Paired (IntsL H') rs l
  | _, _, .nil, _ => .nil
  | _, _, .cons a t, h => .cons (h _ List.mem_cons_self _ a) (keep_ints t fun r hr => h r (List.mem_cons_of_mem _ hr))
theorem keep_nats {H H' : Hp} : ∀ {rs : List Addr} {l : List (List Nat)}, Paired (NatsL H) rs l → (∀ r ∈ rs, ∀ o, H r = some o → H' r = some o) → Paired (NatsL H') rs l
  | _, _, .nil, _ => .nil
  | _, _, .cons a t, h => .cons (h _ List.mem_cons_self _ a) (keep_nats t fun r hr => h r (List.mem_cons_of_mem _ hr))
theorem iteP {c A B : Prop} [Decidable c] (hc : c) (h : A) : if c then A else B := by rw [if_pos hc]; exact h
theorem iteQ {c A B : Prop} [Decidable c] (hc : ¬ c) (h : B) : if c then A else B := by rw [if_neg hc]; exact h
/-! rules by the written part alone, for what stands within a comprehension -/
def rLen (K : PySem.W.Frag) : List V → Hp → VK → Prop := fun xs H Q => ∃ p ys, xs = [V.ref p] ∧ (SqL K H p ys ∨ SqT K H p ys) ∧ Q (.int ys.length) H
theorem cr_len {X : Cx} {K : PySem.W.Frag} (h : X.K = K) : CallR X (.builtin "len") (rLen K) := by subst h; exact call_len_seq
/-! bundles -/
set_option genInjectivity false
set_option genSizeOfSpec false
structure P2 (t1 t2 : Type) where
  x1 : t1
  x2 : t2
abbrev P2.un {t1 t2 : Type} (d : P2 t1 t2) (f : t1 → t2 → Prop) : Prop := @P2.casesOn t1 t2 (fun _ => Prop) d f
structure P3 (t1 t2 t3 : Type) where
  x1 : t1
  x2 : t2
  x3 : t3
abbrev P3.un {t1 t2 t3 : Type} (d : P3 t1 t2 t3) (f : t1 → t2 → t3 → Prop) : Prop := @P3.casesOn t1 t2 t3 (fun _ => Prop) d f
structure P4 (t1 t2 t3 t4 : Type) where
  x1 : t1
  x2 : t2
  x3 : t3
  x4 : t4
abbrev P4.un {t1 t2 t3 t4 : Type} (d : P4 t1 t2 t3 t4) (f : t1 → t2 → t3 → t4 → Prop) : Prop := @P4.casesOn t1 t2 t3 t4 (fun _ => Prop) d f
structure P5 (t1 t2 t3 t4 t5 : Type) where
  x1 : t1
  x2 : t2
  x3 : t3
  x4 : t4
  x5 : t5
abbrev P5.un {t1 t2 t3 t4 t5 : Type} (d : P5 t1 t2 t3 t4 t5) (f : t1 → t2 → t3 → t4 → t5 → Prop) : Prop := @P5.casesOn t1 t2 t3 t4 t5 (fun _ => Prop) d f
structure P6 (t1 t2 t3 t4 t5 t6 : Type) where
  x1 : t1
  x2 : t2
  x3 : t3
  x4 : t4
  x5 : t5
  x6 : t6
abbrev P6.un {t1 t2 t3 t4 t5 t6 : Type} (d : P6 t1 t2 t3 t4 t5 t6) (f : t1 → t2 → t3 → t4 → t5 → t6 → Prop) : Prop := @P6.casesOn t1 t2 t3 t4 t5 t6 (fun _ => Prop) d f
structure P7 (t1 t2 t3 t4 t5 t6 t7 : Type) where
  x1 : t1
  x2 : t2
  x3 : t3
  x4 : t4
  x5 : t5
  x6 : t6
  x7 : t7
abbrev P7.un {t1 t2 t3 t4 t5 t6 t7 : Type} (d : P7 t1 t2 t3 t4 t5 t6 t7) (f : t1 → t2 → t3 → t4 → t5 → t6 → t7 → Prop) : Prop := @P7.casesOn t1 t2 t3 t4 t5 t6 t7 (fun _ => Prop) d f
structure P8 (t1 t2 t3 t4 t5 t6 t7 t8 : Type) where
  x1 : t1
  x2 : t2
  x3 : t3
  x4 : t4
  x5 : t5
  x6 : t6
  x7 : t7
  x8 : t8
abbrev P8.un {t1 t2 t3 t4 t5 t6 t7 t8 : Type} (d : P8 t1 t2 t3 t4 t5 t6 t7 t8) (f : t1 → t2 → t3 → t4 → t5 → t6 → t7 → t8 → Prop) : Prop := @P8.casesOn t1 t2 t3 t4 t5 t6 t7 t8 (fun _ => Prop) d f
structure P9 (t1 t2 t3 t4 t5 t6 t7 t8 t9 : Type) where
  x1 : t1
  x2 : t2
  x3 : t3
  x4 : t4
  x5 : t5
  x6 : t6
  x7 : t7
  x8 : t8
  x9 : t9
abbrev P9.un {t1 t2 t3 t4 t5 t6 t7 t8 t9 : Type} (d : P9 t1 t2 t3 t4 t5 t6 t7 t8 t9) (f : t1 → t2 → t3 → t4 → t5 → t6 → t7 → t8 → t9 → Prop) : Prop := @P9.casesOn t1 t2 t3 t4 t5 t6 t7 t8 t9 (fun _ => Prop) d f
structure P10 (t1 t2 t3 t4 t5 t6 t7 t8 t9 t10 : Type) where
  x1 : t1
  x2 : t2
  x3 : t3
  x4 : t4
  x5 : t5
  x6 : t6
  x7 : t7
  x8 : t8
  x9 : t9
  x10 : t10
abbrev P10.un {t1 t2 t3 t4 t5 t6 t7 t8 t9 t10 : Type} (d : P10 t1 t2 t3 t4 t5 t6 t7 t8 t9 t10) (f : t1 → t2 → t3 → t4 → t5 → t6 → t7 → t8 → t9 → t10 → Prop) : Prop := @P10.casesOn t1 t2 t3 t4 t5 t6 t7 t8 t9 t10 (fun _ => Prop) d f
structure P11 (t1 t2 t3 t4 t5 t6 t7 t8 t9 t10 t11 : Type) where
  x1 : t1
  x2 : t2
  x3 : t3
  x4 : t4
  x5 : t5
  x6 : t6
  x7 : t7
  x8 : t8
  x9 : t9
  x10 : t10
  x11 : t11
abbrev P11.un {t1 t2 t3 t4 t5 t6 t7 t8 t9 t10 t11 : Type} (d : P11 t1 t2 t3 t4 t5 t6 t7 t8 t9 t10 t11) (f : t1 → t2 → t3 → t4 → t5 → t6 → t7 → t8 → t9 → t10 → t11 → Prop) : Prop := @P11.casesOn t1 t2 t3 t4 t5 t6 t7 t8 t9 t10 t11 (fun _ => Prop) d f
structure P14 (t1 t2 t3 t4 t5 t6 t7 t8 t9 t10 t11 t12 t13 t14 : Type) where
  x1 : t1
  x2 : t2
  x3 : t3
  x4 : t4
  x5 : t5
  x6 : t6
  x7 : t7
  x8 : t8
  x9 : t9
  x10 : t10
  x11 : t11
  x12 : t12
  x13 : t13
  x14 : t14
abbrev P14.un {t1 t2 t3 t4 t5 t6 t7 t8 t9 t10 t11 t12 t13 t14 : Type} (d : P14 t1 t2 t3 t4 t5 t6 t7 t8 t9 t10 t11 t12 t13 t14) (f : t1 → t2 → t3 → t4 → t5 → t6 → t7 → t8 → t9 → t10 → t11 → t12 → t13 → t14 → Prop) : Prop := @P14.casesOn t1 t2 t3 t4 t5 t6 t7 t8 t9 t10 t11 t12 t13 t14 (fun _ => Prop) d f
structure P19 (t1 t2 t3 t4 t5 t6 t7 t8 t9 t10 t11 t12 t13 t14 t15 t16 t17 t18 t19 : Type) where
  x1 : t1
  x2 : t2
  x3 : t3
  x4 : t4
  x5 : t5
  x6 : t6
  x7 : t7
  x8 : t8
  x9 : t9
  x10 : t10
  x11 : t11
  x12 : t12
  x13 : t13
  x14 : t14
  x15 : t15
  x16 : t16
  x17 : t17
  x18 : t18
  x19 : t19
abbrev P19.un {t1 t2 t3 t4 t5 t6 t7 t8 t9 t10 t11 t12 t13 t14 t15 t16 t17 t18 t19 : Type} (d : P19 t1 t2 t3 t4 t5 t6 t7 t8 t9 t10 t11 t12 t13 t14 t15 t16 t17 t18 t19) (f : t1 → t2 → t3 → t4 → t5 → t6 → t7 → t8 → t9 → t10 → t11 → t12 → t13 → t14 → t15 → t16 → t17 → t18 → t19 → Prop) : Prop := @P19.casesOn t1 t2 t3 t4 t5 t6 t7 t8 t9 t10 t11 t12 t13 t14 t15 t16 t17 t18 t19 (fun _ => Prop) d f
structure A3 (p1 p2 p3 : Prop) : Prop where
  h1 : p1
  h2 : p2
  h3 : p3
structure A4 (p1 p2 p3 p4 : Prop) : Prop where
  h1 : p1
  h2 : p2
  h3 : p3
  h4 : p4
structure A5 (p1 p2 p3 p4 p5 : Prop) : Prop where
  h1 : p1
  h2 : p2
  h3 : p3
  h4 : p4
  h5 : p5
structure A6 (p1 p2 p3 p4 p5 p6 : Prop) : Prop where
  h1 : p1
  h2 : p2
  h3 : p3
  h4 : p4
  h5 : p5
  h6 : p6
structure A7 (p1 p2 p3 p4 p5 p6 p7 : Prop) : Prop where
  h1 : p1
  h2 : p2
  h3 : p3
  h4 : p4
  h5 : p5
  h6 : p6
  h7 : p7
structure A8 (p1 p2 p3 p4 p5 p6 p7 p8 : Prop) : Prop where
  h1 : p1
  h2 : p2
  h3 : p3
  h4 : p4
  h5 : p5
  h6 : p6
  h7 : p7
  h8 : p8
structure A9 (p1 p2 p3 p4 p5 p6 p7 p8 p9 : Prop) : Prop where
  h1 : p1
  h2 : p2
  h3 : p3
  h4 : p4
  h5 : p5
  h6 : p6
  h7 : p7
  h8 : p8
  h9 : p9
structure A12 (p1 p2 p3 p4 p5 p6 p7 p8 p9 p10 p11 p12 : Prop) : Prop where
  h1 : p1
  h2 : p2
  h3 : p3
  h4 : p4
  h5 : p5
  h6 : p6
  h7 : p7
  h8 : p8
  h9 : p9
  h10 : p10
  h11 : p11
  h12 : p12
/-! readings, one lemma a construct -/
theorem rd_fld {K : PySem.W.Frag} {i : Nat} {f : Str} {σ : L2.St} {H : Hp} {Q : VK} {p C dx : Addr} {fs : List (Str × V)} {v : V} (h : σ[i]? = some (some (.ref p))) (ho : H p = some (.ins C dx fs)) (cl : Cls K C) (na : NoAttr K C f) (hl : fs.lookup f = some v) (q : Q v H) : tFld K (tVar i) f σ H Q :=
  ⟨_, h, p, C, dx, fs, v, rfl, ho, cl, na, hl, q⟩
theorem rd_ix {K : PySem.W.Frag} {p : Addr} {xs : List V} {i : Int} {v : V} {H : Hp} {Q : VK} (hs : SqL K H p xs) (ha : atI xs i = some v) (q : Q v H) : rIxL K (.ref p) (.int i) H Q := ⟨p, xs, i, v, rfl, rfl, hs, ha, q⟩
theorem rd_ixt {K : PySem.W.Frag} {p : Addr} {xs : List V} {i : Int} {v : V} {H : Hp} {Q : VK} (hs : SqT K H p xs) (ha : atI xs i = some v) (q : Q v H) : rIxT K (.ref p) (.int i) H Q := ⟨p, xs, i, v, rfl, rfl, hs, ha, q⟩
theorem rd_meth {i : Nat} {m : Str} {sp : Sp} {dvs : List V} {E : XK} {t : TA} {σ : L2.St} {H : Hp} {Q : VK} {p C dx : Addr} {fs : List (Str × V)} (h : σ[i]? = some (some (.ref p))) (ho : H p = some (.ins C dx fs)) (hl : fs.lookup m = none) (q : t σ H fun vs H2 => sp (.ref p :: (vs ++ dvs)) H2 Q E) : tMeth C m sp dvs E (tVar i) t σ H Q :=
  ⟨_, h, p, dx, fs, rfl, ho, hl, q⟩
theorem rd_len {K : PySem.W.Frag} {p : Addr} {ys : List V} {H : Hp} {Q : VK} (hs : SqL K H p ys) (q : Q (.int ys.length) H) : rLen K [V.ref p] H Q := ⟨p, ys, rfl, .inl hs, q⟩
/-- the number that a name holds -/
def slotN (σ : L2.St) (i : Nat) : Nat := match σ[i]? with
  | some (some (V.int z)) => z.toNat
  | _ => 0
theorem yes_if {A B : Hp → Prop} {σ : L2.St} {H : Hp} (h : A H) : tYes σ H (fun b H3 => if b = true then A H3 else B H3) := by
  show (if true = true then A H else B H)
  rw [if_pos rfl]
  exact h
/-- a slice by two natural places -/
theorem cut_nat {xs : List V} {i j : Nat} (hj : j ≤ xs.length) (hij : i ≤ j) : cutV xs (some (i : Int)) (some (j : Int)) = (xs.drop i).take (j - i) := by
  unfold cutV
  rw [HT.sIx_nat, HT.sIx_nat, Nat.min_eq_left hj, Nat.min_eq_left (Nat.le_trans hij hj)]
theorem cut_to {xs : List V} {j : Nat} (hj : j ≤ xs.length) : cutV xs none (some (j : Int)) = xs.take j := by
  unfold cutV
  rw [HT.sIx_nat, HT.sIx_none, Nat.min_eq_left hj]
  simp
theorem cut_from {xs : List V} {i : Nat} (hi : i ≤ xs.length) : cutV xs (some (i : Int)) none = xs.drop i := by
  unfold cutV
  rw [HT.sIx_nat, HT.sIx_none, Nat.min_eq_left hi]
  rw [List.take_of_length_le (by simp)]
end My

end
section
set_option genInjectivity false
set_option genSizeOfSpec false
set_option autoImplicit false
set_option Elab.async false
set_option maxRecDepth 100000
namespace My
open PySem PySem.Spec PyProof.Rows L2
def top (i : Nat) : Stmt := PySem.Challenge.pw_loopnest_s01_answers.main.body.getD i (.Pass ⟨0, 0, 0, 0⟩)
abbrev s_row_at : Stmt := top 2
abbrev s_time_of : Stmt := top 3
abbrev s_Meetings_init : Stmt := inClass (top 5) 0
abbrev s_Meetings_first_dependence : Stmt := inClass (top 5) 1
abbrev s_Meetings_first_carried : Stmt := inClass (top 5) 2
abbrev s_Meetings_first_barred : Stmt := inClass (top 5) 3
abbrev s_meeting_pairs : Stmt := top 6
abbrev s_touches_meet : Stmt := top 7
abbrev s_earliest_steps : Stmt := top 8
abbrev s_Nest_init : Stmt := inClass (top 11) 0
abbrev s_Nest_has_loop : Stmt := inClass (top 11) 1
abbrev s_Nest_statement_count : Stmt := inClass (top 11) 2
abbrev s_Nest_has_statement : Stmt := inClass (top 11) 3
abbrev s_Nest_add_statement : Stmt := inClass (top 11) 4
abbrev s_Nest_access_count : Stmt := inClass (top 11) 5
abbrev s_Nest_add_access : Stmt := inClass (top 11) 6
abbrev s_Nest_is_instance : Stmt := inClass (top 11) 7
abbrev s_Nest_round_place : Stmt := inClass (top 11) 8
abbrev s_Nest_touched_by : Stmt := inClass (top 11) 9
abbrev s_Nest_meet : Stmt := inClass (top 11) 10
abbrev s_Nest_all_instances : Stmt := inClass (top 11) 11
abbrev s_Nest_meetings : Stmt := inClass (top 11) 12
abbrev s_Nest_level_of : Stmt := inClass (top 11) 13
abbrev s_all_rounds : Stmt := top 12
abbrev s_Call_init : Stmt := inClass (top 24) 0
abbrev s_read_calls : Stmt := top 25
abbrev s_read_lists : Stmt := top 26
abbrev s_answers : Stmt := top 33
abbrev s_Desk_init : Stmt := inClass (top 34) 0
abbrev s_Desk_answer : Stmt := inClass (top 34) 1
abbrev s_Desk_answer_init : Stmt := inClass (top 34) 2
abbrev s_tell : Stmt := top 35
abbrev s_tell_pair : Stmt := top 36
abbrev s_loops_go : Stmt := top 37
abbrev s_answer_stmt : Stmt := top 38
abbrev s_answer_access : Stmt := top 39
abbrev s_answer_meet : Stmt := top 40
abbrev s_answer_dep : Stmt := top 41
abbrev s_answer_carried : Stmt := top 42
abbrev s_answer_try : Stmt := top 43
abbrev s_answer_steps : Stmt := top 44
abbrev s_answer_level : Stmt := top 45
abbrev s_answer_at : Stmt := top 46
theorem sc_row_at : FnScope ["row", "counters"] ["row", "counters"] (defScope s_row_at) := ⟨rfl, rfl, rfl, by decide +kernel, rfl, by decide +kernel, by decide +kernel⟩
theorem sc_time_of : FnScope ["instance", "k", "rows", "start", "numbers", "j", "place"] ["instance", "k", "rows"] (defScope s_time_of) := ⟨rfl, rfl, rfl, by decide +kernel, rfl, by decide +kernel, by decide +kernel⟩
theorem sc_Meetings_init : FnScope ["self", "instances", "touched"] ["self", "instances", "touched"] (defScope s_Meetings_init) := ⟨rfl, rfl, rfl, by decide +kernel, rfl, by decide +kernel, by decide +kernel⟩
theorem sc_Meetings_first_dependence : FnScope ["self", "s", "t", "earlier", "later", "u", "v"] ["self", "s", "t"] (defScope s_Meetings_first_dependence) := ⟨rfl, rfl, rfl, by decide +kernel, rfl, by decide +kernel, by decide +kernel⟩
theorem sc_Meetings_first_carried : FnScope ["self", "loop", "earlier", "later", "u", "v"] ["self", "loop"] (defScope s_Meetings_first_carried) := ⟨rfl, rfl, rfl, by decide +kernel, rfl, by decide +kernel, by decide +kernel⟩
theorem sc_Meetings_first_barred : FnScope ["self", "k", "rows", "times", "instance", "earlier", "later"] ["self", "k", "rows"] (defScope s_Meetings_first_barred) := ⟨rfl, rfl, rfl, by decide +kernel, rfl, by decide +kernel, by decide +kernel⟩
theorem sc_meeting_pairs : FnScope ["touched", "pairs", "earlier", "later"] ["touched"] (defScope s_meeting_pairs) := ⟨rfl, rfl, rfl, by decide +kernel, rfl, by decide +kernel, by decide +kernel⟩
theorem sc_touches_meet : FnScope ["some", "others", "cell", "written", "other_cell", "other_written"] ["some", "others"] (defScope s_touches_meet) := ⟨rfl, rfl, rfl, by decide +kernel, rfl, by decide +kernel, by decide +kernel⟩
theorem sc_earliest_steps : FnScope ["count", "pairs", "levels", "earlier", "later"] ["count", "pairs"] (defScope s_earliest_steps) := ⟨rfl, rfl, rfl, by decide +kernel, rfl, by decide +kernel, by decide +kernel⟩
theorem sc_Nest_init : FnScope ["self", "lengths"] ["self", "lengths"] (defScope s_Nest_init) := ⟨rfl, rfl, rfl, by decide +kernel, rfl, by decide +kernel, by decide +kernel⟩
theorem sc_Nest_has_loop : FnScope ["self", "loop"] ["self", "loop"] (defScope s_Nest_has_loop) := ⟨rfl, rfl, rfl, by decide +kernel, rfl, by decide +kernel, by decide +kernel⟩
theorem sc_Nest_statement_count : FnScope ["self"] ["self"] (defScope s_Nest_statement_count) := ⟨rfl, rfl, rfl, by decide +kernel, rfl, by decide +kernel, by decide +kernel⟩
theorem sc_Nest_has_statement : FnScope ["self", "s"] ["self", "s"] (defScope s_Nest_has_statement) := ⟨rfl, rfl, rfl, by decide +kernel, rfl, by decide +kernel, by decide +kernel⟩
theorem sc_Nest_add_statement : FnScope ["self", "counters"] ["self"] (defScope s_Nest_add_statement) := ⟨rfl, rfl, rfl, by decide +kernel, rfl, by decide +kernel, by decide +kernel⟩
theorem sc_Nest_access_count : FnScope ["self", "s"] ["self", "s"] (defScope s_Nest_access_count) := ⟨rfl, rfl, rfl, by decide +kernel, rfl, by decide +kernel, by decide +kernel⟩
theorem sc_Nest_add_access : FnScope ["self", "s", "array", "written", "rows", "by_place", "place", "counters", "cell"] ["self", "s", "array", "written", "rows"] (defScope s_Nest_add_access) := ⟨rfl, rfl, rfl, by decide +kernel, rfl, by decide +kernel, by decide +kernel⟩
theorem sc_Nest_is_instance : FnScope ["self", "told", "loop"] ["self", "told"] (defScope s_Nest_is_instance) := ⟨rfl, rfl, rfl, by decide +kernel, rfl, by decide +kernel, by decide +kernel⟩
theorem sc_Nest_round_place : FnScope ["self", "instance"] ["self", "instance"] (defScope s_Nest_round_place) := ⟨rfl, rfl, rfl, by decide +kernel, rfl, by decide +kernel, by decide +kernel⟩
theorem sc_Nest_touched_by : FnScope ["self", "instance"] ["self", "instance"] (defScope s_Nest_touched_by) := ⟨rfl, rfl, rfl, by decide +kernel, rfl, by decide +kernel, by decide +kernel⟩
theorem sc_Nest_meet : FnScope ["self", "u", "v"] ["self", "u", "v"] (defScope s_Nest_meet) := ⟨rfl, rfl, rfl, by decide +kernel, rfl, by decide +kernel, by decide +kernel⟩
theorem sc_Nest_all_instances : FnScope ["self", "instances", "counters", "s"] ["self"] (defScope s_Nest_all_instances) := ⟨rfl, rfl, rfl, by decide +kernel, rfl, by decide +kernel, by decide +kernel⟩
theorem sc_Nest_meetings : FnScope ["self", "instances", "instance"] ["self"] (defScope s_Nest_meetings) := ⟨rfl, rfl, rfl, by decide +kernel, rfl, by decide +kernel, by decide +kernel⟩
theorem sc_Nest_level_of : FnScope ["self", "instance", "place"] ["self", "instance"] (defScope s_Nest_level_of) := ⟨rfl, rfl, rfl, by decide +kernel, rfl, by decide +kernel, by decide +kernel⟩
theorem sc_all_rounds : FnScope ["lengths", "rounds", "x", "y", "z"] ["lengths"] (defScope s_all_rounds) := ⟨rfl, rfl, rfl, by decide +kernel, rfl, by decide +kernel, by decide +kernel⟩
theorem sc_Call_init : FnScope ["self", "kind", "numbers", "lists"] ["self", "kind", "numbers", "lists"] (defScope s_Call_init) := ⟨rfl, rfl, rfl, by decide +kernel, rfl, by decide +kernel, by decide +kernel⟩
theorem sc_read_calls : FnScope ["line", "calls", "place", "kind", "shape", "behind_numbers", "numbers", "lists", "row"] ["line"] (defScope s_read_calls) := ⟨rfl, rfl, rfl, by decide +kernel, rfl, by decide +kernel, by decide +kernel⟩
theorem sc_read_lists : FnScope ["line", "place", "how_many", "lists", "k", "start", "end"] ["line", "place", "how_many"] (defScope s_read_lists) := ⟨rfl, rfl, rfl, by decide +kernel, rfl, by decide +kernel, by decide +kernel⟩
theorem sc_answers : FnScope ["calls", "desk", "line", "call", "answer"] ["calls"] (defScope s_answers) := ⟨rfl, rfl, rfl, by decide +kernel, rfl, by decide +kernel, by decide +kernel⟩
theorem sc_Desk_init : FnScope ["self"] ["self"] (defScope s_Desk_init) := ⟨rfl, rfl, rfl, by decide +kernel, rfl, by decide +kernel, by decide +kernel⟩
theorem sc_Desk_answer : FnScope ["self", "call"] ["self", "call"] (defScope s_Desk_answer) := ⟨rfl, rfl, rfl, by decide +kernel, rfl, by decide +kernel, by decide +kernel⟩
theorem sc_Desk_answer_init : FnScope ["self", "d", "n"] ["self", "d", "n"] (defScope s_Desk_answer_init) := ⟨rfl, rfl, rfl, by decide +kernel, rfl, by decide +kernel, by decide +kernel⟩
theorem sc_tell : FnScope ["number", "behind"] ["number", "behind"] (defScope s_tell) := ⟨rfl, rfl, rfl, by decide +kernel, rfl, by decide +kernel, by decide +kernel⟩
theorem sc_tell_pair : FnScope ["pair"] ["pair"] (defScope s_tell_pair) := ⟨rfl, rfl, rfl, by decide +kernel, rfl, by decide +kernel, by decide +kernel⟩
theorem sc_loops_go : FnScope ["d", "n", "product", "length"] ["d", "n"] (defScope s_loops_go) := ⟨rfl, rfl, rfl, by decide +kernel, rfl, by decide +kernel, by decide +kernel⟩
theorem sc_answer_stmt : FnScope ["nest", "s"] ["nest"] (defScope s_answer_stmt) := ⟨rfl, rfl, rfl, by decide +kernel, rfl, by decide +kernel, by decide +kernel⟩
theorem sc_answer_access : FnScope ["nest", "numbers", "rows", "s", "array"] ["nest", "numbers", "rows"] (defScope s_answer_access) := ⟨rfl, rfl, rfl, by decide +kernel, rfl, by decide +kernel, by decide +kernel⟩
theorem sc_answer_meet : FnScope ["nest", "u", "v"] ["nest", "u", "v"] (defScope s_answer_meet) := ⟨rfl, rfl, rfl, by decide +kernel, rfl, by decide +kernel, by decide +kernel⟩
theorem sc_answer_dep : FnScope ["nest", "s", "t"] ["nest", "s", "t"] (defScope s_answer_dep) := ⟨rfl, rfl, rfl, by decide +kernel, rfl, by decide +kernel, by decide +kernel⟩
theorem sc_answer_carried : FnScope ["nest", "loop"] ["nest", "loop"] (defScope s_answer_carried) := ⟨rfl, rfl, rfl, by decide +kernel, rfl, by decide +kernel, by decide +kernel⟩
theorem sc_answer_try : FnScope ["nest", "k", "rows"] ["nest", "k", "rows"] (defScope s_answer_try) := ⟨rfl, rfl, rfl, by decide +kernel, rfl, by decide +kernel, by decide +kernel⟩
theorem sc_answer_steps : FnScope ["nest"] ["nest"] (defScope s_answer_steps) := ⟨rfl, rfl, rfl, by decide +kernel, rfl, by decide +kernel, by decide +kernel⟩
theorem sc_answer_level : FnScope ["nest", "u"] ["nest", "u"] (defScope s_answer_level) := ⟨rfl, rfl, rfl, by decide +kernel, rfl, by decide +kernel, by decide +kernel⟩
theorem sc_answer_at : FnScope ["nest", "step"] ["nest", "step"] (defScope s_answer_at) := ⟨rfl, rfl, rfl, by decide +kernel, rfl, by decide +kernel, by decide +kernel⟩
/-- the addresses behind the top -/
structure Ad where
  c_Meetings : Addr
  c_Nest : Addr
  c_Call : Addr
  c_Desk : Addr
  a_row_at : Addr
  d_row_at : FuncData
  a_time_of : Addr
  d_time_of : FuncData
  a_Meetings_init : Addr
  d_Meetings_init : FuncData
  a_Meetings_first_dependence : Addr
  d_Meetings_first_dependence : FuncData
  a_Meetings_first_carried : Addr
  d_Meetings_first_carried : FuncData
  a_Meetings_first_barred : Addr
  d_Meetings_first_barred : FuncData
  a_meeting_pairs : Addr
  d_meeting_pairs : FuncData
  a_touches_meet : Addr
  d_touches_meet : FuncData
  a_earliest_steps : Addr
  d_earliest_steps : FuncData
  a_Nest_init : Addr
  d_Nest_init : FuncData
  a_Nest_has_loop : Addr
  d_Nest_has_loop : FuncData
  a_Nest_statement_count : Addr
  d_Nest_statement_count : FuncData
  a_Nest_has_statement : Addr
  d_Nest_has_statement : FuncData
  a_Nest_add_statement : Addr
  d_Nest_add_statement : FuncData
  a_Nest_access_count : Addr
  d_Nest_access_count : FuncData
  a_Nest_add_access : Addr
  d_Nest_add_access : FuncData
  a_Nest_is_instance : Addr
  d_Nest_is_instance : FuncData
  a_Nest_round_place : Addr
  d_Nest_round_place : FuncData
  a_Nest_touched_by : Addr
  d_Nest_touched_by : FuncData
  a_Nest_meet : Addr
  d_Nest_meet : FuncData
  a_Nest_all_instances : Addr
  d_Nest_all_instances : FuncData
  a_Nest_meetings : Addr
  d_Nest_meetings : FuncData
  a_Nest_level_of : Addr
  d_Nest_level_of : FuncData
  a_all_rounds : Addr
  d_all_rounds : FuncData
  a_Call_init : Addr
  d_Call_init : FuncData
  a_read_calls : Addr
  d_read_calls : FuncData
  a_read_lists : Addr
  d_read_lists : FuncData
  a_answers : Addr
  d_answers : FuncData
  a_Desk_init : Addr
  d_Desk_init : FuncData
  a_Desk_answer : Addr
  d_Desk_answer : FuncData
  a_Desk_answer_init : Addr
  d_Desk_answer_init : FuncData
  a_tell : Addr
  d_tell : FuncData
  a_tell_pair : Addr
  d_tell_pair : FuncData
  a_loops_go : Addr
  d_loops_go : FuncData
  a_answer_stmt : Addr
  d_answer_stmt : FuncData
  a_answer_access : Addr
  d_answer_access : FuncData
  a_answer_meet : Addr
  d_answer_meet : FuncData
  a_answer_dep : Addr
  d_answer_dep : FuncData
  a_answer_carried : Addr
  d_answer_carried : FuncData
  a_answer_try : Addr
  d_answer_try : FuncData
  a_answer_steps : Addr
  d_answer_steps : FuncData
  a_answer_level : Addr
  d_answer_level : FuncData
  a_answer_at : Addr
  d_answer_at : FuncData
  a_SHAPES : Addr
  a_SHAPES_0 : Addr
  a_SHAPES_1 : Addr
  a_SHAPES_2 : Addr
  a_SHAPES_3 : Addr
  a_SHAPES_4 : Addr
  a_SHAPES_5 : Addr
  a_SHAPES_6 : Addr
  a_SHAPES_7 : Addr
  a_SHAPES_8 : Addr
  a_SHAPES_9 : Addr
structure Txt (K : PySem.W.Frag) (mg : Str → Option Value) (A : Ad) : Prop where
  f_row_at : Fun K "row_at" "row_at" s_row_at A.a_row_at A.d_row_at
  b_row_at : Binds K A.d_row_at ["row", "counters"] []
  mg_row_at : mg "row_at" = some (.ref A.a_row_at)
  f_time_of : Fun K "time_of" "time_of" s_time_of A.a_time_of A.d_time_of
  b_time_of : Binds K A.d_time_of ["instance", "k", "rows"] []
  mg_time_of : mg "time_of" = some (.ref A.a_time_of)
  f_Meetings_init : Fun K "__init__" "Meetings.__init__" s_Meetings_init A.a_Meetings_init A.d_Meetings_init
  b_Meetings_init : Binds K A.d_Meetings_init ["self", "instances", "touched"] []
  f_Meetings_first_dependence : Fun K "first_dependence" "Meetings.first_dependence" s_Meetings_first_dependence A.a_Meetings_first_dependence A.d_Meetings_first_dependence
  b_Meetings_first_dependence : Binds K A.d_Meetings_first_dependence ["self", "s", "t"] []
  m_Meetings_first_dependence : Meth K A.c_Meetings "first_dependence" A.a_Meetings_first_dependence
  f_Meetings_first_carried : Fun K "first_carried" "Meetings.first_carried" s_Meetings_first_carried A.a_Meetings_first_carried A.d_Meetings_first_carried
  b_Meetings_first_carried : Binds K A.d_Meetings_first_carried ["self", "loop"] []
  m_Meetings_first_carried : Meth K A.c_Meetings "first_carried" A.a_Meetings_first_carried
  f_Meetings_first_barred : Fun K "first_barred" "Meetings.first_barred" s_Meetings_first_barred A.a_Meetings_first_barred A.d_Meetings_first_barred
  b_Meetings_first_barred : Binds K A.d_Meetings_first_barred ["self", "k", "rows"] []
  m_Meetings_first_barred : Meth K A.c_Meetings "first_barred" A.a_Meetings_first_barred
  f_meeting_pairs : Fun K "meeting_pairs" "meeting_pairs" s_meeting_pairs A.a_meeting_pairs A.d_meeting_pairs
  b_meeting_pairs : Binds K A.d_meeting_pairs ["touched"] []
  mg_meeting_pairs : mg "meeting_pairs" = some (.ref A.a_meeting_pairs)
  f_touches_meet : Fun K "touches_meet" "touches_meet" s_touches_meet A.a_touches_meet A.d_touches_meet
  b_touches_meet : Binds K A.d_touches_meet ["some", "others"] []
  mg_touches_meet : mg "touches_meet" = some (.ref A.a_touches_meet)
  f_earliest_steps : Fun K "earliest_steps" "earliest_steps" s_earliest_steps A.a_earliest_steps A.d_earliest_steps
  b_earliest_steps : Binds K A.d_earliest_steps ["count", "pairs"] []
  mg_earliest_steps : mg "earliest_steps" = some (.ref A.a_earliest_steps)
  f_Nest_init : Fun K "__init__" "Nest.__init__" s_Nest_init A.a_Nest_init A.d_Nest_init
  b_Nest_init : Binds K A.d_Nest_init ["self", "lengths"] []
  f_Nest_has_loop : Fun K "has_loop" "Nest.has_loop" s_Nest_has_loop A.a_Nest_has_loop A.d_Nest_has_loop
  b_Nest_has_loop : Binds K A.d_Nest_has_loop ["self", "loop"] []
  m_Nest_has_loop : Meth K A.c_Nest "has_loop" A.a_Nest_has_loop
  f_Nest_statement_count : Fun K "statement_count" "Nest.statement_count" s_Nest_statement_count A.a_Nest_statement_count A.d_Nest_statement_count
  b_Nest_statement_count : Binds K A.d_Nest_statement_count ["self"] []
  m_Nest_statement_count : Meth K A.c_Nest "statement_count" A.a_Nest_statement_count
  f_Nest_has_statement : Fun K "has_statement" "Nest.has_statement" s_Nest_has_statement A.a_Nest_has_statement A.d_Nest_has_statement
  b_Nest_has_statement : Binds K A.d_Nest_has_statement ["self", "s"] []
  m_Nest_has_statement : Meth K A.c_Nest "has_statement" A.a_Nest_has_statement
  f_Nest_add_statement : Fun K "add_statement" "Nest.add_statement" s_Nest_add_statement A.a_Nest_add_statement A.d_Nest_add_statement
  b_Nest_add_statement : Binds K A.d_Nest_add_statement ["self"] []
  m_Nest_add_statement : Meth K A.c_Nest "add_statement" A.a_Nest_add_statement
  f_Nest_access_count : Fun K "access_count" "Nest.access_count" s_Nest_access_count A.a_Nest_access_count A.d_Nest_access_count
  b_Nest_access_count : Binds K A.d_Nest_access_count ["self", "s"] []
  m_Nest_access_count : Meth K A.c_Nest "access_count" A.a_Nest_access_count
  f_Nest_add_access : Fun K "add_access" "Nest.add_access" s_Nest_add_access A.a_Nest_add_access A.d_Nest_add_access
  b_Nest_add_access : Binds K A.d_Nest_add_access ["self", "s", "array", "written", "rows"] []
  m_Nest_add_access : Meth K A.c_Nest "add_access" A.a_Nest_add_access
  f_Nest_is_instance : Fun K "is_instance" "Nest.is_instance" s_Nest_is_instance A.a_Nest_is_instance A.d_Nest_is_instance
  b_Nest_is_instance : Binds K A.d_Nest_is_instance ["self", "told"] []
  m_Nest_is_instance : Meth K A.c_Nest "is_instance" A.a_Nest_is_instance
  f_Nest_round_place : Fun K "round_place" "Nest.round_place" s_Nest_round_place A.a_Nest_round_place A.d_Nest_round_place
  b_Nest_round_place : Binds K A.d_Nest_round_place ["self", "instance"] []
  m_Nest_round_place : Meth K A.c_Nest "round_place" A.a_Nest_round_place
  f_Nest_touched_by : Fun K "touched_by" "Nest.touched_by" s_Nest_touched_by A.a_Nest_touched_by A.d_Nest_touched_by
  b_Nest_touched_by : Binds K A.d_Nest_touched_by ["self", "instance"] []
  m_Nest_touched_by : Meth K A.c_Nest "touched_by" A.a_Nest_touched_by
  f_Nest_meet : Fun K "meet" "Nest.meet" s_Nest_meet A.a_Nest_meet A.d_Nest_meet
  b_Nest_meet : Binds K A.d_Nest_meet ["self", "u", "v"] []
  m_Nest_meet : Meth K A.c_Nest "meet" A.a_Nest_meet
  f_Nest_all_instances : Fun K "all_instances" "Nest.all_instances" s_Nest_all_instances A.a_Nest_all_instances A.d_Nest_all_instances
  b_Nest_all_instances : Binds K A.d_Nest_all_instances ["self"] []
  m_Nest_all_instances : Meth K A.c_Nest "all_instances" A.a_Nest_all_instances
  f_Nest_meetings : Fun K "meetings" "Nest.meetings" s_Nest_meetings A.a_Nest_meetings A.d_Nest_meetings
  b_Nest_meetings : Binds K A.d_Nest_meetings ["self"] []
  m_Nest_meetings : Meth K A.c_Nest "meetings" A.a_Nest_meetings
  f_Nest_level_of : Fun K "level_of" "Nest.level_of" s_Nest_level_of A.a_Nest_level_of A.d_Nest_level_of
  b_Nest_level_of : Binds K A.d_Nest_level_of ["self", "instance"] []
  m_Nest_level_of : Meth K A.c_Nest "level_of" A.a_Nest_level_of
  f_all_rounds : Fun K "all_rounds" "all_rounds" s_all_rounds A.a_all_rounds A.d_all_rounds
  b_all_rounds : Binds K A.d_all_rounds ["lengths"] []
  mg_all_rounds : mg "all_rounds" = some (.ref A.a_all_rounds)
  f_Call_init : Fun K "__init__" "Call.__init__" s_Call_init A.a_Call_init A.d_Call_init
  b_Call_init : Binds K A.d_Call_init ["self", "kind", "numbers", "lists"] []
  f_read_calls : Fun K "read_calls" "read_calls" s_read_calls A.a_read_calls A.d_read_calls
  b_read_calls : Binds K A.d_read_calls ["line"] []
  mg_read_calls : mg "read_calls" = some (.ref A.a_read_calls)
  f_read_lists : Fun K "read_lists" "read_lists" s_read_lists A.a_read_lists A.d_read_lists
  b_read_lists : Binds K A.d_read_lists ["line", "place", "how_many"] []
  mg_read_lists : mg "read_lists" = some (.ref A.a_read_lists)
  f_answers : Fun K "answers" "answers" s_answers A.a_answers A.d_answers
  b_answers : Binds K A.d_answers ["calls"] []
  mg_answers : mg "answers" = some (.ref A.a_answers)
  f_Desk_init : Fun K "__init__" "Desk.__init__" s_Desk_init A.a_Desk_init A.d_Desk_init
  b_Desk_init : Binds K A.d_Desk_init ["self"] []
  f_Desk_answer : Fun K "answer" "Desk.answer" s_Desk_answer A.a_Desk_answer A.d_Desk_answer
  b_Desk_answer : Binds K A.d_Desk_answer ["self", "call"] []
  m_Desk_answer : Meth K A.c_Desk "answer" A.a_Desk_answer
  f_Desk_answer_init : Fun K "answer_init" "Desk.answer_init" s_Desk_answer_init A.a_Desk_answer_init A.d_Desk_answer_init
  b_Desk_answer_init : Binds K A.d_Desk_answer_init ["self", "d", "n"] []
  m_Desk_answer_init : Meth K A.c_Desk "answer_init" A.a_Desk_answer_init
  f_tell : Fun K "tell" "tell" s_tell A.a_tell A.d_tell
  b_tell : Binds K A.d_tell ["number", "behind"] []
  mg_tell : mg "tell" = some (.ref A.a_tell)
  f_tell_pair : Fun K "tell_pair" "tell_pair" s_tell_pair A.a_tell_pair A.d_tell_pair
  b_tell_pair : Binds K A.d_tell_pair ["pair"] []
  mg_tell_pair : mg "tell_pair" = some (.ref A.a_tell_pair)
  f_loops_go : Fun K "loops_go" "loops_go" s_loops_go A.a_loops_go A.d_loops_go
  b_loops_go : Binds K A.d_loops_go ["d", "n"] []
  mg_loops_go : mg "loops_go" = some (.ref A.a_loops_go)
  f_answer_stmt : Fun K "answer_stmt" "answer_stmt" s_answer_stmt A.a_answer_stmt A.d_answer_stmt
  b_answer_stmt : Binds K A.d_answer_stmt ["nest"] []
  mg_answer_stmt : mg "answer_stmt" = some (.ref A.a_answer_stmt)
  f_answer_access : Fun K "answer_access" "answer_access" s_answer_access A.a_answer_access A.d_answer_access
  b_answer_access : Binds K A.d_answer_access ["nest", "numbers", "rows"] []
  mg_answer_access : mg "answer_access" = some (.ref A.a_answer_access)
  f_answer_meet : Fun K "answer_meet" "answer_meet" s_answer_meet A.a_answer_meet A.d_answer_meet
  b_answer_meet : Binds K A.d_answer_meet ["nest", "u", "v"] []
  mg_answer_meet : mg "answer_meet" = some (.ref A.a_answer_meet)
  f_answer_dep : Fun K "answer_dep" "answer_dep" s_answer_dep A.a_answer_dep A.d_answer_dep
  b_answer_dep : Binds K A.d_answer_dep ["nest", "s", "t"] []
  mg_answer_dep : mg "answer_dep" = some (.ref A.a_answer_dep)
  f_answer_carried : Fun K "answer_carried" "answer_carried" s_answer_carried A.a_answer_carried A.d_answer_carried
  b_answer_carried : Binds K A.d_answer_carried ["nest", "loop"] []
  mg_answer_carried : mg "answer_carried" = some (.ref A.a_answer_carried)
  f_answer_try : Fun K "answer_try" "answer_try" s_answer_try A.a_answer_try A.d_answer_try
  b_answer_try : Binds K A.d_answer_try ["nest", "k", "rows"] []
  mg_answer_try : mg "answer_try" = some (.ref A.a_answer_try)
  f_answer_steps : Fun K "answer_steps" "answer_steps" s_answer_steps A.a_answer_steps A.d_answer_steps
  b_answer_steps : Binds K A.d_answer_steps ["nest"] []
  mg_answer_steps : mg "answer_steps" = some (.ref A.a_answer_steps)
  f_answer_level : Fun K "answer_level" "answer_level" s_answer_level A.a_answer_level A.d_answer_level
  b_answer_level : Binds K A.d_answer_level ["nest", "u"] []
  mg_answer_level : mg "answer_level" = some (.ref A.a_answer_level)
  f_answer_at : Fun K "answer_at" "answer_at" s_answer_at A.a_answer_at A.d_answer_at
  b_answer_at : Binds K A.d_answer_at ["nest", "step"] []
  mg_answer_at : mg "answer_at" = some (.ref A.a_answer_at)
  cl_Meetings : Cls K A.c_Meetings
  mgc_Meetings : mg "Meetings" = some (.ref A.c_Meetings)
  mk_Meetings : Mk K A.c_Meetings A.a_Meetings_init
  na_Meetings_instances : NoAttr K A.c_Meetings "instances"
  na_Meetings_levels : NoAttr K A.c_Meetings "levels"
  na_Meetings_pairs : NoAttr K A.c_Meetings "pairs"
  cl_Nest : Cls K A.c_Nest
  mgc_Nest : mg "Nest" = some (.ref A.c_Nest)
  mk_Nest : Mk K A.c_Nest A.a_Nest_init
  na_Nest_depth : NoAttr K A.c_Nest "depth"
  na_Nest_found : NoAttr K A.c_Nest "found"
  na_Nest_lengths : NoAttr K A.c_Nest "lengths"
  na_Nest_rounds : NoAttr K A.c_Nest "rounds"
  na_Nest_touches : NoAttr K A.c_Nest "touches"
  cl_Call : Cls K A.c_Call
  mgc_Call : mg "Call" = some (.ref A.c_Call)
  mk_Call : Mk K A.c_Call A.a_Call_init
  na_Call_kind : NoAttr K A.c_Call "kind"
  na_Call_lists : NoAttr K A.c_Call "lists"
  na_Call_numbers : NoAttr K A.c_Call "numbers"
  cl_Desk : Cls K A.c_Desk
  mgc_Desk : mg "Desk" = some (.ref A.c_Desk)
  mk_Desk : Mk K A.c_Desk A.a_Desk_init
  na_Desk_nest : NoAttr K A.c_Desk "nest"
  g_ROW_LENGTH : ∃ t, mg "ROW_LENGTH" = some (.int 4 t)
  g_MOST_LOOPS : ∃ t, mg "MOST_LOOPS" = some (.int 3 t)
  g_INIT : ∃ t, mg "INIT" = some (.int 0 t)
  g_STMT : ∃ t, mg "STMT" = some (.int 1 t)
  g_ACCESS : ∃ t, mg "ACCESS" = some (.int 2 t)
  g_MEET : ∃ t, mg "MEET" = some (.int 3 t)
  g_DEP : ∃ t, mg "DEP" = some (.int 4 t)
  g_CARRIED : ∃ t, mg "CARRIED" = some (.int 5 t)
  g_TRY : ∃ t, mg "TRY" = some (.int 6 t)
  g_STEPS : ∃ t, mg "STEPS" = some (.int 7 t)
  g_LEVEL : ∃ t, mg "LEVEL" = some (.int 8 t)
  g_SHAPES : mg "SHAPES" = some (.ref A.a_SHAPES)
  t_SHAPES : ∀ H, SqT K H A.a_SHAPES [.ref A.a_SHAPES_0, .ref A.a_SHAPES_1, .ref A.a_SHAPES_2, .ref A.a_SHAPES_3, .ref A.a_SHAPES_4, .ref A.a_SHAPES_5, .ref A.a_SHAPES_6, .ref A.a_SHAPES_7, .ref A.a_SHAPES_8, .ref A.a_SHAPES_9]
  t_SHAPES_0 : ∀ H, SqT K H A.a_SHAPES_0 [.int 1, .int 1]
  t_SHAPES_1 : ∀ H, SqT K H A.a_SHAPES_1 [.int 0, .int 0]
  t_SHAPES_2 : ∀ H, SqT K H A.a_SHAPES_2 [.int 3, .int 1]
  t_SHAPES_3 : ∀ H, SqT K H A.a_SHAPES_3 [.int 0, .int 2]
  t_SHAPES_4 : ∀ H, SqT K H A.a_SHAPES_4 [.int 2, .int 0]
  t_SHAPES_5 : ∀ H, SqT K H A.a_SHAPES_5 [.int 1, .int 0]
  t_SHAPES_6 : ∀ H, SqT K H A.a_SHAPES_6 [.int 1, .int 1]
  t_SHAPES_7 : ∀ H, SqT K H A.a_SHAPES_7 [.int 0, .int 0]
  t_SHAPES_8 : ∀ H, SqT K H A.a_SHAPES_8 [.int 0, .int 1]
  t_SHAPES_9 : ∀ H, SqT K H A.a_SHAPES_9 [.int 1, .int 0]
  g_MOST_ROUNDS : ∃ t, mg "MOST_ROUNDS" = some (.int 64 t)
  g_MOST_STATEMENTS : ∃ t, mg "MOST_STATEMENTS" = some (.int 3 t)
  g_MOST_ACCESSES : ∃ t, mg "MOST_ACCESSES" = some (.int 3 t)
  g_LAST_ARRAY : ∃ t, mg "LAST_ARRAY" = some (.int 7 t)
  g_LONGEST_TIME : ∃ t, mg "LONGEST_TIME" = some (.int 4 t)
  n_len : mg "len" = none
  n_max : mg "max" = none
  n_range : mg "range" = none
  n_sum : mg "sum" = none
end My
namespace My
open PySem PySem.Spec PyProof.Rows L2
section
variable {P : Program} {w : World} {K : PySem.W.Frag} {mg : Str → Option Value} {base : Heap} {A : Ad}
/-- a row at a round -/
def sp_row_at (K : PySem.W.Frag) (A : Ad) : Sp := fun vs H Q _ => ∃ d : P4 Addr Addr (List Int) (List Nat), d.un fun r c e x => A7 (vs = [.ref r, .ref c]) (SqL K H r (e.map V.int)) (SqL K H c (x.map nV)) (e.length = 4) (3 ≤ x.length) (∀ z ∈ e, -(2 ^ 63) ≤ z ∧ z < 2 ^ 63) (Q (.int (NestNs.affine e x)) H)
theorem affine_eq (e0 e1 e2 e3 : Int) (x0 x1 x2 : Nat) (xr : List Nat) : NestNs.affine [e0, e1, e2, e3] (x0 :: x1 :: x2 :: xr) = e0 + e1 * (x0 : Int) + e2 * (x1 : Int) + e3 * (x2 : Int) := by
  simp only [NestNs.affine, List.getD_cons_zero, List.getD_cons_succ]
  omega
theorem ok_row_at (T : Txt K mg A) : FnOk P w K mg base CX0 1 A.a_row_at A.d_row_at ["row", "counters"] (sp_row_at K A) := by
  refine T.f_row_at.ok sc_row_at (fun vs H Q E h => ?_) (fun cdv A' outer s H vs Q E hr h => ?_)
  · obtain ⟨⟨_, _, _, _⟩, rfl, _⟩ := h
    rfl
  · obtain ⟨⟨r, c, e, x⟩, rfl, he, hx, le, lx, hb, k⟩ := h
    obtain ⟨e0, e1, e2, e3, rfl⟩ := len4 le
    obtain ⟨x0, x1, x2, xr, rfl⟩ := len3up lx
    refine ⟨_, (pss_one (ps_ret (pe_op op_add (pe_op op_add (pe_op op_add (pe_ix ix_list (pv 0) pe_int (fun _ _ => rfl)) (pe_op op_mul (pe_ix ix_list (pv 0) pe_int (fun _ _ => rfl)) (pe_ix ix_list (pv 1) pe_int (fun _ _ => rfl)))) (pe_op op_mul (pe_ix ix_list (pv 0) pe_int (fun _ _ => rfl)) (pe_ix ix_list (pv 1) pe_int (fun _ _ => rfl)))) (pe_op op_mul (pe_ix ix_list (pv 0) pe_int (fun _ _ => rfl)) (pe_ix ix_list (pv 1) pe_int (fun _ _ => rfl)))))), ?_⟩
    try dsimp only [cxOf, Cx.nox]
    have g0 : ((x0 :: x1 :: x2 :: xr).map nV)[0]? = some (nV x0) := rfl
    have g1 : ((x0 :: x1 :: x2 :: xr).map nV)[1]? = some (nV x1) := rfl
    have g2 : ((x0 :: x1 :: x2 :: xr).map nV)[2]? = some (nV x2) := rfl
    have b1 := hb e1 (by simp)
    have b2 := hb e2 (by simp)
    have b3 := hb e3 (by simp)
    rw [affine_eq] at k
    exact ⟨_, rfl, rd_ix he rfl ⟨_, rfl, rd_ix he rfl ⟨_, rfl, rd_ix hx (at_of (j := 0) rfl g0) ⟨_, _, rfl, rfl, .inl ⟨by omega, by omega⟩, _, _, rfl, rfl, _, rfl, rd_ix he rfl ⟨_, rfl, rd_ix hx (at_of (j := 1) rfl g1) ⟨_, _, rfl, rfl, .inl ⟨by omega, by omega⟩, _, _, rfl, rfl, _, rfl, rd_ix he rfl ⟨_, rfl, rd_ix hx (at_of (j := 2) rfl g2) ⟨_, _, rfl, rfl, .inl ⟨by omega, by omega⟩, _, _, rfl, rfl, k⟩⟩⟩⟩⟩⟩⟩⟩
end
end My
namespace My
open PySem PySem.Spec PyProof.Rows L2
section
variable {P : Program} {w : World} {K : PySem.W.Frag} {mg : Str → Option Value} {base : Heap} {A : Ad}
/-- what an instance touches, one by one -/
abbrev Touch := Bool × (Nat × Int × Int)
def TouchAt (K : PySem.W.Frag) (H : Hp) (v : V) (t : Touch) : Prop := ∃ p c, v = .ref p ∧ SqT K H p [.ref c, .bl t.1] ∧ SqT K H c [.int (t.2.1 : Nat), .int t.2.2.1, .int t.2.2.2]
def TouchesAt (K : PySem.W.Frag) (H : Hp) (a : Addr) (ts : List Touch) : Prop := ∃ vs, SqL K H a vs ∧ Paired (TouchAt K H) vs ts
def meets (ts us : List Touch) : Bool := ts.any fun t => us.any fun u => (t.1 || u.1) && t.2 == u.2
theorem eqv_cell (t u : Nat × Int × Int) : PyData.eqv (.tuple [.int (t.1 : Nat), .int t.2.1, .int t.2.2]) (.tuple [.int (u.1 : Nat), .int u.2.1, .int u.2.2]) = (t == u) := by
  obtain ⟨a, b, c⟩ := t
  obtain ⟨d, e, f⟩ := u
  rw [Bool.eq_iff_iff]
  simp [PyData.eqv, PyData.eqvAll]
  omega
def sp_touches_meet (K : PySem.W.Frag) (A : Ad) : Sp := fun vs H Q _ => ∃ d : P4 Addr Addr (List Touch) (List Touch), d.un fun a b ts us => A4 (vs = [.ref a, .ref b]) (TouchesAt K H a ts) (TouchesAt K H b us) (Q (.bl (meets ts us)) H)
theorem ok_touches_meet (T : Txt K mg A) : FnOk P w K mg base CX0 1 A.a_touches_meet A.d_touches_meet ["some", "others"] (sp_touches_meet K A) := by
  refine T.f_touches_meet.ok sc_touches_meet (fun vs H Q E h => ?_) (fun cdv A' outer s H vs Q E hr h => ?_)
  · obtain ⟨⟨_, _, _, _⟩, rfl, _⟩ := h
    rfl
  · obtain ⟨⟨a, b, ts, us⟩, rfl, ⟨xs, hx, px⟩, ⟨ys, hy, py⟩, k⟩ := h
    refine ⟨_, (pss_cons (ps_for PassesOwn.never rfl (pi_list (pv 0)) (pg_tup rfl (pgs_cons (pg_name (i := 2) sc_touches_meet.nd rfl (Or.inl rfl)) (pgs_cons (pg_name (i := 3) sc_touches_meet.nd rfl (Or.inl rfl)) pgs_nil)))
          (pss_one (ps_for PassesOwn.never rfl (pi_list (pv 1)) (pg_tup rfl (pgs_cons (pg_name (i := 4) sc_touches_meet.nd rfl (Or.inl rfl)) (pgs_cons (pg_name (i := 5) sc_touches_meet.nd rfl (Or.inl rfl)) pgs_nil)))
              (pss_one (ps_if (PW.pt (pw_and (pt_cmpR (op_eqD hr.units) (pv 2) (pv 4) (nomark _)) (pw_and1 (PW.pt (pw_or (pt_val (pv 3)) (pw_or1 (pt_val (pv 5))))))))
                  (pss_one (ps_ret pe_bl))
                  pss_nil)))))
        (pss_one (ps_ret pe_bl))), ?_⟩
    try dsimp only [cxOf, Cx.nox]
    refine ⟨_, rfl, a, rfl, ⟨_, hx⟩, for_list (K := K) (a := a) (xs := xs) (fun i σ H' => A3 (H' = H) (∃ v2 v3 v4 v5, σ = [some (.ref a), some (.ref b), v2, v3, v4, v5]) (meets (ts.take i) us = false))
      ⟨rfl, ⟨_, _, _, _, rfl⟩, rfl⟩ (fun i σ H' _ ⟨e, _, _⟩ => by rw [e]; exact hx) ?_ ?_⟩
    · rintro i x σ H' hi ⟨rfl, ⟨v2, v3, v4, v5, rfl⟩, hm⟩
      obtain ⟨t, ht, p, c, rfl, hp, hc⟩ := pget px hi
      refine ⟨p, _, rfl, hp, rfl, _, _, rfl, _, _, rfl, rfl, ?_⟩
      refine ⟨_, rfl, b, rfl, ⟨_, hy⟩, for_list (K := K) (a := b) (xs := ys) (fun j σ H'' => A3 (H'' = H') (∃ v4 v5, σ = [some (.ref a), some (.ref b), some (.ref c), some (.bl t.1), v4, v5]) (meets [t] (us.take j) = false))
        ⟨rfl, ⟨_, _, rfl⟩, rfl⟩ (fun i σ H' _ ⟨e, _, _⟩ => by rw [e]; exact hy) ?_ ?_⟩
      · rintro j y σ H'' hj ⟨rfl, ⟨v4, v5, rfl⟩, hn⟩
        obtain ⟨u, hu, q, d, rfl, hq, hd⟩ := pget py hj
        refine ⟨q, _, rfl, hq, rfl, _, _, rfl, _, _, rfl, rfl, ?_⟩
        refine ⟨_, rfl, _, rfl, _, _, .tup hc (.cons (.int _) (.cons (.int _) (.cons (.int _) .nil))), .tup hd (.cons (.int _) (.cons (.int _) (.cons (.int _) .nil))), rfl, rfl, _, rfl, ?_⟩
        have hin : ∀ b : Bool, ((t.1 || u.1) && t.2 == u.2) = b → meets [t] (us.take (j + 1)) = b := fun b hb => by
          simp only [meets, List.any_cons, List.any_nil, Bool.or_false] at hn ⊢
          rw [take_snoc hu, List.any_append, hn]
          simp [hb]
        by_cases hE : (t.2 == u.2) = true
        · refine iteP (by rw [eqv_cell]; exact hE) ?_
          refine ⟨_, rfl, _, rfl, ?_⟩
          by_cases h1 : t.1 = true
          · refine iteP h1 (iteP rfl ?_)
            have : meets ts us = true := by
              unfold meets
              rw [List.any_eq_true]
              refine ⟨t, List.mem_of_getElem? ht, ?_⟩
              rw [List.any_eq_true]
              exact ⟨u, List.mem_of_getElem? hu, by simp [h1, hE]⟩
            rw [this] at k
            exact k
          · refine iteQ h1 ?_
            refine ⟨_, rfl, _, rfl, ?_⟩
            by_cases h2 : u.1 = true
            · refine iteP h2 ?_
              have : meets ts us = true := by
                unfold meets
                rw [List.any_eq_true]
                refine ⟨t, List.mem_of_getElem? ht, ?_⟩
                rw [List.any_eq_true]
                exact ⟨u, List.mem_of_getElem? hu, by simp [h2, hE]⟩
              rw [this] at k
              exact k
            · refine iteQ h2 ?_
              exact ⟨rfl, ⟨_, _, rfl⟩, hin false (by simp [h1, h2])⟩
        · refine iteQ (by rw [eqv_cell]; exact hE) (iteQ Bool.false_ne_true ?_)
          exact ⟨rfl, ⟨_, _, rfl⟩, hin false (by simp [hE])⟩
      · rintro σ H'' ⟨rfl, ⟨v4, v5, rfl⟩, hn⟩
        rw [py.length, List.take_length] at hn
        refine ⟨rfl, ⟨_, _, _, _, rfl⟩, ?_⟩
        rw [take_snoc ht]
        simp only [meets, List.any_append, List.any_cons, List.any_nil, Bool.or_false, Bool.or_eq_false_iff] at hm hn ⊢
        exact ⟨hm, hn⟩
    · rintro σ H' ⟨rfl, ⟨v2, v3, v4, v5, rfl⟩, hm⟩
      rw [px.length, List.take_length] at hm
      rw [hm] at k
      exact k
end
end My
namespace My
open PySem PySem.Spec PyProof.Rows L2
section
variable {P : Program} {w : World} {K : PySem.W.Frag} {mg : Str → Option Value} {base : Heap} {A : Ad}
/-- all rounds of three lengths, in their order: a new list of new lists -/
def sp_all_rounds (K : PySem.W.Frag) (A : Ad) : Sp := fun vs H Q _ => ∃ d : P4 Addr Nat Nat Nat, d.un fun a x y z => A7 (vs = [.ref a]) (SqL K H a ([x, y, z].map nV)) (x * y * z ≤ 64) (x ≤ 64) (y ≤ 64) (z ≤ 64) (∀ (H' : Hp) (p : Addr) (rs : List Addr), Acc NatsL H H' p (rounds x y z) rs → Q (.ref p) H')
theorem rounds_x (x y z : Nat) : rounds (x + 1) y z = rounds x y z ++ (List.range y).flatMap fun b => (List.range z).map fun c => [x, b, c] := by
  unfold rounds
  rw [List.range_succ, List.flatMap_append, List.flatMap_cons, List.flatMap_nil, List.append_nil]
theorem rounds_le {x y z i j : Nat} (hi : i < x) (hj : j < y) (k : Nat) (hk : k < z) (h : x * y * z ≤ 64) (d : List (List Nat)) (hd : d = rounds i y z ++ ((List.range j).flatMap fun b => (List.range z).map fun c => [i, b, c]) ++ (List.range k).map fun c => [i, j, c]) : d.length < 64 := by
  have e1 : ((List.range j).flatMap fun b => (List.range z).map fun c => [i, b, c]).length = j * z := by rw [flat_len]; simp
  rw [hd, List.length_append, List.length_append, rounds_len, e1, List.length_map, List.length_range]
  have a1 : (i + 1) * (y * z) ≤ x * (y * z) := Nat.mul_le_mul_right _ hi
  have a2 : (j + 1) * z ≤ y * z := Nat.mul_le_mul_right _ hj
  rw [Nat.add_mul] at a1 a2
  rw [Nat.mul_assoc] at h ⊢
  omega
theorem ok_all_rounds (T : Txt K mg A) : FnOk P w K mg base CX0 1 A.a_all_rounds A.d_all_rounds ["lengths"] (sp_all_rounds K A) := by
  refine T.f_all_rounds.ok sc_all_rounds (fun vs H Q E h => ?_) (fun cdv A' outer s H vs Q E hr h => ?_)
  · obtain ⟨⟨_, _, _, _⟩, rfl, _⟩ := h
    rfl
  · obtain ⟨⟨a, x, y, z⟩, rfl, ha, h64, hx, hy, hz, k⟩ := h
    refine ⟨_, (pss_cons (ps_set (i := 1) sc_all_rounds.nd rfl (Or.inl rfl) (pe_lst pa_nil))
        (pss_cons (ps_for PassesOwn.never rfl (pi_range1 rfl T.n_range (pa_cons (pe_ix ix_list (pv 0) pe_int (fun _ _ => rfl)) pa_nil)) (pg_name (i := 2) sc_all_rounds.nd rfl (Or.inl rfl))
          (pss_one (ps_for PassesOwn.never rfl (pi_range1 rfl T.n_range (pa_cons (pe_ix ix_list (pv 0) pe_int (fun _ _ => rfl)) pa_nil)) (pg_name (i := 3) sc_all_rounds.nd rfl (Or.inl rfl))
              (pss_one (ps_for PassesOwn.never rfl (pi_range1 rfl T.n_range (pa_cons (pe_ix ix_list (pv 0) pe_int (fun _ _ => rfl)) pa_nil)) (pg_name (i := 4) sc_all_rounds.nd rfl (Or.inl rfl))
                  (pss_one (ps_expr (pe_bm PySem.F.plainAttrs_list PySem.F.slot_list_append PySem.F.type_list_append mt_append (pv 1) (pa_cons (pe_lst (pa_cons (pv 2) (pa_cons (pv 3) (pa_cons (pv 4) pa_nil)))) pa_nil)))))))))
        (pss_one (ps_ret (pv 1))))), ?_⟩
    try dsimp only [cxOf, Cx.nox]
    refine ⟨Nat.zero_le _, fun p hp => ?_⟩
    have gx : ∀ {H' : Hp}, Same H H' → SqL K H' a ([x, y, z].map nV) := fun s => s.seq ha
    refine ⟨_, rfl, rd_ix (gx (same_new hp)) rfl ⟨(x : Int), rfl, by omega, by omega, ?_⟩⟩
    refine for_range (n := ((x : Int)).toNat) (fun i σ H' => (∃ v2 v3 v4, σ = [some (.ref a), some (.ref p), v2, v3, v4]) ∧ ∃ rs, Acc NatsL H H' p (rounds i y z) rs)
      ⟨⟨_, _, _, rfl⟩, _, .start hp⟩ ?_ ?_
    · rintro i σ H1 hi ⟨⟨v2, v3, v4, rfl⟩, rs, A1⟩
      rw [Int.toNat_natCast] at hi
      rw [Int.zero_add]
      refine ⟨_, rfl, rd_ix (gx A1.same) rfl ⟨(y : Int), rfl, by omega, by omega, ?_⟩⟩
      refine for_range (n := ((y : Int)).toNat) (fun j σ H' => (∃ v3 v4, σ = [some (.ref a), some (.ref p), some (nV i), v3, v4]) ∧ ∃ rs, Acc NatsL H H' p (rounds i y z ++ ((List.range j).flatMap fun b => (List.range z).map fun c => [i, b, c])) rs)
        ⟨⟨_, _, rfl⟩, rs, by simpa using A1⟩ ?_ ?_
      · rintro j σ H2 hj ⟨⟨v3, v4, rfl⟩, rs2, A2⟩
        rw [Int.toNat_natCast] at hj
        rw [Int.zero_add]
        refine ⟨_, rfl, rd_ix (gx A2.same) rfl ⟨(z : Int), rfl, by omega, by omega, ?_⟩⟩
        refine for_range (n := ((z : Int)).toNat) (fun l σ H' => (∃ v4, σ = [some (.ref a), some (.ref p), some (nV i), some (nV j), v4]) ∧ ∃ rs, Acc NatsL H H' p (rounds i y z ++ ((List.range j).flatMap fun b => (List.range z).map fun c => [i, b, c]) ++ (List.range l).map fun c => [i, j, c]) rs)
          ⟨⟨_, rfl⟩, rs2, by simpa using A2⟩ ?_ ?_
        · rintro l σ H3 hl ⟨⟨v4, rfl⟩, rs3, A3⟩
          rw [Int.toNat_natCast] at hl
          rw [Int.zero_add]
          have hlen : rs3.length < 64 := by rw [A3.len]; exact rounds_le hi hj l hl h64 _ rfl
          refine ⟨_, rfl, .inl ⟨rfl, _, SqL.of A3.lst⟩, _, rfl, _, rfl, _, rfl, (by show 3 ≤ sizeLine; decide), fun r hr => ?_⟩
          have s1 : Same H3 (upd H3 r (.lst [nV i, nV j, nV l])) := same_new hr
          have np : r ≠ p := (ne_of_none A3.lst hr).symm
          have A4 := A3.grow mono_nats s1
          refine ⟨p, _, _, rfl, rfl, A4.lst, (by rw [List.length_map]; exact size_lt (by omega)), ?_⟩
          refine ⟨⟨_, rfl⟩, rs3 ++ [r], ?_⟩
          have hF : NatsL (newer H (upd H3 r (.lst [nV i, nV j, nV l])) p) r [i, j, l] := newer_at upd_same (A3.same.free hr) np
          have A5 := A4.push (A3.same.free hr) hF
          rw [List.range_succ, List.map_append, ← List.append_assoc]
          exact A5
        · rintro σ H3 ⟨⟨v4, rfl⟩, rs3, A3⟩
          rw [Int.toNat_natCast] at A3
          refine ⟨⟨_, _, rfl⟩, rs3, ?_⟩
          rw [List.range_succ, List.flatMap_append, List.flatMap_cons, List.flatMap_nil, List.append_nil, ← List.append_assoc]
          exact A3
      · rintro σ H2 ⟨⟨v3, v4, rfl⟩, rs2, A2⟩
        rw [Int.toNat_natCast] at A2
        refine ⟨⟨_, _, _, rfl⟩, rs2, ?_⟩
        rw [rounds_x]
        exact A2
    · rintro σ H1 ⟨⟨v2, v3, v4, rfl⟩, rs, A1⟩
      rw [Int.toNat_natCast] at A1
      exact ⟨_, rfl, k _ _ _ A1⟩
end
end My
namespace My
open PySem PySem.Spec PyProof.Rows L2
section
variable {P : Program} {w : World} {K : PySem.W.Frag} {mg : Str → Option Value} {base : Heap} {A : Ad}
-- uses all_rounds
-- uses touches_meet
/-! A nest in the heap: x, y, z rounds, m statements, tf what the instance of the k-th statement in the i-th round touches. -/
structure NestD where
  dx : Addr
  la : Addr
  ra : Addr
  ta : Addr
  rs : List Addr
  bs : List Addr
  dp : Nat
  fv : V
inductive Tag where
  | len | rds | rnd | tch | stm | pl (k i : Nat) | no
  deriving DecidableEq
def nestF (dp : Nat) (la ra ta : Addr) (fv : V) : List (Str × V) := [("depth", nV dp), ("lengths", .ref la), ("rounds", .ref ra), ("touches", .ref ta), ("found", fv)]
structure NestT (K : PySem.W.Frag) (A : Ad) (H0 H : Hp) (p : Addr) (x y z m : Nat) (tf : Nat → Nat → List Touch) (N : NestD) (tag : Addr → Tag) : Prop where
  sm : Same H0 H
  np : H0 p = none
  obj : H p = some (.ins A.c_Nest N.dx (nestF N.dp N.la N.ra N.ta N.fv))
  old : ∀ a, tag a ≠ .no → H0 a = none
  small : x * y * z ≤ 64 ∧ 1 ≤ x ∧ 1 ≤ y ∧ 1 ≤ z
  len : NatsL H N.la [x, y, z] ∧ tag N.la = .len
  rds : H N.ra = some (.lst (N.rs.map V.ref)) ∧ tag N.ra = .rds
  rnd : Paired (NatsL H) N.rs (rounds x y z)
  rndT : ∀ r ∈ N.rs, tag r = .rnd
  tch : H N.ta = some (.lst (N.bs.map V.ref)) ∧ tag N.ta = .tch
  cnt : N.bs.length = m
  stm : ∀ (k : Nat) (b : Addr), N.bs[k]? = some b → tag b = .stm ∧ ∃ pl : List Addr, H b = some (.lst (pl.map V.ref)) ∧ pl.length = x * y * z ∧
    ∀ (i : Nat) (c : Addr), pl[i]? = some c → tag c = .pl k i ∧ ∃ vs, H c = some (.lst vs) ∧ Paired (TouchAt K H) vs (tf k i)
theorem TouchAt.mono {K : PySem.W.Frag} {H H1 : Hp} {v : V} {t : Touch} (s : ∀ b xs, H b = some (.tup xs) → H1 b = some (.tup xs)) (sf : ∀ b o u, H b = some (.frz o u) → H1 b = some (.frz o u)) (h : TouchAt K H v t) : TouchAt K H1 v t := by
  have g : ∀ {b : Addr} {xs : List V}, SqT K H b xs → SqT K H1 b xs := fun {b xs} q => by
    rcases q with (q | ⟨o, q⟩) | q
    · exact .inl (.inl (s _ _ q))
    · exact .inl (.inr ⟨o, sf _ _ _ q⟩)
    · exact .inr q
  obtain ⟨p, c, e, h1, h2⟩ := h
  exact ⟨p, c, e, g h1, g h2⟩
/-- all that was tracked stays: so does the nest -/
theorem NestT.grow {K : PySem.W.Frag} {A : Ad} {H0 H H1 : Hp} {p : Addr} {x y z m : Nat} {tf : Nat → Nat → List Touch} {N : NestD} {tag : Addr → Tag} (T : NestT K A H0 H p x y z m tf N tag) (s : Same H H1) : NestT K A H0 H1 p x y z m tf N tag :=
  ⟨T.sm.trans s, T.np, s _ _ T.obj, T.old, T.small, ⟨s _ _ T.len.1, T.len.2⟩, ⟨s _ _ T.rds.1, T.rds.2⟩, T.rnd.mono fun _ _ h => s _ _ h, T.rndT, ⟨s _ _ T.tch.1, T.tch.2⟩, T.cnt, fun k b h => by
    obtain ⟨t, pl, h1, h2, h3⟩ := T.stm k b h
    refine ⟨t, pl, s _ _ h1, h2, fun i c hc => ?_⟩
    obtain ⟨t2, vs, h4, h5⟩ := h3 i c hc
    exact ⟨t2, vs, s _ _ h4, h5.mono fun _ _ q => q.mono (fun b xs e => s _ _ e) (fun b o u e => s _ _ e)⟩⟩
/-- something else changes, here and in what stands around -/
theorem NestT.upd_ {K : PySem.W.Frag} {A : Ad} {H0 H : Hp} {p : Addr} {x y z m : Nat} {tf : Nat → Nat → List Touch} {N : NestD} {tag : Addr → Tag} (T : NestT K A H0 H p x y z m tf N tag) {l : Addr} {o o' : HO} (hl : H0 l = some o) (k1 : ∀ xs, o ≠ .tup xs) (k2 : ∀ ob u, o ≠ .frz ob u) :
    NestT K A (upd H0 l o') (upd H l o') p x y z m tf N tag := by
  have nt : ∀ {b : Addr} {g : Tag}, tag b = g → g ≠ .no → b ≠ l := fun h1 h2 e => by
    have := T.old _ (by rw [h1]; exact h2)
    rw [e, hl] at this
    cases this
  have npl : p ≠ l := fun e => by have := T.np; rw [e, hl] at this; cases this
  have up : ∀ {b : Addr} {q : HO}, H b = some q → b ≠ l → upd H l o' b = some q := fun e h => by rw [upd_ne h]; exact e
  have hl' := T.sm _ _ hl
  refine ⟨fun b q e => ?_, by rw [upd_ne npl]; exact T.np, up T.obj npl, fun a h => ?_, T.small, ⟨up T.len.1 (nt T.len.2 (by intro q; cases q)), T.len.2⟩, ⟨up T.rds.1 (nt T.rds.2 (by intro q; cases q)), T.rds.2⟩, keep_nats T.rnd (fun r hr o e => up e (nt (T.rndT r hr) (by intro q; cases q))), T.rndT,
    ⟨up T.tch.1 (nt T.tch.2 (by intro q; cases q)), T.tch.2⟩, T.cnt, fun k b h => ?_⟩
  · by_cases hb : b = l
    · rw [hb, upd_same] at e ⊢; exact e
    · rw [upd_ne hb] at e ⊢; exact T.sm _ _ e
  · rw [upd_ne (nt rfl h)]; exact T.old a h
  · obtain ⟨t, pl, h1, h2, h3⟩ := T.stm k b h
    refine ⟨t, pl, up h1 (nt t (by intro q; cases q)), h2, fun i c hc => ?_⟩
    obtain ⟨t2, vs, h4, h5⟩ := h3 i c hc
    exact ⟨t2, vs, up h4 (nt t2 (by intro q; cases q)), h5.mono fun _ _ q => q.mono (fun b xs e => up e (ne_of e hl' (fun z => k1 xs z.symm))) (fun b ob u e => up e (ne_of e hl' (fun z => k2 ob u z.symm)))⟩
/-- what was found is set: nothing else changes -/
theorem NestT.found {K : PySem.W.Frag} {A : Ad} {H0 H : Hp} {p : Addr} {x y z m : Nat} {tf : Nat → Nat → List Touch} {N : NestD} {tag : Addr → Tag} (T : NestT K A H0 H p x y z m tf N tag) (fv : V) :
    NestT K A H0 (upd H p (.ins A.c_Nest N.dx (putF "found" fv (nestF N.dp N.la N.ra N.ta N.fv)))) p x y z m tf { N with fv := fv } tag := by
  have up : ∀ {b : Addr} {q : HO}, H b = some q → q ≠ .ins A.c_Nest N.dx (nestF N.dp N.la N.ra N.ta N.fv) → upd H p (.ins A.c_Nest N.dx (putF "found" fv (nestF N.dp N.la N.ra N.ta N.fv))) b = some q := fun e h => by
    rw [upd_ne (ne_of e T.obj h)]; exact e
  refine ⟨fun b q e => ?_, T.np, by rw [upd_same]; rfl, T.old, T.small, ⟨up T.len.1 (by intro q; cases q), T.len.2⟩, ⟨up T.rds.1 (by intro q; cases q), T.rds.2⟩, keep_nats T.rnd (fun r hr o e => ?_), T.rndT,
    ⟨up T.tch.1 (by intro q; cases q), T.tch.2⟩, T.cnt, fun k b h => ?_⟩
  · rw [upd_ne (ne_of_none e T.np)]; exact T.sm _ _ e
  · obtain ⟨j, hj⟩ := List.mem_iff_getElem?.mp hr
    obtain ⟨c, _, hc⟩ := pget T.rnd hj
    have e2 : some o = some _ := e.symm.trans hc
    injection e2 with e2
    rw [e2]
    exact up hc (by intro q; cases q)
  · obtain ⟨t, pl, h1, h2, h3⟩ := T.stm k b h
    refine ⟨t, pl, up h1 (by intro q; cases q), h2, fun i c hc => ?_⟩
    obtain ⟨t2, vs, h4, h5⟩ := h3 i c hc
    exact ⟨t2, vs, up h4 (by intro q; cases q), h5.mono fun _ _ q => q.mono (fun b xs e => up e (by intro q; cases q)) (fun b ob u e => up e (by intro q; cases q))⟩
def sp_Nest_init (K : PySem.W.Frag) (A : Ad) : Sp := fun vs H Q _ => ∃ d : P8 Hp Addr Addr Addr (List Nat) Nat Nat Nat, d.un fun H0 p dx a n x y z => A12 (vs = [.ref p, .ref a]) (Same H0 H) (H0 p = none) (H p = some (.ins A.c_Nest dx [])) (NatsL H a n) (n.length ≤ 3) (n ++ List.replicate (3 - n.length) 1 = [x, y, z]) (x * y * z ≤ 64) (1 ≤ x) (1 ≤ y) (1 ≤ z) (∀ (H' : Hp) (N : NestD) (tag : Addr → Tag), (∀ b o, H b = some o → b ≠ p → H' b = some o) → NestT K A H0 H' p x y z 0 (fun _ _ => []) N tag → N.dp = n.length → N.fv = .non → Q .non H')
theorem le_of_prod {x y z : Nat} (h : x * y * z ≤ 64) (hx : 1 ≤ x) (hy : 1 ≤ y) (hz : 1 ≤ z) : x ≤ 64 ∧ y ≤ 64 ∧ z ≤ 64 := by
  have a1 : x * 1 ≤ x * y := Nat.mul_le_mul_left x hy
  have a2 : 1 * y ≤ x * y := Nat.mul_le_mul_right y hx
  have a3 : (x * y) * 1 ≤ (x * y) * z := Nat.mul_le_mul_left _ hz
  have a4 : 1 * z ≤ (x * y) * z := Nat.mul_le_mul_right z (by omega)
  omega
theorem flat_ones : ∀ k : Nat, (List.replicate k [V.int 1]).flatten = List.replicate k (V.int 1)
  | 0 => rfl
  | k + 1 => by rw [List.replicate_succ, List.flatten_cons, flat_ones k]; rfl
theorem ok_Nest_init (T : Txt K mg A) (G_all_rounds : FnOk P w K mg base CX0 1 A.a_all_rounds A.d_all_rounds ["lengths"] (sp_all_rounds K A)) : FnOk P w K mg base CX0 2 A.a_Nest_init A.d_Nest_init ["self", "lengths"] (sp_Nest_init K A) := by
  refine T.f_Nest_init.ok sc_Nest_init (fun vs H Q E h => ?_) (fun cdv A' outer s H vs Q E hr h => ?_)
  · obtain ⟨⟨_, _, _, _, _, _, _, _⟩, rfl, _⟩ := h
    rfl
  · obtain ⟨⟨H0, p, dx, a, n, x, y, z⟩, rfl, sm, np, hp, ha, hn, e, h64, hx, hy, hz, fin⟩ := h
    have ap : a ≠ p := ne_of ha hp (by intro q; cases q)
    have le := le_of_prod h64 hx hy hz
    refine ⟨_, (pss_cons (ps_fld (pv 0) (pe_callB (cr_len (K := K) rfl) (by rfl) T.n_len PySem.boot_len (pa_cons (pv 1) pa_nil)) rfl)
        (pss_cons (ps_fld (pv 0) (pe_op op_cat (pv 1) (pe_op op_rep (pe_lst (pa_cons pe_int pa_nil)) (pe_op op_sub (pe_glob (v := .int 3) rfl T.g_MOST_LOOPS.choose_spec ⟨_, rfl⟩) (pe_callB (cr_len (K := K) rfl) (by rfl) T.n_len PySem.boot_len (pa_cons (pv 1) pa_nil))))) rfl)
        (pss_cons (ps_fld (pv 0) (pe_call G_all_rounds (hr.mono (by decide)) rfl T.mg_all_rounds T.f_all_rounds.kp T.b_all_rounds .nil pass0 (pa_cons (pe_fld (pv 0) rfl) pa_nil)) rfl)
        (pss_cons (ps_fld (pv 0) (pe_lst pa_nil) rfl)
        (pss_one (ps_fld (pv 0) pe_non rfl)))))), ?_⟩
    try dsimp only [cxOf, Cx.nox]
    -- self.depth = len(lengths)
    refine ⟨_, rfl, rd_len (SqL.of ha) ⟨_, rfl, p, _, dx, [], rfl, hp, T.cl_Nest, T.na_Nest_depth, (by show 0 < 1000; decide), ?_⟩⟩
    have hp0 : upd H p (.ins A.c_Nest dx (putF "depth" (V.int ((n.map nV).length : Nat)) [])) p = some (.ins A.c_Nest dx [("depth", nV n.length)]) := by
      rw [upd_same, List.length_map]; rfl
    have keep0 : ∀ {b : Addr} {o : HO}, H b = some o → b ≠ p → upd H p (.ins A.c_Nest dx (putF "depth" (V.int ((n.map nV).length : Nat)) [])) b = some o := fun h1 h2 => by rw [upd_ne h2]; exact h1
    generalize upd H p (.ins A.c_Nest dx (putF "depth" (V.int ((n.map nV).length : Nat)) [])) = Hd at hp0 keep0
    have ha : NatsL Hd a n := keep0 ha ap
    have sm : Same H0 Hd := fun b o e => keep0 (sm _ _ e) (ne_of_none e np)
    have fin : ∀ (H' : Hp) (N : NestD) (tag : Addr → Tag), (∀ b o, Hd b = some o → b ≠ p → H' b = some o) → NestT K A H0 H' p x y z 0 (fun _ _ => []) N tag → N.dp = n.length → N.fv = .non → Q .non H' := fun H' N tag h1 => fin H' N tag (fun b o e h => h1 b o (keep0 e h) h)
    have hp := hp0
    -- self.lengths = lengths + [1] * (MOST_LOOPS - len(lengths))
    refine ⟨_, rfl, (by show 1 ≤ sizeLine; decide), fun r1 n1 => ?_⟩
    have s1 := same_new (o := HO.lst [V.int 1]) n1
    refine ⟨_, rfl, rd_len (SqL.of (s1 _ _ ha)) ⟨_, _, rfl, rfl, r1, _, _, rfl, rfl, upd_same, ?_, ?_, ?_, fun r2 n2 => ?_⟩⟩
    · rw [List.length_map]; omega
    · rw [List.length_map]; omega
    · rw [List.length_map]; exact size_small (by simp; omega)
    have s2 := same_to s1 n2 (o := HO.lst (List.replicate ((3 : Int) - ((n.map nV).length : Nat)).toNat [V.int 1]).flatten)
    refine ⟨a, r2, _, _, rfl, rfl, s2 _ _ ha, upd_same, ?_, fun la n3 => ?_⟩
    · rw [flat_ones, List.length_replicate, List.length_map]; exact size_small (by omega)
    have el : n.map nV ++ (List.replicate ((3 : Int) - ((n.map nV).length : Nat)).toNat [V.int 1]).flatten = [x, y, z].map nV := by
      rw [← e, List.map_append, List.map_replicate, flat_ones, List.length_map]
      congr 2
      omega
    rw [el]
    have s3 := same_to s2 n3 (o := HO.lst ([x, y, z].map nV))
    have hla : upd (upd (upd Hd r1 (.lst [V.int 1])) r2 (.lst (List.replicate ((3 : Int) - ((n.map nV).length : Nat)).toNat [V.int 1]).flatten)) la (.lst ([x, y, z].map nV)) la = some (.lst ([x, y, z].map nV)) := upd_same
    have fla := s2.free n3
    generalize upd (upd (upd Hd r1 (.lst [V.int 1])) r2 (.lst (List.replicate ((3 : Int) - ((n.map nV).length : Nat)).toNat [V.int 1]).flatten)) la (.lst ([x, y, z].map nV)) = H3 at s3 hla
    refine ⟨_, rfl, p, _, dx, _, rfl, s3 _ _ hp, T.cl_Nest, T.na_Nest_lengths, (by show 1 < 1000; decide), ?_⟩
    have lap : la ≠ p := ne_of hla (s3 _ _ hp) (by intro q; cases q)
    -- self.rounds = all_rounds(self.lengths)
    refine rd_fld rfl upd_same T.cl_Nest T.na_Nest_lengths rfl ?_
    refine ⟨⟨la, x, y, z⟩, rfl, SqL.of (by rw [upd_ne lap]; exact hla), h64, le.1, le.2.1, le.2.2, fun H4 ra rs B => ?_⟩
    refine ⟨_, rfl, p, _, dx, _, rfl, B.same _ _ upd_same, T.cl_Nest, T.na_Nest_rounds, (by show 2 < 1000; decide), ?_⟩
    -- self.touches = []
    refine ⟨Nat.zero_le _, fun ta n5 => ?_⟩
    have hpt : p ≠ ta := fun q => by rw [← q, upd_same] at n5; cases n5
    refine ⟨_, rfl, p, _, dx, _, rfl, (by rw [upd_ne hpt, upd_same]), T.cl_Nest, T.na_Nest_touches, (by show 3 < 1000; decide), ?_⟩
    -- self.found = None
    refine ⟨_, rfl, p, _, dx, _, rfl, upd_same, T.cl_Nest, T.na_Nest_found, (by show 4 < 1000; decide), ?_⟩
    have n4 : H4 ta = none := by rw [upd_ne hpt.symm] at n5; exact n5
    have toB : ∀ {b : Addr} {o : HO}, H3 b = some o → b ≠ p → H4 b = some o := fun h1 h2 => B.same _ _ (by rw [upd_ne h2]; exact h1)
    have frB : ∀ {b : Addr} {o : HO}, H3 b = some o → b ≠ p → ∀ {r : Addr}, (r = ra ∨ r ∈ rs) → r ≠ b := fun {b o} h1 h2 {r} h3 e => by
      have q : upd H3 p (.ins A.c_Nest dx (putF "lengths" (V.ref la) [("depth", nV n.length)])) b = none := by
        rw [← e]
        rcases h3 with h3 | h3
        · rw [h3]; exact B.fr
        · exact B.new r h3
      rw [upd_ne h2, h1] at q
      cases q
    have rsa : ∀ r ∈ rs, r ≠ ra := fun r hr e => by
      obtain ⟨j, hj⟩ := List.mem_iff_getElem?.mp hr
      obtain ⟨c, _, hc⟩ := pget B.all hj
      exact (newer_not hc).2.2 e
    have rsp : ∀ r ∈ rs, r ≠ p := fun r hr e => by
      have := B.new r hr
      rw [e, upd_same] at this
      cases this
    have rap : ra ≠ p := fun e => by
      have := B.fr
      rw [e, upd_same] at this
      cases this
    have keep : ∀ {b : Addr} {o : HO}, H4 b = some o → b ≠ p → (upd (upd (upd (upd H4 p (.ins A.c_Nest dx (putF "rounds" (V.ref ra) (putF "lengths" (V.ref la) [("depth", nV n.length)])))) ta (.lst [])) p (.ins A.c_Nest dx (putF "touches" (V.ref ta) (putF "rounds" (V.ref ra) (putF "lengths" (V.ref la) [("depth", nV n.length)]))))) p (.ins A.c_Nest dx (putF "found" V.non (putF "touches" (V.ref ta) (putF "rounds" (V.ref ra) (putF "lengths" (V.ref la) [("depth", nV n.length)])))))) b = some o := fun h1 h2 => by
      rw [upd_ne h2, upd_ne h2, upd_ne (ne_of_none h1 n4), upd_ne h2]; exact h1
    have fr3 : ∀ {b : Addr}, H3 b = none → H0 b = none := fun h => (sm.trans s3).free h
    have h3ra : H3 ra = none := by have := B.fr; rw [upd_ne rap] at this; exact this
    have h3rs : ∀ r ∈ rs, H3 r = none := fun r hr => by have := B.new r hr; rw [upd_ne (rsp r hr)] at this; exact this
    have h3ta : H3 ta = none := by
      cases q : H3 ta with
      | none => rfl
      | some o => rw [toB q hpt.symm] at n4; cases n4
    have tla : ta ≠ la := (ne_of_none (toB hla lap) n4).symm
    have tra : ta ≠ ra := (ne_of_none B.lst n4).symm
    have trs : ta ∉ rs := fun h => by
      obtain ⟨j, hj⟩ := List.mem_iff_getElem?.mp h
      obtain ⟨c, _, hc⟩ := pget (B.out mono_nats) hj
      have hc : H4 ta = some _ := hc
      rw [n4] at hc
      cases hc
    refine fin _ ⟨dx, la, ra, ta, rs, [], n.length, .non⟩ (fun a => if a = la then .len else if a = ra then .rds else if a ∈ rs then .rnd else if a = ta then .tch else .no) (fun b o h1 h2 => keep (toB (s3 _ _ h1) h2) h2)
      ⟨fun b o h1 => ?_, np, ?_, fun a h => ?_, ⟨h64, hx, hy, hz⟩, ⟨keep (toB hla lap) lap, if_pos rfl⟩, ⟨keep B.lst rap, ?_⟩, keep_nats (B.out mono_nats) (fun r hr o e => keep e (rsp r hr)), fun r hr => ?_, ⟨?_, ?_⟩, rfl, fun k b hb => ?_⟩ rfl rfl
    · have h2 : b ≠ p := ne_of_none h1 np
      exact keep (toB (s3 _ _ (sm _ _ h1)) h2) h2
    · exact upd_same
    · by_cases a1 : a = la
      · rw [a1]; exact sm.free fla
      by_cases a2 : a = ra
      · rw [a2]; exact fr3 h3ra
      by_cases a3 : a ∈ rs
      · exact fr3 (h3rs a a3)
      by_cases a4 : a = ta
      · rw [a4]; exact fr3 h3ta
      · rw [if_neg a1, if_neg a2, if_neg a3, if_neg a4] at h
        exact absurd rfl h
    · show (if ra = la then Tag.len else if ra = ra then Tag.rds else _) = _
      rw [if_neg (frB hla lap (.inl rfl)), if_pos rfl]
    · show (if r = la then Tag.len else if r = ra then Tag.rds else if r ∈ rs then _ else _) = _
      rw [if_neg (frB hla lap (.inr hr)), if_neg (rsa r hr), if_pos hr]
    · rw [upd_ne hpt.symm, upd_ne hpt.symm, upd_same]; rfl
    · show (if ta = la then Tag.len else if ta = ra then Tag.rds else if ta ∈ rs then _ else if ta = ta then _ else _) = _
      rw [if_neg tla, if_neg tra, if_neg trs, if_pos rfl]
    · cases hb
end
end My
namespace My
open PySem PySem.Spec PyProof.Rows L2
section
variable {P : Program} {w : World} {K : PySem.W.Frag} {mg : Str → Option Value} {base : Heap} {A : Ad}
-- uses touches_meet
-- uses Nest_init
/-- a pair of places -/
def PairL (H : Hp) (a : Addr) (x : Nat × Nat) : Prop := H a = some (.tup [nV x.1, nV x.2])
theorem mono_pair : Mono PairL := fun _ _ _ _ s h => s _ _ h
theorem TouchesAt.grow {K : PySem.W.Frag} {H H1 : Hp} {a : Addr} {ts : List Touch} (s : Same H H1) (h : TouchesAt K H a ts) : TouchesAt K H1 a ts := by
  obtain ⟨vs, h1, h2⟩ := h
  exact ⟨vs, s.seq h1, h2.mono fun _ _ q => q.mono (fun b xs e => s _ _ e) (fun b o u e => s _ _ e)⟩
def meetT (tl : List (List Touch)) (i j : Nat) : Bool := meets (tl.getD i []) (tl.getD j [])
def sp_meeting_pairs (K : PySem.W.Frag) (A : Ad) : Sp := fun vs H Q _ => ∃ d : P3 Addr (List Addr) (List (List Touch)), d.un fun a cs tl => A5 (vs = [.ref a]) (H a = some (.lst (cs.map V.ref))) (Paired (TouchesAt K H) cs tl) (tl.length ≤ 192) (∀ (H' : Hp) (q : Addr) (ps : List Addr), Acc PairL H H' q (pairsTo (meetT tl) tl.length tl.length) ps → Q (.ref q) H')
theorem ok_meeting_pairs (T : Txt K mg A) (G_touches_meet : FnOk P w K mg base CX0 1 A.a_touches_meet A.d_touches_meet ["some", "others"] (sp_touches_meet K A)) : FnOk P w K mg base CX0 2 A.a_meeting_pairs A.d_meeting_pairs ["touched"] (sp_meeting_pairs K A) := by
  refine T.f_meeting_pairs.ok sc_meeting_pairs (fun vs H Q E h => ?_) (fun cdv A' outer s H vs Q E hr h => ?_)
  · obtain ⟨⟨_, _, _⟩, rfl, _⟩ := h
    rfl
  · obtain ⟨⟨a, cs, tl⟩, rfl, ha, hc, h192, fin⟩ := h
    refine ⟨_, (pss_cons (ps_set (i := 1) sc_meeting_pairs.nd rfl (Or.inl rfl) (pe_lst pa_nil))
        (pss_cons (ps_for PassesOwn.never rfl (pi_range1 rfl T.n_range (pa_cons (pe_callB (cr_len (K := K) rfl) (by rfl) T.n_len PySem.boot_len (pa_cons (pv 0) pa_nil)) pa_nil)) (pg_name (i := 2) sc_meeting_pairs.nd rfl (Or.inl rfl))
          (pss_one (ps_for PassesOwn.never rfl (pi_range2 rfl T.n_range (pa_cons (pe_op op_add (pv 2) pe_int) (pa_cons (pe_callB (cr_len (K := K) rfl) (by rfl) T.n_len PySem.boot_len (pa_cons (pv 0) pa_nil)) pa_nil))) (pg_name (i := 3) sc_meeting_pairs.nd rfl (Or.inl rfl))
              (pss_one (ps_if (pt_val (pe_call G_touches_meet (hr.mono (by decide)) rfl T.mg_touches_meet T.f_touches_meet.kp T.b_touches_meet .nil pass0 (pa_cons (pe_ix ix_list (pv 0) (pv 2) (fun _ _ => rfl)) (pa_cons (pe_ix ix_list (pv 0) (pv 3) (fun _ _ => rfl)) pa_nil))))
                  (pss_one (ps_expr (pe_bm PySem.F.plainAttrs_list PySem.F.slot_list_append PySem.F.type_list_append mt_append (pv 1) (pa_cons (pe_tup (pa_cons (pv 2) (pa_cons (pv 3) pa_nil))) pa_nil))))
                  pss_nil)))))
        (pss_one (ps_ret (pv 1))))), ?_⟩
    try dsimp only [cxOf, Cx.nox]
    have cl : cs.length = tl.length := hc.length
    refine ⟨Nat.zero_le _, fun q hq => ?_⟩
    have ga : ∀ {H' : Hp}, Same H H' → SqL K H' a (cs.map V.ref) := fun s => SqL.of (s _ _ ha)
    refine ⟨_, rfl, rd_len (ga (same_new hq)) ⟨_, rfl, ?_, ?_, ?_⟩⟩
    · rw [List.length_map, cl]; omega
    · rw [List.length_map, cl]; omega
    refine for_range (lo := 0) (n := (((cs.map V.ref).length : Nat) : Int).toNat) (fun i σ H' => (∃ v2 v3, σ = [some (.ref a), some (.ref q), v2, v3]) ∧ ∃ ps, Acc PairL H H' q (pairsTo (meetT tl) tl.length i) ps)
      ⟨⟨_, _, rfl⟩, _, .start hq⟩ ?_ ?_
    · rintro i σ H1 hi ⟨⟨v2, v3, rfl⟩, ps, A1⟩
      rw [Int.toNat_natCast, List.length_map, cl] at hi
      rw [Int.zero_add]
      refine ⟨_, rfl, _, _, rfl, rfl, _, rfl, rd_len (ga A1.same) ⟨_, _, rfl, ⟨?_, ?_, ?_, ?_⟩, ?_⟩⟩
      · omega
      · omega
      · rw [List.length_map, cl]; omega
      · rw [List.length_map, cl]; omega
      have en : (((cs.map V.ref).length : Nat) - ((i : Int) + 1)).toNat = tl.length - (i + 1) := by rw [List.length_map, cl]; omega
      refine for_range (lo := ((i : Int) + 1)) (n := (((cs.map V.ref).length : Nat) - ((i : Int) + 1)).toNat) (fun j σ H' => (∃ v3, σ = [some (.ref a), some (.ref q), some (nV i), v3]) ∧ ∃ ps, Acc PairL H H' q (pairsTo (meetT tl) tl.length i ++ rowTo (meetT tl) i j) ps)
        ⟨⟨_, rfl⟩, ps, by simpa [rowTo] using A1⟩ ?_ ?_
      · rintro j σ H2 hj ⟨⟨v3, rfl⟩, ps2, A2⟩
        rw [en] at hj
        have hb : i + 1 + j < tl.length := by omega
        have ej : (i : Int) + 1 + (j : Int) = ((i + 1 + j : Nat) : Int) := by omega
        rw [ej]
        obtain ⟨c1, hc1⟩ : ∃ c, cs[i]? = some c := ⟨_, List.getElem?_eq_getElem (by rw [cl]; exact hi)⟩
        obtain ⟨c2, hc2⟩ : ∃ c, cs[i + 1 + j]? = some c := ⟨_, List.getElem?_eq_getElem (by rw [cl]; exact hb)⟩
        obtain ⟨t1, ht1, g1⟩ := pget hc hc1
        obtain ⟨t2, ht2, g2⟩ := pget hc hc2
        have em : meetT tl i (i + 1 + j) = meets t1 t2 := by
          unfold meetT
          rw [List.getD_eq_getElem?_getD, List.getD_eq_getElem?_getD, ht1, ht2]; rfl
        refine ⟨_, rfl, _, rfl, rd_ix (ga A2.same) (at_of (j := i) rfl (at_map hc1)) ⟨_, rfl, _, rfl, rd_ix (ga A2.same) (at_of (j := i + 1 + j) rfl (at_map hc2)) ⟨⟨c1, c2, _, _⟩, rfl, g1.grow A2.same, g2.grow A2.same, _, rfl, ?_⟩⟩⟩
        have ln : ps2.length < 36864 + 192 := by
          rw [A2.len, List.length_append]
          have h1 := pairsTo_len (meetT tl) tl.length i
          have h2 := rowTo_len (meetT tl) i j
          have h3 : i * tl.length ≤ 192 * 192 := Nat.mul_le_mul (by omega) h192
          omega
        by_cases hm : meets t1 t2 = true
        · refine iteP hm ?_
          refine ⟨_, rfl, .inl ⟨rfl, _, SqL.of A2.lst⟩, _, rfl, _, rfl, (by show 2 ≤ sizeLine; decide), fun r hr => ?_⟩
          have s1 : Same H2 (upd H2 r (.tup [nV i, nV (i + 1 + j)])) := same_new hr
          have np : r ≠ q := (ne_of_none A2.lst hr).symm
          have A3 := A2.grow mono_pair s1
          refine ⟨q, _, _, rfl, rfl, A3.lst, (by rw [List.length_map]; exact size_lt (by omega)), ?_⟩
          refine ⟨⟨_, rfl⟩, ps2 ++ [r], ?_⟩
          have hF : PairL (newer H (upd H2 r (.tup [nV i, nV (i + 1 + j)])) q) r (i, i + 1 + j) := newer_at upd_same (A2.same.free hr) np
          have A4 := A3.push (A2.same.free hr) hF
          rw [rowTo_succ, if_pos (by rw [em]; exact hm), ← List.append_assoc]
          exact A4
        · refine iteQ hm ⟨⟨_, rfl⟩, ps2, ?_⟩
          rw [rowTo_succ, if_neg (by rw [em]; exact hm), List.append_nil]
          exact A2
      · rintro σ H2 ⟨⟨v3, rfl⟩, ps2, A2⟩
        rw [en] at A2
        refine ⟨⟨_, _, rfl⟩, ps2, ?_⟩
        rw [pairsTo_succ]
        exact A2
    · rintro σ H1 ⟨⟨v2, v3, rfl⟩, ps, A1⟩
      rw [Int.toNat_natCast, List.length_map, cl] at A1
      exact ⟨_, rfl, fin _ _ _ A1⟩
end
end My
namespace My
open PySem PySem.Spec PyProof.Rows L2
section
variable {P : Program} {w : World} {K : PySem.W.Frag} {mg : Str → Option Value} {base : Heap} {A : Ad}
-- uses meeting_pairs
def sp_earliest_steps (K : PySem.W.Frag) (A : Ad) : Sp := fun vs H Q _ => ∃ d : P4 Nat Addr (List Addr) (List (Nat × Nat)), d.un fun n a ps P => A6 (vs = [nV n, .ref a]) (H a = some (.lst (ps.map V.ref))) (Paired (PairL H) ps P) (n ≤ 192) (∀ x ∈ P, x.1 < n ∧ x.2 < n) (∀ (H' : Hp) (q : Addr), Same H H' → H q = none → H' q = some (.lst ((relax (List.replicate n 0) P).map nV)) → Q (.ref q) H')
theorem flat_zeros : ∀ k : Nat, (List.replicate k [V.int 0]).flatten = (List.replicate k 0).map nV
  | 0 => rfl
  | k + 1 => by rw [List.replicate_succ, List.flatten_cons, flat_zeros k]; rfl
theorem nats_get {l : List Nat} {i : Nat} (h : i < l.length) : (l.map nV)[i]? = some (nV (l.getD i 0)) := by
  rw [List.getElem?_map, List.getD_eq_getElem?_getD, List.getElem?_eq_getElem h]; rfl
theorem ixN_nat {n j : Nat} (h : j < n) : ixN n (j : Int) = some j := by
  unfold ixN
  rw [if_pos (by omega), if_pos (by omega)]
  simp
theorem ok_earliest_steps (T : Txt K mg A) : FnOk P w K mg base CX0 1 A.a_earliest_steps A.d_earliest_steps ["count", "pairs"] (sp_earliest_steps K A) := by
  refine T.f_earliest_steps.ok sc_earliest_steps (fun vs H Q E h => ?_) (fun cdv A' outer s H vs Q E hr h => ?_)
  · obtain ⟨⟨_, _, _, _⟩, rfl, _⟩ := h
    rfl
  · obtain ⟨⟨n, a, ps, P'⟩, rfl, ha, hp, h192, hP, fin⟩ := h
    refine ⟨_, (pss_cons (ps_set (i := 2) sc_earliest_steps.nd rfl (Or.inl rfl) (pe_op op_rep (pe_lst (pa_cons pe_int pa_nil)) (pv 0)))
        (pss_cons (ps_for PassesOwn.never rfl (pi_list (pv 1)) (pg_tup rfl (pgs_cons (pg_name (i := 3) sc_earliest_steps.nd rfl (Or.inl rfl)) (pgs_cons (pg_name (i := 4) sc_earliest_steps.nd rfl (Or.inl rfl)) pgs_nil)))
          (pss_one (ps_asg (pe_callB (call_max2 rfl) (by rfl) T.n_max boot_max (pa_cons (pe_ix ix_list (pv 2) (pv 4) (fun _ _ => rfl)) (pa_cons (pe_op op_add (pe_ix ix_list (pv 2) (pv 3) (fun _ _ => rfl)) pe_int) pa_nil))) (pg_sub (pv 2) (pv 4) set_list))))
        (pss_one (ps_ret (pv 2))))), ?_⟩
    try dsimp only [cxOf, Cx.nox]
    refine ⟨(by show 1 ≤ sizeLine; decide), fun r1 n1 => ?_⟩
    have s1 := same_new (o := HO.lst [V.int 0]) n1
    refine ⟨_, rfl, r1, _, _, rfl, rfl, upd_same, by omega, by omega, size_small (by show 1 * ((n : Int)).toNat ≤ _; omega), fun q n2 => ?_⟩
    rw [flat_zeros, Int.toNat_natCast]
    have s2 := same_to s1 n2 (o := HO.lst ((List.replicate n 0).map nV))
    have hq2 : upd (upd H r1 (.lst [V.int 0])) q (.lst ((List.replicate n 0).map nV)) q = some (.lst ((List.replicate n 0).map nV)) := upd_same
    have nq : H q = none := s1.free n2
    generalize upd (upd H r1 (.lst [V.int 0])) q (.lst ((List.replicate n 0).map nV)) = H2 at s2 hq2
    refine ⟨_, rfl, a, rfl, ⟨_, SqL.of (s2 _ _ ha)⟩, for_list (K := K) (a := a) (xs := ps.map V.ref) (fun i σ H' => A3 (Same H H') (∃ v3 v4, σ = [some (nV n), some (.ref a), some (.ref q), v3, v4]) (H' q = some (.lst ((relax (List.replicate n 0) (P'.take i)).map nV))))
      ⟨s2, ⟨_, _, rfl⟩, hq2⟩ (fun i σ H' _ ⟨e, _, _⟩ => SqL.of (e _ _ ha)) ?_ ?_⟩
    · rintro i v σ H3 hi ⟨s3, ⟨v3, v4, rfl⟩, hq3⟩
      obtain ⟨c, hc, rfl⟩ := get_map hi
      obtain ⟨x, hx, hxt⟩ := pget hp hc
      have hxt : H c = some (.tup [nV x.1, nV x.2]) := hxt
      have hl := hP x (List.mem_of_getElem? hx)
      have ln : (relax (List.replicate n 0) (P'.take i)).length = n := by rw [relax_len, List.length_replicate]
      have gq : SqL K H3 q ((relax (List.replicate n 0) (P'.take i)).map nV) := SqL.of hq3
      refine ⟨c, _, rfl, SqT.of (s3 _ _ hxt), rfl, _, _, rfl, _, _, rfl, rfl, ?_⟩
      refine ⟨_, rfl, _, rfl, rd_ix gq (at_of (j := x.2) rfl (nats_get (by omega))) ⟨_, rfl, _, rfl, rd_ix gq (at_of (j := x.1) rfl (nats_get (by omega))) ⟨_, _, rfl, rfl, _, _, rfl, ?_⟩⟩⟩
      refine ⟨_, rfl, _, rfl, q, _, _, x.2, rfl, rfl, hq3, ?_, ?_⟩
      · rw [List.length_map, ln]
        exact ixN_nat hl.2
      refine ⟨fun b o e => ?_, ⟨_, _, rfl⟩, ?_⟩
      · rw [upd_ne (ne_of_none e nq)]; exact s3 _ _ e
      · rw [upd_same, take_snoc hx, relax_snoc]
        unfold relax1
        rw [List.map_set]
        congr 3
        generalize (relax (List.replicate n 0) (P'.take i)).getD x.2 0 = m1
        generalize (relax (List.replicate n 0) (P'.take i)).getD x.1 0 = m2
        show V.int (if ((m2 : Int) + 1) > (m1 : Int) then ((m2 : Int) + 1) else (m1 : Int)) = V.int ((max m1 (m2 + 1) : Nat) : Int)
        congr 1
        split <;> omega
    · rintro σ H3 ⟨s3, ⟨v3, v4, rfl⟩, hq3⟩
      rw [List.length_map, hp.length, List.take_length] at hq3
      exact ⟨_, rfl, fin _ q s3 nq hq3⟩
end
end My
namespace My
open PySem PySem.Spec PyProof.Rows L2
section
variable {P : Program} {w : World} {K : PySem.W.Frag} {mg : Str → Option Value} {base : Heap} {A : Ad}
-- uses meeting_pairs
-- uses earliest_steps
/-- what was found of a nest, in the heap -/
def meetFs (ia pa va : Addr) : List (Str × V) := [("instances", .ref ia), ("pairs", .ref pa), ("levels", .ref va)]
structure MeetD where
  dx : Addr
  ia : Addr
  pa : Addr
  va : Addr
  is : List Addr
  ps : List Addr
structure MeetT (A : Ad) (H : Hp) (q : Addr) (s : NestNs.Nest) (D : MeetD) : Prop where
  obj : H q = some (.ins A.c_Meetings D.dx (meetFs D.ia D.pa D.va))
  ins : H D.ia = some (.lst (D.is.map V.ref))
  inst : Paired (NatsL H) D.is ((NestNs.instances s).map NestNs.numbers)
  prs : H D.pa = some (.lst (D.ps.map V.ref))
  pair : Paired (PairL H) D.ps (pairsOf s)
  lev : H D.va = some (.lst ((lvInts s).map V.int))
def MeetAt (A : Ad) (H : Hp) (q : Addr) (s : NestNs.Nest) : Prop := ∃ D : MeetD, MeetT A H q s D
theorem MeetT.grow {A : Ad} {H H1 : Hp} {q : Addr} {s : NestNs.Nest} {D : MeetD} (M : MeetT A H q s D) (h : Same H H1) : MeetT A H1 q s D :=
  ⟨h _ _ M.obj, h _ _ M.ins, M.inst.mono fun _ _ e => h _ _ e, h _ _ M.prs, M.pair.mono fun _ _ e => h _ _ e, h _ _ M.lev⟩
theorem MeetAt.grow {A : Ad} {H H1 : Hp} {q : Addr} {s : NestNs.Nest} (M : MeetAt A H q s) (h : Same H H1) : MeetAt A H1 q s := by
  obtain ⟨D, M⟩ := M
  exact ⟨D, M.grow h⟩
theorem lev_nats (s : NestNs.Nest) : (lvInts s).map V.int = ((NestNs.levels s).map (·.2)).map nV := by
  unfold lvInts
  rw [List.map_map, List.map_map]
  rfl
/-- an instance's list -/
theorem MeetT.at_ {A : Ad} {H : Hp} {q : Addr} {s : NestNs.Nest} {D : MeetD} (M : MeetT A H q s D) {i : Nat} (h : i < (NestNs.instances s).length) :
    ∃ (c a0 a1 a2 k : _), D.is[i]? = some c ∧ instAt s i = ([a0, a1, a2], k) ∧ H c = some (.lst ([a0, a1, a2, k].map nV)) := by
  obtain ⟨c, hc, hn⟩ := pgetR M.inst (at_map (f := NestNs.numbers) (instAt_get h))
  obtain ⟨l3, _⟩ := inst_three h
  obtain ⟨a0, a1, a2, e3⟩ := len3 l3
  have ei : instAt s i = ([a0, a1, a2], (instAt s i).2) := by rw [← e3]
  refine ⟨c, a0, a1, a2, (instAt s i).2, hc, ei, ?_⟩
  have hn : H c = some (.lst ((NestNs.numbers (instAt s i)).map nV)) := hn
  rw [hn]
  unfold NestNs.numbers
  rw [e3]
  rfl
def sp_Meetings_init (K : PySem.W.Frag) (A : Ad) : Sp := fun vs H Q _ => ∃ d : P7 Addr Addr Addr Addr (List Addr) (List Addr) (List (List Touch)), d.un fun q dx ia ta is cs tl => A8 (vs = [.ref q, .ref ia, .ref ta]) (H q = some (.ins A.c_Meetings dx [])) (H ia = some (.lst (is.map V.ref))) (H ta = some (.lst (cs.map V.ref))) (Paired (TouchesAt K H) cs tl) (is.length = tl.length) (tl.length ≤ 192) (∀ (H' : Hp) (pa va : Addr) (ps : List Addr), (∀ b o, H b = some o → b ≠ q → H' b = some o) → H' q = some (.ins A.c_Meetings dx (meetFs ia pa va)) → H pa = none → H va = none → (∀ r ∈ ps, H r = none) → H' pa = some (.lst (ps.map V.ref)) →
    Paired (PairL H') ps (pairsTo (meetT tl) tl.length tl.length) → H' va = some (.lst ((relax (List.replicate tl.length 0) (pairsTo (meetT tl) tl.length tl.length)).map nV)) → Q .non H')
theorem ok_Meetings_init (T : Txt K mg A) (G_earliest_steps : FnOk P w K mg base CX0 1 A.a_earliest_steps A.d_earliest_steps ["count", "pairs"] (sp_earliest_steps K A)) (G_meeting_pairs : FnOk P w K mg base CX0 2 A.a_meeting_pairs A.d_meeting_pairs ["touched"] (sp_meeting_pairs K A)) : FnOk P w K mg base CX0 3 A.a_Meetings_init A.d_Meetings_init ["self", "instances", "touched"] (sp_Meetings_init K A) := by
  refine T.f_Meetings_init.ok sc_Meetings_init (fun vs H Q E h => ?_) (fun cdv A' outer s H vs Q E hr h => ?_)
  · obtain ⟨⟨_, _, _, _, _, _, _⟩, rfl, _⟩ := h
    rfl
  · obtain ⟨⟨q, dx, ia, ta, is, cs, tl⟩, rfl, hq, hi, ht, hc, il, h192, fin⟩ := h
    refine ⟨_, (pss_cons (ps_fld (pv 0) (pv 1) rfl)
        (pss_cons (ps_fld (pv 0) (pe_call G_meeting_pairs (hr.mono (by decide)) rfl T.mg_meeting_pairs T.f_meeting_pairs.kp T.b_meeting_pairs .nil pass0 (pa_cons (pv 2) pa_nil)) rfl)
        (pss_one (ps_fld (pv 0) (pe_call G_earliest_steps (hr.mono (by decide)) rfl T.mg_earliest_steps T.f_earliest_steps.kp T.b_earliest_steps .nil pass0 (pa_cons (pe_callB (cr_len (K := K) rfl) (by rfl) T.n_len PySem.boot_len (pa_cons (pv 1) pa_nil)) (pa_cons (pe_fld (pv 0) rfl) pa_nil))) rfl)))), ?_⟩
    try dsimp only [cxOf, Cx.nox]
    have iq : ia ≠ q := ne_of hi hq (by intro z; cases z)
    have tq : ta ≠ q := ne_of ht hq (by intro z; cases z)
    -- self.instances = instances
    refine ⟨_, rfl, _, rfl, q, _, dx, [], rfl, hq, T.cl_Meetings, T.na_Meetings_instances, (by show 0 < 1000; decide), ?_⟩
    have hq1 : upd H q (.ins A.c_Meetings dx (putF "instances" (V.ref ia) [])) q = some (.ins A.c_Meetings dx (putF "instances" (V.ref ia) [])) := upd_same
    have keep1 : ∀ {b : Addr} {o : HO}, H b = some o → b ≠ q → upd H q (.ins A.c_Meetings dx (putF "instances" (V.ref ia) [])) b = some o := fun h1 h2 => by rw [upd_ne h2]; exact h1
    have free1 : ∀ {b : Addr}, upd H q (.ins A.c_Meetings dx (putF "instances" (V.ref ia) [])) b = none → H b = none := fun {b} e => by
      have : b ≠ q := fun z => by rw [z, upd_same] at e; cases e
      rw [upd_ne this] at e; exact e
    generalize upd H q (.ins A.c_Meetings dx (putF "instances" (V.ref ia) [])) = H1 at hq1 keep1 free1
    -- self.pairs = meeting_pairs(touched)
    have hc1 : Paired (TouchesAt K H1) cs tl := hc.mono fun _ _ h => by
      obtain ⟨vs, h1, h2⟩ := h
      refine ⟨vs, ?_, h2.mono fun _ _ z => z.mono (fun b xs e => keep1 e (ne_of e hq (by intro z; cases z))) (fun b o u e => keep1 e (ne_of e hq (by intro z; cases z)))⟩
      rcases h1 with (h1 | ⟨o, h1⟩) | h1
      · exact .inl (.inl (keep1 h1 (ne_of h1 hq (by intro z; cases z))))
      · exact .inl (.inr ⟨o, keep1 h1 (ne_of h1 hq (by intro z; cases z))⟩)
      · exact .inr h1
    refine ⟨_, rfl, ⟨ta, cs, tl⟩, rfl, keep1 ht tq, hc1, h192, fun H2 pa ps B => ?_⟩
    refine ⟨_, rfl, q, _, dx, _, rfl, B.same _ _ hq1, T.cl_Meetings, T.na_Meetings_pairs, (by show 1 < 1000; decide), ?_⟩
    have paq : pa ≠ q := ne_of B.lst (B.same _ _ hq1) (by intro z; cases z)
    have psq : ∀ r ∈ ps, r ≠ q := fun r hr => (ne_of_none hq1 (B.new r hr)).symm
    have hq2 : upd H2 q (.ins A.c_Meetings dx (putF "pairs" (V.ref pa) (putF "instances" (V.ref ia) []))) q = some (.ins A.c_Meetings dx (putF "pairs" (V.ref pa) (putF "instances" (V.ref ia) []))) := upd_same
    have keep2 : ∀ {b : Addr} {o : HO}, H2 b = some o → b ≠ q → upd H2 q (.ins A.c_Meetings dx (putF "pairs" (V.ref pa) (putF "instances" (V.ref ia) []))) b = some o := fun h1 h2 => by rw [upd_ne h2]; exact h1
    have free2 : ∀ {b : Addr}, upd H2 q (.ins A.c_Meetings dx (putF "pairs" (V.ref pa) (putF "instances" (V.ref ia) []))) b = none → H2 b = none := fun {b} e => by
      have : b ≠ q := fun z => by rw [z, upd_same] at e; cases e
      rw [upd_ne this] at e; exact e
    generalize upd H2 q (.ins A.c_Meetings dx (putF "pairs" (V.ref pa) (putF "instances" (V.ref ia) []))) = H3 at hq2 keep2 free2
    have pairs_at : ∀ {Hx : Hp}, (∀ b o, H2 b = some o → b ≠ q → Hx b = some o) → Paired (PairL Hx) ps (pairsTo (meetT tl) tl.length tl.length) := fun {Hx} k => by
      have hb := B.out mono_pair
      have go : ∀ {rs : List Addr} {l : List (Nat × Nat)}, Paired (PairL H2) rs l → (∀ r ∈ rs, r ≠ q) → Paired (PairL Hx) rs l := by
        intro rs l h
        induction h with
        | nil => intro _; exact .nil
        | cons a t ih => intro h; exact .cons (k _ _ a (h _ List.mem_cons_self)) (ih fun r hr => h r (List.mem_cons_of_mem _ hr))
      exact go hb psq
    -- self.levels = earliest_steps(len(instances), self.pairs)
    have hi3 : H3 ia = some (.lst (is.map V.ref)) := keep2 (B.same _ _ (keep1 hi iq)) iq
    refine ⟨_, rfl, rd_len (SqL.of hi3) (rd_fld rfl hq2 T.cl_Meetings T.na_Meetings_pairs rfl ⟨⟨tl.length, pa, ps, _⟩, (by rw [List.length_map, il]; rfl), keep2 B.lst paq, pairs_at (fun b o => keep2), h192, fun x hx => ?_, fun H4 va s4 n4 hv => ?_⟩)⟩
    · obtain ⟨h1, h2, _⟩ := pairsTo_mem hx
      exact ⟨by omega, h2⟩
    refine ⟨_, rfl, q, _, dx, _, rfl, s4 _ _ hq2, T.cl_Meetings, T.na_Meetings_levels, (by show 2 < 1000; decide), ?_⟩
    have vq : va ≠ q := (ne_of_none hq2 n4).symm
    have keep4 : ∀ {b : Addr} {o : HO}, H2 b = some o → b ≠ q → upd H4 q (.ins A.c_Meetings dx (putF "levels" (V.ref va) (putF "pairs" (V.ref pa) (putF "instances" (V.ref ia) [])))) b = some o := fun h1 h2 => by rw [upd_ne h2]; exact s4 _ _ (keep2 h1 h2)
    refine fin _ pa va ps (fun b o h1 h2 => keep4 (B.same _ _ (keep1 h1 h2)) h2) (by rw [upd_same]; rfl) (free1 B.fr) (free1 (B.same.free (free2 n4))) (fun r hr => free1 (B.new r hr)) (keep4 B.lst paq) (pairs_at fun b o => keep4) (by rw [upd_ne vq]; exact hv)
end
end My
namespace My
open PySem PySem.Spec PyProof.Rows L2
section
variable {P : Program} {w : World} {K : PySem.W.Frag} {mg : Str → Option Value} {base : Heap} {A : Ad}
-- uses Meetings_init
/-- a pair's numbers, one instance behind the other -/
def pairV (o : Option (NestNs.Inst × NestNs.Inst)) : List V := match o with
  | none => []
  | some x => (NestNs.numbers x.1 ++ NestNs.numbers x.2).map nV
def sp_Meetings_first_dependence (K : PySem.W.Frag) (A : Ad) : Sp := fun vs H Q _ => ∃ d : P4 Addr NestNs.Nest Nat Nat, d.un fun p st i j => A3 (vs = [.ref p, nV i, nV j]) (MeetAt A H p st) (∀ (H' : Hp) (q : Addr), Same H H' → H q = none → H' q = some (.lst (pairV (NestNs.firstPair st fun (u v : NestNs.Inst) => u.2 == i && v.2 == j))) → Q (.ref q) H')
/-- places of a pair -/
theorem pair_at {s : NestNs.Nest} {k : Nat} {x : Nat × Nat} (h : (pairsOf s)[k]? = some x) : x.1 < (NestNs.instances s).length ∧ x.2 < (NestNs.instances s).length := by
  obtain ⟨h1, h2, _⟩ := pairsTo_mem (List.mem_of_getElem? h)
  exact ⟨by omega, h2⟩
theorem pairV_some (a0 a1 a2 k b0 b1 b2 l : Nat) : pairV (some (([a0, a1, a2], k), ([b0, b1, b2], l))) = [a0, a1, a2, k].map nV ++ [b0, b1, b2, l].map nV := rfl
theorem ok_Meetings_first_dependence (T : Txt K mg A) : FnOk P w K mg base CX0 1 A.a_Meetings_first_dependence A.d_Meetings_first_dependence ["self", "s", "t"] (sp_Meetings_first_dependence K A) := by
  refine T.f_Meetings_first_dependence.ok sc_Meetings_first_dependence (fun vs H Q E h => ?_) (fun cdv A' outer s H vs Q E hr h => ?_)
  · obtain ⟨⟨_, _, _, _⟩, rfl, _⟩ := h
    rfl
  · obtain ⟨⟨p, st, i, j⟩, rfl, ⟨D, M⟩, fin⟩ := h
    refine ⟨_, (pss_cons (ps_for PassesOwn.never rfl (pi_list (pe_fld (pv 0) rfl)) (pg_tup rfl (pgs_cons (pg_name (i := 3) sc_Meetings_first_dependence.nd rfl (Or.inl rfl)) (pgs_cons (pg_name (i := 4) sc_Meetings_first_dependence.nd rfl (Or.inl rfl)) pgs_nil)))
          (pss_cons (ps_set (i := 5) sc_Meetings_first_dependence.nd rfl (Or.inl rfl) (pe_ix ix_list (pe_fld (pv 0) rfl) (pv 3) (fun _ _ => rfl)))
            (pss_cons (ps_set (i := 6) sc_Meetings_first_dependence.nd rfl (Or.inl rfl) (pe_ix ix_list (pe_fld (pv 0) rfl) (pv 4) (fun _ _ => rfl)))
            (pss_one (ps_if (PW.pt (pw_and (pt_cmpR op_eq (pe_ix ix_list (pv 5) pe_int (fun _ _ => rfl)) (pv 1) (nomark _)) (pw_and1 (pt_cmpR op_eq (pe_ix ix_list (pv 6) pe_int (fun _ _ => rfl)) (pv 2) (nomark _)))))
              (pss_one (ps_ret (pe_op op_cat (pv 5) (pv 6))))
              pss_nil)))))
        (pss_one (ps_ret (pe_lst pa_nil)))), ?_⟩
    try dsimp only [cxOf, Cx.nox]
    refine rd_fld rfl M.obj T.cl_Meetings T.na_Meetings_pairs rfl ⟨D.pa, rfl, ⟨_, SqL.of M.prs⟩, for_list (K := K) (a := D.pa) (xs := D.ps.map V.ref)
      (fun n σ H' => A3 (H' = H) (∃ v3 v4 v5 v6, σ = [some (.ref p), some (nV i), some (nV j), v3, v4, v5, v6]) (∀ (k' : Nat) (y : Nat × Nat), k' < n → (pairsOf st)[k']? = some y → ((instAt st y.1).2 == i && (instAt st y.2).2 == j) = false))
      ⟨rfl, ⟨_, _, _, _, rfl⟩, fun k' y h => absurd h (Nat.not_lt_zero _)⟩ (fun n σ H' _ ⟨e, _, _⟩ => by rw [e]; exact SqL.of M.prs) ?_ ?_⟩
    · rintro n v σ H' hn ⟨rfl, ⟨v3, v4, v5, v6, rfl⟩, hno⟩
      obtain ⟨c, hc, rfl⟩ := get_map hn
      obtain ⟨x, hx, hxt⟩ := pget M.pair hc
      have hxt : H' c = some (.tup [nV x.1, nV x.2]) := hxt
      obtain ⟨l1, l2⟩ := pair_at hx
      obtain ⟨c1, a0, a1, a2, k, f1, f2, f3⟩ := M.at_ l1
      obtain ⟨c2, b0, b1, b2, l, g1, g2, g3⟩ := M.at_ l2
      have s1 : SqL K H' c1 ([a0, a1, a2, k].map nV) := SqL.of f3
      have s2 : SqL K H' c2 ([b0, b1, b2, l].map nV) := SqL.of g3
      refine ⟨c, _, rfl, SqT.of hxt, rfl, _, _, rfl, _, _, rfl, rfl, ?_⟩
      refine rd_fld rfl M.obj T.cl_Meetings T.na_Meetings_instances rfl ⟨_, rfl, rd_ix (SqL.of M.ins) (at_of (j := x.1) rfl (at_map f1)) ?_⟩
      refine ⟨_, rfl, p, _, _, _, _, rfl, M.obj, T.cl_Meetings, T.na_Meetings_instances, rfl, _, rfl, D.ia, _, _, _, rfl, rfl, SqL.of M.ins, at_of (j := x.2) rfl (at_map g1), ?_⟩
      have next : ¬ (k = i ∧ l = j) → ∀ (k' : Nat) (y : Nat × Nat), k' < n + 1 → (pairsOf st)[k']? = some y → ((instAt st y.1).2 == i && (instAt st y.2).2 == j) = false := fun hne k' y h1 h2 => by
        by_cases e : k' = n
        · subst e
          have : y = x := Option.some.inj (h2.symm.trans hx)
          subst this
          rw [f2, g2]
          show (k == i && l == j) = false
          rw [Bool.eq_false_iff]
          intro q
          simp at q
          exact hne q
        · exact hno k' y (by omega) h2
      refine ⟨_, rfl, rd_ix s1 rfl ⟨_, rfl, rfl, _, rfl, ?_⟩⟩
      by_cases h1 : k = i
      · refine iteP (decide_eq_true (by rw [h1])) ?_
        refine ⟨_, rfl, rd_ix s2 rfl ⟨_, rfl, rfl, _, rfl, ?_⟩⟩
        by_cases h2 : l = j
        · refine iteP (decide_eq_true (by rw [h2])) ?_
          refine ⟨_, rfl, _, rfl, c1, c2, _, _, rfl, rfl, f3, g3, (by show 8 ≤ sizeLine; decide), fun q hq => ?_⟩
          refine fin _ q (same_new hq) hq ?_
          rw [fpp_some hx (by rw [f2, g2]; show (k == i && l == j) = true; simp [h1, h2]) hno, f2, g2, pairV_some]
          exact upd_same
        · refine iteQ (by rw [decide_eq_true_eq]; intro q; injection q with q; omega) ?_
          exact ⟨rfl, ⟨_, _, _, _, rfl⟩, next fun q => h2 q.2⟩
      · refine iteQ (by rw [decide_eq_true_eq]; intro q; injection q with q; omega) ?_
        refine iteQ Bool.false_ne_true ?_
        exact ⟨rfl, ⟨_, _, _, _, rfl⟩, next fun q => h1 q.1⟩
    · rintro σ H' ⟨rfl, ⟨v3, v4, v5, v6, rfl⟩, hno⟩
      rw [List.length_map, M.pair.length] at hno
      refine ⟨Nat.zero_le _, fun q hq => ?_⟩
      refine fin _ q (same_new hq) hq ?_
      rw [fpp_none fun k' y h => hno k' y (List.getElem?_eq_some_iff.mp h).1 h]
      exact upd_same
end
end My
namespace My
open PySem PySem.Spec PyProof.Rows L2
section
variable {P : Program} {w : World} {K : PySem.W.Frag} {mg : Str → Option Value} {base : Heap} {A : Ad}
-- uses Meetings_first_dependence
def carryP (l : Nat) (u v : NestNs.Inst) : Bool := u.1.take l == v.1.take l && u.1.getD l 0 != v.1.getD l 0
def sp_Meetings_first_carried (K : PySem.W.Frag) (A : Ad) : Sp := fun vs H Q _ => ∃ d : P3 Addr NestNs.Nest Nat, d.un fun p st l => A4 (vs = [.ref p, nV l]) (MeetAt A H p st) (l < 3) (∀ (H' : Hp) (q : Addr), Same H H' → H q = none → H' q = some (.lst (pairV (NestNs.carried st l))) → Q (.ref q) H')
theorem get4 {l : Nat} (a0 a1 a2 k : Nat) (h : l < 3) : ([a0, a1, a2, k].map nV)[l]? = some (nV ([a0, a1, a2].getD l 0)) := by
  match l, h with
  | 0, _ => rfl
  | 1, _ => rfl
  | 2, _ => rfl
theorem take4 {l : Nat} (a0 a1 a2 k : Nat) (h : l < 3) : cutV ([a0, a1, a2, k].map nV) none (some (l : Int)) = ([a0, a1, a2].take l).map nV := by
  rw [cut_to (by show l ≤ 4; omega)]
  match l, h with
  | 0, _ => rfl
  | 1, _ => rfl
  | 2, _ => rfl
theorem eq_takes {K : PySem.W.Frag} {H : Hp} {r1 r2 : Addr} {l : Nat} {a0 a1 a2 b0 b1 b2 : Nat} (hl : l < 3) (h1 : SqL K H r1 (([a0, a1, a2].take l).map nV)) (h2 : SqL K H r2 (([b0, b1, b2].take l).map nV)) :
    ∃ d e, Dp K H (.ref r1) d ∧ Dp K H (.ref r2) e ∧ SeqAt.shaped d = true ∧ SeqAt.shaped e = true ∧ PyData.eqv d e = ([a0, a1, a2].take l == [b0, b1, b2].take l) := by
  have hl : l = 0 ∨ l = 1 ∨ l = 2 := by omega
  rcases hl with rfl | rfl | rfl
  · exact ⟨.list [], .list [], .lst h1 .nil, .lst h2 .nil, rfl, rfl, rfl⟩
  · refine ⟨.list [.int a0], .list [.int b0], .lst h1 (.cons (.int _) .nil), .lst h2 (.cons (.int _) .nil), rfl, rfl, ?_⟩
    rw [Bool.eq_iff_iff]
    simp [PyData.eqv, PyData.eqvAll]
    omega
  · refine ⟨.list [.int a0, .int a1], .list [.int b0, .int b1], .lst h1 (.cons (.int _) (.cons (.int _) .nil)), .lst h2 (.cons (.int _) (.cons (.int _) .nil)), rfl, rfl, ?_⟩
    rw [Bool.eq_iff_iff]
    simp [PyData.eqv, PyData.eqvAll]
    omega
theorem ok_Meetings_first_carried (T : Txt K mg A) : FnOk P w K mg base CX0 1 A.a_Meetings_first_carried A.d_Meetings_first_carried ["self", "loop"] (sp_Meetings_first_carried K A) := by
  refine T.f_Meetings_first_carried.ok sc_Meetings_first_carried (fun vs H Q E h => ?_) (fun cdv A' outer s H vs Q E hr h => ?_)
  · obtain ⟨⟨_, _, _⟩, rfl, _⟩ := h
    rfl
  · obtain ⟨⟨p, st, l⟩, rfl, ⟨D, M⟩, l3, fin⟩ := h
    have fin : ∀ (H' : Hp) (q : Addr), Same H H' → H q = none → H' q = some (.lst (pairV (NestNs.firstPair st (carryP l)))) → Q (.ref q) H' := fin
    refine ⟨_, (pss_cons (ps_for PassesOwn.never rfl (pi_list (pe_fld (pv 0) rfl)) (pg_tup rfl (pgs_cons (pg_name (i := 2) sc_Meetings_first_carried.nd rfl (Or.inl rfl)) (pgs_cons (pg_name (i := 3) sc_Meetings_first_carried.nd rfl (Or.inl rfl)) pgs_nil)))
          (pss_cons (ps_set (i := 4) sc_Meetings_first_carried.nd rfl (Or.inl rfl) (pe_ix ix_list (pe_fld (pv 0) rfl) (pv 2) (fun _ _ => rfl)))
            (pss_cons (ps_set (i := 5) sc_Meetings_first_carried.nd rfl (Or.inl rfl) (pe_ix ix_list (pe_fld (pv 0) rfl) (pv 3) (fun _ _ => rfl)))
            (pss_one (ps_if (PW.pt (pw_and (pt_cmpR op_ne (pe_ix ix_list (pv 4) (pv 1) (fun _ _ => rfl)) (pe_ix ix_list (pv 5) (pv 1) (fun _ _ => rfl)) (nomark _)) (pw_and1 (pt_cmpR (op_eqD hr.units) (pe_slice sl_list (pv 4) po_none (po_some (pv 1))) (pe_slice sl_list (pv 5) po_none (po_some (pv 1))) (nomark _)))))
              (pss_one (ps_ret (pe_op op_cat (pv 4) (pv 5))))
              pss_nil)))))
        (pss_one (ps_ret (pe_lst pa_nil)))), ?_⟩
    try dsimp only [cxOf, Cx.nox]
    refine rd_fld rfl M.obj T.cl_Meetings T.na_Meetings_pairs rfl ⟨D.pa, rfl, ⟨_, SqL.of M.prs⟩, for_list (K := K) (a := D.pa) (xs := D.ps.map V.ref)
      (fun n σ H' => A3 (Same H H') (∃ v2 v3 v4 v5, σ = [some (.ref p), some (nV l), v2, v3, v4, v5]) (∀ (k' : Nat) (y : Nat × Nat), k' < n → (pairsOf st)[k']? = some y → carryP l (instAt st y.1) (instAt st y.2) = false))
      ⟨same_refl, ⟨_, _, _, _, rfl⟩, fun k' y h => absurd h (Nat.not_lt_zero _)⟩ (fun n σ H' _ ⟨e, _, _⟩ => SqL.of (e _ _ M.prs)) ?_ ?_⟩
    · rintro n v σ H' hn ⟨s0, ⟨v2, v3, v4, v5, rfl⟩, hno⟩
      obtain ⟨c, hc, rfl⟩ := get_map hn
      have M' := M.grow s0
      obtain ⟨x, hx, hxt⟩ := pget M'.pair hc
      have hxt : H' c = some (.tup [nV x.1, nV x.2]) := hxt
      obtain ⟨l1, l2⟩ := pair_at hx
      obtain ⟨c1, a0, a1, a2, k, f1, f2, f3⟩ := M'.at_ l1
      obtain ⟨c2, b0, b1, b2, k2, g1, g2, g3⟩ := M'.at_ l2
      have s1 : SqL K H' c1 ([a0, a1, a2, k].map nV) := SqL.of f3
      have s2 : SqL K H' c2 ([b0, b1, b2, k2].map nV) := SqL.of g3
      have ep : carryP l (instAt st x.1) (instAt st x.2) = ([a0, a1, a2].take l == [b0, b1, b2].take l && [a0, a1, a2].getD l 0 != [b0, b1, b2].getD l 0) := by rw [f2, g2]; rfl
      have next : carryP l (instAt st x.1) (instAt st x.2) = false → ∀ (k' : Nat) (y : Nat × Nat), k' < n + 1 → (pairsOf st)[k']? = some y → carryP l (instAt st y.1) (instAt st y.2) = false := fun hne k' y h1 h2 => by
        by_cases e : k' = n
        · subst e
          have : y = x := Option.some.inj (h2.symm.trans hx)
          subst this
          exact hne
        · exact hno k' y (by omega) h2
      refine ⟨c, _, rfl, SqT.of hxt, rfl, _, _, rfl, _, _, rfl, rfl, ?_⟩
      refine rd_fld rfl M'.obj T.cl_Meetings T.na_Meetings_instances rfl ⟨_, rfl, rd_ix (SqL.of M'.ins) (at_of (j := x.1) rfl (at_map f1)) ?_⟩
      refine ⟨_, rfl, p, _, _, _, _, rfl, M'.obj, T.cl_Meetings, T.na_Meetings_instances, rfl, _, rfl, D.ia, _, _, _, rfl, rfl, SqL.of M'.ins, at_of (j := x.2) rfl (at_map g1), ?_⟩
      refine ⟨_, rfl, _, rfl, rd_ix s1 (at_of (j := l) rfl (get4 a0 a1 a2 k l3)) ⟨_, rfl, _, rfl, rd_ix s2 (at_of (j := l) rfl (get4 b0 b1 b2 k2 l3)) ⟨rfl, _, rfl, ?_⟩⟩⟩
      by_cases h1 : [a0, a1, a2].getD l 0 = [b0, b1, b2].getD l 0
      · refine iteQ (by rw [h1]; simp) ?_
        refine iteQ Bool.false_ne_true ?_
        exact ⟨s0, ⟨_, _, _, _, rfl⟩, next (by rw [ep, h1]; simp)⟩
      · refine iteP (by rw [Bool.not_eq_true', decide_eq_false_iff_not]; intro q; injection q with q; omega) ?_
        refine ⟨_, rfl, _, rfl, _, rfl, c1, _, rfl, s1, fun r1 n1 => ?_⟩
        rw [take4 _ _ _ _ l3]
        have t1 := same_new (o := HO.lst (([a0, a1, a2].take l).map nV)) n1
        refine ⟨_, rfl, _, rfl, _, rfl, c2, _, rfl, t1.seq s2, fun r2 n2 => ?_⟩
        rw [take4 _ _ _ _ l3]
        have t2 := same_to t1 n2 (o := HO.lst (([b0, b1, b2].take l).map nV))
        have z2 : upd (upd H' r1 (.lst (([a0, a1, a2].take l).map nV))) r2 (.lst (([b0, b1, b2].take l).map nV)) r2 = some (.lst (([b0, b1, b2].take l).map nV)) := upd_same
        have z1 : upd (upd H' r1 (.lst (([a0, a1, a2].take l).map nV))) r2 (.lst (([b0, b1, b2].take l).map nV)) r1 = some (.lst (([a0, a1, a2].take l).map nV)) := same_new n2 _ _ upd_same
        generalize upd (upd H' r1 (.lst (([a0, a1, a2].take l).map nV))) r2 (.lst (([b0, b1, b2].take l).map nV)) = H2 at t2 z1 z2
        obtain ⟨d, e, q1, q2, q3, q4, q5⟩ := eq_takes (K := K) l3 (SqL.of z1) (SqL.of z2)
        refine ⟨d, e, q1, q2, q3, q4, _, rfl, ?_⟩
        rw [q5]
        by_cases h2 : ([a0, a1, a2].take l == [b0, b1, b2].take l) = true
        · refine iteP h2 ?_
          refine ⟨_, rfl, _, rfl, c1, c2, _, _, rfl, rfl, t2 _ _ f3, t2 _ _ g3, (by show 8 ≤ sizeLine; decide), fun q hq => ?_⟩
          refine fin _ q (same_to (s0.trans t2) hq) ((s0.trans t2).free hq) ?_
          rw [fpp_some hx (by rw [ep, h2, Bool.true_and]; exact bne_iff_ne.mpr h1) hno, f2, g2, pairV_some]
          exact upd_same
        · refine iteQ h2 ?_
          exact ⟨s0.trans t2, ⟨_, _, _, _, rfl⟩, next (by rw [ep, Bool.eq_false_iff.mpr h2]; rfl)⟩
    · rintro σ H' ⟨s0, ⟨v2, v3, v4, v5, rfl⟩, hno⟩
      rw [List.length_map, M.pair.length] at hno
      refine ⟨Nat.zero_le _, fun q hq => ?_⟩
      refine fin _ q (same_to s0 hq) (s0.free hq) ?_
      rw [fpp_none fun k' y h => hno k' y (List.getElem?_eq_some_iff.mp h).1 h]
      exact upd_same
end
end My
namespace My
open PySem PySem.Spec PyProof.Rows L2
section
variable {P : Program} {w : World} {K : PySem.W.Frag} {mg : Str → Option Value} {base : Heap} {A : Ad}
-- uses Nest_init
def sp_Nest_has_loop (K : PySem.W.Frag) (A : Ad) : Sp := fun vs H Q _ => ∃ d : P10 Hp Addr Nat Nat Nat Nat (Nat → Nat → List Touch) NestD (Addr → Tag) Nat, d.un fun H0 p x y z m tf N tag l => A3 (vs = [.ref p, nV l]) (NestT K A H0 H p x y z m tf N tag) (Q (.bl (decide (l < N.dp))) H)
theorem ok_Nest_has_loop (T : Txt K mg A) : FnOk P w K mg base CX0 1 A.a_Nest_has_loop A.d_Nest_has_loop ["self", "loop"] (sp_Nest_has_loop K A) := by
  refine T.f_Nest_has_loop.ok sc_Nest_has_loop (fun vs H Q E h => ?_) (fun cdv A' outer s H vs Q E hr h => ?_)
  · obtain ⟨⟨_, _, _, _, _, _, _, _, _, _⟩, rfl, _⟩ := h
    rfl
  · obtain ⟨⟨H0, p, x, y, z, m, tf, N, tag, l⟩, rfl, M, k⟩ := h
    refine ⟨_, (pss_one (ps_ret (pe_cmpR op_lt (pv 1) (pe_fld (pv 0) rfl) (nomark _)))), ?_⟩
    try dsimp only [cxOf, Cx.nox]
    refine ⟨_, rfl, rd_fld rfl M.obj T.cl_Nest T.na_Nest_depth rfl ⟨_, _, rfl, rfl, ?_⟩⟩
    have : decide ((l : Int) < (N.dp : Int)) = decide (l < N.dp) := by rw [decide_eq_decide]; omega
    rw [← this] at k
    exact k
end
end My
namespace My
open PySem PySem.Spec PyProof.Rows L2
section
variable {P : Program} {w : World} {K : PySem.W.Frag} {mg : Str → Option Value} {base : Heap} {A : Ad}
-- uses Nest_init
def sp_Nest_statement_count (K : PySem.W.Frag) (A : Ad) : Sp := fun vs H Q _ => ∃ d : P9 Hp Addr Nat Nat Nat Nat (Nat → Nat → List Touch) NestD (Addr → Tag), d.un fun H0 p x y z m tf N tag => A3 (vs = [.ref p]) (NestT K A H0 H p x y z m tf N tag) (Q (nV m) H)
theorem ok_Nest_statement_count (T : Txt K mg A) : FnOk P w K mg base CX0 1 A.a_Nest_statement_count A.d_Nest_statement_count ["self"] (sp_Nest_statement_count K A) := by
  refine T.f_Nest_statement_count.ok sc_Nest_statement_count (fun vs H Q E h => ?_) (fun cdv A' outer s H vs Q E hr h => ?_)
  · obtain ⟨⟨_, _, _, _, _, _, _, _, _⟩, rfl, _⟩ := h
    rfl
  · obtain ⟨⟨H0, p, x, y, z, m, tf, N, tag⟩, rfl, M, k⟩ := h
    refine ⟨_, (pss_one (ps_ret (pe_callB (cr_len (K := K) rfl) (by rfl) T.n_len PySem.boot_len (pa_cons (pe_fld (pv 0) rfl) pa_nil)))), ?_⟩
    try dsimp only [cxOf, Cx.nox]
    refine rd_fld rfl M.obj T.cl_Nest T.na_Nest_touches rfl (rd_len (SqL.of M.tch.1) ?_)
    rw [List.length_map, M.cnt]
    exact k
end
end My
namespace My
open PySem PySem.Spec PyProof.Rows L2
section
variable {P : Program} {w : World} {K : PySem.W.Frag} {mg : Str → Option Value} {base : Heap} {A : Ad}
-- uses Nest_init
def sp_Nest_has_statement (K : PySem.W.Frag) (A : Ad) : Sp := fun vs H Q _ => ∃ d : P10 Hp Addr Nat Nat Nat Nat (Nat → Nat → List Touch) NestD (Addr → Tag) Nat, d.un fun H0 p x y z m tf N tag s => A3 (vs = [.ref p, nV s]) (NestT K A H0 H p x y z m tf N tag) (Q (.bl (decide (s < m))) H)
theorem ok_Nest_has_statement (T : Txt K mg A) : FnOk P w K mg base CX0 1 A.a_Nest_has_statement A.d_Nest_has_statement ["self", "s"] (sp_Nest_has_statement K A) := by
  refine T.f_Nest_has_statement.ok sc_Nest_has_statement (fun vs H Q E h => ?_) (fun cdv A' outer s H vs Q E hr h => ?_)
  · obtain ⟨⟨_, _, _, _, _, _, _, _, _, _⟩, rfl, _⟩ := h
    rfl
  · obtain ⟨⟨H0, p, x, y, z, m, tf, N, tag, s⟩, rfl, M, k⟩ := h
    refine ⟨_, (pss_one (ps_ret (pe_cmpR op_lt (pv 1) (pe_callB (cr_len (K := K) rfl) (by rfl) T.n_len PySem.boot_len (pa_cons (pe_fld (pv 0) rfl) pa_nil)) (nomark _)))), ?_⟩
    try dsimp only [cxOf, Cx.nox]
    refine ⟨_, rfl, rd_fld rfl M.obj T.cl_Nest T.na_Nest_touches rfl (rd_len (SqL.of M.tch.1) ⟨_, _, rfl, rfl, ?_⟩)⟩
    rw [List.length_map, M.cnt]
    have : decide ((s : Int) < (m : Int)) = decide (s < m) := by rw [decide_eq_decide]; omega
    rw [← this] at k
    exact k
end
end My
namespace My
open PySem PySem.Spec PyProof.Rows L2
section
variable {P : Program} {w : World} {K : PySem.W.Frag} {mg : Str → Option Value} {base : Heap} {A : Ad}
-- uses Nest_init
def sp_Nest_access_count (K : PySem.W.Frag) (A : Ad) : Sp := fun vs H Q _ => ∃ d : P10 Hp Addr Nat Nat Nat Nat (Nat → Nat → List Touch) NestD (Addr → Tag) Nat, d.un fun H0 p x y z m tf N tag s => A4 (vs = [.ref p, nV s]) (NestT K A H0 H p x y z m tf N tag) (s < m) (Q (nV (tf s 0).length) H)
theorem NestT.at_ {K : PySem.W.Frag} {A : Ad} {H0 H : Hp} {p : Addr} {x y z m : Nat} {tf : Nat → Nat → List Touch} {N : NestD} {tag : Addr → Tag} (M : NestT K A H0 H p x y z m tf N tag) {k i : Nat} (hk : k < m) (hi : i < x * y * z) :
    ∃ (b : Addr) (pl : List Addr) (c : Addr) (vs : List V), N.bs[k]? = some b ∧ H b = some (.lst (pl.map V.ref)) ∧ pl[i]? = some c ∧ pl.length = x * y * z ∧ H c = some (.lst vs) ∧ Paired (TouchAt K H) vs (tf k i) ∧ tag c = .pl k i := by
  obtain ⟨b, hb⟩ : ∃ b, N.bs[k]? = some b := ⟨_, List.getElem?_eq_getElem (by rw [M.cnt]; exact hk)⟩
  obtain ⟨_, pl, h1, h2, h3⟩ := M.stm k b hb
  obtain ⟨c, hc⟩ : ∃ c, pl[i]? = some c := ⟨_, List.getElem?_eq_getElem (by rw [h2]; exact hi)⟩
  obtain ⟨t, vs, h4, h5⟩ := h3 i c hc
  exact ⟨b, pl, c, vs, hb, h1, hc, h2, h4, h5, t⟩
theorem NestT.pos {K : PySem.W.Frag} {A : Ad} {H0 H : Hp} {p : Addr} {x y z m : Nat} {tf : Nat → Nat → List Touch} {N : NestD} {tag : Addr → Tag} (M : NestT K A H0 H p x y z m tf N tag) : 0 < x * y * z :=
  Nat.mul_pos (Nat.mul_pos M.small.2.1 M.small.2.2.1) M.small.2.2.2
theorem ok_Nest_access_count (T : Txt K mg A) : FnOk P w K mg base CX0 1 A.a_Nest_access_count A.d_Nest_access_count ["self", "s"] (sp_Nest_access_count K A) := by
  refine T.f_Nest_access_count.ok sc_Nest_access_count (fun vs H Q E h => ?_) (fun cdv A' outer s H vs Q E hr h => ?_)
  · obtain ⟨⟨_, _, _, _, _, _, _, _, _, _⟩, rfl, _⟩ := h
    rfl
  · obtain ⟨⟨H0, p, x, y, z, m, tf, N, tag, s⟩, rfl, M, hs, k⟩ := h
    obtain ⟨b, pl, c, vs, hb, h1, hc, _, h2, h3, _⟩ := M.at_ hs M.pos
    refine ⟨_, (pss_one (ps_ret (pe_callB (cr_len (K := K) rfl) (by rfl) T.n_len PySem.boot_len (pa_cons (pe_ix ix_list (pe_ix ix_list (pe_fld (pv 0) rfl) (pv 1) (fun _ _ => rfl)) pe_int (fun _ _ => rfl)) pa_nil)))), ?_⟩
    try dsimp only [cxOf, Cx.nox]
    refine rd_fld rfl M.obj T.cl_Nest T.na_Nest_touches rfl ⟨_, rfl, rd_ix (SqL.of M.tch.1) (at_of (j := s) rfl (at_map hb)) (rd_ix (SqL.of h1) (at_of (j := 0) rfl (at_map hc)) (rd_len (SqL.of h2) ?_))⟩
    rw [h3.length]
    exact k
end
end My
namespace My
open PySem PySem.Spec PyProof.Rows L2
section
variable {P : Program} {w : World} {K : PySem.W.Frag} {mg : Str → Option Value} {base : Heap} {A : Ad}
-- uses Nest_access_count
def sp_Nest_add_statement (K : PySem.W.Frag) (A : Ad) : Sp := fun vs H Q _ => ∃ d : P9 Hp Addr Nat Nat Nat Nat (Nat → Nat → List Touch) NestD (Addr → Tag), d.un fun H0 p x y z m tf N tag => A4 (vs = [.ref p]) (NestT K A H0 H p x y z m tf N tag) (m < 3) (∀ (H' : Hp) (N' : NestD) (tag' : Addr → Tag), NestT K A H0 H' p x y z (m + 1) (fun k i => if k = m then [] else tf k i) N' tag' → N'.dp = N.dp → N'.fv = .non → Q .non H')
theorem ok_Nest_add_statement (T : Txt K mg A) : FnOk P w K mg base CX0 1 A.a_Nest_add_statement A.d_Nest_add_statement ["self"] (sp_Nest_add_statement K A) := by
  refine T.f_Nest_add_statement.ok sc_Nest_add_statement (fun vs H Q E h => ?_) (fun cdv A' outer s H vs Q E hr h => ?_)
  · obtain ⟨⟨_, _, _, _, _, _, _, _, _⟩, rfl, _⟩ := h
    rfl
  · obtain ⟨⟨H0, p, x, y, z, m, tf, N, tag⟩, rfl, M, hm, fin⟩ := h
    refine ⟨_, (pss_cons (ps_expr (pe_bm PySem.F.plainAttrs_list PySem.F.slot_list_append PySem.F.type_list_append mt_append (pe_fld (pv 0) rfl) (pa_cons (pe_lc (own := [("counters", 1)]) rfl sc_Nest_add_statement.nd (pi_list (pe_fld (pv 0) rfl)) (blkOk_by (N := ["self", "counters"]) (sc := defScope s_Nest_add_statement) (by decide +kernel)) (fun _ _ _ _ _ => (pg_name (i := 1) sc_Nest_add_statement.nd rfl (Or.inl rfl))) (fun _ _ _ _ _ => pts_nil) (fun _ _ _ _ _ => (pe_lst pa_nil))) pa_nil)))
        (pss_one (ps_fld (pv 0) pe_non rfl))), ?_⟩
    try dsimp only [cxOf, Cx.nox]
    have h64 := M.small.1
    have rl : N.rs.length = x * y * z := by rw [M.rnd.length, rounds_len]
    refine rd_fld rfl M.obj T.cl_Nest T.na_Nest_touches rfl ⟨.inl ⟨rfl, _, SqL.of M.tch.1⟩, rd_fld rfl M.obj T.cl_Nest T.na_Nest_rounds rfl ⟨N.ra, rfl, ⟨_, SqL.of M.rds.1⟩, fun D hD => ?_⟩⟩
    refine lc_list (K := K) (a := N.ra) (xs := N.rs.map V.ref) (fun i H' => ∃ pl : List Addr, A5 (Same H H') (H' D = some (.lst (pl.map V.ref))) (pl.length = i) (pl.Nodup) (∀ c ∈ pl, H c = none ∧ c ≠ D ∧ H' c = some (.lst [])))
      ⟨[], same_new hD, upd_same, rfl, List.nodup_nil, by simp⟩ (fun i H' _ ⟨_, s⟩ => SqL.of (s.h1 _ _ M.rds.1)) ?_ ?_
    · rintro i v H1 hi ⟨pl, s1, hD1, hl, nd, hc⟩
      have hlt : i < x * y * z := by
        have := (List.getElem?_eq_some_iff.mp hi).1
        rw [List.length_map, rl] at this
        exact this
      refine ⟨rfl, yes_if ?_⟩
      refine ⟨Nat.zero_le _, fun c hcn => ⟨pl.map V.ref, ?_, by rw [List.length_map, hl]; exact size_lt (by omega), pl ++ [c], ?_, ?_, ?_, ?_, ?_⟩⟩
      · rw [upd_ne (ne_of_none hD1 hcn)]; exact hD1
      · intro b o e
        rw [upd_ne (ne_of_none e hD), upd_ne (ne_of_none (s1 _ _ e) hcn)]
        exact s1 _ _ e
      · rw [upd_same, List.map_append]; rfl
      · simp [hl]
      · rw [List.nodup_append]
        refine ⟨nd, by simp, fun a ha b hb => ?_⟩
        rw [List.mem_singleton.mp hb]
        exact ne_of_none (hc a ha).2.2 hcn
      · intro a ha
        rcases List.mem_append.mp ha with ha | ha
        · obtain ⟨q1, q2, q3⟩ := hc a ha
          exact ⟨q1, q2, by rw [upd_ne q2, upd_ne (ne_of_none q3 hcn)]; exact q3⟩
        · rw [List.mem_singleton.mp ha]
          have : c ≠ D := (ne_of_none hD1 hcn).symm
          exact ⟨s1.free hcn, this, by rw [upd_ne this, upd_same]⟩
    · rintro H1 ⟨pl, s1, hD1, hl, nd, hc⟩
      rw [List.length_map, rl] at hl
      refine ⟨N.ta, _, _, rfl, rfl, s1 _ _ M.tch.1, by rw [List.length_map, M.cnt]; exact size_lt (by omega), ?_⟩
      have M1 := M.grow s1
      let tg : Addr → Tag := fun a => if a = D then .stm else if a ∈ pl then .pl m (pl.idxOf a) else tag a
      have tgo : ∀ {a : Addr} {o : HO}, H a = some o → tg a = tag a := fun {a o} e => by
        show (if a = D then _ else if a ∈ pl then _ else tag a) = tag a
        rw [if_neg (ne_of_none e hD), if_neg (fun q => by rw [(hc a q).1] at e; cases e)]
      have nt : ∀ {b : Addr} {g : Tag}, tag b = g → g ≠ .tch → b ≠ N.ta := fun h1 h2 e => h2 (by rw [← h1, e, M.tch.2])
      have up : ∀ {b : Addr} {o : HO}, H1 b = some o → b ≠ N.ta → upd H1 N.ta (.lst (N.bs.map V.ref ++ [.ref D])) b = some o := fun e h => by rw [upd_ne h]; exact e
      suffices M2 : NestT K A H0 (upd H1 N.ta (.lst (N.bs.map V.ref ++ [.ref D]))) p x y z (m + 1) (fun k i => if k = m then [] else tf k i) { N with bs := N.bs ++ [D] } tg by
        refine ⟨_, rfl, p, _, _, _, rfl, M2.obj, T.cl_Nest, T.na_Nest_found, (by show 5 < 1000; decide), ?_⟩
        exact fin _ _ tg (M2.found .non) rfl rfl
      refine ⟨fun b o e => up (M1.sm _ _ e) (fun q => ?_), M.np, up M1.obj (ne_of M1.obj M1.tch.1 (by intro q; cases q)), fun a h => ?_, M.small, ⟨up M1.len.1 (nt M.len.2 (by intro q; cases q)), by rw [tgo M.len.1]; exact M.len.2⟩,
        ⟨up M1.rds.1 (nt M.rds.2 (by intro q; cases q)), by rw [tgo M.rds.1]; exact M.rds.2⟩, keep_nats M1.rnd (fun r hr o e => up e (nt (M.rndT r hr) (by intro q; cases q))), fun r hr => ?_, ⟨by rw [upd_same, List.map_append]; rfl, by rw [tgo M.tch.1]; exact M.tch.2⟩, by simp [M.cnt], fun k b hb => ?_⟩
      · have := M.old N.ta (by rw [M.tch.2]; intro z; cases z)
        rw [q, this] at e
        cases e
      · by_cases h1 : a = D
        · rw [h1]; exact M.sm.free hD
        · by_cases h2 : a ∈ pl
          · exact M.sm.free (hc a h2).1
          · refine M.old a fun q => h ?_
            show (if a = D then _ else if a ∈ pl then _ else tag a) = Tag.no
            rw [if_neg h1, if_neg h2]
            exact q
      · obtain ⟨i, hi⟩ := List.mem_iff_getElem?.mp hr
        obtain ⟨c, _, h2⟩ := pget M.rnd hi
        rw [tgo h2]
        exact M.rndT r hr
      · by_cases hk : k < m
        · have hb' : N.bs[k]? = some b := by
            rw [← hb]
            exact (List.getElem?_append_left (by rw [M.cnt]; exact hk)).symm
          obtain ⟨t1, pl', h1, h2, h3⟩ := M.stm k b hb'
          refine ⟨by rw [tgo h1]; exact t1, pl', up (s1 _ _ h1) (nt t1 (by intro q; cases q)), h2, fun i c hci => ?_⟩
          obtain ⟨t2, vs, h4, h5⟩ := h3 i c hci
          refine ⟨by rw [tgo h4]; exact t2, vs, up (s1 _ _ h4) (nt t2 (by intro q; cases q)), ?_⟩
          rw [if_neg (by omega)]
          exact h5.mono fun _ _ q => q.mono (fun b xs e => up (s1 _ _ e) (ne_of (s1 _ _ e) M1.tch.1 (by intro q; cases q))) (fun b o u e => up (s1 _ _ e) (ne_of (s1 _ _ e) M1.tch.1 (by intro q; cases q)))
        · have hk2 : k = m := by
            have := (List.getElem?_eq_some_iff.mp hb).1
            simp [M.cnt] at this
            omega
          subst hk2
          have eb : b = D := by
            have h := hb
            rw [show k = N.bs.length from M.cnt.symm] at h
            have h : (N.bs ++ [D])[N.bs.length]? = some b := h
            rw [List.getElem?_append_right (Nat.le_refl _), Nat.sub_self] at h
            exact (Option.some.inj h).symm
          subst eb
          have nDt : b ≠ N.ta := (ne_of_none M.tch.1 hD).symm
          refine ⟨?_, pl, up hD1 nDt, hl, fun i c hci => ?_⟩
          · show (if b = b then _ else _) = _
            rw [if_pos rfl]
          · have hm := List.mem_of_getElem? hci
            obtain ⟨q1, q2, q3⟩ := hc c hm
            refine ⟨?_, [], up q3 (ne_of_none M.tch.1 q1).symm, by rw [if_pos rfl]; exact .nil⟩
            show (if c = b then _ else if c ∈ pl then _ else _) = _
            rw [if_neg q2, if_pos hm]
            congr 1
            obtain ⟨hi, rfl⟩ := List.getElem?_eq_some_iff.mp hci
            exact nd.idxOf_getElem i hi
end
end My
namespace My
open PySem PySem.Spec PyProof.Rows L2
section
variable {P : Program} {w : World} {K : PySem.W.Frag} {mg : Str → Option Value} {base : Heap} {A : Ad}
-- uses Nest_access_count
def sp_Nest_round_place (K : PySem.W.Frag) (A : Ad) : Sp := fun vs H Q _ => ∃ d : P14 Hp Addr Nat Nat Nat Nat (Nat → Nat → List Touch) NestD (Addr → Tag) Addr Nat Nat Nat Nat, d.un fun H0 p x y z m tf N tag u a b c k => A7 (vs = [.ref p, .ref u]) (NestT K A H0 H p x y z m tf N tag) (NatsL H u [a, b, c, k]) (a < x) (b < y) (c < z) (Q (nV ((a * y + b) * z + c)) H)
theorem place_lt {x y z a b c : Nat} (ha : a < x) (hb : b < y) (hc : c < z) : (a * y + b) * z + c < x * y * z := by
  have h1 : (a + 1) * y ≤ x * y := Nat.mul_le_mul_right y ha
  rw [Nat.add_mul] at h1
  have h2 : (a * y + b + 1) * z ≤ x * y * z := Nat.mul_le_mul_right z (by omega)
  rw [Nat.add_mul] at h2
  omega
theorem ok_Nest_round_place (T : Txt K mg A) : FnOk P w K mg base CX0 1 A.a_Nest_round_place A.d_Nest_round_place ["self", "instance"] (sp_Nest_round_place K A) := by
  refine T.f_Nest_round_place.ok sc_Nest_round_place (fun vs H Q E h => ?_) (fun cdv A' outer s H vs Q E hr h => ?_)
  · obtain ⟨⟨_, _, _, _, _, _, _, _, _, _, _, _, _, _⟩, rfl, _⟩ := h
    rfl
  · obtain ⟨⟨H0, p, x, y, z, m, tf, N, tag, u, a, b, c, k⟩, rfl, M, hu, ha, hb, hc, q⟩ := h
    have le := le_of_prod M.small.1 M.small.2.1 M.small.2.2.1 M.small.2.2.2
    have hu' : SqL K H u ([a, b, c, k].map nV) := SqL.of hu
    have hl : SqL K H N.la ([x, y, z].map nV) := SqL.of M.len.1
    refine ⟨_, (pss_one (ps_ret (pe_op op_add (pe_op op_mul (pe_op op_add (pe_op op_mul (pe_ix ix_list (pv 1) pe_int (fun _ _ => rfl)) (pe_ix ix_list (pe_fld (pv 0) rfl) pe_int (fun _ _ => rfl))) (pe_ix ix_list (pv 1) pe_int (fun _ _ => rfl))) (pe_ix ix_list (pe_fld (pv 0) rfl) pe_int (fun _ _ => rfl))) (pe_ix ix_list (pv 1) pe_int (fun _ _ => rfl))))), ?_⟩
    try dsimp only [cxOf, Cx.nox]
    refine ⟨_, rfl, rd_ix hu' rfl (rd_fld rfl M.obj T.cl_Nest T.na_Nest_lengths rfl (rd_ix hl rfl ⟨_, _, rfl, rfl, .inl ⟨by omega, by omega⟩, _, rfl, rd_ix hu' rfl ⟨_, _, rfl, rfl, rd_fld rfl M.obj T.cl_Nest T.na_Nest_lengths rfl (rd_ix hl rfl ⟨_, _, rfl, rfl, .inr ⟨by omega, by omega⟩, _, rfl, rd_ix hu' rfl ⟨_, _, rfl, rfl, ?_⟩⟩)⟩⟩))⟩
    have e : ((a : Int) * (y : Int) + (b : Int)) * (z : Int) + (c : Int) = (((a * y + b) * z + c : Nat) : Int) := by simp
    show Q (.int (((a : Int) * (y : Int) + (b : Int)) * (z : Int) + (c : Int))) H
    rw [e]
    exact q
end
end My
namespace My
open PySem PySem.Spec PyProof.Rows L2
section
variable {P : Program} {w : World} {K : PySem.W.Frag} {mg : Str → Option Value} {base : Heap} {A : Ad}
-- uses Nest_init
def instL (x y z m : Nat) : List (List Nat) := (rounds x y z).flatMap fun r => (List.range m).map fun k => r ++ [k]
def sp_Nest_all_instances (K : PySem.W.Frag) (A : Ad) : Sp := fun vs H Q _ => ∃ d : P9 Hp Addr Nat Nat Nat Nat (Nat → Nat → List Touch) NestD (Addr → Tag), d.un fun H0 p x y z m tf N tag => A4 (vs = [.ref p]) (NestT K A H0 H p x y z m tf N tag) (m ≤ 3) (∀ (H' : Hp) (q : Addr) (rs : List Addr), Acc NatsL H H' q (instL x y z m) rs → Q (.ref q) H')
theorem ok_Nest_all_instances (T : Txt K mg A) : FnOk P w K mg base CX0 1 A.a_Nest_all_instances A.d_Nest_all_instances ["self"] (sp_Nest_all_instances K A) := by
  refine T.f_Nest_all_instances.ok sc_Nest_all_instances (fun vs H Q E h => ?_) (fun cdv A' outer s H vs Q E hr h => ?_)
  · obtain ⟨⟨_, _, _, _, _, _, _, _, _⟩, rfl, _⟩ := h
    rfl
  · obtain ⟨⟨H0, p, x, y, z, m, tf, N, tag⟩, rfl, M, hm, fin⟩ := h
    refine ⟨_, (pss_cons (ps_set (i := 1) sc_Nest_all_instances.nd rfl (Or.inl rfl) (pe_lst pa_nil))
        (pss_cons (ps_for PassesOwn.never rfl (pi_list (pe_fld (pv 0) rfl)) (pg_name (i := 2) sc_Nest_all_instances.nd rfl (Or.inl rfl))
          (pss_one (ps_for PassesOwn.never rfl (pi_range1 rfl T.n_range (pa_cons (pe_callB (cr_len (K := K) rfl) (by rfl) T.n_len PySem.boot_len (pa_cons (pe_fld (pv 0) rfl) pa_nil)) pa_nil)) (pg_name (i := 3) sc_Nest_all_instances.nd rfl (Or.inl rfl))
              (pss_one (ps_expr (pe_bm PySem.F.plainAttrs_list PySem.F.slot_list_append PySem.F.type_list_append mt_append (pv 1) (pa_cons (pe_op op_cat (pv 2) (pe_lst (pa_cons (pv 3) pa_nil))) pa_nil)))))))
        (pss_one (ps_ret (pv 1))))), ?_⟩
    try dsimp only [cxOf, Cx.nox]
    have h64 := M.small.1
    have rl : N.rs.length = x * y * z := by rw [M.rnd.length, rounds_len]
    refine ⟨Nat.zero_le _, fun q hq => ?_⟩
    refine ⟨_, rfl, p, _, _, _, _, rfl, same_new hq _ _ M.obj, T.cl_Nest, T.na_Nest_rounds, rfl, N.ra, rfl, ⟨_, SqL.of (same_new hq _ _ M.rds.1)⟩, for_list (K := K) (a := N.ra) (xs := N.rs.map V.ref)
      (fun i σ H' => (∃ v2 v3, σ = [some (.ref p), some (.ref q), v2, v3]) ∧ ∃ rs, Acc NatsL H H' q (((rounds x y z).take i).flatMap fun r => (List.range m).map fun k => r ++ [k]) rs)
      ⟨⟨_, _, rfl⟩, _, .start hq⟩ (fun i σ H' _ ⟨_, rs, B⟩ => SqL.of (B.same _ _ M.rds.1)) ?_ ?_⟩
    · rintro i v σ H1 hi ⟨⟨v2, v3, rfl⟩, rs, B1⟩
      obtain ⟨c, hc, rfl⟩ := get_map hi
      have hlt : i < x * y * z := by rw [← rl]; exact (List.getElem?_eq_some_iff.mp hc).1
      obtain ⟨r, hr, hcr⟩ := pget M.rnd hc
      have r3 : r.length = 3 := by obtain ⟨_, _, _, _, _, _, _, e⟩ := rounds_get hr; rw [e]; rfl
      refine rd_fld rfl (B1.same _ _ M.obj) T.cl_Nest T.na_Nest_touches rfl (rd_len (SqL.of (B1.same _ _ M.tch.1)) ⟨_, rfl, ?_, ?_, ?_⟩)
      · rw [List.length_map, M.cnt]; omega
      · rw [List.length_map, M.cnt]; omega
      refine for_range (lo := 0) (n := (((N.bs.map V.ref).length : Nat) : Int).toNat) (fun j σ H' => (∃ v3, σ = [some (.ref p), some (.ref q), some (.ref c), v3]) ∧ ∃ rs, Acc NatsL H H' q ((((rounds x y z).take i).flatMap fun r => (List.range m).map fun k => r ++ [k]) ++ (List.range j).map fun k => r ++ [k]) rs)
        ⟨⟨_, rfl⟩, rs, by simpa using B1⟩ ?_ ?_
      · rintro j σ H2 hj ⟨⟨v3, rfl⟩, rs2, B2⟩
        rw [Int.toNat_natCast, List.length_map, M.cnt] at hj
        rw [Int.zero_add]
        have ln : rs2.length < 200 := by
          rw [B2.len, List.length_append, flat_len, List.length_take, rounds_len, List.length_map, List.length_range]
          have : min i (x * y * z) * m ≤ 64 * 3 := Nat.mul_le_mul (by omega) hm
          omega
        have hc2 : H2 c = some (.lst (r.map nV)) := B2.same _ _ hcr
        refine ⟨_, rfl, .inl ⟨rfl, _, SqL.of B2.lst⟩, _, rfl, _, rfl, (by show 1 ≤ sizeLine; decide), fun r1 n1 => ?_⟩
        have s1 := same_new (o := HO.lst [nV j]) n1
        refine ⟨c, r1, _, _, rfl, rfl, s1 _ _ hc2, upd_same, by rw [List.length_map, r3]; exact size_small (by simp), fun r2 n2 => ?_⟩
        have s2 := same_to s1 n2 (o := HO.lst (r.map nV ++ [nV j]))
        have g2 : upd (upd H2 r1 (.lst [nV j])) r2 (.lst (r.map nV ++ [nV j])) r2 = some (.lst ((r ++ [j]).map nV)) := by rw [upd_same, List.map_append]; rfl
        have f2 := s1.free n2
        generalize upd (upd H2 r1 (.lst [nV j])) r2 (.lst (r.map nV ++ [nV j])) = H3 at s2 g2
        have np : r2 ≠ q := (ne_of_none B2.lst f2).symm
        have B3 := B2.grow mono_nats s2
        refine ⟨q, _, _, rfl, rfl, B3.lst, (by rw [List.length_map]; exact size_lt (by omega)), ?_⟩
        refine ⟨⟨_, rfl⟩, rs2 ++ [r2], ?_⟩
        have hF : NatsL (newer H H3 q) r2 (r ++ [j]) := newer_at g2 (B2.same.free f2) np
        have B4 := B3.push (B2.same.free f2) hF
        rw [List.range_succ, List.map_append, ← List.append_assoc]
        exact B4
      · rintro σ H2 ⟨⟨v3, rfl⟩, rs2, B2⟩
        rw [Int.toNat_natCast, List.length_map, M.cnt] at B2
        refine ⟨⟨_, _, rfl⟩, rs2, ?_⟩
        rw [take_snoc hr, List.flatMap_append, List.flatMap_cons, List.flatMap_nil, List.append_nil]
        exact B2
    · rintro σ H1 ⟨⟨v2, v3, rfl⟩, rs, B1⟩
      rw [List.length_map, rl, ← rounds_len, List.take_length] at B1
      exact ⟨_, rfl, fin _ _ _ B1⟩
end
end My
namespace My
open PySem PySem.Spec PyProof.Rows L2
section
variable {P : Program} {w : World} {K : PySem.W.Frag} {mg : Str → Option Value} {base : Heap} {A : Ad}
/-- a call's object -/
def callF (k : Int) (n l : Addr) : List (Str × V) := [("kind", .int k), ("numbers", .ref n), ("lists", .ref l)]
def sp_Call_init (K : PySem.W.Frag) (A : Ad) : Sp := fun vs H Q _ => ∃ d : P5 Addr Addr Addr Addr Int, d.un fun p dx n l k => A3 (vs = [.ref p, .int k, .ref n, .ref l]) (H p = some (.ins A.c_Call dx [])) (∀ H', H' p = some (.ins A.c_Call dx (callF k n l)) → (∀ b o, H b = some o → b ≠ p → H' b = some o) → Q .non H')
theorem ok_Call_init (T : Txt K mg A) : FnOk P w K mg base CX0 1 A.a_Call_init A.d_Call_init ["self", "kind", "numbers", "lists"] (sp_Call_init K A) := by
  refine T.f_Call_init.ok sc_Call_init (fun vs H Q E h => ?_) (fun cdv A' outer s H vs Q E hr h => ?_)
  · obtain ⟨⟨_, _, _, _, _⟩, rfl, _⟩ := h
    rfl
  · obtain ⟨⟨p, dx, n, l, k⟩, rfl, hp, q⟩ := h
    refine ⟨_, (pss_cons (ps_fld (pv 0) (pv 1) rfl)
        (pss_cons (ps_fld (pv 0) (pv 2) rfl)
        (pss_one (ps_fld (pv 0) (pv 3) rfl)))), ?_⟩
    try dsimp only [cxOf, Cx.nox]
    refine ⟨_, rfl, _, rfl, p, _, dx, [], rfl, hp, T.cl_Call, T.na_Call_kind, (by show 0 < 1000; decide), ?_⟩
    refine ⟨_, rfl, _, rfl, p, _, dx, _, rfl, upd_same, T.cl_Call, T.na_Call_numbers, (by show 1 < 1000; decide), ?_⟩
    refine ⟨_, rfl, _, rfl, p, _, dx, _, rfl, upd_same, T.cl_Call, T.na_Call_lists, (by show 2 < 1000; decide), ?_⟩
    refine q _ upd_same fun b o e hb => ?_
    rw [upd_ne hb, upd_ne hb, upd_ne hb]
    exact e
end
end My
namespace My
open PySem PySem.Spec PyProof.Rows L2
section
variable {P : Program} {w : World} {K : PySem.W.Frag} {mg : Str → Option Value} {base : Heap} {A : Ad}
/-- so many rows from a place on, as the specification takes them -/
def sp_read_lists (K : PySem.W.Frag) (A : Ad) : Sp := fun vs H Q _ => ∃ d : P6 Addr (List Int) Nat Nat (List (List Int)) (List Int), d.un fun a l q k xs t => A6 (vs = [.ref a, nV q, nV k]) (SqL K H a (l.map V.int)) (q ≤ l.length) (k ≤ 2) (PyFlat.rows k (l.drop q) = some (xs, t)) (∀ (H' : Hp) (p : Addr) (rs : List Addr), Acc IntsL H H' p xs rs → Q (.ref p) H')
theorem ok_read_lists (T : Txt K mg A) : FnOk P w K mg base CX0 1 A.a_read_lists A.d_read_lists ["line", "place", "how_many"] (sp_read_lists K A) := by
  refine T.f_read_lists.ok sc_read_lists (fun vs H Q E h => ?_) (fun cdv A' outer s H vs Q E hr h => ?_)
  · obtain ⟨⟨_, _, _, _, _, _⟩, rfl, _⟩ := h
    rfl
  · obtain ⟨⟨a, l, q, k, xs, t⟩, rfl, ha, hq, hk, hrow, fin⟩ := h
    refine ⟨_, (pss_cons (ps_set (i := 3) sc_read_lists.nd rfl (Or.inl rfl) (pe_lst pa_nil))
        (pss_cons (ps_for PassesOwn.never rfl (pi_range1 rfl T.n_range (pa_cons (pv 2) pa_nil)) (pg_name (i := 4) sc_read_lists.nd rfl (Or.inl rfl))
          (pss_cons (ps_set (i := 5) sc_read_lists.nd rfl (Or.inl rfl) (pe_op op_add (pv 1) pe_int))
            (pss_cons (ps_set (i := 6) sc_read_lists.nd rfl (Or.inl rfl) (pe_op op_add (pv 5) (pe_ix ix_list (pv 0) (pv 1) (fun _ _ => rfl))))
            (pss_cons (ps_expr (pe_bm PySem.F.plainAttrs_list PySem.F.slot_list_append PySem.F.type_list_append mt_append (pv 3) (pa_cons (pe_slice sl_list (pv 0) (po_some (pv 5)) (po_some (pv 6))) pa_nil)))
            (pss_one (ps_set (i := 1) sc_read_lists.nd rfl (Or.inl rfl) (pv 6)))))))
        (pss_one (ps_ret (pv 3))))), ?_⟩
    try dsimp only [cxOf, Cx.nox]
    refine ⟨Nat.zero_le _, fun p hp => ?_⟩
    refine ⟨_, rfl, (k : Int), rfl, by omega, by omega, ?_⟩
    refine for_range (n := ((k : Int)).toNat) (fun i σ H' => ∃ (q' : Nat) (done rest : List (List Int)) (rs : List Addr), (∃ v4 v5 v6, σ = [some (.ref a), some (nV q'), some (nV k), some (.ref p), v4, v5, v6]) ∧ q' ≤ l.length ∧ i ≤ k ∧
        PyFlat.rows (k - i) (l.drop q') = some (rest, t) ∧ done ++ rest = xs ∧ done.length = i ∧ Acc IntsL H H' p done rs)
      ⟨q, [], xs, [], ⟨_, _, _, rfl⟩, hq, Nat.zero_le _, hrow, rfl, rfl, .start hp⟩ ?_ ?_
    · rintro i σ H1 hi ⟨q', done, rest, rs, ⟨v4, v5, v6, rfl⟩, hq', hik, hrow', hd, hdl, A1⟩
      rw [Int.toNat_natCast] at hi
      have ek : k - i = (k - (i + 1)) + 1 := by omega
      rw [ek] at hrow'
      obtain ⟨c, rest', hc, c0, hcl, rfl, hlen, hrow2⟩ := rows_step hrow'
      obtain ⟨m, rfl⟩ : ∃ m : Nat, c = (m : Int) := ⟨c.toNat, by omega⟩
      rw [Int.toNat_natCast] at hcl hlen hrow2 hd
      refine ⟨_, rfl, _, _, rfl, rfl, ?_⟩
      refine ⟨_, rfl, _, rfl, _, rfl, rd_ix (A1.same.seq ha) (at_of (j := q') rfl (at_map hc)) ⟨_, _, rfl, rfl, ?_⟩⟩
      refine ⟨_, rfl, .inl ⟨rfl, _, SqL.of A1.lst⟩, _, rfl, _, rfl, _, rfl, _, rfl, _, rfl, a, _, rfl, A1.same.seq ha, fun r hr => ?_⟩
      have ecut : cutV (l.map V.int) (some ((q' : Int) + 1)) (some ((q' : Int) + 1 + (m : Int))) = ((l.drop (q' + 1)).take m).map V.int := by
        have := cut_nat (xs := l.map V.int) (i := q' + 1) (j := q' + 1 + m) (by rw [List.length_map]; exact hcl) (by omega)
        rw [show q' + 1 + m - (q' + 1) = m by omega, ← List.map_drop, ← List.map_take] at this
        rw [← this]
        congr 2
      have s1 := same_new (o := HO.lst (cutV (l.map V.int) (some ((q' : Int) + 1)) (some ((q' : Int) + 1 + (m : Int))))) hr
      have np : r ≠ p := (ne_of_none A1.lst hr).symm
      have A2 := A1.grow mono_ints s1
      refine ⟨p, _, _, rfl, rfl, A2.lst, (by rw [List.length_map, A1.len]; exact size_lt (by omega)), ?_⟩
      have hF : IntsL (newer H (upd H1 r (.lst (cutV (l.map V.int) (some ((q' : Int) + 1)) (some ((q' : Int) + 1 + (m : Int)))))) p) r ((l.drop (q' + 1)).take m) := by
        refine newer_at ?_ (A1.same.free hr) np
        rw [upd_same, ecut]
      refine ⟨_, rfl, q' + 1 + m, done ++ [(l.drop (q' + 1)).take m], rest', rs ++ [r], ⟨_, _, _, rfl⟩, hcl, hi, hrow2, by rw [List.append_assoc]; exact hd, by simp [hdl], A2.push (A1.same.free hr) hF⟩
    · rintro σ H1 ⟨q', done, rest, rs, ⟨v4, v5, v6, rfl⟩, hq', hik, hrow', hd, hdl, A1⟩
      rw [Int.toNat_natCast, Nat.sub_self] at hrow'
      have e : rest = [] := (congrArg Prod.fst (Option.some.inj (show some (([] : List (List Int)), l.drop q') = some (rest, t) from hrow'))).symm
      rw [e, List.append_nil] at hd
      rw [hd] at A1
      exact ⟨_, rfl, fin _ _ _ A1⟩
end
end My
namespace My
open PySem PySem.Spec PyProof.Rows L2
section
variable {P : Program} {w : World} {K : PySem.W.Frag} {mg : Str → Option Value} {base : Heap} {A : Ad}
/-- an answer: the number, 0, how many stand behind it, they -/
def tells (z : Int) (xs : List V) : List V := [.int z, .int 0, .int xs.length] ++ xs
def sp_tell (K : PySem.W.Frag) (A : Ad) : Sp := fun vs H Q _ => ∃ d : P3 Int Addr (List V), d.un fun z b xs => A4 (vs = [.int z, .ref b]) (H b = some (.lst xs)) (xs.length ≤ 1000) (∀ (H' : Hp) (p : Addr), Same H H' → H p = none → H' p = some (.lst (tells z xs)) → Q (.ref p) H')
theorem ok_tell (T : Txt K mg A) : FnOk P w K mg base CX0 1 A.a_tell A.d_tell ["number", "behind"] (sp_tell K A) := by
  refine T.f_tell.ok sc_tell (fun vs H Q E h => ?_) (fun cdv A' outer s H vs Q E hr h => ?_)
  · obtain ⟨⟨_, _, _⟩, rfl, _⟩ := h
    rfl
  · obtain ⟨⟨z, b, xs⟩, rfl, hb, hl, k⟩ := h
    refine ⟨_, (pss_one (ps_ret (pe_op op_cat (pe_lst (pa_cons (pv 0) (pa_cons pe_int (pa_cons (pe_callB (cr_len (K := K) rfl) (by rfl) T.n_len PySem.boot_len (pa_cons (pv 1) pa_nil)) pa_nil)))) (pv 1)))), ?_⟩
    try dsimp only [cxOf, Cx.nox]
    refine ⟨_, rfl, _, rfl, rd_len (SqL.of hb) ⟨(by show 3 ≤ sizeLine; decide), fun r hr => ?_⟩⟩
    have s1 := same_new (o := HO.lst [.int z, .int 0, .int xs.length]) hr
    refine ⟨_, rfl, r, b, _, _, rfl, rfl, upd_same, s1 _ _ hb, size_small (by show 3 + xs.length ≤ _; omega), fun p hp => ?_⟩
    exact k _ p (same_to s1 hp) (s1.free hp) upd_same
end
end My
namespace My
open PySem PySem.Spec PyProof.Rows L2
section
variable {P : Program} {w : World} {K : PySem.W.Frag} {mg : Str → Option Value} {base : Heap} {A : Ad}
-- uses Nest_add_statement
-- uses Nest_statement_count
-- uses tell
-- uses Meetings_init
open NestNs (Nest) in
/-- the nest in the heap is the specification's -/
structure NestS (s : Nest) (x y z m : Nat) (tf : Nat → Nat → List Touch) : Prop where
  sn : s.n = [x, y, z]
  sd : 1 ≤ s.loops ∧ s.loops ≤ 3
  sm : s.stmts.length = m
  sm3 : m ≤ 3
  sl : ∀ (k : Nat) (l : List NestNs.Access), s.stmts[k]? = some l → l.length ≤ 3
  st : ∀ (k i : Nat) (r : List Nat), k < m → (rounds x y z)[i]? = some r → tf k i = NestNs.touched s (r, k)
/-- what was found, if anything was -/
def Fnd (A : Ad) (H : Hp) (fv : V) (s : NestNs.Nest) : Prop := fv = .non ∨ ∃ q, fv = .ref q ∧ MeetAt A H q s
theorem Fnd.grow {A : Ad} {B H H1 : Hp} {p : Addr} {fv : V} {s : NestNs.Nest} (F : Fnd A (newer B H p) fv s) (h : Same H H1) : Fnd A (newer B H1 p) fv s := by
  rcases F with F | ⟨q, e, F⟩
  · exact .inl F
  · exact .inr ⟨q, e, F.grow (newer_mono h)⟩
def NestAt (K : PySem.W.Frag) (A : Ad) (B H : Hp) (p : Addr) (s : NestNs.Nest) : Prop := ∃ d : P7 Nat Nat Nat Nat (Nat → Nat → List Touch) NestD (Addr → Tag), d.un fun x y z m tf N tag => A4 (NestT K A B H p x y z m tf N tag) (NestS s x y z m tf) (s.loops = N.dp) (Fnd A (newer B H p) N.fv s)
theorem NestAt.grow {K : PySem.W.Frag} {A : Ad} {B H H1 : Hp} {p : Addr} {s : NestNs.Nest} (M : NestAt K A B H p s) (h : Same H H1) : NestAt K A B H1 p s := by
  obtain ⟨⟨x, y, z, m, tf, N, tag⟩, M, S, d, F⟩ := M
  exact ⟨⟨x, y, z, m, tf, N, tag⟩, M.grow h, S, d, F.grow h⟩
theorem NestAt.sm {K : PySem.W.Frag} {A : Ad} {B H : Hp} {p : Addr} {s : NestNs.Nest} (M : NestAt K A B H p s) : Same B H := by
  obtain ⟨⟨x, y, z, m, tf, N, tag⟩, M, S⟩ := M
  exact M.sm
/-- what an answer's list holds -/
def ansV (a : NestNs.Answer) : List V := (NestNeutral.numbersOf a).map V.int
/-- a call upon a nest: the answer's list is new, the nest is the one behind the call -/
def Asks (K : PySem.W.Frag) (A : Ad) (B : Hp) (p : Addr) (r : NestNs.State × NestNs.Answer) (Q : VK) : Prop := ∀ (H' : Hp) (q : Addr) (s' : NestNs.Nest), r.1 = some s' → NestAt K A B H' p s' → B q = none → H' q = some (.lst (ansV r.2)) → Q (.ref q) H'
def sp_answer_stmt (K : PySem.W.Frag) (A : Ad) : Sp := fun vs H Q _ => ∃ d : P3 Hp Addr NestNs.Nest, d.un fun B p s => A3 (vs = [.ref p]) (NestAt K A B H p s) (Asks K A B p (NestNs.on s .stmt) Q)
theorem NestS.stmt {s : NestNs.Nest} {x y z m : Nat} {tf : Nat → Nat → List Touch} (S : NestS s x y z m tf) (h : m < 3) : NestS ⟨s.loops, s.n, s.stmts ++ [[]]⟩ x y z (m + 1) (fun k i => if k = m then [] else tf k i) := by
  refine ⟨S.sn, S.sd, by simp [S.sm], h, fun k l hl => ?_, fun k i r hk hr => ?_⟩
  · by_cases hk : k < s.stmts.length
    · exact S.sl k l (by rw [← hl]; exact (List.getElem?_append_left hk).symm)
    · have hl : (s.stmts ++ [[]])[k]? = some l := hl
      rw [List.getElem?_append_right (by omega)] at hl
      have := List.mem_of_getElem? hl
      rw [List.mem_singleton.mp this]
      exact Nat.zero_le _
  · unfold NestNs.touched
    show _ = ((s.stmts ++ [[]]).getD k []).map _
    by_cases h2 : k = m
    · rw [if_pos h2, List.getD_eq_getElem?_getD, List.getElem?_append_right (by rw [S.sm]; omega), S.sm, h2, Nat.sub_self]
      rfl
    · rw [if_neg h2, S.st k i r (by omega) hr, List.getD_eq_getElem?_getD, List.getElem?_append_left (by rw [S.sm]; omega), ← List.getD_eq_getElem?_getD]
      rfl
theorem ok_answer_stmt (T : Txt K mg A) (G_Nest_add_statement : FnOk P w K mg base CX0 1 A.a_Nest_add_statement A.d_Nest_add_statement ["self"] (sp_Nest_add_statement K A)) (G_Nest_statement_count : FnOk P w K mg base CX0 1 A.a_Nest_statement_count A.d_Nest_statement_count ["self"] (sp_Nest_statement_count K A)) (G_tell : FnOk P w K mg base CX0 1 A.a_tell A.d_tell ["number", "behind"] (sp_tell K A)) : FnOk P w K mg base CX0 2 A.a_answer_stmt A.d_answer_stmt ["nest"] (sp_answer_stmt K A) := by
  refine T.f_answer_stmt.ok sc_answer_stmt (fun vs H Q E h => ?_) (fun cdv A' outer s H vs Q E hr h => ?_)
  · obtain ⟨⟨_, _, _⟩, rfl, _⟩ := h
    rfl
  · obtain ⟨⟨B, p, st⟩, rfl, ⟨⟨x, y, z, m, tf, N, tag⟩, M, S, dp, F⟩, fin⟩ := h
    refine ⟨_, (pss_cons (ps_set (i := 1) sc_answer_stmt.nd rfl (Or.inl rfl) (pe_meth0 (pv 0) T.cl_Nest T.m_Nest_statement_count G_Nest_statement_count (hr.mono (by decide)) T.b_Nest_statement_count .nil pass0))
        (pss_cons (ps_if (pt_cmpR op_eq (pv 1) (pe_glob (v := .int 3) rfl T.g_MOST_STATEMENTS.choose_spec ⟨_, rfl⟩) (nomark _))
          (pss_one (ps_ret (pe_call G_tell (hr.mono (by decide)) rfl T.mg_tell T.f_tell.kp T.b_tell .nil pass0 (pa_cons (pe_un un_neg pe_int) (pa_cons (pe_lst pa_nil) pa_nil)))))
          pss_nil)
        (pss_cons (ps_expr (pe_meth0 (pv 0) T.cl_Nest T.m_Nest_add_statement G_Nest_add_statement (hr.mono (by decide)) T.b_Nest_add_statement .nil pass0))
        (pss_one (ps_ret (pe_call G_tell (hr.mono (by decide)) rfl T.mg_tell T.f_tell.kp T.b_tell .nil pass0 (pa_cons (pv 1) (pa_cons (pe_lst pa_nil) pa_nil)))))))), ?_⟩
    try dsimp only [cxOf, Cx.nox]
    refine rd_meth rfl M.obj rfl ⟨⟨B, p, x, y, z, m, tf, N, tag⟩, rfl, M, ?_⟩
    refine ⟨_, rfl, rfl, _, rfl, ?_⟩
    by_cases h3 : m = 3
    · refine iteP (decide_eq_true (by rw [h3]; rfl)) ?_
      refine ⟨_, rfl, Nat.zero_le _, fun l hl => ?_⟩
      have s1 := same_new (o := HO.lst []) hl
      refine ⟨⟨-2, l, []⟩, rfl, upd_same, Nat.zero_le _, fun H2 q s2 n2 h2 => ?_⟩
      have e : NestNs.on st .stmt = (some st, NestNs.says (-2)) := by
        show (if st.stmts.length < NestNs.STMTS then _ else _) = _
        rw [if_neg (by rw [S.sm, h3]; decide)]
      rw [e] at fin
      exact fin H2 q st rfl ⟨⟨x, y, z, m, tf, N, tag⟩, M.grow (s1.trans s2), S, dp, F.grow (s1.trans s2)⟩ (M.sm.free (s1.free n2)) h2
    · refine iteQ (by rw [decide_eq_true_eq]; intro q; injection q with q; omega) ?_
      have m3 : m < 3 := by have := S.sm3; omega
      refine rd_meth rfl M.obj rfl ⟨⟨B, p, x, y, z, m, tf, N, tag⟩, rfl, M, m3, fun H1 N1 tag1 M1 e1 e2 => ?_⟩
      refine ⟨_, rfl, Nat.zero_le _, fun l hl => ?_⟩
      have s1 := same_new (o := HO.lst []) hl
      refine ⟨⟨_, l, []⟩, rfl, upd_same, Nat.zero_le _, fun H2 q s2 n2 h2 => ?_⟩
      have e : NestNs.on st .stmt = (some ⟨st.loops, st.n, st.stmts ++ [[]]⟩, NestNs.says (m : Nat)) := by
        show (if st.stmts.length < NestNs.STMTS then _ else _) = _
        rw [if_pos (by rw [S.sm]; exact m3), S.sm]
      rw [e] at fin
      exact fin H2 q _ rfl ⟨⟨x, y, z, m + 1, _, N1, tag1⟩, M1.grow (s1.trans s2), S.stmt m3, dp.trans e1.symm, .inl e2⟩ (M1.sm.free (s1.free n2)) h2
end
end My
namespace My
open PySem PySem.Spec PyProof.Rows L2
section
variable {P : Program} {w : World} {K : PySem.W.Frag} {mg : Str → Option Value} {base : Heap} {A : Ad}
-- uses answer_stmt
def deskF (v : V) : List (Str × V) := [("nest", v)]
/-- the desk and its nest; B: all that is tracked but the nest's own -/
def DeskAt (K : PySem.W.Frag) (A : Ad) (B H : Hp) (d : Addr) (st : NestNs.State) : Prop := Same B H ∧ ∃ (dx : Addr) (v : V), B d = some (.ins A.c_Desk dx (deskF v)) ∧
  match st with
  | none => v = .non
  | some s => ∃ p, v = .ref p ∧ NestAt K A B H p s
def sp_Desk_init (K : PySem.W.Frag) (A : Ad) : Sp := fun vs H Q _ => ∃ d : P2 Addr Addr, d.un fun p dx => A3 (vs = [.ref p]) (H p = some (.ins A.c_Desk dx [])) (∀ H', H' p = some (.ins A.c_Desk dx (deskF .non)) → (∀ b o, H b = some o → b ≠ p → H' b = some o) → Q .non H')
theorem ok_Desk_init (T : Txt K mg A) : FnOk P w K mg base CX0 1 A.a_Desk_init A.d_Desk_init ["self"] (sp_Desk_init K A) := by
  refine T.f_Desk_init.ok sc_Desk_init (fun vs H Q E h => ?_) (fun cdv A' outer s H vs Q E hr h => ?_)
  · obtain ⟨⟨_, _⟩, rfl, _⟩ := h
    rfl
  · obtain ⟨⟨p, dx⟩, rfl, hp, q⟩ := h
    refine ⟨_, (pss_one (ps_fld (pv 0) pe_non rfl)), ?_⟩
    try dsimp only [cxOf, Cx.nox]
    refine ⟨_, rfl, p, _, dx, [], rfl, hp, T.cl_Desk, T.na_Desk_nest, (by show 0 < 1000; decide), ?_⟩
    refine q _ upd_same fun b o e hb => ?_
    rw [upd_ne hb]
    exact e
end
end My
namespace My
open PySem PySem.Spec PyProof.Rows L2
section
variable {P : Program} {w : World} {K : PySem.W.Frag} {mg : Str → Option Value} {base : Heap} {A : Ad}
/-- whether loops so many times make a nest -/
def goes (d : Int) (n : List Int) : Prop := 1 ≤ d ∧ d ≤ 3 ∧ (n.length : Int) = d ∧ 1 ≤ n.foldl (· * ·) 1 ∧ n.foldl (· * ·) 1 ≤ 64
instance (d : Int) (n : List Int) : Decidable (goes d n) := by unfold goes; infer_instance
def sp_loops_go (K : PySem.W.Frag) (A : Ad) : Sp := fun vs H Q _ => ∃ d : P3 Int Addr (List Int), d.un fun d a n => A4 (vs = [.int d, .ref a]) (SqL K H a (n.map V.int)) (∀ z ∈ n, 0 ≤ z ∧ z < 2 ^ 64) (Q (.bl (decide (goes d n))) H)
theorem ok_loops_go (T : Txt K mg A) : FnOk P w K mg base CX0 1 A.a_loops_go A.d_loops_go ["d", "n"] (sp_loops_go K A) := by
  refine T.f_loops_go.ok sc_loops_go (fun vs H Q E h => ?_) (fun cdv A' outer s H vs Q E hr h => ?_)
  · obtain ⟨⟨_, _, _⟩, rfl, _⟩ := h
    rfl
  · obtain ⟨⟨d, a, n⟩, rfl, ha, hb, k⟩ := h
    refine ⟨_, (pss_cons (ps_if (PW.pt (pw_or (pt_cmpR op_lt (pv 0) pe_int (nomark _)) (pw_or (pt_cmpR op_gt (pv 0) (pe_glob (v := .int 3) rfl T.g_MOST_LOOPS.choose_spec ⟨_, rfl⟩) (nomark _)) (pw_or1 (pt_cmpR op_ne (pe_callB (cr_len (K := K) rfl) (by rfl) T.n_len PySem.boot_len (pa_cons (pv 1) pa_nil)) (pv 0) (nomark _))))))
          (pss_one (ps_ret pe_bl))
          pss_nil)
        (pss_cons (ps_set (i := 2) sc_loops_go.nd rfl (Or.inl rfl) pe_int)
        (pss_cons (ps_for PassesOwn.never rfl (pi_list (pv 1)) (pg_name (i := 3) sc_loops_go.nd rfl (Or.inl rfl))
          (pss_one (ps_set (i := 2) sc_loops_go.nd rfl (Or.inl rfl) (pe_op op_mul (pv 2) (pv 3)))))
        (pss_one (ps_ret (pe_chain op_le op_le pe_int (pv 2) (pe_glob (v := .int 64) rfl T.g_MOST_ROUNDS.choose_spec ⟨_, rfl⟩))))))), ?_⟩
    try dsimp only [cxOf, Cx.nox]
    refine ⟨_, rfl, _, _, rfl, rfl, _, rfl, ?_⟩
    by_cases h1 : d < 1
    · refine iteP (decide_eq_true h1) (iteP rfl ?_)
      rw [decide_eq_false (by unfold goes; omega)] at k
      exact k
    refine iteQ (by rw [decide_eq_true_eq]; exact h1) ?_
    refine ⟨_, rfl, _, _, rfl, rfl, _, rfl, ?_⟩
    by_cases h2 : 3 < d
    · refine iteP (decide_eq_true h2) (iteP rfl ?_)
      rw [decide_eq_false (by unfold goes; omega)] at k
      exact k
    refine iteQ (by rw [decide_eq_true_eq]; exact h2) ?_
    refine ⟨_, rfl, a, _, rfl, .inl ha, _, rfl, rfl, _, rfl, ?_⟩
    by_cases h3 : (n.length : Int) = d
    · refine iteQ (by rw [List.length_map]; simp [h3]) ?_
      refine ⟨_, rfl, a, rfl, ⟨_, ha⟩, for_list (K := K) (a := a) (xs := n.map V.int) (fun i σ H' => H' = H ∧ ∃ v3, σ = [some (.int d), some (.ref a), some (.int ((n.take i).foldl (· * ·) 1)), v3])
        ⟨rfl, _, rfl⟩ (fun i σ H' _ ⟨e, _⟩ => by rw [e]; exact ha) ?_ ?_⟩
      · rintro i y σ H' hi ⟨rfl, v3, rfl⟩
        obtain ⟨z, hz, rfl⟩ := get_map hi
        have bz := hb z (List.mem_of_getElem? hz)
        refine ⟨_, rfl, _, rfl, _, _, rfl, rfl, .inr ⟨by omega, by omega⟩, ?_⟩
        refine ⟨rfl, some (.int z), ?_⟩
        rw [take_snoc hz, List.foldl_append]
        rfl
      · rintro σ H' ⟨rfl, v3, rfl⟩
        rw [List.length_map, List.take_length]
        refine ⟨_, rfl, _, _, rfl, rfl, _, rfl, ?_⟩
        by_cases h4 : 1 ≤ n.foldl (· * ·) 1
        · refine iteP (decide_eq_true h4) ?_
          refine ⟨_, _, rfl, rfl, ?_⟩
          have e : decide (goes d n) = decide (n.foldl (· * ·) 1 ≤ 64) := by
            rw [decide_eq_decide]; unfold goes; omega
          rw [e] at k
          exact k
        · refine iteQ (by rw [decide_eq_true_eq]; exact h4) ?_
          rw [decide_eq_false (by unfold goes; omega)] at k
          exact k
    · refine iteP (by rw [List.length_map]; simp [h3]) ?_
      rw [decide_eq_false (by unfold goes; omega)] at k
      exact k
end
end My
namespace My
open PySem PySem.Spec PyProof.Rows L2
section
variable {P : Program} {w : World} {K : PySem.W.Frag} {mg : Str → Option Value} {base : Heap} {A : Ad}
-- uses row_at
/-- the time of an instance by these rows -/
def timeL (k : Nat) (rows : List Int) (u : List Nat) : List Int := (List.range k).map fun j => NestNs.affine ((rows.drop (u.getD 3 0 * k * 4 + j * 4)).take 4) u
def sp_time_of (K : PySem.W.Frag) (A : Ad) : Sp := fun vs H Q _ => ∃ d : P5 Addr Addr Nat (List Nat) (List Int), d.un fun a r k u rows => A9 (vs = [.ref a, nV k, .ref r]) (NatsL H a u) (IntsL H r rows) (u.length = 4) (k ≤ 4) (u.getD 3 0 < 3) ((u.getD 3 0 + 1) * k * 4 ≤ rows.length) (∀ z ∈ rows, -(2 ^ 63) ≤ z ∧ z < 2 ^ 63) (∀ (H' : Hp) (q : Addr), Same H H' → H q = none → H' q = some (.lst ((timeL k rows u).map V.int)) → Q (.ref q) H')
theorem ok_time_of (T : Txt K mg A) (G_row_at : FnOk P w K mg base CX0 1 A.a_row_at A.d_row_at ["row", "counters"] (sp_row_at K A)) : FnOk P w K mg base CX0 2 A.a_time_of A.d_time_of ["instance", "k", "rows"] (sp_time_of K A) := by
  refine T.f_time_of.ok sc_time_of (fun vs H Q E h => ?_) (fun cdv A' outer s H vs Q E hr h => ?_)
  · obtain ⟨⟨_, _, _, _, _⟩, rfl, _⟩ := h
    rfl
  · obtain ⟨⟨a, r, k, u, rows⟩, rfl, ha, hr', u4, k4, u3, hl, hb, fin⟩ := h
    refine ⟨_, (pss_cons (ps_set (i := 3) sc_time_of.nd rfl (Or.inl rfl) (pe_op op_mul (pe_op op_mul (pe_ix ix_list (pv 0) pe_int (fun _ _ => rfl)) (pv 1)) (pe_glob (v := .int 4) rfl T.g_ROW_LENGTH.choose_spec ⟨_, rfl⟩)))
        (pss_cons (ps_set (i := 4) sc_time_of.nd rfl (Or.inl rfl) (pe_lst pa_nil))
        (pss_cons (ps_for PassesOwn.never rfl (pi_range1 rfl T.n_range (pa_cons (pv 1) pa_nil)) (pg_name (i := 5) sc_time_of.nd rfl (Or.inl rfl))
          (pss_cons (ps_set (i := 6) sc_time_of.nd rfl (Or.inl rfl) (pe_op op_add (pv 3) (pe_op op_mul (pv 5) (pe_glob (v := .int 4) rfl T.g_ROW_LENGTH.choose_spec ⟨_, rfl⟩))))
            (pss_one (ps_expr (pe_bm PySem.F.plainAttrs_list PySem.F.slot_list_append PySem.F.type_list_append mt_append (pv 4) (pa_cons (pe_call G_row_at (hr.mono (by decide)) rfl T.mg_row_at T.f_row_at.kp T.b_row_at .nil pass0 (pa_cons (pe_slice sl_list (pv 2) (po_some (pv 6)) (po_some (pe_op op_add (pv 6) (pe_glob (v := .int 4) rfl T.g_ROW_LENGTH.choose_spec ⟨_, rfl⟩)))) (pa_cons (pv 0) pa_nil))) pa_nil))))))
        (pss_one (ps_ret (pv 4)))))), ?_⟩
    try dsimp only [cxOf, Cx.nox]
    have ha : H a = some (.lst (u.map nV)) := ha
    have hr0 : H r = some (.lst (rows.map V.int)) := hr'
    obtain ⟨a0, a1, a2, t, rfl⟩ := len4 u4
    have t3 : t < 3 := u3
    have hl : (t + 1) * k * 4 ≤ rows.length := hl
    refine ⟨_, rfl, rd_ix (SqL.of ha) rfl ⟨_, rfl, _, _, rfl, rfl, .inl ⟨by omega, by omega⟩, _, _, rfl, rfl, .inr ⟨by omega, by omega⟩, ?_⟩⟩
    refine ⟨Nat.zero_le _, fun q hq => ?_⟩
    refine ⟨_, rfl, (k : Int), rfl, by omega, by omega, ?_⟩
    have est : (t : Int) * (k : Int) * 4 = ((t * k * 4 : Nat) : Int) := by simp
    refine for_range (lo := 0) (n := ((k : Int)).toNat) (fun i σ H' => A3 (Same H H') (∃ v5 v6, σ = [some (.ref a), some (nV k), some (.ref r), some (.int ((t : Int) * (k : Int) * 4)), some (.ref q), v5, v6]) (H' q = some (.lst (((timeL k rows [a0, a1, a2, t]).take i).map V.int))))
      ⟨same_new hq, ⟨_, _, rfl⟩, upd_same⟩ ?_ ?_
    · rintro i σ H1 hi ⟨s1, ⟨v5, v6, rfl⟩, hq1⟩
      rw [Int.toNat_natCast] at hi
      rw [Int.zero_add]
      refine ⟨_, rfl, _, rfl, _, _, rfl, rfl, .inl ⟨by omega, by omega⟩, _, _, rfl, rfl, ?_⟩
      have ep : (t : Int) * (k : Int) * 4 + (i : Int) * 4 = ((t * k * 4 + i * 4 : Nat) : Int) := by rw [est]; omega
      have hp4 : t * k * 4 + i * 4 + 4 ≤ rows.length := by
        have : (t + 1) * k * 4 = t * k * 4 + k * 4 := by rw [Nat.add_mul, Nat.add_mul, Nat.one_mul]
        omega
      have ec : cutV (rows.map V.int) (some ((t : Int) * (k : Int) * 4 + (i : Int) * 4)) (some ((t : Int) * (k : Int) * 4 + (i : Int) * 4 + 4)) = ((rows.drop (t * k * 4 + i * 4)).take 4).map V.int := by
        have e4 : (((t * k * 4 + i * 4 : Nat) : Int) + 4) = ((t * k * 4 + i * 4 + 4 : Nat) : Int) := by omega
        rw [ep, e4, cut_nat (by rw [List.length_map]; exact hp4) (by omega), List.map_take, List.map_drop]
        congr 1
        omega
      refine ⟨_, rfl, .inl ⟨rfl, _, SqL.of hq1⟩, _, rfl, _, rfl, _, rfl, _, rfl, _, _, rfl, rfl, _, rfl, r, _, rfl, SqL.of (s1 _ _ hr0), fun r1 n1 => ?_⟩
      rw [ec]
      have s2 := same_to s1 n1 (o := HO.lst (((rows.drop (t * k * 4 + i * 4)).take 4).map V.int))
      refine ⟨_, rfl, ⟨r1, a, (rows.drop (t * k * 4 + i * 4)).take 4, [a0, a1, a2, t]⟩, rfl, SqL.of upd_same, SqL.of (s2 _ _ ha), by rw [List.length_take, List.length_drop]; omega, by simp, fun z hz => hb z (List.mem_of_mem_drop (List.mem_of_mem_take hz)), ?_⟩
      have tl : (timeL k rows [a0, a1, a2, t]).length = k := by unfold timeL; simp
      refine ⟨q, _, _, rfl, rfl, same_new n1 _ _ hq1, by rw [List.length_map, List.length_take]; exact size_lt (by omega), ?_⟩
      refine ⟨fun b o e => ?_, ⟨_, _, rfl⟩, ?_⟩
      · rw [upd_ne (ne_of_none e hq)]; exact s2 _ _ e
      · have ht : (timeL k rows [a0, a1, a2, t])[i]? = some (NestNs.affine ((rows.drop (t * k * 4 + i * 4)).take 4) [a0, a1, a2, t]) := by
          unfold timeL
          rw [List.getElem?_map, List.getElem?_range hi]; rfl
        rw [upd_same, take_snoc ht, List.map_append]
        rfl
    · rintro σ H1 ⟨s1, ⟨v5, v6, rfl⟩, hq1⟩
      have tl : (timeL k rows [a0, a1, a2, t]).length = k := by unfold timeL; simp
      rw [Int.toNat_natCast, List.take_of_length_le (by omega)] at hq1
      exact ⟨_, rfl, fin _ q s1 hq hq1⟩
end
end My
namespace My
open PySem PySem.Spec PyProof.Rows L2
section
variable {P : Program} {w : World} {K : PySem.W.Frag} {mg : Str → Option Value} {base : Heap} {A : Ad}
-- uses Nest_access_count
-- uses row_at
/-- what an access touches in a round -/
def touchOf (w : Bool) (ar : Nat) (e : List Int) (c : List Nat) : Touch := (w, (ar, NestNs.affine (e.take 4) c, NestNs.affine (e.drop 4) c))
def sp_Nest_add_access (K : PySem.W.Frag) (A : Ad) : Sp := fun vs H Q _ => ∃ d : P14 Hp Addr Nat Nat Nat Nat (Nat → Nat → List Touch) NestD (Addr → Tag) Nat Nat Bool Addr (List Int), d.un fun H0 p x y z m tf N tag s ar w ea e => A8 (vs = [.ref p, nV s, nV ar, .bl w, .ref ea]) (NestT K A H0 H p x y z m tf N tag) (s < m) (IntsL H0 ea e) (e.length = 8) (∀ v ∈ e, -(2 ^ 63) ≤ v ∧ v < 2 ^ 63) (∀ i, i < x * y * z → (tf s i).length ≤ 3) (∀ (H' : Hp), NestT K A H0 H' p x y z m (fun k i => if k = s ∧ i < x * y * z then tf k i ++ [touchOf w ar e ((rounds x y z).getD i [])] else tf k i) { N with fv := .non } tag → Q .non H')
/-- one more touch at a place -/
theorem NestT.put {K : PySem.W.Frag} {A : Ad} {H0 H H' : Hp} {p : Addr} {x y z m : Nat} {tf : Nat → Nat → List Touch} {N : NestD} {tag : Addr → Tag} (M : NestT K A H0 H p x y z m tf N tag) {k i : Nat} {b0 c : Addr} {pl : List Addr} {vs : List V} {v : V} {t : Touch}
    (hb0 : N.bs[k]? = some b0) (hpl : H b0 = some (.lst (pl.map V.ref))) (hci : pl[i]? = some c) (ht : tag c = .pl k i) (hc : H c = some (.lst vs)) (hv : Paired (TouchAt K H) vs (tf k i)) (s : ∀ b o, H b = some o → b ≠ c → H' b = some o) (hc' : H' c = some (.lst (vs ++ [v]))) (hT : TouchAt K H' v t) :
    NestT K A H0 H' p x y z m (fun k' i' => if k' = k ∧ i' = i then tf k' i' ++ [t] else tf k' i') N tag := by
  have nt : ∀ {b : Addr} {g : Tag}, tag b = g → g ≠ .pl k i → b ≠ c := fun h1 h2 e => h2 (by rw [← h1, e, ht])
  have mt : ∀ {u : V} {t : Touch}, TouchAt K H u t → TouchAt K H' u t := fun h => h.mono (fun b xs e => s _ _ e (ne_of e hc (by intro q; cases q))) (fun b o u e => s _ _ e (ne_of e hc (by intro q; cases q)))
  refine ⟨fun b o e => s _ _ (M.sm _ _ e) (fun q => ?_), M.np, s _ _ M.obj (ne_of M.obj hc (by intro q; cases q)), M.old, M.small, ⟨s _ _ M.len.1 (nt M.len.2 (by intro q; cases q)), M.len.2⟩, ⟨s _ _ M.rds.1 (nt M.rds.2 (by intro q; cases q)), M.rds.2⟩, ?_, M.rndT,
    ⟨s _ _ M.tch.1 (nt M.tch.2 (by intro q; cases q)), M.tch.2⟩, M.cnt, fun k' b hb => ?_⟩
  · have := M.old c (by rw [ht]; intro z; cases z)
    rw [q, this] at e
    cases e
  · exact keep_nats M.rnd fun r hr o e => s _ _ e (nt (M.rndT r hr) (by intro q; cases q))
  · obtain ⟨t1, pl', h1, h2, h3⟩ := M.stm k' b hb
    refine ⟨t1, pl', s _ _ h1 (nt t1 (by intro q; cases q)), h2, fun i' c' hc2 => ?_⟩
    obtain ⟨t2, ws, h4, h5⟩ := h3 i' c' hc2
    refine ⟨t2, ?_⟩
    by_cases hki : k' = k ∧ i' = i
    · obtain ⟨rfl, rfl⟩ := hki
      have eb : b = b0 := Option.some.inj (hb.symm.trans hb0)
      subst eb
      have e0 := h1.symm.trans hpl
      injection e0 with e0
      injection e0 with e0
      have e1 := at_map (f := V.ref) hc2
      have e2 := at_map (f := V.ref) hci
      rw [e0, e2] at e1
      injection e1 with e1
      injection e1 with e1
      subst e1
      rw [if_pos ⟨rfl, rfl⟩]
      exact ⟨vs ++ [v], hc', (hv.mono fun _ _ h => mt h).snoc hT⟩
    · rw [if_neg hki]
      refine ⟨ws, s _ _ h4 (nt t2 (fun q => hki ?_)), h5.mono fun _ _ h => mt h⟩
      injection q with q1 q2
      exact ⟨q1, q2⟩
theorem ok_Nest_add_access (T : Txt K mg A) (G_row_at : FnOk P w K mg base CX0 1 A.a_row_at A.d_row_at ["row", "counters"] (sp_row_at K A)) : FnOk P w K mg base CX0 2 A.a_Nest_add_access A.d_Nest_add_access ["self", "s", "array", "written", "rows"] (sp_Nest_add_access K A) := by
  refine T.f_Nest_add_access.ok sc_Nest_add_access (fun vs H Q E h => ?_) (fun cdv A' outer s H vs Q E hr h => ?_)
  · obtain ⟨⟨_, _, _, _, _, _, _, _, _, _, _, _, _, _⟩, rfl, _⟩ := h
    rfl
  · obtain ⟨⟨H0, p, x, y, z, m, tf, N, tag, s', ar, wr, ea, e⟩, rfl, M, hs, he, el, eb, t3, fin⟩ := h
    refine ⟨_, (pss_cons (ps_set (i := 5) sc_Nest_add_access.nd rfl (Or.inl rfl) (pe_ix ix_list (pe_fld (pv 0) rfl) (pv 1) (fun _ _ => rfl)))
        (pss_cons (ps_for PassesOwn.never rfl (pi_range1 rfl T.n_range (pa_cons (pe_callB (cr_len (K := K) rfl) (by rfl) T.n_len PySem.boot_len (pa_cons (pe_fld (pv 0) rfl) pa_nil)) pa_nil)) (pg_name (i := 6) sc_Nest_add_access.nd rfl (Or.inl rfl))
          (pss_cons (ps_set (i := 7) sc_Nest_add_access.nd rfl (Or.inl rfl) (pe_ix ix_list (pe_fld (pv 0) rfl) (pv 6) (fun _ _ => rfl)))
            (pss_cons (ps_set (i := 8) sc_Nest_add_access.nd rfl (Or.inl rfl) (pe_tup (pa_cons (pv 2) (pa_cons (pe_call G_row_at (hr.mono (by decide)) rfl T.mg_row_at T.f_row_at.kp T.b_row_at .nil pass0 (pa_cons (pe_slice sl_list (pv 4) po_none (po_some (pe_glob (v := .int 4) rfl T.g_ROW_LENGTH.choose_spec ⟨_, rfl⟩))) (pa_cons (pv 7) pa_nil))) (pa_cons (pe_call G_row_at (hr.mono (by decide)) rfl T.mg_row_at T.f_row_at.kp T.b_row_at .nil pass0 (pa_cons (pe_slice sl_list (pv 4) (po_some (pe_glob (v := .int 4) rfl T.g_ROW_LENGTH.choose_spec ⟨_, rfl⟩)) po_none) (pa_cons (pv 7) pa_nil))) pa_nil)))))
            (pss_one (ps_expr (pe_bm PySem.F.plainAttrs_list PySem.F.slot_list_append PySem.F.type_list_append mt_append (pe_ix ix_list (pv 5) (pv 6) (fun _ _ => rfl)) (pa_cons (pe_tup (pa_cons (pv 8) (pa_cons (pv 3) pa_nil))) pa_nil)))))))
        (pss_one (ps_fld (pv 0) pe_non rfl)))), ?_⟩
    try dsimp only [cxOf, Cx.nox]
    obtain ⟨b, pl, _, _, hb, hpl, _, hpll, _⟩ := M.at_ hs M.pos
    obtain ⟨tb, _⟩ := M.stm s' b hb
    have h64 := M.small.1
    refine rd_fld rfl M.obj T.cl_Nest T.na_Nest_touches rfl ⟨_, rfl, rd_ix (SqL.of M.tch.1) (at_of (j := s') rfl (at_map hb)) ?_⟩
    have rl : N.rs.length = x * y * z := by rw [M.rnd.length, rounds_len]
    refine rd_fld rfl M.obj T.cl_Nest T.na_Nest_rounds rfl (rd_len (SqL.of M.rds.1) ⟨_, rfl, ?_, ?_, ?_⟩)
    · rw [List.length_map, rl]; omega
    · rw [List.length_map, rl]; omega
    refine for_range (lo := 0) (n := (((N.rs.map V.ref).length : Nat) : Int).toNat) (fun i σ H' => (∃ v6 v7 v8, σ = [some (.ref p), some (nV s'), some (nV ar), some (.bl wr), some (.ref ea), some (.ref b), v6, v7, v8]) ∧
        NestT K A H0 H' p x y z m (fun k j => if k = s' ∧ j < i then tf k j ++ [touchOf wr ar e ((rounds x y z).getD j [])] else tf k j) N tag)
      ⟨⟨_, _, _, rfl⟩, ?_⟩ ?_ ?_
    · simpa using M
    · rintro i σ H1 hi ⟨⟨v6, v7, v8, rfl⟩, M1⟩
      rw [Int.toNat_natCast, List.length_map, rl] at hi
      obtain ⟨r, hr⟩ : ∃ r, N.rs[i]? = some r := ⟨_, List.getElem?_eq_getElem (by rw [rl]; exact hi)⟩
      obtain ⟨cn, hcn, hrn⟩ := pget M1.rnd hr
      have cn3 : cn.length = 3 := by obtain ⟨_, _, _, _, _, _, _, q⟩ := rounds_get hcn; rw [q]; rfl
      obtain ⟨b', pl', c, vs, hb', hpl', hci, hpll', hc, hv, tc⟩ := M1.at_ hs hi
      have eb : b' = b := Option.some.inj (hb'.symm.trans hb)
      subst eb
      rw [if_neg (by omega)] at hv
      have he1 : SqL K H1 ea (e.map V.int) := SqL.of (M1.sm _ _ he)
      -- counters
      refine rd_fld rfl M1.obj T.cl_Nest T.na_Nest_rounds rfl ⟨_, rfl, rd_ix (SqL.of M1.rds.1) (at_of (j := i) (by omega) (at_map hr)) ?_⟩
      -- cell
      have c4 : cutV (e.map V.int) none (some (4 : Int)) = (e.take 4).map V.int := by
        rw [show (4 : Int) = ((4 : Nat) : Int) from rfl, cut_to (by rw [List.length_map]; omega), List.map_take]
      have d4 : cutV (e.map V.int) (some (4 : Int)) none = (e.drop 4).map V.int := by
        rw [show (4 : Int) = ((4 : Nat) : Int) from rfl, cut_from (by rw [List.length_map]; omega), List.map_drop]
      refine ⟨_, rfl, _, rfl, _, rfl, ea, _, rfl, he1, fun q1 hq1 => ?_⟩
      rw [c4]
      have s1 := same_new (o := HO.lst ((e.take 4).map V.int)) hq1
      refine ⟨_, rfl, ⟨q1, r, e.take 4, _⟩, rfl, SqL.of upd_same, SqL.of (s1 _ _ hrn), by simp [el], by omega, fun v hv => eb v (List.mem_of_mem_take hv), ?_⟩
      refine ⟨_, rfl, _, rfl, ea, _, rfl, s1.seq he1, fun q2 hq2 => ?_⟩
      rw [d4]
      have s2 := same_to s1 hq2 (o := HO.lst ((e.drop 4).map V.int))
      refine ⟨_, rfl, ⟨q2, r, e.drop 4, _⟩, rfl, SqL.of upd_same, SqL.of (s2 _ _ hrn), by simp [el], by omega, fun v hv => eb v (List.mem_of_mem_drop hv), ?_⟩
      refine ⟨(by show 3 ≤ sizeLine; decide), fun ct hct => ?_⟩
      have s3 := same_to s2 hct (o := HO.tup [nV ar, V.int (NestNs.affine (e.take 4) cn), V.int (NestNs.affine (e.drop 4) cn)])
      -- by_place[place].append((cell, written))
      refine ⟨_, rfl, _, rfl, rd_ix (SqL.of (s3 _ _ hpl')) (at_of (j := i) (by omega) (at_map hci)) ⟨.inl ⟨rfl, _, SqL.of (s3 _ _ hc)⟩, _, rfl, _, rfl, (by show 2 ≤ sizeLine; decide), fun tt htt => ?_⟩⟩
      have s4 := same_to s3 htt (o := HO.tup [.ref ct, .bl wr])
      have vl : vs.length ≤ 3 := by rw [hv.length]; exact t3 i hi
      refine ⟨c, _, _, rfl, rfl, s4 _ _ hc, size_lt (by omega), ?_⟩
      refine ⟨⟨_, _, _, rfl⟩, ?_⟩
      have ecn : (rounds x y z).getD i [] = cn := by rw [List.getD_eq_getElem?_getD, hcn]; rfl
      have g1 : upd (upd (upd (upd H1 q1 (.lst ((e.take 4).map V.int))) q2 (.lst ((e.drop 4).map V.int))) ct (.tup [nV ar, V.int (NestNs.affine (e.take 4) cn), V.int (NestNs.affine (e.drop 4) cn)])) tt (.tup [.ref ct, .bl wr]) tt = some (.tup [.ref ct, .bl wr]) := upd_same
      have g2 : upd (upd (upd (upd H1 q1 (.lst ((e.take 4).map V.int))) q2 (.lst ((e.drop 4).map V.int))) ct (.tup [nV ar, V.int (NestNs.affine (e.take 4) cn), V.int (NestNs.affine (e.drop 4) cn)])) tt (.tup [.ref ct, .bl wr]) ct = some (.tup [nV ar, V.int (NestNs.affine (e.take 4) cn), V.int (NestNs.affine (e.drop 4) cn)]) := same_new htt _ _ upd_same
      generalize upd (upd (upd (upd H1 q1 (.lst ((e.take 4).map V.int))) q2 (.lst ((e.drop 4).map V.int))) ct (.tup [nV ar, V.int (NestNs.affine (e.take 4) cn), V.int (NestNs.affine (e.drop 4) cn)])) tt (.tup [.ref ct, .bl wr]) = H4 at s4 g1 g2
      have M4 := M1.grow s4
      have hc4 := s4 _ _ hc
      have M5 := M4.put (v := .ref tt) (t := touchOf wr ar e ((rounds x y z).getD i [])) hb' (s4 _ _ hpl') hci tc hc4 (by
        show Paired _ vs (if s' = s' ∧ i < i then _ else _)
        rw [if_neg (by omega)]
        exact hv.mono fun _ _ q => q.mono (fun b xs e => s4 _ _ e) (fun b o u e => s4 _ _ e)) (fun b o e h => by rw [upd_ne h]; exact e) upd_same (by
        rw [ecn]
        refine ⟨tt, ct, rfl, SqT.of ?_, SqT.of ?_⟩
        · rw [upd_ne (ne_of g1 hc4 (by intro q; cases q))]; exact g1
        · rw [upd_ne (ne_of g2 hc4 (by intro q; cases q))]; exact g2)
      have ef : (fun k j => if k = s' ∧ j < i + 1 then tf k j ++ [touchOf wr ar e ((rounds x y z).getD j [])] else tf k j) =
          fun k' i' => if k' = s' ∧ i' = i then (if k' = s' ∧ i' < i then tf k' i' ++ [touchOf wr ar e ((rounds x y z).getD i' [])] else tf k' i') ++ [touchOf wr ar e ((rounds x y z).getD i [])] else if k' = s' ∧ i' < i then tf k' i' ++ [touchOf wr ar e ((rounds x y z).getD i' [])] else tf k' i' := by
        funext k j
        by_cases hk : k = s'
        · by_cases hj : j = i
          · rw [if_pos ⟨hk, by omega⟩, if_pos ⟨hk, hj⟩, if_neg (by omega), hj]
          · by_cases hj2 : j < i
            · rw [if_pos ⟨hk, by omega⟩, if_neg (by omega), if_pos ⟨hk, hj2⟩]
            · rw [if_neg (by omega), if_neg (by omega), if_neg (by omega)]
        · rw [if_neg (fun q => hk q.1), if_neg (fun q => hk q.1), if_neg (fun q => hk q.1)]
      rw [ef]
      exact M5
    · rintro σ H1 ⟨⟨v6, v7, v8, rfl⟩, M1⟩
      rw [Int.toNat_natCast, List.length_map, rl] at M1
      refine ⟨_, rfl, p, _, _, _, rfl, M1.obj, T.cl_Nest, T.na_Nest_found, (by show 5 < 1000; decide), ?_⟩
      exact fin _ (M1.found .non)
end
end My
namespace My
open PySem PySem.Spec PyProof.Rows L2
section
variable {P : Program} {w : World} {K : PySem.W.Frag} {mg : Str → Option Value} {base : Heap} {A : Ad}
-- uses Nest_access_count
def isInst (x y z m : Nat) (u : List Nat) : Prop := u.length = 4 ∧ u.getD 0 0 < x ∧ u.getD 1 0 < y ∧ u.getD 2 0 < z ∧ u.getD 3 0 < m
instance (x y z m : Nat) (u : List Nat) : Decidable (isInst x y z m u) := by unfold isInst; infer_instance
def sp_Nest_is_instance (K : PySem.W.Frag) (A : Ad) : Sp := fun vs H Q _ => ∃ d : P11 Hp Addr Nat Nat Nat Nat (Nat → Nat → List Touch) NestD (Addr → Tag) Addr (List Nat), d.un fun H0 p x y z m tf N tag u l => A4 (vs = [.ref p, .ref u]) (NestT K A H0 H p x y z m tf N tag) (NatsL H u l) (Q (.bl (decide (isInst x y z m l))) H)
theorem ok_Nest_is_instance (T : Txt K mg A) (G_Nest_has_statement : FnOk P w K mg base CX0 1 A.a_Nest_has_statement A.d_Nest_has_statement ["self", "s"] (sp_Nest_has_statement K A)) : FnOk P w K mg base CX0 2 A.a_Nest_is_instance A.d_Nest_is_instance ["self", "told"] (sp_Nest_is_instance K A) := by
  refine T.f_Nest_is_instance.ok sc_Nest_is_instance (fun vs H Q E h => ?_) (fun cdv A' outer s H vs Q E hr h => ?_)
  · obtain ⟨⟨_, _, _, _, _, _, _, _, _, _, _⟩, rfl, _⟩ := h
    rfl
  · obtain ⟨⟨H0, p, x, y, z, m, tf, N, tag, u, l⟩, rfl, M, hu, k⟩ := h
    refine ⟨_, (pss_cons (ps_if (pt_cmpR op_ne (pe_callB (cr_len (K := K) rfl) (by rfl) T.n_len PySem.boot_len (pa_cons (pv 1) pa_nil)) (pe_op op_add (pe_glob (v := .int 3) rfl T.g_MOST_LOOPS.choose_spec ⟨_, rfl⟩) pe_int) (nomark _))
          (pss_one (ps_ret pe_bl))
          pss_nil)
        (pss_cons (ps_for PassesOwn.never rfl (pi_range1 rfl T.n_range (pa_cons (pe_glob (v := .int 3) rfl T.g_MOST_LOOPS.choose_spec ⟨_, rfl⟩) pa_nil)) (pg_name (i := 2) sc_Nest_is_instance.nd rfl (Or.inl rfl))
          (pss_one (ps_if (pt_cmpR op_ge (pe_ix ix_list (pv 1) (pv 2) (fun _ _ => rfl)) (pe_ix ix_list (pe_fld (pv 0) rfl) (pv 2) (fun _ _ => rfl)) (nomark _))
              (pss_one (ps_ret pe_bl))
              pss_nil)))
        (pss_one (ps_ret (pe_meth (pv 0) T.cl_Nest T.m_Nest_has_statement G_Nest_has_statement (hr.mono (by decide)) T.b_Nest_has_statement .nil pass0 (pa_cons (pe_ix ix_list (pv 1) (pe_glob (v := .int 3) rfl T.g_MOST_LOOPS.choose_spec ⟨_, rfl⟩) (fun _ _ => rfl)) pa_nil)))))), ?_⟩
    try dsimp only [cxOf, Cx.nox]
    refine ⟨_, rfl, rd_len (SqL.of hu) ⟨_, _, rfl, rfl, rfl, _, rfl, ?_⟩⟩
    by_cases hl : l.length = 4
    · refine iteQ (by rw [List.length_map, hl]; decide) ?_
      refine ⟨3, rfl, by decide, by decide, ?_⟩
      have hlt : ∀ i, i < 3 → l[i]? = some (l.getD i 0) := fun i hi => by
        rw [List.getD_eq_getElem?_getD, List.getElem?_eq_getElem (show i < l.length by omega)]; rfl
      have hln : ∀ i, i < 3 → [x, y, z][i]? = some ([x, y, z].getD i 0) := fun i hi => by
        rw [List.getD_eq_getElem?_getD, List.getElem?_eq_getElem (show i < [x, y, z].length from hi)]; rfl
      refine for_range (lo := 0) (n := (3 : Int).toNat) (fun i σ H' => A3 (H' = H) (∃ v2, σ = [some (.ref p), some (.ref u), v2]) (∀ j, j < i → l.getD j 0 < [x, y, z].getD j 0)) ⟨rfl, ⟨_, rfl⟩, fun j hj => absurd hj (Nat.not_lt_zero j)⟩ ?_ ?_
      · rintro i σ H' hi ⟨rfl, ⟨v2, rfl⟩, hj⟩
        have hi : i < 3 := hi
        refine ⟨_, rfl, _, rfl, rd_ix (SqL.of hu) (at_of (j := i) (by omega) (at_map (hlt i hi))) (rd_fld rfl M.obj T.cl_Nest T.na_Nest_lengths rfl ⟨_, rfl, rd_ix (SqL.of M.len.1) (at_of (j := i) (by omega) (at_map (hln i hi))) ⟨_, _, rfl, rfl, _, rfl, ?_⟩⟩)⟩
        by_cases hc : [x, y, z].getD i 0 ≤ l.getD i 0
        · refine iteP (decide_eq_true (by omega)) ?_
          have : ¬ isInst x y z m l := fun q => by
            obtain ⟨_, q0, q1, q2, _⟩ := q
            match i, hi, hc with
            | 0, _, hc => exact absurd q0 (Nat.not_lt.mpr hc)
            | 1, _, hc => exact absurd q1 (Nat.not_lt.mpr hc)
            | 2, _, hc => exact absurd q2 (Nat.not_lt.mpr hc)
          rw [decide_eq_false this] at k
          exact k
        · refine iteQ (by rw [decide_eq_true_eq]; omega) ?_
          refine ⟨rfl, ⟨_, rfl⟩, fun j hj2 => ?_⟩
          by_cases e : j = i
          · subst e; omega
          · exact hj j (by omega)
      · rintro σ H' ⟨rfl, ⟨v2, rfl⟩, hj⟩
        have h3 : l[3]? = some (l.getD 3 0) := by
          rw [List.getD_eq_getElem?_getD, List.getElem?_eq_getElem (show 3 < l.length by omega)]; rfl
        refine rd_meth rfl M.obj rfl ⟨_, rfl, rd_ix (SqL.of hu) (at_of (j := 3) rfl (at_map h3)) ⟨⟨H0, p, x, y, z, m, tf, N, tag, _⟩, rfl, M, ?_⟩⟩
        have j0 := hj 0 (by decide)
        have j1 := hj 1 (by decide)
        have j2 := hj 2 (by decide)
        have e : decide (isInst x y z m l) = decide (l.getD 3 0 < m) := by
          rw [decide_eq_decide]
          exact ⟨fun q => q.2.2.2.2, fun q => ⟨hl, j0, j1, j2, q⟩⟩
        rw [e] at k
        exact k
    · refine iteP (by rw [List.length_map]; simp; omega) ?_
      rw [decide_eq_false (fun q => hl q.1)] at k
      exact k
end
end My
namespace My
open PySem PySem.Spec PyProof.Rows L2
section
variable {P : Program} {w : World} {K : PySem.W.Frag} {mg : Str → Option Value} {base : Heap} {A : Ad}
-- uses Nest_round_place
def sp_Nest_touched_by (K : PySem.W.Frag) (A : Ad) : Sp := fun vs H Q _ => ∃ d : P14 Hp Addr Nat Nat Nat Nat (Nat → Nat → List Touch) NestD (Addr → Tag) Addr Nat Nat Nat Nat, d.un fun H0 p x y z m tf N tag u a b c k => A8 (vs = [.ref p, .ref u]) (NestT K A H0 H p x y z m tf N tag) (NatsL H u [a, b, c, k]) (a < x) (b < y) (c < z) (k < m) (∀ r, (∃ (d : Addr) (pl : List Addr), N.bs[k]? = some d ∧ H d = some (.lst (pl.map V.ref)) ∧ pl[(a * y + b) * z + c]? = some r) → TouchesAt K H r (tf k ((a * y + b) * z + c)) → Q (.ref r) H)
theorem ok_Nest_touched_by (T : Txt K mg A) (G_Nest_round_place : FnOk P w K mg base CX0 1 A.a_Nest_round_place A.d_Nest_round_place ["self", "instance"] (sp_Nest_round_place K A)) : FnOk P w K mg base CX0 2 A.a_Nest_touched_by A.d_Nest_touched_by ["self", "instance"] (sp_Nest_touched_by K A) := by
  refine T.f_Nest_touched_by.ok sc_Nest_touched_by (fun vs H Q E h => ?_) (fun cdv A' outer s H vs Q E hr h => ?_)
  · obtain ⟨⟨_, _, _, _, _, _, _, _, _, _, _, _, _, _⟩, rfl, _⟩ := h
    rfl
  · obtain ⟨⟨H0, p, x, y, z, m, tf, N, tag, u, a, b, c, k⟩, rfl, M, hu, ha, hb, hc, hk, q⟩ := h
    obtain ⟨d, pl, r, vs, g1, g2, g3, _, g4, g5, _⟩ := M.at_ hk (place_lt ha hb hc)
    have hu' : SqL K H u ([a, b, c, k].map nV) := SqL.of hu
    refine ⟨_, (pss_one (ps_ret (pe_ix ix_list (pe_ix ix_list (pe_fld (pv 0) rfl) (pe_ix ix_list (pv 1) (pe_glob (v := .int 3) rfl T.g_MOST_LOOPS.choose_spec ⟨_, rfl⟩) (fun _ _ => rfl)) (fun _ _ => rfl)) (pe_meth (pv 0) T.cl_Nest T.m_Nest_round_place G_Nest_round_place (hr.mono (by decide)) T.b_Nest_round_place .nil pass0 (pa_cons (pv 1) pa_nil)) (fun _ _ => rfl)))), ?_⟩
    try dsimp only [cxOf, Cx.nox]
    refine rd_fld rfl M.obj T.cl_Nest T.na_Nest_touches rfl ⟨_, rfl, rd_ix hu' rfl (rd_ix (SqL.of M.tch.1) (at_of (j := k) rfl (at_map g1)) (rd_meth rfl M.obj rfl ⟨_, rfl, ⟨H0, p, x, y, z, m, tf, N, tag, u, a, b, c, k⟩, rfl, M, hu, ha, hb, hc, rd_ix (SqL.of g2) (at_of (j := (a * y + b) * z + c) rfl (at_map g3)) ?_⟩))⟩
    exact q r ⟨d, pl, g1, g2, g3⟩ ⟨vs, SqL.of g4, g5⟩
end
end My
namespace My
open PySem PySem.Spec PyProof.Rows L2
section
variable {P : Program} {w : World} {K : PySem.W.Frag} {mg : Str → Option Value} {base : Heap} {A : Ad}
-- uses Meetings_first_dependence
-- uses answer_stmt
-- uses tell
def sp_tell_pair (K : PySem.W.Frag) (A : Ad) : Sp := fun vs H Q _ => ∃ d : P3 Addr NestNs.Nest (NestNs.Inst → NestNs.Inst → Bool), d.un fun q st f => A3 (vs = [.ref q]) (H q = some (.lst (pairV (NestNs.firstPair st f)))) (∀ (H' : Hp) (r : Addr), Same H H' → H r = none → H' r = some (.lst (ansV (NestNs.shown (NestNs.firstPair st f)))) → Q (.ref r) H')
theorem tells_pair {s : NestNs.Nest} (f : NestNs.Inst → NestNs.Inst → Bool) : tells (if 0 < (pairV (NestNs.firstPair s f)).length then 1 else 0) (pairV (NestNs.firstPair s f)) = ansV (NestNs.shown (NestNs.firstPair s f)) ∧ (pairV (NestNs.firstPair s f)).length ≤ 8 := by
  cases e : NestNs.firstPair s f with
  | none => exact ⟨rfl, Nat.zero_le _⟩
  | some x =>
    obtain ⟨u, v⟩ := x
    obtain ⟨h1, h2⟩ := pairIn_mem e
    have l1 := inst_len h1
    have l2 := inst_len h2
    have hl : (pairV (some (u, v))).length = 8 := by simp [pairV, l1, l2]
    refine ⟨?_, by omega⟩
    rw [if_pos (by omega)]
    unfold tells
    rw [hl]
    simp [pairV, ansV, NestNs.shown, NestNs.tells, NestNeutral.numbersOf, NestNs.ints, l1, l2]
    rfl
theorem tIf_val {t : TT} {ta tb : TE} {σ : L2.St} {H : Hp} {Q : VK} (c : Bool) (v w : V) (ht : ∀ R : Bool → Hp → Prop, R c H → t σ H R) (ha : ∀ R : VK, R v H → ta σ H R) (hb : ∀ R : VK, R w H → tb σ H R) (h : Q (if c = true then v else w) H) : tIf t ta tb σ H Q := by
  refine ht _ ?_
  by_cases hc : c = true
  · rw [if_pos hc] at h; exact iteP hc (ha _ h)
  · rw [if_neg hc] at h; exact iteQ hc (hb _ h)
theorem ok_tell_pair (T : Txt K mg A) (G_tell : FnOk P w K mg base CX0 1 A.a_tell A.d_tell ["number", "behind"] (sp_tell K A)) : FnOk P w K mg base CX0 2 A.a_tell_pair A.d_tell_pair ["pair"] (sp_tell_pair K A) := by
  refine T.f_tell_pair.ok sc_tell_pair (fun vs H Q E h => ?_) (fun cdv A' outer s H vs Q E hr h => ?_)
  · obtain ⟨⟨_, _, _⟩, rfl, _⟩ := h
    rfl
  · obtain ⟨⟨q, st, f⟩, rfl, h1, fin⟩ := h
    refine ⟨_, (pss_one (ps_ret (pe_call G_tell (hr.mono (by decide)) rfl T.mg_tell T.f_tell.kp T.b_tell .nil pass0 (pa_cons (pe_ifExp (pt_cmpR op_gt (pe_callB (cr_len (K := K) rfl) (by rfl) T.n_len PySem.boot_len (pa_cons (pv 0) pa_nil)) pe_int (nomark _)) pe_int pe_int) (pa_cons (pv 0) pa_nil))))), ?_⟩
    try dsimp only [cxOf, Cx.nox]
    obtain ⟨et, e8⟩ := tells_pair (s := st) f
    rw [← et] at fin
    generalize pairV (NestNs.firstPair st f) = pv at h1 fin e8
    dsimp only [gName, tRet, tCall, tCons]
    apply tIf_val (decide ((0 : Int) < (pv.length : Int))) (.int 1) (.int 0)
    · exact fun R h => ⟨_, rfl, q, _, rfl, .inl (SqL.of h1), _, _, rfl, rfl, _, rfl, h⟩
    · exact fun R h => h
    · exact fun R h => h
    have e1 : (if decide ((0 : Int) < (pv.length : Int)) = true then V.int 1 else V.int 0) = V.int (if 0 < pv.length then 1 else 0) := by
      by_cases h : 0 < pv.length
      · rw [if_pos (decide_eq_true (by omega)), if_pos h]
      · rw [if_neg (by rw [decide_eq_true_eq]; omega), if_neg h]
    rw [e1]
    exact ⟨_, rfl, ⟨_, q, pv⟩, rfl, h1, by omega, fun H2 r s2 n2 h2 => fin _ r s2 n2 h2⟩
end
end My
namespace My
open PySem PySem.Spec PyProof.Rows L2
section
variable {P : Program} {w : World} {K : PySem.W.Frag} {mg : Str → Option Value} {base : Heap} {A : Ad}
-- uses Meetings_first_dependence
-- uses time_of
def barP (k : Nat) (rows : List Int) (u v : NestNs.Inst) : Bool := !NestNs.sooner (NestNs.timeOf k rows u) (NestNs.timeOf k rows v)
def sp_Meetings_first_barred (K : PySem.W.Frag) (A : Ad) : Sp := fun vs H Q _ => ∃ d : P5 Addr Addr NestNs.Nest Nat (List Int), d.un fun p r st k rows => A9 (vs = [.ref p, nV k, .ref r]) (MeetAt A H p st) (IntsL H r rows) (k ≤ 4) (st.stmts.length ≤ 3) (rows.length = st.stmts.length * k * 4) ((NestNs.instances st).length ≤ 192) (∀ z ∈ rows, -(2 ^ 63) ≤ z ∧ z < 2 ^ 63) (∀ (H' : Hp) (q : Addr), Same H H' → H q = none → H' q = some (.lst (pairV (NestNs.barred st k rows))) → Q (.ref q) H')
theorem sooner_lex : ∀ {l r : List Int}, l.length = r.length → NestNs.sooner l r = HT.lexLt l r
  | [], [], _ => rfl
  | [], _ :: _, h => by cases h
  | _ :: _, [], h => by cases h
  | a :: l, b :: r, h => by
    rw [HT.lexLt_cons]
    show (decide (a < b) || (a == b && NestNs.sooner l r)) = _
    by_cases e : a = b
    · subst e
      rw [if_pos rfl, sooner_lex (by simpa using h)]
      simp
    · rw [if_neg e]
      simp [e]
theorem time_eq (k : Nat) (rows : List Int) {u : NestNs.Inst} (h : u.1.length = 3) : timeL k rows (NestNs.numbers u) = NestNs.timeOf k rows u := by
  unfold timeL NestNs.timeOf NestNs.numbers
  refine List.map_congr_left fun j _ => ?_
  rw [affine_more _ _ h]
  have e : (u.1 ++ [u.2]).getD 3 0 = u.2 := by
    obtain ⟨a, b, c, e⟩ := len3 h
    rw [e]; rfl
  rw [e]
  congr 3
  omega
theorem time_len (k : Nat) (rows : List Int) (u : NestNs.Inst) : (NestNs.timeOf k rows u).length = k := by
  unfold NestNs.timeOf; simp
theorem ok_Meetings_first_barred (T : Txt K mg A) (G_time_of : FnOk P w K mg base CX0 2 A.a_time_of A.d_time_of ["instance", "k", "rows"] (sp_time_of K A)) : FnOk P w K mg base CX0 3 A.a_Meetings_first_barred A.d_Meetings_first_barred ["self", "k", "rows"] (sp_Meetings_first_barred K A) := by
  refine T.f_Meetings_first_barred.ok sc_Meetings_first_barred (fun vs H Q E h => ?_) (fun cdv A' outer s H vs Q E hr h => ?_)
  · obtain ⟨⟨_, _, _, _, _⟩, rfl, _⟩ := h
    rfl
  · obtain ⟨⟨p, r, st, k, rows⟩, rfl, ⟨D, M⟩, hr', k4, m3, hl, h192, hb, fin⟩ := h
    have hr0 : H r = some (.lst (rows.map V.int)) := hr'
    have fin : ∀ (H' : Hp) (q : Addr), Same H H' → H q = none → H' q = some (.lst (pairV (NestNs.firstPair st (barP k rows)))) → Q (.ref q) H' := fin
    have il : D.is.length = (NestNs.instances st).length := by rw [M.inst.length, List.length_map]
    refine ⟨_, (pss_cons (ps_setLc (i := 3) (own := [("instance", 4)]) rfl sc_Meetings_first_barred.nd rfl rfl (sw_true rfl rfl rfl rfl) (pi_list (pe_fld (pv 0) rfl)) (blkOk_by (N := ["self", "k", "rows", "times", "instance", "earlier", "later"]) (sc := defScope s_Meetings_first_barred) (by decide +kernel)) (fun _ _ _ _ _ => (pg_name (i := 4) sc_Meetings_first_barred.nd rfl (Or.inl rfl))) (fun _ _ _ _ _ => pts_nil) (fun _ _ _ _ _ => (pe_call G_time_of (hr.mono (by decide)) rfl T.mg_time_of T.f_time_of.kp T.b_time_of .nil pass0 (pa_cons (pv 4) (pa_cons (pv 1) (pa_cons (pv 2) pa_nil))))))
        (pss_cons (ps_for PassesOwn.never rfl (pi_list (pe_fld (pv 0) rfl)) (pg_tup rfl (pgs_cons (pg_name (i := 5) sc_Meetings_first_barred.nd rfl (Or.inl rfl)) (pgs_cons (pg_name (i := 6) sc_Meetings_first_barred.nd rfl (Or.inl rfl)) pgs_nil)))
          (pss_one (ps_if (pt_cmpR (op_geL (Nat.lt_of_le_of_lt (Nat.le_add_right _ 64) hr.units)) (pe_ix ix_list (pv 3) (pv 5) (fun _ _ => rfl)) (pe_ix ix_list (pv 3) (pv 6) (fun _ _ => rfl)) (nomark _))
              (pss_one (ps_ret (pe_op op_cat (pe_ix ix_list (pe_fld (pv 0) rfl) (pv 5) (fun _ _ => rfl)) (pe_ix ix_list (pe_fld (pv 0) rfl) (pv 6) (fun _ _ => rfl)))))
              pss_nil)))
        (pss_one (ps_ret (pe_lst pa_nil))))), ?_⟩
    try dsimp only [cxOf, Cx.nox]
    refine rd_fld rfl M.obj T.cl_Meetings T.na_Meetings_instances rfl ⟨D.ia, rfl, ⟨_, SqL.of M.ins⟩, fun Dt hDt => ?_⟩
    refine lc_list (K := K) (a := D.ia) (xs := D.is.map V.ref) (fun i H' => ∃ rs, Acc IntsL H H' Dt (((NestNs.instances st).take i).map (NestNs.timeOf k rows)) rs)
      ⟨_, .start hDt⟩ (fun i H' _ ⟨_, B⟩ => SqL.of (B.same _ _ M.ins)) ?_ ?_
    · rintro i v H1 hi ⟨rs, B1⟩
      obtain ⟨c, hc, rfl⟩ := get_map hi
      have hlt : i < (NestNs.instances st).length := by rw [← il]; exact (List.getElem?_eq_some_iff.mp hc).1
      obtain ⟨u, hu, hcu⟩ := pget M.inst hc
      obtain ⟨u', hu', rfl⟩ := get_map hu
      have eu : instAt st i = u' := instAt_of hu'
      obtain ⟨u3, uk⟩ := inst_three hlt
      rw [eu] at u3 uk
      have e3 : (NestNs.numbers u').getD 3 0 = u'.2 := by
        unfold NestNs.numbers
        obtain ⟨a, b, c, e⟩ := len3 u3
        rw [e]; rfl
      refine ⟨rfl, yes_if ?_⟩
      have rl : rs.length < 200 := by rw [B1.len, List.length_map, List.length_take]; omega
      refine ⟨_, rfl, _, rfl, _, rfl, ⟨c, r, k, NestNs.numbers u', rows⟩, rfl, B1.same _ _ hcu, B1.same _ _ hr0, by unfold NestNs.numbers; simp [u3], k4, by rw [e3]; omega, ?_, hb, fun H2 q s2 n2 h2 => ?_⟩
      · rw [e3, hl]
        exact Nat.mul_le_mul_right _ (Nat.mul_le_mul_right _ (by omega))
      rw [time_eq k rows u3] at h2
      have B2 := B1.grow mono_ints s2
      refine ⟨rs.map V.ref, B2.lst, by rw [List.length_map]; exact size_lt (by omega), rs ++ [q], ?_⟩
      have nq : q ≠ Dt := (ne_of_none B1.lst n2).symm
      have hF : IntsL (newer H H2 Dt) q (NestNs.timeOf k rows u') := newer_at h2 (B1.same.free n2) nq
      have B3 := B2.push (B1.same.free n2) hF
      rw [take_snoc hu', List.map_append]
      exact B3
    · rintro H1 ⟨rs, B1⟩
      rw [List.length_map, il, List.take_length] at B1
      have M1 := M.grow B1.same
      have Bo := B1.out mono_ints
      refine ⟨_, rfl, p, _, _, _, _, rfl, M1.obj, T.cl_Meetings, T.na_Meetings_pairs, rfl, D.pa, rfl, ⟨_, SqL.of M1.prs⟩, for_list (K := K) (a := D.pa) (xs := D.ps.map V.ref)
        (fun n σ H' => A3 (H' = H1) (∃ v4 v5 v6, σ = [some (.ref p), some (nV k), some (.ref r), some (.ref Dt), v4, v5, v6]) (∀ (k' : Nat) (y : Nat × Nat), k' < n → (pairsOf st)[k']? = some y → barP k rows (instAt st y.1) (instAt st y.2) = false))
        ⟨rfl, ⟨_, _, _, rfl⟩, fun k' y h => absurd h (Nat.not_lt_zero _)⟩ (fun n σ H' _ ⟨e, _, _⟩ => by rw [e]; exact SqL.of M1.prs) ?_ ?_⟩
      · rintro n v σ H' hn ⟨rfl, ⟨v4, v5, v6, rfl⟩, hno⟩
        obtain ⟨c, hc, rfl⟩ := get_map hn
        obtain ⟨x, hx, hxt⟩ := pget M1.pair hc
        have hxt : H' c = some (.tup [nV x.1, nV x.2]) := hxt
        obtain ⟨l1, l2⟩ := pair_at hx
        obtain ⟨c1, a0, a1, a2, k1, f1, f2, f3⟩ := M1.at_ l1
        obtain ⟨c2, b0, b1, b2, k2, g1, g2, g3⟩ := M1.at_ l2
        obtain ⟨d1, e1, i1⟩ := pgetR Bo (at_map (f := NestNs.timeOf k rows) (instAt_get l1))
        obtain ⟨d2, e2, i2⟩ := pgetR Bo (at_map (f := NestNs.timeOf k rows) (instAt_get l2))
        refine ⟨c, _, rfl, SqT.of hxt, rfl, _, _, rfl, _, _, rfl, rfl, ?_⟩
        refine ⟨_, rfl, _, rfl, rd_ix (SqL.of B1.lst) (at_of (j := x.1) rfl (at_map e1)) ⟨_, rfl, _, rfl, rd_ix (SqL.of B1.lst) (at_of (j := x.2) rfl (at_map e2)) ⟨d1, d2, _, _, rfl, rfl, SqL.of i1, SqL.of i2, _, rfl, ?_⟩⟩⟩
        have eb : (!HT.lexLt (NestNs.timeOf k rows (instAt st x.1)) (NestNs.timeOf k rows (instAt st x.2))) = barP k rows (instAt st x.1) (instAt st x.2) := by
          unfold barP
          rw [sooner_lex (by rw [time_len, time_len])]
        rw [eb]
        by_cases hq : barP k rows (instAt st x.1) (instAt st x.2) = true
        · refine iteP hq ?_
          refine rd_fld rfl M1.obj T.cl_Meetings T.na_Meetings_instances rfl ⟨_, rfl, rd_ix (SqL.of M1.ins) (at_of (j := x.1) rfl (at_map f1)) (rd_fld rfl M1.obj T.cl_Meetings T.na_Meetings_instances rfl ⟨_, rfl, rd_ix (SqL.of M1.ins) (at_of (j := x.2) rfl (at_map g1)) ⟨c1, c2, _, _, rfl, rfl, f3, g3, (by show 8 ≤ sizeLine; decide), fun q hq2 => ?_⟩⟩)⟩
          refine fin _ q (same_to B1.same hq2) (B1.same.free hq2) ?_
          rw [fpp_some hx hq hno, f2, g2, pairV_some]
          exact upd_same
        · refine iteQ hq ?_
          refine ⟨rfl, ⟨_, _, _, rfl⟩, fun k' y h1 h2 => ?_⟩
          by_cases e : k' = n
          · subst e
            have : y = x := Option.some.inj (h2.symm.trans hx)
            subst this
            exact Bool.eq_false_iff.mpr hq
          · exact hno k' y (by omega) h2
      · rintro σ H' ⟨rfl, ⟨v4, v5, v6, rfl⟩, hno⟩
        rw [List.length_map, M1.pair.length] at hno
        refine ⟨Nat.zero_le _, fun q hq => ?_⟩
        refine fin _ q (same_to B1.same hq) (B1.same.free hq) ?_
        rw [fpp_none fun k' y h => hno k' y (List.getElem?_eq_some_iff.mp h).1 h]
        exact upd_same
end
end My
namespace My
open PySem PySem.Spec PyProof.Rows L2
section
variable {P : Program} {w : World} {K : PySem.W.Frag} {mg : Str → Option Value} {base : Heap} {A : Ad}
-- uses Nest_touched_by
def sp_Nest_meet (K : PySem.W.Frag) (A : Ad) : Sp := fun vs H Q _ => ∃ d : P19 Hp Addr Nat Nat Nat Nat (Nat → Nat → List Touch) NestD (Addr → Tag) Addr Addr Nat Nat Nat Nat Nat Nat Nat Nat, d.un fun H0 p x y z m tf N tag u v a b c k a' b' c' k' => A7 (vs = [.ref p, .ref u, .ref v]) (NestT K A H0 H p x y z m tf N tag) (NatsL H u [a, b, c, k]) (NatsL H v [a', b', c', k']) (a < x ∧ b < y ∧ c < z ∧ k < m) (a' < x ∧ b' < y ∧ c' < z ∧ k' < m) (Q (.bl (meets (tf k ((a * y + b) * z + c)) (tf k' ((a' * y + b') * z + c')))) H)
theorem ok_Nest_meet (T : Txt K mg A) (G_Nest_touched_by : FnOk P w K mg base CX0 2 A.a_Nest_touched_by A.d_Nest_touched_by ["self", "instance"] (sp_Nest_touched_by K A)) (G_touches_meet : FnOk P w K mg base CX0 1 A.a_touches_meet A.d_touches_meet ["some", "others"] (sp_touches_meet K A)) : FnOk P w K mg base CX0 3 A.a_Nest_meet A.d_Nest_meet ["self", "u", "v"] (sp_Nest_meet K A) := by
  refine T.f_Nest_meet.ok sc_Nest_meet (fun vs H Q E h => ?_) (fun cdv A' outer s H vs Q E hr h => ?_)
  · obtain ⟨⟨_, _, _, _, _, _, _, _, _, _, _, _, _, _, _, _, _, _, _⟩, rfl, _⟩ := h
    rfl
  · obtain ⟨⟨H0, p, x, y, z, m, tf, N, tag, u, v, a, b, c, k, a', b', c', k'⟩, rfl, M, hu, hv, ⟨h1, h2, h3, h4⟩, ⟨g1, g2, g3, g4⟩, q⟩ := h
    refine ⟨_, (pss_one (ps_ret (pe_call G_touches_meet (hr.mono (by decide)) rfl T.mg_touches_meet T.f_touches_meet.kp T.b_touches_meet .nil pass0 (pa_cons (pe_meth (pv 0) T.cl_Nest T.m_Nest_touched_by G_Nest_touched_by (hr.mono (by decide)) T.b_Nest_touched_by .nil pass0 (pa_cons (pv 1) pa_nil)) (pa_cons (pe_meth (pv 0) T.cl_Nest T.m_Nest_touched_by G_Nest_touched_by (hr.mono (by decide)) T.b_Nest_touched_by .nil pass0 (pa_cons (pv 2) pa_nil)) pa_nil))))), ?_⟩
    try dsimp only [cxOf, Cx.nox]
    refine rd_meth rfl M.obj rfl ⟨_, rfl, ⟨H0, p, x, y, z, m, tf, N, tag, u, a, b, c, k⟩, rfl, M, hu, h1, h2, h3, h4, fun r _ hr => ?_⟩
    refine rd_meth rfl M.obj rfl ⟨_, rfl, ⟨H0, p, x, y, z, m, tf, N, tag, v, a', b', c', k'⟩, rfl, M, hv, g1, g2, g3, g4, fun r' _ hr' => ?_⟩
    exact ⟨⟨r, r', _, _⟩, rfl, hr, hr', q⟩
end
end My
namespace My
open PySem PySem.Spec PyProof.Rows L2
section
variable {P : Program} {w : World} {K : PySem.W.Frag} {mg : Str → Option Value} {base : Heap} {A : Ad}
/-- a call as an object: its number, its whole numbers, its rows -/
def CallAt (A : Ad) (H : Hp) (r : Addr) (c : List (List Int)) : Prop := ∃ (dx n l : Addr) (k : Int) (ns : List Int) (xs : List (List Int)) (rs : List Addr), c = (k :: ns) :: xs ∧ H r = some (.ins A.c_Call dx (callF k n l)) ∧
  IntsL H n ns ∧ H l = some (.lst (rs.map V.ref)) ∧ Paired (IntsL H) rs xs
theorem mono_call (A : Ad) : Mono (CallAt A) := fun H H1 r c s ⟨dx, n, l, k, ns, xs, rs, e, h1, h2, h3, h4⟩ => ⟨dx, n, l, k, ns, xs, rs, e, s _ _ h1, s _ _ h2, s _ _ h3, h4.mono fun _ _ h => s _ _ h⟩
def sp_read_calls (K : PySem.W.Frag) (A : Ad) : Sp := fun vs H Q _ => ∃ d : P3 Addr (List Int) (List (List (List Int))), d.un fun a l cs => A5 (vs = [.ref a]) (SqL K H a (l.map V.int)) (cs.length ≤ 400) (PyFlat.calls PyWqaeao.shape l.length l = some cs) (∀ (H' : Hp) (p : Addr) (rs : List Addr), Acc (CallAt A) H H' p cs rs → Q (.ref p) H')
/-- the table of the shapes, as the program asks it -/
theorem shape_at {K : PySem.W.Frag} {mg : Str → Option Value} {A : Ad} (T : Txt K mg A) {p : Int} {n k : Nat} (h : PyWqaeao.shape p = some (n, k)) : ∃ (j : Nat) (a : Addr), p = (j : Int) ∧ ∀ H, (∃ xs, SqT K H A.a_SHAPES xs ∧ xs[j]? = some (.ref a)) ∧ SqT K H a [nV n, nV k] := by
  unfold PyWqaeao.shape at h
  split at h
  · rename_i e; injection h with h; injection h with h1 h2; subst e h1 h2; exact ⟨0, _, rfl, fun H => ⟨⟨_, T.t_SHAPES H, rfl⟩, T.t_SHAPES_0 H⟩⟩
  split at h
  · rename_i e; injection h with h; injection h with h1 h2; subst e h1 h2; exact ⟨1, _, rfl, fun H => ⟨⟨_, T.t_SHAPES H, rfl⟩, T.t_SHAPES_1 H⟩⟩
  split at h
  · rename_i e; injection h with h; injection h with h1 h2; subst e h1 h2; exact ⟨2, _, rfl, fun H => ⟨⟨_, T.t_SHAPES H, rfl⟩, T.t_SHAPES_2 H⟩⟩
  split at h
  · rename_i e; injection h with h; injection h with h1 h2; subst e h1 h2; exact ⟨3, _, rfl, fun H => ⟨⟨_, T.t_SHAPES H, rfl⟩, T.t_SHAPES_3 H⟩⟩
  split at h
  · rename_i e; injection h with h; injection h with h1 h2; subst e h1 h2; exact ⟨4, _, rfl, fun H => ⟨⟨_, T.t_SHAPES H, rfl⟩, T.t_SHAPES_4 H⟩⟩
  split at h
  · rename_i e; injection h with h; injection h with h1 h2; subst e h1 h2; exact ⟨5, _, rfl, fun H => ⟨⟨_, T.t_SHAPES H, rfl⟩, T.t_SHAPES_5 H⟩⟩
  split at h
  · rename_i e; injection h with h; injection h with h1 h2; subst e h1 h2; exact ⟨6, _, rfl, fun H => ⟨⟨_, T.t_SHAPES H, rfl⟩, T.t_SHAPES_6 H⟩⟩
  split at h
  · rename_i e; injection h with h; injection h with h1 h2; subst e h1 h2; exact ⟨7, _, rfl, fun H => ⟨⟨_, T.t_SHAPES H, rfl⟩, T.t_SHAPES_7 H⟩⟩
  split at h
  · rename_i e; injection h with h; injection h with h1 h2; subst e h1 h2; exact ⟨8, _, rfl, fun H => ⟨⟨_, T.t_SHAPES H, rfl⟩, T.t_SHAPES_8 H⟩⟩
  split at h
  · rename_i e; injection h with h; injection h with h1 h2; subst e h1 h2; exact ⟨9, _, rfl, fun H => ⟨⟨_, T.t_SHAPES H, rfl⟩, T.t_SHAPES_9 H⟩⟩
  · cases h
theorem ok_read_calls (T : Txt K mg A) (G_Call_init : FnOk P w K mg base CX0 1 A.a_Call_init A.d_Call_init ["self", "kind", "numbers", "lists"] (sp_Call_init K A)) (G_read_lists : FnOk P w K mg base CX0 1 A.a_read_lists A.d_read_lists ["line", "place", "how_many"] (sp_read_lists K A)) : FnOk P w K mg base CX0 3 A.a_read_calls A.d_read_calls ["line"] (sp_read_calls K A) := by
  refine T.f_read_calls.ok sc_read_calls (fun vs H Q E h => ?_) (fun cdv A' outer s H vs Q E hr h => ?_)
  · obtain ⟨⟨_, _, _⟩, rfl, _⟩ := h
    rfl
  · obtain ⟨⟨a, l, cs⟩, rfl, ha, h400, hcalls, fin⟩ := h
    refine ⟨_, (pss_cons (ps_set (i := 1) sc_read_calls.nd rfl (Or.inl rfl) (pe_lst pa_nil))
        (pss_cons (ps_set (i := 2) sc_read_calls.nd rfl (Or.inl rfl) pe_int)
        (pss_cons (ps_while PassesOwn.never (pt_cmpR op_lt (pv 2) (pe_callB (cr_len (K := K) rfl) (by rfl) T.n_len PySem.boot_len (pa_cons (pv 0) pa_nil)) (nomark _))
          (pss_cons (ps_set (i := 3) sc_read_calls.nd rfl (Or.inl rfl) (pe_ix ix_list (pv 0) (pv 2) (fun _ _ => rfl)))
            (pss_cons (ps_set (i := 4) sc_read_calls.nd rfl (Or.inl rfl) (pe_ix ix_tup (pe_glob (v := .ref A.a_SHAPES) rfl T.g_SHAPES rfl) (pv 3) (fun _ _ => rfl)))
            (pss_cons (ps_set (i := 5) sc_read_calls.nd rfl (Or.inl rfl) (pe_op op_add (pe_op op_add (pv 2) pe_int) (pe_ix ix_tup (pv 4) pe_int (fun _ _ => rfl))))
            (pss_cons (ps_set (i := 6) sc_read_calls.nd rfl (Or.inl rfl) (pe_slice sl_list (pv 0) (po_some (pe_op op_add (pv 2) pe_int)) (po_some (pv 5))))
            (pss_cons (ps_set (i := 7) sc_read_calls.nd rfl (Or.inl rfl) (pe_call G_read_lists (hr.mono (by decide)) rfl T.mg_read_lists T.f_read_lists.kp T.b_read_lists .nil pass0 (pa_cons (pv 0) (pa_cons (pv 5) (pa_cons (pe_ix ix_tup (pv 4) pe_int (fun _ _ => rfl)) pa_nil)))))
            (pss_cons (ps_expr (pe_bm PySem.F.plainAttrs_list PySem.F.slot_list_append PySem.F.type_list_append mt_append (pv 1) (pa_cons (pe_make T.mk_Call G_Call_init (hr.mono (by decide)) rfl T.mgc_Call T.b_Call_init .nil pass0 (pa_cons (pv 3) (pa_cons (pv 6) (pa_cons (pv 7) pa_nil)))) pa_nil)))
            (pss_one (ps_set (i := 2) sc_read_calls.nd rfl (Or.inl rfl) (pe_op op_add (pv 5) (pe_callB (cr_sum rfl) (by rfl) T.n_sum boot_sum (pa_cons (pe_lc (own := [("row", 8)]) rfl sc_read_calls.nd (pi_list (pv 7)) (blkOk_by (N := ["line", "calls", "place", "kind", "shape", "behind_numbers", "numbers", "lists", "row"]) (sc := defScope s_read_calls) (by decide +kernel)) (fun _ _ _ _ _ => (pg_name (i := 8) sc_read_calls.nd rfl (Or.inl rfl))) (fun _ _ _ _ _ => pts_nil) (fun _ _ _ _ _ => (pe_op op_add pe_int (pe_callB (cr_len (K := K) rfl) (by rfl) T.n_len PySem.boot_len (pa_cons (pv 8) pa_nil))))) pa_nil))))))))))))
        (pss_one (ps_ret (pv 1)))))), ?_⟩
    try dsimp only [cxOf, Cx.nox]
    refine ⟨Nat.zero_le _, fun p hp => ?_⟩
    refine while_by (fun σ H' => ∃ (q f : Nat) (done rest : List (List (List Int))) (rs : List Addr), (∃ v3 v4 v5 v6 v7 v8, σ = [some (.ref a), some (.ref p), some (nV q), v3, v4, v5, v6, v7, v8]) ∧ q ≤ l.length ∧
        PyFlat.calls PyWqaeao.shape f (l.drop q) = some rest ∧ done ++ rest = cs ∧ Acc (CallAt A) H H' p done rs)
      (fun σ _ => l.length - slotN σ 2) ⟨0, l.length, [], cs, [], ⟨_, _, _, _, _, _, rfl⟩, Nat.zero_le _, hcalls, rfl, .start hp⟩ ?_ ?_
    · rintro σ H1 ⟨q, f, done, rest, rs, ⟨v3, v4, v5, v6, v7, v8, rfl⟩, hq, hc, hd, A1⟩
      refine ⟨_, rfl, _, rfl, rd_len (A1.same.seq ha) ⟨_, _, rfl, rfl, _, rfl, ?_⟩⟩
      by_cases hlt : q < l.length
      · refine iteP (decide_eq_true (by rw [List.length_map]; omega)) ?_
        obtain ⟨kd, n, k, xs, rest', f', h1, hsh, h2, hrows, h3, hxl, rfl, hc2⟩ := calls_step hlt hc
        obtain ⟨j, sa, rfl, hS⟩ := shape_at T hsh
        obtain ⟨⟨SH, hS1, hS2⟩, hS3⟩ := hS H1
        have k2 : k ≤ 2 := by
          rcases call_forms (ns := List.replicate n 0) (xs := List.replicate k []) hsh (by simp) (by simp) with h | h | h | h | h | h | h | h | h | h
          all_goals (first | (obtain ⟨_, _, _, _, _, _, z⟩ := h) | (obtain ⟨_, _, _, _, z⟩ := h) | (obtain ⟨_, _, _, z⟩ := h) | (obtain ⟨_, _, z⟩ := h))
          all_goals (have := congrArg List.length z; simp at this; omega)
        -- kind, shape
        refine ⟨_, rfl, _, rfl, rd_ix (A1.same.seq ha) (at_of (j := q) rfl (at_map h1)) ?_⟩
        refine ⟨_, rfl, rd_ixt hS1 (at_of (j := j) rfl hS2) ?_⟩
        -- behind_numbers, numbers
        refine ⟨_, rfl, _, _, rfl, rfl, _, rfl, rd_ixt hS3 rfl ⟨_, _, rfl, rfl, ?_⟩⟩
        refine ⟨_, rfl, _, rfl, _, _, rfl, rfl, _, rfl, _, rfl, _, rfl, a, _, rfl, A1.same.seq ha, fun na hna => ?_⟩
        have ecut : cutV (l.map V.int) (some ((q : Int) + 1)) (some ((q : Int) + 1 + (n : Int))) = ((l.drop (q + 1)).take n).map V.int := by
          have := cut_nat (xs := l.map V.int) (i := q + 1) (j := q + 1 + n) (by rw [List.length_map]; exact h2) (by omega)
          rw [show q + 1 + n - (q + 1) = n by omega, ← List.map_drop, ← List.map_take] at this
          rw [← this]
          congr 2
        rw [ecut]
        have s1 := same_new (o := HO.lst (((l.drop (q + 1)).take n).map V.int)) hna
        have A2 := A1.grow (mono_call A) s1
        have nna : na ≠ p := (ne_of_none A1.lst hna).symm
        -- lists
        refine ⟨_, rfl, _, rfl, _, rfl, rd_ixt ((hS _).2) rfl ?_⟩
        refine ⟨⟨a, l, q + 1 + n, k, xs, _⟩, rfl, A2.same.seq ha, h2, k2, hrows, fun H3 la rs3 B => ?_⟩
        have A3 := A2.grow (mono_call A) B.same
        have nla : la ≠ p := (ne_of_none A2.lst B.fr).symm
        have nrs : ∀ r ∈ rs3, r ≠ p := fun r hr => (ne_of_none A2.lst (B.new r hr)).symm
        -- calls.append(Call(kind, numbers, lists))
        refine ⟨_, rfl, .inl ⟨rfl, _, SqL.of A3.lst⟩, _, rfl, _, rfl, _, rfl, fun x dx nx nd ndx => ?_⟩
        refine ⟨⟨x, dx, na, la, _⟩, rfl, upd_same, fun H4 hx4 k4 => ⟨rfl, ?_⟩⟩
        have s4 : Same H3 H4 := Same.made nx nd k4
        have A4 := A3.grow (mono_call A) s4
        have nxp : x ≠ p := (ne_of_none A3.lst nx).symm
        have hcl : rs.length ≤ 400 := by rw [A1.len]; have := congrArg List.length hd; simp at this; omega
        refine ⟨p, _, _, rfl, rfl, A4.lst, by rw [List.length_map]; exact size_lt (by omega), ?_⟩
        have hF : CallAt A (newer H H4 p) x (((j : Int) :: (l.drop (q + 1)).take n) :: xs) := by
          refine ⟨dx, na, la, _, _, _, rs3, rfl, newer_at hx4 (A3.same.free nx) nxp, newer_at (s4 _ _ (B.same _ _ upd_same)) (A1.same.free hna) nna, newer_at (s4 _ _ B.lst) (A2.same.free B.fr) nla, ?_⟩
          exact keep_ints (B.out mono_ints) fun r hr o e => newer_at (s4 _ _ e) (A2.same.free (B.new r hr)) (nrs r hr)
        have A5 := A4.push (A3.same.free nx) hF
        have fr4 : ∀ {r : Addr} {o : HO}, r ≠ p → H4 r = some o → upd H4 p (.lst (rs.map V.ref ++ [.ref x])) r = some o := fun h e => by rw [upd_ne h]; exact e
        generalize upd H4 p (.lst (rs.map V.ref ++ [.ref x])) = H5 at A5 fr4
        have hla : H5 la = some (.lst (rs3.map V.ref)) := fr4 nla (s4 _ _ B.lst)
        have hrw : Paired (IntsL H5) rs3 xs := keep_ints (B.out mono_ints) fun r hr o e => fr4 (nrs r hr) (s4 _ _ e)
        -- place
        refine ⟨_, rfl, _, rfl, la, rfl, ⟨_, SqL.of hla⟩, fun D hD => ?_⟩
        refine lc_list (K := K) (a := la) (xs := rs3.map V.ref) (fun i H' => Same H5 H' ∧ H' D = some (.lst (((xs.take i).map fun x => (1 + (x.length : Int))).map V.int))) ⟨same_new hD, upd_same⟩ (fun i H' _ ⟨s6, _⟩ => SqL.of (s6 _ _ hla)) ?_ ?_
        · rintro i v H6 hi ⟨s6, hD6⟩
          obtain ⟨r, hr, rfl⟩ := get_map hi
          obtain ⟨x', hx', hrx⟩ := pget hrw hr
          have hi2 : i < xs.length := (List.getElem?_eq_some_iff.mp hx').1
          refine ⟨rfl, yes_if ?_⟩
          refine ⟨_, rfl, rd_len (SqL.of (s6 _ _ hrx)) ⟨_, _, rfl, rfl, _, hD6, by rw [List.length_map, List.length_map, List.length_take]; exact size_lt (by omega), ?_, ?_⟩⟩
          · intro b o e
            rw [upd_ne (ne_of_none e hD)]
            exact s6 _ _ e
          · rw [upd_same, take_snoc hx', List.map_append, List.map_append, List.length_map]
            rfl
        · rintro H6 ⟨s6, hD6⟩
          rw [List.length_map, ← B.len.symm, List.take_length] at hD6
          refine ⟨D, _, rfl, SqL.of hD6, _, _, rfl, rfl, ?_⟩
          have esum : ∀ ys : List (List Int), (ys.map fun x => (1 + (x.length : Int))).sum = (span ys : Nat) := fun ys => by
            induction ys with
            | nil => rfl
            | cons y ys ih => simp only [List.map_cons, List.sum_cons, ih, span]; simp only [span] at ih; omega
          rw [esum]
          refine ⟨⟨q + 1 + n + span xs, f', done ++ [_], rest', rs ++ [x], ⟨_, _, _, _, _, _, rfl⟩, h3, hc2, by rw [List.append_assoc]; exact hd, A5.grow (mono_call A) s6⟩, ?_⟩
          show l.length - (q + 1 + n + span xs) < l.length - q
          omega
      · refine iteQ (by rw [decide_eq_true_eq, List.length_map]; omega) ?_
        have eq : q = l.length := by omega
        rw [eq, List.drop_length] at hc
        have := calls_end hc
        subst this
        rw [List.append_nil] at hd
        subst hd
        exact ⟨_, rfl, fin _ _ _ A1⟩
    · intro σ H Q Q' hQ h
      obtain ⟨v, e1, v', e2, b, ys, e3, e4, i, j, e5, e6, c, e7, q⟩ := h
      exact ⟨v, e1, v', e2, b, ys, e3, e4, i, j, e5, e6, c, e7, hQ _ _ q⟩
end
end My
namespace My
open PySem PySem.Spec PyProof.Rows L2
section
variable {P : Program} {w : World} {K : PySem.W.Frag} {mg : Str → Option Value} {base : Heap} {A : Ad}
-- uses answer_stmt
-- uses Nest_add_access
def sp_answer_access (K : PySem.W.Frag) (A : Ad) : Sp := fun vs H Q _ => ∃ d : P9 Hp Addr Addr Addr NestNs.Nest Nat Nat Nat (List Int), d.un fun B p na ea s i ar w e => A6 (vs = [.ref p, .ref na, .ref ea]) (NestAt K A B H p s) (NatsL B na [i, ar, w]) (IntsL B ea e) (∀ v ∈ e, -(2 ^ 63) ≤ v ∧ v < 2 ^ 63) (Asks K A B p (NestNs.on s (.access i ar w e)) Q)
theorem NestS.touch0 {s : NestNs.Nest} {x y z m : Nat} {tf : Nat → Nat → List Touch} (S : NestS s x y z m tf) {k : Nat} {l : List NestNs.Access} (hk : s.stmts[k]? = some l) {i : Nat} (hi : i < x * y * z) : (tf k i).length = l.length := by
  obtain ⟨r, hr⟩ : ∃ r, (rounds x y z)[i]? = some r := ⟨_, List.getElem?_eq_getElem (by rw [rounds_len]; exact hi)⟩
  rw [S.st k i r (by rw [← S.sm]; exact (List.getElem?_eq_some_iff.mp hk).1) hr]
  unfold NestNs.touched
  rw [List.length_map, List.getD_eq_getElem?_getD]
  show (s.stmts[k]?.getD []).length = _
  rw [hk]
  rfl
theorem NestS.access {s : NestNs.Nest} {x y z m : Nat} {tf : Nat → Nat → List Touch} (S : NestS s x y z m tf) {k ar : Nat} {w : Bool} {e : List Int} {l : List NestNs.Access} (hk : s.stmts[k]? = some l) (h3 : l.length < 3) :
    NestS ⟨s.loops, s.n, s.stmts.set k (l ++ [⟨ar, w, e⟩])⟩ x y z m (fun k' i => if k' = k ∧ i < x * y * z then tf k' i ++ [touchOf w ar e ((rounds x y z).getD i [])] else tf k' i) := by
  have hkl := (List.getElem?_eq_some_iff.mp hk).1
  refine ⟨S.sn, S.sd, by simp [S.sm], S.sm3, fun k' l' hl => ?_, fun k' i r hk' hr => ?_⟩
  · have hl : (s.stmts.set k (l ++ [⟨ar, w, e⟩]))[k']? = some l' := hl
    by_cases q : k' = k
    · rw [q, List.getElem?_set_self hkl] at hl
      rw [← Option.some.inj hl]
      simp; omega
    · rw [List.getElem?_set_ne (fun z => q z.symm)] at hl
      exact S.sl k' l' hl
  · have hi : i < x * y * z := by rw [← rounds_len]; exact (List.getElem?_eq_some_iff.mp hr).1
    have h0 := S.st k' i r hk' hr
    unfold NestNs.touched at h0 ⊢
    show _ = ((s.stmts.set k (l ++ [⟨ar, w, e⟩]))[k']?.getD []).map _
    have h0 : tf k' i = (s.stmts[k']?.getD []).map _ := h0
    by_cases q : k' = k
    · subst q
      rw [hk] at h0
      rw [if_pos ⟨rfl, hi⟩, h0, List.getElem?_set_self hkl, List.getD_eq_getElem?_getD, hr]
      simp only [Option.getD_some, List.map_append, List.map_cons, List.map_nil]
      rfl
    · rw [if_neg (fun z => q z.1), List.getElem?_set_ne (fun z => q z.symm)]
      exact h0
theorem ok_answer_access (T : Txt K mg A) (G_Nest_access_count : FnOk P w K mg base CX0 1 A.a_Nest_access_count A.d_Nest_access_count ["self", "s"] (sp_Nest_access_count K A)) (G_Nest_add_access : FnOk P w K mg base CX0 2 A.a_Nest_add_access A.d_Nest_add_access ["self", "s", "array", "written", "rows"] (sp_Nest_add_access K A)) (G_Nest_has_statement : FnOk P w K mg base CX0 1 A.a_Nest_has_statement A.d_Nest_has_statement ["self", "s"] (sp_Nest_has_statement K A)) (G_tell : FnOk P w K mg base CX0 1 A.a_tell A.d_tell ["number", "behind"] (sp_tell K A)) : FnOk P w K mg base CX0 3 A.a_answer_access A.d_answer_access ["nest", "numbers", "rows"] (sp_answer_access K A) := by
  refine T.f_answer_access.ok sc_answer_access (fun vs H Q E h => ?_) (fun cdv A' outer s H vs Q E hr h => ?_)
  · obtain ⟨⟨_, _, _, _, _, _, _, _, _⟩, rfl, _⟩ := h
    rfl
  · obtain ⟨⟨B, p, na, ea, st, i, ar, w', e⟩, rfl, ⟨⟨x, y, z, m, tf, N, tag⟩, M, S, dp, F⟩, hna, hea, eb, fin⟩ := h
    have hn' : SqL K H na ([i, ar, w'].map nV) := SqL.of (M.sm _ _ hna)
    have no : ∀ {H1 : Hp}, Same H H1 → ∀ (q : Addr) (zz : Int), H q = none → H1 q = some (.lst (tells zz [])) → NestNs.on st (.access i ar w' e) = (some st, NestNs.says zz) → Q (.ref q) H1 := fun s1 q zz n2 h2 e1 => by
      rw [e1] at fin
      exact fin _ q st rfl ⟨⟨x, y, z, m, tf, N, tag⟩, M.grow s1, S, dp, F.grow s1⟩ (M.sm.free n2) h2
    refine ⟨_, (pss_cons (ps_set (i := 3) sc_answer_access.nd rfl (Or.inl rfl) (pe_ix ix_list (pv 1) pe_int (fun _ _ => rfl)))
        (pss_cons (ps_set (i := 4) sc_answer_access.nd rfl (Or.inl rfl) (pe_ix ix_list (pv 1) pe_int (fun _ _ => rfl)))
        (pss_cons (ps_if (PW.pt (pw_or (pt_not (pt_val (pe_meth (pv 0) T.cl_Nest T.m_Nest_has_statement G_Nest_has_statement (hr.mono (by decide)) T.b_Nest_has_statement .nil pass0 (pa_cons (pv 3) pa_nil)))) (pw_or (pt_cmpR op_gt (pv 4) (pe_glob (v := .int 7) rfl T.g_LAST_ARRAY.choose_spec ⟨_, rfl⟩) (nomark _)) (pw_or1 (pt_cmpR op_ne (pe_callB (cr_len (K := K) rfl) (by rfl) T.n_len PySem.boot_len (pa_cons (pv 2) pa_nil)) (pe_op op_mul pe_int (pe_glob (v := .int 4) rfl T.g_ROW_LENGTH.choose_spec ⟨_, rfl⟩)) (nomark _))))))
          (pss_one (ps_ret (pe_call G_tell (hr.mono (by decide)) rfl T.mg_tell T.f_tell.kp T.b_tell .nil pass0 (pa_cons (pe_un un_neg pe_int) (pa_cons (pe_lst pa_nil) pa_nil)))))
          pss_nil)
        (pss_cons (ps_if (pt_cmpR op_eq (pe_meth (pv 0) T.cl_Nest T.m_Nest_access_count G_Nest_access_count (hr.mono (by decide)) T.b_Nest_access_count .nil pass0 (pa_cons (pv 3) pa_nil)) (pe_glob (v := .int 3) rfl T.g_MOST_ACCESSES.choose_spec ⟨_, rfl⟩) (nomark _))
          (pss_one (ps_ret (pe_call G_tell (hr.mono (by decide)) rfl T.mg_tell T.f_tell.kp T.b_tell .nil pass0 (pa_cons (pe_un un_neg pe_int) (pa_cons (pe_lst pa_nil) pa_nil)))))
          pss_nil)
        (pss_cons (ps_expr (pe_meth (pv 0) T.cl_Nest T.m_Nest_add_access G_Nest_add_access (hr.mono (by decide)) T.b_Nest_add_access .nil pass0 (pa_cons (pv 3) (pa_cons (pv 4) (pa_cons (pe_cmpR op_ne (pe_ix ix_list (pv 1) pe_int (fun _ _ => rfl)) pe_int (nomark _)) (pa_cons (pv 2) pa_nil))))))
        (pss_one (ps_ret (pe_call G_tell (hr.mono (by decide)) rfl T.mg_tell T.f_tell.kp T.b_tell .nil pass0 (pa_cons (pe_meth (pv 0) T.cl_Nest T.m_Nest_access_count G_Nest_access_count (hr.mono (by decide)) T.b_Nest_access_count .nil pass0 (pa_cons (pv 3) pa_nil)) (pa_cons (pe_lst pa_nil) pa_nil)))))))))), ?_⟩
    try dsimp only [cxOf, Cx.nox]
    refine ⟨_, rfl, rd_ix hn' rfl ?_⟩
    refine ⟨_, rfl, rd_ix hn' rfl ?_⟩
    refine rd_meth rfl M.obj rfl ⟨_, rfl, ⟨B, p, x, y, z, m, tf, N, tag, i⟩, rfl, M, _, rfl, ?_⟩
    have bad1 : ∀ {H1 : Hp}, Same H H1 → ∀ q, H q = none → H1 q = some (.lst (tells (-1) [])) → NestNs.on st (.access i ar w' e) = (some st, NestNs.says (-1)) → Q (.ref q) H1 := fun s1 q n2 h2 e1 => no s1 q _ n2 h2 e1
    by_cases him : i < m
    · refine iteQ (by simp [him]) ?_
      obtain ⟨l, hl⟩ : ∃ l, st.stmts[i]? = some l := ⟨_, List.getElem?_eq_getElem (by rw [S.sm]; exact him)⟩
      have eon : NestNs.on st (.access i ar w' e) = if NestNs.ARRAYS ≤ ar ∨ e.length ≠ 8 then (some st, NestNs.says (-1)) else if NestNs.ACCESSES ≤ l.length then (some st, NestNs.says (-2)) else (some ⟨st.loops, st.n, st.stmts.set i (l ++ [⟨ar, w' != 0, e⟩])⟩, NestNs.says ((l.length + 1 : Nat) : Int)) := by
        show (match st.stmts[i]? with | none => _ | some l => _) = _
        rw [hl]
      refine ⟨_, rfl, _, _, rfl, rfl, _, rfl, ?_⟩
      by_cases ha : 7 < ar
      · refine iteP (decide_eq_true (by omega)) ?_
        refine iteP rfl ?_
        refine ⟨_, rfl, Nat.zero_le _, fun r hr => ?_⟩
        have s1 := same_new (o := HO.lst []) hr
        refine ⟨⟨-1, r, []⟩, rfl, upd_same, Nat.zero_le _, fun H2 q s2 n2 h2 => ?_⟩
        exact bad1 (s1.trans s2) q (s1.free n2) h2 (by rw [eon, if_pos (.inl ha)])
      · refine iteQ (by rw [decide_eq_true_eq]; omega) ?_
        refine ⟨_, rfl, rd_len (SqL.of (M.sm _ _ hea)) ⟨_, _, rfl, rfl, .inl ⟨by decide, by decide⟩, rfl, _, rfl, ?_⟩⟩
        by_cases h8 : e.length = 8
        · refine iteQ (by rw [List.length_map, h8]; decide) ?_
          refine rd_meth rfl M.obj rfl ⟨_, rfl, ⟨B, p, x, y, z, m, tf, N, tag, i⟩, rfl, M, him, rfl, _, rfl, ?_⟩
          have t0 := S.touch0 hl M.pos
          have hc : ¬ (NestNs.ARRAYS ≤ ar ∨ e.length ≠ 8) := fun q => q.elim (fun q => ha q) (fun q => q h8)
          by_cases h3 : l.length = 3
          · refine iteP (by rw [t0, h3]; rfl) ?_
            refine ⟨_, rfl, Nat.zero_le _, fun r hr => ?_⟩
            have s1 := same_new (o := HO.lst []) hr
            refine ⟨⟨-2, r, []⟩, rfl, upd_same, Nat.zero_le _, fun H2 q s2 n2 h2 => ?_⟩
            exact no (s1.trans s2) q _ (s1.free n2) h2 (by rw [eon, if_neg hc, if_pos (by rw [h3]; decide)])
          · have l3 : l.length < 3 := by have := S.sl i l hl; omega
            refine iteQ (by rw [t0, decide_eq_true_eq]; intro q; injection q with q; omega) ?_
            have ew : (!decide (V.int (w' : Int) = V.int 0)) = (w' != 0) := by
              rw [Bool.eq_iff_iff]; simp
            refine rd_meth rfl M.obj rfl ⟨_, rfl, _, rfl, _, rfl, rd_ix hn' rfl ⟨rfl, _, rfl, ⟨B, p, x, y, z, m, tf, N, tag, i, ar, _, ea, e⟩, rfl, M, him, hea, h8, eb, fun j hj => by rw [S.touch0 hl hj]; omega, fun H1 M1 => ?_⟩⟩
            refine rd_meth rfl M1.obj rfl ⟨_, rfl, ⟨B, p, x, y, z, m, _, _, tag, i⟩, rfl, M1, him, Nat.zero_le _, fun r hr => ?_⟩
            have s1 := same_new (o := HO.lst []) hr
            refine ⟨⟨_, r, []⟩, rfl, upd_same, Nat.zero_le _, fun H2 q s2 n2 h2 => ?_⟩
            have S2 := S.access (ar := ar) (w := (w' != 0)) (e := e) hl l3
            rw [ew] at M1
            rw [eon, if_neg hc, if_neg (by unfold NestNs.ACCESSES; omega)] at fin
            rw [if_pos ⟨rfl, M1.pos⟩, List.length_append, t0] at h2
            exact fin H2 q _ rfl ⟨⟨x, y, z, m, _, _, tag⟩, M1.grow (s1.trans s2), S2, dp, .inl rfl⟩ (M1.sm.free (s1.free n2)) h2
        · refine iteP (by rw [List.length_map, Bool.not_eq_true', decide_eq_false_iff_not]; intro q; injection q with q; omega) ?_
          refine ⟨_, rfl, Nat.zero_le _, fun r hr => ?_⟩
          have s1 := same_new (o := HO.lst []) hr
          refine ⟨⟨-1, r, []⟩, rfl, upd_same, Nat.zero_le _, fun H2 q s2 n2 h2 => ?_⟩
          exact bad1 (s1.trans s2) q (s1.free n2) h2 (by rw [eon, if_pos (.inr h8)])
    · refine iteP (by simp [him]) ?_
      refine iteP rfl ?_
      refine ⟨_, rfl, Nat.zero_le _, fun r hr => ?_⟩
      have s1 := same_new (o := HO.lst []) hr
      refine ⟨⟨-1, r, []⟩, rfl, upd_same, Nat.zero_le _, fun H2 q s2 n2 h2 => ?_⟩
      refine bad1 (s1.trans s2) q (s1.free n2) h2 ?_
      show (match st.stmts[i]? with | none => _ | some l => _) = _
      rw [List.getElem?_eq_none (by rw [S.sm]; omega)]
end
end My
namespace My
open PySem PySem.Spec PyProof.Rows L2
section
variable {P : Program} {w : World} {K : PySem.W.Frag} {mg : Str → Option Value} {base : Heap} {A : Ad}
-- uses Desk_init
-- uses Nest_init
-- uses loops_go
/-- a call upon the desk: the answer's list is new, all else but the desk stays -/
def AskD (K : PySem.W.Frag) (A : Ad) (B : Hp) (d : Addr) (st : NestNs.State) (nums : List Int) (Q : VK) : Prop := ∀ (B' H' : Hp) (q : Addr), (∀ b o, B b = some o → b ≠ d → B' b = some o) → DeskAt K A B' H' d st → B q = none → H' q = some (.lst (nums.map V.int)) → Q (.ref q) H'
def sp_Desk_answer_init (K : PySem.W.Frag) (A : Ad) : Sp := fun vs H Q _ => ∃ d : P6 Hp Addr Addr NestNs.State Nat (List Nat), d.un fun B d a st D n => A5 (vs = [.ref d, nV D, .ref a]) (DeskAt K A B H d st) (NatsL B a n) (∀ v ∈ n, v < 2 ^ 64) (AskD K A B d (NestNs.step st (.init D n)).1 (NestNeutral.numbersOf (NestNs.step st (.init D n)).2) Q)
theorem fold_cast : ∀ (n : List Nat) (c : Nat), (n.map fun (k : Nat) => (k : Int)).foldl (· * ·) (c : Int) = ((n.foldl (· * ·) c : Nat) : Int)
  | [], _ => rfl
  | a :: n, c => by
    rw [List.map_cons, List.foldl_cons, List.foldl_cons, ← Int.natCast_mul]
    exact fold_cast n (c * a)
theorem goes_iff (D : Nat) (n : List Nat) : goes (D : Int) (n.map fun (k : Nat) => (k : Int)) ↔ (1 ≤ D ∧ D ≤ 3 ∧ n.length = D) ∧ (1 ≤ n.foldl (· * ·) 1 ∧ n.foldl (· * ·) 1 ≤ 64) := by
  unfold goes
  have := fold_cast n 1
  rw [show ((1 : Nat) : Int) = 1 from rfl] at this
  rw [this, List.length_map]
  omega
theorem nestOf_goes {D : Nat} {n : List Nat} (h : goes (D : Int) (n.map fun (k : Nat) => (k : Int))) : ∃ x y z, n ++ List.replicate (3 - n.length) 1 = [x, y, z] ∧ n.length ≤ 3 ∧ x * y * z ≤ 64 ∧ 1 ≤ x ∧ 1 ≤ y ∧ 1 ≤ z ∧ 1 ≤ D ∧ D ≤ 3 ∧ n.length = D ∧ NestNs.nestOf D n = some ⟨D, [x, y, z], []⟩ := by
  obtain ⟨⟨h1, h2, h3⟩, h4, h5⟩ := (goes_iff D n).mp h
  have e := nestOf_eq h1 h2 h3
  rw [if_pos ⟨h4, h5⟩] at e
  obtain ⟨x, y, z, e3⟩ := len3 (pad_len h2 h3)
  have hp : n.foldl (· * ·) 1 = x * y * z := by
    match n, h3, h2 with
    | [a], h3, _ => subst h3; cases e3; simp
    | [a, b], h3, _ => subst h3; cases e3; simp
    | [a, b, c], h3, _ => subst h3; cases e3; simp
    | [], h3, _ => simp at h3; omega
    | a :: b :: c :: d :: r, h3, h2 => simp at h3; omega
  rw [hp] at h4 h5
  have p1 := prod_pos.mp h4
  have p2 := prod_pos.mp p1.1
  rw [e3] at e
  exact ⟨x, y, z, by rw [h3]; exact e3, by omega, h5, p2.1, p2.2, p1.2, h1, h2, h3, e⟩
theorem nestOf_not {D : Nat} {n : List Nat} (h : ¬ goes (D : Int) (n.map fun (k : Nat) => (k : Int))) : NestNs.nestOf D n = none := by
  rw [goes_iff] at h
  by_cases h1 : 1 ≤ D ∧ D ≤ 3 ∧ n.length = D
  · rw [nestOf_eq h1.1 h1.2.1 h1.2.2, if_neg (fun q => h ⟨h1, q⟩)]
  · exact nestOf_bad h1
theorem nats_ints (n : List Nat) : n.map nV = (n.map fun (k : Nat) => (k : Int)).map V.int := by
  rw [List.map_map]; rfl
theorem ok_Desk_answer_init (T : Txt K mg A) (G_Nest_init : FnOk P w K mg base CX0 2 A.a_Nest_init A.d_Nest_init ["self", "lengths"] (sp_Nest_init K A)) (G_loops_go : FnOk P w K mg base CX0 1 A.a_loops_go A.d_loops_go ["d", "n"] (sp_loops_go K A)) (G_tell : FnOk P w K mg base CX0 1 A.a_tell A.d_tell ["number", "behind"] (sp_tell K A)) : FnOk P w K mg base CX0 4 A.a_Desk_answer_init A.d_Desk_answer_init ["self", "d", "n"] (sp_Desk_answer_init K A) := by
  refine T.f_Desk_answer_init.ok sc_Desk_answer_init (fun vs H Q E h => ?_) (fun cdv A' outer s H vs Q E hr h => ?_)
  · obtain ⟨⟨_, _, _, _, _, _⟩, rfl, _⟩ := h
    rfl
  · obtain ⟨⟨B, d, a, st, D, n⟩, rfl, ⟨sm, dx, v, hd, hst⟩, ha, hb, fin⟩ := h
    refine ⟨_, (pss_cons (ps_if (pt_not (pt_val (pe_call G_loops_go (hr.mono (by decide)) rfl T.mg_loops_go T.f_loops_go.kp T.b_loops_go .nil pass0 (pa_cons (pv 1) (pa_cons (pv 2) pa_nil)))))
          (pss_one (ps_ret (pe_call G_tell (hr.mono (by decide)) rfl T.mg_tell T.f_tell.kp T.b_tell .nil pass0 (pa_cons (pe_un un_neg pe_int) (pa_cons (pe_lst pa_nil) pa_nil)))))
          pss_nil)
        (pss_cons (ps_fld (pv 0) (pe_make T.mk_Nest G_Nest_init (hr.mono (by decide)) rfl T.mgc_Nest T.b_Nest_init .nil pass0 (pa_cons (pv 2) pa_nil)) rfl)
        (pss_one (ps_ret (pe_call G_tell (hr.mono (by decide)) rfl T.mg_tell T.f_tell.kp T.b_tell .nil pass0 (pa_cons pe_int (pa_cons (pe_lst pa_nil) pa_nil))))))), ?_⟩
    try dsimp only [cxOf, Cx.nox]
    have hai : SqL K H a ((n.map fun (k : Nat) => (k : Int)).map V.int) := by rw [← nats_ints]; exact SqL.of (sm _ _ ha)
    refine ⟨_, rfl, _, rfl, ⟨(D : Int), a, _⟩, rfl, hai, fun z hz => ?_, _, rfl, ?_⟩
    · obtain ⟨k, hk, rfl⟩ := List.mem_map.mp hz
      have := hb k hk
      omega
    by_cases hg : goes (D : Int) (n.map fun (k : Nat) => (k : Int))
    · refine iteQ (by simp [hg]) ?_
      obtain ⟨x, y, z, e3, n3, h64, hx, hy, hz, d1, d3, dn, e⟩ := nestOf_goes hg
      have es : NestNs.step st (.init D n) = (some ⟨D, [x, y, z], []⟩, NestNs.says 0) := by
        show (match NestNs.nestOf D n with | none => _ | some x => _) = _
        rw [e]
      rw [es] at fin
      refine ⟨_, rfl, fun p px np nd ndx => ?_⟩
      have s1 : Same B (upd (upd H px (.own p)) p (.ins A.c_Nest px [])) := fun b o h => by
        rw [upd_ne (ne_of_none (sm _ _ h) np), upd_ne (ne_of_none (sm _ _ h) nd)]; exact sm _ _ h
      refine ⟨⟨B, p, px, a, n, x, y, z⟩, rfl, s1, sm.free np, upd_same, s1 _ _ ha, n3, e3, h64, hx, hy, hz, fun H2 N tag _ M e1 e2 => ⟨rfl, ?_⟩⟩
      refine ⟨_, rfl, d, _, dx, _, rfl, M.sm _ _ hd, T.cl_Desk, T.na_Desk_nest, (by show 1 < 1000; decide), ?_⟩
      have M2 := M.upd_ (o' := .ins A.c_Desk dx (deskF (.ref p))) hd (fun xs q => by cases q) (fun ob u q => by cases q)
      have ef : putF "nest" (V.ref p) (deskF v) = deskF (.ref p) := by rfl
      rw [ef]
      refine ⟨Nat.zero_le _, fun r hr => ?_⟩
      have s2 := same_new (o := HO.lst []) hr
      refine ⟨⟨0, r, []⟩, rfl, upd_same, Nat.zero_le _, fun H3 q s3 n3 h3 => ?_⟩
      refine fin (upd B d (.ins A.c_Desk dx (deskF (.ref p)))) H3 q (fun b o h hb => by rw [upd_ne hb]; exact h) ⟨M2.sm.trans (s2.trans s3), dx, _, upd_same, p, rfl, ⟨x, y, z, 0, _, N, tag⟩, M2.grow (s2.trans s3), ⟨rfl, ⟨d1, d3⟩, rfl, by decide, fun k l h => by simp at h, fun k i r h => absurd h (Nat.not_lt_zero k)⟩, (e1.trans dn).symm, .inl e2⟩ ?_ h3
      have n4 := M2.sm.free (s2.free n3)
      by_cases qd : q = d
      · rw [qd, upd_same] at n4; cases n4
      · rw [upd_ne qd] at n4; exact n4
    · refine iteP (by simp [hg]) ?_
      have es : NestNs.step st (.init D n) = (st, NestNs.says (-1)) := by
        show (match NestNs.nestOf D n with | none => _ | some x => _) = _
        rw [nestOf_not hg]
      rw [es] at fin
      refine ⟨_, rfl, Nat.zero_le _, fun r hr => ?_⟩
      have s2 := same_new (o := HO.lst []) hr
      refine ⟨⟨-1, r, []⟩, rfl, upd_same, Nat.zero_le _, fun H3 q s3 n3 h3 => ?_⟩
      refine fin B H3 q (fun b o h _ => h) ⟨sm.trans (s2.trans s3), dx, v, hd, ?_⟩ (sm.free (s2.free n3)) h3
      cases st with
      | none => exact hst
      | some s =>
        obtain ⟨p, e, M⟩ := hst
        exact ⟨p, e, M.grow (s2.trans s3)⟩
end
end My
namespace My
open PySem PySem.Spec PyProof.Rows L2
section
variable {P : Program} {w : World} {K : PySem.W.Frag} {mg : Str → Option Value} {base : Heap} {A : Ad}
-- uses answer_stmt
-- uses Nest_is_instance
-- uses Nest_meet
def sp_answer_meet (K : PySem.W.Frag) (A : Ad) : Sp := fun vs H Q _ => ∃ d : P7 Hp Addr Addr Addr NestNs.Nest (List Nat) (List Nat), d.un fun B p u v s us ws => A5 (vs = [.ref p, .ref u, .ref v]) (NestAt K A B H p s) (NatsL B u us) (NatsL B v ws) (Asks K A B p (NestNs.on s (.meet us ws)) Q)
theorem inst_some {s : NestNs.Nest} {x y z m : Nat} {tf : Nat → Nat → List Touch} (S : NestS s x y z m tf) {u : List Nat} (h : isInst x y z m u) : ∃ a b c k, u = [a, b, c, k] ∧ a < x ∧ b < y ∧ c < z ∧ k < m ∧ NestNs.instOf s u = some ([a, b, c], k) := by
  obtain ⟨h0, h1, h2, h3, h4⟩ := h
  obtain ⟨a, b, c, k, rfl⟩ := len4 h0
  refine ⟨a, b, c, k, rfl, h1, h2, h3, h4, ?_⟩
  rw [instOf_four, S.sn, S.sm, if_pos ⟨h1, h2, h3, h4⟩]
theorem inst_none {s : NestNs.Nest} {x y z m : Nat} {tf : Nat → Nat → List Touch} (S : NestS s x y z m tf) {u : List Nat} (h : ¬ isInst x y z m u) : NestNs.instOf s u = none := by
  by_cases h4 : u.length = 4
  · obtain ⟨a, b, c, k, rfl⟩ := len4 h4
    rw [instOf_four, S.sn, S.sm, if_neg]
    rintro ⟨h1, h2, h3, h4⟩
    exact h ⟨rfl, h1, h2, h3, h4⟩
  · exact instOf_bad h4
theorem NestS.meet_ {s : NestNs.Nest} {x y z m : Nat} {tf : Nat → Nat → List Touch} (S : NestS s x y z m tf) {k i k' i' : Nat} {r r' : List Nat} (hk : k < m) (hk' : k' < m) (hr : (rounds x y z)[i]? = some r) (hr' : (rounds x y z)[i']? = some r') :
    meets (tf k i) (tf k' i') = NestNs.meet s (r, k) (r', k') := by
  rw [S.st k i r hk hr, S.st k' i' r' hk' hr']
  rfl
theorem ok_answer_meet (T : Txt K mg A) (G_Nest_is_instance : FnOk P w K mg base CX0 2 A.a_Nest_is_instance A.d_Nest_is_instance ["self", "told"] (sp_Nest_is_instance K A)) (G_Nest_meet : FnOk P w K mg base CX0 3 A.a_Nest_meet A.d_Nest_meet ["self", "u", "v"] (sp_Nest_meet K A)) (G_tell : FnOk P w K mg base CX0 1 A.a_tell A.d_tell ["number", "behind"] (sp_tell K A)) : FnOk P w K mg base CX0 4 A.a_answer_meet A.d_answer_meet ["nest", "u", "v"] (sp_answer_meet K A) := by
  refine T.f_answer_meet.ok sc_answer_meet (fun vs H Q E h => ?_) (fun cdv A' outer s H vs Q E hr h => ?_)
  · obtain ⟨⟨_, _, _, _, _, _, _⟩, rfl, _⟩ := h
    rfl
  · obtain ⟨⟨B, p, u, v, st, us, ws⟩, rfl, ⟨⟨x, y, z, m, tf, N, tag⟩, M, S, dp, F⟩, hu, hv, fin⟩ := h
    have tl : ∀ {H1 : Hp}, Same H H1 → ∀ (q : Addr) (zz : Int), H q = none → H1 q = some (.lst (tells zz [])) → NestNs.on st (.meet us ws) = (some st, NestNs.says zz) → Q (.ref q) H1 := fun s1 q zz n2 h2 e1 => by
      rw [e1] at fin
      exact fin _ q st rfl ⟨⟨x, y, z, m, tf, N, tag⟩, M.grow s1, S, dp, F.grow s1⟩ (M.sm.free n2) h2
    have on_eq : NestNs.on st (.meet us ws) = (some st, match NestNs.instOf st us, NestNs.instOf st ws with | some x, some y => NestNs.says (if NestNs.meet st x y = true then 1 else 0) | _, _ => NestNs.says (-1)) := rfl
    refine ⟨_, (pss_cons (ps_if (PW.pt (pw_or (pt_not (pt_val (pe_meth (pv 0) T.cl_Nest T.m_Nest_is_instance G_Nest_is_instance (hr.mono (by decide)) T.b_Nest_is_instance .nil pass0 (pa_cons (pv 1) pa_nil)))) (pw_or1 (pt_not (pt_val (pe_meth (pv 0) T.cl_Nest T.m_Nest_is_instance G_Nest_is_instance (hr.mono (by decide)) T.b_Nest_is_instance .nil pass0 (pa_cons (pv 2) pa_nil)))))))
          (pss_one (ps_ret (pe_call G_tell (hr.mono (by decide)) rfl T.mg_tell T.f_tell.kp T.b_tell .nil pass0 (pa_cons (pe_un un_neg pe_int) (pa_cons (pe_lst pa_nil) pa_nil)))))
          pss_nil)
        (pss_one (ps_ret (pe_call G_tell (hr.mono (by decide)) rfl T.mg_tell T.f_tell.kp T.b_tell .nil pass0 (pa_cons (pe_ifExp (pt_val (pe_meth (pv 0) T.cl_Nest T.m_Nest_meet G_Nest_meet (hr.mono (by decide)) T.b_Nest_meet .nil pass0 (pa_cons (pv 1) (pa_cons (pv 2) pa_nil)))) pe_int pe_int) (pa_cons (pe_lst pa_nil) pa_nil)))))), ?_⟩
    try dsimp only [cxOf, Cx.nox]
    refine rd_meth rfl M.obj rfl ⟨_, rfl, ⟨B, p, x, y, z, m, tf, N, tag, u, us⟩, rfl, M, M.sm _ _ hu, _, rfl, ?_⟩
    by_cases hi : isInst x y z m us
    · refine iteQ (by simp [hi]) ?_
      refine rd_meth rfl M.obj rfl ⟨_, rfl, ⟨B, p, x, y, z, m, tf, N, tag, v, ws⟩, rfl, M, M.sm _ _ hv, _, rfl, ?_⟩
      by_cases hj : isInst x y z m ws
      · refine iteQ (by simp [hj]) ?_
        obtain ⟨a, b, c, k, rfl, h1, h2, h3, h4, e1⟩ := inst_some S hi
        obtain ⟨a', b', c', k', rfl, g1, g2, g3, g4, e2⟩ := inst_some S hj
        rw [e1, e2] at on_eq
        have hm := S.meet_ h4 g4 (rounds_at h1 h2 h3) (rounds_at g1 g2 g3)
        refine rd_meth rfl M.obj rfl ⟨_, rfl, _, rfl, ⟨B, p, x, y, z, m, tf, N, tag, u, v, a, b, c, k, a', b', c', k'⟩, rfl, M, M.sm _ _ hu, M.sm _ _ hv, ⟨h1, h2, h3, h4⟩, ⟨g1, g2, g3, g4⟩, _, rfl, ?_⟩
        rw [hm]
        by_cases hq : NestNs.meet st ([a, b, c], k) ([a', b', c'], k') = true
        · refine iteP hq ?_
          refine ⟨Nat.zero_le _, fun r hr => ?_⟩
          have s1 := same_new (o := HO.lst []) hr
          refine ⟨⟨1, r, []⟩, rfl, upd_same, Nat.zero_le _, fun H2 q s2 n2 h2 => ?_⟩
          exact tl (s1.trans s2) q _ (s1.free n2) h2 (by rw [on_eq]; simp [hq])
        · refine iteQ hq ?_
          refine ⟨Nat.zero_le _, fun r hr => ?_⟩
          have s1 := same_new (o := HO.lst []) hr
          refine ⟨⟨0, r, []⟩, rfl, upd_same, Nat.zero_le _, fun H2 q s2 n2 h2 => ?_⟩
          exact tl (s1.trans s2) q _ (s1.free n2) h2 (by rw [on_eq]; simp [hq])
      · refine iteP (by simp [hj]) ?_
        refine ⟨_, rfl, Nat.zero_le _, fun r hr => ?_⟩
        have s1 := same_new (o := HO.lst []) hr
        refine ⟨⟨-1, r, []⟩, rfl, upd_same, Nat.zero_le _, fun H2 q s2 n2 h2 => ?_⟩
        exact tl (s1.trans s2) q _ (s1.free n2) h2 (by rw [on_eq, inst_none S hj]; cases NestNs.instOf st us <;> rfl)
    · refine iteP (by simp [hi]) ?_
      refine iteP rfl ?_
      refine ⟨_, rfl, Nat.zero_le _, fun r hr => ?_⟩
      have s1 := same_new (o := HO.lst []) hr
      refine ⟨⟨-1, r, []⟩, rfl, upd_same, Nat.zero_le _, fun H2 q s2 n2 h2 => ?_⟩
      exact tl (s1.trans s2) q _ (s1.free n2) h2 (by rw [on_eq, inst_none S hi])
end
end My
namespace My
open PySem PySem.Spec PyProof.Rows L2
section
variable {P : Program} {w : World} {K : PySem.W.Frag} {mg : Str → Option Value} {base : Heap} {A : Ad}
-- uses answer_stmt
-- uses answer_meet
-- uses Nest_all_instances
-- uses Nest_touched_by
-- uses Meetings_init
def sp_Nest_meetings (K : PySem.W.Frag) (A : Ad) : Sp := fun vs H Q _ => ∃ d : P3 Hp Addr NestNs.Nest, d.un fun B p st => A3 (vs = [.ref p]) (NestAt K A B H p st) (∀ (H' : Hp) (q : Addr), NestAt K A B H' p st → MeetAt A H' q st → Q (.ref q) H')
theorem inst_eq {s : NestNs.Nest} {x y z m : Nat} {tf : Nat → Nat → List Touch} (S : NestS s x y z m tf) : instL x y z m = (NestNs.instances s).map NestNs.numbers := by
  rw [instances_rounds, S.sn, S.sm]
  unfold instL
  rw [List.map_flatMap]
  congr 1
  funext r
  rw [List.map_map]
  rfl
theorem inst_192 {s : NestNs.Nest} {x y z m : Nat} {tf : Nat → Nat → List Touch} (S : NestS s x y z m tf) (h : x * y * z ≤ 64) : (NestNs.instances s).length ≤ 192 := by
  rw [instances_len, S.sn, S.sm]
  show x * y * z * m ≤ 192
  exact Nat.le_trans (Nat.mul_le_mul h S.sm3) (by decide)
/-- an instance by its place, as the nest has it -/
theorem inst_at {s : NestNs.Nest} {x y z m : Nat} {tf : Nat → Nat → List Touch} (S : NestS s x y z m tf) {i : Nat} {u : NestNs.Inst} (h : (NestNs.instances s)[i]? = some u) :
    ∃ a b c k, u = ([a, b, c], k) ∧ a < x ∧ b < y ∧ c < z ∧ k < m ∧ tf k ((a * y + b) * z + c) = NestNs.touched s u := by
  obtain ⟨j, _, hk, hr⟩ := instances_get h
  rw [S.sn] at hr
  have hr : (rounds x y z)[j]? = some u.1 := hr
  obtain ⟨a, b, c, ha, hb, hc, ej, e⟩ := rounds_get hr
  rw [S.sm] at hk
  refine ⟨a, b, c, u.2, by rw [← e], ha, hb, hc, hk, ?_⟩
  rw [← ej]
  exact S.st u.2 j u.1 hk hr
theorem keep_pairs {H H' : Hp} : ∀ {rs : List Addr} {l : List (Nat × Nat)}, Paired (PairL H) rs l → (∀ r ∈ rs, ∀ o, H r = some o → H' r = some o) → Paired (PairL H') rs l
  | _, _, .nil, _ => .nil
  | _, _, .cons a t, h => .cons (h _ List.mem_cons_self _ a) (keep_pairs t fun r hr => h r (List.mem_cons_of_mem _ hr))
theorem meetT_eq (s : NestNs.Nest) {a b : Nat} (ha : a < (NestNs.instances s).length) (hb : b < (NestNs.instances s).length) : meetT ((NestNs.instances s).map (NestNs.touched s)) a b = meetF s a b := by
  unfold meetT meetF
  rw [List.getD_eq_getElem?_getD, List.getD_eq_getElem?_getD, List.getElem?_map, List.getElem?_map, instAt_get ha, instAt_get hb]
  rfl
theorem pairs_eq (s : NestNs.Nest) : pairsTo (meetT ((NestNs.instances s).map (NestNs.touched s))) (NestNs.instances s).length (NestNs.instances s).length = pairsOf s :=
  pairsTo_congr (fun a b h1 h2 => meetT_eq s (by omega) h2) _
theorem ok_Nest_meetings (T : Txt K mg A) (G_Meetings_init : FnOk P w K mg base CX0 3 A.a_Meetings_init A.d_Meetings_init ["self", "instances", "touched"] (sp_Meetings_init K A)) (G_Nest_all_instances : FnOk P w K mg base CX0 1 A.a_Nest_all_instances A.d_Nest_all_instances ["self"] (sp_Nest_all_instances K A)) (G_Nest_touched_by : FnOk P w K mg base CX0 2 A.a_Nest_touched_by A.d_Nest_touched_by ["self", "instance"] (sp_Nest_touched_by K A)) : FnOk P w K mg base CX0 5 A.a_Nest_meetings A.d_Nest_meetings ["self"] (sp_Nest_meetings K A) := by
  refine T.f_Nest_meetings.ok sc_Nest_meetings (fun vs H Q E h => ?_) (fun cdv A' outer s H vs Q E hr h => ?_)
  · obtain ⟨⟨_, _, _⟩, rfl, _⟩ := h
    rfl
  · obtain ⟨⟨B, p, st⟩, rfl, ⟨⟨x, y, z, m, tf, N, tag⟩, M, S, dp, F⟩, fin⟩ := h
    refine ⟨_, (pss_cons (ps_if (pt_cmpR op_isN (pe_fld (pv 0) rfl) pe_non (nomark _))
          (pss_cons (ps_set (i := 1) sc_Nest_meetings.nd rfl (Or.inl rfl) (pe_meth0 (pv 0) T.cl_Nest T.m_Nest_all_instances G_Nest_all_instances (hr.mono (by decide)) T.b_Nest_all_instances .nil pass0))
            (pss_one (ps_fld (pv 0) (pe_make T.mk_Meetings G_Meetings_init (hr.mono (by decide)) rfl T.mgc_Meetings T.b_Meetings_init .nil pass0 (pa_cons (pv 1) (pa_cons (pe_lc (own := [("instance", 2)]) rfl sc_Nest_meetings.nd (pi_list (pv 1)) (blkOk_by (N := ["self", "instances", "instance"]) (sc := defScope s_Nest_meetings) (by decide +kernel)) (fun _ _ _ _ _ => (pg_name (i := 2) sc_Nest_meetings.nd rfl (Or.inl rfl))) (fun _ _ _ _ _ => pts_nil) (fun _ _ _ _ _ => (pe_meth (pv 0) T.cl_Nest T.m_Nest_touched_by G_Nest_touched_by (hr.mono (by decide)) T.b_Nest_touched_by .nil pass0 (pa_cons (pv 2) pa_nil)))) pa_nil))) rfl)))
          pss_nil)
        (pss_one (ps_ret (pe_fld (pv 0) rfl)))), ?_⟩
    try dsimp only [cxOf, Cx.nox]
    refine rd_fld rfl M.obj T.cl_Nest T.na_Nest_found rfl ⟨rfl, _, rfl, ?_⟩
    by_cases hf : N.fv = .non
    · refine iteP (decide_eq_true hf) ?_
      -- instances = self.all_instances()
      refine rd_meth rfl M.obj rfl ⟨⟨B, p, x, y, z, m, tf, N, tag⟩, rfl, M, S.sm3, fun H1 ia is C1 => ?_⟩
      rw [inst_eq S] at C1
      have M1 := M.grow C1.same
      have O1 := C1.out mono_nats
      have il : is.length = (NestNs.instances st).length := by rw [C1.len, List.length_map]
      have h192 := inst_192 S M.small.1
      -- [self.touched_by(instance) for instance in instances]
      refine ⟨_, rfl, _, rfl, ia, rfl, ⟨_, SqL.of C1.lst⟩, fun Dt hDt => ?_⟩
      refine lc_list (K := K) (a := ia) (xs := is.map V.ref) (fun i H' => Same H1 H' ∧ ∃ cs, H' Dt = some (.lst (cs.map V.ref)) ∧ Paired (TouchesAt K H1) cs (((NestNs.instances st).take i).map (NestNs.touched st)))
        ⟨same_new hDt, [], upd_same, .nil⟩ (fun i H' _ ⟨e, _⟩ => SqL.of (e _ _ C1.lst)) ?_ ?_
      · rintro i v H2 hi ⟨s2, cs, hD2, hcs⟩
        obtain ⟨c, hc, rfl⟩ := get_map hi
        obtain ⟨u0, hu0, hcu⟩ := pget O1 hc
        obtain ⟨u, hu, rfl⟩ := get_map hu0
        obtain ⟨a, b, c', k, eu, ha, hb, hc', hk, et⟩ := inst_at S hu
        have hcu : H1 c = some (.lst ([a, b, c', k].map nV)) := by
          have h : H1 c = some (.lst ((NestNs.numbers u).map nV)) := hcu
          rw [eu] at h
          exact h
        have M2 := M1.grow s2
        have hlt : i < (NestNs.instances st).length := (List.getElem?_eq_some_iff.mp hu).1
        have cl : cs.length < 200 := by rw [hcs.length, List.length_map, List.length_take]; omega
        refine ⟨rfl, yes_if ?_⟩
        refine rd_meth rfl M2.obj rfl ⟨_, rfl, ⟨B, p, x, y, z, m, tf, N, tag, c, a, b, c', k⟩, rfl, M2, s2 _ _ hcu, ha, hb, hc', hk, fun r hw _ => ?_⟩
        obtain ⟨d, pl, w1, w2, w3⟩ := hw
        obtain ⟨d1, pl1, r1, vs1, g1, g2, g3, _, g4, g5, _⟩ := M1.at_ hk (place_lt ha hb hc')
        have ed : d = d1 := Option.some.inj (w1.symm.trans g1)
        subst ed
        have e0 := w2.symm.trans (s2 _ _ g2)
        injection e0 with e0
        injection e0 with e0
        have q1 := at_map (f := V.ref) w3
        rw [e0, at_map (f := V.ref) g3] at q1
        injection q1 with q1
        injection q1 with q1
        subst q1
        refine ⟨cs.map V.ref, hD2, by rw [List.length_map]; exact size_lt (by omega), fun b o e => ?_, cs ++ [r1], ?_, ?_⟩
        · rw [upd_ne (ne_of_none e hDt)]; exact s2 _ _ e
        · rw [upd_same, List.map_append]; rfl
        · rw [take_snoc hu, List.map_append]
          refine hcs.snoc ?_
          rw [← et]
          exact ⟨vs1, SqL.of g4, g5⟩
      · rintro H2 ⟨s2, cs, hD2, hcs⟩
        rw [List.length_map, il, List.take_length] at hcs
        -- Meetings(..)
        intro q qx nq nqx nex
        have hmk : ∀ {b : Addr} {o : HO}, H2 b = some o → upd (upd H2 qx (.own q)) q (.ins A.c_Meetings qx []) b = some o := fun h => by
          rw [upd_ne (ne_of_none h nq), upd_ne (ne_of_none h nqx)]; exact h
        have sm2 : Same H1 (upd (upd H2 qx (.own q)) q (.ins A.c_Meetings qx [])) := fun b o h => hmk (s2 _ _ h)
        have tlen : ((NestNs.instances st).map (NestNs.touched st)).length = (NestNs.instances st).length := List.length_map ..
        refine ⟨⟨q, qx, ia, Dt, is, cs, (NestNs.instances st).map (NestNs.touched st)⟩, rfl, upd_same, sm2 _ _ C1.lst, hmk hD2, hcs.mono fun _ _ h => h.grow sm2, by rw [tlen, il], by rw [tlen]; exact h192, fun H3 pa va ps keep hq3 npa nva nps hpa hps hva => ⟨rfl, ?_⟩⟩
        rw [tlen, pairs_eq] at hps hva
        rw [relax_levels, ← lev_nats] at hva
        have s13 : Same H1 H3 := fun b o h => keep b o (sm2 _ _ h) (ne_of_none (s2 _ _ h) nq)
        have M3 := M1.grow s13
        have M4 := M3.found (.ref q)
        have fr : ∀ {b : Addr}, upd (upd H2 qx (.own q)) q (.ins A.c_Meetings qx []) b = none → B b = none ∧ b ≠ p := fun {b} h =>
          ⟨(M1.sm.trans sm2).free h, fun e => by
            rw [e, sm2 _ _ M1.obj] at h; cases h⟩
        have frH : ∀ {b : Addr}, H b = none → B b = none ∧ b ≠ p := fun {b} h => ⟨M.sm.free h, fun e => by rw [e, M.obj] at h; cases h⟩
        refine ⟨_, rfl, p, _, _, _, rfl, M3.obj, T.cl_Nest, T.na_Nest_found, (by show 5 < 1000; decide), ?_⟩
        have up : ∀ {b : Addr} {o : HO}, H3 b = some o → B b = none ∧ b ≠ p → newer B (upd H3 p (.ins A.c_Nest N.dx (putF "found" (V.ref q) (nestF N.dp N.la N.ra N.ta N.fv)))) p b = some o := fun h1 h2 =>
          newer_at (by rw [upd_ne h2.2]; exact h1) h2.1 h2.2
        have qf : B q = none ∧ q ≠ p := ⟨(M1.sm.trans s2).free nq, fun e => by rw [e, s2 _ _ M1.obj] at nq; cases nq⟩
        have MT : MeetT A (newer B (upd H3 p (.ins A.c_Nest N.dx (putF "found" (V.ref q) (nestF N.dp N.la N.ra N.ta N.fv)))) p) q st ⟨qx, ia, pa, va, is, ps⟩ :=
          ⟨up hq3 qf, up (s13 _ _ C1.lst) (frH C1.fr), keep_nats O1 fun r hr o e => up (s13 _ _ e) (frH (C1.new r hr)), up hpa (fr npa), keep_pairs hps fun r hr o e => up e (fr (nps r hr)), up hva (fr nva)⟩
        refine rd_fld rfl upd_same T.cl_Nest T.na_Nest_found rfl ?_
        exact fin _ q ⟨⟨x, y, z, m, tf, _, tag⟩, M4, S, dp, .inr ⟨q, rfl, _, MT⟩⟩ ⟨_, MT.grow newer_same⟩
    · refine iteQ (by rw [decide_eq_true_eq]; exact hf) ?_
      refine rd_fld rfl M.obj T.cl_Nest T.na_Nest_found rfl ?_
      rcases F with F | ⟨q, e, F⟩
      · exact absurd F hf
      · rw [e]
        exact fin H q ⟨⟨x, y, z, m, tf, N, tag⟩, M, S, dp, .inr ⟨q, e, F⟩⟩ (F.grow newer_same)
end
end My
namespace My
open PySem PySem.Spec PyProof.Rows L2
section
variable {P : Program} {w : World} {K : PySem.W.Frag} {mg : Str → Option Value} {base : Heap} {A : Ad}
-- uses Nest_meetings
-- uses Nest_round_place
def sp_Nest_level_of (K : PySem.W.Frag) (A : Ad) : Sp := fun vs H Q _ => ∃ d : P6 Hp Addr Addr NestNs.Nest (List Nat) NestNs.Inst, d.un fun B p u st us v => A5 (vs = [.ref p, .ref u]) (NestAt K A B H p st) (NatsL B u us) (NestNs.instOf st us = some v) (∀ (H' : Hp), NestAt K A B H' p st → Q (nV (NestNs.levelOf st v)) H')
theorem ok_Nest_level_of (T : Txt K mg A) (G_Nest_meetings : FnOk P w K mg base CX0 5 A.a_Nest_meetings A.d_Nest_meetings ["self"] (sp_Nest_meetings K A)) (G_Nest_round_place : FnOk P w K mg base CX0 1 A.a_Nest_round_place A.d_Nest_round_place ["self", "instance"] (sp_Nest_round_place K A)) : FnOk P w K mg base CX0 6 A.a_Nest_level_of A.d_Nest_level_of ["self", "instance"] (sp_Nest_level_of K A) := by
  refine T.f_Nest_level_of.ok sc_Nest_level_of (fun vs H Q E h => ?_) (fun cdv A' outer s H vs Q E hr h => ?_)
  · obtain ⟨⟨_, _, _, _, _, _⟩, rfl, _⟩ := h
    rfl
  · obtain ⟨⟨B, p, u, st, us, v⟩, rfl, ⟨⟨x, y, z, m, tf, N, tag⟩, M, S, dp, F⟩, hu, hv, fin⟩ := h
    refine ⟨_, (pss_cons (ps_set (i := 2) sc_Nest_level_of.nd rfl (Or.inl rfl) (pe_op op_add (pe_op op_mul (pe_meth (pv 0) T.cl_Nest T.m_Nest_round_place G_Nest_round_place (hr.mono (by decide)) T.b_Nest_round_place .nil pass0 (pa_cons (pv 1) pa_nil)) (pe_callB (cr_len (K := K) rfl) (by rfl) T.n_len PySem.boot_len (pa_cons (pe_fld (pv 0) rfl) pa_nil))) (pe_ix ix_list (pv 1) (pe_glob (v := .int 3) rfl T.g_MOST_LOOPS.choose_spec ⟨_, rfl⟩) (fun _ _ => rfl))))
        (pss_one (ps_ret (pe_ix ix_list (pe_fld (pe_meth0 (pv 0) T.cl_Nest T.m_Nest_meetings G_Nest_meetings (hr.mono (by decide)) T.b_Nest_meetings .nil pass0) rfl) (pv 2) (fun _ _ => rfl))))), ?_⟩
    try dsimp only [cxOf, Cx.nox]
    obtain ⟨a, b, c, k, rfl, rfl, ha, hb, hc, hk, hr0⟩ := instOf_at hv
    rw [S.sn] at ha hb hc
    have ha : a < x := ha
    have hb : b < y := hb
    have hc : c < z := hc
    have hk' : k < m := by rw [← S.sm]; exact hk
    have hu' : NatsL H u [a, b, c, k] := M.sm _ _ hu
    have hpl := place_lt ha hb hc
    have h64 := M.small.1
    have hm3 := S.sm3
    refine rd_meth rfl M.obj rfl ⟨_, rfl, ⟨B, p, x, y, z, m, tf, N, tag, u, a, b, c, k⟩, rfl, M, hu', ha, hb, hc, rd_fld rfl M.obj T.cl_Nest T.na_Nest_touches rfl (rd_len (SqL.of M.tch.1) ⟨_, _, rfl, rfl, ?_, _, rfl, rd_ix (SqL.of hu') rfl ⟨_, _, rfl, rfl, ?_⟩⟩)⟩
    · exact .inl ⟨by omega, by omega⟩
    refine rd_meth rfl M.obj rfl ⟨⟨B, p, st⟩, rfl, ⟨⟨x, y, z, m, tf, N, tag⟩, M, S, dp, F⟩, fun H' q N' ⟨D, M'⟩ => ?_⟩
    have hi : (NestNs.instances st)[((a * y + b) * z + c) * m + k]? = some ([a, b, c], k) := by
      have := instances_at (s := st) (i := (a * y + b) * z + c) hk
      rw [S.sm] at this
      rw [this, S.sn]
      show ((rounds x y z)[(a * y + b) * z + c]?).map _ = _
      rw [rounds_at ha hb hc]
      rfl
    have hl : (lvInts st)[((a * y + b) * z + c) * m + k]? = some ((NestNs.levelOf st ([a, b, c], k) : Nat) : Int) := by
      unfold lvInts
      rw [List.getElem?_map, levels_up hi, levelOf_up hi]
      rfl
    refine ⟨q, _, _, _, _, rfl, M'.obj, T.cl_Meetings, T.na_Meetings_levels, rfl, _, rfl, rd_ix (SqL.of M'.lev) (at_of (j := ((a * y + b) * z + c) * m + k) ?_ (at_map hl)) ?_⟩
    · rw [List.length_map, M.cnt]
      simp
    · exact fin H' N'
end
end My
namespace My
open PySem PySem.Spec PyProof.Rows L2
section
variable {P : Program} {w : World} {K : PySem.W.Frag} {mg : Str → Option Value} {base : Heap} {A : Ad}
-- uses answer_stmt
-- uses Nest_meetings
-- uses tell_pair
def sp_answer_dep (K : PySem.W.Frag) (A : Ad) : Sp := fun vs H Q _ => ∃ d : P5 Hp Addr NestNs.Nest Nat Nat, d.un fun B p s i j => A3 (vs = [.ref p, nV i, nV j]) (NestAt K A B H p s) (Asks K A B p (NestNs.on s (.dep i j)) Q)
theorem ok_answer_dep (T : Txt K mg A) (G_Meetings_first_dependence : FnOk P w K mg base CX0 1 A.a_Meetings_first_dependence A.d_Meetings_first_dependence ["self", "s", "t"] (sp_Meetings_first_dependence K A)) (G_Nest_has_statement : FnOk P w K mg base CX0 1 A.a_Nest_has_statement A.d_Nest_has_statement ["self", "s"] (sp_Nest_has_statement K A)) (G_Nest_meetings : FnOk P w K mg base CX0 5 A.a_Nest_meetings A.d_Nest_meetings ["self"] (sp_Nest_meetings K A)) (G_tell : FnOk P w K mg base CX0 1 A.a_tell A.d_tell ["number", "behind"] (sp_tell K A)) (G_tell_pair : FnOk P w K mg base CX0 2 A.a_tell_pair A.d_tell_pair ["pair"] (sp_tell_pair K A)) : FnOk P w K mg base CX0 6 A.a_answer_dep A.d_answer_dep ["nest", "s", "t"] (sp_answer_dep K A) := by
  refine T.f_answer_dep.ok sc_answer_dep (fun vs H Q E h => ?_) (fun cdv A' outer s H vs Q E hr h => ?_)
  · obtain ⟨⟨_, _, _, _, _⟩, rfl, _⟩ := h
    rfl
  · obtain ⟨⟨B, p, st, i, j⟩, rfl, NA, fin⟩ := h
    have tl : ∀ {H0 H1 : Hp}, NestAt K A B H0 p st → Same H0 H1 → ∀ (q : Addr), H0 q = none → H1 q = some (.lst (ansV (NestNs.on st (.dep i j)).2)) → Q (.ref q) H1 := fun N0 s1 q n2 h2 => by
      exact fin _ q st rfl (N0.grow s1) (N0.sm.free n2) h2
    have on_eq : (NestNs.on st (.dep i j)).2 = if i < st.stmts.length ∧ j < st.stmts.length then NestNs.shown (NestNs.firstPair st fun (u v : NestNs.Inst) => u.2 == i && v.2 == j) else NestNs.says (-1) := rfl
    obtain ⟨⟨x, y, z, m, tf, N, tag⟩, M, S, dp, F⟩ := id NA
    rw [on_eq, S.sm] at tl
    refine ⟨_, (pss_cons (ps_if (PW.pt (pw_or (pt_not (pt_val (pe_meth (pv 0) T.cl_Nest T.m_Nest_has_statement G_Nest_has_statement (hr.mono (by decide)) T.b_Nest_has_statement .nil pass0 (pa_cons (pv 1) pa_nil)))) (pw_or1 (pt_not (pt_val (pe_meth (pv 0) T.cl_Nest T.m_Nest_has_statement G_Nest_has_statement (hr.mono (by decide)) T.b_Nest_has_statement .nil pass0 (pa_cons (pv 2) pa_nil)))))))
          (pss_one (ps_ret (pe_call G_tell (hr.mono (by decide)) rfl T.mg_tell T.f_tell.kp T.b_tell .nil pass0 (pa_cons (pe_un un_neg pe_int) (pa_cons (pe_lst pa_nil) pa_nil)))))
          pss_nil)
        (pss_one (ps_ret (pe_call G_tell_pair (hr.mono (by decide)) rfl T.mg_tell_pair T.f_tell_pair.kp T.b_tell_pair .nil pass0 (pa_cons (pe_meth (pe_meth0 (pv 0) T.cl_Nest T.m_Nest_meetings G_Nest_meetings (hr.mono (by decide)) T.b_Nest_meetings .nil pass0) T.cl_Meetings T.m_Meetings_first_dependence G_Meetings_first_dependence (hr.mono (by decide)) T.b_Meetings_first_dependence .nil pass0 (pa_cons (pv 1) (pa_cons (pv 2) pa_nil))) pa_nil))))), ?_⟩
    try dsimp only [cxOf, Cx.nox]
    refine rd_meth rfl M.obj rfl ⟨_, rfl, ⟨B, p, x, y, z, m, tf, N, tag, i⟩, rfl, M, _, rfl, ?_⟩
    by_cases hi : i < m
    · refine iteQ (by simp [hi]) ?_
      refine rd_meth rfl M.obj rfl ⟨_, rfl, ⟨B, p, x, y, z, m, tf, N, tag, j⟩, rfl, M, _, rfl, ?_⟩
      by_cases hj : j < m
      · refine iteQ (by simp [hj]) ?_
        rw [if_pos ⟨hi, hj⟩] at tl
        refine rd_meth rfl M.obj rfl ⟨⟨B, p, st⟩, rfl, NA, fun H1 q N1 M1 => ?_⟩
        obtain ⟨D, D1⟩ := id M1
        refine ⟨q, _, _, rfl, D1.obj, rfl, _, rfl, _, rfl, ⟨q, st, i, j⟩, rfl, M1, fun H2 r s2 n2 h2 => ?_⟩
        exact ⟨⟨r, st, _⟩, rfl, h2, fun H3 t s3 n3 h3 => tl N1 (s2.trans s3) t (s2.free n3) h3⟩
      · refine iteP (by simp [hj]) ?_
        rw [if_neg (fun q => hj q.2)] at tl
        refine ⟨_, rfl, Nat.zero_le _, fun r hr => ?_⟩
        have s1 := same_new (o := HO.lst []) hr
        exact ⟨⟨-1, r, []⟩, rfl, upd_same, Nat.zero_le _, fun H2 q s2 n2 h2 => tl NA (s1.trans s2) q (s1.free n2) h2⟩
    · refine iteP (by simp [hi]) ?_
      refine iteP rfl ?_
      rw [if_neg (fun q => hi q.1)] at tl
      refine ⟨_, rfl, Nat.zero_le _, fun r hr => ?_⟩
      have s1 := same_new (o := HO.lst []) hr
      exact ⟨⟨-1, r, []⟩, rfl, upd_same, Nat.zero_le _, fun H2 q s2 n2 h2 => tl NA (s1.trans s2) q (s1.free n2) h2⟩
end
end My
namespace My
open PySem PySem.Spec PyProof.Rows L2
section
variable {P : Program} {w : World} {K : PySem.W.Frag} {mg : Str → Option Value} {base : Heap} {A : Ad}
-- uses answer_stmt
-- uses Nest_meetings
-- uses tell_pair
-- uses Meetings_first_carried
def sp_answer_carried (K : PySem.W.Frag) (A : Ad) : Sp := fun vs H Q _ => ∃ d : P4 Hp Addr NestNs.Nest Nat, d.un fun B p s l => A3 (vs = [.ref p, nV l]) (NestAt K A B H p s) (Asks K A B p (NestNs.on s (.carried l)) Q)
theorem ok_answer_carried (T : Txt K mg A) (G_Meetings_first_carried : FnOk P w K mg base CX0 1 A.a_Meetings_first_carried A.d_Meetings_first_carried ["self", "loop"] (sp_Meetings_first_carried K A)) (G_Nest_has_loop : FnOk P w K mg base CX0 1 A.a_Nest_has_loop A.d_Nest_has_loop ["self", "loop"] (sp_Nest_has_loop K A)) (G_Nest_meetings : FnOk P w K mg base CX0 5 A.a_Nest_meetings A.d_Nest_meetings ["self"] (sp_Nest_meetings K A)) (G_tell : FnOk P w K mg base CX0 1 A.a_tell A.d_tell ["number", "behind"] (sp_tell K A)) (G_tell_pair : FnOk P w K mg base CX0 2 A.a_tell_pair A.d_tell_pair ["pair"] (sp_tell_pair K A)) : FnOk P w K mg base CX0 6 A.a_answer_carried A.d_answer_carried ["nest", "loop"] (sp_answer_carried K A) := by
  refine T.f_answer_carried.ok sc_answer_carried (fun vs H Q E h => ?_) (fun cdv A' outer s H vs Q E hr h => ?_)
  · obtain ⟨⟨_, _, _, _⟩, rfl, _⟩ := h
    rfl
  · obtain ⟨⟨B, p, st, l⟩, rfl, NA, fin⟩ := h
    have tl : ∀ {H0 H1 : Hp}, NestAt K A B H0 p st → Same H0 H1 → ∀ (q : Addr), H0 q = none → H1 q = some (.lst (ansV (NestNs.on st (.carried l)).2)) → Q (.ref q) H1 := fun N0 s1 q n2 h2 => by
      exact fin _ q st rfl (N0.grow s1) (N0.sm.free n2) h2
    have on_eq : (NestNs.on st (.carried l)).2 = if l < st.loops then NestNs.shown (NestNs.carried st l) else NestNs.says (-1) := rfl
    obtain ⟨⟨x, y, z, m, tf, N, tag⟩, M, S, dp, F⟩ := id NA
    have l3 := S.sd.2
    rw [on_eq, dp] at tl
    rw [dp] at l3
    refine ⟨_, (pss_cons (ps_if (pt_not (pt_val (pe_meth (pv 0) T.cl_Nest T.m_Nest_has_loop G_Nest_has_loop (hr.mono (by decide)) T.b_Nest_has_loop .nil pass0 (pa_cons (pv 1) pa_nil))))
          (pss_one (ps_ret (pe_call G_tell (hr.mono (by decide)) rfl T.mg_tell T.f_tell.kp T.b_tell .nil pass0 (pa_cons (pe_un un_neg pe_int) (pa_cons (pe_lst pa_nil) pa_nil)))))
          pss_nil)
        (pss_one (ps_ret (pe_call G_tell_pair (hr.mono (by decide)) rfl T.mg_tell_pair T.f_tell_pair.kp T.b_tell_pair .nil pass0 (pa_cons (pe_meth (pe_meth0 (pv 0) T.cl_Nest T.m_Nest_meetings G_Nest_meetings (hr.mono (by decide)) T.b_Nest_meetings .nil pass0) T.cl_Meetings T.m_Meetings_first_carried G_Meetings_first_carried (hr.mono (by decide)) T.b_Meetings_first_carried .nil pass0 (pa_cons (pv 1) pa_nil)) pa_nil))))), ?_⟩
    try dsimp only [cxOf, Cx.nox]
    refine rd_meth rfl M.obj rfl ⟨_, rfl, ⟨B, p, x, y, z, m, tf, N, tag, l⟩, rfl, M, _, rfl, ?_⟩
    by_cases hi : l < N.dp
    · refine iteQ (by simp [hi]) ?_
      rw [if_pos hi] at tl
      refine rd_meth rfl M.obj rfl ⟨⟨B, p, st⟩, rfl, NA, fun H1 q N1 M1 => ?_⟩
      obtain ⟨D, D1⟩ := id M1
      refine ⟨q, _, _, rfl, D1.obj, rfl, _, rfl, ⟨q, st, l⟩, rfl, M1, by omega, fun H2 r s2 n2 h2 => ?_⟩
      exact ⟨⟨r, st, _⟩, rfl, h2, fun H3 t s3 n3 h3 => tl N1 (s2.trans s3) t (s2.free n3) h3⟩
    · refine iteP (by simp [hi]) ?_
      rw [if_neg hi] at tl
      refine ⟨_, rfl, Nat.zero_le _, fun r hr => ?_⟩
      have s1 := same_new (o := HO.lst []) hr
      exact ⟨⟨-1, r, []⟩, rfl, upd_same, Nat.zero_le _, fun H2 q s2 n2 h2 => tl NA (s1.trans s2) q (s1.free n2) h2⟩
end
end My
namespace My
open PySem PySem.Spec PyProof.Rows L2
section
variable {P : Program} {w : World} {K : PySem.W.Frag} {mg : Str → Option Value} {base : Heap} {A : Ad}
-- uses answer_stmt
-- uses Nest_meetings
-- uses tell_pair
-- uses Meetings_first_barred
def sp_answer_try (K : PySem.W.Frag) (A : Ad) : Sp := fun vs H Q _ => ∃ d : P6 Hp Addr Addr NestNs.Nest Nat (List Int), d.un fun B p r s k rows => A5 (vs = [.ref p, nV k, .ref r]) (NestAt K A B H p s) (IntsL B r rows) (∀ v ∈ rows, -(2 ^ 63) ≤ v ∧ v < 2 ^ 63) (Asks K A B p (NestNs.on s (.try_ k rows)) Q)
theorem ok_answer_try (T : Txt K mg A) (G_Meetings_first_barred : FnOk P w K mg base CX0 3 A.a_Meetings_first_barred A.d_Meetings_first_barred ["self", "k", "rows"] (sp_Meetings_first_barred K A)) (G_Nest_meetings : FnOk P w K mg base CX0 5 A.a_Nest_meetings A.d_Nest_meetings ["self"] (sp_Nest_meetings K A)) (G_Nest_statement_count : FnOk P w K mg base CX0 1 A.a_Nest_statement_count A.d_Nest_statement_count ["self"] (sp_Nest_statement_count K A)) (G_tell : FnOk P w K mg base CX0 1 A.a_tell A.d_tell ["number", "behind"] (sp_tell K A)) (G_tell_pair : FnOk P w K mg base CX0 2 A.a_tell_pair A.d_tell_pair ["pair"] (sp_tell_pair K A)) : FnOk P w K mg base CX0 6 A.a_answer_try A.d_answer_try ["nest", "k", "rows"] (sp_answer_try K A) := by
  refine T.f_answer_try.ok sc_answer_try (fun vs H Q E h => ?_) (fun cdv A' outer s H vs Q E hr h => ?_)
  · obtain ⟨⟨_, _, _, _, _, _⟩, rfl, _⟩ := h
    rfl
  · obtain ⟨⟨B, p, r, st, k, rows⟩, rfl, NA, hr', hb, fin⟩ := h
    have tl : ∀ {H0 H1 : Hp}, NestAt K A B H0 p st → Same H0 H1 → ∀ (q : Addr), H0 q = none → H1 q = some (.lst (ansV (NestNs.on st (.try_ k rows)).2)) → Q (.ref q) H1 := fun N0 s1 q n2 h2 => by
      exact fin _ q st rfl (N0.grow s1) (N0.sm.free n2) h2
    have on_eq : (NestNs.on st (.try_ k rows)).2 = if 1 ≤ k ∧ k ≤ 4 ∧ rows.length = 4 * k * st.stmts.length then NestNs.shown (NestNs.barred st k rows) else NestNs.says (-1) := rfl
    obtain ⟨⟨x, y, z, m, tf, N, tag⟩, M, S, dp, F⟩ := id NA
    have m3 := S.sm3
    rw [on_eq, S.sm] at tl
    have hrH : SqL K H r (rows.map V.int) := SqL.of (M.sm _ _ hr')
    have bad : ¬ (1 ≤ k ∧ k ≤ 4 ∧ rows.length = 4 * k * m) → ∀ (a : Addr) (ha : H a = none), sp_tell K A [.int (-1), .ref a] (upd H a (.lst [])) Q E0 := fun hn a ha => by
      rw [if_neg hn] at tl
      have s1 := same_new (o := HO.lst []) ha
      exact ⟨⟨-1, a, []⟩, rfl, upd_same, Nat.zero_le _, fun H2 q s2 n2 h2 => tl NA (s1.trans s2) q (s1.free n2) h2⟩
    refine ⟨_, (pss_cons (ps_if (PW.pt (pw_or (pt_cmpR op_lt (pv 1) pe_int (nomark _)) (pw_or (pt_cmpR op_gt (pv 1) (pe_glob (v := .int 4) rfl T.g_LONGEST_TIME.choose_spec ⟨_, rfl⟩) (nomark _)) (pw_or1 (pt_cmpR op_ne (pe_callB (cr_len (K := K) rfl) (by rfl) T.n_len PySem.boot_len (pa_cons (pv 2) pa_nil)) (pe_op op_mul (pe_op op_mul (pe_meth0 (pv 0) T.cl_Nest T.m_Nest_statement_count G_Nest_statement_count (hr.mono (by decide)) T.b_Nest_statement_count .nil pass0) (pv 1)) (pe_glob (v := .int 4) rfl T.g_ROW_LENGTH.choose_spec ⟨_, rfl⟩)) (nomark _))))))
          (pss_one (ps_ret (pe_call G_tell (hr.mono (by decide)) rfl T.mg_tell T.f_tell.kp T.b_tell .nil pass0 (pa_cons (pe_un un_neg pe_int) (pa_cons (pe_lst pa_nil) pa_nil)))))
          pss_nil)
        (pss_one (ps_ret (pe_call G_tell_pair (hr.mono (by decide)) rfl T.mg_tell_pair T.f_tell_pair.kp T.b_tell_pair .nil pass0 (pa_cons (pe_meth (pe_meth0 (pv 0) T.cl_Nest T.m_Nest_meetings G_Nest_meetings (hr.mono (by decide)) T.b_Nest_meetings .nil pass0) T.cl_Meetings T.m_Meetings_first_barred G_Meetings_first_barred (hr.mono (by decide)) T.b_Meetings_first_barred .nil pass0 (pa_cons (pv 1) (pa_cons (pv 2) pa_nil))) pa_nil))))), ?_⟩
    try dsimp only [cxOf, Cx.nox]
    refine ⟨_, rfl, _, _, rfl, rfl, _, rfl, ?_⟩
    by_cases h1 : k < 1
    · refine iteP (decide_eq_true (by omega)) ?_
      refine iteP rfl ?_
      exact ⟨_, rfl, Nat.zero_le _, fun a ha => bad (fun q => by omega) a ha⟩
    · refine iteQ (by rw [decide_eq_true_eq]; omega) ?_
      refine ⟨_, rfl, _, _, rfl, rfl, _, rfl, ?_⟩
      by_cases h4 : 4 < k
      · refine iteP (decide_eq_true (by omega)) ?_
        refine iteP rfl ?_
        exact ⟨_, rfl, Nat.zero_le _, fun a ha => bad (fun q => by omega) a ha⟩
      · refine iteQ (by rw [decide_eq_true_eq]; omega) ?_
        refine ⟨_, rfl, r, _, rfl, .inl hrH, rd_meth rfl M.obj rfl ⟨⟨B, p, x, y, z, m, tf, N, tag⟩, rfl, M, _, rfl, _, _, rfl, rfl, .inl ⟨by omega, by omega⟩, _, _, rfl, rfl, .inr ⟨by omega, by omega⟩, rfl, _, rfl, ?_⟩⟩
        have em : (m : Int) * (k : Int) * 4 = ((m * k * 4 : Nat) : Int) := by simp
        have ek : m * k * 4 = 4 * k * m := by rw [Nat.mul_comm m k, Nat.mul_comm _ 4, Nat.mul_assoc]
        by_cases hl : rows.length = m * k * 4
        · refine iteQ ?_ ?_
          · rw [List.length_map, hl]
            show ¬ (!decide (V.int ((m * k * 4 : Nat) : Int) = V.int ((m : Int) * (k : Int) * 4))) = true
            rw [em]
            simp
          rw [if_pos ⟨by omega, by omega, by rw [hl, ek]⟩] at tl
          refine rd_meth rfl M.obj rfl ⟨⟨B, p, st⟩, rfl, NA, fun H1 q N1 M1 => ?_⟩
          obtain ⟨D, D1⟩ := id M1
          refine ⟨q, _, _, rfl, D1.obj, rfl, _, rfl, _, rfl, ⟨q, r, st, k, rows⟩, rfl, M1, N1.sm _ _ hr', by omega, by rw [S.sm]; exact m3, by rw [S.sm]; exact hl, inst_192 S M.small.1, hb, fun H2 t s2 n2 h2 => ?_⟩
          exact ⟨⟨t, st, _⟩, rfl, h2, fun H3 t s3 n3 h3 => tl N1 (s2.trans s3) t (s2.free n3) h3⟩
        · refine iteP ?_ ?_
          · rw [List.length_map]
            show (!decide (V.int (rows.length : Int) = V.int ((m : Int) * (k : Int) * 4))) = true
            rw [em, Bool.not_eq_true', decide_eq_false_iff_not]
            intro q
            injection q with q
            omega
          exact ⟨_, rfl, Nat.zero_le _, fun a ha => bad (fun q => hl (by rw [q.2.2, ek])) a ha⟩
end
end My
namespace My
open PySem PySem.Spec PyProof.Rows L2
section
variable {P : Program} {w : World} {K : PySem.W.Frag} {mg : Str → Option Value} {base : Heap} {A : Ad}
-- uses answer_stmt
-- uses Nest_meetings
def sp_answer_steps (K : PySem.W.Frag) (A : Ad) : Sp := fun vs H Q _ => ∃ d : P3 Hp Addr NestNs.Nest, d.un fun B p s => A3 (vs = [.ref p]) (NestAt K A B H p s) (Asks K A B p (NestNs.on s .steps) Q)
theorem ok_answer_steps (T : Txt K mg A) (G_Nest_meetings : FnOk P w K mg base CX0 5 A.a_Nest_meetings A.d_Nest_meetings ["self"] (sp_Nest_meetings K A)) (G_tell : FnOk P w K mg base CX0 1 A.a_tell A.d_tell ["number", "behind"] (sp_tell K A)) : FnOk P w K mg base CX0 6 A.a_answer_steps A.d_answer_steps ["nest"] (sp_answer_steps K A) := by
  refine T.f_answer_steps.ok sc_answer_steps (fun vs H Q E h => ?_) (fun cdv A' outer s H vs Q E hr h => ?_)
  · obtain ⟨⟨_, _, _⟩, rfl, _⟩ := h
    rfl
  · obtain ⟨⟨B, p, st⟩, rfl, NA, fin⟩ := h
    have fin : ∀ {H0 H1 : Hp}, NestAt K A B H0 p st → Same H0 H1 → ∀ (q : Addr), H0 q = none → H1 q = some (.lst (tells (NestNs.stepsOf st : Nat) [])) → Q (.ref q) H1 := fun N0 s1 q n2 h2 => by
      exact fin _ q st rfl (N0.grow s1) (N0.sm.free n2) h2
    obtain ⟨⟨x, y, z, m, tf, N, tag⟩, M, S, dp, F⟩ := id NA
    refine ⟨_, (pss_one (ps_ret (pe_call G_tell (hr.mono (by decide)) rfl T.mg_tell T.f_tell.kp T.b_tell .nil pass0 (pa_cons (pe_op op_add (pe_maxD rfl (by rfl) T.n_max (pa_cons (pe_fld (pe_meth0 (pv 0) T.cl_Nest T.m_Nest_meetings G_Nest_meetings (hr.mono (by decide)) T.b_Nest_meetings .nil pass0) rfl) pa_nil) (pe_un un_neg pe_int)) pe_int) (pa_cons (pe_lst pa_nil) pa_nil))))), ?_⟩
    try dsimp only [cxOf, Cx.nox]
    refine rd_meth rfl M.obj rfl ⟨⟨B, p, st⟩, rfl, NA, fun H1 q N1 M1 => ?_⟩
    obtain ⟨D, D1⟩ := id M1
    have last : ∀ (w : Int), w + 1 = (NestNs.stepsOf st : Nat) → ∀ (a : Addr) (ha : H1 a = none), sp_tell K A [.int (w + 1), .ref a] (upd H1 a (.lst [])) Q E0 := fun w hw a ha => by
      have s1 := same_new (o := HO.lst []) ha
      rw [← hw] at fin
      exact ⟨⟨_, a, []⟩, rfl, upd_same, Nat.zero_le _, fun H2 q s2 n2 h2 => fin N1 (s1.trans s2) q (s1.free n2) h2⟩
    refine ⟨q, _, _, _, _, rfl, D1.obj, T.cl_Meetings, T.na_Meetings_levels, rfl, ?_⟩
    refine ⟨_, rfl, D.va, lvInts st, -1, rfl, rfl, SqL.of D1.lev, fun e => ?_, fun w h1 h2 => ?_⟩
    · refine ⟨_, _, rfl, rfl, Nat.zero_le _, fun a ha => last (-1) ?_ a ha⟩
      rw [steps_none e]
      rfl
    · exact ⟨_, _, rfl, rfl, Nat.zero_le _, fun a ha => last w (steps_max h1 h2) a ha⟩
end
end My
namespace My
open PySem PySem.Spec PyProof.Rows L2
section
variable {P : Program} {w : World} {K : PySem.W.Frag} {mg : Str → Option Value} {base : Heap} {A : Ad}
-- uses answer_stmt
-- uses Nest_meetings
def sp_answer_at (K : PySem.W.Frag) (A : Ad) : Sp := fun vs H Q _ => ∃ d : P4 Hp Addr NestNs.Nest Nat, d.un fun B p s l => A3 (vs = [.ref p, nV l]) (NestAt K A B H p s) (Asks K A B p (NestNs.on s (.at_ l)) Q)
theorem ok_answer_at (T : Txt K mg A) (G_Nest_meetings : FnOk P w K mg base CX0 5 A.a_Nest_meetings A.d_Nest_meetings ["self"] (sp_Nest_meetings K A)) (G_tell : FnOk P w K mg base CX0 1 A.a_tell A.d_tell ["number", "behind"] (sp_tell K A)) : FnOk P w K mg base CX0 6 A.a_answer_at A.d_answer_at ["nest", "step"] (sp_answer_at K A) := by
  refine T.f_answer_at.ok sc_answer_at (fun vs H Q E h => ?_) (fun cdv A' outer s H vs Q E hr h => ?_)
  · obtain ⟨⟨_, _, _, _⟩, rfl, _⟩ := h
    rfl
  · obtain ⟨⟨B, p, st, l⟩, rfl, NA, fin⟩ := h
    have fin : ∀ {H0 H1 : Hp}, NestAt K A B H0 p st → Same H0 H1 → ∀ (q : Addr), H0 q = none → H1 q = some (.lst (tells (((NestNs.levels st).filter fun (x : NestNs.Inst × Nat) => x.2 == l).length : Nat) [])) → Q (.ref q) H1 := fun N0 s1 q n2 h2 => by
      exact fin _ q st rfl (N0.grow s1) (N0.sm.free n2) h2
    obtain ⟨⟨x, y, z, m, tf, N, tag⟩, M, S, dp, F⟩ := id NA
    rw [← at_count] at fin
    refine ⟨_, (pss_one (ps_ret (pe_call G_tell (hr.mono (by decide)) rfl T.mg_tell T.f_tell.kp T.b_tell .nil pass0 (pa_cons (pe_bm PySem.F.plainAttrs_list PySem.F.slot_list_count PySem.F.type_list_count mt_countL (pe_fld (pe_meth0 (pv 0) T.cl_Nest T.m_Nest_meetings G_Nest_meetings (hr.mono (by decide)) T.b_Nest_meetings .nil pass0) rfl) (pa_cons (pv 1) pa_nil)) (pa_cons (pe_lst pa_nil) pa_nil))))), ?_⟩
    try dsimp only [cxOf, Cx.nox]
    refine rd_meth rfl M.obj rfl ⟨⟨B, p, st⟩, rfl, NA, fun H1 q N1 M1 => ?_⟩
    obtain ⟨D, D1⟩ := id M1
    refine ⟨q, _, _, _, _, rfl, D1.obj, T.cl_Meetings, T.na_Meetings_levels, rfl, .inl ⟨rfl, _, SqL.of D1.lev⟩, _, rfl, D.va, lvInts st, (l : Int), rfl, rfl, SqL.of D1.lev, Nat.zero_le _, fun a ha => ?_⟩
    have s1 := same_new (o := HO.lst []) ha
    exact ⟨⟨_, a, []⟩, rfl, upd_same, Nat.zero_le _, fun H2 q s2 n2 h2 => fin N1 (s1.trans s2) q (s1.free n2) h2⟩
end
end My
namespace My
open PySem PySem.Spec PyProof.Rows L2
section
variable {P : Program} {w : World} {K : PySem.W.Frag} {mg : Str → Option Value} {base : Heap} {A : Ad}
-- uses answer_stmt
-- uses answer_meet
-- uses Nest_level_of
def sp_answer_level (K : PySem.W.Frag) (A : Ad) : Sp := fun vs H Q _ => ∃ d : P5 Hp Addr Addr NestNs.Nest (List Nat), d.un fun B p u s us => A4 (vs = [.ref p, .ref u]) (NestAt K A B H p s) (NatsL B u us) (Asks K A B p (NestNs.on s (.level us)) Q)
theorem ok_answer_level (T : Txt K mg A) (G_Nest_is_instance : FnOk P w K mg base CX0 2 A.a_Nest_is_instance A.d_Nest_is_instance ["self", "told"] (sp_Nest_is_instance K A)) (G_Nest_level_of : FnOk P w K mg base CX0 6 A.a_Nest_level_of A.d_Nest_level_of ["self", "instance"] (sp_Nest_level_of K A)) (G_tell : FnOk P w K mg base CX0 1 A.a_tell A.d_tell ["number", "behind"] (sp_tell K A)) : FnOk P w K mg base CX0 7 A.a_answer_level A.d_answer_level ["nest", "u"] (sp_answer_level K A) := by
  refine T.f_answer_level.ok sc_answer_level (fun vs H Q E h => ?_) (fun cdv A' outer s H vs Q E hr h => ?_)
  · obtain ⟨⟨_, _, _, _, _⟩, rfl, _⟩ := h
    rfl
  · obtain ⟨⟨B, p, u, st, us⟩, rfl, NA, hu, fin⟩ := h
    have tl : ∀ {H0 H1 : Hp}, NestAt K A B H0 p st → Same H0 H1 → ∀ (q : Addr) (zz : Int), H0 q = none → H1 q = some (.lst (tells zz [])) → NestNs.on st (.level us) = (some st, NestNs.says zz) → Q (.ref q) H1 := fun N0 s1 q zz n2 h2 e1 => by
      rw [e1] at fin
      exact fin _ q st rfl (N0.grow s1) (N0.sm.free n2) h2
    have on_eq : NestNs.on st (.level us) = (some st, match NestNs.instOf st us with | some x => NestNs.says (NestNs.levelOf st x : Nat) | none => NestNs.says (-1)) := rfl
    obtain ⟨⟨x, y, z, m, tf, N, tag⟩, M, S, dp, F⟩ := id NA
    refine ⟨_, (pss_cons (ps_if (pt_not (pt_val (pe_meth (pv 0) T.cl_Nest T.m_Nest_is_instance G_Nest_is_instance (hr.mono (by decide)) T.b_Nest_is_instance .nil pass0 (pa_cons (pv 1) pa_nil))))
          (pss_one (ps_ret (pe_call G_tell (hr.mono (by decide)) rfl T.mg_tell T.f_tell.kp T.b_tell .nil pass0 (pa_cons (pe_un un_neg pe_int) (pa_cons (pe_lst pa_nil) pa_nil)))))
          pss_nil)
        (pss_one (ps_ret (pe_call G_tell (hr.mono (by decide)) rfl T.mg_tell T.f_tell.kp T.b_tell .nil pass0 (pa_cons (pe_meth (pv 0) T.cl_Nest T.m_Nest_level_of G_Nest_level_of (hr.mono (by decide)) T.b_Nest_level_of .nil pass0 (pa_cons (pv 1) pa_nil)) (pa_cons (pe_lst pa_nil) pa_nil)))))), ?_⟩
    try dsimp only [cxOf, Cx.nox]
    refine rd_meth rfl M.obj rfl ⟨_, rfl, ⟨B, p, x, y, z, m, tf, N, tag, u, us⟩, rfl, M, M.sm _ _ hu, _, rfl, ?_⟩
    by_cases hi : isInst x y z m us
    · refine iteQ (by simp [hi]) ?_
      obtain ⟨a, b, c, k, rfl, h1, h2, h3, h4, e1⟩ := inst_some S hi
      rw [e1] at on_eq
      refine rd_meth rfl M.obj rfl ⟨_, rfl, ⟨B, p, u, st, _, _⟩, rfl, NA, hu, e1, fun H1 N1 => ?_⟩
      refine ⟨Nat.zero_le _, fun r hr => ?_⟩
      have s1 := same_new (o := HO.lst []) hr
      exact ⟨⟨_, r, []⟩, rfl, upd_same, Nat.zero_le _, fun H2 q s2 n2 h2 => tl N1 (s1.trans s2) q _ (s1.free n2) h2 on_eq⟩
    · refine iteP (by simp [hi]) ?_
      refine ⟨_, rfl, Nat.zero_le _, fun r hr => ?_⟩
      have s1 := same_new (o := HO.lst []) hr
      exact ⟨⟨-1, r, []⟩, rfl, upd_same, Nat.zero_le _, fun H2 q s2 n2 h2 => tl NA (s1.trans s2) q _ (s1.free n2) h2 (by rw [on_eq, inst_none S hi])⟩
end
end My
namespace My
open PySem PySem.Spec PyProof.Rows L2
section
variable {P : Program} {w : World} {K : PySem.W.Frag} {mg : Str → Option Value} {base : Heap} {A : Ad}
-- uses read_calls
-- uses Desk_answer_init
-- uses answer_stmt
def sp_Desk_answer (K : PySem.W.Frag) (A : Ad) : Sp := fun vs H Q _ => ∃ d : P5 Hp Addr Addr NestNs.State (List (List Int)), d.un fun B d r st c => A6 (vs = [.ref d, .ref r]) (DeskAt K A B H d st) (CallAt A B r c) (NestNeutral.asked1 c = true) (Shaped c) (AskD K A B d (NestNeutral.step st c).1 (NestNeutral.step st c).2 Q)
/-- if call.kind == n -/
theorem kind_if {K : PySem.W.Frag} {A : Ad} {H : Hp} {σ : L2.St} {r dx n l : Addr} {k z : Int} {t u : TS} {D : Ends} (cl : Cls K A.c_Call) (na : NoAttr K A.c_Call "kind") (hs : σ[1]? = some (some (.ref r))) (hr : H r = some (.ins A.c_Call dx (callF k n l)))
    (h1 : k = z → t D σ H) (h2 : k ≠ z → u D σ H) : tIfS (tTest (tOp rEq (tFld K (tVar 1) "kind") (tC (.int z)))) t u D σ H := by
  refine ⟨_, hs, r, _, dx, _, _, rfl, hr, cl, na, rfl, rfl, _, rfl, ?_⟩
  by_cases e : k = z
  · exact iteP (decide_eq_true (by rw [e])) (h1 e)
  · exact iteQ (by rw [decide_eq_true_eq]; intro q; injection q with q; exact e q) (h2 e)
/-- if self.nest is None -/
theorem none_if {K : PySem.W.Frag} {A : Ad} {H : Hp} {σ : L2.St} {d dx : Addr} {v : V} {t u : TS} {D : Ends} (cl : Cls K A.c_Desk) (na : NoAttr K A.c_Desk "nest") (hs : σ[0]? = some (some (.ref d))) (hd : H d = some (.ins A.c_Desk dx (deskF v)))
    (h1 : v = .non → t D σ H) (h2 : v ≠ .non → u D σ H) : tIfS (tTest (tOp (fun x y H Q => y = .non ∧ Q (.bl (decide (x = .non))) H) (tFld K (tVar 0) "nest") (tC .non))) t u D σ H := by
  refine ⟨_, hs, d, _, dx, _, _, rfl, hd, cl, na, rfl, rfl, _, rfl, ?_⟩
  by_cases e : v = .non
  · exact iteP (decide_eq_true e) (h1 e)
  · exact iteQ (by rw [decide_eq_true_eq]; exact e) (h2 e)
theorem ints_nats {B : Hp} {r : Addr} {l : List Int} (h : IntsL B r l) (h0 : ∀ z ∈ l, N64 z) : NatsL B r (NestNeutral.nats l) := by
  unfold NatsL NestNeutral.nats
  rw [List.map_map]
  have : l.map (nV ∘ Int.toNat) = l.map V.int := List.map_congr_left fun z hz => by
    show V.int ((z.toNat : Nat) : Int) = V.int z
    rw [Int.toNat_of_nonneg (h0 z hz).1]
  rw [this]
  exact h
theorem one_row {B : Hp} {rs : List Addr} {x : List Int} (h : Paired (IntsL B) rs [x]) : ∃ a, rs = [a] ∧ IntsL B a x := by
  cases h with
  | cons h1 h2 => cases h2; exact ⟨_, rfl, h1⟩
theorem two_rows {B : Hp} {rs : List Addr} {x y : List Int} (h : Paired (IntsL B) rs [x, y]) : ∃ a b, rs = [a, b] ∧ IntsL B a x ∧ IntsL B b y := by
  cases h with
  | cons h1 h2 => obtain ⟨b, rfl, h3⟩ := one_row h2; exact ⟨_, _, rfl, h1, h3⟩
theorem nat_of {z : Int} (h : N64 z) : ∃ n : Nat, z = (n : Int) ∧ z.toNat = n := ⟨z.toNat, by have := h.1; omega, rfl⟩
/-- a nest's own call, by the desk -/
theorem AskD.asks {K : PySem.W.Frag} {A : Ad} {B : Hp} {d dx p : Addr} {r : NestNs.State × NestNs.Answer} {Q : VK} (hd : B d = some (.ins A.c_Desk dx (deskF (.ref p)))) (f : AskD K A B d r.1 (NestNeutral.numbersOf r.2) Q) : Asks K A B p r Q := by
  intro H' q s' e M nq hq
  refine f B H' q (fun b o h _ => h) ⟨M.sm, dx, _, hd, ?_⟩ nq hq
  rw [e]
  exact ⟨p, rfl, M⟩
theorem ok_Desk_answer (T : Txt K mg A) (G_Desk_answer_init : FnOk P w K mg base CX0 4 A.a_Desk_answer_init A.d_Desk_answer_init ["self", "d", "n"] (sp_Desk_answer_init K A)) (G_answer_access : FnOk P w K mg base CX0 3 A.a_answer_access A.d_answer_access ["nest", "numbers", "rows"] (sp_answer_access K A)) (G_answer_at : FnOk P w K mg base CX0 6 A.a_answer_at A.d_answer_at ["nest", "step"] (sp_answer_at K A)) (G_answer_carried : FnOk P w K mg base CX0 6 A.a_answer_carried A.d_answer_carried ["nest", "loop"] (sp_answer_carried K A)) (G_answer_dep : FnOk P w K mg base CX0 6 A.a_answer_dep A.d_answer_dep ["nest", "s", "t"] (sp_answer_dep K A)) (G_answer_level : FnOk P w K mg base CX0 7 A.a_answer_level A.d_answer_level ["nest", "u"] (sp_answer_level K A)) (G_answer_meet : FnOk P w K mg base CX0 4 A.a_answer_meet A.d_answer_meet ["nest", "u", "v"] (sp_answer_meet K A)) (G_answer_steps : FnOk P w K mg base CX0 6 A.a_answer_steps A.d_answer_steps ["nest"] (sp_answer_steps K A)) (G_answer_stmt : FnOk P w K mg base CX0 2 A.a_answer_stmt A.d_answer_stmt ["nest"] (sp_answer_stmt K A)) (G_answer_try : FnOk P w K mg base CX0 6 A.a_answer_try A.d_answer_try ["nest", "k", "rows"] (sp_answer_try K A)) (G_tell : FnOk P w K mg base CX0 1 A.a_tell A.d_tell ["number", "behind"] (sp_tell K A)) : FnOk P w K mg base CX0 8 A.a_Desk_answer A.d_Desk_answer ["self", "call"] (sp_Desk_answer K A) := by
  refine T.f_Desk_answer.ok sc_Desk_answer (fun vs H Q E h => ?_) (fun cdv A' outer s H vs Q E hr h => ?_)
  · obtain ⟨⟨_, _, _, _, _⟩, rfl, _⟩ := h
    rfl
  · obtain ⟨⟨B, d, r, st, c⟩, rfl, D, ⟨dx, n, l, k, ns, xs, rs, rfl, hrr, hn, hl, hp⟩, hask, hshp, fin⟩ := h
    have hrH := D.1 _ _ hrr
    have hnH : SqL K H n (ns.map V.int) := SqL.of (D.1 _ _ hn)
    have hlH : SqL K H l (rs.map V.ref) := SqL.of (D.1 _ _ hl)
    obtain ⟨cdx, nv, hd, hst⟩ := id D.2
    have hdH := D.1 _ _ hd
    refine ⟨_, (pss_cons (ps_if (pt_cmpR op_eq (pe_fld (pv 1) rfl) (pe_glob (v := .int 0) rfl T.g_INIT.choose_spec ⟨_, rfl⟩) (nomark _))
          (pss_one (ps_ret (pe_meth (pv 0) T.cl_Desk T.m_Desk_answer_init G_Desk_answer_init (hr.mono (by decide)) T.b_Desk_answer_init .nil pass0 (pa_cons (pe_ix ix_list (pe_fld (pv 1) rfl) pe_int (fun _ _ => rfl)) (pa_cons (pe_ix ix_list (pe_fld (pv 1) rfl) pe_int (fun _ _ => rfl)) pa_nil)))))
          pss_nil)
        (pss_cons (ps_if (pt_cmpR op_isN (pe_fld (pv 0) rfl) pe_non (nomark _))
          (pss_one (ps_ret (pe_call G_tell (hr.mono (by decide)) rfl T.mg_tell T.f_tell.kp T.b_tell .nil pass0 (pa_cons (pe_un un_neg pe_int) (pa_cons (pe_lst pa_nil) pa_nil)))))
          pss_nil)
        (pss_cons (ps_if (pt_cmpR op_eq (pe_fld (pv 1) rfl) (pe_glob (v := .int 1) rfl T.g_STMT.choose_spec ⟨_, rfl⟩) (nomark _))
          (pss_one (ps_ret (pe_call G_answer_stmt (hr.mono (by decide)) rfl T.mg_answer_stmt T.f_answer_stmt.kp T.b_answer_stmt .nil pass0 (pa_cons (pe_fld (pv 0) rfl) pa_nil))))
          pss_nil)
        (pss_cons (ps_if (pt_cmpR op_eq (pe_fld (pv 1) rfl) (pe_glob (v := .int 2) rfl T.g_ACCESS.choose_spec ⟨_, rfl⟩) (nomark _))
          (pss_one (ps_ret (pe_call G_answer_access (hr.mono (by decide)) rfl T.mg_answer_access T.f_answer_access.kp T.b_answer_access .nil pass0 (pa_cons (pe_fld (pv 0) rfl) (pa_cons (pe_fld (pv 1) rfl) (pa_cons (pe_ix ix_list (pe_fld (pv 1) rfl) pe_int (fun _ _ => rfl)) pa_nil))))))
          pss_nil)
        (pss_cons (ps_if (pt_cmpR op_eq (pe_fld (pv 1) rfl) (pe_glob (v := .int 3) rfl T.g_MEET.choose_spec ⟨_, rfl⟩) (nomark _))
          (pss_one (ps_ret (pe_call G_answer_meet (hr.mono (by decide)) rfl T.mg_answer_meet T.f_answer_meet.kp T.b_answer_meet .nil pass0 (pa_cons (pe_fld (pv 0) rfl) (pa_cons (pe_ix ix_list (pe_fld (pv 1) rfl) pe_int (fun _ _ => rfl)) (pa_cons (pe_ix ix_list (pe_fld (pv 1) rfl) pe_int (fun _ _ => rfl)) pa_nil))))))
          pss_nil)
        (pss_cons (ps_if (pt_cmpR op_eq (pe_fld (pv 1) rfl) (pe_glob (v := .int 4) rfl T.g_DEP.choose_spec ⟨_, rfl⟩) (nomark _))
          (pss_one (ps_ret (pe_call G_answer_dep (hr.mono (by decide)) rfl T.mg_answer_dep T.f_answer_dep.kp T.b_answer_dep .nil pass0 (pa_cons (pe_fld (pv 0) rfl) (pa_cons (pe_ix ix_list (pe_fld (pv 1) rfl) pe_int (fun _ _ => rfl)) (pa_cons (pe_ix ix_list (pe_fld (pv 1) rfl) pe_int (fun _ _ => rfl)) pa_nil))))))
          pss_nil)
        (pss_cons (ps_if (pt_cmpR op_eq (pe_fld (pv 1) rfl) (pe_glob (v := .int 5) rfl T.g_CARRIED.choose_spec ⟨_, rfl⟩) (nomark _))
          (pss_one (ps_ret (pe_call G_answer_carried (hr.mono (by decide)) rfl T.mg_answer_carried T.f_answer_carried.kp T.b_answer_carried .nil pass0 (pa_cons (pe_fld (pv 0) rfl) (pa_cons (pe_ix ix_list (pe_fld (pv 1) rfl) pe_int (fun _ _ => rfl)) pa_nil)))))
          pss_nil)
        (pss_cons (ps_if (pt_cmpR op_eq (pe_fld (pv 1) rfl) (pe_glob (v := .int 6) rfl T.g_TRY.choose_spec ⟨_, rfl⟩) (nomark _))
          (pss_one (ps_ret (pe_call G_answer_try (hr.mono (by decide)) rfl T.mg_answer_try T.f_answer_try.kp T.b_answer_try .nil pass0 (pa_cons (pe_fld (pv 0) rfl) (pa_cons (pe_ix ix_list (pe_fld (pv 1) rfl) pe_int (fun _ _ => rfl)) (pa_cons (pe_ix ix_list (pe_fld (pv 1) rfl) pe_int (fun _ _ => rfl)) pa_nil))))))
          pss_nil)
        (pss_cons (ps_if (pt_cmpR op_eq (pe_fld (pv 1) rfl) (pe_glob (v := .int 7) rfl T.g_STEPS.choose_spec ⟨_, rfl⟩) (nomark _))
          (pss_one (ps_ret (pe_call G_answer_steps (hr.mono (by decide)) rfl T.mg_answer_steps T.f_answer_steps.kp T.b_answer_steps .nil pass0 (pa_cons (pe_fld (pv 0) rfl) pa_nil))))
          pss_nil)
        (pss_cons (ps_if (pt_cmpR op_eq (pe_fld (pv 1) rfl) (pe_glob (v := .int 8) rfl T.g_LEVEL.choose_spec ⟨_, rfl⟩) (nomark _))
          (pss_one (ps_ret (pe_call G_answer_level (hr.mono (by decide)) rfl T.mg_answer_level T.f_answer_level.kp T.b_answer_level .nil pass0 (pa_cons (pe_fld (pv 0) rfl) (pa_cons (pe_ix ix_list (pe_fld (pv 1) rfl) pe_int (fun _ _ => rfl)) pa_nil)))))
          pss_nil)
        (pss_one (ps_ret (pe_call G_answer_at (hr.mono (by decide)) rfl T.mg_answer_at T.f_answer_at.kp T.b_answer_at .nil pass0 (pa_cons (pe_fld (pv 0) rfl) (pa_cons (pe_ix ix_list (pe_fld (pv 1) rfl) pe_int (fun _ _ => rfl)) pa_nil))))))))))))))), ?_⟩
    try dsimp only [cxOf, Cx.nox]
    have F := form_of hask (by
      obtain ⟨p, ns', xs', e, e2⟩ := hshp
      injection e with e1 e3
      injection e1 with e1 e4
      subst e1 e3 e4
      exact e2)
    refine kind_if T.cl_Call T.na_Call_kind rfl hrH (fun e => ?_) (fun n0 => ?_)
    · -- init
      obtain ⟨D', r', rfl, rfl, b1, b2⟩ := F.f0 e
      subst e
      obtain ⟨ra, rfl, hra⟩ := one_row hp
      obtain ⟨D0, rfl, eD⟩ := nat_of b1
      refine rd_meth rfl hdH rfl (rd_fld rfl hrH T.cl_Call T.na_Call_numbers rfl (rd_ix hnH rfl (rd_fld rfl hrH T.cl_Call T.na_Call_lists rfl (rd_ix hlH rfl ?_))))
      exact ⟨⟨B, d, ra, st, D0, NestNeutral.nats r'⟩, rfl, D, ints_nats hra b2, nats_lt b2, fin⟩
    refine none_if T.cl_Desk T.na_Desk_nest rfl hdH (fun e => ?_) (fun nn => ?_)
    · -- no nest yet
      have est : st = none := by
        cases st with
        | none => rfl
        | some s => obtain ⟨p, e2, _⟩ := hst; rw [e] at e2; cases e2
      subst est
      rw [F.beg n0] at fin
      refine ⟨_, rfl, Nat.zero_le _, fun a1 n1 => ?_⟩
      have s1 := same_new (o := HO.lst []) n1
      refine ⟨⟨-8, a1, []⟩, rfl, upd_same, Nat.zero_le _, fun H2 q s2 n2 h2 => ?_⟩
      exact fin B H2 q (fun b o h _ => h) ⟨D.1.trans (s1.trans s2), cdx, nv, hd, e⟩ (D.1.free (s1.free n2)) h2
    obtain ⟨s', rfl, p, rfl, M⟩ : ∃ s', st = some s' ∧ ∃ p, nv = .ref p ∧ NestAt K A B H p s' := by
      cases st with
      | none => exact absurd hst nn
      | some s => obtain ⟨p, e2, M⟩ := hst; exact ⟨s, rfl, p, e2, M⟩
    refine kind_if T.cl_Call T.na_Call_kind rfl hrH (fun e => ?_) (fun n1 => ?_)
    · -- stmt
      obtain ⟨rfl, rfl⟩ := F.f1 e
      subst e
      exact rd_fld rfl hdH T.cl_Desk T.na_Desk_nest rfl ⟨⟨B, p, s'⟩, rfl, M, AskD.asks hd fin⟩
    refine kind_if T.cl_Call T.na_Call_kind rfl hrH (fun e => ?_) (fun n2 => ?_)
    · -- access
      obtain ⟨a, b, w', e', rfl, rfl, b1, b2, b3, b4⟩ := F.f2 e
      subst e
      obtain ⟨ra, rfl, hra⟩ := one_row hp
      have hn3 := ints_nats hn (fun z hz => by
        simp at hz
        rcases hz with rfl | rfl | rfl <;> assumption)
      exact rd_fld rfl hdH T.cl_Desk T.na_Desk_nest rfl (rd_fld rfl hrH T.cl_Call T.na_Call_numbers rfl (rd_fld rfl hrH T.cl_Call T.na_Call_lists rfl (rd_ix hlH rfl ⟨⟨B, p, n, ra, s', _, _, _, e'⟩, rfl, M, hn3, hra, b4, AskD.asks hd fin⟩)))
    refine kind_if T.cl_Call T.na_Call_kind rfl hrH (fun e => ?_) (fun n3 => ?_)
    · -- meet
      obtain ⟨u, v, rfl, rfl, b1, b2⟩ := F.f3 e
      subst e
      obtain ⟨ra, rb, rfl, hra, hrb⟩ := two_rows hp
      exact rd_fld rfl hdH T.cl_Desk T.na_Desk_nest rfl (rd_fld rfl hrH T.cl_Call T.na_Call_lists rfl (rd_ix hlH rfl (rd_fld rfl hrH T.cl_Call T.na_Call_lists rfl (rd_ix hlH rfl ⟨⟨B, p, ra, rb, s', _, _⟩, rfl, M, ints_nats hra b1, ints_nats hrb b2, AskD.asks hd fin⟩))))
    refine kind_if T.cl_Call T.na_Call_kind rfl hrH (fun e => ?_) (fun n4 => ?_)
    · -- dep
      obtain ⟨a, b, rfl, rfl, b1, b2⟩ := F.f4 e
      subst e
      obtain ⟨a, rfl, ea⟩ := nat_of b1
      obtain ⟨b, rfl, eb⟩ := nat_of b2
      exact rd_fld rfl hdH T.cl_Desk T.na_Desk_nest rfl (rd_fld rfl hrH T.cl_Call T.na_Call_numbers rfl (rd_ix hnH rfl (rd_fld rfl hrH T.cl_Call T.na_Call_numbers rfl (rd_ix hnH rfl ⟨⟨B, p, s', a, b⟩, rfl, M, AskD.asks hd fin⟩))))
    refine kind_if T.cl_Call T.na_Call_kind rfl hrH (fun e => ?_) (fun n5 => ?_)
    · -- carried
      obtain ⟨a, rfl, rfl, b1⟩ := F.f5 e
      subst e
      obtain ⟨a, rfl, ea⟩ := nat_of b1
      exact rd_fld rfl hdH T.cl_Desk T.na_Desk_nest rfl (rd_fld rfl hrH T.cl_Call T.na_Call_numbers rfl (rd_ix hnH rfl ⟨⟨B, p, s', a⟩, rfl, M, AskD.asks hd fin⟩))
    refine kind_if T.cl_Call T.na_Call_kind rfl hrH (fun e => ?_) (fun n6 => ?_)
    · -- try
      obtain ⟨a, rw', rfl, rfl, b1, b2⟩ := F.f6 e
      subst e
      obtain ⟨a, rfl, ea⟩ := nat_of b1
      obtain ⟨ra, rfl, hra⟩ := one_row hp
      exact rd_fld rfl hdH T.cl_Desk T.na_Desk_nest rfl (rd_fld rfl hrH T.cl_Call T.na_Call_numbers rfl (rd_ix hnH rfl (rd_fld rfl hrH T.cl_Call T.na_Call_lists rfl (rd_ix hlH rfl ⟨⟨B, p, ra, s', a, rw'⟩, rfl, M, hra, b2, AskD.asks hd fin⟩))))
    refine kind_if T.cl_Call T.na_Call_kind rfl hrH (fun e => ?_) (fun n7 => ?_)
    · -- steps
      obtain ⟨rfl, rfl⟩ := F.f7 e
      subst e
      exact rd_fld rfl hdH T.cl_Desk T.na_Desk_nest rfl ⟨⟨B, p, s'⟩, rfl, M, AskD.asks hd fin⟩
    refine kind_if T.cl_Call T.na_Call_kind rfl hrH (fun e => ?_) (fun n8 => ?_)
    · -- level
      obtain ⟨u, rfl, rfl, b1⟩ := F.f8 e
      subst e
      obtain ⟨ra, rfl, hra⟩ := one_row hp
      exact rd_fld rfl hdH T.cl_Desk T.na_Desk_nest rfl (rd_fld rfl hrH T.cl_Call T.na_Call_lists rfl (rd_ix hlH rfl ⟨⟨B, p, ra, s', _⟩, rfl, M, ints_nats hra b1, AskD.asks hd fin⟩))
    -- at
    have e : k = 9 := by have := F.all; omega
    obtain ⟨a, rfl, rfl, b1⟩ := F.f9 e
    subst e
    obtain ⟨a, rfl, ea⟩ := nat_of b1
    exact ⟨_, rfl, d, _, _, _, _, rfl, hdH, T.cl_Desk, T.na_Desk_nest, rfl, _, rfl, r, _, _, _, _, rfl, hrH, T.cl_Call, T.na_Call_numbers, rfl, n, _, _, _, rfl, rfl, hnH, rfl, ⟨B, p, s', a⟩, rfl, M, AskD.asks hd fin⟩
end
end My
namespace My
open PySem PySem.Spec PyProof.Rows L2
section
variable {P : Program} {w : World} {K : PySem.W.Frag} {mg : Str → Option Value} {base : Heap} {A : Ad}
-- uses read_calls
-- uses Desk_answer
theorem DeskAt.upd_ {K : PySem.W.Frag} {A : Ad} {B H : Hp} {d : Addr} {st : NestNs.State} (D : DeskAt K A B H d st) {l : Addr} {v : List V} {o' : HO} (hl : B l = some (.lst v)) (hd : d ≠ l) : DeskAt K A (upd B l o') (upd H l o') d st := by
  obtain ⟨sm, dx, w, h1, h2⟩ := D
  refine ⟨fun b o e => ?_, dx, w, by rw [upd_ne hd]; exact h1, ?_⟩
  · by_cases hb : b = l
    · rw [hb, upd_same] at e ⊢; exact e
    · rw [upd_ne hb] at e ⊢; exact sm _ _ e
  · cases st with
    | none => exact h2
    | some s =>
      obtain ⟨p, e, ⟨x, y, z, m, tf, N, tag⟩, M, S, dp, F⟩ := h2
      exact ⟨p, e, ⟨x, y, z, m, tf, N, tag⟩, M.upd_ hl (fun xs q => by cases q) (fun ob u q => by cases q), S, dp, by rw [newer_both hl]; exact F⟩
def sp_top (K : PySem.W.Frag) : Sp := fun vs H Q _ => ∃ (a : Addr) (l : List Int), vs = [.ref a] ∧ SqL K H a (l.map V.int) ∧ PyWqaeao.answers_asked l = true ∧
  ∀ (H' : Hp) (p : Addr), H' p = some (.lst ((PyWqaeao.answers l).map V.int)) → Q (.ref p) H'
def sp_answers (K : PySem.W.Frag) (_ : Ad) : Sp := sp_top K
theorem ok_answers (T : Txt K mg A) (G_Desk_answer : FnOk P w K mg base CX0 8 A.a_Desk_answer A.d_Desk_answer ["self", "call"] (sp_Desk_answer K A)) (G_Desk_init : FnOk P w K mg base CX0 1 A.a_Desk_init A.d_Desk_init ["self"] (sp_Desk_init K A)) (G_read_calls : FnOk P w K mg base CX0 3 A.a_read_calls A.d_read_calls ["line"] (sp_read_calls K A)) : FnOk P w K mg base CX0 9 A.a_answers A.d_answers ["calls"] (sp_answers K A) := by
  refine T.f_answers.ok sc_answers (fun vs H Q E h => ?_) (fun cdv A' outer s H vs Q E hr h => ?_)
  · obtain ⟨a, l, rfl, _⟩ := h
    rfl
  · obtain ⟨a, l, rfl, ha, hask, fin⟩ := h
    obtain ⟨cs, hcs, hall, _, h400, hans⟩ := asked_calls hask
    rw [hans] at fin
    refine ⟨_, (pss_cons (ps_set (i := 1) sc_answers.nd rfl (Or.inl rfl) (pe_make0 T.mk_Desk G_Desk_init (hr.mono (by decide)) rfl T.mgc_Desk T.b_Desk_init .nil pass0))
        (pss_cons (ps_set (i := 2) sc_answers.nd rfl (Or.inl rfl) (pe_lst pa_nil))
        (pss_cons (ps_for PassesOwn.never rfl (pi_list (pe_call G_read_calls (hr.mono (by decide)) rfl T.mg_read_calls T.f_read_calls.kp T.b_read_calls .nil pass0 (pa_cons (pv 0) pa_nil))) (pg_name (i := 3) sc_answers.nd rfl (Or.inl rfl))
          (pss_cons (ps_set (i := 4) sc_answers.nd rfl (Or.inl rfl) (pe_meth (pv 1) T.cl_Desk T.m_Desk_answer G_Desk_answer (hr.mono (by decide)) T.b_Desk_answer .nil pass0 (pa_cons (pv 3) pa_nil)))
            (pss_cons (ps_expr (pe_bm PySem.F.plainAttrs_list PySem.F.slot_list_append PySem.F.type_list_append mt_append (pv 2) (pa_cons (pe_callB (cr_len (K := K) rfl) (by rfl) T.n_len PySem.boot_len (pa_cons (pv 4) pa_nil)) pa_nil)))
            (pss_one (ps_expr (pe_bm PySem.F.plainAttrs_list PySem.F.slot_list_extend PySem.F.type_list_extend mt_extend (pv 2) (pa_cons (pv 4) pa_nil)))))))
        (pss_one (ps_ret (pv 2)))))), ?_⟩
    try dsimp only [cxOf, Cx.nox]
    -- desk = Desk()
    intro d dx nd ndx hne
    refine ⟨⟨d, dx⟩, rfl, upd_same, fun H1 hd1 k1 => ⟨rfl, ?_⟩⟩
    have s1 : Same H H1 := Same.made nd ndx k1
    -- line = []
    refine ⟨Nat.zero_le _, fun ln nln => ?_⟩
    have s2 := same_new (o := HO.lst []) nln
    have dln : d ≠ ln := ne_of_none hd1 nln
    -- for call in read_calls(calls)
    refine ⟨_, rfl, ⟨a, l, cs⟩, rfl, (s1.trans s2).seq ha, h400, hcs, fun H3 p rs C => ?_⟩
    have pln : p ≠ ln := fun e => by have := C.fr; rw [e, upd_same] at this; cases this
    have h3d : H3 d = some (.ins A.c_Desk dx (deskF .non)) := C.same _ _ (s2 _ _ hd1)
    have pd : p ≠ d := ne_of C.lst h3d (by intro q; cases q)
    have C0 : ∀ {b : Addr} {o : HO}, newer (upd H1 ln (.lst [])) H3 p b = some o → b ≠ ln ∧ b ≠ d := fun e => by
      obtain ⟨_, h2, _⟩ := newer_not e
      exact ⟨fun q => (by rw [q, upd_same] at h2; cases h2), fun q => (by rw [q, s2 _ _ hd1] at h2; cases h2)⟩
    refine ⟨p, rfl, ⟨_, SqL.of C.lst⟩, for_list (K := K) (a := p) (xs := rs.map V.ref) (fun i σ H' => ∃ B : Hp, A5 (∃ v3 v4, σ = [some (.ref a), some (.ref d), some (.ref ln), v3, v4]) (DeskAt K A B H' d (stateBy none (cs.take i))) (B ln = some (.lst ((PyFlat.told (PyFlat.played NestNeutral.step none (cs.take i))).map V.int))) (Same (newer (upd H1 ln (.lst [])) H3 p) B) (B p = some (.lst (rs.map V.ref))))
      ⟨H3, ⟨_, _, rfl⟩, ⟨same_refl, dx, .non, h3d, rfl⟩, C.same _ _ upd_same, newer_same, C.lst⟩ (fun i σ H' _ ⟨B, _, D, _, _, hp⟩ => SqL.of (D.1 _ _ hp)) ?_ ?_⟩
    · rintro i y σ H' hi ⟨B, ⟨v3, v4, rfl⟩, D, hln, sC, hp⟩
      obtain ⟨r, hr, rfl⟩ := get_map hi
      obtain ⟨c, hc, hcall⟩ := pget C.all hr
      have hi400 : i < 400 := by have := (List.getElem?_eq_some_iff.mp hc).1; omega
      obtain ⟨dx', v, hdB, _⟩ := D.2
      refine ⟨_, rfl, d, dx', _, rfl, D.1 _ _ hdB, rfl, _, rfl, ⟨B, d, r, _, c⟩, rfl, D, mono_call A _ _ _ _ sC hcall, (hall c (List.mem_of_getElem? hc)).1, (hall c (List.mem_of_getElem? hc)).2, fun B' H4 q kB D' nq hq => ?_⟩
      have hln' := kB ln _ hln dln.symm
      have qln : q ≠ ln := (ne_of_none hln nq).symm
      have lo : (PyFlat.told (PyFlat.played NestNeutral.step none (cs.take i))).length ≤ 12 * 400 := by
        have h1 := told_len (cs.take i) none
        have h2 := List.length_take_le i cs
        have : 12 * (cs.take i).length ≤ 12 * 400 := Nat.mul_le_mul_left _ (by omega)
        omega
      have la := neutral_len (stateBy none (cs.take i)) c
      -- line.append(len(answer))
      refine ⟨_, rfl, .inl ⟨rfl, _, SqL.of (D'.1 _ _ hln')⟩, _, rfl, rd_len (SqL.of hq) ⟨ln, _, _, rfl, rfl, D'.1 _ _ hln', by rw [List.length_map]; exact size_lt (by omega), ?_⟩⟩
      -- line.extend(answer)
      refine ⟨_, rfl, .inl ⟨rfl, _, SqL.of upd_same⟩, _, rfl, ln, q, _, _, rfl, rfl, upd_same, (by rw [upd_ne qln]; exact hq), by simp only [List.length_append, List.length_map, List.length_cons, List.length_nil]; exact size_small (by omega), ?_⟩
      rw [upd_upd]
      have eo : ((PyFlat.told (PyFlat.played NestNeutral.step none (cs.take i))).map V.int ++ [V.int (((NestNeutral.step (stateBy none (cs.take i)) c).2.map V.int).length : Nat)]) ++ (NestNeutral.step (stateBy none (cs.take i)) c).2.map V.int =
          (PyFlat.told (PyFlat.played NestNeutral.step none (cs.take (i + 1)))).map V.int := by
        rw [take_snoc hc, played_snoc, told_snoc, List.map_append, List.map_cons, List.length_map, List.append_assoc]
        rfl
      rw [eo]
      refine ⟨upd B' ln _, ⟨_, _, rfl⟩, ?_, upd_same, fun b o e => ?_, ?_⟩
      · rw [take_snoc hc, stateBy_snoc]
        exact D'.upd_ hln' dln
      · obtain ⟨g1, g2⟩ := C0 e
        rw [upd_ne g1]
        exact kB b o (sC _ _ e) g2
      · rw [upd_ne pln]
        exact kB p _ hp pd
    · rintro σ H' ⟨B, ⟨v3, v4, rfl⟩, D, hln, _⟩
      rw [List.length_map, C.len, List.take_length] at hln
      exact ⟨_, rfl, fin H' ln (D.1 _ _ hln)⟩
end
end My
namespace My
open PySem PySem.Spec PyProof.Rows L2
set_option maxHeartbeats 4000000 in
theorem txt_mk {K : PySem.W.Frag} {h : Heap} {mg : Str → Option Value} (X : K.In h) (G : h.Ns mainGlobals mg)
    {c_Meetings : Addr} {c_Nest : Addr} {c_Call : Addr} {c_Desk : Addr} {a_row_at : Addr} {od_row_at an_row_at : Option Addr} {sl_row_at : Array (Option Value)} {oc_row_at kV_row_at dc_row_at pm_row_at cd_row_at ct_row_at : Value} {a_time_of : Addr} {od_time_of an_time_of : Option Addr} {sl_time_of : Array (Option Value)} {oc_time_of kV_time_of dc_time_of pm_time_of cd_time_of ct_time_of : Value} {a_Meetings_init : Addr} {od_Meetings_init an_Meetings_init : Option Addr} {sl_Meetings_init : Array (Option Value)} {oc_Meetings_init kV_Meetings_init dc_Meetings_init pm_Meetings_init cd_Meetings_init ct_Meetings_init : Value} {a_Meetings_first_dependence : Addr} {od_Meetings_first_dependence an_Meetings_first_dependence : Option Addr} {sl_Meetings_first_dependence : Array (Option Value)} {oc_Meetings_first_dependence kV_Meetings_first_dependence dc_Meetings_first_dependence pm_Meetings_first_dependence cd_Meetings_first_dependence ct_Meetings_first_dependence : Value} {a_Meetings_first_carried : Addr} {od_Meetings_first_carried an_Meetings_first_carried : Option Addr} {sl_Meetings_first_carried : Array (Option Value)} {oc_Meetings_first_carried kV_Meetings_first_carried dc_Meetings_first_carried pm_Meetings_first_carried cd_Meetings_first_carried ct_Meetings_first_carried : Value} {a_Meetings_first_barred : Addr} {od_Meetings_first_barred an_Meetings_first_barred : Option Addr} {sl_Meetings_first_barred : Array (Option Value)} {oc_Meetings_first_barred kV_Meetings_first_barred dc_Meetings_first_barred pm_Meetings_first_barred cd_Meetings_first_barred ct_Meetings_first_barred : Value} {a_meeting_pairs : Addr} {od_meeting_pairs an_meeting_pairs : Option Addr} {sl_meeting_pairs : Array (Option Value)} {oc_meeting_pairs kV_meeting_pairs dc_meeting_pairs pm_meeting_pairs cd_meeting_pairs ct_meeting_pairs : Value} {a_touches_meet : Addr} {od_touches_meet an_touches_meet : Option Addr} {sl_touches_meet : Array (Option Value)} {oc_touches_meet kV_touches_meet dc_touches_meet pm_touches_meet cd_touches_meet ct_touches_meet : Value} {a_earliest_steps : Addr} {od_earliest_steps an_earliest_steps : Option Addr} {sl_earliest_steps : Array (Option Value)} {oc_earliest_steps kV_earliest_steps dc_earliest_steps pm_earliest_steps cd_earliest_steps ct_earliest_steps : Value} {a_Nest_init : Addr} {od_Nest_init an_Nest_init : Option Addr} {sl_Nest_init : Array (Option Value)} {oc_Nest_init kV_Nest_init dc_Nest_init pm_Nest_init cd_Nest_init ct_Nest_init : Value} {a_Nest_has_loop : Addr} {od_Nest_has_loop an_Nest_has_loop : Option Addr} {sl_Nest_has_loop : Array (Option Value)} {oc_Nest_has_loop kV_Nest_has_loop dc_Nest_has_loop pm_Nest_has_loop cd_Nest_has_loop ct_Nest_has_loop : Value} {a_Nest_statement_count : Addr} {od_Nest_statement_count an_Nest_statement_count : Option Addr} {sl_Nest_statement_count : Array (Option Value)} {oc_Nest_statement_count kV_Nest_statement_count dc_Nest_statement_count pm_Nest_statement_count cd_Nest_statement_count ct_Nest_statement_count : Value} {a_Nest_has_statement : Addr} {od_Nest_has_statement an_Nest_has_statement : Option Addr} {sl_Nest_has_statement : Array (Option Value)} {oc_Nest_has_statement kV_Nest_has_statement dc_Nest_has_statement pm_Nest_has_statement cd_Nest_has_statement ct_Nest_has_statement : Value} {a_Nest_add_statement : Addr} {od_Nest_add_statement an_Nest_add_statement : Option Addr} {sl_Nest_add_statement : Array (Option Value)} {oc_Nest_add_statement kV_Nest_add_statement dc_Nest_add_statement pm_Nest_add_statement cd_Nest_add_statement ct_Nest_add_statement : Value} {a_Nest_access_count : Addr} {od_Nest_access_count an_Nest_access_count : Option Addr} {sl_Nest_access_count : Array (Option Value)} {oc_Nest_access_count kV_Nest_access_count dc_Nest_access_count pm_Nest_access_count cd_Nest_access_count ct_Nest_access_count : Value} {a_Nest_add_access : Addr} {od_Nest_add_access an_Nest_add_access : Option Addr} {sl_Nest_add_access : Array (Option Value)} {oc_Nest_add_access kV_Nest_add_access dc_Nest_add_access pm_Nest_add_access cd_Nest_add_access ct_Nest_add_access : Value} {a_Nest_is_instance : Addr} {od_Nest_is_instance an_Nest_is_instance : Option Addr} {sl_Nest_is_instance : Array (Option Value)} {oc_Nest_is_instance kV_Nest_is_instance dc_Nest_is_instance pm_Nest_is_instance cd_Nest_is_instance ct_Nest_is_instance : Value} {a_Nest_round_place : Addr} {od_Nest_round_place an_Nest_round_place : Option Addr} {sl_Nest_round_place : Array (Option Value)} {oc_Nest_round_place kV_Nest_round_place dc_Nest_round_place pm_Nest_round_place cd_Nest_round_place ct_Nest_round_place : Value} {a_Nest_touched_by : Addr} {od_Nest_touched_by an_Nest_touched_by : Option Addr} {sl_Nest_touched_by : Array (Option Value)} {oc_Nest_touched_by kV_Nest_touched_by dc_Nest_touched_by pm_Nest_touched_by cd_Nest_touched_by ct_Nest_touched_by : Value} {a_Nest_meet : Addr} {od_Nest_meet an_Nest_meet : Option Addr} {sl_Nest_meet : Array (Option Value)} {oc_Nest_meet kV_Nest_meet dc_Nest_meet pm_Nest_meet cd_Nest_meet ct_Nest_meet : Value} {a_Nest_all_instances : Addr} {od_Nest_all_instances an_Nest_all_instances : Option Addr} {sl_Nest_all_instances : Array (Option Value)} {oc_Nest_all_instances kV_Nest_all_instances dc_Nest_all_instances pm_Nest_all_instances cd_Nest_all_instances ct_Nest_all_instances : Value} {a_Nest_meetings : Addr} {od_Nest_meetings an_Nest_meetings : Option Addr} {sl_Nest_meetings : Array (Option Value)} {oc_Nest_meetings kV_Nest_meetings dc_Nest_meetings pm_Nest_meetings cd_Nest_meetings ct_Nest_meetings : Value} {a_Nest_level_of : Addr} {od_Nest_level_of an_Nest_level_of : Option Addr} {sl_Nest_level_of : Array (Option Value)} {oc_Nest_level_of kV_Nest_level_of dc_Nest_level_of pm_Nest_level_of cd_Nest_level_of ct_Nest_level_of : Value} {a_all_rounds : Addr} {od_all_rounds an_all_rounds : Option Addr} {sl_all_rounds : Array (Option Value)} {oc_all_rounds kV_all_rounds dc_all_rounds pm_all_rounds cd_all_rounds ct_all_rounds : Value} {a_Call_init : Addr} {od_Call_init an_Call_init : Option Addr} {sl_Call_init : Array (Option Value)} {oc_Call_init kV_Call_init dc_Call_init pm_Call_init cd_Call_init ct_Call_init : Value} {a_read_calls : Addr} {od_read_calls an_read_calls : Option Addr} {sl_read_calls : Array (Option Value)} {oc_read_calls kV_read_calls dc_read_calls pm_read_calls cd_read_calls ct_read_calls : Value} {a_read_lists : Addr} {od_read_lists an_read_lists : Option Addr} {sl_read_lists : Array (Option Value)} {oc_read_lists kV_read_lists dc_read_lists pm_read_lists cd_read_lists ct_read_lists : Value} {a_answers : Addr} {od_answers an_answers : Option Addr} {sl_answers : Array (Option Value)} {oc_answers kV_answers dc_answers pm_answers cd_answers ct_answers : Value} {a_Desk_init : Addr} {od_Desk_init an_Desk_init : Option Addr} {sl_Desk_init : Array (Option Value)} {oc_Desk_init kV_Desk_init dc_Desk_init pm_Desk_init cd_Desk_init ct_Desk_init : Value} {a_Desk_answer : Addr} {od_Desk_answer an_Desk_answer : Option Addr} {sl_Desk_answer : Array (Option Value)} {oc_Desk_answer kV_Desk_answer dc_Desk_answer pm_Desk_answer cd_Desk_answer ct_Desk_answer : Value} {a_Desk_answer_init : Addr} {od_Desk_answer_init an_Desk_answer_init : Option Addr} {sl_Desk_answer_init : Array (Option Value)} {oc_Desk_answer_init kV_Desk_answer_init dc_Desk_answer_init pm_Desk_answer_init cd_Desk_answer_init ct_Desk_answer_init : Value} {a_tell : Addr} {od_tell an_tell : Option Addr} {sl_tell : Array (Option Value)} {oc_tell kV_tell dc_tell pm_tell cd_tell ct_tell : Value} {a_tell_pair : Addr} {od_tell_pair an_tell_pair : Option Addr} {sl_tell_pair : Array (Option Value)} {oc_tell_pair kV_tell_pair dc_tell_pair pm_tell_pair cd_tell_pair ct_tell_pair : Value} {a_loops_go : Addr} {od_loops_go an_loops_go : Option Addr} {sl_loops_go : Array (Option Value)} {oc_loops_go kV_loops_go dc_loops_go pm_loops_go cd_loops_go ct_loops_go : Value} {a_answer_stmt : Addr} {od_answer_stmt an_answer_stmt : Option Addr} {sl_answer_stmt : Array (Option Value)} {oc_answer_stmt kV_answer_stmt dc_answer_stmt pm_answer_stmt cd_answer_stmt ct_answer_stmt : Value} {a_answer_access : Addr} {od_answer_access an_answer_access : Option Addr} {sl_answer_access : Array (Option Value)} {oc_answer_access kV_answer_access dc_answer_access pm_answer_access cd_answer_access ct_answer_access : Value} {a_answer_meet : Addr} {od_answer_meet an_answer_meet : Option Addr} {sl_answer_meet : Array (Option Value)} {oc_answer_meet kV_answer_meet dc_answer_meet pm_answer_meet cd_answer_meet ct_answer_meet : Value} {a_answer_dep : Addr} {od_answer_dep an_answer_dep : Option Addr} {sl_answer_dep : Array (Option Value)} {oc_answer_dep kV_answer_dep dc_answer_dep pm_answer_dep cd_answer_dep ct_answer_dep : Value} {a_answer_carried : Addr} {od_answer_carried an_answer_carried : Option Addr} {sl_answer_carried : Array (Option Value)} {oc_answer_carried kV_answer_carried dc_answer_carried pm_answer_carried cd_answer_carried ct_answer_carried : Value} {a_answer_try : Addr} {od_answer_try an_answer_try : Option Addr} {sl_answer_try : Array (Option Value)} {oc_answer_try kV_answer_try dc_answer_try pm_answer_try cd_answer_try ct_answer_try : Value} {a_answer_steps : Addr} {od_answer_steps an_answer_steps : Option Addr} {sl_answer_steps : Array (Option Value)} {oc_answer_steps kV_answer_steps dc_answer_steps pm_answer_steps cd_answer_steps ct_answer_steps : Value} {a_answer_level : Addr} {od_answer_level an_answer_level : Option Addr} {sl_answer_level : Array (Option Value)} {oc_answer_level kV_answer_level dc_answer_level pm_answer_level cd_answer_level ct_answer_level : Value} {a_answer_at : Addr} {od_answer_at an_answer_at : Option Addr} {sl_answer_at : Array (Option Value)} {oc_answer_at kV_answer_at dc_answer_at pm_answer_at cd_answer_at ct_answer_at : Value} {tk_ROW_LENGTH : Tok} {tk_MOST_LOOPS : Tok} {tk_INIT : Tok} {tk_STMT : Tok} {tk_ACCESS : Tok} {tk_MEET : Tok} {tk_DEP : Tok} {tk_CARRIED : Tok} {tk_TRY : Tok} {tk_STEPS : Tok} {tk_LEVEL : Tok} {a_SHAPES a_SHAPES_0 a_SHAPES_1 a_SHAPES_2 a_SHAPES_3 a_SHAPES_4 a_SHAPES_5 a_SHAPES_6 a_SHAPES_7 a_SHAPES_8 a_SHAPES_9 : Addr} {tn_SHAPES tn_SHAPES_0 tn_SHAPES_1 tn_SHAPES_2 tn_SHAPES_3 tn_SHAPES_4 tn_SHAPES_5 tn_SHAPES_6 tn_SHAPES_7 tn_SHAPES_8 tn_SHAPES_9 : Nat} {to_SHAPES to_SHAPES_0 to_SHAPES_1 to_SHAPES_2 to_SHAPES_3 to_SHAPES_4 to_SHAPES_5 to_SHAPES_6 to_SHAPES_7 to_SHAPES_8 to_SHAPES_9 : Option Addr} {tl_SHAPES tl_SHAPES_0 tl_SHAPES_1 tl_SHAPES_2 tl_SHAPES_3 tl_SHAPES_4 tl_SHAPES_5 tl_SHAPES_6 tl_SHAPES_7 tl_SHAPES_8 tl_SHAPES_9 : Array (Option Value)} {tt_SHAPES_0_0 tt_SHAPES_0_1 : Tok} {tt_SHAPES_1_0 tt_SHAPES_1_1 : Tok} {tt_SHAPES_2_0 tt_SHAPES_2_1 : Tok} {tt_SHAPES_3_0 tt_SHAPES_3_1 : Tok} {tt_SHAPES_4_0 tt_SHAPES_4_1 : Tok} {tt_SHAPES_5_0 tt_SHAPES_5_1 : Tok} {tt_SHAPES_6_0 tt_SHAPES_6_1 : Tok} {tt_SHAPES_7_0 tt_SHAPES_7_1 : Tok} {tt_SHAPES_8_0 tt_SHAPES_8_1 : Tok} {tt_SHAPES_9_0 tt_SHAPES_9_1 : Tok} {tk_MOST_ROUNDS : Tok} {tk_MOST_STATEMENTS : Tok} {tk_MOST_ACCESSES : Tok} {tk_LAST_ARRAY : Tok} {tk_LONGEST_TIME : Tok}
    (aC_Meetings : PySem.W.nsIn K mainGlobals "Meetings" = some (some (.ref c_Meetings)))
    (aC_Nest : PySem.W.nsIn K mainGlobals "Nest" = some (some (.ref c_Nest)))
    (aC_Call : PySem.W.nsIn K mainGlobals "Call" = some (some (.ref c_Call)))
    (aC_Desk : PySem.W.nsIn K mainGlobals "Desk" = some (some (.ref c_Desk)))
    (n_row_at : PySem.W.nsIn K mainGlobals "row_at" = some (some (.ref a_row_at)))
    (l_row_at : K.lookup a_row_at = some ⟨oc_row_at, od_row_at, .func (PySem.W.fnOf "row_at" "row_at" (defArgs s_row_at) (defBody s_row_at) (defScope s_row_at) .none kV_row_at dc_row_at pm_row_at an_row_at cd_row_at ct_row_at), sl_row_at⟩)
    (c_row_at : PySem.W.codeIn K cd_row_at "row_at" = true)
    (k_row_at : PySem.W.keepIn K (.ref a_row_at) = true)
    (n_time_of : PySem.W.nsIn K mainGlobals "time_of" = some (some (.ref a_time_of)))
    (l_time_of : K.lookup a_time_of = some ⟨oc_time_of, od_time_of, .func (PySem.W.fnOf "time_of" "time_of" (defArgs s_time_of) (defBody s_time_of) (defScope s_time_of) .none kV_time_of dc_time_of pm_time_of an_time_of cd_time_of ct_time_of), sl_time_of⟩)
    (c_time_of : PySem.W.codeIn K cd_time_of "time_of" = true)
    (k_time_of : PySem.W.keepIn K (.ref a_time_of) = true)
    (n_Meetings_init : PySem.W.findIn K (.ref c_Meetings) "__init__" = some (some (.ref a_Meetings_init)))
    (i_Meetings_init : PySem.W.isFn K (.ref a_Meetings_init) = true)
    (l_Meetings_init : K.lookup a_Meetings_init = some ⟨oc_Meetings_init, od_Meetings_init, .func (PySem.W.fnOf "__init__" "Meetings.__init__" (defArgs s_Meetings_init) (defBody s_Meetings_init) (defScope s_Meetings_init) .none kV_Meetings_init dc_Meetings_init pm_Meetings_init an_Meetings_init cd_Meetings_init ct_Meetings_init), sl_Meetings_init⟩)
    (c_Meetings_init : PySem.W.codeIn K cd_Meetings_init "Meetings.__init__" = true)
    (k_Meetings_init : PySem.W.keepIn K (.ref a_Meetings_init) = true)
    (n_Meetings_first_dependence : PySem.W.findIn K (.ref c_Meetings) "first_dependence" = some (some (.ref a_Meetings_first_dependence)))
    (i_Meetings_first_dependence : PySem.W.isFn K (.ref a_Meetings_first_dependence) = true)
    (l_Meetings_first_dependence : K.lookup a_Meetings_first_dependence = some ⟨oc_Meetings_first_dependence, od_Meetings_first_dependence, .func (PySem.W.fnOf "first_dependence" "Meetings.first_dependence" (defArgs s_Meetings_first_dependence) (defBody s_Meetings_first_dependence) (defScope s_Meetings_first_dependence) .none kV_Meetings_first_dependence dc_Meetings_first_dependence pm_Meetings_first_dependence an_Meetings_first_dependence cd_Meetings_first_dependence ct_Meetings_first_dependence), sl_Meetings_first_dependence⟩)
    (c_Meetings_first_dependence : PySem.W.codeIn K cd_Meetings_first_dependence "Meetings.first_dependence" = true)
    (k_Meetings_first_dependence : PySem.W.keepIn K (.ref a_Meetings_first_dependence) = true)
    (n_Meetings_first_carried : PySem.W.findIn K (.ref c_Meetings) "first_carried" = some (some (.ref a_Meetings_first_carried)))
    (i_Meetings_first_carried : PySem.W.isFn K (.ref a_Meetings_first_carried) = true)
    (l_Meetings_first_carried : K.lookup a_Meetings_first_carried = some ⟨oc_Meetings_first_carried, od_Meetings_first_carried, .func (PySem.W.fnOf "first_carried" "Meetings.first_carried" (defArgs s_Meetings_first_carried) (defBody s_Meetings_first_carried) (defScope s_Meetings_first_carried) .none kV_Meetings_first_carried dc_Meetings_first_carried pm_Meetings_first_carried an_Meetings_first_carried cd_Meetings_first_carried ct_Meetings_first_carried), sl_Meetings_first_carried⟩)
    (c_Meetings_first_carried : PySem.W.codeIn K cd_Meetings_first_carried "Meetings.first_carried" = true)
    (k_Meetings_first_carried : PySem.W.keepIn K (.ref a_Meetings_first_carried) = true)
    (n_Meetings_first_barred : PySem.W.findIn K (.ref c_Meetings) "first_barred" = some (some (.ref a_Meetings_first_barred)))
    (i_Meetings_first_barred : PySem.W.isFn K (.ref a_Meetings_first_barred) = true)
    (l_Meetings_first_barred : K.lookup a_Meetings_first_barred = some ⟨oc_Meetings_first_barred, od_Meetings_first_barred, .func (PySem.W.fnOf "first_barred" "Meetings.first_barred" (defArgs s_Meetings_first_barred) (defBody s_Meetings_first_barred) (defScope s_Meetings_first_barred) .none kV_Meetings_first_barred dc_Meetings_first_barred pm_Meetings_first_barred an_Meetings_first_barred cd_Meetings_first_barred ct_Meetings_first_barred), sl_Meetings_first_barred⟩)
    (c_Meetings_first_barred : PySem.W.codeIn K cd_Meetings_first_barred "Meetings.first_barred" = true)
    (k_Meetings_first_barred : PySem.W.keepIn K (.ref a_Meetings_first_barred) = true)
    (n_meeting_pairs : PySem.W.nsIn K mainGlobals "meeting_pairs" = some (some (.ref a_meeting_pairs)))
    (l_meeting_pairs : K.lookup a_meeting_pairs = some ⟨oc_meeting_pairs, od_meeting_pairs, .func (PySem.W.fnOf "meeting_pairs" "meeting_pairs" (defArgs s_meeting_pairs) (defBody s_meeting_pairs) (defScope s_meeting_pairs) .none kV_meeting_pairs dc_meeting_pairs pm_meeting_pairs an_meeting_pairs cd_meeting_pairs ct_meeting_pairs), sl_meeting_pairs⟩)
    (c_meeting_pairs : PySem.W.codeIn K cd_meeting_pairs "meeting_pairs" = true)
    (k_meeting_pairs : PySem.W.keepIn K (.ref a_meeting_pairs) = true)
    (n_touches_meet : PySem.W.nsIn K mainGlobals "touches_meet" = some (some (.ref a_touches_meet)))
    (l_touches_meet : K.lookup a_touches_meet = some ⟨oc_touches_meet, od_touches_meet, .func (PySem.W.fnOf "touches_meet" "touches_meet" (defArgs s_touches_meet) (defBody s_touches_meet) (defScope s_touches_meet) .none kV_touches_meet dc_touches_meet pm_touches_meet an_touches_meet cd_touches_meet ct_touches_meet), sl_touches_meet⟩)
    (c_touches_meet : PySem.W.codeIn K cd_touches_meet "touches_meet" = true)
    (k_touches_meet : PySem.W.keepIn K (.ref a_touches_meet) = true)
    (n_earliest_steps : PySem.W.nsIn K mainGlobals "earliest_steps" = some (some (.ref a_earliest_steps)))
    (l_earliest_steps : K.lookup a_earliest_steps = some ⟨oc_earliest_steps, od_earliest_steps, .func (PySem.W.fnOf "earliest_steps" "earliest_steps" (defArgs s_earliest_steps) (defBody s_earliest_steps) (defScope s_earliest_steps) .none kV_earliest_steps dc_earliest_steps pm_earliest_steps an_earliest_steps cd_earliest_steps ct_earliest_steps), sl_earliest_steps⟩)
    (c_earliest_steps : PySem.W.codeIn K cd_earliest_steps "earliest_steps" = true)
    (k_earliest_steps : PySem.W.keepIn K (.ref a_earliest_steps) = true)
    (n_Nest_init : PySem.W.findIn K (.ref c_Nest) "__init__" = some (some (.ref a_Nest_init)))
    (i_Nest_init : PySem.W.isFn K (.ref a_Nest_init) = true)
    (l_Nest_init : K.lookup a_Nest_init = some ⟨oc_Nest_init, od_Nest_init, .func (PySem.W.fnOf "__init__" "Nest.__init__" (defArgs s_Nest_init) (defBody s_Nest_init) (defScope s_Nest_init) .none kV_Nest_init dc_Nest_init pm_Nest_init an_Nest_init cd_Nest_init ct_Nest_init), sl_Nest_init⟩)
    (c_Nest_init : PySem.W.codeIn K cd_Nest_init "Nest.__init__" = true)
    (k_Nest_init : PySem.W.keepIn K (.ref a_Nest_init) = true)
    (n_Nest_has_loop : PySem.W.findIn K (.ref c_Nest) "has_loop" = some (some (.ref a_Nest_has_loop)))
    (i_Nest_has_loop : PySem.W.isFn K (.ref a_Nest_has_loop) = true)
    (l_Nest_has_loop : K.lookup a_Nest_has_loop = some ⟨oc_Nest_has_loop, od_Nest_has_loop, .func (PySem.W.fnOf "has_loop" "Nest.has_loop" (defArgs s_Nest_has_loop) (defBody s_Nest_has_loop) (defScope s_Nest_has_loop) .none kV_Nest_has_loop dc_Nest_has_loop pm_Nest_has_loop an_Nest_has_loop cd_Nest_has_loop ct_Nest_has_loop), sl_Nest_has_loop⟩)
    (c_Nest_has_loop : PySem.W.codeIn K cd_Nest_has_loop "Nest.has_loop" = true)
    (k_Nest_has_loop : PySem.W.keepIn K (.ref a_Nest_has_loop) = true)
    (n_Nest_statement_count : PySem.W.findIn K (.ref c_Nest) "statement_count" = some (some (.ref a_Nest_statement_count)))
    (i_Nest_statement_count : PySem.W.isFn K (.ref a_Nest_statement_count) = true)
    (l_Nest_statement_count : K.lookup a_Nest_statement_count = some ⟨oc_Nest_statement_count, od_Nest_statement_count, .func (PySem.W.fnOf "statement_count" "Nest.statement_count" (defArgs s_Nest_statement_count) (defBody s_Nest_statement_count) (defScope s_Nest_statement_count) .none kV_Nest_statement_count dc_Nest_statement_count pm_Nest_statement_count an_Nest_statement_count cd_Nest_statement_count ct_Nest_statement_count), sl_Nest_statement_count⟩)
    (c_Nest_statement_count : PySem.W.codeIn K cd_Nest_statement_count "Nest.statement_count" = true)
    (k_Nest_statement_count : PySem.W.keepIn K (.ref a_Nest_statement_count) = true)
    (n_Nest_has_statement : PySem.W.findIn K (.ref c_Nest) "has_statement" = some (some (.ref a_Nest_has_statement)))
    (i_Nest_has_statement : PySem.W.isFn K (.ref a_Nest_has_statement) = true)
    (l_Nest_has_statement : K.lookup a_Nest_has_statement = some ⟨oc_Nest_has_statement, od_Nest_has_statement, .func (PySem.W.fnOf "has_statement" "Nest.has_statement" (defArgs s_Nest_has_statement) (defBody s_Nest_has_statement) (defScope s_Nest_has_statement) .none kV_Nest_has_statement dc_Nest_has_statement pm_Nest_has_statement an_Nest_has_statement cd_Nest_has_statement ct_Nest_has_statement), sl_Nest_has_statement⟩)
    (c_Nest_has_statement : PySem.W.codeIn K cd_Nest_has_statement "Nest.has_statement" = true)
    (k_Nest_has_statement : PySem.W.keepIn K (.ref a_Nest_has_statement) = true)
    (n_Nest_add_statement : PySem.W.findIn K (.ref c_Nest) "add_statement" = some (some (.ref a_Nest_add_statement)))
    (i_Nest_add_statement : PySem.W.isFn K (.ref a_Nest_add_statement) = true)
    (l_Nest_add_statement : K.lookup a_Nest_add_statement = some ⟨oc_Nest_add_statement, od_Nest_add_statement, .func (PySem.W.fnOf "add_statement" "Nest.add_statement" (defArgs s_Nest_add_statement) (defBody s_Nest_add_statement) (defScope s_Nest_add_statement) .none kV_Nest_add_statement dc_Nest_add_statement pm_Nest_add_statement an_Nest_add_statement cd_Nest_add_statement ct_Nest_add_statement), sl_Nest_add_statement⟩)
    (c_Nest_add_statement : PySem.W.codeIn K cd_Nest_add_statement "Nest.add_statement" = true)
    (k_Nest_add_statement : PySem.W.keepIn K (.ref a_Nest_add_statement) = true)
    (n_Nest_access_count : PySem.W.findIn K (.ref c_Nest) "access_count" = some (some (.ref a_Nest_access_count)))
    (i_Nest_access_count : PySem.W.isFn K (.ref a_Nest_access_count) = true)
    (l_Nest_access_count : K.lookup a_Nest_access_count = some ⟨oc_Nest_access_count, od_Nest_access_count, .func (PySem.W.fnOf "access_count" "Nest.access_count" (defArgs s_Nest_access_count) (defBody s_Nest_access_count) (defScope s_Nest_access_count) .none kV_Nest_access_count dc_Nest_access_count pm_Nest_access_count an_Nest_access_count cd_Nest_access_count ct_Nest_access_count), sl_Nest_access_count⟩)
    (c_Nest_access_count : PySem.W.codeIn K cd_Nest_access_count "Nest.access_count" = true)
    (k_Nest_access_count : PySem.W.keepIn K (.ref a_Nest_access_count) = true)
    (n_Nest_add_access : PySem.W.findIn K (.ref c_Nest) "add_access" = some (some (.ref a_Nest_add_access)))
    (i_Nest_add_access : PySem.W.isFn K (.ref a_Nest_add_access) = true)
    (l_Nest_add_access : K.lookup a_Nest_add_access = some ⟨oc_Nest_add_access, od_Nest_add_access, .func (PySem.W.fnOf "add_access" "Nest.add_access" (defArgs s_Nest_add_access) (defBody s_Nest_add_access) (defScope s_Nest_add_access) .none kV_Nest_add_access dc_Nest_add_access pm_Nest_add_access an_Nest_add_access cd_Nest_add_access ct_Nest_add_access), sl_Nest_add_access⟩)
    (c_Nest_add_access : PySem.W.codeIn K cd_Nest_add_access "Nest.add_access" = true)
    (k_Nest_add_access : PySem.W.keepIn K (.ref a_Nest_add_access) = true)
    (n_Nest_is_instance : PySem.W.findIn K (.ref c_Nest) "is_instance" = some (some (.ref a_Nest_is_instance)))
    (i_Nest_is_instance : PySem.W.isFn K (.ref a_Nest_is_instance) = true)
    (l_Nest_is_instance : K.lookup a_Nest_is_instance = some ⟨oc_Nest_is_instance, od_Nest_is_instance, .func (PySem.W.fnOf "is_instance" "Nest.is_instance" (defArgs s_Nest_is_instance) (defBody s_Nest_is_instance) (defScope s_Nest_is_instance) .none kV_Nest_is_instance dc_Nest_is_instance pm_Nest_is_instance an_Nest_is_instance cd_Nest_is_instance ct_Nest_is_instance), sl_Nest_is_instance⟩)
    (c_Nest_is_instance : PySem.W.codeIn K cd_Nest_is_instance "Nest.is_instance" = true)
    (k_Nest_is_instance : PySem.W.keepIn K (.ref a_Nest_is_instance) = true)
    (n_Nest_round_place : PySem.W.findIn K (.ref c_Nest) "round_place" = some (some (.ref a_Nest_round_place)))
    (i_Nest_round_place : PySem.W.isFn K (.ref a_Nest_round_place) = true)
    (l_Nest_round_place : K.lookup a_Nest_round_place = some ⟨oc_Nest_round_place, od_Nest_round_place, .func (PySem.W.fnOf "round_place" "Nest.round_place" (defArgs s_Nest_round_place) (defBody s_Nest_round_place) (defScope s_Nest_round_place) .none kV_Nest_round_place dc_Nest_round_place pm_Nest_round_place an_Nest_round_place cd_Nest_round_place ct_Nest_round_place), sl_Nest_round_place⟩)
    (c_Nest_round_place : PySem.W.codeIn K cd_Nest_round_place "Nest.round_place" = true)
    (k_Nest_round_place : PySem.W.keepIn K (.ref a_Nest_round_place) = true)
    (n_Nest_touched_by : PySem.W.findIn K (.ref c_Nest) "touched_by" = some (some (.ref a_Nest_touched_by)))
    (i_Nest_touched_by : PySem.W.isFn K (.ref a_Nest_touched_by) = true)
    (l_Nest_touched_by : K.lookup a_Nest_touched_by = some ⟨oc_Nest_touched_by, od_Nest_touched_by, .func (PySem.W.fnOf "touched_by" "Nest.touched_by" (defArgs s_Nest_touched_by) (defBody s_Nest_touched_by) (defScope s_Nest_touched_by) .none kV_Nest_touched_by dc_Nest_touched_by pm_Nest_touched_by an_Nest_touched_by cd_Nest_touched_by ct_Nest_touched_by), sl_Nest_touched_by⟩)
    (c_Nest_touched_by : PySem.W.codeIn K cd_Nest_touched_by "Nest.touched_by" = true)
    (k_Nest_touched_by : PySem.W.keepIn K (.ref a_Nest_touched_by) = true)
    (n_Nest_meet : PySem.W.findIn K (.ref c_Nest) "meet" = some (some (.ref a_Nest_meet)))
    (i_Nest_meet : PySem.W.isFn K (.ref a_Nest_meet) = true)
    (l_Nest_meet : K.lookup a_Nest_meet = some ⟨oc_Nest_meet, od_Nest_meet, .func (PySem.W.fnOf "meet" "Nest.meet" (defArgs s_Nest_meet) (defBody s_Nest_meet) (defScope s_Nest_meet) .none kV_Nest_meet dc_Nest_meet pm_Nest_meet an_Nest_meet cd_Nest_meet ct_Nest_meet), sl_Nest_meet⟩)
    (c_Nest_meet : PySem.W.codeIn K cd_Nest_meet "Nest.meet" = true)
    (k_Nest_meet : PySem.W.keepIn K (.ref a_Nest_meet) = true)
    (n_Nest_all_instances : PySem.W.findIn K (.ref c_Nest) "all_instances" = some (some (.ref a_Nest_all_instances)))
    (i_Nest_all_instances : PySem.W.isFn K (.ref a_Nest_all_instances) = true)
    (l_Nest_all_instances : K.lookup a_Nest_all_instances = some ⟨oc_Nest_all_instances, od_Nest_all_instances, .func (PySem.W.fnOf "all_instances" "Nest.all_instances" (defArgs s_Nest_all_instances) (defBody s_Nest_all_instances) (defScope s_Nest_all_instances) .none kV_Nest_all_instances dc_Nest_all_instances pm_Nest_all_instances an_Nest_all_instances cd_Nest_all_instances ct_Nest_all_instances), sl_Nest_all_instances⟩)
    (c_Nest_all_instances : PySem.W.codeIn K cd_Nest_all_instances "Nest.all_instances" = true)
    (k_Nest_all_instances : PySem.W.keepIn K (.ref a_Nest_all_instances) = true)
    (n_Nest_meetings : PySem.W.findIn K (.ref c_Nest) "meetings" = some (some (.ref a_Nest_meetings)))
    (i_Nest_meetings : PySem.W.isFn K (.ref a_Nest_meetings) = true)
    (l_Nest_meetings : K.lookup a_Nest_meetings = some ⟨oc_Nest_meetings, od_Nest_meetings, .func (PySem.W.fnOf "meetings" "Nest.meetings" (defArgs s_Nest_meetings) (defBody s_Nest_meetings) (defScope s_Nest_meetings) .none kV_Nest_meetings dc_Nest_meetings pm_Nest_meetings an_Nest_meetings cd_Nest_meetings ct_Nest_meetings), sl_Nest_meetings⟩)
    (c_Nest_meetings : PySem.W.codeIn K cd_Nest_meetings "Nest.meetings" = true)
    (k_Nest_meetings : PySem.W.keepIn K (.ref a_Nest_meetings) = true)
    (n_Nest_level_of : PySem.W.findIn K (.ref c_Nest) "level_of" = some (some (.ref a_Nest_level_of)))
    (i_Nest_level_of : PySem.W.isFn K (.ref a_Nest_level_of) = true)
    (l_Nest_level_of : K.lookup a_Nest_level_of = some ⟨oc_Nest_level_of, od_Nest_level_of, .func (PySem.W.fnOf "level_of" "Nest.level_of" (defArgs s_Nest_level_of) (defBody s_Nest_level_of) (defScope s_Nest_level_of) .none kV_Nest_level_of dc_Nest_level_of pm_Nest_level_of an_Nest_level_of cd_Nest_level_of ct_Nest_level_of), sl_Nest_level_of⟩)
    (c_Nest_level_of : PySem.W.codeIn K cd_Nest_level_of "Nest.level_of" = true)
    (k_Nest_level_of : PySem.W.keepIn K (.ref a_Nest_level_of) = true)
    (n_all_rounds : PySem.W.nsIn K mainGlobals "all_rounds" = some (some (.ref a_all_rounds)))
    (l_all_rounds : K.lookup a_all_rounds = some ⟨oc_all_rounds, od_all_rounds, .func (PySem.W.fnOf "all_rounds" "all_rounds" (defArgs s_all_rounds) (defBody s_all_rounds) (defScope s_all_rounds) .none kV_all_rounds dc_all_rounds pm_all_rounds an_all_rounds cd_all_rounds ct_all_rounds), sl_all_rounds⟩)
    (c_all_rounds : PySem.W.codeIn K cd_all_rounds "all_rounds" = true)
    (k_all_rounds : PySem.W.keepIn K (.ref a_all_rounds) = true)
    (n_Call_init : PySem.W.findIn K (.ref c_Call) "__init__" = some (some (.ref a_Call_init)))
    (i_Call_init : PySem.W.isFn K (.ref a_Call_init) = true)
    (l_Call_init : K.lookup a_Call_init = some ⟨oc_Call_init, od_Call_init, .func (PySem.W.fnOf "__init__" "Call.__init__" (defArgs s_Call_init) (defBody s_Call_init) (defScope s_Call_init) .none kV_Call_init dc_Call_init pm_Call_init an_Call_init cd_Call_init ct_Call_init), sl_Call_init⟩)
    (c_Call_init : PySem.W.codeIn K cd_Call_init "Call.__init__" = true)
    (k_Call_init : PySem.W.keepIn K (.ref a_Call_init) = true)
    (n_read_calls : PySem.W.nsIn K mainGlobals "read_calls" = some (some (.ref a_read_calls)))
    (l_read_calls : K.lookup a_read_calls = some ⟨oc_read_calls, od_read_calls, .func (PySem.W.fnOf "read_calls" "read_calls" (defArgs s_read_calls) (defBody s_read_calls) (defScope s_read_calls) .none kV_read_calls dc_read_calls pm_read_calls an_read_calls cd_read_calls ct_read_calls), sl_read_calls⟩)
    (c_read_calls : PySem.W.codeIn K cd_read_calls "read_calls" = true)
    (k_read_calls : PySem.W.keepIn K (.ref a_read_calls) = true)
    (n_read_lists : PySem.W.nsIn K mainGlobals "read_lists" = some (some (.ref a_read_lists)))
    (l_read_lists : K.lookup a_read_lists = some ⟨oc_read_lists, od_read_lists, .func (PySem.W.fnOf "read_lists" "read_lists" (defArgs s_read_lists) (defBody s_read_lists) (defScope s_read_lists) .none kV_read_lists dc_read_lists pm_read_lists an_read_lists cd_read_lists ct_read_lists), sl_read_lists⟩)
    (c_read_lists : PySem.W.codeIn K cd_read_lists "read_lists" = true)
    (k_read_lists : PySem.W.keepIn K (.ref a_read_lists) = true)
    (n_answers : PySem.W.nsIn K mainGlobals "answers" = some (some (.ref a_answers)))
    (l_answers : K.lookup a_answers = some ⟨oc_answers, od_answers, .func (PySem.W.fnOf "answers" "answers" (defArgs s_answers) (defBody s_answers) (defScope s_answers) .none kV_answers dc_answers pm_answers an_answers cd_answers ct_answers), sl_answers⟩)
    (c_answers : PySem.W.codeIn K cd_answers "answers" = true)
    (k_answers : PySem.W.keepIn K (.ref a_answers) = true)
    (n_Desk_init : PySem.W.findIn K (.ref c_Desk) "__init__" = some (some (.ref a_Desk_init)))
    (i_Desk_init : PySem.W.isFn K (.ref a_Desk_init) = true)
    (l_Desk_init : K.lookup a_Desk_init = some ⟨oc_Desk_init, od_Desk_init, .func (PySem.W.fnOf "__init__" "Desk.__init__" (defArgs s_Desk_init) (defBody s_Desk_init) (defScope s_Desk_init) .none kV_Desk_init dc_Desk_init pm_Desk_init an_Desk_init cd_Desk_init ct_Desk_init), sl_Desk_init⟩)
    (c_Desk_init : PySem.W.codeIn K cd_Desk_init "Desk.__init__" = true)
    (k_Desk_init : PySem.W.keepIn K (.ref a_Desk_init) = true)
    (n_Desk_answer : PySem.W.findIn K (.ref c_Desk) "answer" = some (some (.ref a_Desk_answer)))
    (i_Desk_answer : PySem.W.isFn K (.ref a_Desk_answer) = true)
    (l_Desk_answer : K.lookup a_Desk_answer = some ⟨oc_Desk_answer, od_Desk_answer, .func (PySem.W.fnOf "answer" "Desk.answer" (defArgs s_Desk_answer) (defBody s_Desk_answer) (defScope s_Desk_answer) .none kV_Desk_answer dc_Desk_answer pm_Desk_answer an_Desk_answer cd_Desk_answer ct_Desk_answer), sl_Desk_answer⟩)
    (c_Desk_answer : PySem.W.codeIn K cd_Desk_answer "Desk.answer" = true)
    (k_Desk_answer : PySem.W.keepIn K (.ref a_Desk_answer) = true)
    (n_Desk_answer_init : PySem.W.findIn K (.ref c_Desk) "answer_init" = some (some (.ref a_Desk_answer_init)))
    (i_Desk_answer_init : PySem.W.isFn K (.ref a_Desk_answer_init) = true)
    (l_Desk_answer_init : K.lookup a_Desk_answer_init = some ⟨oc_Desk_answer_init, od_Desk_answer_init, .func (PySem.W.fnOf "answer_init" "Desk.answer_init" (defArgs s_Desk_answer_init) (defBody s_Desk_answer_init) (defScope s_Desk_answer_init) .none kV_Desk_answer_init dc_Desk_answer_init pm_Desk_answer_init an_Desk_answer_init cd_Desk_answer_init ct_Desk_answer_init), sl_Desk_answer_init⟩)
    (c_Desk_answer_init : PySem.W.codeIn K cd_Desk_answer_init "Desk.answer_init" = true)
    (k_Desk_answer_init : PySem.W.keepIn K (.ref a_Desk_answer_init) = true)
    (n_tell : PySem.W.nsIn K mainGlobals "tell" = some (some (.ref a_tell)))
    (l_tell : K.lookup a_tell = some ⟨oc_tell, od_tell, .func (PySem.W.fnOf "tell" "tell" (defArgs s_tell) (defBody s_tell) (defScope s_tell) .none kV_tell dc_tell pm_tell an_tell cd_tell ct_tell), sl_tell⟩)
    (c_tell : PySem.W.codeIn K cd_tell "tell" = true)
    (k_tell : PySem.W.keepIn K (.ref a_tell) = true)
    (n_tell_pair : PySem.W.nsIn K mainGlobals "tell_pair" = some (some (.ref a_tell_pair)))
    (l_tell_pair : K.lookup a_tell_pair = some ⟨oc_tell_pair, od_tell_pair, .func (PySem.W.fnOf "tell_pair" "tell_pair" (defArgs s_tell_pair) (defBody s_tell_pair) (defScope s_tell_pair) .none kV_tell_pair dc_tell_pair pm_tell_pair an_tell_pair cd_tell_pair ct_tell_pair), sl_tell_pair⟩)
    (c_tell_pair : PySem.W.codeIn K cd_tell_pair "tell_pair" = true)
    (k_tell_pair : PySem.W.keepIn K (.ref a_tell_pair) = true)
    (n_loops_go : PySem.W.nsIn K mainGlobals "loops_go" = some (some (.ref a_loops_go)))
    (l_loops_go : K.lookup a_loops_go = some ⟨oc_loops_go, od_loops_go, .func (PySem.W.fnOf "loops_go" "loops_go" (defArgs s_loops_go) (defBody s_loops_go) (defScope s_loops_go) .none kV_loops_go dc_loops_go pm_loops_go an_loops_go cd_loops_go ct_loops_go), sl_loops_go⟩)
    (c_loops_go : PySem.W.codeIn K cd_loops_go "loops_go" = true)
    (k_loops_go : PySem.W.keepIn K (.ref a_loops_go) = true)
    (n_answer_stmt : PySem.W.nsIn K mainGlobals "answer_stmt" = some (some (.ref a_answer_stmt)))
    (l_answer_stmt : K.lookup a_answer_stmt = some ⟨oc_answer_stmt, od_answer_stmt, .func (PySem.W.fnOf "answer_stmt" "answer_stmt" (defArgs s_answer_stmt) (defBody s_answer_stmt) (defScope s_answer_stmt) .none kV_answer_stmt dc_answer_stmt pm_answer_stmt an_answer_stmt cd_answer_stmt ct_answer_stmt), sl_answer_stmt⟩)
    (c_answer_stmt : PySem.W.codeIn K cd_answer_stmt "answer_stmt" = true)
    (k_answer_stmt : PySem.W.keepIn K (.ref a_answer_stmt) = true)
    (n_answer_access : PySem.W.nsIn K mainGlobals "answer_access" = some (some (.ref a_answer_access)))
    (l_answer_access : K.lookup a_answer_access = some ⟨oc_answer_access, od_answer_access, .func (PySem.W.fnOf "answer_access" "answer_access" (defArgs s_answer_access) (defBody s_answer_access) (defScope s_answer_access) .none kV_answer_access dc_answer_access pm_answer_access an_answer_access cd_answer_access ct_answer_access), sl_answer_access⟩)
    (c_answer_access : PySem.W.codeIn K cd_answer_access "answer_access" = true)
    (k_answer_access : PySem.W.keepIn K (.ref a_answer_access) = true)
    (n_answer_meet : PySem.W.nsIn K mainGlobals "answer_meet" = some (some (.ref a_answer_meet)))
    (l_answer_meet : K.lookup a_answer_meet = some ⟨oc_answer_meet, od_answer_meet, .func (PySem.W.fnOf "answer_meet" "answer_meet" (defArgs s_answer_meet) (defBody s_answer_meet) (defScope s_answer_meet) .none kV_answer_meet dc_answer_meet pm_answer_meet an_answer_meet cd_answer_meet ct_answer_meet), sl_answer_meet⟩)
    (c_answer_meet : PySem.W.codeIn K cd_answer_meet "answer_meet" = true)
    (k_answer_meet : PySem.W.keepIn K (.ref a_answer_meet) = true)
    (n_answer_dep : PySem.W.nsIn K mainGlobals "answer_dep" = some (some (.ref a_answer_dep)))
    (l_answer_dep : K.lookup a_answer_dep = some ⟨oc_answer_dep, od_answer_dep, .func (PySem.W.fnOf "answer_dep" "answer_dep" (defArgs s_answer_dep) (defBody s_answer_dep) (defScope s_answer_dep) .none kV_answer_dep dc_answer_dep pm_answer_dep an_answer_dep cd_answer_dep ct_answer_dep), sl_answer_dep⟩)
    (c_answer_dep : PySem.W.codeIn K cd_answer_dep "answer_dep" = true)
    (k_answer_dep : PySem.W.keepIn K (.ref a_answer_dep) = true)
    (n_answer_carried : PySem.W.nsIn K mainGlobals "answer_carried" = some (some (.ref a_answer_carried)))
    (l_answer_carried : K.lookup a_answer_carried = some ⟨oc_answer_carried, od_answer_carried, .func (PySem.W.fnOf "answer_carried" "answer_carried" (defArgs s_answer_carried) (defBody s_answer_carried) (defScope s_answer_carried) .none kV_answer_carried dc_answer_carried pm_answer_carried an_answer_carried cd_answer_carried ct_answer_carried), sl_answer_carried⟩)
    (c_answer_carried : PySem.W.codeIn K cd_answer_carried "answer_carried" = true)
    (k_answer_carried : PySem.W.keepIn K (.ref a_answer_carried) = true)
    (n_answer_try : PySem.W.nsIn K mainGlobals "answer_try" = some (some (.ref a_answer_try)))
    (l_answer_try : K.lookup a_answer_try = some ⟨oc_answer_try, od_answer_try, .func (PySem.W.fnOf "answer_try" "answer_try" (defArgs s_answer_try) (defBody s_answer_try) (defScope s_answer_try) .none kV_answer_try dc_answer_try pm_answer_try an_answer_try cd_answer_try ct_answer_try), sl_answer_try⟩)
    (c_answer_try : PySem.W.codeIn K cd_answer_try "answer_try" = true)
    (k_answer_try : PySem.W.keepIn K (.ref a_answer_try) = true)
    (n_answer_steps : PySem.W.nsIn K mainGlobals "answer_steps" = some (some (.ref a_answer_steps)))
    (l_answer_steps : K.lookup a_answer_steps = some ⟨oc_answer_steps, od_answer_steps, .func (PySem.W.fnOf "answer_steps" "answer_steps" (defArgs s_answer_steps) (defBody s_answer_steps) (defScope s_answer_steps) .none kV_answer_steps dc_answer_steps pm_answer_steps an_answer_steps cd_answer_steps ct_answer_steps), sl_answer_steps⟩)
    (c_answer_steps : PySem.W.codeIn K cd_answer_steps "answer_steps" = true)
    (k_answer_steps : PySem.W.keepIn K (.ref a_answer_steps) = true)
    (n_answer_level : PySem.W.nsIn K mainGlobals "answer_level" = some (some (.ref a_answer_level)))
    (l_answer_level : K.lookup a_answer_level = some ⟨oc_answer_level, od_answer_level, .func (PySem.W.fnOf "answer_level" "answer_level" (defArgs s_answer_level) (defBody s_answer_level) (defScope s_answer_level) .none kV_answer_level dc_answer_level pm_answer_level an_answer_level cd_answer_level ct_answer_level), sl_answer_level⟩)
    (c_answer_level : PySem.W.codeIn K cd_answer_level "answer_level" = true)
    (k_answer_level : PySem.W.keepIn K (.ref a_answer_level) = true)
    (n_answer_at : PySem.W.nsIn K mainGlobals "answer_at" = some (some (.ref a_answer_at)))
    (l_answer_at : K.lookup a_answer_at = some ⟨oc_answer_at, od_answer_at, .func (PySem.W.fnOf "answer_at" "answer_at" (defArgs s_answer_at) (defBody s_answer_at) (defScope s_answer_at) .none kV_answer_at dc_answer_at pm_answer_at an_answer_at cd_answer_at ct_answer_at), sl_answer_at⟩)
    (c_answer_at : PySem.W.codeIn K cd_answer_at "answer_at" = true)
    (k_answer_at : PySem.W.keepIn K (.ref a_answer_at) = true)
    (pg_Meetings : PySem.W.plainGet K c_Meetings Str.empty = true)
    (hd_Meetings : PySem.W.hasDictIn K c_Meetings = true)
    (po_Meetings : PySem.W.plainOver K c_Meetings = true)
    (sa_Meetings : PySem.W.findIn K (.ref c_Meetings) "__setattr__" = some (some (.builtin "object.__setattr__")))
    (mk_Meetings : PySem.W.makesIn K c_Meetings = true)
    (kc_Meetings : PySem.W.keepIn K (.ref c_Meetings) = true)
    (na_Meetings_instances : PySem.W.findIn K (.ref c_Meetings) "instances" = some none)
    (na_Meetings_levels : PySem.W.findIn K (.ref c_Meetings) "levels" = some none)
    (na_Meetings_pairs : PySem.W.findIn K (.ref c_Meetings) "pairs" = some none)
    (pg_Nest : PySem.W.plainGet K c_Nest Str.empty = true)
    (hd_Nest : PySem.W.hasDictIn K c_Nest = true)
    (po_Nest : PySem.W.plainOver K c_Nest = true)
    (sa_Nest : PySem.W.findIn K (.ref c_Nest) "__setattr__" = some (some (.builtin "object.__setattr__")))
    (mk_Nest : PySem.W.makesIn K c_Nest = true)
    (kc_Nest : PySem.W.keepIn K (.ref c_Nest) = true)
    (na_Nest_depth : PySem.W.findIn K (.ref c_Nest) "depth" = some none)
    (na_Nest_found : PySem.W.findIn K (.ref c_Nest) "found" = some none)
    (na_Nest_lengths : PySem.W.findIn K (.ref c_Nest) "lengths" = some none)
    (na_Nest_rounds : PySem.W.findIn K (.ref c_Nest) "rounds" = some none)
    (na_Nest_touches : PySem.W.findIn K (.ref c_Nest) "touches" = some none)
    (pg_Call : PySem.W.plainGet K c_Call Str.empty = true)
    (hd_Call : PySem.W.hasDictIn K c_Call = true)
    (po_Call : PySem.W.plainOver K c_Call = true)
    (sa_Call : PySem.W.findIn K (.ref c_Call) "__setattr__" = some (some (.builtin "object.__setattr__")))
    (mk_Call : PySem.W.makesIn K c_Call = true)
    (kc_Call : PySem.W.keepIn K (.ref c_Call) = true)
    (na_Call_kind : PySem.W.findIn K (.ref c_Call) "kind" = some none)
    (na_Call_lists : PySem.W.findIn K (.ref c_Call) "lists" = some none)
    (na_Call_numbers : PySem.W.findIn K (.ref c_Call) "numbers" = some none)
    (pg_Desk : PySem.W.plainGet K c_Desk Str.empty = true)
    (hd_Desk : PySem.W.hasDictIn K c_Desk = true)
    (po_Desk : PySem.W.plainOver K c_Desk = true)
    (sa_Desk : PySem.W.findIn K (.ref c_Desk) "__setattr__" = some (some (.builtin "object.__setattr__")))
    (mk_Desk : PySem.W.makesIn K c_Desk = true)
    (kc_Desk : PySem.W.keepIn K (.ref c_Desk) = true)
    (na_Desk_nest : PySem.W.findIn K (.ref c_Desk) "nest" = some none)
    (g_ROW_LENGTH : PySem.W.nsIn K mainGlobals "ROW_LENGTH" = some (some (.int 4 tk_ROW_LENGTH)))
    (g_MOST_LOOPS : PySem.W.nsIn K mainGlobals "MOST_LOOPS" = some (some (.int 3 tk_MOST_LOOPS)))
    (g_INIT : PySem.W.nsIn K mainGlobals "INIT" = some (some (.int 0 tk_INIT)))
    (g_STMT : PySem.W.nsIn K mainGlobals "STMT" = some (some (.int 1 tk_STMT)))
    (g_ACCESS : PySem.W.nsIn K mainGlobals "ACCESS" = some (some (.int 2 tk_ACCESS)))
    (g_MEET : PySem.W.nsIn K mainGlobals "MEET" = some (some (.int 3 tk_MEET)))
    (g_DEP : PySem.W.nsIn K mainGlobals "DEP" = some (some (.int 4 tk_DEP)))
    (g_CARRIED : PySem.W.nsIn K mainGlobals "CARRIED" = some (some (.int 5 tk_CARRIED)))
    (g_TRY : PySem.W.nsIn K mainGlobals "TRY" = some (some (.int 6 tk_TRY)))
    (g_STEPS : PySem.W.nsIn K mainGlobals "STEPS" = some (some (.int 7 tk_STEPS)))
    (g_LEVEL : PySem.W.nsIn K mainGlobals "LEVEL" = some (some (.int 8 tk_LEVEL)))
    (g_SHAPES : PySem.W.nsIn K mainGlobals "SHAPES" = some (some (.ref a_SHAPES)))
    (t_SHAPES : K.lookup a_SHAPES = some ⟨.type "tuple", to_SHAPES, .seq #[.ref a_SHAPES_0, .ref a_SHAPES_1, .ref a_SHAPES_2, .ref a_SHAPES_3, .ref a_SHAPES_4, .ref a_SHAPES_5, .ref a_SHAPES_6, .ref a_SHAPES_7, .ref a_SHAPES_8, .ref a_SHAPES_9] tn_SHAPES, tl_SHAPES⟩)
    (t_SHAPES_0 : K.lookup a_SHAPES_0 = some ⟨.type "tuple", to_SHAPES_0, .seq #[.int 1 tt_SHAPES_0_0, .int 1 tt_SHAPES_0_1] tn_SHAPES_0, tl_SHAPES_0⟩)
    (t_SHAPES_1 : K.lookup a_SHAPES_1 = some ⟨.type "tuple", to_SHAPES_1, .seq #[.int 0 tt_SHAPES_1_0, .int 0 tt_SHAPES_1_1] tn_SHAPES_1, tl_SHAPES_1⟩)
    (t_SHAPES_2 : K.lookup a_SHAPES_2 = some ⟨.type "tuple", to_SHAPES_2, .seq #[.int 3 tt_SHAPES_2_0, .int 1 tt_SHAPES_2_1] tn_SHAPES_2, tl_SHAPES_2⟩)
    (t_SHAPES_3 : K.lookup a_SHAPES_3 = some ⟨.type "tuple", to_SHAPES_3, .seq #[.int 0 tt_SHAPES_3_0, .int 2 tt_SHAPES_3_1] tn_SHAPES_3, tl_SHAPES_3⟩)
    (t_SHAPES_4 : K.lookup a_SHAPES_4 = some ⟨.type "tuple", to_SHAPES_4, .seq #[.int 2 tt_SHAPES_4_0, .int 0 tt_SHAPES_4_1] tn_SHAPES_4, tl_SHAPES_4⟩)
    (t_SHAPES_5 : K.lookup a_SHAPES_5 = some ⟨.type "tuple", to_SHAPES_5, .seq #[.int 1 tt_SHAPES_5_0, .int 0 tt_SHAPES_5_1] tn_SHAPES_5, tl_SHAPES_5⟩)
    (t_SHAPES_6 : K.lookup a_SHAPES_6 = some ⟨.type "tuple", to_SHAPES_6, .seq #[.int 1 tt_SHAPES_6_0, .int 1 tt_SHAPES_6_1] tn_SHAPES_6, tl_SHAPES_6⟩)
    (t_SHAPES_7 : K.lookup a_SHAPES_7 = some ⟨.type "tuple", to_SHAPES_7, .seq #[.int 0 tt_SHAPES_7_0, .int 0 tt_SHAPES_7_1] tn_SHAPES_7, tl_SHAPES_7⟩)
    (t_SHAPES_8 : K.lookup a_SHAPES_8 = some ⟨.type "tuple", to_SHAPES_8, .seq #[.int 0 tt_SHAPES_8_0, .int 1 tt_SHAPES_8_1] tn_SHAPES_8, tl_SHAPES_8⟩)
    (t_SHAPES_9 : K.lookup a_SHAPES_9 = some ⟨.type "tuple", to_SHAPES_9, .seq #[.int 1 tt_SHAPES_9_0, .int 0 tt_SHAPES_9_1] tn_SHAPES_9, tl_SHAPES_9⟩)
    (g_MOST_ROUNDS : PySem.W.nsIn K mainGlobals "MOST_ROUNDS" = some (some (.int 64 tk_MOST_ROUNDS)))
    (g_MOST_STATEMENTS : PySem.W.nsIn K mainGlobals "MOST_STATEMENTS" = some (some (.int 3 tk_MOST_STATEMENTS)))
    (g_MOST_ACCESSES : PySem.W.nsIn K mainGlobals "MOST_ACCESSES" = some (some (.int 3 tk_MOST_ACCESSES)))
    (g_LAST_ARRAY : PySem.W.nsIn K mainGlobals "LAST_ARRAY" = some (some (.int 7 tk_LAST_ARRAY)))
    (g_LONGEST_TIME : PySem.W.nsIn K mainGlobals "LONGEST_TIME" = some (some (.int 4 tk_LONGEST_TIME)))
    (n_len : PySem.W.nsIn K mainGlobals "len" = some none)
    (n_max : PySem.W.nsIn K mainGlobals "max" = some none)
    (n_range : PySem.W.nsIn K mainGlobals "range" = some none)
    (n_sum : PySem.W.nsIn K mainGlobals "sum" = some none) :
    ∃ A : Ad, Txt K mg A ∧ mg "answers" = some (.ref A.a_answers) := by
  have F_row_at := fun_mk (st := s_row_at) l_row_at c_row_at k_row_at
  have F_time_of := fun_mk (st := s_time_of) l_time_of c_time_of k_time_of
  have F_Meetings_init := fun_mk (st := s_Meetings_init) l_Meetings_init c_Meetings_init k_Meetings_init
  have F_Meetings_first_dependence := fun_mk (st := s_Meetings_first_dependence) l_Meetings_first_dependence c_Meetings_first_dependence k_Meetings_first_dependence
  have F_Meetings_first_carried := fun_mk (st := s_Meetings_first_carried) l_Meetings_first_carried c_Meetings_first_carried k_Meetings_first_carried
  have F_Meetings_first_barred := fun_mk (st := s_Meetings_first_barred) l_Meetings_first_barred c_Meetings_first_barred k_Meetings_first_barred
  have F_meeting_pairs := fun_mk (st := s_meeting_pairs) l_meeting_pairs c_meeting_pairs k_meeting_pairs
  have F_touches_meet := fun_mk (st := s_touches_meet) l_touches_meet c_touches_meet k_touches_meet
  have F_earliest_steps := fun_mk (st := s_earliest_steps) l_earliest_steps c_earliest_steps k_earliest_steps
  have F_Nest_init := fun_mk (st := s_Nest_init) l_Nest_init c_Nest_init k_Nest_init
  have F_Nest_has_loop := fun_mk (st := s_Nest_has_loop) l_Nest_has_loop c_Nest_has_loop k_Nest_has_loop
  have F_Nest_statement_count := fun_mk (st := s_Nest_statement_count) l_Nest_statement_count c_Nest_statement_count k_Nest_statement_count
  have F_Nest_has_statement := fun_mk (st := s_Nest_has_statement) l_Nest_has_statement c_Nest_has_statement k_Nest_has_statement
  have F_Nest_add_statement := fun_mk (st := s_Nest_add_statement) l_Nest_add_statement c_Nest_add_statement k_Nest_add_statement
  have F_Nest_access_count := fun_mk (st := s_Nest_access_count) l_Nest_access_count c_Nest_access_count k_Nest_access_count
  have F_Nest_add_access := fun_mk (st := s_Nest_add_access) l_Nest_add_access c_Nest_add_access k_Nest_add_access
  have F_Nest_is_instance := fun_mk (st := s_Nest_is_instance) l_Nest_is_instance c_Nest_is_instance k_Nest_is_instance
  have F_Nest_round_place := fun_mk (st := s_Nest_round_place) l_Nest_round_place c_Nest_round_place k_Nest_round_place
  have F_Nest_touched_by := fun_mk (st := s_Nest_touched_by) l_Nest_touched_by c_Nest_touched_by k_Nest_touched_by
  have F_Nest_meet := fun_mk (st := s_Nest_meet) l_Nest_meet c_Nest_meet k_Nest_meet
  have F_Nest_all_instances := fun_mk (st := s_Nest_all_instances) l_Nest_all_instances c_Nest_all_instances k_Nest_all_instances
  have F_Nest_meetings := fun_mk (st := s_Nest_meetings) l_Nest_meetings c_Nest_meetings k_Nest_meetings
  have F_Nest_level_of := fun_mk (st := s_Nest_level_of) l_Nest_level_of c_Nest_level_of k_Nest_level_of
  have F_all_rounds := fun_mk (st := s_all_rounds) l_all_rounds c_all_rounds k_all_rounds
  have F_Call_init := fun_mk (st := s_Call_init) l_Call_init c_Call_init k_Call_init
  have F_read_calls := fun_mk (st := s_read_calls) l_read_calls c_read_calls k_read_calls
  have F_read_lists := fun_mk (st := s_read_lists) l_read_lists c_read_lists k_read_lists
  have F_answers := fun_mk (st := s_answers) l_answers c_answers k_answers
  have F_Desk_init := fun_mk (st := s_Desk_init) l_Desk_init c_Desk_init k_Desk_init
  have F_Desk_answer := fun_mk (st := s_Desk_answer) l_Desk_answer c_Desk_answer k_Desk_answer
  have F_Desk_answer_init := fun_mk (st := s_Desk_answer_init) l_Desk_answer_init c_Desk_answer_init k_Desk_answer_init
  have F_tell := fun_mk (st := s_tell) l_tell c_tell k_tell
  have F_tell_pair := fun_mk (st := s_tell_pair) l_tell_pair c_tell_pair k_tell_pair
  have F_loops_go := fun_mk (st := s_loops_go) l_loops_go c_loops_go k_loops_go
  have F_answer_stmt := fun_mk (st := s_answer_stmt) l_answer_stmt c_answer_stmt k_answer_stmt
  have F_answer_access := fun_mk (st := s_answer_access) l_answer_access c_answer_access k_answer_access
  have F_answer_meet := fun_mk (st := s_answer_meet) l_answer_meet c_answer_meet k_answer_meet
  have F_answer_dep := fun_mk (st := s_answer_dep) l_answer_dep c_answer_dep k_answer_dep
  have F_answer_carried := fun_mk (st := s_answer_carried) l_answer_carried c_answer_carried k_answer_carried
  have F_answer_try := fun_mk (st := s_answer_try) l_answer_try c_answer_try k_answer_try
  have F_answer_steps := fun_mk (st := s_answer_steps) l_answer_steps c_answer_steps k_answer_steps
  have F_answer_level := fun_mk (st := s_answer_level) l_answer_level c_answer_level k_answer_level
  have F_answer_at := fun_mk (st := s_answer_at) l_answer_at c_answer_at k_answer_at
  refine ⟨⟨c_Meetings, c_Nest, c_Call, c_Desk, a_row_at, _, a_time_of, _, a_Meetings_init, _, a_Meetings_first_dependence, _, a_Meetings_first_carried, _, a_Meetings_first_barred, _, a_meeting_pairs, _, a_touches_meet, _, a_earliest_steps, _, a_Nest_init, _, a_Nest_has_loop, _, a_Nest_statement_count, _, a_Nest_has_statement, _, a_Nest_add_statement, _, a_Nest_access_count, _, a_Nest_add_access, _, a_Nest_is_instance, _, a_Nest_round_place, _, a_Nest_touched_by, _, a_Nest_meet, _, a_Nest_all_instances, _, a_Nest_meetings, _, a_Nest_level_of, _, a_all_rounds, _, a_Call_init, _, a_read_calls, _, a_read_lists, _, a_answers, _, a_Desk_init, _, a_Desk_answer, _, a_Desk_answer_init, _, a_tell, _, a_tell_pair, _, a_loops_go, _, a_answer_stmt, _, a_answer_access, _, a_answer_meet, _, a_answer_dep, _, a_answer_carried, _, a_answer_try, _, a_answer_steps, _, a_answer_level, _, a_answer_at, _, a_SHAPES, a_SHAPES_0, a_SHAPES_1, a_SHAPES_2, a_SHAPES_3, a_SHAPES_4, a_SHAPES_5, a_SHAPES_6, a_SHAPES_7, a_SHAPES_8, a_SHAPES_9⟩, ⟨F_row_at,
    F_row_at.binds fun _ _ _ _ _ _ us hl => lp2 us hl fun _ _ => rfl,
    PySem.W.mg_of X G n_row_at,
    F_time_of,
    F_time_of.binds fun _ _ _ _ _ _ us hl => lp3 us hl fun _ _ _ => rfl,
    PySem.W.mg_of X G n_time_of,
    F_Meetings_init,
    F_Meetings_init.binds fun _ _ _ _ _ _ us hl => lp3 us hl fun _ _ _ => rfl,
    F_Meetings_first_dependence,
    F_Meetings_first_dependence.binds fun _ _ _ _ _ _ us hl => lp3 us hl fun _ _ _ => rfl,
    ⟨n_Meetings_first_dependence, i_Meetings_first_dependence, k_Meetings_first_dependence⟩,
    F_Meetings_first_carried,
    F_Meetings_first_carried.binds fun _ _ _ _ _ _ us hl => lp2 us hl fun _ _ => rfl,
    ⟨n_Meetings_first_carried, i_Meetings_first_carried, k_Meetings_first_carried⟩,
    F_Meetings_first_barred,
    F_Meetings_first_barred.binds fun _ _ _ _ _ _ us hl => lp3 us hl fun _ _ _ => rfl,
    ⟨n_Meetings_first_barred, i_Meetings_first_barred, k_Meetings_first_barred⟩,
    F_meeting_pairs,
    F_meeting_pairs.binds fun _ _ _ _ _ _ us hl => lp1 us hl fun _ => rfl,
    PySem.W.mg_of X G n_meeting_pairs,
    F_touches_meet,
    F_touches_meet.binds fun _ _ _ _ _ _ us hl => lp2 us hl fun _ _ => rfl,
    PySem.W.mg_of X G n_touches_meet,
    F_earliest_steps,
    F_earliest_steps.binds fun _ _ _ _ _ _ us hl => lp2 us hl fun _ _ => rfl,
    PySem.W.mg_of X G n_earliest_steps,
    F_Nest_init,
    F_Nest_init.binds fun _ _ _ _ _ _ us hl => lp2 us hl fun _ _ => rfl,
    F_Nest_has_loop,
    F_Nest_has_loop.binds fun _ _ _ _ _ _ us hl => lp2 us hl fun _ _ => rfl,
    ⟨n_Nest_has_loop, i_Nest_has_loop, k_Nest_has_loop⟩,
    F_Nest_statement_count,
    F_Nest_statement_count.binds fun _ _ _ _ _ _ us hl => lp1 us hl fun _ => rfl,
    ⟨n_Nest_statement_count, i_Nest_statement_count, k_Nest_statement_count⟩,
    F_Nest_has_statement,
    F_Nest_has_statement.binds fun _ _ _ _ _ _ us hl => lp2 us hl fun _ _ => rfl,
    ⟨n_Nest_has_statement, i_Nest_has_statement, k_Nest_has_statement⟩,
    F_Nest_add_statement,
    F_Nest_add_statement.binds fun _ _ _ _ _ _ us hl => lp1 us hl fun _ => rfl,
    ⟨n_Nest_add_statement, i_Nest_add_statement, k_Nest_add_statement⟩,
    F_Nest_access_count,
    F_Nest_access_count.binds fun _ _ _ _ _ _ us hl => lp2 us hl fun _ _ => rfl,
    ⟨n_Nest_access_count, i_Nest_access_count, k_Nest_access_count⟩,
    F_Nest_add_access,
    F_Nest_add_access.binds fun _ _ _ _ _ _ us hl => lp5 us hl fun _ _ _ _ _ => rfl,
    ⟨n_Nest_add_access, i_Nest_add_access, k_Nest_add_access⟩,
    F_Nest_is_instance,
    F_Nest_is_instance.binds fun _ _ _ _ _ _ us hl => lp2 us hl fun _ _ => rfl,
    ⟨n_Nest_is_instance, i_Nest_is_instance, k_Nest_is_instance⟩,
    F_Nest_round_place,
    F_Nest_round_place.binds fun _ _ _ _ _ _ us hl => lp2 us hl fun _ _ => rfl,
    ⟨n_Nest_round_place, i_Nest_round_place, k_Nest_round_place⟩,
    F_Nest_touched_by,
    F_Nest_touched_by.binds fun _ _ _ _ _ _ us hl => lp2 us hl fun _ _ => rfl,
    ⟨n_Nest_touched_by, i_Nest_touched_by, k_Nest_touched_by⟩,
    F_Nest_meet,
    F_Nest_meet.binds fun _ _ _ _ _ _ us hl => lp3 us hl fun _ _ _ => rfl,
    ⟨n_Nest_meet, i_Nest_meet, k_Nest_meet⟩,
    F_Nest_all_instances,
    F_Nest_all_instances.binds fun _ _ _ _ _ _ us hl => lp1 us hl fun _ => rfl,
    ⟨n_Nest_all_instances, i_Nest_all_instances, k_Nest_all_instances⟩,
    F_Nest_meetings,
    F_Nest_meetings.binds fun _ _ _ _ _ _ us hl => lp1 us hl fun _ => rfl,
    ⟨n_Nest_meetings, i_Nest_meetings, k_Nest_meetings⟩,
    F_Nest_level_of,
    F_Nest_level_of.binds fun _ _ _ _ _ _ us hl => lp2 us hl fun _ _ => rfl,
    ⟨n_Nest_level_of, i_Nest_level_of, k_Nest_level_of⟩,
    F_all_rounds,
    F_all_rounds.binds fun _ _ _ _ _ _ us hl => lp1 us hl fun _ => rfl,
    PySem.W.mg_of X G n_all_rounds,
    F_Call_init,
    F_Call_init.binds fun _ _ _ _ _ _ us hl => lp4 us hl fun _ _ _ _ => rfl,
    F_read_calls,
    F_read_calls.binds fun _ _ _ _ _ _ us hl => lp1 us hl fun _ => rfl,
    PySem.W.mg_of X G n_read_calls,
    F_read_lists,
    F_read_lists.binds fun _ _ _ _ _ _ us hl => lp3 us hl fun _ _ _ => rfl,
    PySem.W.mg_of X G n_read_lists,
    F_answers,
    F_answers.binds fun _ _ _ _ _ _ us hl => lp1 us hl fun _ => rfl,
    PySem.W.mg_of X G n_answers,
    F_Desk_init,
    F_Desk_init.binds fun _ _ _ _ _ _ us hl => lp1 us hl fun _ => rfl,
    F_Desk_answer,
    F_Desk_answer.binds fun _ _ _ _ _ _ us hl => lp2 us hl fun _ _ => rfl,
    ⟨n_Desk_answer, i_Desk_answer, k_Desk_answer⟩,
    F_Desk_answer_init,
    F_Desk_answer_init.binds fun _ _ _ _ _ _ us hl => lp3 us hl fun _ _ _ => rfl,
    ⟨n_Desk_answer_init, i_Desk_answer_init, k_Desk_answer_init⟩,
    F_tell,
    F_tell.binds fun _ _ _ _ _ _ us hl => lp2 us hl fun _ _ => rfl,
    PySem.W.mg_of X G n_tell,
    F_tell_pair,
    F_tell_pair.binds fun _ _ _ _ _ _ us hl => lp1 us hl fun _ => rfl,
    PySem.W.mg_of X G n_tell_pair,
    F_loops_go,
    F_loops_go.binds fun _ _ _ _ _ _ us hl => lp2 us hl fun _ _ => rfl,
    PySem.W.mg_of X G n_loops_go,
    F_answer_stmt,
    F_answer_stmt.binds fun _ _ _ _ _ _ us hl => lp1 us hl fun _ => rfl,
    PySem.W.mg_of X G n_answer_stmt,
    F_answer_access,
    F_answer_access.binds fun _ _ _ _ _ _ us hl => lp3 us hl fun _ _ _ => rfl,
    PySem.W.mg_of X G n_answer_access,
    F_answer_meet,
    F_answer_meet.binds fun _ _ _ _ _ _ us hl => lp3 us hl fun _ _ _ => rfl,
    PySem.W.mg_of X G n_answer_meet,
    F_answer_dep,
    F_answer_dep.binds fun _ _ _ _ _ _ us hl => lp3 us hl fun _ _ _ => rfl,
    PySem.W.mg_of X G n_answer_dep,
    F_answer_carried,
    F_answer_carried.binds fun _ _ _ _ _ _ us hl => lp2 us hl fun _ _ => rfl,
    PySem.W.mg_of X G n_answer_carried,
    F_answer_try,
    F_answer_try.binds fun _ _ _ _ _ _ us hl => lp3 us hl fun _ _ _ => rfl,
    PySem.W.mg_of X G n_answer_try,
    F_answer_steps,
    F_answer_steps.binds fun _ _ _ _ _ _ us hl => lp1 us hl fun _ => rfl,
    PySem.W.mg_of X G n_answer_steps,
    F_answer_level,
    F_answer_level.binds fun _ _ _ _ _ _ us hl => lp2 us hl fun _ _ => rfl,
    PySem.W.mg_of X G n_answer_level,
    F_answer_at,
    F_answer_at.binds fun _ _ _ _ _ _ us hl => lp2 us hl fun _ _ => rfl,
    PySem.W.mg_of X G n_answer_at,
    ⟨pg_Meetings, hd_Meetings, po_Meetings, sa_Meetings⟩,
    PySem.W.mg_of X G aC_Meetings,
    ⟨mk_Meetings, n_Meetings_init, i_Meetings_init, kc_Meetings⟩,
    na_Meetings_instances,
    na_Meetings_levels,
    na_Meetings_pairs,
    ⟨pg_Nest, hd_Nest, po_Nest, sa_Nest⟩,
    PySem.W.mg_of X G aC_Nest,
    ⟨mk_Nest, n_Nest_init, i_Nest_init, kc_Nest⟩,
    na_Nest_depth,
    na_Nest_found,
    na_Nest_lengths,
    na_Nest_rounds,
    na_Nest_touches,
    ⟨pg_Call, hd_Call, po_Call, sa_Call⟩,
    PySem.W.mg_of X G aC_Call,
    ⟨mk_Call, n_Call_init, i_Call_init, kc_Call⟩,
    na_Call_kind,
    na_Call_lists,
    na_Call_numbers,
    ⟨pg_Desk, hd_Desk, po_Desk, sa_Desk⟩,
    PySem.W.mg_of X G aC_Desk,
    ⟨mk_Desk, n_Desk_init, i_Desk_init, kc_Desk⟩,
    na_Desk_nest,
    ⟨_, PySem.W.mg_of X G g_ROW_LENGTH⟩,
    ⟨_, PySem.W.mg_of X G g_MOST_LOOPS⟩,
    ⟨_, PySem.W.mg_of X G g_INIT⟩,
    ⟨_, PySem.W.mg_of X G g_STMT⟩,
    ⟨_, PySem.W.mg_of X G g_ACCESS⟩,
    ⟨_, PySem.W.mg_of X G g_MEET⟩,
    ⟨_, PySem.W.mg_of X G g_DEP⟩,
    ⟨_, PySem.W.mg_of X G g_CARRIED⟩,
    ⟨_, PySem.W.mg_of X G g_TRY⟩,
    ⟨_, PySem.W.mg_of X G g_STEPS⟩,
    ⟨_, PySem.W.mg_of X G g_LEVEL⟩,
    PySem.W.mg_of X G g_SHAPES,
    fun H => .inr ⟨_, _, _, t_SHAPES, rfl, rfl, (by show 10 ≤ sizeLine; decide), (.cons rfl (.cons rfl (.cons rfl (.cons rfl (.cons rfl (.cons rfl (.cons rfl (.cons rfl (.cons rfl (.cons rfl .nil))))))))))⟩,
    fun H => .inr ⟨_, _, _, t_SHAPES_0, rfl, rfl, (by show 2 ≤ sizeLine; decide), (.cons ⟨_, rfl⟩ (.cons ⟨_, rfl⟩ .nil))⟩,
    fun H => .inr ⟨_, _, _, t_SHAPES_1, rfl, rfl, (by show 2 ≤ sizeLine; decide), (.cons ⟨_, rfl⟩ (.cons ⟨_, rfl⟩ .nil))⟩,
    fun H => .inr ⟨_, _, _, t_SHAPES_2, rfl, rfl, (by show 2 ≤ sizeLine; decide), (.cons ⟨_, rfl⟩ (.cons ⟨_, rfl⟩ .nil))⟩,
    fun H => .inr ⟨_, _, _, t_SHAPES_3, rfl, rfl, (by show 2 ≤ sizeLine; decide), (.cons ⟨_, rfl⟩ (.cons ⟨_, rfl⟩ .nil))⟩,
    fun H => .inr ⟨_, _, _, t_SHAPES_4, rfl, rfl, (by show 2 ≤ sizeLine; decide), (.cons ⟨_, rfl⟩ (.cons ⟨_, rfl⟩ .nil))⟩,
    fun H => .inr ⟨_, _, _, t_SHAPES_5, rfl, rfl, (by show 2 ≤ sizeLine; decide), (.cons ⟨_, rfl⟩ (.cons ⟨_, rfl⟩ .nil))⟩,
    fun H => .inr ⟨_, _, _, t_SHAPES_6, rfl, rfl, (by show 2 ≤ sizeLine; decide), (.cons ⟨_, rfl⟩ (.cons ⟨_, rfl⟩ .nil))⟩,
    fun H => .inr ⟨_, _, _, t_SHAPES_7, rfl, rfl, (by show 2 ≤ sizeLine; decide), (.cons ⟨_, rfl⟩ (.cons ⟨_, rfl⟩ .nil))⟩,
    fun H => .inr ⟨_, _, _, t_SHAPES_8, rfl, rfl, (by show 2 ≤ sizeLine; decide), (.cons ⟨_, rfl⟩ (.cons ⟨_, rfl⟩ .nil))⟩,
    fun H => .inr ⟨_, _, _, t_SHAPES_9, rfl, rfl, (by show 2 ≤ sizeLine; decide), (.cons ⟨_, rfl⟩ (.cons ⟨_, rfl⟩ .nil))⟩,
    ⟨_, PySem.W.mg_of X G g_MOST_ROUNDS⟩,
    ⟨_, PySem.W.mg_of X G g_MOST_STATEMENTS⟩,
    ⟨_, PySem.W.mg_of X G g_MOST_ACCESSES⟩,
    ⟨_, PySem.W.mg_of X G g_LAST_ARRAY⟩,
    ⟨_, PySem.W.mg_of X G g_LONGEST_TIME⟩,
    PySem.W.mg_none_of X G n_len,
    PySem.W.mg_none_of X G n_max,
    PySem.W.mg_none_of X G n_range,
    PySem.W.mg_none_of X G n_sum⟩, PySem.W.mg_of X G n_answers⟩
set_option maxHeartbeats 4000000 in
theorem all_mk {P : Program} {w : World} {K : PySem.W.Frag} {h : Heap} {mg : Str → Option Value} (X : K.In h) (G : h.Ns mainGlobals mg) {fa : Addr} (hfa : mg "answers" = some (.ref fa))
    {c_Meetings : Addr} {c_Nest : Addr} {c_Call : Addr} {c_Desk : Addr} {a_row_at : Addr} {od_row_at an_row_at : Option Addr} {sl_row_at : Array (Option Value)} {oc_row_at kV_row_at dc_row_at pm_row_at cd_row_at ct_row_at : Value} {a_time_of : Addr} {od_time_of an_time_of : Option Addr} {sl_time_of : Array (Option Value)} {oc_time_of kV_time_of dc_time_of pm_time_of cd_time_of ct_time_of : Value} {a_Meetings_init : Addr} {od_Meetings_init an_Meetings_init : Option Addr} {sl_Meetings_init : Array (Option Value)} {oc_Meetings_init kV_Meetings_init dc_Meetings_init pm_Meetings_init cd_Meetings_init ct_Meetings_init : Value} {a_Meetings_first_dependence : Addr} {od_Meetings_first_dependence an_Meetings_first_dependence : Option Addr} {sl_Meetings_first_dependence : Array (Option Value)} {oc_Meetings_first_dependence kV_Meetings_first_dependence dc_Meetings_first_dependence pm_Meetings_first_dependence cd_Meetings_first_dependence ct_Meetings_first_dependence : Value} {a_Meetings_first_carried : Addr} {od_Meetings_first_carried an_Meetings_first_carried : Option Addr} {sl_Meetings_first_carried : Array (Option Value)} {oc_Meetings_first_carried kV_Meetings_first_carried dc_Meetings_first_carried pm_Meetings_first_carried cd_Meetings_first_carried ct_Meetings_first_carried : Value} {a_Meetings_first_barred : Addr} {od_Meetings_first_barred an_Meetings_first_barred : Option Addr} {sl_Meetings_first_barred : Array (Option Value)} {oc_Meetings_first_barred kV_Meetings_first_barred dc_Meetings_first_barred pm_Meetings_first_barred cd_Meetings_first_barred ct_Meetings_first_barred : Value} {a_meeting_pairs : Addr} {od_meeting_pairs an_meeting_pairs : Option Addr} {sl_meeting_pairs : Array (Option Value)} {oc_meeting_pairs kV_meeting_pairs dc_meeting_pairs pm_meeting_pairs cd_meeting_pairs ct_meeting_pairs : Value} {a_touches_meet : Addr} {od_touches_meet an_touches_meet : Option Addr} {sl_touches_meet : Array (Option Value)} {oc_touches_meet kV_touches_meet dc_touches_meet pm_touches_meet cd_touches_meet ct_touches_meet : Value} {a_earliest_steps : Addr} {od_earliest_steps an_earliest_steps : Option Addr} {sl_earliest_steps : Array (Option Value)} {oc_earliest_steps kV_earliest_steps dc_earliest_steps pm_earliest_steps cd_earliest_steps ct_earliest_steps : Value} {a_Nest_init : Addr} {od_Nest_init an_Nest_init : Option Addr} {sl_Nest_init : Array (Option Value)} {oc_Nest_init kV_Nest_init dc_Nest_init pm_Nest_init cd_Nest_init ct_Nest_init : Value} {a_Nest_has_loop : Addr} {od_Nest_has_loop an_Nest_has_loop : Option Addr} {sl_Nest_has_loop : Array (Option Value)} {oc_Nest_has_loop kV_Nest_has_loop dc_Nest_has_loop pm_Nest_has_loop cd_Nest_has_loop ct_Nest_has_loop : Value} {a_Nest_statement_count : Addr} {od_Nest_statement_count an_Nest_statement_count : Option Addr} {sl_Nest_statement_count : Array (Option Value)} {oc_Nest_statement_count kV_Nest_statement_count dc_Nest_statement_count pm_Nest_statement_count cd_Nest_statement_count ct_Nest_statement_count : Value} {a_Nest_has_statement : Addr} {od_Nest_has_statement an_Nest_has_statement : Option Addr} {sl_Nest_has_statement : Array (Option Value)} {oc_Nest_has_statement kV_Nest_has_statement dc_Nest_has_statement pm_Nest_has_statement cd_Nest_has_statement ct_Nest_has_statement : Value} {a_Nest_add_statement : Addr} {od_Nest_add_statement an_Nest_add_statement : Option Addr} {sl_Nest_add_statement : Array (Option Value)} {oc_Nest_add_statement kV_Nest_add_statement dc_Nest_add_statement pm_Nest_add_statement cd_Nest_add_statement ct_Nest_add_statement : Value} {a_Nest_access_count : Addr} {od_Nest_access_count an_Nest_access_count : Option Addr} {sl_Nest_access_count : Array (Option Value)} {oc_Nest_access_count kV_Nest_access_count dc_Nest_access_count pm_Nest_access_count cd_Nest_access_count ct_Nest_access_count : Value} {a_Nest_add_access : Addr} {od_Nest_add_access an_Nest_add_access : Option Addr} {sl_Nest_add_access : Array (Option Value)} {oc_Nest_add_access kV_Nest_add_access dc_Nest_add_access pm_Nest_add_access cd_Nest_add_access ct_Nest_add_access : Value} {a_Nest_is_instance : Addr} {od_Nest_is_instance an_Nest_is_instance : Option Addr} {sl_Nest_is_instance : Array (Option Value)} {oc_Nest_is_instance kV_Nest_is_instance dc_Nest_is_instance pm_Nest_is_instance cd_Nest_is_instance ct_Nest_is_instance : Value} {a_Nest_round_place : Addr} {od_Nest_round_place an_Nest_round_place : Option Addr} {sl_Nest_round_place : Array (Option Value)} {oc_Nest_round_place kV_Nest_round_place dc_Nest_round_place pm_Nest_round_place cd_Nest_round_place ct_Nest_round_place : Value} {a_Nest_touched_by : Addr} {od_Nest_touched_by an_Nest_touched_by : Option Addr} {sl_Nest_touched_by : Array (Option Value)} {oc_Nest_touched_by kV_Nest_touched_by dc_Nest_touched_by pm_Nest_touched_by cd_Nest_touched_by ct_Nest_touched_by : Value} {a_Nest_meet : Addr} {od_Nest_meet an_Nest_meet : Option Addr} {sl_Nest_meet : Array (Option Value)} {oc_Nest_meet kV_Nest_meet dc_Nest_meet pm_Nest_meet cd_Nest_meet ct_Nest_meet : Value} {a_Nest_all_instances : Addr} {od_Nest_all_instances an_Nest_all_instances : Option Addr} {sl_Nest_all_instances : Array (Option Value)} {oc_Nest_all_instances kV_Nest_all_instances dc_Nest_all_instances pm_Nest_all_instances cd_Nest_all_instances ct_Nest_all_instances : Value} {a_Nest_meetings : Addr} {od_Nest_meetings an_Nest_meetings : Option Addr} {sl_Nest_meetings : Array (Option Value)} {oc_Nest_meetings kV_Nest_meetings dc_Nest_meetings pm_Nest_meetings cd_Nest_meetings ct_Nest_meetings : Value} {a_Nest_level_of : Addr} {od_Nest_level_of an_Nest_level_of : Option Addr} {sl_Nest_level_of : Array (Option Value)} {oc_Nest_level_of kV_Nest_level_of dc_Nest_level_of pm_Nest_level_of cd_Nest_level_of ct_Nest_level_of : Value} {a_all_rounds : Addr} {od_all_rounds an_all_rounds : Option Addr} {sl_all_rounds : Array (Option Value)} {oc_all_rounds kV_all_rounds dc_all_rounds pm_all_rounds cd_all_rounds ct_all_rounds : Value} {a_Call_init : Addr} {od_Call_init an_Call_init : Option Addr} {sl_Call_init : Array (Option Value)} {oc_Call_init kV_Call_init dc_Call_init pm_Call_init cd_Call_init ct_Call_init : Value} {a_read_calls : Addr} {od_read_calls an_read_calls : Option Addr} {sl_read_calls : Array (Option Value)} {oc_read_calls kV_read_calls dc_read_calls pm_read_calls cd_read_calls ct_read_calls : Value} {a_read_lists : Addr} {od_read_lists an_read_lists : Option Addr} {sl_read_lists : Array (Option Value)} {oc_read_lists kV_read_lists dc_read_lists pm_read_lists cd_read_lists ct_read_lists : Value} {a_answers : Addr} {od_answers an_answers : Option Addr} {sl_answers : Array (Option Value)} {oc_answers kV_answers dc_answers pm_answers cd_answers ct_answers : Value} {a_Desk_init : Addr} {od_Desk_init an_Desk_init : Option Addr} {sl_Desk_init : Array (Option Value)} {oc_Desk_init kV_Desk_init dc_Desk_init pm_Desk_init cd_Desk_init ct_Desk_init : Value} {a_Desk_answer : Addr} {od_Desk_answer an_Desk_answer : Option Addr} {sl_Desk_answer : Array (Option Value)} {oc_Desk_answer kV_Desk_answer dc_Desk_answer pm_Desk_answer cd_Desk_answer ct_Desk_answer : Value} {a_Desk_answer_init : Addr} {od_Desk_answer_init an_Desk_answer_init : Option Addr} {sl_Desk_answer_init : Array (Option Value)} {oc_Desk_answer_init kV_Desk_answer_init dc_Desk_answer_init pm_Desk_answer_init cd_Desk_answer_init ct_Desk_answer_init : Value} {a_tell : Addr} {od_tell an_tell : Option Addr} {sl_tell : Array (Option Value)} {oc_tell kV_tell dc_tell pm_tell cd_tell ct_tell : Value} {a_tell_pair : Addr} {od_tell_pair an_tell_pair : Option Addr} {sl_tell_pair : Array (Option Value)} {oc_tell_pair kV_tell_pair dc_tell_pair pm_tell_pair cd_tell_pair ct_tell_pair : Value} {a_loops_go : Addr} {od_loops_go an_loops_go : Option Addr} {sl_loops_go : Array (Option Value)} {oc_loops_go kV_loops_go dc_loops_go pm_loops_go cd_loops_go ct_loops_go : Value} {a_answer_stmt : Addr} {od_answer_stmt an_answer_stmt : Option Addr} {sl_answer_stmt : Array (Option Value)} {oc_answer_stmt kV_answer_stmt dc_answer_stmt pm_answer_stmt cd_answer_stmt ct_answer_stmt : Value} {a_answer_access : Addr} {od_answer_access an_answer_access : Option Addr} {sl_answer_access : Array (Option Value)} {oc_answer_access kV_answer_access dc_answer_access pm_answer_access cd_answer_access ct_answer_access : Value} {a_answer_meet : Addr} {od_answer_meet an_answer_meet : Option Addr} {sl_answer_meet : Array (Option Value)} {oc_answer_meet kV_answer_meet dc_answer_meet pm_answer_meet cd_answer_meet ct_answer_meet : Value} {a_answer_dep : Addr} {od_answer_dep an_answer_dep : Option Addr} {sl_answer_dep : Array (Option Value)} {oc_answer_dep kV_answer_dep dc_answer_dep pm_answer_dep cd_answer_dep ct_answer_dep : Value} {a_answer_carried : Addr} {od_answer_carried an_answer_carried : Option Addr} {sl_answer_carried : Array (Option Value)} {oc_answer_carried kV_answer_carried dc_answer_carried pm_answer_carried cd_answer_carried ct_answer_carried : Value} {a_answer_try : Addr} {od_answer_try an_answer_try : Option Addr} {sl_answer_try : Array (Option Value)} {oc_answer_try kV_answer_try dc_answer_try pm_answer_try cd_answer_try ct_answer_try : Value} {a_answer_steps : Addr} {od_answer_steps an_answer_steps : Option Addr} {sl_answer_steps : Array (Option Value)} {oc_answer_steps kV_answer_steps dc_answer_steps pm_answer_steps cd_answer_steps ct_answer_steps : Value} {a_answer_level : Addr} {od_answer_level an_answer_level : Option Addr} {sl_answer_level : Array (Option Value)} {oc_answer_level kV_answer_level dc_answer_level pm_answer_level cd_answer_level ct_answer_level : Value} {a_answer_at : Addr} {od_answer_at an_answer_at : Option Addr} {sl_answer_at : Array (Option Value)} {oc_answer_at kV_answer_at dc_answer_at pm_answer_at cd_answer_at ct_answer_at : Value} {tk_ROW_LENGTH : Tok} {tk_MOST_LOOPS : Tok} {tk_INIT : Tok} {tk_STMT : Tok} {tk_ACCESS : Tok} {tk_MEET : Tok} {tk_DEP : Tok} {tk_CARRIED : Tok} {tk_TRY : Tok} {tk_STEPS : Tok} {tk_LEVEL : Tok} {a_SHAPES a_SHAPES_0 a_SHAPES_1 a_SHAPES_2 a_SHAPES_3 a_SHAPES_4 a_SHAPES_5 a_SHAPES_6 a_SHAPES_7 a_SHAPES_8 a_SHAPES_9 : Addr} {tn_SHAPES tn_SHAPES_0 tn_SHAPES_1 tn_SHAPES_2 tn_SHAPES_3 tn_SHAPES_4 tn_SHAPES_5 tn_SHAPES_6 tn_SHAPES_7 tn_SHAPES_8 tn_SHAPES_9 : Nat} {to_SHAPES to_SHAPES_0 to_SHAPES_1 to_SHAPES_2 to_SHAPES_3 to_SHAPES_4 to_SHAPES_5 to_SHAPES_6 to_SHAPES_7 to_SHAPES_8 to_SHAPES_9 : Option Addr} {tl_SHAPES tl_SHAPES_0 tl_SHAPES_1 tl_SHAPES_2 tl_SHAPES_3 tl_SHAPES_4 tl_SHAPES_5 tl_SHAPES_6 tl_SHAPES_7 tl_SHAPES_8 tl_SHAPES_9 : Array (Option Value)} {tt_SHAPES_0_0 tt_SHAPES_0_1 : Tok} {tt_SHAPES_1_0 tt_SHAPES_1_1 : Tok} {tt_SHAPES_2_0 tt_SHAPES_2_1 : Tok} {tt_SHAPES_3_0 tt_SHAPES_3_1 : Tok} {tt_SHAPES_4_0 tt_SHAPES_4_1 : Tok} {tt_SHAPES_5_0 tt_SHAPES_5_1 : Tok} {tt_SHAPES_6_0 tt_SHAPES_6_1 : Tok} {tt_SHAPES_7_0 tt_SHAPES_7_1 : Tok} {tt_SHAPES_8_0 tt_SHAPES_8_1 : Tok} {tt_SHAPES_9_0 tt_SHAPES_9_1 : Tok} {tk_MOST_ROUNDS : Tok} {tk_MOST_STATEMENTS : Tok} {tk_MOST_ACCESSES : Tok} {tk_LAST_ARRAY : Tok} {tk_LONGEST_TIME : Tok}
    (aC_Meetings : PySem.W.nsIn K mainGlobals "Meetings" = some (some (.ref c_Meetings)))
    (aC_Nest : PySem.W.nsIn K mainGlobals "Nest" = some (some (.ref c_Nest)))
    (aC_Call : PySem.W.nsIn K mainGlobals "Call" = some (some (.ref c_Call)))
    (aC_Desk : PySem.W.nsIn K mainGlobals "Desk" = some (some (.ref c_Desk)))
    (n_row_at : PySem.W.nsIn K mainGlobals "row_at" = some (some (.ref a_row_at)))
    (l_row_at : K.lookup a_row_at = some ⟨oc_row_at, od_row_at, .func (PySem.W.fnOf "row_at" "row_at" (defArgs s_row_at) (defBody s_row_at) (defScope s_row_at) .none kV_row_at dc_row_at pm_row_at an_row_at cd_row_at ct_row_at), sl_row_at⟩)
    (c_row_at : PySem.W.codeIn K cd_row_at "row_at" = true)
    (k_row_at : PySem.W.keepIn K (.ref a_row_at) = true)
    (n_time_of : PySem.W.nsIn K mainGlobals "time_of" = some (some (.ref a_time_of)))
    (l_time_of : K.lookup a_time_of = some ⟨oc_time_of, od_time_of, .func (PySem.W.fnOf "time_of" "time_of" (defArgs s_time_of) (defBody s_time_of) (defScope s_time_of) .none kV_time_of dc_time_of pm_time_of an_time_of cd_time_of ct_time_of), sl_time_of⟩)
    (c_time_of : PySem.W.codeIn K cd_time_of "time_of" = true)
    (k_time_of : PySem.W.keepIn K (.ref a_time_of) = true)
    (n_Meetings_init : PySem.W.findIn K (.ref c_Meetings) "__init__" = some (some (.ref a_Meetings_init)))
    (i_Meetings_init : PySem.W.isFn K (.ref a_Meetings_init) = true)
    (l_Meetings_init : K.lookup a_Meetings_init = some ⟨oc_Meetings_init, od_Meetings_init, .func (PySem.W.fnOf "__init__" "Meetings.__init__" (defArgs s_Meetings_init) (defBody s_Meetings_init) (defScope s_Meetings_init) .none kV_Meetings_init dc_Meetings_init pm_Meetings_init an_Meetings_init cd_Meetings_init ct_Meetings_init), sl_Meetings_init⟩)
    (c_Meetings_init : PySem.W.codeIn K cd_Meetings_init "Meetings.__init__" = true)
    (k_Meetings_init : PySem.W.keepIn K (.ref a_Meetings_init) = true)
    (n_Meetings_first_dependence : PySem.W.findIn K (.ref c_Meetings) "first_dependence" = some (some (.ref a_Meetings_first_dependence)))
    (i_Meetings_first_dependence : PySem.W.isFn K (.ref a_Meetings_first_dependence) = true)
    (l_Meetings_first_dependence : K.lookup a_Meetings_first_dependence = some ⟨oc_Meetings_first_dependence, od_Meetings_first_dependence, .func (PySem.W.fnOf "first_dependence" "Meetings.first_dependence" (defArgs s_Meetings_first_dependence) (defBody s_Meetings_first_dependence) (defScope s_Meetings_first_dependence) .none kV_Meetings_first_dependence dc_Meetings_first_dependence pm_Meetings_first_dependence an_Meetings_first_dependence cd_Meetings_first_dependence ct_Meetings_first_dependence), sl_Meetings_first_dependence⟩)
    (c_Meetings_first_dependence : PySem.W.codeIn K cd_Meetings_first_dependence "Meetings.first_dependence" = true)
    (k_Meetings_first_dependence : PySem.W.keepIn K (.ref a_Meetings_first_dependence) = true)
    (n_Meetings_first_carried : PySem.W.findIn K (.ref c_Meetings) "first_carried" = some (some (.ref a_Meetings_first_carried)))
    (i_Meetings_first_carried : PySem.W.isFn K (.ref a_Meetings_first_carried) = true)
    (l_Meetings_first_carried : K.lookup a_Meetings_first_carried = some ⟨oc_Meetings_first_carried, od_Meetings_first_carried, .func (PySem.W.fnOf "first_carried" "Meetings.first_carried" (defArgs s_Meetings_first_carried) (defBody s_Meetings_first_carried) (defScope s_Meetings_first_carried) .none kV_Meetings_first_carried dc_Meetings_first_carried pm_Meetings_first_carried an_Meetings_first_carried cd_Meetings_first_carried ct_Meetings_first_carried), sl_Meetings_first_carried⟩)
    (c_Meetings_first_carried : PySem.W.codeIn K cd_Meetings_first_carried "Meetings.first_carried" = true)
    (k_Meetings_first_carried : PySem.W.keepIn K (.ref a_Meetings_first_carried) = true)
    (n_Meetings_first_barred : PySem.W.findIn K (.ref c_Meetings) "first_barred" = some (some (.ref a_Meetings_first_barred)))
    (i_Meetings_first_barred : PySem.W.isFn K (.ref a_Meetings_first_barred) = true)
    (l_Meetings_first_barred : K.lookup a_Meetings_first_barred = some ⟨oc_Meetings_first_barred, od_Meetings_first_barred, .func (PySem.W.fnOf "first_barred" "Meetings.first_barred" (defArgs s_Meetings_first_barred) (defBody s_Meetings_first_barred) (defScope s_Meetings_first_barred) .none kV_Meetings_first_barred dc_Meetings_first_barred pm_Meetings_first_barred an_Meetings_first_barred cd_Meetings_first_barred ct_Meetings_first_barred), sl_Meetings_first_barred⟩)
    (c_Meetings_first_barred : PySem.W.codeIn K cd_Meetings_first_barred "Meetings.first_barred" = true)
    (k_Meetings_first_barred : PySem.W.keepIn K (.ref a_Meetings_first_barred) = true)
    (n_meeting_pairs : PySem.W.nsIn K mainGlobals "meeting_pairs" = some (some (.ref a_meeting_pairs)))
    (l_meeting_pairs : K.lookup a_meeting_pairs = some ⟨oc_meeting_pairs, od_meeting_pairs, .func (PySem.W.fnOf "meeting_pairs" "meeting_pairs" (defArgs s_meeting_pairs) (defBody s_meeting_pairs) (defScope s_meeting_pairs) .none kV_meeting_pairs dc_meeting_pairs pm_meeting_pairs an_meeting_pairs cd_meeting_pairs ct_meeting_pairs), sl_meeting_pairs⟩)
    (c_meeting_pairs : PySem.W.codeIn K cd_meeting_pairs "meeting_pairs" = true)
    (k_meeting_pairs : PySem.W.keepIn K (.ref a_meeting_pairs) = true)
    (n_touches_meet : PySem.W.nsIn K mainGlobals "touches_meet" = some (some (.ref a_touches_meet)))
    (l_touches_meet : K.lookup a_touches_meet = some ⟨oc_touches_meet, od_touches_meet, .func (PySem.W.fnOf "touches_meet" "touches_meet" (defArgs s_touches_meet) (defBody s_touches_meet) (defScope s_touches_meet) .none kV_touches_meet dc_touches_meet pm_touches_meet an_touches_meet cd_touches_meet ct_touches_meet), sl_touches_meet⟩)
    (c_touches_meet : PySem.W.codeIn K cd_touches_meet "touches_meet" = true)
    (k_touches_meet : PySem.W.keepIn K (.ref a_touches_meet) = true)
    (n_earliest_steps : PySem.W.nsIn K mainGlobals "earliest_steps" = some (some (.ref a_earliest_steps)))
    (l_earliest_steps : K.lookup a_earliest_steps = some ⟨oc_earliest_steps, od_earliest_steps, .func (PySem.W.fnOf "earliest_steps" "earliest_steps" (defArgs s_earliest_steps) (defBody s_earliest_steps) (defScope s_earliest_steps) .none kV_earliest_steps dc_earliest_steps pm_earliest_steps an_earliest_steps cd_earliest_steps ct_earliest_steps), sl_earliest_steps⟩)
    (c_earliest_steps : PySem.W.codeIn K cd_earliest_steps "earliest_steps" = true)
    (k_earliest_steps : PySem.W.keepIn K (.ref a_earliest_steps) = true)
    (n_Nest_init : PySem.W.findIn K (.ref c_Nest) "__init__" = some (some (.ref a_Nest_init)))
    (i_Nest_init : PySem.W.isFn K (.ref a_Nest_init) = true)
    (l_Nest_init : K.lookup a_Nest_init = some ⟨oc_Nest_init, od_Nest_init, .func (PySem.W.fnOf "__init__" "Nest.__init__" (defArgs s_Nest_init) (defBody s_Nest_init) (defScope s_Nest_init) .none kV_Nest_init dc_Nest_init pm_Nest_init an_Nest_init cd_Nest_init ct_Nest_init), sl_Nest_init⟩)
    (c_Nest_init : PySem.W.codeIn K cd_Nest_init "Nest.__init__" = true)
    (k_Nest_init : PySem.W.keepIn K (.ref a_Nest_init) = true)
    (n_Nest_has_loop : PySem.W.findIn K (.ref c_Nest) "has_loop" = some (some (.ref a_Nest_has_loop)))
    (i_Nest_has_loop : PySem.W.isFn K (.ref a_Nest_has_loop) = true)
    (l_Nest_has_loop : K.lookup a_Nest_has_loop = some ⟨oc_Nest_has_loop, od_Nest_has_loop, .func (PySem.W.fnOf "has_loop" "Nest.has_loop" (defArgs s_Nest_has_loop) (defBody s_Nest_has_loop) (defScope s_Nest_has_loop) .none kV_Nest_has_loop dc_Nest_has_loop pm_Nest_has_loop an_Nest_has_loop cd_Nest_has_loop ct_Nest_has_loop), sl_Nest_has_loop⟩)
    (c_Nest_has_loop : PySem.W.codeIn K cd_Nest_has_loop "Nest.has_loop" = true)
    (k_Nest_has_loop : PySem.W.keepIn K (.ref a_Nest_has_loop) = true)
    (n_Nest_statement_count : PySem.W.findIn K (.ref c_Nest) "statement_count" = some (some (.ref a_Nest_statement_count)))
    (i_Nest_statement_count : PySem.W.isFn K (.ref a_Nest_statement_count) = true)
    (l_Nest_statement_count : K.lookup a_Nest_statement_count = some ⟨oc_Nest_statement_count, od_Nest_statement_count, .func (PySem.W.fnOf "statement_count" "Nest.statement_count" (defArgs s_Nest_statement_count) (defBody s_Nest_statement_count) (defScope s_Nest_statement_count) .none kV_Nest_statement_count dc_Nest_statement_count pm_Nest_statement_count an_Nest_statement_count cd_Nest_statement_count ct_Nest_statement_count), sl_Nest_statement_count⟩)
    (c_Nest_statement_count : PySem.W.codeIn K cd_Nest_statement_count "Nest.statement_count" = true)
    (k_Nest_statement_count : PySem.W.keepIn K (.ref a_Nest_statement_count) = true)
    (n_Nest_has_statement : PySem.W.findIn K (.ref c_Nest) "has_statement" = some (some (.ref a_Nest_has_statement)))
    (i_Nest_has_statement : PySem.W.isFn K (.ref a_Nest_has_statement) = true)
    (l_Nest_has_statement : K.lookup a_Nest_has_statement = some ⟨oc_Nest_has_statement, od_Nest_has_statement, .func (PySem.W.fnOf "has_statement" "Nest.has_statement" (defArgs s_Nest_has_statement) (defBody s_Nest_has_statement) (defScope s_Nest_has_statement) .none kV_Nest_has_statement dc_Nest_has_statement pm_Nest_has_statement an_Nest_has_statement cd_Nest_has_statement ct_Nest_has_statement), sl_Nest_has_statement⟩)
    (c_Nest_has_statement : PySem.W.codeIn K cd_Nest_has_statement "Nest.has_statement" = true)
    (k_Nest_has_statement : PySem.W.keepIn K (.ref a_Nest_has_statement) = true)
    (n_Nest_add_statement : PySem.W.findIn K (.ref c_Nest) "add_statement" = some (some (.ref a_Nest_add_statement)))
    (i_Nest_add_statement : PySem.W.isFn K (.ref a_Nest_add_statement) = true)
    (l_Nest_add_statement : K.lookup a_Nest_add_statement = some ⟨oc_Nest_add_statement, od_Nest_add_statement, .func (PySem.W.fnOf "add_statement" "Nest.add_statement" (defArgs s_Nest_add_statement) (defBody s_Nest_add_statement) (defScope s_Nest_add_statement) .none kV_Nest_add_statement dc_Nest_add_statement pm_Nest_add_statement an_Nest_add_statement cd_Nest_add_statement ct_Nest_add_statement), sl_Nest_add_statement⟩)
    (c_Nest_add_statement : PySem.W.codeIn K cd_Nest_add_statement "Nest.add_statement" = true)
    (k_Nest_add_statement : PySem.W.keepIn K (.ref a_Nest_add_statement) = true)
    (n_Nest_access_count : PySem.W.findIn K (.ref c_Nest) "access_count" = some (some (.ref a_Nest_access_count)))
    (i_Nest_access_count : PySem.W.isFn K (.ref a_Nest_access_count) = true)
    (l_Nest_access_count : K.lookup a_Nest_access_count = some ⟨oc_Nest_access_count, od_Nest_access_count, .func (PySem.W.fnOf "access_count" "Nest.access_count" (defArgs s_Nest_access_count) (defBody s_Nest_access_count) (defScope s_Nest_access_count) .none kV_Nest_access_count dc_Nest_access_count pm_Nest_access_count an_Nest_access_count cd_Nest_access_count ct_Nest_access_count), sl_Nest_access_count⟩)
    (c_Nest_access_count : PySem.W.codeIn K cd_Nest_access_count "Nest.access_count" = true)
    (k_Nest_access_count : PySem.W.keepIn K (.ref a_Nest_access_count) = true)
    (n_Nest_add_access : PySem.W.findIn K (.ref c_Nest) "add_access" = some (some (.ref a_Nest_add_access)))
    (i_Nest_add_access : PySem.W.isFn K (.ref a_Nest_add_access) = true)
    (l_Nest_add_access : K.lookup a_Nest_add_access = some ⟨oc_Nest_add_access, od_Nest_add_access, .func (PySem.W.fnOf "add_access" "Nest.add_access" (defArgs s_Nest_add_access) (defBody s_Nest_add_access) (defScope s_Nest_add_access) .none kV_Nest_add_access dc_Nest_add_access pm_Nest_add_access an_Nest_add_access cd_Nest_add_access ct_Nest_add_access), sl_Nest_add_access⟩)
    (c_Nest_add_access : PySem.W.codeIn K cd_Nest_add_access "Nest.add_access" = true)
    (k_Nest_add_access : PySem.W.keepIn K (.ref a_Nest_add_access) = true)
    (n_Nest_is_instance : PySem.W.findIn K (.ref c_Nest) "is_instance" = some (some (.ref a_Nest_is_instance)))
    (i_Nest_is_instance : PySem.W.isFn K (.ref a_Nest_is_instance) = true)
    (l_Nest_is_instance : K.lookup a_Nest_is_instance = some ⟨oc_Nest_is_instance, od_Nest_is_instance, .func (PySem.W.fnOf "is_instance" "Nest.is_instance" (defArgs s_Nest_is_instance) (defBody s_Nest_is_instance) (defScope s_Nest_is_instance) .none kV_Nest_is_instance dc_Nest_is_instance pm_Nest_is_instance an_Nest_is_instance cd_Nest_is_instance ct_Nest_is_instance), sl_Nest_is_instance⟩)
    (c_Nest_is_instance : PySem.W.codeIn K cd_Nest_is_instance "Nest.is_instance" = true)
    (k_Nest_is_instance : PySem.W.keepIn K (.ref a_Nest_is_instance) = true)
    (n_Nest_round_place : PySem.W.findIn K (.ref c_Nest) "round_place" = some (some (.ref a_Nest_round_place)))
    (i_Nest_round_place : PySem.W.isFn K (.ref a_Nest_round_place) = true)
    (l_Nest_round_place : K.lookup a_Nest_round_place = some ⟨oc_Nest_round_place, od_Nest_round_place, .func (PySem.W.fnOf "round_place" "Nest.round_place" (defArgs s_Nest_round_place) (defBody s_Nest_round_place) (defScope s_Nest_round_place) .none kV_Nest_round_place dc_Nest_round_place pm_Nest_round_place an_Nest_round_place cd_Nest_round_place ct_Nest_round_place), sl_Nest_round_place⟩)
    (c_Nest_round_place : PySem.W.codeIn K cd_Nest_round_place "Nest.round_place" = true)
    (k_Nest_round_place : PySem.W.keepIn K (.ref a_Nest_round_place) = true)
    (n_Nest_touched_by : PySem.W.findIn K (.ref c_Nest) "touched_by" = some (some (.ref a_Nest_touched_by)))
    (i_Nest_touched_by : PySem.W.isFn K (.ref a_Nest_touched_by) = true)
    (l_Nest_touched_by : K.lookup a_Nest_touched_by = some ⟨oc_Nest_touched_by, od_Nest_touched_by, .func (PySem.W.fnOf "touched_by" "Nest.touched_by" (defArgs s_Nest_touched_by) (defBody s_Nest_touched_by) (defScope s_Nest_touched_by) .none kV_Nest_touched_by dc_Nest_touched_by pm_Nest_touched_by an_Nest_touched_by cd_Nest_touched_by ct_Nest_touched_by), sl_Nest_touched_by⟩)
    (c_Nest_touched_by : PySem.W.codeIn K cd_Nest_touched_by "Nest.touched_by" = true)
    (k_Nest_touched_by : PySem.W.keepIn K (.ref a_Nest_touched_by) = true)
    (n_Nest_meet : PySem.W.findIn K (.ref c_Nest) "meet" = some (some (.ref a_Nest_meet)))
    (i_Nest_meet : PySem.W.isFn K (.ref a_Nest_meet) = true)
    (l_Nest_meet : K.lookup a_Nest_meet = some ⟨oc_Nest_meet, od_Nest_meet, .func (PySem.W.fnOf "meet" "Nest.meet" (defArgs s_Nest_meet) (defBody s_Nest_meet) (defScope s_Nest_meet) .none kV_Nest_meet dc_Nest_meet pm_Nest_meet an_Nest_meet cd_Nest_meet ct_Nest_meet), sl_Nest_meet⟩)
    (c_Nest_meet : PySem.W.codeIn K cd_Nest_meet "Nest.meet" = true)
    (k_Nest_meet : PySem.W.keepIn K (.ref a_Nest_meet) = true)
    (n_Nest_all_instances : PySem.W.findIn K (.ref c_Nest) "all_instances" = some (some (.ref a_Nest_all_instances)))
    (i_Nest_all_instances : PySem.W.isFn K (.ref a_Nest_all_instances) = true)
    (l_Nest_all_instances : K.lookup a_Nest_all_instances = some ⟨oc_Nest_all_instances, od_Nest_all_instances, .func (PySem.W.fnOf "all_instances" "Nest.all_instances" (defArgs s_Nest_all_instances) (defBody s_Nest_all_instances) (defScope s_Nest_all_instances) .none kV_Nest_all_instances dc_Nest_all_instances pm_Nest_all_instances an_Nest_all_instances cd_Nest_all_instances ct_Nest_all_instances), sl_Nest_all_instances⟩)
    (c_Nest_all_instances : PySem.W.codeIn K cd_Nest_all_instances "Nest.all_instances" = true)
    (k_Nest_all_instances : PySem.W.keepIn K (.ref a_Nest_all_instances) = true)
    (n_Nest_meetings : PySem.W.findIn K (.ref c_Nest) "meetings" = some (some (.ref a_Nest_meetings)))
    (i_Nest_meetings : PySem.W.isFn K (.ref a_Nest_meetings) = true)
    (l_Nest_meetings : K.lookup a_Nest_meetings = some ⟨oc_Nest_meetings, od_Nest_meetings, .func (PySem.W.fnOf "meetings" "Nest.meetings" (defArgs s_Nest_meetings) (defBody s_Nest_meetings) (defScope s_Nest_meetings) .none kV_Nest_meetings dc_Nest_meetings pm_Nest_meetings an_Nest_meetings cd_Nest_meetings ct_Nest_meetings), sl_Nest_meetings⟩)
    (c_Nest_meetings : PySem.W.codeIn K cd_Nest_meetings "Nest.meetings" = true)
    (k_Nest_meetings : PySem.W.keepIn K (.ref a_Nest_meetings) = true)
    (n_Nest_level_of : PySem.W.findIn K (.ref c_Nest) "level_of" = some (some (.ref a_Nest_level_of)))
    (i_Nest_level_of : PySem.W.isFn K (.ref a_Nest_level_of) = true)
    (l_Nest_level_of : K.lookup a_Nest_level_of = some ⟨oc_Nest_level_of, od_Nest_level_of, .func (PySem.W.fnOf "level_of" "Nest.level_of" (defArgs s_Nest_level_of) (defBody s_Nest_level_of) (defScope s_Nest_level_of) .none kV_Nest_level_of dc_Nest_level_of pm_Nest_level_of an_Nest_level_of cd_Nest_level_of ct_Nest_level_of), sl_Nest_level_of⟩)
    (c_Nest_level_of : PySem.W.codeIn K cd_Nest_level_of "Nest.level_of" = true)
    (k_Nest_level_of : PySem.W.keepIn K (.ref a_Nest_level_of) = true)
    (n_all_rounds : PySem.W.nsIn K mainGlobals "all_rounds" = some (some (.ref a_all_rounds)))
    (l_all_rounds : K.lookup a_all_rounds = some ⟨oc_all_rounds, od_all_rounds, .func (PySem.W.fnOf "all_rounds" "all_rounds" (defArgs s_all_rounds) (defBody s_all_rounds) (defScope s_all_rounds) .none kV_all_rounds dc_all_rounds pm_all_rounds an_all_rounds cd_all_rounds ct_all_rounds), sl_all_rounds⟩)
    (c_all_rounds : PySem.W.codeIn K cd_all_rounds "all_rounds" = true)
    (k_all_rounds : PySem.W.keepIn K (.ref a_all_rounds) = true)
    (n_Call_init : PySem.W.findIn K (.ref c_Call) "__init__" = some (some (.ref a_Call_init)))
    (i_Call_init : PySem.W.isFn K (.ref a_Call_init) = true)
    (l_Call_init : K.lookup a_Call_init = some ⟨oc_Call_init, od_Call_init, .func (PySem.W.fnOf "__init__" "Call.__init__" (defArgs s_Call_init) (defBody s_Call_init) (defScope s_Call_init) .none kV_Call_init dc_Call_init pm_Call_init an_Call_init cd_Call_init ct_Call_init), sl_Call_init⟩)
    (c_Call_init : PySem.W.codeIn K cd_Call_init "Call.__init__" = true)
    (k_Call_init : PySem.W.keepIn K (.ref a_Call_init) = true)
    (n_read_calls : PySem.W.nsIn K mainGlobals "read_calls" = some (some (.ref a_read_calls)))
    (l_read_calls : K.lookup a_read_calls = some ⟨oc_read_calls, od_read_calls, .func (PySem.W.fnOf "read_calls" "read_calls" (defArgs s_read_calls) (defBody s_read_calls) (defScope s_read_calls) .none kV_read_calls dc_read_calls pm_read_calls an_read_calls cd_read_calls ct_read_calls), sl_read_calls⟩)
    (c_read_calls : PySem.W.codeIn K cd_read_calls "read_calls" = true)
    (k_read_calls : PySem.W.keepIn K (.ref a_read_calls) = true)
    (n_read_lists : PySem.W.nsIn K mainGlobals "read_lists" = some (some (.ref a_read_lists)))
    (l_read_lists : K.lookup a_read_lists = some ⟨oc_read_lists, od_read_lists, .func (PySem.W.fnOf "read_lists" "read_lists" (defArgs s_read_lists) (defBody s_read_lists) (defScope s_read_lists) .none kV_read_lists dc_read_lists pm_read_lists an_read_lists cd_read_lists ct_read_lists), sl_read_lists⟩)
    (c_read_lists : PySem.W.codeIn K cd_read_lists "read_lists" = true)
    (k_read_lists : PySem.W.keepIn K (.ref a_read_lists) = true)
    (n_answers : PySem.W.nsIn K mainGlobals "answers" = some (some (.ref a_answers)))
    (l_answers : K.lookup a_answers = some ⟨oc_answers, od_answers, .func (PySem.W.fnOf "answers" "answers" (defArgs s_answers) (defBody s_answers) (defScope s_answers) .none kV_answers dc_answers pm_answers an_answers cd_answers ct_answers), sl_answers⟩)
    (c_answers : PySem.W.codeIn K cd_answers "answers" = true)
    (k_answers : PySem.W.keepIn K (.ref a_answers) = true)
    (n_Desk_init : PySem.W.findIn K (.ref c_Desk) "__init__" = some (some (.ref a_Desk_init)))
    (i_Desk_init : PySem.W.isFn K (.ref a_Desk_init) = true)
    (l_Desk_init : K.lookup a_Desk_init = some ⟨oc_Desk_init, od_Desk_init, .func (PySem.W.fnOf "__init__" "Desk.__init__" (defArgs s_Desk_init) (defBody s_Desk_init) (defScope s_Desk_init) .none kV_Desk_init dc_Desk_init pm_Desk_init an_Desk_init cd_Desk_init ct_Desk_init), sl_Desk_init⟩)
    (c_Desk_init : PySem.W.codeIn K cd_Desk_init "Desk.__init__" = true)
    (k_Desk_init : PySem.W.keepIn K (.ref a_Desk_init) = true)
    (n_Desk_answer : PySem.W.findIn K (.ref c_Desk) "answer" = some (some (.ref a_Desk_answer)))
    (i_Desk_answer : PySem.W.isFn K (.ref a_Desk_answer) = true)
    (l_Desk_answer : K.lookup a_Desk_answer = some ⟨oc_Desk_answer, od_Desk_answer, .func (PySem.W.fnOf "answer" "Desk.answer" (defArgs s_Desk_answer) (defBody s_Desk_answer) (defScope s_Desk_answer) .none kV_Desk_answer dc_Desk_answer pm_Desk_answer an_Desk_answer cd_Desk_answer ct_Desk_answer), sl_Desk_answer⟩)
    (c_Desk_answer : PySem.W.codeIn K cd_Desk_answer "Desk.answer" = true)
    (k_Desk_answer : PySem.W.keepIn K (.ref a_Desk_answer) = true)
    (n_Desk_answer_init : PySem.W.findIn K (.ref c_Desk) "answer_init" = some (some (.ref a_Desk_answer_init)))
    (i_Desk_answer_init : PySem.W.isFn K (.ref a_Desk_answer_init) = true)
    (l_Desk_answer_init : K.lookup a_Desk_answer_init = some ⟨oc_Desk_answer_init, od_Desk_answer_init, .func (PySem.W.fnOf "answer_init" "Desk.answer_init" (defArgs s_Desk_answer_init) (defBody s_Desk_answer_init) (defScope s_Desk_answer_init) .none kV_Desk_answer_init dc_Desk_answer_init pm_Desk_answer_init an_Desk_answer_init cd_Desk_answer_init ct_Desk_answer_init), sl_Desk_answer_init⟩)
    (c_Desk_answer_init : PySem.W.codeIn K cd_Desk_answer_init "Desk.answer_init" = true)
    (k_Desk_answer_init : PySem.W.keepIn K (.ref a_Desk_answer_init) = true)
    (n_tell : PySem.W.nsIn K mainGlobals "tell" = some (some (.ref a_tell)))
    (l_tell : K.lookup a_tell = some ⟨oc_tell, od_tell, .func (PySem.W.fnOf "tell" "tell" (defArgs s_tell) (defBody s_tell) (defScope s_tell) .none kV_tell dc_tell pm_tell an_tell cd_tell ct_tell), sl_tell⟩)
    (c_tell : PySem.W.codeIn K cd_tell "tell" = true)
    (k_tell : PySem.W.keepIn K (.ref a_tell) = true)
    (n_tell_pair : PySem.W.nsIn K mainGlobals "tell_pair" = some (some (.ref a_tell_pair)))
    (l_tell_pair : K.lookup a_tell_pair = some ⟨oc_tell_pair, od_tell_pair, .func (PySem.W.fnOf "tell_pair" "tell_pair" (defArgs s_tell_pair) (defBody s_tell_pair) (defScope s_tell_pair) .none kV_tell_pair dc_tell_pair pm_tell_pair an_tell_pair cd_tell_pair ct_tell_pair), sl_tell_pair⟩)
    (c_tell_pair : PySem.W.codeIn K cd_tell_pair "tell_pair" = true)
    (k_tell_pair : PySem.W.keepIn K (.ref a_tell_pair) = true)
    (n_loops_go : PySem.W.nsIn K mainGlobals "loops_go" = some (some (.ref a_loops_go)))
    (l_loops_go : K.lookup a_loops_go = some ⟨oc_loops_go, od_loops_go, .func (PySem.W.fnOf "loops_go" "loops_go" (defArgs s_loops_go) (defBody s_loops_go) (defScope s_loops_go) .none kV_loops_go dc_loops_go pm_loops_go an_loops_go cd_loops_go ct_loops_go), sl_loops_go⟩)
    (c_loops_go : PySem.W.codeIn K cd_loops_go "loops_go" = true)
    (k_loops_go : PySem.W.keepIn K (.ref a_loops_go) = true)
    (n_answer_stmt : PySem.W.nsIn K mainGlobals "answer_stmt" = some (some (.ref a_answer_stmt)))
    (l_answer_stmt : K.lookup a_answer_stmt = some ⟨oc_answer_stmt, od_answer_stmt, .func (PySem.W.fnOf "answer_stmt" "answer_stmt" (defArgs s_answer_stmt) (defBody s_answer_stmt) (defScope s_answer_stmt) .none kV_answer_stmt dc_answer_stmt pm_answer_stmt an_answer_stmt cd_answer_stmt ct_answer_stmt), sl_answer_stmt⟩)
    (c_answer_stmt : PySem.W.codeIn K cd_answer_stmt "answer_stmt" = true)
    (k_answer_stmt : PySem.W.keepIn K (.ref a_answer_stmt) = true)
    (n_answer_access : PySem.W.nsIn K mainGlobals "answer_access" = some (some (.ref a_answer_access)))
    (l_answer_access : K.lookup a_answer_access = some ⟨oc_answer_access, od_answer_access, .func (PySem.W.fnOf "answer_access" "answer_access" (defArgs s_answer_access) (defBody s_answer_access) (defScope s_answer_access) .none kV_answer_access dc_answer_access pm_answer_access an_answer_access cd_answer_access ct_answer_access), sl_answer_access⟩)
    (c_answer_access : PySem.W.codeIn K cd_answer_access "answer_access" = true)
    (k_answer_access : PySem.W.keepIn K (.ref a_answer_access) = true)
    (n_answer_meet : PySem.W.nsIn K mainGlobals "answer_meet" = some (some (.ref a_answer_meet)))
    (l_answer_meet : K.lookup a_answer_meet = some ⟨oc_answer_meet, od_answer_meet, .func (PySem.W.fnOf "answer_meet" "answer_meet" (defArgs s_answer_meet) (defBody s_answer_meet) (defScope s_answer_meet) .none kV_answer_meet dc_answer_meet pm_answer_meet an_answer_meet cd_answer_meet ct_answer_meet), sl_answer_meet⟩)
    (c_answer_meet : PySem.W.codeIn K cd_answer_meet "answer_meet" = true)
    (k_answer_meet : PySem.W.keepIn K (.ref a_answer_meet) = true)
    (n_answer_dep : PySem.W.nsIn K mainGlobals "answer_dep" = some (some (.ref a_answer_dep)))
    (l_answer_dep : K.lookup a_answer_dep = some ⟨oc_answer_dep, od_answer_dep, .func (PySem.W.fnOf "answer_dep" "answer_dep" (defArgs s_answer_dep) (defBody s_answer_dep) (defScope s_answer_dep) .none kV_answer_dep dc_answer_dep pm_answer_dep an_answer_dep cd_answer_dep ct_answer_dep), sl_answer_dep⟩)
    (c_answer_dep : PySem.W.codeIn K cd_answer_dep "answer_dep" = true)
    (k_answer_dep : PySem.W.keepIn K (.ref a_answer_dep) = true)
    (n_answer_carried : PySem.W.nsIn K mainGlobals "answer_carried" = some (some (.ref a_answer_carried)))
    (l_answer_carried : K.lookup a_answer_carried = some ⟨oc_answer_carried, od_answer_carried, .func (PySem.W.fnOf "answer_carried" "answer_carried" (defArgs s_answer_carried) (defBody s_answer_carried) (defScope s_answer_carried) .none kV_answer_carried dc_answer_carried pm_answer_carried an_answer_carried cd_answer_carried ct_answer_carried), sl_answer_carried⟩)
    (c_answer_carried : PySem.W.codeIn K cd_answer_carried "answer_carried" = true)
    (k_answer_carried : PySem.W.keepIn K (.ref a_answer_carried) = true)
    (n_answer_try : PySem.W.nsIn K mainGlobals "answer_try" = some (some (.ref a_answer_try)))
    (l_answer_try : K.lookup a_answer_try = some ⟨oc_answer_try, od_answer_try, .func (PySem.W.fnOf "answer_try" "answer_try" (defArgs s_answer_try) (defBody s_answer_try) (defScope s_answer_try) .none kV_answer_try dc_answer_try pm_answer_try an_answer_try cd_answer_try ct_answer_try), sl_answer_try⟩)
    (c_answer_try : PySem.W.codeIn K cd_answer_try "answer_try" = true)
    (k_answer_try : PySem.W.keepIn K (.ref a_answer_try) = true)
    (n_answer_steps : PySem.W.nsIn K mainGlobals "answer_steps" = some (some (.ref a_answer_steps)))
    (l_answer_steps : K.lookup a_answer_steps = some ⟨oc_answer_steps, od_answer_steps, .func (PySem.W.fnOf "answer_steps" "answer_steps" (defArgs s_answer_steps) (defBody s_answer_steps) (defScope s_answer_steps) .none kV_answer_steps dc_answer_steps pm_answer_steps an_answer_steps cd_answer_steps ct_answer_steps), sl_answer_steps⟩)
    (c_answer_steps : PySem.W.codeIn K cd_answer_steps "answer_steps" = true)
    (k_answer_steps : PySem.W.keepIn K (.ref a_answer_steps) = true)
    (n_answer_level : PySem.W.nsIn K mainGlobals "answer_level" = some (some (.ref a_answer_level)))
    (l_answer_level : K.lookup a_answer_level = some ⟨oc_answer_level, od_answer_level, .func (PySem.W.fnOf "answer_level" "answer_level" (defArgs s_answer_level) (defBody s_answer_level) (defScope s_answer_level) .none kV_answer_level dc_answer_level pm_answer_level an_answer_level cd_answer_level ct_answer_level), sl_answer_level⟩)
    (c_answer_level : PySem.W.codeIn K cd_answer_level "answer_level" = true)
    (k_answer_level : PySem.W.keepIn K (.ref a_answer_level) = true)
    (n_answer_at : PySem.W.nsIn K mainGlobals "answer_at" = some (some (.ref a_answer_at)))
    (l_answer_at : K.lookup a_answer_at = some ⟨oc_answer_at, od_answer_at, .func (PySem.W.fnOf "answer_at" "answer_at" (defArgs s_answer_at) (defBody s_answer_at) (defScope s_answer_at) .none kV_answer_at dc_answer_at pm_answer_at an_answer_at cd_answer_at ct_answer_at), sl_answer_at⟩)
    (c_answer_at : PySem.W.codeIn K cd_answer_at "answer_at" = true)
    (k_answer_at : PySem.W.keepIn K (.ref a_answer_at) = true)
    (pg_Meetings : PySem.W.plainGet K c_Meetings Str.empty = true)
    (hd_Meetings : PySem.W.hasDictIn K c_Meetings = true)
    (po_Meetings : PySem.W.plainOver K c_Meetings = true)
    (sa_Meetings : PySem.W.findIn K (.ref c_Meetings) "__setattr__" = some (some (.builtin "object.__setattr__")))
    (mk_Meetings : PySem.W.makesIn K c_Meetings = true)
    (kc_Meetings : PySem.W.keepIn K (.ref c_Meetings) = true)
    (na_Meetings_instances : PySem.W.findIn K (.ref c_Meetings) "instances" = some none)
    (na_Meetings_levels : PySem.W.findIn K (.ref c_Meetings) "levels" = some none)
    (na_Meetings_pairs : PySem.W.findIn K (.ref c_Meetings) "pairs" = some none)
    (pg_Nest : PySem.W.plainGet K c_Nest Str.empty = true)
    (hd_Nest : PySem.W.hasDictIn K c_Nest = true)
    (po_Nest : PySem.W.plainOver K c_Nest = true)
    (sa_Nest : PySem.W.findIn K (.ref c_Nest) "__setattr__" = some (some (.builtin "object.__setattr__")))
    (mk_Nest : PySem.W.makesIn K c_Nest = true)
    (kc_Nest : PySem.W.keepIn K (.ref c_Nest) = true)
    (na_Nest_depth : PySem.W.findIn K (.ref c_Nest) "depth" = some none)
    (na_Nest_found : PySem.W.findIn K (.ref c_Nest) "found" = some none)
    (na_Nest_lengths : PySem.W.findIn K (.ref c_Nest) "lengths" = some none)
    (na_Nest_rounds : PySem.W.findIn K (.ref c_Nest) "rounds" = some none)
    (na_Nest_touches : PySem.W.findIn K (.ref c_Nest) "touches" = some none)
    (pg_Call : PySem.W.plainGet K c_Call Str.empty = true)
    (hd_Call : PySem.W.hasDictIn K c_Call = true)
    (po_Call : PySem.W.plainOver K c_Call = true)
    (sa_Call : PySem.W.findIn K (.ref c_Call) "__setattr__" = some (some (.builtin "object.__setattr__")))
    (mk_Call : PySem.W.makesIn K c_Call = true)
    (kc_Call : PySem.W.keepIn K (.ref c_Call) = true)
    (na_Call_kind : PySem.W.findIn K (.ref c_Call) "kind" = some none)
    (na_Call_lists : PySem.W.findIn K (.ref c_Call) "lists" = some none)
    (na_Call_numbers : PySem.W.findIn K (.ref c_Call) "numbers" = some none)
    (pg_Desk : PySem.W.plainGet K c_Desk Str.empty = true)
    (hd_Desk : PySem.W.hasDictIn K c_Desk = true)
    (po_Desk : PySem.W.plainOver K c_Desk = true)
    (sa_Desk : PySem.W.findIn K (.ref c_Desk) "__setattr__" = some (some (.builtin "object.__setattr__")))
    (mk_Desk : PySem.W.makesIn K c_Desk = true)
    (kc_Desk : PySem.W.keepIn K (.ref c_Desk) = true)
    (na_Desk_nest : PySem.W.findIn K (.ref c_Desk) "nest" = some none)
    (g_ROW_LENGTH : PySem.W.nsIn K mainGlobals "ROW_LENGTH" = some (some (.int 4 tk_ROW_LENGTH)))
    (g_MOST_LOOPS : PySem.W.nsIn K mainGlobals "MOST_LOOPS" = some (some (.int 3 tk_MOST_LOOPS)))
    (g_INIT : PySem.W.nsIn K mainGlobals "INIT" = some (some (.int 0 tk_INIT)))
    (g_STMT : PySem.W.nsIn K mainGlobals "STMT" = some (some (.int 1 tk_STMT)))
    (g_ACCESS : PySem.W.nsIn K mainGlobals "ACCESS" = some (some (.int 2 tk_ACCESS)))
    (g_MEET : PySem.W.nsIn K mainGlobals "MEET" = some (some (.int 3 tk_MEET)))
    (g_DEP : PySem.W.nsIn K mainGlobals "DEP" = some (some (.int 4 tk_DEP)))
    (g_CARRIED : PySem.W.nsIn K mainGlobals "CARRIED" = some (some (.int 5 tk_CARRIED)))
    (g_TRY : PySem.W.nsIn K mainGlobals "TRY" = some (some (.int 6 tk_TRY)))
    (g_STEPS : PySem.W.nsIn K mainGlobals "STEPS" = some (some (.int 7 tk_STEPS)))
    (g_LEVEL : PySem.W.nsIn K mainGlobals "LEVEL" = some (some (.int 8 tk_LEVEL)))
    (g_SHAPES : PySem.W.nsIn K mainGlobals "SHAPES" = some (some (.ref a_SHAPES)))
    (t_SHAPES : K.lookup a_SHAPES = some ⟨.type "tuple", to_SHAPES, .seq #[.ref a_SHAPES_0, .ref a_SHAPES_1, .ref a_SHAPES_2, .ref a_SHAPES_3, .ref a_SHAPES_4, .ref a_SHAPES_5, .ref a_SHAPES_6, .ref a_SHAPES_7, .ref a_SHAPES_8, .ref a_SHAPES_9] tn_SHAPES, tl_SHAPES⟩)
    (t_SHAPES_0 : K.lookup a_SHAPES_0 = some ⟨.type "tuple", to_SHAPES_0, .seq #[.int 1 tt_SHAPES_0_0, .int 1 tt_SHAPES_0_1] tn_SHAPES_0, tl_SHAPES_0⟩)
    (t_SHAPES_1 : K.lookup a_SHAPES_1 = some ⟨.type "tuple", to_SHAPES_1, .seq #[.int 0 tt_SHAPES_1_0, .int 0 tt_SHAPES_1_1] tn_SHAPES_1, tl_SHAPES_1⟩)
    (t_SHAPES_2 : K.lookup a_SHAPES_2 = some ⟨.type "tuple", to_SHAPES_2, .seq #[.int 3 tt_SHAPES_2_0, .int 1 tt_SHAPES_2_1] tn_SHAPES_2, tl_SHAPES_2⟩)
    (t_SHAPES_3 : K.lookup a_SHAPES_3 = some ⟨.type "tuple", to_SHAPES_3, .seq #[.int 0 tt_SHAPES_3_0, .int 2 tt_SHAPES_3_1] tn_SHAPES_3, tl_SHAPES_3⟩)
    (t_SHAPES_4 : K.lookup a_SHAPES_4 = some ⟨.type "tuple", to_SHAPES_4, .seq #[.int 2 tt_SHAPES_4_0, .int 0 tt_SHAPES_4_1] tn_SHAPES_4, tl_SHAPES_4⟩)
    (t_SHAPES_5 : K.lookup a_SHAPES_5 = some ⟨.type "tuple", to_SHAPES_5, .seq #[.int 1 tt_SHAPES_5_0, .int 0 tt_SHAPES_5_1] tn_SHAPES_5, tl_SHAPES_5⟩)
    (t_SHAPES_6 : K.lookup a_SHAPES_6 = some ⟨.type "tuple", to_SHAPES_6, .seq #[.int 1 tt_SHAPES_6_0, .int 1 tt_SHAPES_6_1] tn_SHAPES_6, tl_SHAPES_6⟩)
    (t_SHAPES_7 : K.lookup a_SHAPES_7 = some ⟨.type "tuple", to_SHAPES_7, .seq #[.int 0 tt_SHAPES_7_0, .int 0 tt_SHAPES_7_1] tn_SHAPES_7, tl_SHAPES_7⟩)
    (t_SHAPES_8 : K.lookup a_SHAPES_8 = some ⟨.type "tuple", to_SHAPES_8, .seq #[.int 0 tt_SHAPES_8_0, .int 1 tt_SHAPES_8_1] tn_SHAPES_8, tl_SHAPES_8⟩)
    (t_SHAPES_9 : K.lookup a_SHAPES_9 = some ⟨.type "tuple", to_SHAPES_9, .seq #[.int 1 tt_SHAPES_9_0, .int 0 tt_SHAPES_9_1] tn_SHAPES_9, tl_SHAPES_9⟩)
    (g_MOST_ROUNDS : PySem.W.nsIn K mainGlobals "MOST_ROUNDS" = some (some (.int 64 tk_MOST_ROUNDS)))
    (g_MOST_STATEMENTS : PySem.W.nsIn K mainGlobals "MOST_STATEMENTS" = some (some (.int 3 tk_MOST_STATEMENTS)))
    (g_MOST_ACCESSES : PySem.W.nsIn K mainGlobals "MOST_ACCESSES" = some (some (.int 3 tk_MOST_ACCESSES)))
    (g_LAST_ARRAY : PySem.W.nsIn K mainGlobals "LAST_ARRAY" = some (some (.int 7 tk_LAST_ARRAY)))
    (g_LONGEST_TIME : PySem.W.nsIn K mainGlobals "LONGEST_TIME" = some (some (.int 4 tk_LONGEST_TIME)))
    (n_len : PySem.W.nsIn K mainGlobals "len" = some none)
    (n_max : PySem.W.nsIn K mainGlobals "max" = some none)
    (n_range : PySem.W.nsIn K mainGlobals "range" = some none)
    (n_sum : PySem.W.nsIn K mainGlobals "sum" = some none) :
    ∃ fd : FuncData, (∀ (s : Shared) (us : List Value), us.length = (["calls"] : List Str).length → BindsTo s fd ⟨us, []⟩ ((["calls"] : List Str).zip us)) ∧ ∀ base : Heap, K.In base → base.Ns mainGlobals mg → FnOk P w K mg base CX0 9 fa fd ["calls"] (sp_top K) := by
  obtain ⟨A, T, hA⟩ := txt_mk X G aC_Meetings aC_Nest aC_Call aC_Desk n_row_at l_row_at c_row_at k_row_at n_time_of l_time_of c_time_of k_time_of n_Meetings_init i_Meetings_init l_Meetings_init c_Meetings_init k_Meetings_init n_Meetings_first_dependence i_Meetings_first_dependence l_Meetings_first_dependence c_Meetings_first_dependence k_Meetings_first_dependence n_Meetings_first_carried i_Meetings_first_carried l_Meetings_first_carried c_Meetings_first_carried k_Meetings_first_carried n_Meetings_first_barred i_Meetings_first_barred l_Meetings_first_barred c_Meetings_first_barred k_Meetings_first_barred n_meeting_pairs l_meeting_pairs c_meeting_pairs k_meeting_pairs n_touches_meet l_touches_meet c_touches_meet k_touches_meet n_earliest_steps l_earliest_steps c_earliest_steps k_earliest_steps n_Nest_init i_Nest_init l_Nest_init c_Nest_init k_Nest_init n_Nest_has_loop i_Nest_has_loop l_Nest_has_loop c_Nest_has_loop k_Nest_has_loop n_Nest_statement_count i_Nest_statement_count l_Nest_statement_count c_Nest_statement_count k_Nest_statement_count n_Nest_has_statement i_Nest_has_statement l_Nest_has_statement c_Nest_has_statement k_Nest_has_statement n_Nest_add_statement i_Nest_add_statement l_Nest_add_statement c_Nest_add_statement k_Nest_add_statement n_Nest_access_count i_Nest_access_count l_Nest_access_count c_Nest_access_count k_Nest_access_count n_Nest_add_access i_Nest_add_access l_Nest_add_access c_Nest_add_access k_Nest_add_access n_Nest_is_instance i_Nest_is_instance l_Nest_is_instance c_Nest_is_instance k_Nest_is_instance n_Nest_round_place i_Nest_round_place l_Nest_round_place c_Nest_round_place k_Nest_round_place n_Nest_touched_by i_Nest_touched_by l_Nest_touched_by c_Nest_touched_by k_Nest_touched_by n_Nest_meet i_Nest_meet l_Nest_meet c_Nest_meet k_Nest_meet n_Nest_all_instances i_Nest_all_instances l_Nest_all_instances c_Nest_all_instances k_Nest_all_instances n_Nest_meetings i_Nest_meetings l_Nest_meetings c_Nest_meetings k_Nest_meetings n_Nest_level_of i_Nest_level_of l_Nest_level_of c_Nest_level_of k_Nest_level_of n_all_rounds l_all_rounds c_all_rounds k_all_rounds n_Call_init i_Call_init l_Call_init c_Call_init k_Call_init n_read_calls l_read_calls c_read_calls k_read_calls n_read_lists l_read_lists c_read_lists k_read_lists n_answers l_answers c_answers k_answers n_Desk_init i_Desk_init l_Desk_init c_Desk_init k_Desk_init n_Desk_answer i_Desk_answer l_Desk_answer c_Desk_answer k_Desk_answer n_Desk_answer_init i_Desk_answer_init l_Desk_answer_init c_Desk_answer_init k_Desk_answer_init n_tell l_tell c_tell k_tell n_tell_pair l_tell_pair c_tell_pair k_tell_pair n_loops_go l_loops_go c_loops_go k_loops_go n_answer_stmt l_answer_stmt c_answer_stmt k_answer_stmt n_answer_access l_answer_access c_answer_access k_answer_access n_answer_meet l_answer_meet c_answer_meet k_answer_meet n_answer_dep l_answer_dep c_answer_dep k_answer_dep n_answer_carried l_answer_carried c_answer_carried k_answer_carried n_answer_try l_answer_try c_answer_try k_answer_try n_answer_steps l_answer_steps c_answer_steps k_answer_steps n_answer_level l_answer_level c_answer_level k_answer_level n_answer_at l_answer_at c_answer_at k_answer_at pg_Meetings hd_Meetings po_Meetings sa_Meetings mk_Meetings kc_Meetings na_Meetings_instances na_Meetings_levels na_Meetings_pairs pg_Nest hd_Nest po_Nest sa_Nest mk_Nest kc_Nest na_Nest_depth na_Nest_found na_Nest_lengths na_Nest_rounds na_Nest_touches pg_Call hd_Call po_Call sa_Call mk_Call kc_Call na_Call_kind na_Call_lists na_Call_numbers pg_Desk hd_Desk po_Desk sa_Desk mk_Desk kc_Desk na_Desk_nest g_ROW_LENGTH g_MOST_LOOPS g_INIT g_STMT g_ACCESS g_MEET g_DEP g_CARRIED g_TRY g_STEPS g_LEVEL g_SHAPES t_SHAPES t_SHAPES_0 t_SHAPES_1 t_SHAPES_2 t_SHAPES_3 t_SHAPES_4 t_SHAPES_5 t_SHAPES_6 t_SHAPES_7 t_SHAPES_8 t_SHAPES_9 g_MOST_ROUNDS g_MOST_STATEMENTS g_MOST_ACCESSES g_LAST_ARRAY g_LONGEST_TIME n_len n_max n_range n_sum
  have e := hfa.symm.trans hA
  cases e
  refine ⟨A.d_answers, fun s us hu => ?_, fun base _ _ => ?_⟩
  · obtain ⟨oc, od, kV, doc, pm, an, cdv, ct, osl, e1, _⟩ := T.f_answers.ex
    rw [e1]
    match us, hu with
    | [_], _ => exact .of_eq rfl
  · have G_row_at : FnOk P w K mg base CX0 1 A.a_row_at A.d_row_at ["row", "counters"] (sp_row_at K A) := ok_row_at T
    have G_Meetings_first_dependence : FnOk P w K mg base CX0 1 A.a_Meetings_first_dependence A.d_Meetings_first_dependence ["self", "s", "t"] (sp_Meetings_first_dependence K A) := ok_Meetings_first_dependence T
    have G_Meetings_first_carried : FnOk P w K mg base CX0 1 A.a_Meetings_first_carried A.d_Meetings_first_carried ["self", "loop"] (sp_Meetings_first_carried K A) := ok_Meetings_first_carried T
    have G_touches_meet : FnOk P w K mg base CX0 1 A.a_touches_meet A.d_touches_meet ["some", "others"] (sp_touches_meet K A) := ok_touches_meet T
    have G_earliest_steps : FnOk P w K mg base CX0 1 A.a_earliest_steps A.d_earliest_steps ["count", "pairs"] (sp_earliest_steps K A) := ok_earliest_steps T
    have G_Nest_has_loop : FnOk P w K mg base CX0 1 A.a_Nest_has_loop A.d_Nest_has_loop ["self", "loop"] (sp_Nest_has_loop K A) := ok_Nest_has_loop T
    have G_Nest_statement_count : FnOk P w K mg base CX0 1 A.a_Nest_statement_count A.d_Nest_statement_count ["self"] (sp_Nest_statement_count K A) := ok_Nest_statement_count T
    have G_Nest_has_statement : FnOk P w K mg base CX0 1 A.a_Nest_has_statement A.d_Nest_has_statement ["self", "s"] (sp_Nest_has_statement K A) := ok_Nest_has_statement T
    have G_Nest_add_statement : FnOk P w K mg base CX0 1 A.a_Nest_add_statement A.d_Nest_add_statement ["self"] (sp_Nest_add_statement K A) := ok_Nest_add_statement T
    have G_Nest_access_count : FnOk P w K mg base CX0 1 A.a_Nest_access_count A.d_Nest_access_count ["self", "s"] (sp_Nest_access_count K A) := ok_Nest_access_count T
    have G_Nest_round_place : FnOk P w K mg base CX0 1 A.a_Nest_round_place A.d_Nest_round_place ["self", "instance"] (sp_Nest_round_place K A) := ok_Nest_round_place T
    have G_Nest_all_instances : FnOk P w K mg base CX0 1 A.a_Nest_all_instances A.d_Nest_all_instances ["self"] (sp_Nest_all_instances K A) := ok_Nest_all_instances T
    have G_all_rounds : FnOk P w K mg base CX0 1 A.a_all_rounds A.d_all_rounds ["lengths"] (sp_all_rounds K A) := ok_all_rounds T
    have G_Call_init : FnOk P w K mg base CX0 1 A.a_Call_init A.d_Call_init ["self", "kind", "numbers", "lists"] (sp_Call_init K A) := ok_Call_init T
    have G_read_lists : FnOk P w K mg base CX0 1 A.a_read_lists A.d_read_lists ["line", "place", "how_many"] (sp_read_lists K A) := ok_read_lists T
    have G_Desk_init : FnOk P w K mg base CX0 1 A.a_Desk_init A.d_Desk_init ["self"] (sp_Desk_init K A) := ok_Desk_init T
    have G_tell : FnOk P w K mg base CX0 1 A.a_tell A.d_tell ["number", "behind"] (sp_tell K A) := ok_tell T
    have G_loops_go : FnOk P w K mg base CX0 1 A.a_loops_go A.d_loops_go ["d", "n"] (sp_loops_go K A) := ok_loops_go T
    have G_time_of : FnOk P w K mg base CX0 2 A.a_time_of A.d_time_of ["instance", "k", "rows"] (sp_time_of K A) := ok_time_of T G_row_at
    have G_meeting_pairs : FnOk P w K mg base CX0 2 A.a_meeting_pairs A.d_meeting_pairs ["touched"] (sp_meeting_pairs K A) := ok_meeting_pairs T G_touches_meet
    have G_Nest_init : FnOk P w K mg base CX0 2 A.a_Nest_init A.d_Nest_init ["self", "lengths"] (sp_Nest_init K A) := ok_Nest_init T G_all_rounds
    have G_Nest_add_access : FnOk P w K mg base CX0 2 A.a_Nest_add_access A.d_Nest_add_access ["self", "s", "array", "written", "rows"] (sp_Nest_add_access K A) := ok_Nest_add_access T G_row_at
    have G_Nest_is_instance : FnOk P w K mg base CX0 2 A.a_Nest_is_instance A.d_Nest_is_instance ["self", "told"] (sp_Nest_is_instance K A) := ok_Nest_is_instance T G_Nest_has_statement
    have G_Nest_touched_by : FnOk P w K mg base CX0 2 A.a_Nest_touched_by A.d_Nest_touched_by ["self", "instance"] (sp_Nest_touched_by K A) := ok_Nest_touched_by T G_Nest_round_place
    have G_tell_pair : FnOk P w K mg base CX0 2 A.a_tell_pair A.d_tell_pair ["pair"] (sp_tell_pair K A) := ok_tell_pair T G_tell
    have G_answer_stmt : FnOk P w K mg base CX0 2 A.a_answer_stmt A.d_answer_stmt ["nest"] (sp_answer_stmt K A) := ok_answer_stmt T G_Nest_add_statement G_Nest_statement_count G_tell
    have G_Meetings_init : FnOk P w K mg base CX0 3 A.a_Meetings_init A.d_Meetings_init ["self", "instances", "touched"] (sp_Meetings_init K A) := ok_Meetings_init T G_earliest_steps G_meeting_pairs
    have G_Meetings_first_barred : FnOk P w K mg base CX0 3 A.a_Meetings_first_barred A.d_Meetings_first_barred ["self", "k", "rows"] (sp_Meetings_first_barred K A) := ok_Meetings_first_barred T G_time_of
    have G_Nest_meet : FnOk P w K mg base CX0 3 A.a_Nest_meet A.d_Nest_meet ["self", "u", "v"] (sp_Nest_meet K A) := ok_Nest_meet T G_Nest_touched_by G_touches_meet
    have G_read_calls : FnOk P w K mg base CX0 3 A.a_read_calls A.d_read_calls ["line"] (sp_read_calls K A) := ok_read_calls T G_Call_init G_read_lists
    have G_answer_access : FnOk P w K mg base CX0 3 A.a_answer_access A.d_answer_access ["nest", "numbers", "rows"] (sp_answer_access K A) := ok_answer_access T G_Nest_access_count G_Nest_add_access G_Nest_has_statement G_tell
    have G_Desk_answer_init : FnOk P w K mg base CX0 4 A.a_Desk_answer_init A.d_Desk_answer_init ["self", "d", "n"] (sp_Desk_answer_init K A) := ok_Desk_answer_init T G_Nest_init G_loops_go G_tell
    have G_answer_meet : FnOk P w K mg base CX0 4 A.a_answer_meet A.d_answer_meet ["nest", "u", "v"] (sp_answer_meet K A) := ok_answer_meet T G_Nest_is_instance G_Nest_meet G_tell
    have G_Nest_meetings : FnOk P w K mg base CX0 5 A.a_Nest_meetings A.d_Nest_meetings ["self"] (sp_Nest_meetings K A) := ok_Nest_meetings T G_Meetings_init G_Nest_all_instances G_Nest_touched_by
    have G_Nest_level_of : FnOk P w K mg base CX0 6 A.a_Nest_level_of A.d_Nest_level_of ["self", "instance"] (sp_Nest_level_of K A) := ok_Nest_level_of T G_Nest_meetings G_Nest_round_place
    have G_answer_dep : FnOk P w K mg base CX0 6 A.a_answer_dep A.d_answer_dep ["nest", "s", "t"] (sp_answer_dep K A) := ok_answer_dep T G_Meetings_first_dependence G_Nest_has_statement G_Nest_meetings G_tell G_tell_pair
    have G_answer_carried : FnOk P w K mg base CX0 6 A.a_answer_carried A.d_answer_carried ["nest", "loop"] (sp_answer_carried K A) := ok_answer_carried T G_Meetings_first_carried G_Nest_has_loop G_Nest_meetings G_tell G_tell_pair
    have G_answer_try : FnOk P w K mg base CX0 6 A.a_answer_try A.d_answer_try ["nest", "k", "rows"] (sp_answer_try K A) := ok_answer_try T G_Meetings_first_barred G_Nest_meetings G_Nest_statement_count G_tell G_tell_pair
    have G_answer_steps : FnOk P w K mg base CX0 6 A.a_answer_steps A.d_answer_steps ["nest"] (sp_answer_steps K A) := ok_answer_steps T G_Nest_meetings G_tell
    have G_answer_at : FnOk P w K mg base CX0 6 A.a_answer_at A.d_answer_at ["nest", "step"] (sp_answer_at K A) := ok_answer_at T G_Nest_meetings G_tell
    have G_answer_level : FnOk P w K mg base CX0 7 A.a_answer_level A.d_answer_level ["nest", "u"] (sp_answer_level K A) := ok_answer_level T G_Nest_is_instance G_Nest_level_of G_tell
    have G_Desk_answer : FnOk P w K mg base CX0 8 A.a_Desk_answer A.d_Desk_answer ["self", "call"] (sp_Desk_answer K A) := ok_Desk_answer T G_Desk_answer_init G_answer_access G_answer_at G_answer_carried G_answer_dep G_answer_level G_answer_meet G_answer_steps G_answer_stmt G_answer_try G_tell
    have G_answers : FnOk P w K mg base CX0 9 A.a_answers A.d_answers ["calls"] (sp_answers K A) := ok_answers T G_Desk_answer G_Desk_init G_read_calls
    exact G_answers
end My
end
open PySem PySem.W PyProof.Rows
set_option Elab.async false
/-! These names are taken, so that the head makes no second copy of the great terms that they would stand for: the compiled text stays small. -/
def PySem.W.Fast.tw3740377328394641350 : Unit := ()
def PySem.W.Fast.tw15976621315563405128 : Unit := ()
def PySem.W.Fast.tw123769072606885401 : Unit := ()
def PySem.W.Fast.tw6052390514642490758 : Unit := ()
def PySem.W.Fast.tw12457180592426942723 : Unit := ()
def PySem.W.Fast.tw6210697305426321697 : Unit := ()
def PySem.W.Fast.tw6848945472423482590 : Unit := ()
def PySem.W.Fast.tw4837963773174796444 : Unit := ()
def PySem.W.Fast.tw9999285397052907747 : Unit := ()
def PySem.W.Fast.tw8740639987500380370 : Unit := ()
def PySem.W.Fast.tw6476493964040804000 : Unit := ()
def PySem.W.Fast.tw4466609585030281985 : Unit := ()
def PySem.W.Fast.tw7775508796550398350 : Unit := ()
def PySem.W.Fast.tw9724161834768964601 : Unit := ()
set_option maxRecDepth 100000 in
set_option maxHeartbeats 0 in
theorem PySem.Challenge.cw_loopnest_s01_answers_holds : PySem.Challenge.rw_loopnest_s01_answers.Holds := by
  w_on; k_headS; (case hw => exact ⟨[.list [.int 1]], by decide +kernel, by decide +kernel⟩)
  k_fillS
  refine L2.walk_specK (r := PySem.Challenge.rw_loopnest_s01_answers) (k := 9) (CX := L2.CX0) (ps := ["calls"]) (sp := My.sp_top) (by decide +kernel) rfl rfl ⟨rfl, by decide, by decide⟩ (fun w h Y => PySem.W.kIn_of Y) ?F ?S (fun _ _ _ _ z => z)
  case F =>
    intro w mg fa h Y KX G hmg
    refine' My.all_mk KX G hmg ?aC_Meetings ?aC_Nest ?aC_Call ?aC_Desk ?n_row_at ?l_row_at ?c_row_at ?k_row_at ?n_time_of ?l_time_of ?c_time_of ?k_time_of ?n_Meetings_init ?i_Meetings_init ?l_Meetings_init ?c_Meetings_init ?k_Meetings_init ?n_Meetings_first_dependence ?i_Meetings_first_dependence ?l_Meetings_first_dependence ?c_Meetings_first_dependence ?k_Meetings_first_dependence ?n_Meetings_first_carried ?i_Meetings_first_carried ?l_Meetings_first_carried ?c_Meetings_first_carried ?k_Meetings_first_carried ?n_Meetings_first_barred ?i_Meetings_first_barred ?l_Meetings_first_barred ?c_Meetings_first_barred ?k_Meetings_first_barred ?n_meeting_pairs ?l_meeting_pairs ?c_meeting_pairs ?k_meeting_pairs ?n_touches_meet ?l_touches_meet ?c_touches_meet ?k_touches_meet ?n_earliest_steps ?l_earliest_steps ?c_earliest_steps ?k_earliest_steps ?n_Nest_init ?i_Nest_init ?l_Nest_init ?c_Nest_init ?k_Nest_init ?n_Nest_has_loop ?i_Nest_has_loop ?l_Nest_has_loop ?c_Nest_has_loop ?k_Nest_has_loop ?n_Nest_statement_count ?i_Nest_statement_count ?l_Nest_statement_count ?c_Nest_statement_count ?k_Nest_statement_count ?n_Nest_has_statement ?i_Nest_has_statement ?l_Nest_has_statement ?c_Nest_has_statement ?k_Nest_has_statement ?n_Nest_add_statement ?i_Nest_add_statement ?l_Nest_add_statement ?c_Nest_add_statement ?k_Nest_add_statement ?n_Nest_access_count ?i_Nest_access_count ?l_Nest_access_count ?c_Nest_access_count ?k_Nest_access_count ?n_Nest_add_access ?i_Nest_add_access ?l_Nest_add_access ?c_Nest_add_access ?k_Nest_add_access ?n_Nest_is_instance ?i_Nest_is_instance ?l_Nest_is_instance ?c_Nest_is_instance ?k_Nest_is_instance ?n_Nest_round_place ?i_Nest_round_place ?l_Nest_round_place ?c_Nest_round_place ?k_Nest_round_place ?n_Nest_touched_by ?i_Nest_touched_by ?l_Nest_touched_by ?c_Nest_touched_by ?k_Nest_touched_by ?n_Nest_meet ?i_Nest_meet ?l_Nest_meet ?c_Nest_meet ?k_Nest_meet ?n_Nest_all_instances ?i_Nest_all_instances ?l_Nest_all_instances ?c_Nest_all_instances ?k_Nest_all_instances ?n_Nest_meetings ?i_Nest_meetings ?l_Nest_meetings ?c_Nest_meetings ?k_Nest_meetings ?n_Nest_level_of ?i_Nest_level_of ?l_Nest_level_of ?c_Nest_level_of ?k_Nest_level_of ?n_all_rounds ?l_all_rounds ?c_all_rounds ?k_all_rounds ?n_Call_init ?i_Call_init ?l_Call_init ?c_Call_init ?k_Call_init ?n_read_calls ?l_read_calls ?c_read_calls ?k_read_calls ?n_read_lists ?l_read_lists ?c_read_lists ?k_read_lists ?n_answers ?l_answers ?c_answers ?k_answers ?n_Desk_init ?i_Desk_init ?l_Desk_init ?c_Desk_init ?k_Desk_init ?n_Desk_answer ?i_Desk_answer ?l_Desk_answer ?c_Desk_answer ?k_Desk_answer ?n_Desk_answer_init ?i_Desk_answer_init ?l_Desk_answer_init ?c_Desk_answer_init ?k_Desk_answer_init ?n_tell ?l_tell ?c_tell ?k_tell ?n_tell_pair ?l_tell_pair ?c_tell_pair ?k_tell_pair ?n_loops_go ?l_loops_go ?c_loops_go ?k_loops_go ?n_answer_stmt ?l_answer_stmt ?c_answer_stmt ?k_answer_stmt ?n_answer_access ?l_answer_access ?c_answer_access ?k_answer_access ?n_answer_meet ?l_answer_meet ?c_answer_meet ?k_answer_meet ?n_answer_dep ?l_answer_dep ?c_answer_dep ?k_answer_dep ?n_answer_carried ?l_answer_carried ?c_answer_carried ?k_answer_carried ?n_answer_try ?l_answer_try ?c_answer_try ?k_answer_try ?n_answer_steps ?l_answer_steps ?c_answer_steps ?k_answer_steps ?n_answer_level ?l_answer_level ?c_answer_level ?k_answer_level ?n_answer_at ?l_answer_at ?c_answer_at ?k_answer_at ?pg_Meetings ?hd_Meetings ?po_Meetings ?sa_Meetings ?mk_Meetings ?kc_Meetings ?na_Meetings_instances ?na_Meetings_levels ?na_Meetings_pairs ?pg_Nest ?hd_Nest ?po_Nest ?sa_Nest ?mk_Nest ?kc_Nest ?na_Nest_depth ?na_Nest_found ?na_Nest_lengths ?na_Nest_rounds ?na_Nest_touches ?pg_Call ?hd_Call ?po_Call ?sa_Call ?mk_Call ?kc_Call ?na_Call_kind ?na_Call_lists ?na_Call_numbers ?pg_Desk ?hd_Desk ?po_Desk ?sa_Desk ?mk_Desk ?kc_Desk ?na_Desk_nest ?g_ROW_LENGTH ?g_MOST_LOOPS ?g_INIT ?g_STMT ?g_ACCESS ?g_MEET ?g_DEP ?g_CARRIED ?g_TRY ?g_STEPS ?g_LEVEL ?g_SHAPES ?t_SHAPES ?t_SHAPES_0 ?t_SHAPES_1 ?t_SHAPES_2 ?t_SHAPES_3 ?t_SHAPES_4 ?t_SHAPES_5 ?t_SHAPES_6 ?t_SHAPES_7 ?t_SHAPES_8 ?t_SHAPES_9 ?g_MOST_ROUNDS ?g_MOST_STATEMENTS ?g_MOST_ACCESSES ?g_LAST_ARRAY ?g_LONGEST_TIME ?n_len ?n_max ?n_range ?n_sum
    (case aC_Meetings => k_is)
    (case aC_Nest => k_is)
    (case aC_Call => k_is)
    (case aC_Desk => k_is)
    (case n_row_at => k_is)
    (case l_row_at => k_is)
    (case c_row_at => k_is)
    (case k_row_at => k_is)
    (case n_time_of => k_is)
    (case l_time_of => k_is)
    (case c_time_of => k_is)
    (case k_time_of => k_is)
    (case n_Meetings_init => k_is)
    (case i_Meetings_init => k_is)
    (case l_Meetings_init => k_is)
    (case c_Meetings_init => k_is)
    (case k_Meetings_init => k_is)
    (case n_Meetings_first_dependence => k_is)
    (case i_Meetings_first_dependence => k_is)
    (case l_Meetings_first_dependence => k_is)
    (case c_Meetings_first_dependence => k_is)
    (case k_Meetings_first_dependence => k_is)
    (case n_Meetings_first_carried => k_is)
    (case i_Meetings_first_carried => k_is)
    (case l_Meetings_first_carried => k_is)
    (case c_Meetings_first_carried => k_is)
    (case k_Meetings_first_carried => k_is)
    (case n_Meetings_first_barred => k_is)
    (case i_Meetings_first_barred => k_is)
    (case l_Meetings_first_barred => k_is)
    (case c_Meetings_first_barred => k_is)
    (case k_Meetings_first_barred => k_is)
    (case n_meeting_pairs => k_is)
    (case l_meeting_pairs => k_is)
    (case c_meeting_pairs => k_is)
    (case k_meeting_pairs => k_is)
    (case n_touches_meet => k_is)
    (case l_touches_meet => k_is)
    (case c_touches_meet => k_is)
    (case k_touches_meet => k_is)
    (case n_earliest_steps => k_is)
    (case l_earliest_steps => k_is)
    (case c_earliest_steps => k_is)
    (case k_earliest_steps => k_is)
    (case n_Nest_init => k_is)
    (case i_Nest_init => k_is)
    (case l_Nest_init => k_is)
    (case c_Nest_init => k_is)
    (case k_Nest_init => k_is)
    (case n_Nest_has_loop => k_is)
    (case i_Nest_has_loop => k_is)
    (case l_Nest_has_loop => k_is)
    (case c_Nest_has_loop => k_is)
    (case k_Nest_has_loop => k_is)
    (case n_Nest_statement_count => k_is)
    (case i_Nest_statement_count => k_is)
    (case l_Nest_statement_count => k_is)
    (case c_Nest_statement_count => k_is)
    (case k_Nest_statement_count => k_is)
    (case n_Nest_has_statement => k_is)
    (case i_Nest_has_statement => k_is)
    (case l_Nest_has_statement => k_is)
    (case c_Nest_has_statement => k_is)
    (case k_Nest_has_statement => k_is)
    (case n_Nest_add_statement => k_is)
    (case i_Nest_add_statement => k_is)
    (case l_Nest_add_statement => k_is)
    (case c_Nest_add_statement => k_is)
    (case k_Nest_add_statement => k_is)
    (case n_Nest_access_count => k_is)
    (case i_Nest_access_count => k_is)
    (case l_Nest_access_count => k_is)
    (case c_Nest_access_count => k_is)
    (case k_Nest_access_count => k_is)
    (case n_Nest_add_access => k_is)
    (case i_Nest_add_access => k_is)
    (case l_Nest_add_access => k_is)
    (case c_Nest_add_access => k_is)
    (case k_Nest_add_access => k_is)
    (case n_Nest_is_instance => k_is)
    (case i_Nest_is_instance => k_is)
    (case l_Nest_is_instance => k_is)
    (case c_Nest_is_instance => k_is)
    (case k_Nest_is_instance => k_is)
    (case n_Nest_round_place => k_is)
    (case i_Nest_round_place => k_is)
    (case l_Nest_round_place => k_is)
    (case c_Nest_round_place => k_is)
    (case k_Nest_round_place => k_is)
    (case n_Nest_touched_by => k_is)
    (case i_Nest_touched_by => k_is)
    (case l_Nest_touched_by => k_is)
    (case c_Nest_touched_by => k_is)
    (case k_Nest_touched_by => k_is)
    (case n_Nest_meet => k_is)
    (case i_Nest_meet => k_is)
    (case l_Nest_meet => k_is)
    (case c_Nest_meet => k_is)
    (case k_Nest_meet => k_is)
    (case n_Nest_all_instances => k_is)
    (case i_Nest_all_instances => k_is)
    (case l_Nest_all_instances => k_is)
    (case c_Nest_all_instances => k_is)
    (case k_Nest_all_instances => k_is)
    (case n_Nest_meetings => k_is)
    (case i_Nest_meetings => k_is)
    (case l_Nest_meetings => k_is)
    (case c_Nest_meetings => k_is)
    (case k_Nest_meetings => k_is)
    (case n_Nest_level_of => k_is)
    (case i_Nest_level_of => k_is)
    (case l_Nest_level_of => k_is)
    (case c_Nest_level_of => k_is)
    (case k_Nest_level_of => k_is)
    (case n_all_rounds => k_is)
    (case l_all_rounds => k_is)
    (case c_all_rounds => k_is)
    (case k_all_rounds => k_is)
    (case n_Call_init => k_is)
    (case i_Call_init => k_is)
    (case l_Call_init => k_is)
    (case c_Call_init => k_is)
    (case k_Call_init => k_is)
    (case n_read_calls => k_is)
    (case l_read_calls => k_is)
    (case c_read_calls => k_is)
    (case k_read_calls => k_is)
    (case n_read_lists => k_is)
    (case l_read_lists => k_is)
    (case c_read_lists => k_is)
    (case k_read_lists => k_is)
    (case n_answers => k_is)
    (case l_answers => k_is)
    (case c_answers => k_is)
    (case k_answers => k_is)
    (case n_Desk_init => k_is)
    (case i_Desk_init => k_is)
    (case l_Desk_init => k_is)
    (case c_Desk_init => k_is)
    (case k_Desk_init => k_is)
    (case n_Desk_answer => k_is)
    (case i_Desk_answer => k_is)
    (case l_Desk_answer => k_is)
    (case c_Desk_answer => k_is)
    (case k_Desk_answer => k_is)
    (case n_Desk_answer_init => k_is)
    (case i_Desk_answer_init => k_is)
    (case l_Desk_answer_init => k_is)
    (case c_Desk_answer_init => k_is)
    (case k_Desk_answer_init => k_is)
    (case n_tell => k_is)
    (case l_tell => k_is)
    (case c_tell => k_is)
    (case k_tell => k_is)
    (case n_tell_pair => k_is)
    (case l_tell_pair => k_is)
    (case c_tell_pair => k_is)
    (case k_tell_pair => k_is)
    (case n_loops_go => k_is)
    (case l_loops_go => k_is)
    (case c_loops_go => k_is)
    (case k_loops_go => k_is)
    (case n_answer_stmt => k_is)
    (case l_answer_stmt => k_is)
    (case c_answer_stmt => k_is)
    (case k_answer_stmt => k_is)
    (case n_answer_access => k_is)
    (case l_answer_access => k_is)
    (case c_answer_access => k_is)
    (case k_answer_access => k_is)
    (case n_answer_meet => k_is)
    (case l_answer_meet => k_is)
    (case c_answer_meet => k_is)
    (case k_answer_meet => k_is)
    (case n_answer_dep => k_is)
    (case l_answer_dep => k_is)
    (case c_answer_dep => k_is)
    (case k_answer_dep => k_is)
    (case n_answer_carried => k_is)
    (case l_answer_carried => k_is)
    (case c_answer_carried => k_is)
    (case k_answer_carried => k_is)
    (case n_answer_try => k_is)
    (case l_answer_try => k_is)
    (case c_answer_try => k_is)
    (case k_answer_try => k_is)
    (case n_answer_steps => k_is)
    (case l_answer_steps => k_is)
    (case c_answer_steps => k_is)
    (case k_answer_steps => k_is)
    (case n_answer_level => k_is)
    (case l_answer_level => k_is)
    (case c_answer_level => k_is)
    (case k_answer_level => k_is)
    (case n_answer_at => k_is)
    (case l_answer_at => k_is)
    (case c_answer_at => k_is)
    (case k_answer_at => k_is)
    (case pg_Meetings => k_is)
    (case hd_Meetings => k_is)
    (case po_Meetings => k_is)
    (case sa_Meetings => k_is)
    (case mk_Meetings => k_is)
    (case kc_Meetings => k_is)
    (case na_Meetings_instances => k_is)
    (case na_Meetings_levels => k_is)
    (case na_Meetings_pairs => k_is)
    (case pg_Nest => k_is)
    (case hd_Nest => k_is)
    (case po_Nest => k_is)
    (case sa_Nest => k_is)
    (case mk_Nest => k_is)
    (case kc_Nest => k_is)
    (case na_Nest_depth => k_is)
    (case na_Nest_found => k_is)
    (case na_Nest_lengths => k_is)
    (case na_Nest_rounds => k_is)
    (case na_Nest_touches => k_is)
    (case pg_Call => k_is)
    (case hd_Call => k_is)
    (case po_Call => k_is)
    (case sa_Call => k_is)
    (case mk_Call => k_is)
    (case kc_Call => k_is)
    (case na_Call_kind => k_is)
    (case na_Call_lists => k_is)
    (case na_Call_numbers => k_is)
    (case pg_Desk => k_is)
    (case hd_Desk => k_is)
    (case po_Desk => k_is)
    (case sa_Desk => k_is)
    (case mk_Desk => k_is)
    (case kc_Desk => k_is)
    (case na_Desk_nest => k_is)
    (case g_ROW_LENGTH => k_is)
    (case g_MOST_LOOPS => k_is)
    (case g_INIT => k_is)
    (case g_STMT => k_is)
    (case g_ACCESS => k_is)
    (case g_MEET => k_is)
    (case g_DEP => k_is)
    (case g_CARRIED => k_is)
    (case g_TRY => k_is)
    (case g_STEPS => k_is)
    (case g_LEVEL => k_is)
    (case g_SHAPES => k_is)
    (case t_SHAPES => k_is)
    (case t_SHAPES_0 => k_is)
    (case t_SHAPES_1 => k_is)
    (case t_SHAPES_2 => k_is)
    (case t_SHAPES_3 => k_is)
    (case t_SHAPES_4 => k_is)
    (case t_SHAPES_5 => k_is)
    (case t_SHAPES_6 => k_is)
    (case t_SHAPES_7 => k_is)
    (case t_SHAPES_8 => k_is)
    (case t_SHAPES_9 => k_is)
    (case g_MOST_ROUNDS => k_is)
    (case g_MOST_STATEMENTS => k_is)
    (case g_MOST_ACCESSES => k_is)
    (case g_LAST_ARRAY => k_is)
    (case g_LONGEST_TIME => k_is)
    (case n_len => k_is)
    (case n_max => k_is)
    (case n_range => k_is)
    (case n_sum => k_is)
  case S =>
    intro K H xs a hO hwi hask hx
    cases hx with
    | cons h1 h2 =>
      cases h2
      cases h1 with
      | lst hs ha =>
        have e := L2.ints_dw a.1 _ ha
        subst e
        exact ⟨_, a.1, rfl, hs, hask, fun H' p hp => .lst (L2.SqL.of hp) (L2.dw_ints _)⟩
#print axioms PySem.Challenge.cw_loopnest_s01_answers_holds
