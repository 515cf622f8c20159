import PyProof.Rows.All
import Wide.All
import OpenK.AllK
import Wide.FinOn
import PyProof.EqAt
import PyProof.EqKinds
import PyProof.TupleCall
import KE.BitLaws
import Open.SpecLaws
import KE.OsHead
import KE.OsGo
import PyFlatLaws
import PySem.Challenge.RW_playclocks_s01_answers
set_option Elab.async false
set_option linter.all false
set_option maxRecDepth 100000
/-! THE HAND LAYER, for ints, bools, texts, own classes, lists, tuples, dicts, comprehensions, walks over dicts, enumerate, zip, reversed, texts, calls, loops. Paste it whole ahead of your own text; what your proof does not reach may be deleted. -/
namespace L2
open PySem PySem.Spec PyProof.Rows

/-- a key: an int or a str -/
abbrev Key := Sum Int Str
def keyIs : Key → Value → Bool
  | .inl k, v => Value.isInt k v
  | .inr x, v => Value.isStrOf x v
def keyH (w : World) : Key → Int
  | .inl k => hashInt k
  | .inr x => hashStr w x
theorem keyIs_shape : ∀ {k : Key} {v : Value}, keyIs k v = true → (∃ i t, k = Sum.inl i ∧ v = Value.int i t) ∨ (∃ x t, k = Sum.inr x ∧ v = Value.str x t)
  | .inl i, v, h => by
    obtain ⟨t, e⟩ := Value.isInt_shape (k := i) (v := v) h
    exact .inl ⟨i, t, rfl, e⟩
  | .inr x, v, h => by
    obtain ⟨t, e⟩ := Value.isStrOf_shape (x := x) (v := v) h
    exact .inr ⟨x, t, rfl, e⟩
theorem key_ll (a b : Int) : decide ((Sum.inl a : Key) = Sum.inl b) = (a == b) := by
  by_cases e : a = b
  · subst e; simp
  · have h : ¬ (Sum.inl a : Key) = Sum.inl b := fun q => e (Sum.inl.inj q)
    rw [decide_eq_false h]
    exact (beq_eq_false_iff_ne.mpr e).symm
theorem key_rr (a b : Str) : decide ((Sum.inr a : Key) = Sum.inr b) = decide (a = b) := by
  by_cases e : a = b
  · subst e; simp
  · have h : ¬ (Sum.inr a : Key) = Sum.inr b := fun q => e (Sum.inr.inj q)
    rw [decide_eq_false h, decide_eq_false e]
theorem key_lr (a : Int) (b : Str) : decide ((Sum.inl a : Key) = Sum.inr b) = false := decide_eq_false (fun q => nomatch q)
theorem key_rl (a : Str) (b : Int) : decide ((Sum.inr a : Key) = Sum.inl b) = false := decide_eq_false (fun q => nomatch q)

def mixKind (prog : Program) (w : World) : PySem.KeyKind prog w Key where
  is := keyIs
  hash := keyH w
  inj := fun v a b ha hb => by
    rcases keyIs_shape ha with ⟨i, t, rfl, rfl⟩ | ⟨x, t, rfl, rfl⟩
    · rcases keyIs_shape hb with ⟨j, u, rfl, e⟩ | ⟨y, u, rfl, e⟩
      · injection e with e1 _; rw [e1]
      · exact nomatch e
    · rcases keyIs_shape hb with ⟨j, u, rfl, e⟩ | ⟨y, u, rfl, e⟩
      · exact nomatch e
      · injection e with e1 _; rw [e1]
  byValue := fun k v h => by
    rcases keyIs_shape h with ⟨i, t, rfl, rfl⟩ | ⟨x, t, rfl, rfl⟩ <;> rfl
  pyHash := fun hv h => by
    rcases keyIs_shape hv with ⟨i, t, rfl, rfl⟩ | ⟨x, t, rfl, rfl⟩
    · exact wpAny_pyHash_int h
    · exact wpAny_pyHash_str h
  eqBool := fun hu hv h => by
    rcases keyIs_shape hu with ⟨i, t, rfl, rfl⟩ | ⟨x, t, rfl, rfl⟩
    · rcases keyIs_shape hv with ⟨j, u, rfl, rfl⟩ | ⟨y, u, rfl, rfl⟩
      · rw [key_ll] at h; exact wpAny_eqBool_int h
      · rw [key_lr] at h; exact SeqAt.EqAt.int_str i t y u _ _ _ _ h
    · rcases keyIs_shape hv with ⟨j, u, rfl, rfl⟩ | ⟨y, u, rfl, rfl⟩
      · rw [key_rl] at h; exact SeqAt.EqAt.str_int x t j u _ _ _ _ h
      · rw [key_rr] at h; exact wpAny_eqBool_str h
  «strs» := fun k x t v h => by
    rcases keyIs_shape h with ⟨i, u, rfl, e⟩ | ⟨y, u, rfl, e⟩
    · exact nomatch e
    · injection e with e1 _
      subst e1
      cases v <;> rfl

end L2

namespace L2
open PySem PySem.Spec PyProof.Rows

/-- a value, without the heap -/
inductive V where
  | non | bl (b : Bool) | int (i : Int) | str (x : Str) | byt (b : Array UInt8) | flt (b : UInt64) | ref (a : Addr) | ty (n : String)
  deriving DecidableEq

def RelV : V → Value → Prop
  | .non, u => u = Value.none
  | .bl b, u => u = Value.bool b
  | .int i, u => ∃ t, u = Value.int i t
  | .str x, u => ∃ t, u = Value.str x t
  | .byt b, u => ∃ t, u = Value.bytes b t
  | .flt b, u => ∃ t, u = Value.float b t
  | .ref a, u => u = Value.ref a
  | .ty n, u => u = Value.type n

abbrev Vals : List V → List Value → Prop := Paired RelV
theorem Vals.length {xs : List V} {us : List Value} (r : Vals xs us) : xs.length = us.length := Paired.length r
theorem Vals.get : ∀ {xs : List V} {us : List Value} {i : Nat} {x : V}, Vals xs us → xs[i]? = some x → ∃ u, us[i]? = some u ∧ RelV x u
  | _, _, _, _, .nil, e => by simp at e
  | _, _, 0, _, .cons r _, e => by simp at e; subst e; exact ⟨_, rfl, r⟩
  | _, _, i + 1, x, .cons _ t, e => by
    obtain ⟨u, h1, h2⟩ := Vals.get (i := i) (x := x) t (by simpa using e)
    exact ⟨u, by simpa using h1, h2⟩
theorem Vals.append : ∀ {xs ys : List V} {us ws : List Value}, Vals xs us → Vals ys ws → Vals (xs ++ ys) (us ++ ws)
  | _, _, _, _, .nil, s => s
  | _, _, _, _, .cons r t, s => .cons r (Vals.append t s)
theorem Vals.take : ∀ {xs : List V} {us : List Value} (n : Nat), Vals xs us → Vals (xs.take n) (us.take n)
  | _, _, 0, _ => .nil
  | _, _, _ + 1, .nil => .nil
  | _, _, n + 1, .cons r t => .cons r (Vals.take n t)
theorem Vals.drop : ∀ {xs : List V} {us : List Value} (n : Nat), Vals xs us → Vals (xs.drop n) (us.drop n)
  | _, _, 0, r => r
  | _, _, _ + 1, .nil => .nil
  | _, _, n + 1, .cons _ t => Vals.drop n t
def RelO : Option V → Option Value → Prop
  | some v, some u => RelV v u
  | none, none => True
  | _, _ => False
def KV {κ : Type} : List (κ × V) → List (κ × Value) → Prop := Paired fun (p : κ × V) (q : κ × Value) => p.1 = q.1 ∧ RelV p.2 q.2

/-- a key of a dict (00_mix): an int or a text -/
def kV : Key → V
  | .inl i => .int i
  | .inr x => .str x

/-- what stands at a tracked address -/
inductive HO where
  /-- a list -/
  | lst (xs : List V)
  /-- a tuple (never changes) -/
  | tup (xs : List V)
  /-- a dict whose keys are ints and texts; one whose keys are tuples of ints and texts (the empty one is both) -/
  | dK (kvs : List (Key × V)) | dT (kvs : List (List Key × V))
  /-- a set of ints: its members, its size -/
  | set (S : Int → Bool) (n : Nat)
  /-- an instance of the class at C, its dict at dx, its attributes -/
  | ins (C dx : Addr) (fs : List (Str × V))
  /-- the dict of the instance at x -/
  | own (x : Addr)
  /-- the dict of an exception -/
  | xd (fs : List (Str × V))
  /-- a bound method, f of x -/
  | met (f x : Addr)
  /-- a range object lo, lo + 1, .. below hi -/
  | rng (lo hi : Int)
  /-- a thing that is known to the object (the script; a dict while a loop walks it): read, never written while it is so -/
  | frz (o : Obj) (u : HO)
  /-- a code object's table -/
  | tbl (ps : Array Value)
  /-- any other thing, by what is true of its one object (a def of one's own: SetO a S n := HO.ext fun h => ..) -/
  | ext (φ : Heap → Prop)

abbrev Hp := Addr → Option HO
def upd (H : Hp) (a : Addr) (o : HO) : Hp := fun b => if b = a then some o else H b
theorem upd_same {H : Hp} {a : Addr} {o : HO} : upd H a o a = some o := by unfold upd; rw [if_pos rfl]
theorem upd_ne {H : Hp} {a b : Addr} {o : HO} (h : b ≠ a) : upd H a o b = H b := by unfold upd; rw [if_neg h]
theorem upd_upd {H : Hp} {a : Addr} {o u : HO} : upd (upd H a o) a u = upd H a u := by
  funext b; unfold upd; split <;> rfl
/-- two objects of different content stand apart -/
theorem ne_of {H : Hp} {a b : Addr} {o u : HO} (h : H a = some o) (h' : H b = some u) (d : o ≠ u) : a ≠ b := by
  intro e; subst e; rw [h] at h'; exact d (Option.some.inj h')
theorem ne_of_none {H : Hp} {a b : Addr} {o : HO} (h : H a = some o) (h' : H b = none) : a ≠ b := by
  intro e; subst e; rw [h] at h'; cases h'

section
variable (P : Program) (w : World)
def ObjOk (H : Hp) (h : Heap) (a : Addr) : HO → Prop
  | .lst xs => xs.length ≤ sizeLine ∧ ∃ (its : List Value) (n : Nat), Vals xs its ∧ h.get? a = some { cls := .type "list", data := .seq its.toArray n }
  | .tup xs => xs.length ≤ sizeLine ∧ ∃ its : List Value, Vals xs its ∧ IsTup h a its.toArray
  | .dK kvs => kvs.length ≤ sizeLine ∧ (a == sysModules) = false ∧ ∃ vs, KV kvs vs ∧ h.DictOf (mixKind P w) a vs
  | .dT kvs => kvs.length ≤ sizeLine ∧ (a == sysModules) = false ∧ ∃ xs : List (List Key × Addr × Value),
      Paired (fun (p : List Key × V) (q : List Key × Addr × Value) => p.1 = q.1 ∧ H q.2.1 = some (.tup (p.1.map kV)) ∧ RelV p.2 q.2.2) kvs xs ∧
      ∃ o es ep, h.get? a = some o ∧ o.ExactDict ∧ o.data = .dict es ep ∧ es.toList = xs.map (entryOfKey (tupleKind (mixKind P w))) ∧ (xs.map (·.1)).Nodup
  | .set S n => h.SetOf (intKind P w) a S n
  | .ins C dx fs => H dx = some (.own a) ∧ fs.length ≤ 1000 ∧ dx ≠ a ∧ h.get? a = some (PySem.W.instObj C dx) ∧
      ∃ mA, h.Ns1 dx mA ∧ (∀ f, RelO (fs.lookup f) (mA f)) ∧ PySem.Within mA (fs.map (·.1))
  | .own _ => ∃ o, h.get? a = some o
  | .xd fs => ∃ mA, h.Ns1 a mA ∧ ∀ f, RelO (fs.lookup f) (mA f)
  | .rng lo hi => ∃ t u v, h.get? a = some { cls := .type "range", data := .fields #[.int lo t, .int hi u, .int 1 v] }
  | .frz o u => h.get? a = some o ∧ ObjOk H h a u
  | .tbl ps => h.get? a = some { cls := .none, data := .fields ps }
  | .met f x => h.get? a = some (PySem.W.methodObj (.ref f) (.ref x))
  | .ext φ => φ h ∧ (∃ o, h.get? a = some o) ∧ ∀ h1 h2 : Heap, φ h1 → (∀ o, h1.get? a = some o → h2.get? a = some o) → φ h2
/-- the abstract heap is held -/
def HOk (H : Hp) (h : Heap) : Prop := ∀ a o, H a = some o → ObjOk P w H h a o
end

section
variable {P : Program} {w : World} {H H' : Hp} {h h' : Heap} {a : Addr} {o : HO}
theorem ObjOk.lt (x : ObjOk P w H h a o) : a < h.objs.size := by
  cases o with
  | lst xs => obtain ⟨_, _, _, _, e⟩ := x; exact Heap.lt_size e
  | tup xs => obtain ⟨_, _, _, p⟩ := x; exact p.lt
  | dK kvs => obtain ⟨_, _, _, _, o, _, _, e, _⟩ := x; exact Heap.lt_size e
  | dT kvs => obtain ⟨_, _, _, _, o, _, _, e, _⟩ := x; exact Heap.lt_size e
  | set S n => obtain ⟨o, _, _, _, e, _⟩ := x; exact Heap.lt_size e
  | ins C dx fs => obtain ⟨_, _, _, e, _⟩ := x; exact Heap.lt_size e
  | own y => obtain ⟨_, e⟩ := x; exact Heap.lt_size e
  | xd fs => obtain ⟨_, ⟨_, _, _, e, _⟩, _⟩ := x; exact Heap.lt_size e
  | rng lo hi => obtain ⟨_, _, _, e⟩ := x; exact Heap.lt_size e
  | frz ob u => obtain ⟨e, _⟩ := x; exact Heap.lt_size e
  | tbl ps => exact Heap.lt_size (show h.get? a = some _ from x)
  | met f y => exact Heap.lt_size (show h.get? a = some _ from x)
  | ext φ => obtain ⟨_, ⟨_, e⟩, _⟩ := x; exact Heap.lt_size e
theorem Paired.mapP {α β : Type} {F G : α → β → Prop} : ∀ {l₁ : List α} {l₂ : List β}, Paired F l₁ l₂ → (∀ a b, F a b → G a b) → Paired G l₁ l₂
  | _, _, .nil, _ => .nil
  | _, _, .cons r t, f => .cons (f _ _ r) (Paired.mapP t f)
/-- what an object's description leans on: its own object, its own dict, the tuples -/
theorem ObjOk.stay (x : ObjOk P w H h a o) (k : ∀ b u, (b = a ∨ H b = some (.own a)) → h.get? b = some u → h'.get? b = some u)
    (ho : ∀ b, H b = some (.own a) → H' b = some (.own a)) (ht : ∀ b xs, H b = some (.tup xs) → H' b = some (.tup xs)) : ObjOk P w H' h' a o := by
  induction o with
  | lst xs => obtain ⟨z, its, n, r, e⟩ := x; exact ⟨z, its, n, r, k _ _ (.inl rfl) e⟩
  | tup xs => obtain ⟨z, its, r, ob, e, c⟩ := x; exact ⟨z, its, r, ob, k _ _ (.inl rfl) e, c⟩
  | dK kvs => obtain ⟨z, y, vs, r, ob, es, ep, e, c⟩ := x; exact ⟨z, y, vs, r, ob, es, ep, k _ _ (.inl rfl) e, c⟩
  | dT kvs =>
    obtain ⟨z, y, xs, r, ob, es, ep, e, c⟩ := x
    exact ⟨z, y, xs, Paired.mapP r fun p q z => ⟨z.1, ht _ _ z.2.1, z.2.2⟩, ob, es, ep, k _ _ (.inl rfl) e, c⟩
  | set S n => obtain ⟨ob, es, ep, t, e, c⟩ := x; exact ⟨ob, es, ep, t, k _ _ (.inl rfl) e, c⟩
  | ins C dx fs =>
    obtain ⟨d, z, ne, e, mA, ⟨od, es, ep, e2, c⟩, r⟩ := x
    exact ⟨ho _ d, z, ne, k _ _ (.inl rfl) e, mA, ⟨od, es, ep, k _ _ (.inr d) e2, c⟩, r⟩
  | own y => obtain ⟨ob, e⟩ := x; exact ⟨ob, k _ _ (.inl rfl) e⟩
  | xd fs => obtain ⟨mA, ⟨od, es, ep, e, c⟩, r⟩ := x; exact ⟨mA, ⟨od, es, ep, k _ _ (.inl rfl) e, c⟩, r⟩
  | rng lo hi => obtain ⟨t, u, v, e⟩ := x; exact ⟨t, u, v, k _ _ (.inl rfl) e⟩
  | frz ob u ih => obtain ⟨e, q⟩ := x; exact ⟨k _ _ (.inl rfl) e, ih q⟩
  | tbl ps =>
    have e : h.get? a = some { cls := .none, data := .fields ps } := x
    show h'.get? a = some { cls := .none, data := .fields ps }
    exact k a _ (.inl rfl) e
  | met f y =>
    have e : h.get? a = some (PySem.W.methodObj (.ref f) (.ref y)) := x
    show h'.get? a = some (PySem.W.methodObj (.ref f) (.ref y))
    exact k a _ (.inl rfl) e
  | ext φ => obtain ⟨p, ⟨o, e⟩, st⟩ := x; exact ⟨st _ _ p fun o q => k _ _ (.inl rfl) q, ⟨o, k _ _ (.inl rfl) e⟩, st⟩
theorem HOk.lt (x : HOk P w H h) (e : H a = some o) : a < h.objs.size := (x a o e).lt
theorem HOk.fresh (x : HOk P w H h) (e : h.objs.size ≤ a) : H a = none := by
  cases q : H a with
  | none => rfl
  | some u => exact absurd (Nat.lt_of_lt_of_le (x.lt q) e) (Nat.lt_irrefl _)
/-- every object of the heap is kept -/
theorem HOk.kept (x : HOk P w H h) (k : ∀ b u, h.get? b = some u → h'.get? b = some u) : HOk P w H h' := fun a o e =>
  (x a o e).stay (fun b u _ q => k b u q) (fun _ q => q) fun _ _ q => q
/-- a new object is laid and tracked -/
theorem HOk.laid (x : HOk P w H h) (k : ∀ b u, h.get? b = some u → h'.get? b = some u) (hp : h.objs.size ≤ a) (new : ObjOk P w (upd H a o) h' a o) : HOk P w (upd H a o) h' := fun b u e => by
  have hn := x.fresh hp
  by_cases hb : b = a
  · subst hb; rw [upd_same] at e; cases e; exact new
  · rw [upd_ne hb] at e
    exact (x b u e).stay (fun c v _ q => k c v q) (fun c q => by rw [upd_ne (ne_of_none q hn)]; exact q) fun c xs q => by rw [upd_ne (ne_of_none q hn)]; exact q
end

/-- what may be read as u: it is u, or a known u -/
def Rd (H : Hp) (a : Addr) (u : HO) : Prop := H a = some u ∨ ∃ o, H a = some (.frz o u)
theorem Rd.ok {P : Program} {w : World} {H : Hp} {h : Heap} {a : Addr} {u : HO} (r : Rd H a u) (x : HOk P w H h) : ObjOk P w H h a u := by
  rcases r with r | ⟨o, r⟩
  · exact x a u r
  · obtain ⟨_, q⟩ := x a _ r
    exact q
/-- what may be written -/
def Mut : Option HO → Prop
  | some (.lst _) => True
  | some (.dK _) => True
  | some (.dT _) => True
  | some (.set _ _) => True
  | some (.ins _ _ _) => True
  | some (.ext _) => True
  | _ => False
section
variable {P : Program} {w : World} {H : Hp} {h h' : Heap} {x e : Addr} {o' : HO}
/-- the object at e is changed: x itself, or the dict of the instance x -/
theorem HOk.write (ok : HOk P w H h) (mu : Mut (H x)) (he : e = x ∨ H e = some (.own x)) (k : ∀ b u, b ≠ e → h.get? b = some u → h'.get? b = some u) (heo : ∃ u, h'.get? e = some u)
    (new : ObjOk P w (upd H x o') h' x o') : HOk P w (upd H x o') h' := fun b u q => by
  have nown : ∀ c y, H c = some (.own y) → c ≠ x := fun c y r z => by subst z; rw [r] at mu; exact mu
  have ntup : ∀ c xs, H c = some (.tup xs) → c ≠ x := fun c xs r z => by subst z; rw [r] at mu; exact mu
  by_cases hb : b = x
  · subst hb; rw [upd_same] at q; cases q; exact new
  · rw [upd_ne hb] at q
    by_cases hbe : b = e
    · have q' : H b = some (.own x) := by
        rcases he with z | z
        · exact absurd (hbe.trans z) hb
        · rw [hbe]; exact z
      rw [q] at q'; cases q'
      obtain ⟨v, hv⟩ := heo
      exact ⟨v, by rw [hbe]; exact hv⟩
    · refine (ok b u q).stay (fun c v hc r => k c v ?_ r) (fun c r => by rw [upd_ne (nown c b r)]; exact r) fun c xs r => by rw [upd_ne (ntup c xs r)]; exact r
      rcases hc with rfl | hc
      · exact hbe
      · rintro rfl
        rcases he with z | z
        · exact nown c b hc z
        · rw [hc] at z; cases z; exact hb rfl
end

/-! ### kept unless tracked; of the frames at fs (the callers') the slots may change (an exception that passes writes there); of the records at ex (iterators) nothing is said -/
structure Un (fs ex : List Addr) (H H' : Hp) (h h' : Heap) : Prop where
  keep : ∀ b o, h.get? b = some o → H b = none → b ∉ fs → b ∉ ex → h'.get? b = some o
  slot : ∀ b o, h.get? b = some o → H b = none → b ∈ fs → b ∉ ex → ∃ sl, h'.get? b = some { o with slots := sl }
  free : ∀ b o, h.get? b = some o → H b = none → b ∉ ex → H' b = none
  there : ∀ b o, h.get? b = some o → b ∉ ex → ∃ o', h'.get? b = some o'
  tups : ∀ b xs, H b = some (.tup xs) → H' b = some (.tup xs)
  frzs : ∀ b o u, H b = some (.frz o u) → H' b = some (.frz o u)
  tbls : ∀ b ps, H b = some (.tbl ps) → ∃ more, H' b = some (.tbl (ps ++ more))
section
variable {fs fs' ex ex' : List Addr} {H H1 H2 : Hp} {h h1 h2 h' : Heap} {a x e : Addr} {o : HO}
theorem Un.any (u : Un fs ex H H1 h h1) {b : Addr} {ob : Obj} (q : h.get? b = some ob) (n : H b = none) (hx : b ∉ ex) : ∃ sl, h1.get? b = some { ob with slots := sl } := by
  by_cases hb : b ∈ fs
  · exact u.slot b ob q n hb hx
  · exact ⟨ob.slots, u.keep b ob q n hb hx⟩
theorem Un.kept (k : ∀ b u, h.get? b = some u → h'.get? b = some u) : Un fs ex H H h h' :=
  ⟨fun b ob q _ _ _ => k b ob q, fun b ob q _ _ _ => ⟨ob.slots, k b ob q⟩, fun _ _ _ n _ => n, fun b ob q _ => ⟨ob, k b ob q⟩, fun _ _ q => q, fun _ _ _ q => q, fun _ ps q => ⟨#[], by rw [q]; simp⟩⟩
theorem Un.refl : Un fs ex H H h h := Un.kept fun _ _ q => q
theorem Un.laid (k : ∀ b u, h.get? b = some u → h'.get? b = some u) (hp : h.objs.size ≤ a) (hn : H a = none) : Un fs ex H (upd H a o) h h' where
  keep := fun b u q _ _ _ => k b u q
  slot := fun b u q _ _ _ => ⟨u.slots, k b u q⟩
  free := fun b u q n _ => by rw [upd_ne (Nat.ne_of_lt (Nat.lt_of_lt_of_le (Heap.lt_size q) hp))]; exact n
  there := fun b u q _ => ⟨u, k b u q⟩
  tups := fun b xs q => by rw [upd_ne (ne_of_none q hn)]; exact q
  frzs := fun b u xs q => by rw [upd_ne (ne_of_none q hn)]; exact q
  tbls := fun b ps q => ⟨#[], by rw [upd_ne (ne_of_none q hn), q]; simp⟩
theorem Un.write (mu : Mut (H x)) (he : e = x ∨ H e = some (.own x)) (k : ∀ b u, b ≠ e → h.get? b = some u → h'.get? b = some u) (heo : ∃ u, h'.get? e = some u) : Un fs ex H (upd H x o) h h' := by
  have hx : ∀ b, H b = none → b ≠ x := fun b n z => by subst z; rw [n] at mu; exact mu
  have hb : ∀ b, H b = none → b ≠ e := fun b n z => by
    subst z
    rcases he with r | r
    · exact hx b n r
    · rw [n] at r; cases r
  have hm : ∀ b u, H b = some u → ¬ Mut (some u) → b ≠ x := fun b u q nm z => by subst z; rw [q] at mu; exact nm mu
  refine ⟨fun b u q n _ _ => k b u (hb b n) q, fun b u q n _ _ => ⟨u.slots, k b u (hb b n) q⟩, fun b u q n _ => by rw [upd_ne (hx b n)]; exact n, fun b u q _ => ?_,
    fun b xs q => by rw [upd_ne (hm b _ q fun z => z)]; exact q, fun b u xs q => by rw [upd_ne (hm b _ q fun z => z)]; exact q, fun b ps q => ⟨#[], by rw [upd_ne (hm b _ q fun z => z), q]; simp⟩⟩
  by_cases hbe : b = e
  · subst hbe; exact heo
  · exact ⟨u, k b u hbe q⟩
end

/-! ### the heap without what is tracked -/
def trk (h : Heap) (H : Hp) : List Addr := (List.range h.objs.size).filter fun a => (H a).isSome
def hidT (h : Heap) (H : Hp) : Heap := PySem.W.hideAll h (trk h H)
theorem hidT_size (h : Heap) (H : Hp) : (hidT h H).objs.size = h.objs.size := PySem.W.hideAll_size _ _
theorem hidT_get {h : Heap} {H : Hp} {b : Addr} {o : Obj} (e : h.get? b = some o) (n : H b = none) : (hidT h H).get? b = some o :=
  PySem.W.hideAll_get _ e fun hm => by
    have q : (H b).isSome = true := (List.mem_filter.mp hm).2
    rw [n] at q; simp at q
theorem of_hidT {h : Heap} {H : Hp} {b : Addr} {o : Obj} (e : (hidT h H).get? b = some o) : h.get? b = some o ∧ H b = none := by
  have e' : h.get? b = some o := PySem.W.of_hideAll (trk h H) e
  refine ⟨e', ?_⟩
  cases q : H b with
  | none => rfl
  | some x =>
    have hm : b ∈ trk h H := List.mem_filter.mpr ⟨List.mem_range.mpr (Heap.lt_size e'), by simp [q]⟩
    have z : (hidT h H).get? b = none := PySem.W.hideAll_none (trk h H) hm
    rw [z] at e; cases e

/-! ### OpenK's ledger, filled with every new object but one -/
end L2

namespace L2
open PySem PySem.Spec PyProof.Rows

/-- the module's facts, over the base: the heap at the law's entry without what is tracked there -/
structure Mod (K : PySem.W.Frag) (mg : Str → Option Value) (base : Heap) : Prop where
  kin : K.In base
  glob : base.Ns mainGlobals mg
  blt : ∃ mb, base.Ns builtinsNs mb ∧ ∀ x : Str, x ≠ "__name__" → mb x = bootBuiltins x
  nolimit : base.NoLimit

/-- the context: a def's body (or a comprehension's block) running. base: fixed through the whole law; s₀, H₀: the entry; outer: the frames whose slots others may change (a def's callers); stack: all frames that run;
   ex: iterators that were made ahead of the entry and are walked here (a comprehension's); fn: the names whose cells were made at the entry (a def: all; a comprehension's block: its own); calm: not within an except suite; pn: pins that every state bears; xe: what is wanted of an exception that leaves the code -/
structure Cx where
  prog : Program
  w : World
  K : PySem.W.Frag
  mg : Str → Option Value
  base : Heap
  A : Around
  N : List Str
  s_0 : Shared
  H_0 : Hp
  env : Env
  outer : List Env
  stack : List Env
  ex : List Addr
  fn : Str → Bool
  calm : Bool
  pn : List (Addr × Obj)
  xe : Value → Shared → Prop
/-- the callers' frames -/
def frs (l : List Env) : List Addr := l.filterMap (·.frame)
abbrev Cx.fs (X : Cx) : List Addr := frs X.outer

def Vis (sc : Scope) (x : Str) : Prop := sc.names.lookup x = some .local ∨ sc.names.lookup x = some .cell ∨ sc.names.lookup x = some .free
def Loc (sc : Scope) (x : Str) : Prop := sc.names.lookup x = some .local ∨ sc.names.lookup x = some .cell
def Look (env : Env) (h : Heap) (m : Str → Option Value) (x : Str) (u : Value) : Prop :=
  (env.kindOf x = some .local ∧ m x = some u) ∨ ((env.kindOf x = some .cell ∨ env.kindOf x = some .free) ∧ ∃ c, env.cells.lookup x = some c ∧ h.IsCell c (some u))

structure Cx.Ok (X : Cx) : Prop where
  mod : Mod X.K X.mg X.base
  kind : X.env.scope.kind = .function
  glob : X.env.globals = mainGlobals
  blt : X.env.builtins = builtinsNs
  above : X.s_0.heap.objs.size ≤ X.env.locals
  inj : ∀ x y c, X.env.cells.lookup x = some c → X.env.cells.lookup y = some c → x = y
  has : ∀ x, (X.env.kindOf x = some .cell ∨ X.env.kindOf x = some .free) → ∃ c, X.env.cells.lookup x = some c
  cab : ∀ x c, X.fn x = true → X.env.cells.lookup x = some c → X.s_0.heap.objs.size ≤ c
  hd : X.calm = true → X.A.handled = none
  frames : X.A.frames = some X.stack
  stk : X.stack = X.outer ∨ (X.stack = X.env :: X.outer ∧ X.env.frame = some X.env.locals)
  exf : ∀ b ∈ X.ex, b ≠ X.env.locals ∧ ∀ x c, X.env.cells.lookup x = some c → c ≠ b
  bs : ∀ b o, X.base.get? b = some o → X.s_0.heap.get? b = some o ∧ X.H_0 b = none
  bsz : X.base.objs.size ≤ X.s_0.heap.objs.size
  noex : ∀ b o, X.base.get? b = some o → b ∉ X.ex
  exfs : ∀ b ∈ X.ex, b ∉ X.fs
  funs : X.s_0.heap.FunFrames X.base X.outer
  frf : ∀ b ∈ X.fs, X.H_0 b = none

structure Inv (X : Cx) (pins : List (Addr × Obj)) (σ : List (Option V)) (H : Hp) (s : Shared) : Prop where
  ok : X.Ok
  os : s.os = X.s_0.os
  bare : AllBare s.gens
  base : Un X.fs X.ex X.H_0 H X.s_0.heap s.heap
  loc : ∃ m, s.heap.Ns X.env.locals m ∧ ∀ (i : Nat) (x : Str) (v : V), X.N[i]? = some x → σ[i]? = some (some v) → Vis X.env.scope x → ∃ u, RelV v u ∧ Look X.env s.heap m x u
  cell : ∀ x c, X.env.cells.lookup x = some c → ∃ v, s.heap.IsCell c v
  free : H X.env.locals = none
  freeC : ∀ x c, X.env.cells.lookup x = some c → H c = none
  pin : ∀ p ∈ X.pn ++ pins, s.heap.get? p.1 = some p.2 ∧ H p.1 = none ∧ p.1 ≠ X.env.locals ∧ p.1 ∉ X.fs ∧ ∀ v, p.2.data ≠ .cell v
  hok : HOk X.prog X.w H s.heap
  len : σ.length = X.N.length

section
variable {X : Cx} {pins : List (Addr × Obj)} {σ : List (Option V)} {H H' : Hp} {s : Shared} {h' : Heap}

theorem Cx.Ok.nofr (ok : X.Ok) {b : Addr} {o : Obj} (e : X.base.get? b = some o) : b ∉ X.fs := fun hb => by
  have := (ok.funs.mem hb).1
  rw [e] at this; cases this
theorem Inv.bs (I : Inv X pins σ H s) : ∀ b o, X.base.get? b = some o → s.heap.get? b = some o ∧ H b = none := fun b o e =>
  ⟨I.base.keep b o (I.ok.bs b o e).1 (I.ok.bs b o e).2 (I.ok.nofr e) (I.ok.noex b o e), I.base.free b o (I.ok.bs b o e).1 (I.ok.bs b o e).2 (I.ok.noex b o e)⟩
theorem Inv.bk (I : Inv X pins σ H s) : ∀ b o, X.base.get? b = some o → s.heap.get? b = some o := fun b o e => (I.bs b o e).1
theorem Inv.mod (I : Inv X pins σ H s) : Mod X.K X.mg X.base := I.ok.mod
theorem Inv.kIn (I : Inv X pins σ H s) : X.K.In s.heap := I.ok.mod.kin.keeps I.bk
theorem Inv.lt (I : Inv X pins σ H s) : X.env.locals < s.heap.objs.size := let ⟨_, hn, _⟩ := I.loc; hn.lt
theorem Inv.sz (I : Inv X pins σ H s) : X.s_0.heap.objs.size ≤ s.heap.objs.size := Nat.le_trans I.ok.above (Nat.le_of_lt I.lt)
theorem Inv.nofs (I : Inv X pins σ H s) {a : Addr} (h : s.heap.objs.size ≤ a) : a ∉ X.fs := fun hb => by
  obtain ⟨_, o, ho, _⟩ := I.ok.funs.mem hb
  exact absurd (Nat.lt_of_lt_of_le (Heap.lt_size ho) (Nat.le_trans I.sz h)) (Nat.lt_irrefl _)
theorem Inv.cne (I : Inv X pins σ H s) : ∀ x c, X.env.cells.lookup x = some c → c ≠ X.env.locals := fun x c e z => by
  obtain ⟨v, o, ho, hd⟩ := I.cell x c e
  obtain ⟨m, ⟨o', es, ep, ho', hd', _⟩, _⟩ := I.loc
  rw [z, ho'] at ho; cases ho; rw [hd'] at hd; cases hd
theorem Inv.funs (I : Inv X pins σ H s) : s.heap.FunFrames X.base X.outer := by
  have all : ∀ (l : List Env), (∀ b ∈ frs l, b ∈ X.fs) → X.s_0.heap.FunFrames X.base l → s.heap.FunFrames X.base l := by
    intro l
    induction l with
    | nil => intro _ _; trivial
    | cons env r ih =>
      intro hs hl
      obtain ⟨hk, ⟨L, o, hf, hn, ho, hd⟩, hr⟩ := hl
      have hL : L ∈ X.fs := hs L (by unfold frs; rw [List.filterMap_cons, hf]; exact List.mem_cons_self)
      obtain ⟨sl, e⟩ := I.base.slot L o ho (I.ok.frf L hL) hL fun z => I.ok.exfs L z hL
      exact ⟨hk, ⟨L, _, hf, hn, e, hd⟩, ih (fun b hb => hs b (by unfold frs; rw [List.filterMap_cons, hf]; exact List.mem_cons_of_mem _ hb)) hr⟩
  exact all X.outer (fun _ hb => hb) I.ok.funs

/-- the frames that run, for a call -/
theorem Inv.stack (I : Inv X pins σ H s) : s.heap.FunFrames X.base X.stack := by
  rcases I.ok.stk with e | ⟨e, hf⟩
  · rw [e]; exact I.funs
  · rw [e]
    obtain ⟨m, hn, _⟩ := I.loc
    refine .cons (by rw [I.ok.kind]; decide) hf hn ?_ I.funs
    exact Heap.get?_none_of_le (Nat.le_trans I.ok.bsz I.ok.above)
theorem Inv.stkSub (I : Inv X pins σ H s) : ∀ b ∈ frs X.stack, b ∈ X.env.locals :: X.fs := fun b hb => by
  rcases I.ok.stk with e | ⟨e, hf⟩
  · rw [e] at hb; exact List.mem_cons_of_mem _ hb
  · rw [e] at hb
    unfold frs at hb
    rw [List.filterMap_cons, hf] at hb
    exact hb
theorem Inv.stkFree (I : Inv X pins σ H s) : ∀ b ∈ frs X.stack, H b = none := fun b hb => by
  rcases List.mem_cons.mp (I.stkSub b hb) with e | hb
  · rw [e]; exact I.free
  · obtain ⟨_, o, ho, _⟩ := I.ok.funs.mem hb
    exact I.base.free b o ho (I.ok.frf b hb) fun z => I.ok.exfs b z hb

/-- THE STEP: the untracked objects but the frame and the records at ch are kept (the callers' frames up to slots), the frame's map is kept, the new abstract heap is held -/
theorem Inv.step {g' : Array GenState} {t' : Nat} {d' : Drawn} {ch : List Addr} (I : Inv X pins σ H s)
    (hch : ∀ b ∈ ch, (b ∈ X.ex ∨ X.s_0.heap.objs.size ≤ b) ∧ b ≠ X.env.locals ∧ (∀ x c, X.env.cells.lookup x = some c → c ≠ b) ∧ ∀ p ∈ X.pn ++ pins, p.1 ≠ b)
    (keep : ∀ b o, b ≠ X.env.locals → b ∉ X.fs → b ∉ ch → s.heap.get? b = some o → H b = none → h'.get? b = some o)
    (slot : ∀ b o, b ≠ X.env.locals → b ∈ X.fs → b ∉ ch → s.heap.get? b = some o → H b = none → ∃ sl, h'.get? b = some { o with slots := sl }) (free : ∀ b o, b ∉ ch → s.heap.get? b = some o → H b = none → H' b = none)
    (there : ∀ b o, b ∉ ch → s.heap.get? b = some o → ∃ o', h'.get? b = some o')
    (tups : ∀ b xs, H b = some (.tup xs) → H' b = some (.tup xs)) (frzs : ∀ b o u, H b = some (.frz o u) → H' b = some (.frz o u)) (tbls : ∀ b ps, H b = some (.tbl ps) → ∃ more, H' b = some (.tbl (ps ++ more)))
    (ns : ∀ m, s.heap.Ns X.env.locals m → h'.Ns X.env.locals m) (hok : HOk X.prog X.w H' h') (hg : AllBare g') :
    Inv X pins σ H' { s with heap := h', gens := g', drawn := d', toks := t' } := by
  have neL : ∀ b o, X.s_0.heap.get? b = some o → b ≠ X.env.locals := fun b o e => Nat.ne_of_lt (Nat.lt_of_lt_of_le (Heap.lt_size e) I.ok.above)
  have neC : ∀ b o, X.s_0.heap.get? b = some o → b ∉ X.ex → b ∉ ch := fun b o e hx hb => by
    rcases (hch b hb).1 with z | z
    · exact hx z
    · exact absurd (Nat.lt_of_lt_of_le (Heap.lt_size e) z) (Nat.lt_irrefl _)
  have cellK : ∀ x c, X.env.cells.lookup x = some c → ∀ v, s.heap.IsCell c v → h'.IsCell c v := fun x c e v ⟨o, ho, hd⟩ => by
    have nch : c ∉ ch := fun z => (hch c z).2.2.1 x c e rfl
    by_cases hc : c ∈ X.fs
    · obtain ⟨sl, q⟩ := slot c o (I.cne x c e) hc nch ho (I.freeC x c e)
      exact ⟨_, q, hd⟩
    · exact ⟨o, keep c o (I.cne x c e) hc nch ho (I.freeC x c e), hd⟩
  refine ⟨I.ok, I.os, hg, ⟨fun b o e n hb hx => ?_, fun b o e n hb hx => ?_, fun b o e n hx => ?_, fun b o e hx => ?_, fun b xs e => tups b xs (I.base.tups b xs e), fun b o xs e => frzs b o xs (I.base.frzs b o xs e), fun b ps e => ?_⟩, ?_, fun x c e => ?_, ?_, fun x c e => ?_, fun p hp => ?_, hok, I.len⟩
  · exact keep b o (neL b o e) hb (neC b o e hx) (I.base.keep b o e n hb hx) (I.base.free b o e n hx)
  · obtain ⟨sl, e1⟩ := I.base.slot b o e n hb hx
    obtain ⟨sl', e2⟩ := slot b _ (neL b o e) hb (neC b o e hx) e1 (I.base.free b o e n hx)
    exact ⟨sl', e2⟩
  · obtain ⟨o', e1⟩ := I.base.there b o e hx
    exact free b o' (neC b o e hx) e1 (I.base.free b o e n hx)
  · obtain ⟨o', e1⟩ := I.base.there b o e hx
    exact there b o' (neC b o e hx) e1
  · obtain ⟨m1, e1⟩ := I.base.tbls b ps e
    obtain ⟨m2, e2⟩ := tbls b _ e1
    exact ⟨m1 ++ m2, by rw [e2, Array.append_assoc]⟩
  · obtain ⟨m, hn, hl⟩ := I.loc
    refine ⟨m, ns m hn, fun i x v e1 e2 e3 => ?_⟩
    obtain ⟨u, r, l⟩ := hl i x v e1 e2 e3
    refine ⟨u, r, ?_⟩
    rcases l with l | ⟨k, c, e, z⟩
    · exact .inl l
    · exact .inr ⟨k, c, e, cellK x c e _ z⟩
  · obtain ⟨v, z⟩ := I.cell x c e
    exact ⟨v, cellK x c e v z⟩
  · obtain ⟨m, ⟨o, _, _, ho, _⟩, _⟩ := I.loc
    exact free _ o (fun z => (hch _ z).2.1 rfl) ho I.free
  · obtain ⟨v, o, ho, hd⟩ := I.cell x c e
    exact free c o (fun z => (hch c z).2.2.1 x c e rfl) ho (I.freeC x c e)
  · obtain ⟨e, n, ne, nf, d⟩ := I.pin p hp
    have nch : p.1 ∉ ch := fun z => (hch p.1 z).2.2.2 p hp rfl
    exact ⟨keep p.1 p.2 ne nf nch e n, free p.1 p.2 nch e n, ne, nf, d⟩
/-- .. where the frame's own object is kept too -/
theorem Inv.un {t' : Nat} (I : Inv X pins σ H s) (u : Un X.fs [] H H' s.heap h') (hok : HOk X.prog X.w H' h') : Inv X pins σ H' { s with heap := h', toks := t' } := by
  obtain ⟨m, ⟨o, es, ep, ho, r⟩, _⟩ := id I.loc
  obtain ⟨sl, hL⟩ := u.any ho I.free (by simp)
  exact I.step (g' := s.gens) (d' := s.drawn) (ch := []) (fun _ z => nomatch z) (fun b o _ hb _ e n => u.keep b o e n hb (by simp)) (fun b o _ hb _ e n => u.slot b o e n hb (by simp)) (fun b o _ e n => u.free b o e n (by simp)) (fun b o _ e => u.there b o e (by simp)) u.tups u.frzs u.tbls (fun m' hm => by
    obtain ⟨o', es', ep', ho', r'⟩ := hm
    rw [ho] at ho'; cases ho'
    exact ⟨_, es', ep', hL, r'⟩) hok I.bare
/-- behind a call (or a comprehension's block): the slots of this frame may have changed too, the records at ch may have turned -/
theorem Inv.call {g' : Array GenState} {t' : Nat} {d' : Drawn} {ch : List Addr} (I : Inv X pins σ H s) (u : Un (frs X.stack) ch H H' s.heap h') (hok : HOk X.prog X.w H' h') (hg : AllBare g')
    (hch : ∀ b ∈ ch, (b ∈ X.ex ∨ X.s_0.heap.objs.size ≤ b) ∧ b ≠ X.env.locals ∧ (∀ x c, X.env.cells.lookup x = some c → c ≠ b) ∧ ∀ p ∈ X.pn ++ pins, p.1 ≠ b) :
    Inv X pins σ H' { s with heap := h', gens := g', drawn := d', toks := t' } := by
  obtain ⟨m, ⟨o, es, ep, ho, r⟩, _⟩ := id I.loc
  obtain ⟨sl, hL⟩ := u.any ho I.free fun z => (hch _ z).2.1 rfl
  exact I.step (ch := ch) hch (fun b o hL hb hc e n => u.keep b o e n (fun z => (List.mem_cons.mp (I.stkSub b z)).elim hL hb) hc) (fun b o _ _ hc e n => u.any e n hc) (fun b o hc e n => u.free b o e n hc) (fun b o hc e => u.there b o e hc) u.tups u.frzs u.tbls (fun m' hm => by
    obtain ⟨o', es', ep', ho', r'⟩ := hm
    rw [ho] at ho'; cases ho'
    exact ⟨_, es', ep', hL, r'⟩) hok hg
/-- an untracked record of ours (an iterator) has turned -/
theorem Inv.turned {t' : Nat} {it : Addr} (I : Inv X pins σ H s) (k : ∀ b o, b ≠ it → s.heap.get? b = some o → h'.get? b = some o) (hn : H it = none) (hL : it ≠ X.env.locals)
    (h1 : it ∈ X.ex ∨ X.s_0.heap.objs.size ≤ it) (h2 : ∀ x c, X.env.cells.lookup x = some c → c ≠ it) (h3 : ∀ p ∈ X.pn ++ pins, p.1 ≠ it) : Inv X pins σ H { s with heap := h', toks := t' } := by
  have nit : ∀ b u, H b = some u → b ≠ it := fun b u e z => by rw [z, hn] at e; cases e
  refine I.step (g' := s.gens) (d' := s.drawn) (ch := [it]) (fun b hb => ?_) (fun b o _ _ hc e _ => k b o (fun z => hc (by simp [z])) e) (fun b o _ _ hc e _ => ⟨o.slots, k b o (fun z => hc (by simp [z])) e⟩) (fun _ _ _ _ n => n)
    (fun b o hc e => ⟨o, k b o (fun z => hc (by simp [z])) e⟩) (fun _ _ e => e) (fun _ _ _ e => e) (fun b ps e => ⟨#[], by rw [e]; simp⟩) (fun m hm => ?_) (fun b u e => ?_) I.bare
  · have e : b = it := by simpa using hb
    subst e
    exact ⟨h1, hL, h2, h3⟩
  · obtain ⟨o, es, ep, ho, r⟩ := hm
    exact ⟨o, es, ep, k _ o (Ne.symm hL) ho, r⟩
  · refine (I.hok b u e).stay (fun c v hc q => k c v ?_ q) (fun _ q => q) fun _ _ q => q
    rcases hc with z | z
    · rw [z]; exact nit b u e
    · exact nit c _ z
theorem Inv.tok (I : Inv X pins σ H s) (t : Nat) : Inv X pins σ H { s with toks := t } := I.un (h' := s.heap) (t' := t) Un.refl I.hok
/-- all objects kept -/
theorem Inv.kept {t' : Nat} (I : Inv X pins σ H s) (k : ∀ b u, s.heap.get? b = some u → h'.get? b = some u) : Inv X pins σ H { s with heap := h', toks := t' } := I.un (Un.kept k) (I.hok.kept k)
/-- a new object laid and tracked -/
theorem Inv.laid {a : Addr} {o : HO} {t' : Nat} (I : Inv X pins σ H s) (k : ∀ b u, s.heap.get? b = some u → h'.get? b = some u) (hp : s.heap.objs.size ≤ a) (new : ObjOk X.prog X.w (upd H a o) h' a o) :
    Inv X pins σ (upd H a o) { s with heap := h', toks := t' } := I.un (Un.laid k hp (I.hok.fresh hp)) (I.hok.laid k hp new)
/-- an object written -/
theorem Inv.write {x e : Addr} {o : HO} {t' : Nat} (I : Inv X pins σ H s) (mu : Mut (H x)) (he : e = x ∨ H e = some (.own x)) (k : ∀ b u, b ≠ e → s.heap.get? b = some u → h'.get? b = some u) (heo : ∃ u, h'.get? e = some u)
    (new : ObjOk X.prog X.w (upd H x o) h' x o) : Inv X pins σ (upd H x o) { s with heap := h', toks := t' } := I.un (Un.write mu he k heo) (I.hok.write mu he k heo new)
/-- forgetting slots, pins -/
theorem Inv.weak {σ' : List (Option V)} (I : Inv X pins σ H s) (hl : σ'.length = σ.length) (w : ∀ (i : Nat) v, σ'[i]? = some (some v) → σ[i]? = some (some v)) : Inv X pins σ' H s :=
  ⟨I.ok, I.os, I.bare, I.base, let ⟨m, hn, hl'⟩ := I.loc; ⟨m, hn, fun i x v e1 e2 e3 => hl' i x v e1 (w i v e2) e3⟩, I.cell, I.free, I.freeC, I.pin, I.hok, hl.trans I.len⟩
theorem Inv.pins_of {pins' : List (Addr × Obj)} (I : Inv X pins σ H s) (h : ∀ p ∈ pins', s.heap.get? p.1 = some p.2 ∧ H p.1 = none ∧ p.1 ≠ X.env.locals ∧ p.1 ∉ X.fs ∧ ∀ v, p.2.data ≠ .cell v) : Inv X pins' σ H s :=
  ⟨I.ok, I.os, I.bare, I.base, I.loc, I.cell, I.free, I.freeC, fun p hp => (List.mem_append.mp hp).elim (fun z => I.pin p (List.mem_append_left _ z)) (h p), I.hok, I.len⟩

theorem nodup_ix {N : List Str} (hN : N.Nodup) {i j : Nat} {x : Str} (a : N[i]? = some x) (b : N[j]? = some x) : i = j := by
  obtain ⟨h1, e1⟩ := List.getElem?_eq_some_iff.mp a
  obtain ⟨h2, e2⟩ := List.getElem?_eq_some_iff.mp b
  exact (List.getElem_inj hN).mp (e1.trans e2.symm)

/-- a name is stored; what changed -/
theorem store_ok2 {M : Model} {A : Around} {E : Value → Shared → Prop} {i : Nat} {x : Str} {v : V} {u : Value} {Q : Unit → Shared → Prop} (I : Inv X pins σ H s) (hN : X.N.Nodup) (hi : X.N[i]? = some x) (hx : Loc X.env.scope x) (r : RelV v u)
    (h : ∀ s', Inv X pins (σ.set i (some v)) H s' → (∃ a, Heap.SameBut a s.heap s'.heap ∧ (a = X.env.locals ∨ X.env.cells.lookup x = some a)) → Q () s') (hf : X.fn x = true ∨ X.env.scope.names.lookup x = some .local := by first | exact .inl rfl | exact .inr rfl | assumption) : wpAny M A (storeName X.env x u) Q E s := by
  obtain ⟨m, hn, hl⟩ := id I.loc
  have hcls : (X.env.scope.kind == .class || (X.env.scope.kind == .module && X.env.locals != X.env.globals)) = false := by rw [I.ok.kind]; rfl
  have hiσ : i < σ.length := by rw [I.len]; exact (List.getElem?_eq_some_iff.mp hi).1
  have cne := I.cne
  have tracked : ∀ {a : Addr} {h' : Heap}, (∃ o, s.heap.get? a = some o ∧ H a = none) → Heap.SameBut a s.heap h' → HOk X.prog X.w H h' := fun {a h'} ha hs b ob e => by
    obtain ⟨_, _, hfree⟩ := ha
    refine (I.hok b ob e).stay (fun c w' hc q => (hs.2 c ?_).trans q) (fun _ q => q) fun _ _ q => q
    rintro rfl
    rcases hc with rfl | hc
    · rw [hfree] at e; cases e
    · rw [hfree] at hc; cases hc
  rcases hx with hk | hk
  · refine wpAny_storeName_local hk hn (fun h' hn' hs => ?_) hcls
    obtain ⟨oL, _, _, hoL, _⟩ := id hn
    refine h _ ⟨I.ok, I.os, I.bare, ⟨fun b o e n hb hx => ?_, fun b o e n hb hx => ?_, I.base.free, fun b o e hx => ?_, I.base.tups, I.base.frzs, I.base.tbls⟩, ⟨_, hn', fun j y v' e1 e2 e3 => ?_⟩, fun y c e => ?_, I.free, I.freeC, fun p hp => ?_, tracked ⟨oL, hoL, I.free⟩ hs, by simpa using I.len⟩ ⟨_, hs, .inl rfl⟩
    · exact (hs.2 b (Nat.ne_of_lt (Nat.lt_of_lt_of_le (Heap.lt_size e) I.ok.above))).trans (I.base.keep b o e n hb hx)
    · obtain ⟨sl, e1⟩ := I.base.slot b o e n hb hx
      exact ⟨sl, (hs.2 b (Nat.ne_of_lt (Nat.lt_of_lt_of_le (Heap.lt_size e) I.ok.above))).trans e1⟩
    · obtain ⟨o', e1⟩ := I.base.there b o e hx
      exact ⟨o', (hs.2 b (Nat.ne_of_lt (Nat.lt_of_lt_of_le (Heap.lt_size e) I.ok.above))).trans e1⟩
    · by_cases hj : j = i
      · subst hj
        rw [hi] at e1; cases e1
        rw [List.getElem?_set_self hiσ] at e2
        cases e2
        exact ⟨u, r, .inl ⟨hk, by simp⟩⟩
      · rw [List.getElem?_set_ne (Ne.symm hj)] at e2
        obtain ⟨u', r', q⟩ := hl j y v' e1 e2 e3
        refine ⟨u', r', ?_⟩
        rcases q with ⟨k, e⟩ | ⟨k, c, e, z⟩
        · refine .inl ⟨k, ?_⟩
          have : y ≠ x := fun e => hj (nodup_ix hN e1 (e ▸ hi))
          simp [this, e]
        · exact .inr ⟨k, c, e, z.sameBut hs (cne y c e)⟩
    · obtain ⟨w', z⟩ := I.cell y c e
      exact ⟨w', z.sameBut hs (cne y c e)⟩
    · obtain ⟨e, n, ne, nf, d⟩ := I.pin p hp
      exact ⟨(hs.2 p.1 ne).trans e, n, ne, nf, d⟩
  · have hfn : X.fn x = true := by
      rcases hf with z | z
      · exact z
      · rw [z] at hk; cases hk
    obtain ⟨c, hc⟩ := I.ok.has x (.inl hk)
    obtain ⟨w', z⟩ := I.cell x c hc
    refine wpAny_storeName_cell I.ok.kind hk hc z (fun h' hc' hs => ?_)
    obtain ⟨oc, hoc, hocd⟩ := id z
    refine h { s with heap := h' } ⟨I.ok, I.os, I.bare, ⟨fun b o e n hb hx => ?_, fun b o e n hb hx => ?_, I.base.free, fun b o e hx => ?_, I.base.tups, I.base.frzs, I.base.tbls⟩, ⟨m, hn.sameBut hs (Ne.symm (cne x c hc)), fun j y v' e1 e2 e3 => ?_⟩, fun y c' e => ?_, I.free, I.freeC, fun p hp => ?_, tracked ⟨oc, hoc, I.freeC x c hc⟩ hs, by simpa using I.len⟩ ⟨c, hs, .inr hc⟩
    · exact (hs.2 b (Nat.ne_of_lt (Nat.lt_of_lt_of_le (Heap.lt_size e) (I.ok.cab x c hfn hc)))).trans (I.base.keep b o e n hb hx)
    · obtain ⟨sl, e1⟩ := I.base.slot b o e n hb hx
      exact ⟨sl, (hs.2 b (Nat.ne_of_lt (Nat.lt_of_lt_of_le (Heap.lt_size e) (I.ok.cab x c hfn hc)))).trans e1⟩
    · obtain ⟨o', e1⟩ := I.base.there b o e hx
      exact ⟨o', (hs.2 b (Nat.ne_of_lt (Nat.lt_of_lt_of_le (Heap.lt_size e) (I.ok.cab x c hfn hc)))).trans e1⟩
    · by_cases hj : j = i
      · subst hj
        rw [hi] at e1; cases e1
        rw [List.getElem?_set_self hiσ] at e2
        cases e2
        exact ⟨u, r, .inr ⟨.inl hk, c, hc, hc'⟩⟩
      · rw [List.getElem?_set_ne (Ne.symm hj)] at e2
        obtain ⟨u', r', q⟩ := hl j y v' e1 e2 e3
        refine ⟨u', r', ?_⟩
        rcases q with q | ⟨k, c', e, z'⟩
        · exact .inl q
        · refine .inr ⟨k, c', e, z'.sameBut hs ?_⟩
          rintro rfl
          exact hj (nodup_ix hN e1 (I.ok.inj _ _ _ e hc ▸ hi))
    · by_cases hcc : c' = c
      · subst hcc; exact ⟨_, hc'⟩
      · obtain ⟨w2, z2⟩ := I.cell y c' e
        exact ⟨w2, z2.sameBut hs hcc⟩
    · obtain ⟨e, n, ne, nf, d⟩ := I.pin p hp
      refine ⟨(hs.2 p.1 ?_).trans e, n, ne, nf, d⟩
      intro q
      rw [q, hoc] at e
      have q' : oc = p.2 := Option.some.inj e
      exact d w' (by rw [← q']; exact hocd)
theorem store_ok {M : Model} {A : Around} {E : Value → Shared → Prop} {i : Nat} {x : Str} {v : V} {u : Value} {Q : Unit → Shared → Prop} (I : Inv X pins σ H s) (hN : X.N.Nodup) (hi : X.N[i]? = some x) (hx : Loc X.env.scope x) (r : RelV v u)
    (h : ∀ s', Inv X pins (σ.set i (some v)) H s' → Q () s') (hf : X.fn x = true ∨ X.env.scope.names.lookup x = some .local := by first | exact .inl rfl | exact .inr rfl | assumption) : wpAny M A (storeName X.env x u) Q E s :=
  store_ok2 I hN hi hx r (fun s' I' _ => h s' I') hf
/-- behind a call or a block, the state as it is -/
theorem Inv.call' {s' : Shared} {ch : List Addr} (I : Inv X pins σ H s) (ho : s'.os = s.os) (u : Un (frs X.stack) ch H H' s.heap s'.heap) (hok : HOk X.prog X.w H' s'.heap) (hg : AllBare s'.gens)
    (hch : ∀ b ∈ ch, (b ∈ X.ex ∨ X.s_0.heap.objs.size ≤ b) ∧ b ≠ X.env.locals ∧ (∀ x c, X.env.cells.lookup x = some c → c ≠ b) ∧ ∀ p ∈ X.pn ++ pins, p.1 ≠ b) : Inv X pins σ H' s' := by
  obtain ⟨h', g', d', t', o'⟩ := s'
  have e : o' = s.os := ho
  subst e
  exact I.call (g' := g') (t' := t') (d' := d') u hok hg hch
end

/-! ### the judgements -/
/-- an exception: its class, its own dict's address (where it has one), the abstract heap behind it -/
abbrev XK := Value → Option Addr → Hp → Prop
abbrev St := List (Option V)
abbrev VK := V → Hp → Prop
/-- an expression's reading; a test's; an argument list's -/
abbrev TE := St → Hp → VK → Prop
abbrev TT := St → Hp → (Bool → Hp → Prop) → Prop
abbrev TA := St → Hp → (List V → Hp → Prop) → Prop
/-- what is wanted behind a statement -/
structure Ends where
  nx : St → Hp → Prop
  rt : VK
  bk : St → Hp → Prop := fun _ _ => False
  ct : St → Hp → Prop := fun _ _ => False
abbrev TS := Ends → St → Hp → Prop

def EP (X : Cx) (pins : List (Addr × Obj)) (σ : St) (Q : VK) (u : Value) (s' : Shared) : Prop := ∃ v H', Inv X pins σ H' s' ∧ RelV v u ∧ Q v H'
def TP (X : Cx) (pins : List (Addr × Obj)) (σ : St) (Q : Bool → Hp → Prop) (b : Bool) (s' : Shared) : Prop := ∃ H', Inv X pins σ H' s' ∧ Q b H'
def AP (X : Cx) (pins : List (Addr × Obj)) (σ : St) (Q : List V → Hp → Prop) (us : List Value) (s' : Shared) : Prop := ∃ vs H', Inv X pins σ H' s' ∧ Vals vs us ∧ Q vs H'
def SP (X : Cx) (pins : List (Addr × Obj)) (D : Ends) (f : Flow) (s' : Shared) : Prop :=
  match f with
  | .next => ∃ σ' H', Inv X pins σ' H' s' ∧ D.nx σ' H'
  | .brk => ∃ σ' H', Inv X pins σ' H' s' ∧ D.bk σ' H'
  | .cont => ∃ σ' H', Inv X pins σ' H' s' ∧ D.ct σ' H'
  | .ret u => ∃ v σ' H', Inv X pins σ' H' s' ∧ RelV v u ∧ D.rt v H'

def PE (X : Cx) (e : Expr) (t : TE) : Prop :=
  ∀ (pins : List (Addr × Obj)) (s : Shared) (σ : St) (H : Hp) (Q : VK), Inv X pins σ H s → t σ H Q → wpAny (model X.prog X.w) X.A (eval e X.env) (EP X pins σ Q) X.xe s
def PT (X : Cx) (e : Expr) (t : TT) : Prop :=
  ∀ (pins : List (Addr × Obj)) (s : Shared) (σ : St) (H : Hp) (Q : Bool → Hp → Prop), Inv X pins σ H s → t σ H Q → wpAny (model X.prog X.w) X.A (isTrue e X.env (eval e X.env)) (TP X pins σ Q) X.xe s
/-- a test whatever its 'whole' is (and, or) -/
def PW (X : Cx) (e : Expr) (t : TT) : Prop :=
  ∀ (whole : Sem Value) (pins : List (Addr × Obj)) (s : Shared) (σ : St) (H : Hp) (Q : Bool → Hp → Prop), Inv X pins σ H s → t σ H Q → wpAny (model X.prog X.w) X.A (isTrue e X.env whole) (TP X pins σ Q) X.xe s
theorem PW.pt {X : Cx} {e : Expr} {t : TT} (h : PW X e t) : PT X e t := h _
/-- an argument list (no star), from the left -/
def PA (X : Cx) (es : List Expr) (t : TA) : Prop :=
  ∀ (pos : Pos) (pins : List (Addr × Obj)) (s : Shared) (σ : St) (H : Hp) (Q : List V → Hp → Prop), Inv X pins σ H s → t σ H Q → wpAny (model X.prog X.w) X.A (spliced (backTo pos (starEach es X.env))) (AP X pins σ Q) X.xe s
def PS (X : Cx) (st : Stmt) (t : TS) : Prop :=
  ∀ (pins : List (Addr × Obj)) (s : Shared) (σ : St) (H : Hp) (D : Ends), Inv X pins σ H s → t D σ H → wpAny (model X.prog X.w) X.A (exec st X.env) (SP X pins D) X.xe s
def PSs (X : Cx) (st : List Stmt) (t : TS) : Prop :=
  ∀ (pins : List (Addr × Obj)) (s : Shared) (σ : St) (H : Hp) (D : Ends), Inv X pins σ H s → t D σ H → wpAny (model X.prog X.w) X.A (execs st X.env) (SP X pins D) X.xe s
/-- weaken the end -/
theorem thn {α : Type} {t : Sem α} {Q Q' : α → Shared → Prop} {M : Model} {A : Around} {E : Value → Shared → Prop} {s : Shared} (h : wpAny M A t Q E s) (hQ : ∀ a s, Q a s → Q' a s) : wpAny M A t Q' E s := wpAny_mono h hQ fun _ _ x => x
end L2

namespace L2
open PySem PySem.Spec PyProof.Rows
section
variable {X : Cx}

/-- two expressions in a row -/
theorem bin {a b : Expr} {ta tb : TE} (ha : PE X a ta) (hb : PE X b tb) {pins : List (Addr × Obj)} {s : Shared} {σ : St} {H : Hp} {R : V → V → Hp → Prop} (I : Inv X pins σ H s) (h : ta σ H fun x H1 => tb σ H1 fun y H2 => R x y H2)
    {α : Type} {Q : α → Shared → Prop} {f : Value → Value → Sem α}
    (hf : ∀ v u s2 x y H2, Inv X pins σ H2 s2 → RelV x v → RelV y u → R x y H2 → wpAny (model X.prog X.w) X.A (f v u) Q X.xe s2) :
    wpAny (model X.prog X.w) X.A (eval a X.env) (fun v s₁ => wpAny (model X.prog X.w) X.A (eval b X.env) (fun u s₂ => wpAny (model X.prog X.w) X.A (f v u) Q X.xe s₂) X.xe s₁) X.xe s := by
  refine thn (ha pins s σ H _ I h) fun v s1 ⟨x, H1, I1, r1, q1⟩ => ?_
  refine thn (hb pins s1 σ H1 _ I1 q1) fun u s2 ⟨y, H2, I2, r2, q2⟩ => ?_
  exact hf v u s2 x y H2 I2 r1 r2 q2

/-! ### names and constants -/
def tVar (i : Nat) : TE := fun σ H Q => ∃ v, σ[i]? = some (some v) ∧ Q v H
def tC (v : V) : TE := fun _ H Q => Q v H
theorem pe_var {i : Nat} {x : Str} {pos : Pos} (hN : X.N[i]? = some x) (hv : Vis X.env.scope x) (hd : (x == ("__debug__" : Str)) = false := by decide) (hcd : (x == ("__classdict__" : Str)) = false := by decide) : PE X (.Name x pos) (tVar i) := by
  intro pins s σ H Q I h
  obtain ⟨v, e, h⟩ := h
  obtain ⟨m, hn, hl⟩ := I.loc
  obtain ⟨u, r, l⟩ := hl i x v hN e hv
  have fin : EP X pins σ Q u s := ⟨v, H, I, r, h⟩
  rcases l with ⟨hk, hm⟩ | ⟨hk, c, hc, hcell⟩
  · exact wpAny_Name (wpAny_loadName_local I.ok.kind hk hn hm fin) hd
  · rcases hk with hk | hk
    · exact wpAny_Name (wpAny_loadName_cell I.ok.kind hk hc hcell fin) hd
    · exact wpAny_Name (wpAny_loadName_free I.ok.kind hk hc hcell fin hcd) hd
theorem pe_int {i j pos} : PE X (.Constant (.int i) j pos) (tC (.int i)) := fun _ _ _ H _ I h => wpAny_Constant_int ⟨.int i, H, I.tok _, ⟨_, rfl⟩, h⟩
theorem pe_bl {b j pos} : PE X (.Constant (.bool b) j pos) (tC (.bl b)) := fun _ _ _ H _ I h => Constant_bool ⟨.bl b, H, I, rfl, h⟩
theorem pe_non {j pos} : PE X (.Constant .none j pos) (tC .non) := fun _ _ _ H _ I h => Constant_none ⟨.non, H, I, rfl, h⟩
/-- a global name of the def -/
def Gl (X : Cx) (x : Str) : Prop := X.env.kindOf x = some .globalImplicit
theorem ld_glob {E : Value → Shared → Prop} {pins : List (Addr × Obj)} {s : Shared} {σ : St} {H : Hp} {x : Str} {u : Value} {pos : Pos} {Q : Value → Shared → Prop} (I : Inv X pins σ H s) (hg : Gl X x) (hm : X.mg x = some u) (h : Q u s)
    (hd : (x == ("__debug__" : Str)) = false := by decide) : wpAny (model X.prog X.w) X.A (eval (.Name x pos) X.env) Q E s :=
  Calls.Name_function_global I.ok.kind hg (Calls.loadGlobal_global (by rw [I.ok.glob]; exact I.mod.glob.keeps I.bk) hm h) hd
theorem ld_blt {E : Value → Shared → Prop} {pins : List (Addr × Obj)} {s : Shared} {σ : St} {H : Hp} {x : Str} {u : Value} {pos : Pos} {Q : Value → Shared → Prop} (I : Inv X pins σ H s) (hg : Gl X x) (hm : X.mg x = none) (hv : bootBuiltins x = some u) (h : Q u s)
    (hn : x ≠ "__name__" := by decide) (hd : (x == ("__debug__" : Str)) = false := by decide) : wpAny (model X.prog X.w) X.A (eval (.Name x pos) X.env) Q E s := by
  obtain ⟨mb, h1, h2⟩ := I.mod.blt
  exact Calls.Name_function_global I.ok.kind hg (Calls.loadGlobal_builtin (by rw [I.ok.glob]; exact I.mod.glob.keeps I.bk) hm (by rw [I.ok.blt]; exact h1.keeps I.bk) ((h2 x hn).trans hv) h) hd
/-- a module's constant, a class, a function, as a value -/
theorem pe_glob {x : Str} {v : V} {u : Value} {pos : Pos} (hg : Gl X x) (hm : X.mg x = some u) (r : RelV v u) (hd : (x == ("__debug__" : Str)) = false := by decide) : PE X (.Name x pos) (tC v) :=
  fun _ _ _ H _ I h => ld_glob I hg hm ⟨v, H, I, r, h⟩ hd
/-! ### arithmetic -/
/-- two ints -/
def t2I (ta tb : TE) (k : Int → Int → Hp → Prop) : St → Hp → Prop := fun σ H => ta σ H fun x H1 => tb σ H1 fun y H2 => ∃ i j, x = .int i ∧ y = .int j ∧ k i j H2
def tAdd (ta tb : TE) : TE := fun σ H Q => t2I ta tb (fun i j H2 => Q (.int (i + j)) H2) σ H
def tSub (ta tb : TE) : TE := fun σ H Q => t2I ta tb (fun i j H2 => Q (.int (i - j)) H2) σ H
variable {a b : Expr} {ta tb : TE} {pos : Pos}
theorem pe_add (ha : PE X a ta) (hb : PE X b tb) : PE X (.BinOp a .Add b pos) (tAdd ta tb) := by
  intro pins s σ H Q I h
  refine wpAny_BinOp (bin ha hb I h fun v u s2 x y H2 I2 rx ry q => ?_)
  obtain ⟨i, j, rfl, rfl, q⟩ := q
  obtain ⟨t, rfl⟩ := rx
  obtain ⟨t', rfl⟩ := ry
  exact add_int ⟨.int _, H2, I2.tok _, ⟨_, rfl⟩, q⟩
theorem pe_sub (ha : PE X a ta) (hb : PE X b tb) : PE X (.BinOp a .Sub b pos) (tSub ta tb) := by
  intro pins s σ H Q I h
  refine wpAny_BinOp (bin ha hb I h fun v u s2 x y H2 I2 rx ry q => ?_)
  obtain ⟨i, j, rfl, rfl, q⟩ := q
  obtain ⟨t, rfl⟩ := rx
  obtain ⟨t', rfl⟩ := ry
  exact sub_int ⟨.int _, H2, I2.tok _, ⟨_, rfl⟩, q⟩
/-! ### comparisons -/
def PC (X : Cx) (op : CmpOp) (a b : Expr) (t : TE) : Prop :=
  ∀ (pins : List (Addr × Obj)) (s : Shared) (σ : St) (H : Hp) (Q : VK), Inv X pins σ H s → t σ H Q →
    wpAny (model X.prog X.w) X.A (eval a X.env) (fun v s₁ => wpAny (model X.prog X.w) X.A (eval b X.env) (fun u s₂ => wpAny (model X.prog X.w) X.A (compareOp op v u) (EP X pins σ Q) X.xe s₂) X.xe s₁) X.xe s
theorem nobehind (b : Expr) {op : CmpOp} (h : op ≠ .In) (h2 : op ≠ .NotIn) : behindInMarks op b = false := by
  have e1 : (op == CmpOp.In) = false := by cases op <;> first | rfl | exact absurd rfl h
  have e2 : (op == CmpOp.NotIn) = false := by cases op <;> first | rfl | exact absurd rfl h2
  cases b <;> simp [behindInMarks, e1, e2]
def tCmp (p : Int → Int → Bool) (ta tb : TE) : TE := fun σ H Q => t2I ta tb (fun i j H2 => Q (.bl (p i j)) H2) σ H
abbrev tLt : TE → TE → TE := tCmp fun i j => decide (i < j)
abbrev tGt : TE → TE → TE := tCmp fun i j => decide (j < i)
abbrev tGe : TE → TE → TE := tCmp fun i j => decide (j ≤ i)
abbrev tEqI : TE → TE → TE := tCmp fun i j => decide (i = j)
abbrev tNeI : TE → TE → TE := tCmp fun i j => !decide (i = j)
/-- a comparison of two ints, by its rule -/
theorem pc_int {op : CmpOp} {p : Int → Int → Bool} (ha : PE X a ta) (hb : PE X b tb)
    (rule : ∀ (i j : Int) (t u : Tok) (Q : Value → Shared → Prop) (s : Shared), Q (.bool (p i j)) s → wpAny (model X.prog X.w) X.A (compareOp op (.int i t) (.int j u)) Q X.xe s) : PC X op a b (tCmp p ta tb) := by
  intro pins s σ H Q I h
  refine bin ha hb I h fun v u s2 x y H2 I2 rx ry q => ?_
  obtain ⟨i, j, rfl, rfl, q⟩ := q
  obtain ⟨t, rfl⟩ := rx
  obtain ⟨t', rfl⟩ := ry
  exact rule i j t t' _ s2 ⟨.bl _, H2, I2, rfl, q⟩
theorem pc_lt (ha : PE X a ta) (hb : PE X b tb) : PC X .Lt a b (tLt ta tb) := pc_int ha hb fun _ _ _ _ _ _ h => lt_int h
theorem pc_gt (ha : PE X a ta) (hb : PE X b tb) : PC X .Gt a b (tGt ta tb) := pc_int ha hb fun _ _ _ _ _ _ h => gt_int h
theorem pc_ge (ha : PE X a ta) (hb : PE X b tb) : PC X .GtE a b (tGe ta tb) := pc_int ha hb fun _ _ _ _ _ _ h => ge_int h
theorem pc_eqI (ha : PE X a ta) (hb : PE X b tb) : PC X .Eq a b (tEqI ta tb) := pc_int ha hb fun _ _ _ _ _ _ h => eq_int (by rw [Bool.beq_eq_decide_eq]; exact h)
theorem pc_neI (ha : PE X a ta) (hb : PE X b tb) : PC X .NotEq a b (tNeI ta tb) := pc_int ha hb fun _ _ _ _ _ _ h => ne_int (by rw [bne, Bool.beq_eq_decide_eq]; exact h)
/-- is None -/
def tIsN (ta : TE) : TE := fun σ H Q => ta σ H fun x H1 => Q (.bl (decide (x = .non))) H1
def tNotN (ta : TE) : TE := fun σ H Q => ta σ H fun x H1 => Q (.bl (!decide (x = .non))) H1
theorem RelV.none_iff {x : V} {v : Value} (r : RelV x v) : (v == Value.none) = decide (x = .non) := by
  cases x with
  | non => cases r; rfl
  | bl _ => cases r; rfl
  | int _ => obtain ⟨t, rfl⟩ := r; rfl
  | str _ => obtain ⟨t, rfl⟩ := r; rfl
  | byt _ => obtain ⟨t, rfl⟩ := r; rfl
  | flt _ => obtain ⟨t, rfl⟩ := r; rfl
  | ref _ => cases r; rfl
  | ty _ => cases r; rfl
theorem pc_isN {j pos'} (ha : PE X a ta) : PC X .Is a (.Constant .none j pos') (tIsN ta) := by
  intro pins s σ H Q I h
  refine thn (ha pins s σ H _ I h) fun v s1 ⟨x, H1, I1, r1, q1⟩ => ?_
  exact Constant_none (is_none_gen ⟨.bl _, H1, I1, by rw [r1.none_iff]; rfl, q1⟩)
theorem pc_notN {j pos'} (ha : PE X a ta) : PC X .IsNot a (.Constant .none j pos') (tNotN ta) := by
  intro pins s σ H Q I h
  refine thn (ha pins s σ H _ I h) fun v s1 ⟨x, H1, I1, r1, q1⟩ => ?_
  exact Constant_none (isnot_none_gen ⟨.bl _, H1, I1, by rw [r1.none_iff]; rfl, q1⟩)
/-- a comparison as a value, as a test -/
def tB (t : TE) : TT := fun σ H Q => t σ H fun x H1 => ∃ c, x = .bl c ∧ Q c H1
theorem pe_cmp {op : CmpOp} {t : TE} (h : PC X op a b t) (h1 : behindInMarks op b = false := by first | exact nobehind _ (by decide) (by decide) | rfl) : PE X (.Compare a [op] [b] pos) t := fun pins s σ H Q I hw => wpAny_Compare1 (h pins s σ H Q I hw) h1
theorem pt_cmp {op : CmpOp} {t : TE} (h : PC X op a b t) (h1 : behindInMarks op b = false := by first | exact nobehind _ (by decide) (by decide) | rfl) : PT X (.Compare a [op] [b] pos) (tB t) := by
  intro pins s σ H Q I hw
  refine wpAny_isTrue_Compare1 (thn (h pins s σ H _ I hw) fun v s1 h1 => thn h1 fun u s2 h2 => thn h2 fun c s3 ⟨x, H1, I1, r1, q1⟩ => ?_) h1
  obtain ⟨d, rfl, q⟩ := q1
  cases r1
  exact wpAny_truthy_bool ⟨H1, I1, q⟩
/-- an expression whose value is a bool, as a test -/
theorem pt_val {e : Expr} {t : TE} (h : PE X e t) (he : ∀ whole, isTrue e X.env whole = (do let v ← whole; standAt e.pos; holding [v] (truthy v)) := by intro _; rfl) : PT X e (tB t) := by
  intro pins s σ H Q I hw
  refine isTrue_plain (thn (h pins s σ H _ I hw) fun v s1 ⟨x, H1, I1, r1, q1⟩ => ?_) (he _)
  obtain ⟨d, rfl, q⟩ := q1
  cases r1
  exact wpAny_truthy_bool ⟨H1, I1, q⟩

/-! ### and, or, not -/
variable {tA tB' : TT} {rest : List Expr}
def tAnd (t u : TT) : TT := fun σ H Q => t σ H fun c H1 => if c = true then u σ H1 Q else Q false H1
def tOr (t u : TT) : TT := fun σ H Q => t σ H fun c H1 => if c = true then Q true H1 else u σ H1 Q
def tNot (t : TT) : TT := fun σ H Q => t σ H fun c H1 => Q (!c) H1
theorem pw_and1 (ha : PT X a tA) : PW X (.BoolOp .And [a] pos) tA := by
  intro wh pins s σ H Q I h
  refine isTrue_and (thn (ha pins s σ H Q I h) fun c s1 e => ?_)
  cases c with
  | true => exact isTrue_and_nil e
  | false => exact e
theorem pw_or1 (ha : PT X a tA) : PW X (.BoolOp .Or [a] pos) tA := by
  intro wh pins s σ H Q I h
  refine isTrue_or (thn (ha pins s σ H Q I h) fun c s1 e => ?_)
  cases c with
  | false => exact isTrue_or_nil e
  | true => exact e
theorem pw_and (ha : PT X a tA) (hb : PW X (.BoolOp .And (b :: rest) pos) tB') : PW X (.BoolOp .And (a :: b :: rest) pos) (tAnd tA tB') := by
  intro wh pins s σ H Q I h
  refine isTrue_and (thn (ha pins s σ H _ I h) fun c s1 ⟨H1, I1, q1⟩ => ?_)
  cases c with
  | true => exact hb wh pins s1 σ H1 Q I1 q1
  | false => exact ⟨H1, I1, q1⟩
theorem pw_or (ha : PT X a tA) (hb : PW X (.BoolOp .Or (b :: rest) pos) tB') : PW X (.BoolOp .Or (a :: b :: rest) pos) (tOr tA tB') := by
  intro wh pins s σ H Q I h
  refine isTrue_or (thn (ha pins s σ H _ I h) fun c s1 ⟨H1, I1, q1⟩ => ?_)
  cases c with
  | true => exact ⟨H1, I1, q1⟩
  | false => exact hb wh pins s1 σ H1 Q I1 q1
theorem pt_not (ha : PT X a tA) : PT X (.UnaryOp .Not a pos) (tNot tA) := by
  intro pins s σ H Q I h
  exact isTrue_not (ha pins s σ H (fun c H1 => Q (!c) H1) I h)
/-- .. as values (bools) -/
def tAndV (ta tb : TE) : TE := fun σ H Q => ta σ H fun x H1 => ∃ c, x = .bl c ∧ if c = true then tb σ H1 Q else Q (.bl false) H1
theorem pe_one {op} {t : TE} (h : PE X a t) : PE X (.BoolOp op [a] pos) t := fun pins s σ H Q I hw => BoolOp_one (h pins s σ H Q I hw)
theorem pe_and (ha : PE X a ta) (hb : PE X (.BoolOp .And (b :: rest) pos) tb) : PE X (.BoolOp .And (a :: b :: rest) pos) (tAndV ta tb) := by
  intro pins s σ H Q I h
  refine BoolOp_and (thn (ha pins s σ H _ I h) fun v s1 ⟨x, H1, I1, r1, q1⟩ => ?_)
  obtain ⟨c, rfl, q1⟩ := q1
  cases r1
  refine wpAny_truthy_bool ?_
  cases c with
  | true => exact hb pins s1 σ H1 Q I1 q1
  | false => exact ⟨.bl false, H1, I1, rfl, q1⟩
/-- a if t else b -/
def tIf (t : TT) (ta tb : TE) : TE := fun σ H Q => t σ H fun c H1 => if c = true then ta σ H1 Q else tb σ H1 Q
theorem pe_ifExp {c : Expr} (hc : PT X c tA) (ha : PE X a ta) (hb : PE X b tb) : PE X (.IfExp c a b pos) (tIf tA ta tb) := by
  intro pins s σ H Q I h
  refine wpAny_IfExp (thn (hc pins s σ H _ I h) fun d s1 ⟨H1, I1, q1⟩ => ?_)
  cases d with
  | true => exact ha pins s1 σ H1 Q I1 q1
  | false => exact hb pins s1 σ H1 Q I1 q1
end
end L2

namespace L2
open PySem PySem.Spec PyProof.Rows

/-! ### a list, a tuple that is read: tracked, frozen, or an object of the module -/
def SqL (K : PySem.W.Frag) (H : Hp) (a : Addr) (xs : List V) : Prop :=
  Rd H a (.lst xs) ∨
    ∃ (o : Obj) (its : Array Value) (n : Nat), K.lookup a = some o ∧ o.cls = .type "list" ∧ o.dict = none ∧ o.data = .seq its n ∧ its.size ≤ sizeLine ∧ Vals xs its.toList
def SqT (K : PySem.W.Frag) (H : Hp) (a : Addr) (xs : List V) : Prop :=
  Rd H a (.tup xs) ∨
    ∃ (o : Obj) (its : Array Value) (n : Nat), K.lookup a = some o ∧ o.cls = .type "tuple" ∧ o.data = .seq its n ∧ its.size ≤ sizeLine ∧ Vals xs its.toList
def absV : Value → Option V
  | .none => some .non
  | .bool b => some (.bl b)
  | .int i _ => some (.int i)
  | .str x _ => some (.str x)
  | .bytes b _ => some (.byt b)
  | .float b _ => some (.flt b)
  | .ref a => some (.ref a)
  | .type n => some (.ty n)
  | _ => none
theorem RelV.abs {x : V} {u : Value} (r : RelV x u) : absV u = some x := by
  cases x with
  | non => cases r; rfl
  | bl _ => cases r; rfl
  | int _ => obtain ⟨t, rfl⟩ := r; rfl
  | str _ => obtain ⟨t, rfl⟩ := r; rfl
  | byt _ => obtain ⟨t, rfl⟩ := r; rfl
  | flt _ => obtain ⟨t, rfl⟩ := r; rfl
  | ref _ => cases r; rfl
  | ty _ => cases r; rfl
theorem RelV.inj {x y : V} {u : Value} (r : RelV x u) (q : RelV y u) : x = y := Option.some.inj (r.abs.symm.trans q.abs)
theorem Vals.inj : ∀ {xs ys : List V} {us : List Value}, Vals xs us → Vals ys us → xs = ys
  | _, _, _, .nil, .nil => rfl
  | _, _, _, .cons r t, .cons r' t' => by rw [r.inj r', Vals.inj t t']
section
variable {X : Cx} {pins : List (Addr × Obj)} {σ : St} {H : Hp} {s : Shared} {a : Addr} {xs ys : List V}
theorem SqL.of {K : PySem.W.Frag} (h : H a = some (.lst xs)) : SqL K H a xs := .inl (.inl h)
theorem SqT.of {K : PySem.W.Frag} (h : H a = some (.tup xs)) : SqT K H a xs := .inl (.inl h)
theorem Inv.list (I : Inv X pins σ H s) (h : SqL X.K H a xs) : ∃ its : List Value, Vals xs its ∧ PlainL s.heap a its.toArray ∧ xs.length ≤ sizeLine := by
  rcases h with h | ⟨o, its, n, hk, hc, hd, hs, hz, r⟩
  · obtain ⟨z, its, n, r, e⟩ := h.ok I.hok
    exact ⟨its, r, ⟨_, n, e, rfl, rfl, rfl⟩, z⟩
  · refine ⟨its.toList, r, ⟨o, n, I.kIn a o hk, hc, hd, by simpa using hs⟩, ?_⟩
    have e := r.length
    simp only [Array.length_toList] at e
    omega
theorem Inv.tuple (I : Inv X pins σ H s) (h : SqT X.K H a xs) : ∃ its : List Value, Vals xs its ∧ IsTup s.heap a its.toArray ∧ xs.length ≤ sizeLine := by
  rcases h with h | ⟨o, its, n, hk, hc, hs, hz, r⟩
  · obtain ⟨z, its, r, p⟩ := h.ok I.hok
    exact ⟨its, r, p, z⟩
  · refine ⟨its.toList, r, ⟨o, I.kIn a o hk, hc, n, by simpa using hs⟩, ?_⟩
    have e := r.length
    simp only [Array.length_toList] at e
    omega
theorem Inv.list_inj (I : Inv X pins σ H s) (h : SqL X.K H a xs) (h' : SqL X.K H a ys) : xs = ys := by
  obtain ⟨its, r, ⟨o, n, e, _, _, d⟩, _⟩ := I.list h
  obtain ⟨its', r', ⟨o', n', e', _, _, d'⟩, _⟩ := I.list h'
  rw [e] at e'; cases e'
  rw [d] at d'
  injection d' with d1 _
  have : its = its' := by simpa using congrArg Array.toList d1
  subst this
  exact r.inj r'
end

/-! ### another wish about exceptions -/
abbrev Cx.wish (X : Cx) (E : Value → Shared → Prop) : Cx := { X with xe := E }
/-- no exception leaves -/
abbrev Cx.nox (X : Cx) : Cx := X.wish fun _ _ => False
theorem Cx.Ok.wish {X : Cx} (ok : X.Ok) (E : Value → Shared → Prop) : (X.wish E).Ok :=
  ⟨ok.mod, ok.kind, ok.glob, ok.blt, ok.above, ok.inj, ok.has, ok.cab, ok.hd, ok.frames, ok.stk, ok.exf, ok.bs, ok.bsz, ok.noex, ok.exfs, ok.funs, ok.frf⟩
theorem Cx.Ok.unwish {X : Cx} {E : Value → Shared → Prop} (ok : (X.wish E).Ok) : X.Ok :=
  ⟨ok.mod, ok.kind, ok.glob, ok.blt, ok.above, ok.inj, ok.has, ok.cab, ok.hd, ok.frames, ok.stk, ok.exf, ok.bs, ok.bsz, ok.noex, ok.exfs, ok.funs, ok.frf⟩
section
variable {X : Cx} {pins : List (Addr × Obj)} {σ : St} {H : Hp} {s : Shared} {E : Value → Shared → Prop}
theorem Inv.wish (I : Inv X pins σ H s) (E : Value → Shared → Prop) : Inv (X.wish E) pins σ H s := ⟨I.ok.wish E, I.os, I.bare, I.base, I.loc, I.cell, I.free, I.freeC, I.pin, I.hok, I.len⟩
theorem Inv.unwish (I : Inv (X.wish E) pins σ H s) : Inv X pins σ H s := ⟨I.ok.unwish, I.os, I.bare, I.base, I.loc, I.cell, I.free, I.freeC, I.pin, I.hok, I.len⟩
theorem SP.unwish {D : Ends} {f : Flow} {s' : Shared} (h : SP (X.wish E) pins D f s') : SP X pins D f s' := by
  cases f with
  | next => obtain ⟨σ', H', I, q⟩ := h; exact ⟨σ', H', I.unwish, q⟩
  | brk => obtain ⟨σ', H', I, q⟩ := h; exact ⟨σ', H', I.unwish, q⟩
  | cont => obtain ⟨σ', H', I, q⟩ := h; exact ⟨σ', H', I.unwish, q⟩
  | ret u => obtain ⟨v, σ', H', I, r, q⟩ := h; exact ⟨v, σ', H', I.unwish, r, q⟩
theorem PSs.nox {st : List Stmt} {t : TS} (h : PSs X.nox st t) : PSs X st t := fun pins s σ H D I hw =>
  wpAny_mono (h pins s σ H D (I.wish _) hw) (fun _ _ q => q.unwish) fun _ _ z => False.elim z
end

/-! ### blocks and small statements -/
section
variable {X : Cx} {st : Stmt} {rest : List Stmt} {t u : TS} {e : Expr} {te : TE} {pos : Pos}
def tNext : TS := fun D σ H => D.nx σ H
def tSeq (t u : TS) : TS := fun D σ H => t { D with nx := u D } σ H
theorem pss_nil : PSs X [] tNext := fun _ _ σ H _ I h => wpAny_execs_nil ⟨σ, H, I, h⟩
theorem pss_cons (h1 : PS X st t) (h2 : PSs X rest u) : PSs X (st :: rest) (tSeq t u) := by
  intro pins s σ H D I h
  refine wpAny_execs_cons (thn (h1 pins s σ H { D with nx := u D } I h) fun f s1 q => ?_)
  cases f with
  | next =>
    obtain ⟨σ', H', I', q⟩ := q
    exact h2 pins s1 σ' H' D I' q
  | ret v => exact q
  | brk => exact q
  | cont => exact q
theorem pss_one (h1 : PS X st t) : PSs X [st] t := by
  intro pins s σ H D I h
  refine wpAny_execs_cons (thn (h1 pins s σ H D I h) fun f s1 q => ?_)
  cases f with
  | next => exact wpAny_execs_nil q
  | ret v => exact q
  | brk => exact q
  | cont => exact q
/-- in a def's body nothing is shown -/
theorem Inv.quiet {pins : List (Addr × Obj)} {σ : St} {H : Hp} {s : Shared} (I : Inv X pins σ H s) : interactive X.env = false := by simp [interactive, I.ok.kind]
/-- an expression whose value is dropped -/
def tDrop (te : TE) : TS := fun D σ H => te σ H fun _ H1 => D.nx σ H1
theorem ps_expr (he : PE X e te) (hs : swapsWith e none pos.line X.env = pure false := by rfl) : PS X (.Expr e pos) (tDrop te) := by
  intro pins s σ H D I h
  exact wpAny_Expr_any (thn (he pins s σ H _ I h) fun v s1 ⟨x, H1, I1, r1, q1⟩ => ⟨σ, H1, I1, q1⟩) I.quiet hs
def tRet (te : TE) : TS := fun D σ H => te σ H D.rt
theorem ps_ret (he : PE X e te) : PS X (.Return (some e) pos) (tRet te) := by
  intro pins s σ H D I h
  exact wpAny_Return_some (thn (he pins s σ H _ I h) fun v s1 ⟨x, H1, I1, r1, q1⟩ => ⟨x, σ, H1, I1, r1, q1⟩)
def tIfS (c : TT) (t u : TS) : TS := fun D σ H => c σ H fun b H1 => if b = true then t D σ H1 else u D σ H1
theorem ps_if {c : Expr} {a b : List Stmt} {tc : TT} (hc : PT X c tc) (ha : PSs X a t) (hb : PSs X b u) : PS X (.If c a b pos) (tIfS tc t u) := by
  intro pins s σ H D I h
  refine wpAny_If (thn (hc pins s σ H _ I h) fun d s1 ⟨H1, I1, q1⟩ => ?_)
  cases d with
  | true => exact ha pins s1 σ H1 D I1 q1
  | false => exact hb pins s1 σ H1 D I1 q1
/-- code that the proof never comes to -/
def tNever : TS := fun _ _ _ => False
theorem ps_never : PS X st tNever := fun _ _ _ _ _ _ h => h.elim
end

/-! ### targets -/
abbrev TG := V → St → Hp → (St → Hp → Prop) → Prop
abbrev TGs := List V → St → Hp → (St → Hp → Prop) → Prop
def PG (X : Cx) (target : Expr) (t : TG) : Prop :=
  ∀ (pins : List (Addr × Obj)) (s : Shared) (σ : St) (H : Hp) (v : V) (u : Value) (Q : St → Hp → Prop), Inv X pins σ H s → RelV v u → t v σ H Q →
    wpAny (model X.prog X.w) X.A (assign target X.env u) (fun _ s' => ∃ σ' H', Inv X pins σ' H' s' ∧ Q σ' H') X.xe s
/-- several targets, one after another -/
def PGs (X : Cx) (ts : List Expr) (t : TGs) : Prop :=
  ∀ (pins : List (Addr × Obj)) (s : Shared) (σ : St) (H : Hp) (vs : List V) (us : List Value) (Q : St → Hp → Prop), Inv X pins σ H s → Vals vs us → t vs σ H Q →
    wpAny (model X.prog X.w) X.A (assignInOrder ((assignEach ts X.env).map (·.2)) us) (fun _ s' => ∃ σ' H', Inv X pins σ' H' s' ∧ Q σ' H') X.xe s
/-- a op= b, by values -/
abbrev TIp := V → V → Hp → VK → Prop
def PIp (X : Cx) (op : Operator) (t : TIp) : Prop :=
  ∀ (pins : List (Addr × Obj)) (s : Shared) (σ : St) (H : Hp) (x y : V) (v u : Value) (Q : VK), Inv X pins σ H s → RelV x v → RelV y u → t x y H Q →
    wpAny (model X.prog X.w) X.A (inplaceOp op v u) (EP X pins σ Q) X.xe s
section
variable {X : Cx} {pos : Pos}
def gName (i : Nat) : TG := fun v σ H Q => Q (σ.set i (some v)) H
theorem pg_name {i : Nat} {x : Str} (hN : X.N.Nodup) (hi : X.N[i]? = some x) (hx : Loc X.env.scope x) (hf : X.fn x = true ∨ X.env.scope.names.lookup x = some .local := by first | exact .inl rfl | exact .inr rfl | assumption) : PG X (.Name x pos) (gName i) := by
  intro pins s σ H v u Q I r h
  exact wpAny_assign_Name (store_ok I hN hi hx r (fun s' I' => ⟨_, H, I', h⟩) hf)
def gNil : TGs := fun vs σ H Q => vs = [] ∧ Q σ H
def gCons (t : TG) (u : TGs) : TGs := fun vs σ H Q => ∃ v r, vs = v :: r ∧ t v σ H fun σ' H' => u r σ' H' Q
theorem pgs_nil : PGs X [] gNil := by
  intro pins s σ H vs us Q I r h
  obtain ⟨e, h⟩ := h
  subst e
  cases r
  exact assignInOrder_nil ⟨σ, H, I, h⟩
theorem pgs_cons {e : Expr} {es : List Expr} {t : TG} {u : TGs} (h1 : PG X e t) (h2 : PGs X es u)
    (hs : (assignEach (e :: es) X.env).map (·.2) = assign e X.env :: (assignEach es X.env).map (·.2) := by rfl) : PGs X (e :: es) (gCons t u) := by
  intro pins s σ H vs us Q I r h
  obtain ⟨v, vr, e1, h⟩ := h
  subst e1
  cases r with
  | cons r rr =>
    rw [hs]
    refine assignInOrder_cons (thn (h1 pins s σ H _ _ _ I r h) fun _ s1 ⟨σ1, H1, I1, q1⟩ => ?_)
    exact h2 pins s1 σ1 H1 _ _ Q I1 rr q1
/-- (a, b, ..) = a tuple of that length -/
def gTup (K : PySem.W.Frag) (n : Nat) (t : TGs) : TG := fun v σ H Q => ∃ a xs, v = .ref a ∧ SqT K H a xs ∧ xs.length = n ∧ t xs σ H Q
theorem pg_tup {es : List Expr} {k : Nat} {t : TGs} {n : Nat} (hc : X.calm = true) (h : PGs X es t)
    (hn : (assignEach es X.env).length = n := by rfl) (hst : (assignEach es X.env).findIdx? (·.1) = none := by rfl) : PG X (.Tuple es k pos) (gTup X.K n t) := by
  intro pins s σ H v u Q I r hw
  obtain ⟨a, xs, e1, hq, hl, hw⟩ := hw
  subst e1
  cases r
  obtain ⟨its, rv, ht, hz⟩ := I.tuple hq
  refine assign_Tuple_tuple (I.ok.hd hc) ht (by simp [hn, ← hl, rv.length]) hst fun h' hx => ?_
  have I1 : Inv X pins σ H { s with heap := h' } := I.kept (t' := s.toks) fun b o e => hx b o (Nat.ne_of_lt (Heap.lt_size e)) e
  exact h pins _ σ H xs _ Q I1 (by simpa using rv) hw
/-- target = value -/
def tAsg (te : TE) (g : TG) : TS := fun D σ H => te σ H fun x H1 => g x σ H1 D.nx
/-- name = value -/
theorem ps_set {i : Nat} {x : Str} {e : Expr} {te : TE} {pos' : Pos} (hN : X.N.Nodup) (hi : X.N[i]? = some x) (hx : Loc X.env.scope x) (he : PE X e te) (hs : swapsWith e (some (.Name x pos')) pos.line X.env = pure false := by rfl) (hf : X.fn x = true ∨ X.env.scope.names.lookup x = some .local := by first | exact .inl rfl | exact .inr rfl | assumption) :
    PS X (.Assign [.Name x pos'] e pos) (tAsg te (gName i)) := by
  intro pins s σ H D I h
  refine wpAny_Assign_Name (thn (he pins s σ H _ I h) fun v s1 ⟨y, H1, I1, r1, q1⟩ => ?_) hs
  exact store_ok I1 hN hi hx r1 (fun s2 I2 => ⟨_, H1, I2, q1⟩) hf
/-- name op= e -/
def tAug (i : Nat) (te : TE) (ti : TIp) : TS := fun D σ H => ∃ x, σ[i]? = some (some x) ∧ te σ H fun y H1 => ti x y H1 fun z H2 => D.nx (σ.set i (some z)) H2
theorem ps_aug {i : Nat} {x : Str} {e : Expr} {te : TE} {op : Operator} {ti : TIp} {pos' : Pos} (hN : X.N.Nodup) (hi : X.N[i]? = some x) (hx : Loc X.env.scope x) (he : PE X e te) (ho : PIp X op ti) (hf : X.fn x = true ∨ X.env.scope.names.lookup x = some .local := by first | exact .inl rfl | exact .inr rfl | assumption) :
    PS X (.AugAssign (.Name x pos') op e pos) (tAug i te ti) := by
  intro pins s σ H D I h
  obtain ⟨v, e1, h⟩ := h
  obtain ⟨m, hn, hl⟩ := I.loc
  have vis : Vis X.env.scope x := by rcases hx with k | k; exact .inl k; exact .inr (.inl k)
  obtain ⟨u, r, l⟩ := hl i x v hi e1 vis
  refine wpAny_AugAssign_Name ?_
  have go : wpAny (model X.prog X.w) X.A (eval e X.env) (fun w s₂ => wpAny (model X.prog X.w) X.A (inplaceOp op u w) (fun r s₃ => wpAny (model X.prog X.w) X.A (storeName X.env x r) (fun _ => SP X pins D .next) X.xe s₃) X.xe s₂) X.xe s := by
    refine thn (he pins s σ H _ I h) fun w s1 ⟨y, H1, I1, r1, q1⟩ => ?_
    refine thn (ho pins s1 σ H1 v y u w _ I1 r r1 q1) fun z s2 ⟨zv, H2, I2, r2, q2⟩ => ?_
    exact store_ok I2 hN hi hx r2 (fun s3 I3 => ⟨_, H2, I3, q2⟩) hf
  rcases l with ⟨hk, hm⟩ | ⟨hk, c, hc, hcell⟩
  · exact wpAny_loadName_local I.ok.kind hk hn hm go
  · rcases hk with hk | hk
    · exact wpAny_loadName_cell I.ok.kind hk hc hcell go
    · rcases hx with k | k
      · have : X.env.scope.names.lookup x = some .free := hk
        rw [k] at this; cases this
      · have : X.env.scope.names.lookup x = some .free := hk
        rw [k] at this; cases this
/-- ints -/
def ipI (f : Int → Int → Int) : TIp := fun x y H Q => ∃ i j, x = .int i ∧ y = .int j ∧ Q (.int (f i j)) H
theorem ip_sub : PIp X .Sub (ipI fun i j => i - j) := by
  intro pins s σ H x y v u Q I r1 r2 h
  obtain ⟨i, j, e1, e2, q⟩ := h
  subst e1; subst e2
  obtain ⟨t, rfl⟩ := r1
  obtain ⟨t', rfl⟩ := r2
  exact isub_int ⟨.int _, H, I.tok _, ⟨_, rfl⟩, q⟩
end

/-! ### while -/
section
variable {X : Cx} {pos : Pos}
/-- the invariant W with its measure -/
def tWhile (c : TT) (tb : TS) : TS := fun D σ H => ∃ W : Nat → St → Hp → Prop, (∃ m, W m σ H) ∧ ∀ m σ H, W m σ H →
  c σ H fun b H1 => if b = true then ∃ N : St → Hp → Prop, (∀ σ' H', N σ' H' → ∃ m', m' < m ∧ W m' σ' H') ∧ tb { D with nx := N, ct := N, bk := D.nx } σ H1 else D.nx σ H1
theorem ps_while {c : Expr} {body : List Stmt} {tc : TT} {tb : TS} (hp : PassesOwn (model X.prog X.w) X.A X.env X.xe) (hc : PT X c tc) (hb : PSs X body tb) : PS X (.While c body [] pos) (tWhile tc tb) := by
  intro pins s σ H D I h
  obtain ⟨W, ⟨m0, w0⟩, turn⟩ := h
  refine wpAny_While (codeAny_whileLoop (fun n s' => ∃ σ' H', Inv X pins σ' H' s' ∧ W n σ' H') ?_ m0 ⟨σ, H, I, w0⟩)
  rintro n s1 ⟨σ1, H1, I1, w1⟩
  refine wpAny_passesOwn hp (thn (hc pins s1 σ1 H1 _ I1 (turn n σ1 H1 w1)) fun b s2 ⟨H2, I2, q2⟩ => ?_)
  cases b with
  | true =>
    obtain ⟨N, hN, q2⟩ := q2
    rw [if_pos rfl]
    refine wpAny_passesOwn hp (thn (hb pins s2 σ1 H2 _ I2 q2) fun f s3 q3 => ?_)
    cases f with
    | next =>
      obtain ⟨σ3, H3, I3, n3⟩ := q3
      obtain ⟨m', hm, w3⟩ := hN σ3 H3 n3
      exact ⟨m', hm, σ3, H3, I3, w3⟩
    | cont =>
      obtain ⟨σ3, H3, I3, n3⟩ := q3
      obtain ⟨m', hm, w3⟩ := hN σ3 H3 n3
      exact ⟨m', hm, σ3, H3, I3, w3⟩
    | brk => exact q3
    | ret v => exact q3
  | false =>
    rw [if_neg Bool.false_ne_true]
    exact wpAny_execs_nil ⟨σ1, H2, I2, q2⟩
end

/-! ### what a loop or a comprehension walks -/
/-- at turn i: it yields x (the heap may grow), or it stops -/
structure It where
  go : Nat → Hp → Prop
  yld : Nat → Hp → V → Hp → Prop
  stop : Nat → Hp → Prop
/-- the iterator's own objects may turn: they are not the frame's, not pinned, younger than the entry (or a comprehension's own) -/
def FpOk (X : Cx) (pins : List (Addr × Obj)) (H : Hp) (b : Addr) : Prop :=
  H b = none ∧ b ≠ X.env.locals ∧ b ∉ X.fs ∧ (b ∈ X.ex ∨ X.s_0.heap.objs.size ≤ b) ∧ (∀ x c, X.env.cells.lookup x = some c → c ≠ b) ∧ ∀ p ∈ X.pn ++ pins, p.1 ≠ b
theorem Inv.fpOk {X : Cx} {pins : List (Addr × Obj)} {σ : St} {H H' : Hp} {s : Shared} {b : Addr} (I : Inv X pins σ H s) (hb : s.heap.objs.size ≤ b) (hn : H' b = none) : FpOk X pins H' b := by
  refine ⟨hn, Nat.ne_of_gt (Nat.lt_of_lt_of_le I.lt hb), I.nofs hb, .inr (Nat.le_trans I.sz hb), fun x c e z => ?_, fun p hp z => ?_⟩
  · obtain ⟨v, q⟩ := I.cell x c e
    exact absurd (Nat.lt_of_lt_of_le q.lt (by rw [z]; exact hb)) (Nat.lt_irrefl _)
  · exact absurd (Nat.lt_of_lt_of_le (Heap.lt_size (I.pin p hp).1) (by rw [z]; exact hb)) (Nat.lt_irrefl _)
structure Turn (P : Program) (w : World) (K : PySem.W.Frag) (tg : Expr) (J : It) (fp : List Addr) (it : Addr) (tn : Nat → Heap → Prop) : Prop where
  mem : it ∈ fp
  obj : ∀ i h, tn i h → ∀ b ∈ fp, ∃ o, h.get? b = some o ∧ ∀ v, o.data ≠ .cell v
  keep : ∀ i h h', tn i h → (∀ b ∈ fp, ∀ o, h.get? b = some o → h'.get? b = some o) → tn i h'
  item : ∀ (X : Cx), X.prog = P → X.w = w → X.K = K → X.calm = true → ∀ (i : Nat) (pins : List (Addr × Obj)) (s : Shared) (σ : St) (H : Hp) (E : Value → Shared → Prop), Inv X pins σ H s → (∀ b ∈ fp, FpOk X pins H b) → tn i s.heap → J.go i H →
    wpAny (model P w) X.A (pyNext (.ref it)) (fun r s1 => ∃ u, r = some u ∧
      wpAny (model P w) X.A (letOwnedTupleGo tg (.ref it) u) (fun _ s2 => ∃ x H', Inv X pins σ H' s2 ∧ RelV x u ∧ J.yld i H x H' ∧ tn (i + 1) s2.heap ∧ ∀ b ∈ fp, H' b = none) E s1) E s
  done : ∀ (X : Cx), X.prog = P → X.w = w → X.K = K → X.calm = true → ∀ (i : Nat) (pins : List (Addr × Obj)) (s : Shared) (σ : St) (H : Hp) (E : Value → Shared → Prop), Inv X pins σ H s → (∀ b ∈ fp, FpOk X pins H b) → tn i s.heap → J.stop i H →
    wpAny (model P w) X.A (pyNext (.ref it)) (fun r s1 => r = none ∧ Inv X pins σ H s1) E s
  self : ∀ (A : Around) (i : Nat) (s : Shared) (Q : Value → Shared → Prop) (E : Value → Shared → Prop), tn i s.heap → Q (.ref it) s → wpAny (model P w) A (pyIter (.ref it)) Q E s
abbrev TI := St → Hp → (It → Hp → Prop) → Prop
/-- an iterator has come -/
def PIE (X : Cx) (pins : List (Addr × Obj)) (σ : St) (tg : Expr) (R : It → Hp → Prop) (itv : Value) (s2 : Shared) : Prop :=
  ∃ (it : Addr) (fp : List Addr) (tn : Nat → Heap → Prop) (J : It) (H' : Hp), itv = .ref it ∧ Inv X pins σ H' s2 ∧ Turn X.prog X.w X.K tg J fp it tn ∧ tn 0 s2.heap ∧ (∀ b ∈ fp, FpOk X pins H' b) ∧ R J H'
def PI (X : Cx) (tg iter : Expr) (wi : TI) : Prop :=
  ∀ (pins : List (Addr × Obj)) (s : Shared) (σ : St) (H : Hp) (R : It → Hp → Prop), Inv X pins σ H s → wi σ H R →
    wpAny (model X.prog X.w) X.A (eval iter X.env) (fun v s1 => wpAny (model X.prog X.w) X.A (pyIter v) (PIE X pins σ tg R) X.xe s1) X.xe s

/-- the step ahead of the store is nothing for an iterator that keeps no tuple -/
theorem go_of {M : Model} {A : Around} {E : Value → Shared → Prop} {s : Shared} {tg : Expr} {it : Addr} {u : Value} {o : Obj} {n : String} {vs : Array Value} {Q : Unit → Shared → Prop} (ho : s.heap.get? it = some o) (hc : o.cls = .type n) (hd : o.data = .fields vs)
    (hn : ["enumerate", "zip", "dict_itemiterator", "dict_reverseitemiterator", "odict_iterator", "itertools.zip_longest", "itertools.pairwise"].contains n = false) (hQ : Q () s) : wpAny M A (letOwnedTupleGo tg (.ref it) u) Q E s := by
  unfold letOwnedTupleGo
  cases tg <;> first
    | exact wpAny_pure hQ
    | (cases u <;> first
        | exact wpAny_pure hQ
        | (refine wpAny_bind (wpAny_load ho ?_)
           rw [hc, hd]
           show wpAny M A (if (["enumerate", "zip", "dict_itemiterator", "dict_reverseitemiterator", "odict_iterator", "itertools.zip_longest", "itertools.pairwise"].contains n && vs[0]? == some (rawInt _)) = true then _ else _) Q E s
           rw [if_neg (by intro h; rw [hn, Bool.false_and] at h; cases h)]
           exact wpAny_pure hQ))

/-- lo, lo + 1, .. (n of them) -/
def Itr (lo : Int) (n : Nat) : It := ⟨fun i _ => i < n, fun i H x H' => H' = H ∧ x = .int (lo + i), fun i _ => n ≤ i⟩
theorem turn_range {P : Program} {w : World} {K : PySem.W.Frag} {tg : Expr} (it : Addr) (lo : Int) (n : Nat) : Turn P w K tg (Itr lo n) [it] it (fun i h => IsRangeIter h it (lo + (i : Nat) * 1) ((n : Int) - (i : Nat)) 1) where
  mem := by simp
  obj := fun i h st b hb => by
    have e : b = it := by simpa using hb
    subst e
    exact ⟨_, st, fun v z => by
      have z' : Data.fields _ = Data.cell v := z
      cases z'⟩
  keep := fun i h h' st k => k it (by simp) _ st
  item := by
    intro X hP hw hK hc i pins s σ H E I hf st hg
    subst hP hw hK
    obtain ⟨f0, f1, f2, f3, f4, f5⟩ := hf it (by simp)
    have W := Walks.range (prog := X.prog) (w := X.w) (I.ok.hd hc) it lo 1 n
    refine W.item i s _ _ hg st fun v h' tk hv st' kk => ?_
    obtain ⟨t, rfl⟩ := hv
    have I1 : Inv X pins σ H { s with heap := h', toks := tk } := I.turned (fun b o hb e => kk b o (by simpa using hb) e) f0 f1 f3 f4 f5
    refine ⟨_, rfl, go_of (s := { s with heap := h', toks := tk }) (n := "range_iterator") st' rfl rfl (by decide) ⟨.int (lo + i), H, I1, ⟨t, ?_⟩, ⟨rfl, rfl⟩, st', fun b hb => (hf b hb).1⟩⟩
    rw [Int.mul_one]
  done := by
    intro X hP hw hK hc i pins s σ H E I hf st hg
    subst hP hw hK
    obtain ⟨f0, f1, f2, f3, f4, f5⟩ := hf it (by simp)
    exact wpAny_pyNext_range_end (I.ok.hd hc) st (by have : n ≤ i := hg; omega) fun h' eb => ⟨rfl, I.turned (t' := s.toks) (fun b o hb e => eb b o hb e) f0 f1 f3 f4 f5⟩
  self := fun _ _ _ _ _ st h => wpAny_pyIter_rangeiter st h
end L2

namespace L2
open PySem PySem.Spec PyProof.Rows
section
variable {X : Cx} {tg : Expr}
/-- a range object just made, walked -/
theorem range_it {pins : List (Addr × Obj)} {σ : St} {H : Hp} {s : Shared} {R : It → Hp → Prop} {E : Value → Shared → Prop} {lo hi : Int} {t u v : Tok} {tk : Nat} (I : Inv X pins σ H s) (h1 : -(2 ^ 62) ≤ lo) (h2 : lo < 2 ^ 62) (h3 : -(2 ^ 62) ≤ hi) (h4 : hi < 2 ^ 62)
    (q : R (Itr lo (hi - lo).toNat) H) : wpAny (model X.prog X.w) X.A (pyIter (.ref s.heap.objs.size)) (PIE X pins σ tg R) E { s with heap := s.heap.push { cls := .type "range", data := .fields #[.int lo t, .int hi u, .int 1 v] }, toks := tk } := by
  refine wpAny_pyIter_range (IsRange.new ..) (small_one h1 h2 h3 h4) ?_
  have I1 : Inv X pins σ H { s with heap := s.heap.push { cls := .type "range", data := .fields #[.int lo t, .int hi u, .int 1 v] }, toks := tk } := I.kept fun b o e => Heap.get?_push_of_some _ e
  refine ⟨(s.heap.push { cls := .type "range", data := .fields #[.int lo t, .int hi u, .int 1 v] }).objs.size, [(s.heap.push { cls := .type "range", data := .fields #[.int lo t, .int hi u, .int 1 v] }).objs.size], _, _, H, rfl,
    I1.kept (t' := tk) fun b o e => Heap.get?_push_of_some _ e, turn_range _ lo (hi - lo).toNat, ?_, fun b hb => ?_, q⟩
  · have e1 : lo + ((0 : Nat) : Int) * 1 = lo := by simp
    have e2 : (((hi - lo).toNat : Nat) : Int) - ((0 : Nat) : Int) = Builtin.Range.rangeSize lo hi 1 := by rw [rangeSize_one]; split <;> omega
    show IsRangeIter _ _ (lo + ((0 : Nat) : Int) * 1) ((((hi - lo).toNat : Nat) : Int) - ((0 : Nat) : Int)) 1
    rw [e1, e2]
    exact Heap.get?_push_size _ rfl
  · have e : b = (s.heap.push { cls := .type "range", data := .fields #[.int lo t, .int hi u, .int 1 v] }).objs.size := by simpa using hb
    subst e
    exact I1.fpOk (Nat.le_refl _) (I1.hok.fresh (Nat.le_refl _))
def iRng1 (ta : TA) : TI := fun σ H R => ta σ H fun vs H1 => ∃ j : Int, vs = [.int j] ∧ -(2 ^ 62) ≤ j ∧ j < 2 ^ 62 ∧ R (Itr 0 j.toNat) H1
theorem pi_range1 {a : Expr} {ta : TA} {p pos : Pos} (hg : Gl X "range") (hm : X.mg "range" = none) (ha : PA X [a] ta) (hs : starEach [a] X.env = [(false, eval a X.env)] := by rfl) : PI X tg (.Call (.Name "range" p) [a] [] pos) (iRng1 ta) := by
  intro pins s σ H R I h
  refine Call_ (ld_blt I hg hm boot_range (PyProof.Rows.callWith_type1 (thn (ha pos pins s σ H _ I h) fun us s1 ⟨vs, H1, I1, r1, q1⟩ => ?_) hs rfl))
  obtain ⟨j, e, q1, q2, q⟩ := q1
  subst e
  cases r1 with
  | cons r rr =>
    cases rr
    obtain ⟨t, rfl⟩ := r
    exact call_range_1 (range_it I1 (by omega) (by omega) q1 q2 (by simpa using q))
/-! ### for -/
/-- W: the invariant by the turn and a measure; N: what the body is to reach -/
def tFor (wi : TI) (g : TG) (tb : TS) : TS := fun D σ H => wi σ H fun J H1 => ∃ W : Nat → Nat → St → Hp → Prop, (∃ m, W 0 m σ H1) ∧ ∀ i m σ H, W i m σ H →
  (J.stop i H ∧ D.nx σ H) ∨ (J.go i H ∧ ∃ N : St → Hp → Prop, (∀ σ' H', N σ' H' → ∃ m', m' < m ∧ W (i + 1) m' σ' H') ∧ ∀ x H', J.yld i H x H' → g x σ H' fun σ2 H2 => tb { D with nx := N, ct := N, bk := D.nx } σ2 H2)
/-- the records at fp as they stand -/
def pinsAt (fp : List Addr) (h : Heap) : List (Addr × Obj) := fp.filterMap fun b => (h.get? b).map fun o => (b, o)
theorem mem_pinsAt {fp : List Addr} {h : Heap} {b : Addr} {o : Obj} (hb : b ∈ fp) (e : h.get? b = some o) : (b, o) ∈ pinsAt fp h := List.mem_filterMap.mpr ⟨b, hb, by rw [e]; rfl⟩
theorem of_pinsAt {fp : List Addr} {h : Heap} {p : Addr × Obj} (hp : p ∈ pinsAt fp h) : p.1 ∈ fp ∧ h.get? p.1 = some p.2 := by
  obtain ⟨b, hb, e⟩ := List.mem_filterMap.mp hp
  cases q : h.get? b with
  | none => rw [q] at e; cases e
  | some o =>
    rw [q] at e
    have e' : (b, o) = p := Option.some.inj e
    subst e'
    exact ⟨hb, q⟩
theorem Inv.pinned {pins : List (Addr × Obj)} {σ : St} {H : Hp} {s : Shared} {fp : List Addr} (I : Inv X pins σ H s) (hf : ∀ b ∈ fp, FpOk X pins H b) (ho : ∀ b ∈ fp, ∃ o, s.heap.get? b = some o ∧ ∀ v, o.data ≠ .cell v) : Inv X (pins ++ pinsAt fp s.heap) σ H s :=
  I.pins_of fun p hp => (List.mem_append.mp hp).elim (fun z => I.pin p (List.mem_append_right _ z)) fun z => by
    obtain ⟨hb, e⟩ := of_pinsAt z
    obtain ⟨f0, f1, f2, _⟩ := hf p.1 hb
    obtain ⟨o, e', d⟩ := ho p.1 hb
    rw [e] at e'; cases e'
    exact ⟨e, f0, f1, f2, d⟩
theorem Inv.unpinned {pins pl : List (Addr × Obj)} {σ : St} {H : Hp} {s : Shared} (I : Inv X (pins ++ pl) σ H s) : Inv X pins σ H s := I.pins_of fun p hp => I.pin p (List.mem_append_right _ (List.mem_append_left _ hp))
theorem ps_for {iter : Expr} {body : List Stmt} {wi : TI} {g : TG} {tb : TS} {pos : Pos} (hp : PassesOwn (model X.prog X.w) X.A X.env X.xe) (hc : X.calm = true) (hi : PI X tg iter wi) (hg : PG X tg g) (hb : PSs X body tb)
    (hs : ∀ x, foldedSetIterable iter X.env x = pure x := by intro _; rfl) : PS X (.For tg iter body [] pos) (tFor wi g tb) := by
  intro pins s σ H D I h
  refine wpAny_For (thn (hi pins s σ H _ I h) fun v s1 h1 => thn h1 fun itv s2 h2 => ?_) hs
  obtain ⟨it, fp, tn, J, H2, e, I2, T, st2, f2, W, ⟨m0, w0⟩, turn⟩ := h2
  subst e
  -- what stays true of the iterator's objects through the loop
  have stat : ∀ {H' : Hp}, (∀ b ∈ fp, H' b = none) → ∀ b ∈ fp, FpOk X pins H' b := fun hn b hb => ⟨hn b hb, (f2 b hb).2⟩
  refine codeAny_forLoop_any (fun n s' => ∃ i σ' H', Inv X pins σ' H' s' ∧ tn i s'.heap ∧ (∀ b ∈ fp, H' b = none) ∧ W i n σ' H') ?_ m0 ⟨0, σ, H2, I2, st2, fun b hb => (f2 b hb).1, w0⟩
  rintro n s3 ⟨i, σ3, H3, I3, st3, fr3, w3⟩
  rcases turn i n σ3 H3 w3 with ⟨stop, qn⟩ | ⟨go, N, hN, step⟩
  · refine wpAny_passesOwn hp (thn (T.done X rfl rfl rfl hc i pins s3 σ3 H3 X.xe I3 (stat fr3) st3 stop) fun r s4 ⟨hr, I4⟩ => ?_)
    subst hr
    exact wpAny_execs_nil ⟨σ3, H3, I4, qn⟩
  · refine wpAny_passesOwn hp (thn (T.item X rfl rfl rfl hc i pins s3 σ3 H3 X.xe I3 (stat fr3) st3 go) fun r s4 ⟨u, hr, h4⟩ => ?_)
    subst hr
    refine wpAny_passesOwn hp (thn h4 fun _ s5 ⟨x, H5, I5, r5, y5, st5, fr5⟩ => ?_)
    have I5' := I5.pinned (stat fr5) (T.obj _ _ st5)
    refine wpAny_passesOwn hp (thn (hg _ s5 σ3 H5 x u _ I5' r5 (step x H5 y5)) fun _ s6 ⟨σ6, H6, I6, q6⟩ => ?_)
    refine wpAny_passesOwn hp (thn (hb _ s6 σ6 H6 _ I6 q6) fun f s7 q7 => ?_)
    have again : ∀ {σ7 : St} {H7 : Hp}, Inv X (pins ++ pinsAt fp s5.heap) σ7 H7 s7 → N σ7 H7 → ∃ m, m < n ∧ ∃ i σ' H', Inv X pins σ' H' s7 ∧ tn i s7.heap ∧ (∀ b ∈ fp, H' b = none) ∧ W i m σ' H' := fun {σ7 H7} I7 n7 => by
      obtain ⟨m', hm, w7⟩ := hN σ7 H7 n7
      refine ⟨m', hm, i + 1, σ7, H7, I7.unpinned, T.keep _ _ _ st5 fun b hb o e => (I7.pin (b, o) (List.mem_append_right _ (List.mem_append_right _ (mem_pinsAt hb e)))).1, fun b hb => ?_, w7⟩
      obtain ⟨o, e, d⟩ := T.obj _ _ st5 b hb
      exact (I7.pin (b, o) (List.mem_append_right _ (List.mem_append_right _ (mem_pinsAt hb e)))).2.1
    cases f with
    | next => obtain ⟨σ7, H7, I7, n7⟩ := q7; exact again I7 n7
    | cont => obtain ⟨σ7, H7, I7, n7⟩ := q7; exact again I7 n7
    | brk => obtain ⟨σ7, H7, I7, q7⟩ := q7; exact ⟨σ7, H7, I7.unpinned, q7⟩
    | ret v => obtain ⟨x7, σ7, H7, I7, r7, q7⟩ := q7; exact ⟨x7, σ7, H7, I7.unpinned, r7, q7⟩
end

/-! ### the forms one uses -/
end L2

namespace L2
open PySem PySem.Spec PyProof.Rows

abbrev R2 := V → V → Hp → VK → Prop
/-- a two-place operation on values: f is binaryOp op, inplaceOp op or compareOp op -/
def OpR (X : Cx) (f : Value → Value → Sem Value) (r : R2) : Prop :=
  ∀ (pins : List (Addr × Obj)) (s : Shared) (σ : St) (H : Hp) (x y : V) (v u : Value) (Q : VK), Inv X pins σ H s → RelV x v → RelV y u → r x y H Q →
    wpAny (model X.prog X.w) X.A (f v u) (EP X pins σ Q) X.xe s
/-- a call of a value that is known (a builtin, a type) with values -/
def CallR (X : Cx) (f : Value) (r : List V → Hp → VK → Prop) : Prop :=
  ∀ (pins : List (Addr × Obj)) (s : Shared) (σ : St) (H : Hp) (xs : List V) (us : List Value) (Q : VK), Inv X pins σ H s → Vals xs us → r xs H Q →
    wpAny (model X.prog X.w) X.A (call f us) (EP X pins σ Q) X.xe s
def tOp (r : R2) (ta tb : TE) : TE := fun σ H Q => ta σ H fun x H1 => tb σ H1 fun y H2 => r x y H2 Q
/-- ints in, under C, and a value out -/
def rI (C : Int → Int → Prop) (g : Int → Int → V) : R2 := fun x y H Q => ∃ i j, x = .int i ∧ y = .int j ∧ C i j ∧ Q (g i j) H
def rI0 (g : Int → Int → V) : R2 := fun x y H Q => ∃ i j, x = .int i ∧ y = .int j ∧ Q (g i j) H
section
variable {X : Cx} {a b c : Expr} {ta tb tc : TE} {pos : Pos}

theorem binT (ha : PE X a ta) (hb : PE X b tb) {pins : List (Addr × Obj)} {s : Shared} {σ : St} {H : Hp} {R : V → V → Hp → Prop} (I : Inv X pins σ H s)
    (h : ta σ H fun x H1 => tb σ H1 fun y H2 => R x y H2) {Q : Value → Shared → Prop} {f : Value → Value → Sem Value}
    (hf : ∀ v u s2 x y H2, Inv X pins σ H2 s2 → RelV x v → RelV y u → R x y H2 → wpAny (model X.prog X.w) X.A (f v u) Q X.xe s2) :
    wpAny (model X.prog X.w) X.A (eval a X.env) (fun v s₁ => wpAny (model X.prog X.w) X.A (eval b X.env) (fun u s₂ => wpAny (model X.prog X.w) X.A (f v u) Q X.xe s₂) X.xe s₁) X.xe s := by
  refine thn (ha pins s σ H _ I h) fun v s1 ⟨x, H1, I1, r1, q1⟩ => ?_
  refine thn (hb pins s1 σ H1 _ I1 q1) fun u s2 ⟨y, H2, I2, r2, q2⟩ => ?_
  exact hf v u s2 x y H2 I2 r1 r2 q2

theorem pe_op {op : Operator} {r : R2} (ho : OpR X (binaryOp op) r) (ha : PE X a ta) (hb : PE X b tb) : PE X (.BinOp a op b pos) (tOp r ta tb) := by
  intro pins s σ H Q I h
  exact wpAny_BinOp (binT ha hb I h fun v u s2 x y H2 I2 rx ry q => ho pins s2 σ H2 x y v u Q I2 rx ry q)
/-! ### ints -/
theorem opI {f : Value → Value → Sem Value} {C : Int → Int → Prop} {g : Int → Int → Int}
    (rule : ∀ (i j : Int) (t u : Tok) (s : Shared) (Q : Value → Shared → Prop) (E : Value → Shared → Prop), C i j → Q (.int (g i j) s.toks) { s with toks := s.toks + 1 } → wpAny (model X.prog X.w) X.A (f (.int i t) (.int j u)) Q E s) :
    OpR X f (rI C fun i j => .int (g i j)) := by
  intro pins s σ H x y v u Q I rx ry h
  obtain ⟨i, j, rfl, rfl, hc, q⟩ := h
  obtain ⟨t, rfl⟩ := rx
  obtain ⟨t', rfl⟩ := ry
  exact rule i j t t' s _ _ hc ⟨.int (g i j), H, I.tok _, ⟨_, rfl⟩, q⟩
theorem opB0 {f : Value → Value → Sem Value} {g : Int → Int → Bool}
    (rule : ∀ (i j : Int) (t u : Tok) (s : Shared) (Q : Value → Shared → Prop) (E : Value → Shared → Prop), Q (.bool (g i j)) s → wpAny (model X.prog X.w) X.A (f (.int i t) (.int j u)) Q E s) :
    OpR X f (rI0 fun i j => .bl (g i j)) := by
  intro pins s σ H x y v u Q I rx ry h
  obtain ⟨i, j, rfl, rfl, q⟩ := h
  obtain ⟨t, rfl⟩ := rx
  obtain ⟨t', rfl⟩ := ry
  exact rule i j t t' s _ _ ⟨.bl (g i j), H, I, rfl, q⟩

/-- % by a positive divisor of any size -/
theorem op_mod : OpR X (binaryOp .Mod) (rI (fun _ j => 0 < j) fun i j => .int (i % j)) := opI fun i j _ _ _ _ _ hc q => by
  have h1 : (0 : Int) < j := hc
  exact mod_int' (by omega) (by rw [Int.fmod_eq_emod_of_nonneg i (by omega)]; exact q)
/-! ### bools among ints: n += (a < b) -/
end

/-! ### comparisons -/
section
variable {X : Cx} {a b c : Expr} {ta tb tc : TE} {pos : Pos}
theorem op_lt : OpR X (compareOp .Lt) (rI0 fun i j => .bl (decide (i < j))) := opB0 fun _ _ _ _ _ _ _ q => lt_int q
theorem op_le : OpR X (compareOp .LtE) (rI0 fun i j => .bl (decide (i ≤ j))) := opB0 fun _ _ _ _ _ _ _ q => le_int q
/-- a reading of a value as a test -/
def tTest (t : TE) : TT := fun σ H Q => t σ H fun x H' => ∃ k, x = .bl k ∧ Q k H'
/-- a op1 b op2 c -/
def tChain (r r' : R2) (ta tb tc : TE) : TE := fun σ H Q => ta σ H fun x H1 => tb σ H1 fun y H2 => r x y H2 fun z H3 => ∃ k, z = .bl k ∧
  (if k = true then tc σ H3 fun w' H4 => r' y w' H4 Q else Q (.bl false) H3)
theorem pe_chain {op op' : CmpOp} {r r' : R2} (ho : OpR X (compareOp op) r) (ho' : OpR X (compareOp op') r') (ha : PE X a ta) (hb : PE X b tb) (hc : PE X c tc)
    (hm : lastMarks [op, op'] [b, c] = false := by with_unfolding_all rfl) : PE X (.Compare a [op, op'] [b, c] pos) (tChain r r' ta tb tc) := by
  intro pins s σ H Q I h
  refine Compare_chain (thn (ha pins s σ H _ I h) fun v s1 ⟨x, H1, I1, r1, q1⟩ => chain_link (thn (hb pins s1 σ H1 _ I1 q1) fun u s2 ⟨y, H2, I2, r2, q2⟩ =>
    thn (ho pins s2 σ H2 x y v u _ I2 r1 r2 q2) fun d s3 ⟨z, H3, I3, r3, k, e, q3⟩ => ?_)) hm
  subst e
  cases r3
  refine wpAny_truthy_bool ?_
  cases k with
  | false => exact ite_ff ⟨.bl false, H3, I3, rfl, q3⟩
  | true => exact ite_tt (chain_last (thn (hc pins s3 σ H3 _ I3 q3) fun w' s4 ⟨z', H4, I4, r4, q4⟩ => ho' pins s4 σ H4 y z' u w' Q I4 r2 r4 q4))
theorem pt_chain {op op' : CmpOp} {r r' : R2} (ho : OpR X (compareOp op) r) (ho' : OpR X (compareOp op') r') (ha : PE X a ta) (hb : PE X b tb) (hc : PE X c tc)
    (hm : lastMarks [op, op'] [b, c] = false := by with_unfolding_all rfl) : PT X (.Compare a [op, op'] [b, c] pos) (tTest (tChain r r' ta tb tc)) := by
  intro pins s σ H Q I h
  refine isTrue_chain (thn (ha pins s σ H _ I h) fun v s1 ⟨x, H1, I1, r1, q1⟩ => test_link (thn (hb pins s1 σ H1 _ I1 q1) fun u s2 ⟨y, H2, I2, r2, q2⟩ =>
    thn (ho pins s2 σ H2 x y v u _ I2 r1 r2 q2) fun d s3 ⟨z, H3, I3, r3, k, e, q3⟩ => ?_)) hm
  subst e
  cases r3
  refine wpAny_truthy_bool ?_
  cases k with
  | false =>
    obtain ⟨k', e', q'⟩ := q3
    cases e'
    exact ite_ff ⟨H3, I3, q'⟩
  | true =>
    refine ite_tt (test_last (thn (hc pins s3 σ H3 _ I3 q3) fun w' s4 ⟨z', H4, I4, r4, q4⟩ => thn (ho' pins s4 σ H4 y z' u w' _ I4 r2 r4 q4) fun d' s5 ⟨z2, H5, I5, r5, k2, e2, q5⟩ => ?_))
    subst e2
    cases r5
    exact wpAny_truthy_bool ⟨H5, I5, q5⟩

/-! ### truth -/
theorem line63 : (sizeLine : Nat) < 2 ^ 63 := by rw [sizeLine_eq]; decide
/-! ### strs and bytes -/
/-! ### scalar builtins, by CallR -/
theorem vals1 {x : V} {us : List Value} (r : Vals [x] us) : ∃ u, us = [u] ∧ RelV x u := by
  cases r with
  | cons r1 r2 => cases r2; exact ⟨_, rfl, r1⟩
theorem vals2 {x y : V} {us : List Value} (r : Vals [x, y] us) : ∃ u w', us = [u, w'] ∧ RelV x u ∧ RelV y w' := by
  cases r with
  | cons r1 r2 =>
    cases r2 with
    | cons r3 r4 => cases r4; exact ⟨_, _, rfl, r1, r3⟩
theorem call_max2 (hc : X.calm = true) : CallR X (.builtin "max") (fun xs H Q => ∃ i j, xs = [.int i, .int j] ∧ Q (.int (if j > i then j else i)) H) := by
  intro pins s σ H xs us Q I r h
  obtain ⟨i, j, rfl, q⟩ := h
  obtain ⟨u, w', rfl, ⟨t, rfl⟩, ⟨t', rfl⟩⟩ := vals2 r
  refine max_two_ints (I.ok.hd hc) fun h' tk k => ⟨_, H, I.kept k, ?_, q⟩
  by_cases hj : j > i
  · rw [if_pos hj, if_pos hj]; exact ⟨_, rfl⟩
  · rw [if_neg hj, if_neg hj]; exact ⟨_, rfl⟩
theorem call_min2 (hc : X.calm = true) : CallR X (.builtin "min") (fun xs H Q => ∃ i j, xs = [.int i, .int j] ∧ Q (.int (if j < i then j else i)) H) := by
  intro pins s σ H xs us Q I r h
  obtain ⟨i, j, rfl, q⟩ := h
  obtain ⟨u, w', rfl, ⟨t, rfl⟩, ⟨t', rfl⟩⟩ := vals2 r
  refine min_two_ints (I.ok.hd hc) fun h' tk k => ⟨_, H, I.kept k, ?_, q⟩
  by_cases hj : j < i
  · rw [if_pos hj, if_pos hj]; exact ⟨_, rfl⟩
  · rw [if_neg hj, if_neg hj]; exact ⟨_, rfl⟩
end
end L2

namespace L2
open PySem PySem.Spec PyProof.Rows

/-! ### an instance, its attributes a map -/
structure ObjM (h : Heap) (x dx C : Addr) (mA : Str → Option Value) : Prop where
  obj : h.get? x = some (PySem.W.instObj C dx)
  ns : h.Ns1 dx mA
  ne : dx ≠ x

theorem lookIn_ns {h : Heap} {dx : Addr} {mA : Str → Option Value} (n : h.Ns1 dx mA) : ∃ od, h.get? dx = some od ∧ ∀ name, PySem.W.lookIn name od = some (mA name) := by
  obtain ⟨o, es, ep, ho, hd, hk, _, hm⟩ := n
  refine ⟨o, ho, fun name => ?_⟩
  have e := hm name
  unfold nsFind findBy at e
  rw [← Array.find?_toList] at e
  unfold PySem.W.lookIn
  rw [hd]
  dsimp only
  split
  · rename_i y q
    rw [q] at e
    exact congrArg some e
  · rename_i q
    rw [q] at e
    have a : es.toList.any (·.refKey) = false := by
      rw [List.any_eq_false]
      intro y hy
      obtain ⟨z, t, hkey⟩ := hk y (Array.mem_toList_iff.mp hy)
      simp [DictEntry.refKey, hkey]
    have a' : ¬ es.toList.any (·.refKey) = true := by rw [a]; exact Bool.false_ne_true
    rw [if_neg a']
    exact congrArg some e

theorem ObjM.look {h : Heap} {x dx C : Addr} {mA : Str → Option Value} (I : ObjM h x dx C mA) : ∃ od, PySem.W.InstAt h x (PySem.W.instObj C dx) C (some od) ∧ ∀ name, PySem.W.lookIn name od = some (mA name) :=
  let ⟨od, ho, hl⟩ := lookIn_ns I.ns
  ⟨od, ⟨I.obj, rfl, rfl, ho⟩, hl⟩

section
variable {prog : Program} {w : World} {A : Around} {E : Value → Shared → Prop} {s : Shared} {K : PySem.W.Frag} {x dx C f : Addr} {mA : Str → Option Value} {name : Str} {v : Value}

theorem get_map {expr : Bool} {Q : Value → Shared → Prop} (X : K.In s.heap) (I : ObjM s.heap x dx C mA) (hg : PySem.W.plainGet K C name = true) (hh : PySem.W.hasDictIn K C = true)
    (ha : PySem.W.findIn K (.ref C) name = some none) (hv : mA name = some v) (hv' : PySem.W.handedIn v = true) (h : Q v { s with toks := s.toks + 1 }) :
    wpAny (model prog w) A (getAttr (.ref x) name expr) Q E s := by
  obtain ⟨od, J, hl⟩ := I.look
  exact PySem.W.get_value X J (PySem.W.plainGet_of hg).1 (PySem.W.findObj_own hh ha rfl (by rw [hl, hv])) hv' h

theorem get_meth {pl : Sem Bool} {Q : Value × List Value → Shared → Prop} (X : K.In s.heap) (I : ObjM s.heap x dx C mA) (hg : PySem.W.plainGet K C name = true)
    (hf : PySem.W.findIn K (.ref C) name = some (some (.ref f))) (ht : PySem.W.isFn K (.ref f) = true) (hv : mA name = none) (h : Q (.ref f, [.ref x]) s) :
    wpAny (model prog w) A (getMethod (.ref x) name pl) Q E s := by
  obtain ⟨od, J, hl⟩ := I.look
  exact PySem.W.method_fn X J (PySem.W.plainGet_of hg).1 (PySem.W.plainGet_of hg).2 hf (beq_iff_eq.mp ht) (by show (PySem.W.lookIn name od).map (·.isSome) = some false; rw [hl, hv]; rfl) h

theorem set_map {ns : List Str} {Q : Unit → Shared → Prop} (X : K.In s.heap) (I : ObjM s.heap x dx C mA)
    (hs : PySem.W.findIn K (.ref C) "__setattr__" = some (some (.builtin "object.__setattr__"))) (hp : PySem.W.plainOver K C = true) (ht : PySem.W.takerIn K C name = some none) (hh : PySem.W.hasDictIn K C = true)
    (hw : PySem.Within mA ns) (hsz : ns.length ≤ sizeLine)
    (h : ∀ h', ObjM h' x dx C (fun y => if y = name then some v else mA y) → Heap.SameBut dx s.heap h' → Q () { s with heap := h', toks := s.toks + 2 }) :
    wpAny (model prog w) A (setAttr (.ref x) name v) Q E s := by
  obtain ⟨od, J, hl⟩ := I.look
  refine PySem.W.set_plain X J hs (PySem.W.osa_open (s := { s with toks := s.toks + 1 }) (r := none) X J hp ht fun b => ?_)
  obtain ⟨cd, hc, hd'⟩ := PySem.W.any_some hh
  have hx : s.heap.get? x = some ⟨.ref C, some dx, .plain, #[]⟩ := I.obj
  refine wpAny_bind (wpAny_pure (wpAny_bind (wpAny_bind (wpAny_loadPart hx (wpAny_bind (PySem.W.Looks.here (s := { s with toks := s.toks + 1 }) (PySem.W.looks_clsIn X hc) ?_))))))
  rw [hd']
  refine wpAny_pure (a := some dx) (wpAny_bind (wpAny_pure (wpAny_bind ?_)))
  refine wpAny_nsSet1 (s := { s with toks := s.toks + 1 }) I.ns fun h' hn2 hs2 => ?_
  obtain ⟨oD, esD, epD, hoD, hdD, hcD⟩ := hn2.count (PySem.Within.cons name v hw)
  refine wpAny_bind (wpAny_lookBehind hoD (by rw [hdD]; exact pastItsLine_dict (Nat.le_trans hcD (by rw [List.length_cons]; omega))) ?_)
  exact wpAny_pure (h _ ⟨(hs2.2 _ (Ne.symm I.ne)).trans I.obj, hn2, I.ne⟩ hs2)

/-- C(..): the dict at the heap's end, the instance behind it; then its __init__ -/
theorem make_map {R : Result → Shared → Prop} {vs : List Value} {kw : List (Str × Value)} (X : K.In s.heap) (hm : PySem.W.makesIn K C = true)
    (hi : PySem.W.findIn K (.ref C) "__init__" = some (some (.ref f))) (hf : PySem.W.typeIn K (.ref f) = some (.type "function"))
    (h : codeAny (model prog w) (A.under (.builtin "type.__call__" ⟨.ref C :: vs, kw⟩)) (.call (.ref f) ⟨.ref (s.heap.objs.size + 1) :: vs, kw⟩) (PySem.W.InitBack (s.heap.objs.size + 1) R)
      { s with heap := (s.heap.push PySem.W.emptyDict).push (PySem.W.instObj C s.heap.objs.size) }) :
    codeAny (model prog w) A (.call (.ref C) ⟨vs, kw⟩) R s := by
  obtain ⟨hh, g, d, t, os⟩ := s
  exact PySem.W.make_core (PySem.W.makes_of X hm) (PySem.W.looks_findIn X hi) (fun self => PySem.W.bind_fn X self hf) (.inl rfl) h
end

/-! ### the attributes as a list of pairs -/
def putF (f : Str) (v : V) : List (Str × V) → List (Str × V)
  | [] => [(f, v)]
  | (g, x) :: r => if g = f then (g, v) :: r else (g, x) :: putF f v r
theorem lookup_putF (f g : Str) (v : V) : ∀ fs : List (Str × V), (putF f v fs).lookup g = if g = f then some v else fs.lookup g
  | [] => by
    show List.lookup g [(f, v)] = _
    by_cases h : g = f
    · have hb : (g == f) = true := beq_iff_eq.mpr h
      simp only [List.lookup, hb, if_pos h]
    · have hb : (g == f) = false := beq_eq_false_iff_ne.mpr h
      simp only [List.lookup, hb, if_neg h]
  | (k, x) :: r => by
    have ih := lookup_putF f g v r
    rw [show putF f v ((k, x) :: r) = (if k = f then (k, v) :: r else (k, x) :: putF f v r) from rfl]
    by_cases hk : k = f
    · rw [if_pos hk]
      by_cases h : g = k
      · have hb : (g == k) = true := beq_iff_eq.mpr h
        simp only [List.lookup, hb, if_pos (h.trans hk)]
      · have hb : (g == k) = false := beq_eq_false_iff_ne.mpr h
        simp only [List.lookup, hb, if_neg (fun e : g = f => h (e.trans hk.symm))]
    · rw [if_neg hk]
      by_cases h : g = k
      · have hb : (g == k) = true := beq_iff_eq.mpr h
        simp only [List.lookup, hb, if_neg (fun e : g = f => hk (h.symm.trans e))]
      · have hb : (g == k) = false := beq_eq_false_iff_ne.mpr h
        simp only [List.lookup, hb]
        exact ih
theorem keys_putF (f : Str) (v : V) : ∀ fs : List (Str × V), f ∈ (putF f v fs).map (·.1) ∧ ∀ g, g ∈ fs.map (·.1) → g ∈ (putF f v fs).map (·.1)
  | [] => ⟨by simp [putF], fun g h => by simp at h⟩
  | (k, x) :: r => by
    obtain ⟨i1, i2⟩ := keys_putF f v r
    rw [show putF f v ((k, x) :: r) = (if k = f then (k, v) :: r else (k, x) :: putF f v r) from rfl]
    by_cases hk : k = f
    · rw [if_pos hk]
      subst hk
      exact ⟨by simp, fun g h => by simpa using h⟩
    · rw [if_neg hk]
      refine ⟨?_, fun g h => ?_⟩
      · rw [List.map_cons]
        exact List.mem_cons_of_mem _ i1
      · rw [List.map_cons] at h ⊢
        rcases List.mem_cons.mp h with e | e
        · exact List.mem_cons.mpr (.inl e)
        · exact List.mem_cons_of_mem _ (i2 g e)
theorem length_putF (f : Str) (v : V) : ∀ fs : List (Str × V), (putF f v fs).length ≤ fs.length + 1
  | [] => by simp [putF]
  | (k, x) :: r => by
    have ih := length_putF f v r
    rw [show putF f v ((k, x) :: r) = (if k = f then (k, v) :: r else (k, x) :: putF f v r) from rfl]
    by_cases hk : k = f
    · rw [if_pos hk, List.length_cons, List.length_cons]; omega
    · rw [if_neg hk, List.length_cons, List.length_cons]; omega

theorem RelO.some_of {v : V} {o : Option Value} (r : RelO (some v) o) : ∃ u, o = some u ∧ RelV v u := by
  cases o with
  | none => exact (show False from r).elim
  | some u => exact ⟨u, rfl, r⟩
theorem RelO.none_of {o : Option Value} (r : RelO none o) : o = none := by
  cases o with
  | none => rfl
  | some u => exact (show False from r).elim
theorem handed_of {v : V} {u : Value} (r : RelV v u) : PySem.W.handedIn u = true := by
  cases v with
  | non => cases (show u = Value.none from r); rfl
  | bl b => cases (show u = Value.bool b from r); rfl
  | int i => obtain ⟨t, e⟩ := (show ∃ t, u = Value.int i t from r); cases e; rfl
  | str x => obtain ⟨t, e⟩ := (show ∃ t, u = Value.str x t from r); cases e; rfl
  | byt b => obtain ⟨t, e⟩ := (show ∃ t, u = Value.bytes b t from r); cases e; rfl
  | flt b => obtain ⟨t, e⟩ := (show ∃ t, u = Value.float b t from r); cases e; rfl
  | ref a => cases (show u = Value.ref a from r); rfl
  | ty n => cases (show u = Value.type n from r); rfl

section
variable {P : Program} {w : World} {H H' : Hp} {h h' : Heap} {a C dx : Addr} {fs fs' : List (Str × V)}
theorem ins_get (hok : HOk P w H h) (e : H a = some (.ins C dx fs)) : ∃ mA, ObjM h a dx C mA ∧ (∀ f, RelO (fs.lookup f) (mA f)) ∧ PySem.Within mA (fs.map (·.1)) ∧ fs.length ≤ 1000 ∧ H dx = some (.own a) := by
  obtain ⟨d, z, ne, ob, mA, n, r, q⟩ := (show ObjOk P w H h a (.ins C dx fs) from hok a _ e)
  exact ⟨mA, ⟨ob, n, ne⟩, r, q, z, d⟩
end

/-! ### what of the text a class must have -/
structure Cls (K : PySem.W.Frag) (C : Addr) : Prop where
  pg : PySem.W.plainGet K C Str.empty = true
  hd : PySem.W.hasDictIn K C = true
  po : PySem.W.plainOver K C = true
  sa : PySem.W.findIn K (.ref C) "__setattr__" = some (some (.builtin "object.__setattr__"))
theorem Cls.get {K : PySem.W.Frag} {C : Addr} (c : Cls K C) (f : Str) : PySem.W.plainGet K C f = true := c.pg
/-- no class of it has the name -/
def NoAttr (K : PySem.W.Frag) (C : Addr) (f : Str) : Prop := PySem.W.findIn K (.ref C) f = some none
theorem NoAttr.taker {K : PySem.W.Frag} {C : Addr} {f : Str} (n : NoAttr K C f) : PySem.W.takerIn K C f = some none := by
  unfold PySem.W.takerIn
  rw [show PySem.W.findIn K (.ref C) f = some none from n]
  rfl
/-- a constant of the class -/
structure Con (K : PySem.W.Frag) (C : Addr) (f : Str) (v : V) (u : Value) : Prop where
  at_ : PySem.W.findIn K (.ref C) f = some (some u)
  rel : RelV v u
  get : PySem.W.specialIn K u "__get__" = some none
  cp : PySem.W.copiedNames.contains f = false
/-- a method: a plain def of the class or of one above it -/
structure Meth (K : PySem.W.Frag) (C : Addr) (m : Str) (f : Addr) : Prop where
  at_ : PySem.W.findIn K (.ref C) m = some (some (.ref f))
  fn : PySem.W.isFn K (.ref f) = true
  kp : PySem.W.keepIn K (.ref f) = true

section
variable {X : Cx} {pins : List (Addr × Obj)} {σ : St} {H : Hp} {s : Shared} {a C dx : Addr} {fs : List (Str × V)} {f : Str} {v : V} {A : Around} {E : Value → Shared → Prop}

theorem getattr_ok {b : Bool} {Q : Value → Shared → Prop} (I : Inv X pins σ H s) (e : H a = some (.ins C dx fs)) (c : Cls X.K C) (n : NoAttr X.K C f) (l : fs.lookup f = some v)
    (h : ∀ u s', Inv X pins σ H s' → RelV v u → Q u s') : wpAny (model X.prog X.w) A (getAttr (.ref a) f b) Q E s := by
  obtain ⟨mA, O, r, _, _, _⟩ := ins_get I.hok e
  obtain ⟨u, hu, ru⟩ := RelO.some_of (v := v) (o := mA f) (by rw [← l]; exact r f)
  exact get_map I.kIn O (c.get f) c.hd n hu (handed_of ru) (h u _ (I.tok _) ru)

theorem getmeth_ok {m : Str} {g : Addr} {pl : Sem Bool} {Q : Value × List Value → Shared → Prop} (I : Inv X pins σ H s) (e : H a = some (.ins C dx fs)) (c : Cls X.K C) (k : Meth X.K C m g) (l : fs.lookup m = none)
    (h : Q (.ref g, [.ref a]) s) : wpAny (model X.prog X.w) A (getMethod (.ref a) m pl) Q E s := by
  obtain ⟨mA, O, r, _, _, _⟩ := ins_get I.hok e
  have hn : mA m = none := RelO.none_of (by rw [← l]; exact r m)
  exact get_meth I.kIn O (c.get m) k.at_ k.fn hn h

theorem setattr_ok {y : V} {u : Value} {Q : Unit → Shared → Prop} (I : Inv X pins σ H s) (e : H a = some (.ins C dx fs)) (c : Cls X.K C) (n : NoAttr X.K C f) (hl : fs.length < 1000) (ry : RelV y u)
    (h : ∀ s', Inv X pins σ (upd H a (.ins C dx (putF f y fs))) s' → Q () s') : wpAny (model X.prog X.w) A (setAttr (.ref a) f u) Q E s := by
  obtain ⟨mA, O, r, wi, _, ho⟩ := ins_get I.hok e
  have hz : (fs.map (·.1)).length ≤ sizeLine := by rw [List.length_map, sizeLine_eq]; omega
  refine set_map I.kIn O c.sa c.po n.taker c.hd wi hz fun h' O' sb => h _ ?_
  have hd : ∃ o, h'.get? dx = some o := let ⟨o, _, _, e', _⟩ := O'.ns; ⟨o, e'⟩
  refine I.write (x := a) (e := dx) (by rw [e]; exact True.intro) (.inr ho) (fun b q hb z => (sb.2 b hb).trans z) hd ?_
  refine ⟨by rw [upd_ne O.ne]; exact ho, ?_, O.ne, O'.obj, _, O'.ns, fun g => ?_, fun g hg => ?_⟩
  · have := length_putF f y fs; omega
  · show RelO ((putF f y fs).lookup g) (if g = f then some u else mA g)
    rw [lookup_putF]
    by_cases q : g = f
    · rw [if_pos q, if_pos q]; exact ry
    · rw [if_neg q, if_neg q]; exact r g
  · by_cases q : g = f
    · rw [q]; exact (keys_putF f y fs).1
    · refine (keys_putF f y fs).2 g (wi g fun z => hg ?_)
      show (if g = f then some u else mA g) = none
      rw [if_neg q]; exact z

/-- a new instance, tracked, without attributes -/
theorem Inv.made (I : Inv X pins σ H s) : Inv X pins σ (upd (upd H s.heap.objs.size (.own (s.heap.objs.size + 1))) (s.heap.objs.size + 1) (.ins C s.heap.objs.size []))
    { s with heap := (s.heap.push PySem.W.emptyDict).push (PySem.W.instObj C s.heap.objs.size) } := by
  have e1 : (s.heap.push PySem.W.emptyDict).get? s.heap.objs.size = some PySem.W.emptyDict := Heap.get?_push_size s.heap rfl
  have e2 : ((s.heap.push PySem.W.emptyDict).push (PySem.W.instObj C s.heap.objs.size)).get? (s.heap.objs.size + 1) = some (PySem.W.instObj C s.heap.objs.size) := by
    have := Heap.get?_push_size (s.heap.push PySem.W.emptyDict) (o := PySem.W.instObj C s.heap.objs.size) rfl
    rwa [Heap.size_push] at this
  have e3 : (s.heap.push PySem.W.emptyDict).Ns s.heap.objs.size (fun _ => none) := ⟨PySem.W.emptyDict, #[], _, e1, rfl, (fun e he => absurd he (by simp)), fun _ => rfl⟩
  have I1 := I.laid (a := s.heap.objs.size) (o := .own (s.heap.objs.size + 1)) (h' := s.heap.push PySem.W.emptyDict) (t' := s.toks) (fun b u q => Heap.get?_push_of_some _ q) (Nat.le_refl _) ⟨_, e1⟩
  refine I1.laid (a := s.heap.objs.size + 1) (o := .ins C s.heap.objs.size []) (t' := s.toks) (fun b u q => Heap.get?_push_of_some _ q) (Nat.le_of_eq (Heap.size_push _ _)) ?_
  have ne : s.heap.objs.size ≠ s.heap.objs.size + 1 := Nat.ne_of_lt (Nat.lt_succ_self _)
  refine ⟨by rw [upd_ne ne, upd_same], Nat.zero_le _, ne, e2, fun _ => none, (Heap.Ns1.of_empty e3).at fun o q => Heap.get?_push_of_some _ q, fun _ => True.intro, fun y hy => absurd rfl hy⟩

/-- e.f where nothing but the object is asked: through attributeBase (super) and the last hold -/
theorem attr_of {prog : Program} {w : World} {env : Env} {e : Expr} {f : Str} {pos : Pos} {s : Shared} {Q : Value → Shared → Prop} (hb : attributeBase e f env (eval e env) = eval e env)
    (h : wpAny (model prog w) A (eval e env) (fun o s₁ => wpAny (model prog w) A (getAttr o f true) Q E s₁) E s) : wpAny (model prog w) A (eval (.Attribute e f pos) env) Q E s :=
  Attribute_any_ h (by rw [arm_eval_Attribute, hb])
end

/-! ### readings and rules -/
/-- e.f, an attribute of the instance -/
def tFld (K : PySem.W.Frag) (ta : TE) (f : Str) : TE := fun σ H Q => ta σ H fun x H1 => ∃ a C dx fs v, x = .ref a ∧ H1 a = some (.ins C dx fs) ∧ Cls K C ∧ NoAttr K C f ∧ fs.lookup f = some v ∧ Q v H1
/-- e.f = value -/
def sFld (K : PySem.W.Frag) (ta tv : TE) (f : Str) : TS := fun D σ H => tv σ H fun y H1 => ta σ H1 fun x H2 => ∃ a C dx fs, x = .ref a ∧ H2 a = some (.ins C dx fs) ∧ Cls K C ∧ NoAttr K C f ∧ fs.length < 1000 ∧
  D.nx σ (upd H2 a (.ins C dx (putF f y fs)))
/-- an augmented operator on two values -/
def InOp (X : Cx) (op : Operator) (rd : V → V → Hp → VK → Prop) : Prop :=
  ∀ (pins : List (Addr × Obj)) (s : Shared) (σ : St) (H : Hp) (x y : V) (u v : Value) (Q : VK), Inv X pins σ H s → RelV x u → RelV y v → rd x y H Q → wpAny (model X.prog X.w) X.A (inplaceOp op u v) (EP X pins σ Q) X.xe s
/-- e.f op= value -/
def sFldAug (K : PySem.W.Frag) (ta tv : TE) (rd : V → V → Hp → VK → Prop) (f : Str) : TS := fun D σ H => ta σ H fun x H1 => ∃ a C dx fs v, x = .ref a ∧ H1 a = some (.ins C dx fs) ∧ Cls K C ∧ NoAttr K C f ∧ fs.lookup f = some v ∧
  tv σ H1 fun y H2 => rd v y H2 fun z H3 => ∃ dx' fs', H3 a = some (.ins C dx' fs') ∧ fs'.length < 1000 ∧ D.nx σ (upd H3 a (.ins C dx' (putF f z fs')))

section
variable {X : Cx} {o e value : Expr} {f : Str} {pos pos' tpos : Pos} {ta tv : TE}
theorem pe_fld (he : PE X e ta) (hb : attributeBase e f X.env (eval e X.env) = eval e X.env) : PE X (.Attribute e f pos) (tFld X.K ta f) := by
  intro pins s σ H Q I h
  refine attr_of hb (thn (he pins s σ H _ I h) fun u s1 ⟨x, H1, I1, rx, a, C, dx, fs, v, ex, ea, c, n, l, q⟩ => ?_)
  subst ex
  obtain rfl : u = Value.ref a := rx
  exact getattr_ok I1 ea c n l fun u' s2 I2 ru => ⟨v, H1, I2, ru, q⟩
theorem ps_fld (ha : PE X o ta) (hv : PE X value tv) (hs : swapsWith value (some (.Attribute o f pos')) pos.line X.env = pure false) : PS X (.Assign [.Attribute o f pos'] value pos) (sFld X.K ta tv f) := by
  intro pins s σ H D I h
  refine plainObj_wpAny_Assign_Attribute (thn (hv pins s σ H _ I h) fun u s1 ⟨y, H1, I1, ry, q⟩ => thn (ha pins s1 σ H1 _ I1 q) fun ov s2 ⟨x, H2, I2, rx, a, C, dx, fs, ex, ea, c, n, l, q2⟩ => ?_) hs
  subst ex
  obtain rfl : ov = Value.ref a := rx
  exact setattr_ok I2 ea c n l ry fun s3 I3 => ⟨σ, _, I3, q2⟩
theorem ps_fldaug {op : Operator} {rd : V → V → Hp → VK → Prop} (ha : PE X o ta) (hv : PE X value tv) (hop : InOp X op rd) : PS X (.AugAssign (.Attribute o f tpos) op value pos) (sFldAug X.K ta tv rd f) := by
  intro pins s σ H D I h
  refine wpAny_AugAssign_AttributeAny (thn (ha pins s σ H _ I h) fun ov s1 ⟨x, H1, I1, rx, a, C, dx, fs, v, ex, ea, c, n, l, q⟩ => ?_)
  subst ex
  obtain rfl : ov = Value.ref a := rx
  refine getattr_ok I1 ea c n l fun u s2 I2 ru => thn (hv pins s2 σ H1 _ I2 q) fun w3 s3 ⟨y, H2, I3, ry, q3⟩ => thn (hop pins s3 σ H2 v y u w3 _ I3 ru ry q3) fun w4 s4 ⟨z, H3, I4, rz, dx', fs', ea', l', q4⟩ => ?_
  exact setattr_ok I4 ea' c n l' rz fun s5 I5 => ⟨σ, _, I5, q4⟩
def rAdd : V → V → Hp → VK → Prop := fun x y H Q => ∃ i j, x = .int i ∧ y = .int j ∧ Q (.int (i + j)) H
def rSub : V → V → Hp → VK → Prop := fun x y H Q => ∃ i j, x = .int i ∧ y = .int j ∧ Q (.int (i - j)) H
theorem in_add : InOp X .Add rAdd := by
  rintro pins s σ H x y u v Q I rx ry ⟨i, j, rfl, rfl, q⟩
  obtain ⟨t, rfl⟩ := (show ∃ t, u = Value.int i t from rx)
  obtain ⟨t', rfl⟩ := (show ∃ t', v = Value.int j t' from ry)
  exact PyProof.Rows.iadd_int ⟨.int (i + j), H, I.tok _, ⟨_, rfl⟩, q⟩
theorem in_sub : InOp X .Sub rSub := by
  rintro pins s σ H x y u v Q I rx ry ⟨i, j, rfl, rfl, q⟩
  obtain ⟨t, rfl⟩ := (show ∃ t, u = Value.int i t from rx)
  obtain ⟨t', rfl⟩ := (show ∃ t', v = Value.int j t' from ry)
  exact PyProof.Rows.isub_int ⟨.int (i - j), H, I.tok _, ⟨_, rfl⟩, q⟩

end

/-! ### isinstance -/
section
variable {X : Cx} {pins : List (Addr × Obj)} {σ : St} {H : Hp} {s : Shared} {A : Around} {E : Value → Shared → Prop} {Q : Value → Shared → Prop} {c : Value} {b : Bool}
/-- the type of a value, as the fragment's deciders take it; for an instance its class -/
inductive TyOf (K : PySem.W.Frag) (H : Hp) : V → Value → Prop where
  | non : TyOf K H .non (.type "NoneType")
  | bl (x : Bool) : TyOf K H (.bl x) (.type "bool")
  | int (i : Int) : TyOf K H (.int i) (.type "int")
  | str (x : Str) : TyOf K H (.str x) (.type "str")
  | flt (x : UInt64) : TyOf K H (.flt x) (.type "float")
  | lst {a : Addr} {xs : List V} (e : H a = some (.lst xs)) : TyOf K H (.ref a) (.type "list")
  | frz {a : Addr} {o : Obj} {xs : List V} (e : H a = some (.frz o (.lst xs))) : TyOf K H (.ref a) (.type "list")
  | tup {a : Addr} {xs : List V} (e : H a = some (.tup xs)) : TyOf K H (.ref a) (.type "tuple")
  | dK {a : Addr} {kvs : List (Key × V)} (e : H a = some (.dK kvs)) : TyOf K H (.ref a) (.type "dict")
  | dT {a : Addr} {kvs : List (List Key × V)} (e : H a = some (.dT kvs)) : TyOf K H (.ref a) (.type "dict")
  | ins {a C dx : Addr} {fs : List (Str × V)} (e : H a = some (.ins C dx fs)) (cl : Cls K C) (ha : PySem.W.findIn K (.ref C) "__class__" = some (some (.builtin "object.__class__")))
      (hn : PySem.W.specialIn K (.builtin "object.__class__") "__get__" = some (some (.builtin "getset_descriptor.__get__"))) (htk : PySem.W.takesIn K (.builtin "object.__class__") = some true)
      (hm : PySem.W.mroIn K C (.type "object") = some true) : TyOf K H (.ref a) (.ref C)
end
end L2

namespace L2
open PySem PySem.Spec PyProof.Rows

/-! ### room -/
structure Room (k : Nat) (A : Around) : Prop where
  hd : A.handled = none
  dp : A.depth + 3 * k + 5 < recursionLimit
  un : A.units + 16 * k + 200 < cLine
theorem Room.mono {j k : Nat} {A : Around} (r : Room k A) (h : j ≤ k) : Room j A := ⟨r.hd, by have := r.dp; omega, by have := r.un; omega⟩
theorem Room.deeper {k : Nat} {A : Around} (r : Room (k + 1) A) (env : Env) : Room k (A.deeper env) :=
  ⟨r.hd, by have := r.dp; show A.depth + 1 + 3 * k + 5 < _; omega, by have := r.un; show A.units + 3 + 16 * k + 200 < _; omega⟩
theorem make_depth {A : Around} {C : Addr} {us : List Value} {kw : List (Str × Value)} : (A.under (.builtin "type.__call__" ⟨.ref C :: us, kw⟩)).depth = A.depth + 1 := by
  first | rfl | simp [Around.under, Code.weight, Code.isCreation, Code.isGuard, Code.isCaller, Code.frames, Code.isFrame, guardIds]
theorem make_units {A : Around} {C : Addr} {us : List Value} {kw : List (Str × Value)} : (A.under (.builtin "type.__call__" ⟨.ref C :: us, kw⟩)).units = A.units + 1 := by
  first | rfl | simp [Around.under, Code.cUnits, Code.frames, Code.isFrame]
theorem Room.make {k : Nat} {A : Around} (r : Room (k + 1) A) (C : Addr) (us : List Value) (kw : List (Str × Value)) : Room k (A.under (.builtin "type.__call__" ⟨.ref C :: us, kw⟩)) :=
  ⟨r.hd, by have := r.dp; rw [make_depth]; omega, by have := r.un; rw [make_units]; omega⟩
theorem Room.depth {k : Nat} {A : Around} (r : Room k A) : A.depth < recursionLimit := by have := r.dp; omega
/-! ### argument lists and displays -/
def tNil : TA := fun _ H Q => Q [] H
def tCons (ta : TE) (tr : TA) : TA := fun σ H Q => ta σ H fun x H1 => tr σ H1 fun xs H2 => Q (x :: xs) H2
section
variable {X : Cx} {e : Expr} {es : List Expr} {te : TE} {t : TA} {pos : Pos}
theorem pa_nil : PA X [] tNil := fun _ _ _ _ H Q I h => Calls.spliced_nil ⟨[], H, I, .nil, h⟩
theorem pa_cons (ha : PE X e te) (hr : PA X es t) (hs : starEach (e :: es) X.env = (false, eval e X.env) :: starEach es X.env := by rfl) : PA X (e :: es) (tCons te t) := by
  intro pos pins s σ H Q I h
  rw [hs]
  show wpAny _ _ (spliced ((false, eval e X.env) :: backTo pos (starEach es X.env))) _ _ s
  refine Calls.spliced_cons (thn (ha pins s σ H _ I h) fun u s1 ⟨x, H1, I1, r1, q1⟩ => ?_)
  exact thn (hr pos pins s1 σ H1 _ I1 q1) fun us s2 ⟨xs, H2, I2, r2, q2⟩ => ⟨x :: xs, H2, I2, .cons r1 r2, q2⟩

def tLst (t : TA) : TE := fun σ H Q => t σ H fun xs H1 => xs.length ≤ sizeLine ∧ ∀ p, H1 p = none → Q (.ref p) (upd H1 p (.lst xs))
theorem pe_lst (h : PA X es t) : PE X (.List es pos) (tLst t) := by
  intro pins s σ H Q I hq
  refine wpAny_List_spliced (thn (h pos pins s σ H _ I hq) fun us s1 ⟨xs, H1, I1, r, z, q⟩ => ⟨by rw [← r.length]; exact z, ?_⟩)
  have hf : H1 s1.heap.objs.size = none := I1.hok.fresh (Nat.le_refl _)
  refine ⟨.ref s1.heap.objs.size, upd H1 s1.heap.objs.size (.lst xs), I1.laid (t' := s1.toks) (fun b u e => Heap.get?_push_of_some _ e) (Nat.le_refl _) ?_, rfl, q _ hf⟩
  exact ⟨z, us, 0, r, Heap.get?_push_size _ rfl⟩
end

/-! ### what a def promises -/
/-- a def's promise: the bound arguments in the parameters' order, the heap, the wanted end, the wanted exception -/
abbrev Sp := List V → Hp → VK → XK → Prop
/-- how an exception lies behind a call (file 08 gives it): the callers' frames, abstract heap and state ahead of the call, the wish, the exception, the state -/
abbrev CXT := List Env → Hp → Shared → XK → Value → Shared → Prop

/-- the state at a call -/
structure Env0 (P : Program) (w : World) (K : PySem.W.Frag) (mg : Str → Option Value) (base : Heap) (A : Around) (outer : List Env) (s : Shared) (H : Hp) : Prop where
  frames : A.frames = some outer
  mod : Mod K mg base
  bs : ∀ b o, base.get? b = some o → s.heap.get? b = some o ∧ H b = none
  bsz : base.objs.size ≤ s.heap.objs.size
  funs : s.heap.FunFrames base outer
  frf : ∀ b ∈ frs outer, H b = none
  hok : HOk P w H s.heap
  bare : AllBare s.gens
/-- a call's end -/
def CE (outer : List Env) (P : Program) (w : World) (H : Hp) (s : Shared) (Q : VK) (u : Value) (s' : Shared) : Prop :=
  ∃ v H', s'.os = s.os ∧ AllBare s'.gens ∧ Un (frs outer) [] H H' s.heap s'.heap ∧ HOk P w H' s'.heap ∧ RelV v u ∧ Q v H'
def CR (CX : CXT) (outer : List Env) (P : Program) (w : World) (H : Hp) (s : Shared) (Q : VK) (E : XK) (r : Result) (s' : Shared) : Prop :=
  match r with
  | .ok (.ret u) => CE outer P w H s Q u s'
  | .ok _ => False
  | .error e => CX outer H s E e s'
structure FnOk (P : Program) (w : World) (K : PySem.W.Frag) (mg : Str → Option Value) (base : Heap) (CX : CXT) (k : Nat) (f : Addr) (fd : FuncData) (ps : List Str) (sp : Sp) : Prop where
  len : ∀ vs H Q E, sp vs H Q E → vs.length = ps.length
  run : ∀ (A : Around) (outer : List Env) (s : Shared) (H : Hp) (args : Args) (us : List Value) (vs : List V) (Q : VK) (E : XK), Room k A → Env0 P w K mg base A outer s H → BindsTo s fd args (ps.zip us) → Vals vs us → sp vs H Q E →
    codeAny (model P w) A (.call (.ref f) args) (CR CX outer P w H s Q E) s
theorem Env0.make {P : Program} {w : World} {K : PySem.W.Frag} {mg : Str → Option Value} {base : Heap} {A : Around} {outer : List Env} {s : Shared} {H : Hp} (e : Env0 P w K mg base A outer s H) (C : Addr) (us : List Value) (kw : List (Str × Value)) :
    Env0 P w K mg base (A.under (.builtin "type.__call__" ⟨.ref C :: us, kw⟩)) outer s H := ⟨by first | exact e.frames | (simpa [Around.under, Code.envs, Code.isFrame, pushEnvs] using e.frames), e.mod, e.bs, e.bsz, e.funs, e.frf, e.hok, e.bare⟩
section
variable {X : Cx} {pins : List (Addr × Obj)} {σ : St} {H : Hp} {s s' : Shared}
/-- from a body: what a callee wants -/
theorem Inv.env0 (I : Inv X pins σ H s) : Env0 X.prog X.w X.K X.mg X.base X.A X.stack s H :=
  ⟨I.ok.frames, I.ok.mod, I.bs, Nat.le_trans I.ok.bsz I.sz, I.stack, I.stkFree, I.hok, I.bare⟩
/-- behind a call -/
theorem Inv.after {Q : VK} {u : Value} (I : Inv X pins σ H s) (h : CE X.stack X.prog X.w H s Q u s') : EP X pins σ Q u s' := by
  obtain ⟨v, H', os, bare, un, hok, r, q⟩ := h
  obtain ⟨hh, g, d, t, os'⟩ := s'
  obtain rfl : os' = s.os := os
  exact ⟨v, H', I.call (h' := hh) (g' := g) (d' := d) (t' := t) (ch := []) un hok bare (fun b z => absurd z (by simp)), r, q⟩
end

/-! ### calls -/
/-- f(..): the written arguments, then the defaults dvs; E: what is wanted of an exception -/
def tCall (sp : Sp) (dvs : List V) (E : XK) (t : TA) : TE := fun σ H Q => t σ H fun vs H1 => sp (vs ++ dvs) H1 Q E
/-- o.m(..) of an instance of the class at C -/
def tMeth (C : Addr) (m : Str) (sp : Sp) (dvs : List V) (E : XK) (ta : TE) (t : TA) : TE := fun σ H Q => ta σ H fun x H1 => ∃ a dx fs, x = .ref a ∧ H1 a = some (.ins C dx fs) ∧ fs.lookup m = none ∧
  t σ H1 fun vs H2 => sp (x :: (vs ++ dvs)) H2 Q E
/-- C(..): a new instance and its dict, then __init__ -/
def tMake (C : Addr) (sp : Sp) (dvs : List V) (E : XK) (t : TA) : TE := fun σ H Q => t σ H fun vs H1 => ∀ x dx, H1 x = none → H1 dx = none → dx ≠ x →
  sp (.ref x :: (vs ++ dvs)) (upd (upd H1 dx (.own x)) x (.ins C dx [])) (fun v H2 => v = .non ∧ Q (.ref x) H2) E

/-- how the parameters are bound: us the positional arguments, kw the keywords' values by name, ds the defaults that fill up -/
def Binds (K : PySem.W.Frag) (fd : FuncData) (ps : List Str) (ds : List Value) : Prop :=
  ∀ (s : Shared) (us : List Value), K.In s.heap → (us ++ ds).length = ps.length → BindsTo s fd ⟨us, []⟩ (ps.zip (us ++ ds))
/-- every parameter is given -/
theorem Binds.all {K : PySem.W.Frag} {fd : FuncData} {ps : List Str} (h : ∀ us : List Value, us.length = ps.length → bindArgs fd ⟨us, []⟩ = pure (ps.zip us)) : Binds K fd ps [] := fun s us _ hl => by
  rw [List.append_nil] at hl ⊢
  exact .of_eq (h us hl)

/-- an exception of a callee reaches what this body wants of exceptions -/
def Passes (CX : CXT) (X : Cx) (E : XK) : Prop := ∀ (pins : List (Addr × Obj)) (σ : St) (H : Hp) (s : Shared) (e : Value) (s' : Shared), Inv X pins σ H s → CX X.stack H s E e s' → X.xe e s'

section
variable {X : Cx} {CX : CXT} {k : Nat} {f C : Addr} {fd : FuncData} {ps : List Str} {sp : Sp} {dvs : List V} {ds : List Value} {E : XK} {x m : Str} {p pos apos : Pos} {e o : Expr} {es : List Expr} {ta : TE} {t : TA}

/-- the callee runs -/
theorem run_fn {pins : List (Addr × Obj)} {σ : St} {H : Hp} {s : Shared} {Q : VK} {us : List Value} {vs : List V} (F : FnOk X.prog X.w X.K X.mg X.base CX k f fd ps sp) (hr : Room k X.A) (hb : Binds X.K fd ps ds) (hd : Vals dvs ds) (hx : Passes CX X E)
    (I : Inv X pins σ H s) (r : Vals vs us) (h : sp (vs ++ dvs) H Q E) : wpAny (model X.prog X.w) X.A (call (.ref f) us) (EP X pins σ Q) X.xe s := by
  have r2 : Vals (vs ++ dvs) (us ++ ds) := r.append hd
  have hl : (us ++ ds).length = ps.length := by rw [← r2.length]; exact F.len _ _ _ _ h
  refine wpAny_call (codeAny_mono (F.run X.A X.stack s H ⟨us, []⟩ (us ++ ds) (vs ++ dvs) Q E hr I.env0 (hb s us I.kIn hl) r2 h) fun r s' hq => ?_)
  cases r with
  | error e => exact hx pins σ H s e s' I hq
  | ok fl =>
    cases fl with
    | ret u => exact I.after hq
    | next => exact False.elim hq
    | brk => exact False.elim hq
    | cont => exact False.elim hq

theorem pe_call (F : FnOk X.prog X.w X.K X.mg X.base CX k f fd ps sp) (hr : Room k X.A) (hg : Gl X x) (hm : X.mg x = some (.ref f)) (hk : PySem.W.keepIn X.K (.ref f) = true) (hb : Binds X.K fd ps ds) (hd : Vals dvs ds) (hx : Passes CX X E)
    (ha : PA X (e :: es) t) (hdb : (x == ("__debug__" : Str)) = false := by decide) (he : starEach (e :: es) X.env = (false, eval e X.env) :: starEach es X.env := by rfl) (hpl : (backTo pos (starEach es X.env)).any (·.1) = false := by rfl) :
    PE X (.Call (.Name x p) (e :: es) [] pos) (tCall sp dvs E t) := by
  intro pins s σ H Q I h
  refine wpAny_Call_Name_kw (ld_glob I hg hm ?_ hdb)
  refine PySem.W.callWith_K (h₀ := X.base) I.ok.mod.kin hk (thn (ha pos pins s σ H _ I h) fun us s1 ⟨vs, H1, I1, r, q⟩ => ⟨I1.kIn, ?_⟩) he hpl
  exact run_fn F hr hb hd hx I1 r q
/-- o.m(e, ..) -/
theorem pe_meth {pl : Sem Bool} (he : PE X o ta) (c : Cls X.K C) (hm : Meth X.K C m f) (F : FnOk X.prog X.w X.K X.mg X.base CX k f fd ps sp) (hr : Room k X.A) (hb : Binds X.K fd ps ds) (hd : Vals dvs ds) (hx : Passes CX X E) (ha : PA X (e :: es) t)
    (hst : starEach (e :: es) X.env = (false, eval e X.env) :: starEach es X.env := by rfl) (hpl : (backTo pos (starEach es X.env)).any (·.1) = false := by rfl)
    (ht : eval (.Call (.Attribute o m apos) (e :: es) [] pos) X.env = (do
      let ov ← eval o X.env
      standAt apos.atName
      let (f, first) ← holding [ov] (getMethod ov m pl)
      callWith pos f first (backTo pos (starEach (e :: es) X.env)) (backToKw pos (keywordEach [] X.env))) := by rfl) :
    PE X (.Call (.Attribute o m apos) (e :: es) [] pos) (tMeth C m sp dvs E ta t) := by
  intro pins s σ H Q I h
  refine PySem.W.methodCall_KW (pl := pl) (thn (he pins s σ H _ I h) fun u s1 ⟨x, H1, I1, rx, a, dx, fs, ex, ea, l, q⟩ => ?_) ht
  subst ex
  obtain rfl : u = Value.ref a := rx
  refine getmeth_ok I1 ea c hm l ?_
  refine PySem.W.callWith_K (first := [.ref a]) (h₀ := X.base) I.ok.mod.kin hm.kp (thn (ha pos pins s1 σ H1 _ I1 q) fun us s2 ⟨vs, H2, I2, r, q2⟩ => ⟨I2.kIn, ?_⟩) hst hpl
  exact run_fn (us := .ref a :: us) (vs := .ref a :: vs) F hr hb hd hx I2 (.cons rfl r) q2
/-- o.m() -/
theorem pe_meth0 {pl : Sem Bool} (he : PE X o ta) (c : Cls X.K C) (hm : Meth X.K C m f) (F : FnOk X.prog X.w X.K X.mg X.base CX k f fd ps sp) (hr : Room k X.A) (hb : Binds X.K fd ps ds) (hd : Vals dvs ds) (hx : Passes CX X E)
    (ht : eval (.Call (.Attribute o m apos) [] [] pos) X.env = (do
      let ov ← eval o X.env
      standAt apos.atName
      let (f, first) ← holding [ov] (getMethod ov m pl)
      callWith pos f first (backTo pos (starEach [] X.env)) (backToKw pos (keywordEach [] X.env))) := by rfl) :
    PE X (.Call (.Attribute o m apos) [] [] pos) (tMeth C m sp dvs E ta tNil) := by
  intro pins s σ H Q I h
  refine PySem.W.methodCall_KW (pl := pl) (thn (he pins s σ H _ I h) fun u s1 ⟨x, H1, I1, rx, a, dx, fs, ex, ea, l, q⟩ => ?_) ht
  subst ex
  obtain rfl : u = Value.ref a := rx
  refine getmeth_ok I1 ea c hm l ?_
  exact PySem.W.callWith_K0 (first := [.ref a]) I1.kIn hm.kp (run_fn (us := [.ref a]) (vs := [.ref a]) F hr hb hd hx I1 (.cons rfl .nil) q)

/-- what a class must have to be made -/
structure Mk (K : PySem.W.Frag) (C f : Addr) : Prop where
  makes : PySem.W.makesIn K C = true
  init : PySem.W.findIn K (.ref C) "__init__" = some (some (.ref f))
  fn : PySem.W.isFn K (.ref f) = true
  kp : PySem.W.keepIn K (.ref C) = true

theorem run_make {pins : List (Addr × Obj)} {σ : St} {H : Hp} {s : Shared} {Q : VK} {us : List Value} {vs : List V} (M : Mk X.K C f) (F : FnOk X.prog X.w X.K X.mg X.base CX k f fd ps sp) (hr : Room (k + 1) X.A) (hb : Binds X.K fd ps ds) (hd : Vals dvs ds)
    (hx : Passes CX X E) (I : Inv X pins σ H s) (r : Vals vs us)
    (h : ∀ x dx, H x = none → H dx = none → dx ≠ x → sp (.ref x :: (vs ++ dvs)) (upd (upd H dx (.own x)) x (.ins C dx [])) (fun v H2 => v = .non ∧ Q (.ref x) H2) E) :
    wpAny (model X.prog X.w) X.A (call (.ref C) us) (EP X pins σ Q) X.xe s := by
  have hq := h (s.heap.objs.size + 1) s.heap.objs.size (I.hok.fresh (Nat.le_succ _)) (I.hok.fresh (Nat.le_refl _)) (Nat.ne_of_lt (Nat.lt_succ_self _))
  have I2 := Inv.made (C := C) I
  have r2 : Vals (V.ref (s.heap.objs.size + 1) :: (vs ++ dvs)) (Value.ref (s.heap.objs.size + 1) :: (us ++ ds)) := .cons rfl (r.append hd)
  have hl : (Value.ref (s.heap.objs.size + 1) :: us ++ ds).length = ps.length := by
    have e := r2.length
    rw [F.len _ _ _ _ hq] at e
    exact e.symm
  refine wpAny_call (make_map (f := f) I.kIn M.makes M.init (beq_iff_eq.mp M.fn) (codeAny_mono (F.run _ X.stack _ _ ⟨Value.ref (s.heap.objs.size + 1) :: us, []⟩ (Value.ref (s.heap.objs.size + 1) :: (us ++ ds)) _ _ E (hr.make C us [])
    (I2.env0.make C us []) (hb _ (Value.ref (s.heap.objs.size + 1) :: us) I2.kIn hl) r2 hq) fun r s' hq' => ?_))
  cases r with
  | error e => exact hx pins σ _ _ e s' I2 hq'
  | ok fl =>
    cases fl with
    | ret u =>
      obtain ⟨v, H', I3, rv, ev, q3⟩ := I2.after hq'
      subst ev
      exact ⟨rv, ⟨V.ref (s.heap.objs.size + 1), H', I3, rfl, q3⟩⟩
    | next => exact False.elim hq'
    | brk => exact False.elim hq'
    | cont => exact False.elim hq'
theorem pe_make (M : Mk X.K C f) (F : FnOk X.prog X.w X.K X.mg X.base CX k f fd ps sp) (hr : Room (k + 1) X.A) (hg : Gl X x) (hm : X.mg x = some (.ref C)) (hb : Binds X.K fd ps ds) (hd : Vals dvs ds) (hx : Passes CX X E)
    (ha : PA X (e :: es) t) (hdb : (x == ("__debug__" : Str)) = false := by decide) (he : starEach (e :: es) X.env = (false, eval e X.env) :: starEach es X.env := by rfl) (hpl : (backTo pos (starEach es X.env)).any (·.1) = false := by rfl) :
    PE X (.Call (.Name x p) (e :: es) [] pos) (tMake C sp dvs E t) := by
  intro pins s σ H Q I h
  refine wpAny_Call_Name_kw (ld_glob I hg hm ?_ hdb)
  refine PySem.W.callWith_K (h₀ := X.base) I.ok.mod.kin M.kp (thn (ha pos pins s σ H _ I h) fun us s1 ⟨vs, H1, I1, r, q⟩ => ⟨I1.kIn, ?_⟩) he hpl
  exact run_make M F hr hb hd hx I1 r q
theorem pe_make0 (M : Mk X.K C f) (F : FnOk X.prog X.w X.K X.mg X.base CX k f fd ps sp) (hr : Room (k + 1) X.A) (hg : Gl X x) (hm : X.mg x = some (.ref C)) (hb : Binds X.K fd ps ds) (hd : Vals dvs ds) (hx : Passes CX X E)
    (hdb : (x == ("__debug__" : Str)) = false := by decide) : PE X (.Call (.Name x p) [] [] pos) (tMake C sp dvs E tNil) := by
  intro pins s σ H Q I h
  refine wpAny_Call_Name_kw (ld_glob I hg hm ?_ hdb)
  exact PySem.W.callWith_K0 I.kIn M.kp (run_make (us := []) M F hr hb hd hx I .nil h)
end

/-! ### keywords -/
section
variable {X : Cx} {CX : CXT} {k : Nat} {f C : Addr} {fd : FuncData} {ps ks : List Str} {sp : Sp} {E : XK} {x m : Str} {p pos apos kpos : Pos} {e o : Expr} {es : List Expr} {kws : List Keyword} {te ta : TE} {t tk : TA} {nm : Option Str}
/-- how a call with keywords binds: g puts the positional values us and the keywords' values ws (names ks) in the parameters' order, defaults among them -/
structure KBinds (K : PySem.W.Frag) (fd : FuncData) (ps ks : List Str) (g : List Value → List Value → List Value) (gV : List V → List V → List V) : Prop where
  to : ∀ (s : Shared) (us ws : List Value), K.In s.heap → (g us ws).length = ps.length → BindsTo s fd ⟨us, ks.zip ws⟩ (ps.zip (g us ws))
  rel : ∀ {vs : List V} {us : List Value} {zs : List V} {ws : List Value}, Vals vs us → Vals zs ws → Vals (gV vs zs) (g us ws)
variable {g : List Value → List Value → List Value} {gV : List V → List V → List V}
end

/-! ### a def's body keeps its promise -/
/-- names: the parameters first -/
structure FnScope (N P : List Str) (sc : Scope) : Prop where
  kind : sc.kind = .function
  co : sc.isCoroutine = false
  gen : sc.isGenerator = false
  nd : N.Nodup
  pre : N.take P.length = P
  par : ∀ x ∈ P, sc.names.lookup x = some .local ∨ sc.names.lookup x = some .cell
  nofree : ∀ y ∈ sc.names, y.2 ≠ .free

theorem bindL_out {kindOf : Str → Option NameKind} {x : Str} : ∀ {binds : List (Str × Value)} {m : Str → Option Value}, (∀ v, (x, v) ∉ binds) → bindL kindOf binds m x = m x
  | [], _, _ => rfl
  | (n, v) :: r, m, h => by
    unfold bindL
    rw [bindL_out fun w hw => h w (List.mem_cons_of_mem _ hw)]
    split
    · have : x ≠ n := by rintro rfl; exact h v List.mem_cons_self
      simp [this]
    · rfl
theorem bindC_out {kindOf : Str → Option NameKind} {x : Str} : ∀ {binds : List (Str × Value)} {m : Str → Option Value}, (∀ v, (x, v) ∉ binds) → bindC kindOf binds m x = m x
  | [], _, _ => rfl
  | (n, v) :: r, m, h => by
    unfold bindC
    rw [bindC_out fun w hw => h w (List.mem_cons_of_mem _ hw)]
    split
    · rfl
    · have : x ≠ n := by rintro rfl; exact h v List.mem_cons_self
      simp [this]
theorem bindL_get {kindOf : Str → Option NameKind} {x : Str} {v : Value} : ∀ {P : List Str} {vs : List Value} {i : Nat} {m : Str → Option Value}, P.Nodup → P[i]? = some x → vs[i]? = some v → kindOf x = some .local →
    bindL kindOf (P.zip vs) m x = some v
  | [], _, _, _, _, h, _, _ => by simp at h
  | _ :: _, [], _, _, _, _, h, _ => by simp at h
  | p :: P, w :: vs, 0, m, nd, h1, h2, hk => by
    simp at h1 h2; subst h1; subst h2
    show bindL kindOf ((p, w) :: P.zip vs) m p = _
    unfold bindL
    rw [bindL_out fun v hv => (List.nodup_cons.mp nd).1 (List.of_mem_zip hv).1, if_pos hk]
    simp
  | p :: P, w :: vs, i + 1, m, nd, h1, h2, hk => by
    show bindL kindOf ((p, w) :: P.zip vs) m x = _
    unfold bindL
    exact bindL_get (i := i) (List.nodup_cons.mp nd).2 (by simpa using h1) (by simpa using h2) hk
theorem bindC_get {kindOf : Str → Option NameKind} {x : Str} {v : Value} : ∀ {P : List Str} {vs : List Value} {i : Nat} {m : Str → Option Value}, P.Nodup → P[i]? = some x → vs[i]? = some v → kindOf x ≠ some .local →
    bindC kindOf (P.zip vs) m x = some v
  | [], _, _, _, _, h, _, _ => by simp at h
  | _ :: _, [], _, _, _, _, h, _ => by simp at h
  | p :: P, w :: vs, 0, m, nd, h1, h2, hk => by
    simp at h1 h2; subst h1; subst h2
    show bindC kindOf ((p, w) :: P.zip vs) m p = _
    unfold bindC
    rw [bindC_out fun v hv => (List.nodup_cons.mp nd).1 (List.of_mem_zip hv).1, if_neg hk]
    simp
  | p :: P, w :: vs, i + 1, m, nd, h1, h2, hk => by
    show bindC kindOf ((p, w) :: P.zip vs) m x = _
    unfold bindC
    exact bindC_get (i := i) (List.nodup_cons.mp nd).2 (by simpa using h1) (by simpa using h2) hk

/-- the names' values at the entry -/
def start (N : List Str) (vs : List V) : St := vs.map some ++ List.replicate (N.length - vs.length) none

/-- the context of a def's body, at its entry; an exception leaves the frame, then lies as CX says -/
def cxOf (CX : CXT) (P : Program) (w : World) (K : PySem.W.Frag) (mg : Str → Option Value) (base : Heap) (N : List Str) (qual : Str) (scope : Scope) (f : Addr) (cd : Value) (A : Around) (outer : List Env) (s : Shared) (H : Hp) (E : XK) : Cx where
  prog := P
  w := w
  K := K
  mg := mg
  base := base
  A := A.deeper (envOfC qual scope s.heap.objs.size f cd)
  N := N
  s_0 := s
  H_0 := H
  env := envOfC qual scope s.heap.objs.size f cd
  outer := outer
  stack := envOfC qual scope s.heap.objs.size f cd :: outer
  ex := []
  calm := true
  fn := fun _ => true
  pn := []
  xe := fun e s' => wpAny (model P w) (A.deeper (envOfC qual scope s.heap.objs.size f cd)) (leaving (envOfC qual scope s.heap.objs.size f cd) e) (fun _ s'' => CX outer H s E e s'') (fun e' s'' => CX outer H s E e' s'') s'

theorem cell_has {sc : Scope} {n : Nat} {x : Str} (h : sc.names.lookup x = some .cell) : ∃ c, (cellsFrom n sc.names []).lookup x = some c := by
  have q := PySem.W.cellsFrom_some sc.names n [] (.inl h)
  exact Option.isSome_iff_exists.mp q

theorem inv_start {CX : CXT} {P : Program} {w : World} {K : PySem.W.Frag} {mg : Str → Option Value} {base : Heap} {N ps : List Str} {qual : Str} {scope : Scope} {f : Addr} {cd : Value} {A : Around} {outer : List Env} {s s1 : Shared} {H : Hp} {E : XK} {us : List Value} {vs : List V}
    (S : FnScope N ps scope) (hd : A.handled = none) (e0 : Env0 P w K mg base A outer s H) (hl : vs.length = ps.length) (r : Vals vs us)
    (x : InCallC s s.heap.objs.size (bindL (envOfC qual scope s.heap.objs.size f cd).kindOf (ps.zip us) fun _ => none) (cellsFrom (s.heap.objs.size + 1) scope.names []) (bindC (envOfC qual scope s.heap.objs.size f cd).kindOf (ps.zip us) fun _ => none) s1) :
    Inv (cxOf CX P w K mg base N qual scope f cd A outer s H E) [] (start N vs) H s1 := by
  have hpl : ps.length ≤ N.length := by have := congrArg List.length S.pre; rw [List.length_take] at this; omega
  obtain ⟨h1, tk, rfl, hk⟩ := x.done
  have noA : ∀ b : Addr, b ∉ (cxOf CX P w K mg base N qual scope f cd A outer s H E).ex := fun b z => absurd (show b ∈ ([] : List Addr) from z) (by simp)
  refine ⟨⟨e0.mod, S.kind, rfl, rfl, Nat.le_refl _, fun y z c h1 h2 => ?_, fun y hy => ?_, fun y c _ h => ?_, fun _ => hd, Around.frames_deeper e0.frames, .inr ⟨rfl, rfl⟩, fun b z => absurd z (noA b), e0.bs, e0.bsz, fun b _ _ => noA b, fun b z => absurd z (noA b), e0.funs, e0.frf⟩,
    rfl, e0.bare, Un.kept hk, ⟨_, x.toInCall.ns, fun i y v h1 h2 h3 => ?_⟩, fun y c h => ⟨_, x.cell y c h⟩, e0.hok.fresh (Nat.le_refl _), fun y c h => ?_, fun p hp => absurd (show p ∈ ([] : List (Addr × Obj)) from hp) (by simp), e0.hok.kept hk, ?_⟩
  · exact name_of_addr x.apart (PySem.mem_of_lookup h1) (PySem.mem_of_lookup h2)
  · have hy : scope.names.lookup y = some .cell ∨ scope.names.lookup y = some .free := hy
    rcases hy with hy | hy
    · exact cell_has hy
    · exact absurd rfl (S.nofree _ (PySem.mem_of_lookup hy))
  · exact Nat.le_of_lt (x.above y c (PySem.mem_of_lookup h))
  · have hi : i < vs.length := by
      unfold start at h2
      by_cases hi : i < vs.length
      · exact hi
      · rw [List.getElem?_append_right (by simpa using hi)] at h2
        rw [List.getElem?_replicate] at h2
        split at h2 <;> cases h2
    have ha : vs[i]? = some v := by
      unfold start at h2
      rw [List.getElem?_append_left (by simpa using hi), List.getElem?_map] at h2
      cases e : vs[i]? with
      | none => rw [e] at h2; cases h2
      | some a => rw [e] at h2; cases h2; rfl
    obtain ⟨u, hu, rv⟩ := r.get ha
    have hp : ps[i]? = some y := by
      rw [← S.pre, List.getElem?_take_of_lt (by omega)]; exact h1
    have ndP : ps.Nodup := by rw [← S.pre]; exact S.nd.sublist (List.take_sublist _ _)
    refine ⟨u, rv, ?_⟩
    rcases S.par y (List.mem_of_getElem? hp) with k | k
    · exact .inl ⟨k, bindL_get ndP hp hu k⟩
    · obtain ⟨c, e⟩ := cell_has (n := s.heap.objs.size + 1) k
      refine .inr ⟨.inl k, c, e, ?_⟩
      have q := x.cell y c e
      rw [bindC_get ndP hp hu (by show scope.names.lookup y ≠ _; rw [k]; decide)] at q
      exact q
  · exact e0.hok.fresh (Nat.le_of_lt (x.above y c (PySem.mem_of_lookup h)))
  · unfold start
    show _ = N.length
    rw [List.length_append, List.length_map, List.length_replicate]
    omega

/-- THE RULE: a def (or a method) of the text, by its body. The body's reading t is chosen for each entry; it is run at the parameters' values -/
theorem fn_of {CX : CXT} {P : Program} {w : World} {K : PySem.W.Frag} {mg : Str → Option Value} {base : Heap} {k : Nat} {f : Addr} {name qual : Str} {params : Arguments} {body : List Stmt} {scope : Scope} {dV kV doc pm cdv ct oc : Value} {an od : Option Addr}
    {osl : Array (Option Value)} {N ps : List Str} {sp : Sp} (lk : K.lookup f = some ⟨oc, od, .func (PySem.W.fnOf name qual params body scope dV kV doc pm an cdv ct), osl⟩) (hcd : PySem.W.codeIn K cdv qual = true) (S : FnScope N ps scope)
    (len : ∀ vs H Q E, sp vs H Q E → vs.length = ps.length)
    (hbody : ∀ (A : Around) (outer : List Env) (s : Shared) (H : Hp) (vs : List V) (Q : VK) (E : XK), Room k (A.deeper (envOfC qual scope s.heap.objs.size f cdv)) → sp vs H Q E →
      ∃ t, PSs (cxOf CX P w K mg base N qual scope f cdv A outer s H E) body t ∧ t { nx := fun _ H' => Q .non H', rt := Q } (start N vs) H) :
    FnOk P w K mg base CX (k + 1) f (PySem.W.fnOf name qual params body scope dV kV doc pm an cdv ct) ps sp := by
  refine ⟨len, fun A outer s H args us vs Q E hr e0 hb r hsp => ?_⟩
  have hl := len _ _ _ _ hsp
  have KX : K.In s.heap := e0.mod.kin.keeps fun b o e => (e0.bs b o e).1
  have lim : s.heap.NoLimit := e0.mod.nolimit.keeps fun b o e => (e0.bs b o e).1
  have hkind : ∀ y ∈ ps.zip us, scope.names.lookup y.1 = some .local ∨ (scope.names.lookup y.1 = some .cell ∧ ((cellsFrom (s.heap.objs.size + 1) scope.names []).lookup y.1).isSome = true) := fun ⟨n, v⟩ hy => by
    rcases S.par n (List.of_mem_zip hy).1 with q | q
    · exact .inl q
    · exact .inr ⟨q, PySem.W.cellsFrom_some _ _ _ (.inl q)⟩
  refine codeAny_call_function hr.depth (KX _ _ lk) rfl S.co S.gen rfl (PySem.W.codeRec_of KX hcd) (hb _ _ _ _ ?_)
  refine wpAny_newFunctionEnv_cells S.kind hkind fun env he s1 x => ?_
  subst he
  refine ⟨lim.keeps x.toInCall.keep, codeAny_func ?_⟩
  obtain ⟨t, ht, hq⟩ := hbody A outer s H vs Q E (hr.deeper _) hsp
  have I : Inv (cxOf CX P w K mg base N qual scope f cdv A outer s H E) [] (start N vs) H s1 := inv_start S hr.hd e0 hl r x
  refine wpAny_mono (ht [] s1 (start N vs) H _ I hq) (fun fl s' hs => ?_) fun e s' hs => hs
  have fin : ∀ {σ' : St} {H' : Hp} {v : V} {u : Value}, Inv (cxOf CX P w K mg base N qual scope f cdv A outer s H E) [] σ' H' s' → RelV v u → Q v H' → CE outer P w H s Q u s' :=
    fun {σ' H' v u} J rv q => ⟨v, H', J.os, J.bare, J.base, J.hok, rv, q⟩
  cases fl with
  | ret u =>
    obtain ⟨v, σ', H', J, rv, q⟩ := hs
    exact fin J rv q
  | next =>
    obtain ⟨σ', H', J, q⟩ := hs
    exact fin (v := V.non) (u := Value.none) J rfl q
  | brk =>
    obtain ⟨_, _, _, q⟩ := hs
    exact False.elim q
  | cont =>
    obtain ⟨_, _, _, q⟩ := hs
    exact False.elim q
end L2

namespace L2
open PySem PySem.Spec PyProof.Rows
section
variable {X : Cx} {x : Str} {p pos : Pos} {e : Expr} {es : List Expr} {t : TA} {id T : String} {r : List V → Hp → VK → Prop}

def tCB (r : List V → Hp → VK → Prop) (t : TA) : TE := fun σ H Q => t σ H fun vs H1 => r vs H1 Q
/-- f(e, ..), f a built-in function -/
theorem pe_callB (hc : CallR X (.builtin id) r) (hg : Gl X x) (hm : X.mg x = none) (hv : bootBuiltins x = some (.builtin id)) (ha : PA X (e :: es) t) (hn : x ≠ "__name__" := by decide) (hdb : (x == ("__debug__" : Str)) = false := by decide)
    (he : starEach (e :: es) X.env = (false, eval e X.env) :: starEach es X.env := by rfl) (hpl : (backTo pos (starEach es X.env)).any (·.1) = false := by rfl) : PE X (.Call (.Name x p) (e :: es) [] pos) (tCB r t) := by
  intro pins s σ H Q I h
  refine wpAny_Call_Name_kw (ld_blt I hg hm hv ?_ hn hdb)
  exact PyProof.Rows.callWith_builtin1 (thn (ha pos pins s σ H _ I h) fun us s1 ⟨vs, H1, I1, r1, q1⟩ => hc pins s1 σ H1 vs us Q I1 r1 q1) he hpl
end
end L2

namespace HT
open PySem PyProof.Rows

section
open PySem.SeqAt
open PySem.AutoSeq1 (wpAny_loadPart')
open PySem.MeetsSeq PySem.MeetsSeq2 PySem.MeetsSeq3

end

section
variable {prog : Program} {w : World} {A : Around} {E : Value → Shared → Prop} {s : Shared}

/-! ### t[a:b], not the whole -/
/-- a slice's bound as a place among n (d where it is left out) -/
def sIx (n d : Nat) : Option Int → Nat
  | none => d
  | some v => if v < 0 then (v + (n : Int)).toNat else min v.toNat n
theorem sIx_none (n d : Nat) : sIx n d none = d := rfl
theorem sIx_nat (n d k : Nat) : sIx n d (some (k : Int)) = min k n := by
  show (if (k : Int) < 0 then ((k : Int) + (n : Int)).toNat else min (k : Int).toNat n) = min k n
  rw [if_neg (by omega), Int.toNat_natCast]
end
end HT

namespace L2
open PySem PySem.Spec PyProof.Rows

/-! ### the parts of a slice -/
abbrev TO := St → Hp → (Option Int → Hp → Prop) → Prop
/-- a slice's part (left out, or an int) -/
def PO (X : Cx) (e : Option Expr) (t : TO) : Prop :=
  ∀ (pins : List (Addr × Obj)) (s : Shared) (σ : St) (H : Hp) (Q : Option Int → Hp → Prop), Inv X pins σ H s → t σ H Q →
    wpAny (model X.prog X.w) X.A (evalPart e X.env) (fun u s' => ∃ o H', Inv X pins σ H' s' ∧ IsPart u o ∧ Q o H') X.xe s
def tNoPart : TO := fun _ H Q => Q none H
def tPart (t : TE) : TO := fun σ H Q => t σ H fun x H1 => ∃ i, x = .int i ∧ Q (some i) H1

section
variable {X : Cx} {e : Expr} {te : TE} {lo hi : Option Expr} {tl th : TO} {pos p2 : Pos}

theorem po_none : PO X none tNoPart := by
  intro pins s σ H Q I h
  rw [evalPart_none]
  exact wpAny_pure ⟨none, H, I, .none, h⟩
theorem po_some (h : PE X e te) : PO X (some e) (tPart te) := by
  intro pins s σ H Q I hw
  rw [evalPart_some]
  refine thn (h pins s σ H _ I hw) fun u s1 ⟨x, H1, I1, r1, q1⟩ => ?_
  obtain ⟨i, rfl, q⟩ := q1
  obtain ⟨t, rfl⟩ := r1
  exact ⟨some i, H1, I1, .int i t, q⟩

/-- what a slice of a value is, by values: the slice object stands at sl -/
def SlR (X : Cx) (r : V → Option Int → Option Int → Hp → VK → Prop) : Prop :=
  ∀ (pins : List (Addr × Obj)) (s : Shared) (σ : St) (H : Hp) (x : V) (v vl vu : Value) (lo hi : Option Int) (sl : Addr) (Q : VK), Inv X pins σ H s → RelV x v → s.heap.IsSliceOf sl vl vu .none → IsPart vl lo → IsPart vu hi → r x lo hi H Q →
    ∃ T id, typeLookup (.type T) "__getitem__" = pure (some (.builtin id)) ∧ s.TypeIs v T ∧ wpAny (model X.prog X.w) X.A (getItem v (.ref sl)) (EP X pins σ Q) X.xe s
def tSl (r : V → Option Int → Option Int → Hp → VK → Prop) (te : TE) (tl th : TO) : TE := fun σ H Q => te σ H fun x H1 => tl σ H1 fun l H2 => th σ H2 fun u H3 => r x l u H3 Q
/-- a[lo:hi], any a -/
theorem pe_slice {r : V → Option Int → Option Int → Hp → VK → Prop} (hr : SlR X r) (he : PE X e te) (hl : PO X lo tl) (hu : PO X hi th) : PE X (.Subscript e (.Slice lo hi none p2) pos) (tSl r te tl th) := by
  intro pins s σ H Q I h
  refine Subscript_ (thn (he pins s σ H _ I h) fun v s1 ⟨x, H1, I1, r1, q1⟩ => ?_)
  refine wpAny_Slice (thn (hl pins s1 σ H1 _ I1 q1) fun vl s2 ⟨l, H2, I2, pl, q2⟩ => thn (hu pins s2 σ H2 _ I2 q2) fun vu s3 ⟨u, H3, I3, pu, q3⟩ => ?_)
  rw [evalPart_none]
  refine wpAny_pure ?_
  have I4 : Inv X pins σ H3 { s3 with heap := s3.heap.push { cls := .type "slice", data := .fields #[vl, vu, .none] } } := I3.kept (t' := s3.toks) fun b ob q => Heap.get?_push_of_some _ q
  obtain ⟨T, id, hT, ht, hg⟩ := hr pins { s3 with heap := s3.heap.push { cls := .type "slice", data := .fields #[vl, vu, .none] } } σ H3 x v vl vu l u s3.heap.objs.size Q I4 r1 (Heap.IsSliceOf.new ..) pl pu q3
  show wpAny (model X.prog X.w) X.A (subscriptTail e (.Slice lo hi none p2) v (.ref s3.heap.objs.size)) (EP X pins σ Q) X.xe { s3 with heap := s3.heap.push { cls := .type "slice", data := .fields #[vl, vu, .none] } }
  exact tail_any (ops := [.ref s3.heap.objs.size, v]) ht hT hg (by with_unfolding_all rfl)

/-- the items of xs[lo:hi] -/
def cutV (xs : List V) (lo hi : Option Int) : List V := (xs.drop (HT.sIx xs.length 0 lo)).take (HT.sIx xs.length xs.length hi - HT.sIx xs.length 0 lo)
theorem cutV_length (xs : List V) (lo hi : Option Int) : (cutV xs lo hi).length ≤ xs.length := by
  unfold cutV
  rw [List.length_take, List.length_drop]
  omega
/-! ### t < u, t + u -/
end
end L2

namespace L2
open PySem PySem.Spec PyProof.Rows

/-! ### places -/
/-- the place that an index of any sign means -/
def ixN (n : Nat) (i : Int) : Option Nat := if 0 ≤ i then (if i < n then some i.toNat else none) else if -(n : Int) ≤ i then some (i + n).toNat else none
def atI {α : Type} (xs : List α) (i : Int) : Option α := (ixN xs.length i).bind fun j => xs[j]?
theorem ixN_seq {n : Nat} {i : Int} {j : Nat} (h : ixN n i = some j) : seqIndex? i n = some j ∧ j < n ∧ -(n : Int) ≤ i ∧ i < n := by
  unfold ixN at h
  by_cases h0 : 0 ≤ i
  · rw [if_pos h0] at h
    by_cases h1 : i < n
    · rw [if_pos h1] at h
      have e : i.toNat = j := Option.some.inj h
      exact ⟨by rw [seqIndex_of h0 h1, e], by omega, by omega, h1⟩
    · rw [if_neg h1] at h; cases h
  · rw [if_neg h0] at h
    by_cases h1 : -(n : Int) ≤ i
    · rw [if_pos h1] at h
      have e : (i + n).toNat = j := Option.some.inj h
      exact ⟨by rw [seqIndex_neg (by omega) h1, e], by omega, h1, by omega⟩
    · rw [if_neg h1] at h; cases h
theorem atI_get {α : Type} {xs : List α} {i : Int} {v : α} (h : atI xs i = some v) : ∃ j, seqIndex? i xs.length = some j ∧ xs[j]? = some v ∧ j < xs.length ∧ -(xs.length : Int) ≤ i ∧ i < xs.length := by
  unfold atI at h
  cases e : ixN xs.length i with
  | none => rw [e] at h; cases h
  | some j =>
    rw [e] at h
    obtain ⟨h1, h2, h3, h4⟩ := ixN_seq e
    exact ⟨j, h1, h, h2, h3, h4⟩
theorem atI_nat {α : Type} {xs : List α} {j : Nat} {v : α} (h : xs[j]? = some v) : atI xs (j : Int) = some v := by
  have hj : j < xs.length := (List.getElem?_eq_some_iff.mp h).1
  have e : ixN xs.length (j : Int) = some j := by
    unfold ixN
    rw [if_pos (by omega), if_pos (by omega)]; simp
  unfold atI; rw [e]; exact h
/-! ### what may be subscripted -/
/-- what stands as an index of a plain subscript -/
def PlainIx (b : Expr) : Prop := ∀ o i, subscripted b false o i = operate [o, i] (getItem o i)
/-- a subscript by values -/
def IxR (X : Cx) (r : R2) : Prop :=
  ∀ (value slice : Expr) (pins : List (Addr × Obj)) (s : Shared) (σ : St) (H : Hp) (x y : V) (v u : Value) (Q : VK), Inv X pins σ H s → RelV x v → RelV y u → r x y H Q →
    subscripted slice false v u = operate [v, u] (getItem v u) → wpAny (model X.prog X.w) X.A (subscriptTail value slice v u) (EP X pins σ Q) X.xe s
/-- a call of a builtin's method by values: the receiver, the arguments -/
def MtR (X : Cx) (id : String) (r : V → List V → Hp → VK → Prop) : Prop :=
  ∀ (pins : List (Addr × Obj)) (s : Shared) (σ : St) (H : Hp) (x : V) (xs : List V) (v : Value) (us : List Value) (Q : VK), Inv X pins σ H s → RelV x v → Vals xs us → r x xs H Q →
    wpAny (model X.prog X.w) X.A (call (.builtin id) (v :: us)) (EP X pins σ Q) X.xe s
section
variable {X : Cx} {a b : Expr} {ta tb : TE} {pos : Pos}
/-- a[b] -/
theorem pe_ix {r : R2} (hr : IxR X r) (ha : PE X a ta) (hb : PE X b tb) (hs : PlainIx b) : PE X (.Subscript a b pos) (tOp r ta tb) := by
  intro pins s σ H Q I h
  exact Subscript_ (binT ha hb I h fun v u s2 x y H2 I2 rx ry q => hr a b pins s2 σ H2 x y v u Q I2 rx ry q (hs _ _))

def rIxL (K : PySem.W.Frag) : R2 := fun x y H Q => ∃ p xs i v, x = .ref p ∧ y = .int i ∧ SqL K H p xs ∧ atI xs i = some v ∧ Q v H
theorem ix_list : IxR X (rIxL X.K) := by
  intro value slice pins s σ H x y v u Q I rx ry h hs
  obtain ⟨p, xs, i, z, rfl, rfl, hq, he, q⟩ := h
  cases rx
  obtain ⟨t, rfl⟩ := ry
  obtain ⟨its, r, pl, hz⟩ := I.list hq
  obtain ⟨j, h1, h2, h3, h4, h5⟩ := atI_get he
  obtain ⟨w, ew, rw'⟩ := r.get h2
  have hl := r.length
  have hn := line63
  have fin : EP X pins σ Q w s := ⟨z, H, I, rw', q⟩
  by_cases h0 : 0 ≤ i
  · have hj : i.toNat = j := by
      rw [seqIndex_of h0 h5] at h1
      exact Option.some.inj h1
    exact item_listR pl.isList h0 (by omega) (by rw [hj]; simpa using ew) fin hs
  · have hj : (i + (its.toArray.size : Int)).toNat = j := by
      rw [seqIndex_neg (by omega) h4] at h1
      rw [List.size_toArray, ← hl]
      exact Option.some.inj h1
    exact subscriptTail_builtinR (x := w) pl.isList.typeIs slot_list_getitem.lookup
      (wpAny_getItem_list_neg (Q := fun r s' => r = w ∧ EP X pins σ Q r s') pl.isList (by omega) (by rw [List.size_toArray] <;> omega) (by omega) (by rw [hj]; simpa using ew) ⟨rfl, fin⟩) hs
/-! ### xs[i] = v, any sign -/
/-! ### slices -/
theorem slice_bounds (lo hi : Option Int) (n : Nat) : (sliceBounds lo hi none n).1 = ((HT.sIx n 0 lo : Nat) : Int) ∧ (sliceBounds lo hi none n).2.1 = ((HT.sIx n n hi : Nat) : Int) ∧ (sliceBounds lo hi none n).2.2 = 1 := by
  refine ⟨?_, ?_, rfl⟩
  · cases lo with
    | none => simp [sliceBounds, HT.sIx]
    | some i =>
      simp only [sliceBounds, HT.sIx, Option.getD_none, show (1 : Int) > 0 by decide, if_true]
      by_cases h : i < 0
      · simp only [h, if_true] <;> omega
      · simp only [h, if_false] <;> omega
  · cases hi with
    | none => simp [sliceBounds, HT.sIx]
    | some i =>
      simp only [sliceBounds, HT.sIx, Option.getD_none, show (1 : Int) > 0 by decide, if_true]
      by_cases h : i < 0
      · simp only [h, if_true] <;> omega
      · simp only [h, if_false] <;> omega
theorem slicePick_cut (its : List Value) (lo hi : Option Int) : slicePick its.toArray lo hi none = ((its.drop (HT.sIx its.length 0 lo)).take (HT.sIx its.length its.length hi - HT.sIx its.length 0 lo)).toArray := by
  obtain ⟨h1, h2, h3⟩ := slice_bounds lo hi its.toArray.size
  unfold slicePick
  rw [h1, h2, h3]
  simp only [sliceRange_one, pick_run, List.size_toArray] <;> rfl
/-- xs[lo:hi] of a list: a new list -/
def rSlL (K : PySem.W.Frag) : V → Option Int → Option Int → Hp → VK → Prop := fun x lo hi H Q => ∃ a xs, x = .ref a ∧ SqL K H a xs ∧ ∀ p, H p = none → Q (.ref p) (upd H p (.lst (cutV xs lo hi)))
theorem sl_list : SlR X (rSlL X.K) := by
  intro pins s σ H x v vl vu lo hi sl Q I rx hs pl pu h
  obtain ⟨a, xs, rfl, hx, q⟩ := h
  cases rx
  obtain ⟨its, r, ht, hz⟩ := I.list hx
  have hlen := r.length
  refine ⟨"list", _, slot_list_getitem.lookup, ht.isList.typeIs, ?_⟩
  refine wpAny_getItem_list_slice ht.isList hs pl pu .none (by simp) ?_ (by rw [List.size_toArray] <;> omega)
  rw [slicePick_cut, ← hlen]
  refine ⟨.ref s.heap.objs.size, _, I.laid (t' := s.toks) (o := .lst (cutV xs lo hi)) (fun b ob q => Heap.get?_push_of_some _ q) (Nat.le_refl _) ?_, rfl, q _ (I.hok.fresh (Nat.le_refl _))⟩
  exact ⟨Nat.le_trans (cutV_length xs lo hi) hz, _, 0, (r.drop (HT.sIx xs.length 0 lo)).take (HT.sIx xs.length xs.length hi - HT.sIx xs.length 0 lo), Heap.get?_push_size _ rfl⟩

/-! ### in, not in: flat items -/
/-! ### len, list(x), tuple(x) of any list or tuple that is read -/
theorem call_len_seq : CallR X (.builtin "len") (fun xs H Q => ∃ p ys, xs = [.ref p] ∧ (SqL X.K H p ys ∨ SqT X.K H p ys) ∧ Q (.int ys.length) H) := by
  intro pins s σ H xs us Q I r h
  obtain ⟨p, ys, rfl, hq, q⟩ := h
  obtain ⟨u, rfl, rx⟩ := vals1 r
  cases rx
  have hn := line63
  rcases hq with hq | hq
  · obtain ⟨its, r', pl, hz⟩ := I.list hq
    have hlen := r'.length
    exact Calls.call_len_list pl.isList (by simp only [List.size_toArray] <;> omega) ⟨.int ys.length, H, I.tok _, ⟨s.toks + 1, by rw [List.size_toArray, hlen]⟩, q⟩
  · obtain ⟨its, r', pl, hz⟩ := I.tuple hq
    have hlen := r'.length
    exact len_tuple pl (by simp only [List.size_toArray] <;> omega) ⟨.int ys.length, H, I.tok _, ⟨s.toks + 1, by rw [List.size_toArray, hlen]⟩, q⟩
/-! ### the call of a builtin's method: o.m(..) -/
/-- the value is of that builtin type -/
def tyV (K : PySem.W.Frag) (T : String) (x : V) (H : Hp) : Prop := match x with
  | .str _ => T = "str"
  | .int _ => T = "int"
  | .ref p => (T = "list" ∧ ∃ xs, SqL K H p xs) ∨ (T = "tuple" ∧ ∃ o, K.lookup p = some o ∧ o.cls = .type "tuple" ∧ o.dict = none) ∨
      (T = "dict" ∧ ((∃ kvs, H p = some (.dK kvs)) ∨ ∃ kvs, H p = some (.dT kvs))) ∨ (T = "set" ∧ ∃ S n, H p = some (.set S n))
  | _ => False
theorem tyV_is {pins : List (Addr × Obj)} {σ : St} {H : Hp} {s : Shared} {T : String} {x : V} {v : Value} (I : Inv X pins σ H s) (r : RelV x v) (ty : tyV X.K T x H) :
    s.TypeIs v T ∧ ∀ a, v = .ref a → ∃ ob, s.heap.get? a = some ob ∧ ob.dict = none := by
  cases x with
  | str z =>
    obtain ⟨t, rfl⟩ := r
    cases (show T = "str" from ty)
    exact ⟨typeIs_str s z t, fun _ e => nomatch e⟩
  | int i =>
    obtain ⟨t, rfl⟩ := r
    cases (show T = "int" from ty)
    exact ⟨typeIs_int s i t, fun _ e => nomatch e⟩
  | ref p =>
    cases r
    rcases ty with ⟨rfl, xs, hq⟩ | ⟨rfl, o, hk, hc, hd⟩ | ⟨rfl, hk⟩ | ⟨rfl, S, n, hk⟩
    · obtain ⟨its, _, pl, _⟩ := I.list hq
      refine ⟨pl.isList.typeIs, fun a e => ?_⟩
      cases e
      obtain ⟨o, n, e, c, hd, _⟩ := pl
      exact ⟨o, e, hd⟩
    · refine ⟨⟨o, I.kIn p o hk, hc⟩, fun a e => ?_⟩
      cases e
      exact ⟨o, I.kIn _ o hk, hd⟩
    · have z : ∃ o, s.heap.get? p = some o ∧ o.ExactDict := by
        rcases hk with ⟨kvs, hk⟩ | ⟨kvs, hk⟩
        · obtain ⟨_, _, _, _, o, _, _, e, ex, _⟩ := I.hok p _ hk
          exact ⟨o, e, ex⟩
        · obtain ⟨_, _, _, _, o, _, _, e, ex, _⟩ := I.hok p _ hk
          exact ⟨o, e, ex⟩
      obtain ⟨o, e, ex⟩ := z
      refine ⟨⟨o, e, ex.1⟩, fun a e2 => ?_⟩
      cases e2
      exact ⟨o, e, ex.2.1⟩
    · obtain ⟨o, _, _, _, e, ex, _⟩ := I.hok p _ hk
      refine ⟨⟨o, e, ex.1⟩, fun a e2 => ?_⟩
      cases e2
      exact ⟨o, e, ex.2.1⟩
  | _ => exact False.elim ty
def tBM (K : PySem.W.Frag) (T : String) (r : V → List V → Hp → VK → Prop) (to : TE) (t : TA) : TE := fun σ H Q => to σ H fun x H1 => tyV K T x H1 ∧ t σ H1 fun xs H2 => r x xs H2 Q
variable {o e : Expr} {es : List Expr} {to : TE} {t : TA} {name : Str} {apos cpos : Pos} {T id : String} {r : V → List V → Hp → VK → Prop}
theorem pe_bm (pa : PlainAttrs T) (slot : Slot T name id) (hty : typeOf (.builtin id) = pure (.type "method_descriptor")) (hm : MtR X id r) (ho : PE X o to) (ha : PA X (e :: es) t)
    (hbase : attributeBase o name X.env (eval o X.env) = eval o X.env := by rfl)
    (hfew : ((backTo cpos (starEach (e :: es) X.env)).all (fun x => !x.1) && (backToKw cpos (keywordEach [] X.env)).all (fun x => x.1.isSome)
      && decide ((e :: es).length + ([] : List Keyword).length + (if ([] : List Keyword).isEmpty then 0 else 1) < 30)) = true := by rfl)
    (hline : (apos.endLine == cpos.line) = true := by rfl) (hs : starEach (e :: es) X.env = (false, eval e X.env) :: starEach es X.env := by rfl) (hplain : (backTo cpos (starEach es X.env)).any (·.1) = false := by rfl) :
    PE X (.Call (.Attribute o name apos) (e :: es) [] cpos) (tBM X.K T r to t) := by
  intro pins s σ H Q I h
  refine wpAny_Call_method_late hbase hfew hline rfl (thn (ho pins s σ H _ I h) fun v s1 ⟨x, H1, I1, r1, ty, q1⟩ => ?_)
  obtain ⟨h1, h2⟩ := tyV_is I1 r1 ty
  refine ⟨T, id, pa, slot, hty, h1, h2, ?_⟩
  have hA := ha cpos pins s1 σ H1 _ I1 q1
  rw [hs] at hA ⊢
  refine Calls.callWith_builtin (by show (false || (backTo cpos (starEach es X.env)).any (·.1)) = false; rw [hplain] <;> rfl) (Calls.evalArgs_plain ?_)
  exact thn hA fun us s2 ⟨vs, H2, I2, r2, q2⟩ => hm pins s2 σ H2 x vs v us Q I2 r1 r2 q2
/- xs.append(e), list.index on a module's tuple .. are MtR facts of 06m -/
end
end L2

namespace L2
open PySem PySem.Spec PyProof.Rows

def MtM (X : Cx) (id : String) (r : V → List V → Hp → VK → Prop) : Prop :=
  ∀ (pins : List (Addr × Obj)) (s : Shared) (σ : St) (H : Hp) (x : V) (xs : List V) (v : Value) (us : List Value) (Q : VK), Inv X pins σ H s → RelV x v → Vals xs us → r x xs H Q →
    wpAny (model X.prog X.w) X.A (call (.builtin id) (v :: us)) (EP X pins σ Q) X.xe s

/-! ### lists of values -/
theorem Vals.one : ∀ {x : V} {us : List Value}, Vals [x] us → ∃ u, us = [u] ∧ RelV x u
  | _, _, .cons r .nil => ⟨_, rfl, r⟩
section
variable {X : Cx} {pins : List (Addr × Obj)} {σ : St} {H : Hp} {s : Shared} {l b : Addr} {xs ys zs : List V}

/-! ### the two steps: a tracked list is rewritten, a new list is laid -/
theorem Inv.lset {its its' : List Value} {n : Nat} {f : Array Value → Array Value} {t' : Nat} (I : Inv X pins σ H s) (hH : H l = some (.lst xs))
    (e : s.heap.get? l = some { cls := .type "list", data := .seq its.toArray n }) (hf : f its.toArray = its'.toArray) (hv : Vals ys its') (hz : ys.length ≤ sizeLine) :
    Inv X pins σ (upd H l (.lst ys)) { s with heap := s.heap.update l (Obj.mapSeq f), toks := t' } := by
  have q := PySem.IsL.update e f
  rw [hf] at q
  refine I.write (x := l) (e := l) (by rw [hH]; exact trivial) (.inl rfl) (fun b' u hb hu => (Heap.get?_update_other s.heap (Obj.mapSeq f) (Ne.symm hb)).trans hu) ⟨_, q⟩ ?_
  exact ⟨hz, its', _, hv, q⟩
theorem Inv.lstM (I : Inv X pins σ H s) (hH : H l = some (.lst xs)) : xs.length ≤ sizeLine ∧ ∃ (its : List Value) (n : Nat), Vals xs its ∧ xs.length = its.length ∧ s.heap.get? l = some { cls := .type "list", data := .seq its.toArray n } := by
  obtain ⟨z, its, n, r, e⟩ := I.hok l _ hH
  exact ⟨z, its, n, r, r.length, e⟩

theorem notLongL {n : Nat} (h : n ≤ sizeLine) : Builtin.List.listTooLong n = false := by
  unfold Builtin.List.listTooLong
  exact decide_eq_false (by omega)
end

section
variable {X : Cx}

/-! ### methods -/
def rAppend : V → List V → Hp → VK → Prop := fun x vs H Q => ∃ l xs y, x = .ref l ∧ vs = [y] ∧ H l = some (.lst xs) ∧ xs.length < sizeLine ∧ Q .non (upd H l (.lst (xs ++ [y])))
theorem mt_append : MtM X "list.append" rAppend := by
  intro pins s σ H x vs v us Q I rx rv h
  obtain ⟨l, xs, y, rfl, rfl, hH, hz, q⟩ := h
  cases rx
  obtain ⟨u, rfl, ru⟩ := rv.one
  obtain ⟨z, its, n, r, hl, e⟩ := I.lstM hH
  refine call_meets F.slot_list_append ⟨_, e, rfl⟩ F.entry_list_append (F.args_list_append_2 _ _) (PySem.list_append l its.toArray n u (by rw [List.size_toArray]; omega)) ⟨e, ?_⟩
  refine ⟨.non, _, I.lset (its' := its ++ [u]) hH e (by simp) (r.append (.cons ru .nil)) ?_, rfl, q⟩
  rw [List.length_append, List.length_singleton]
  omega

def rExtend : V → List V → Hp → VK → Prop := fun x vs H Q => ∃ l b xs zs, x = .ref l ∧ vs = [.ref b] ∧ H l = some (.lst xs) ∧ H b = some (.lst zs) ∧ xs.length + zs.length ≤ sizeLine ∧ Q .non (upd H l (.lst (xs ++ zs)))
theorem mt_extend : MtM X "list.extend" rExtend := by
  intro pins s σ H x vs v us Q I rx rv h
  obtain ⟨l, b, xs, zs, rfl, rfl, hH, hB, hz, q⟩ := h
  cases rx
  obtain ⟨u, rfl, ru⟩ := rv.one
  cases ru
  obtain ⟨z, its, n, r, hl, e⟩ := I.lstM hH
  obtain ⟨z2, its2, n2, r2, hl2, e2⟩ := I.lstM hB
  have hsz : its.toArray.size + its2.toArray.size ≤ sizeLine := by rw [List.size_toArray, List.size_toArray]; omega
  have hlong : ¬ (!its.toArray.isEmpty && Builtin.List.listTooLong (its.toArray.size + its2.toArray.size)) = true := by
    rw [notLongL hsz, Bool.and_false]
    exact Bool.false_ne_true
  refine call_meets F.slot_list_extend ⟨_, e, rfl⟩ F.entry_list_extend (F.args_list_extend_2 _ _)
    (AutoSeq1.list_extend_list_list_0 l its.toArray n b its2.toArray n2 hlong (by rw [List.size_toArray]; omega) (by omega)) ⟨e, e2, ?_⟩
  refine ⟨.non, _, I.lset (its' := its ++ its2) hH e (by simp) (r.append r2) ?_, rfl, q⟩
  rw [List.length_append]
  omega

/-! ### list + list, list += list, list * int -/
/-! ### del xs[i] -/
end

/-! ### xs[a:b] = ys -/
section
variable {prog : Program} {w : World} {A : Around} {E : Value → Shared → Prop} {s : Shared}
set_option maxRecDepth 100000 in
end

section
variable {X : Cx}
end
end L2

namespace L2
open PySem PySem.Spec PyProof.Rows

/-! ### the library's walks over a list of ints, kept objects alone -/
section
variable {prog : Program} {w : World} {A : Around} {E : Value → Shared → Prop} {s : Shared} {l : Addr} {its : List Value} {ns : List Int} {Q : Value → Shared → Prop}
end

/-! ### the calls, by values (CallR of 03t; MtR of 06l) -/
section
variable {X : Cx}
/-! sorted, sort (fewer than 64 items: the library's own bound) -/
end

/-! ### list.index, flat items -/
section
variable {X : Cx}
end

/-! ### type(x) of an own instance; is, is not of a module's class -/
section
variable {X : Cx}
end

/-! ### any(xs), all(xs) of a list of bools -/
section
variable {X : Cx}
end

/-! ### == and != of data at any depth: none, bools, ints, texts, lists, tuples -/
mutual
inductive Dp (K : PySem.W.Frag) (H : Hp) : V → PyData → Prop
  | non : Dp K H .non .none
  | bl (b : Bool) : Dp K H (.bl b) (.bool b)
  | int (i : Int) : Dp K H (.int i) (.int i)
  | str (x : Str) : Dp K H (.str x) (.str x)
  | lst {a : Addr} {xs : List V} {ds : List PyData} : SqL K H a xs → DpAll K H xs ds → Dp K H (.ref a) (.list ds)
  | tup {a : Addr} {xs : List V} {ds : List PyData} : SqT K H a xs → DpAll K H xs ds → Dp K H (.ref a) (.tuple ds)
inductive DpAll (K : PySem.W.Frag) (H : Hp) : List V → List PyData → Prop
  | nil : DpAll K H [] []
  | cons {v : V} {vs : List V} {d : PyData} {ds : List PyData} : Dp K H v d → DpAll K H vs ds → DpAll K H (v :: vs) (d :: ds)
end
section
variable {X : Cx} {pins : List (Addr × Obj)} {σ : St} {H : Hp} {s : Shared}
mutual
theorem Dp.reads (I : Inv X pins σ H s) : ∀ (d : PyData) (v : V) (u : Value), Dp X.K H v d → RelV v u → ∃ as, Reads s.heap u d as
  | .none, _, _, h, r => by
    cases h
    cases r
    exact ⟨_, Reads.none⟩
  | .bool b, _, _, h, r => by
    cases h
    cases r
    exact ⟨_, Reads.bool b⟩
  | .int i, _, _, h, r => by
    cases h
    obtain ⟨t, rfl⟩ := r
    exact ⟨_, Reads.int i t⟩
  | .str x, _, _, h, r => by
    cases h
    obtain ⟨t, rfl⟩ := r
    exact ⟨_, Reads.str x t⟩
  | .list ds, _, _, h, r => by
    cases h with
    | lst hs ha =>
      cases r
      obtain ⟨its, rv, ⟨o, n, ho, hc, _, hd⟩, _⟩ := I.list hs
      obtain ⟨as, hr⟩ := Dp.readsAll I ds _ its ha rv
      exact ⟨_, Reads.list ho hc hd hr⟩
  | .tuple ds, _, _, h, r => by
    cases h with
    | tup hs ha =>
      cases r
      obtain ⟨its, rv, ⟨o, ho, hc, n, hd⟩, _⟩ := I.tuple hs
      obtain ⟨as, hr⟩ := Dp.readsAll I ds _ its ha rv
      exact ⟨_, Reads.tuple ho hc hd hr⟩
  | .dict _, _, _, h, _ => by cases h
theorem Dp.readsAll (I : Inv X pins σ H s) : ∀ (ds : List PyData) (vs : List V) (us : List Value), DpAll X.K H vs ds → Vals vs us → ∃ as, ReadsAll s.heap us ds as
  | [], _, _, h, r => by
    cases h
    cases r
    exact ⟨_, ReadsAll.nil⟩
  | d :: ds, _, _, h, r => by
    cases h with
    | cons h1 h2 =>
      cases r with
      | cons r1 r2 =>
        obtain ⟨as, q1⟩ := Dp.reads I d _ _ h1 r1
        obtain ⟨bs, q2⟩ := Dp.readsAll I ds _ _ h2 r2
        exact ⟨_, ReadsAll.cons q1 q2⟩
end
end
section
variable {X : Cx}
end
end L2

namespace L2
open PySem PySem.Spec PyProof.Rows
abbrev CellAt (h : Heap) (c : Addr) (v : Option Value) : Prop := h.IsCell c v
def relS (scope sc : Scope) : Scope :=
  { scope with names := scope.names.map fun (n, k) => if (k == .free && sc.kind == .function && sc.names.lookup n == some .cell) then (n, .cell) else (n, k) }

def cloFrom (cells : List (Str × Addr)) : List (Str × NameKind) → List (Str × Addr) → List (Str × Addr)
  | [], acc => acc
  | (n, k) :: r, acc => if k == .free then cloFrom cells r ((n, (cells.lookup n).getD 0) :: acc) else cloFrom cells r acc

theorem closure_loop (env : Env) (f : Str × NameKind → List (Str × Addr) → Sem (ForInStep (List (Str × Addr))))
    (hf : ∀ n k c, f (n, k) c = if k == .free then (do let a ← cellOf env n; pure (.yield ((n, a) :: c))) else pure (.yield c)) :
    ∀ (names : List (Str × NameKind)) (acc : List (Str × Addr)), (∀ y ∈ names, y.2 = .free → ∃ c, env.cells.lookup y.1 = some c) → forIn names acc f = pure (cloFrom env.cells names acc)
  | [], acc, _ => by rw [List.forIn_nil]; rfl
  | (n, k) :: r, acc, h => by
    rw [List.forIn_cons, hf]
    have ih := fun acc => closure_loop env f hf r acc fun y hy => h y (List.mem_cons_of_mem _ hy)
    unfold cloFrom
    by_cases hk : (k == NameKind.free) = true
    · rw [if_pos hk, if_pos hk]
      obtain ⟨c, hc⟩ := h (n, k) List.mem_cons_self (by simpa using hk)
      have e : cellOf env n = pure c := by unfold cellOf; rw [hc]
      rw [e]
      have e2 : (env.cells.lookup n).getD 0 = c := by rw [hc]; rfl
      rw [e2]
      exact ih _
    · rw [if_neg hk, if_neg hk]
      exact ih _
theorem closure_ok {scope : Scope} {env : Env} (h : ∀ y ∈ scope.names, y.2 = .free → ∃ c, env.cells.lookup y.1 = some c) : closureFor scope env = pure (cloFrom env.cells scope.names []) := by
  simp only [closureFor]
  rw [closure_loop env _ (fun n k c => rfl) scope.names [] h]
  rfl

theorem mem_lookup {α : Type} : ∀ {l : List (Str × α)} {n : Str} {c : α}, (n, c) ∈ l → ∃ c', l.lookup n = some c'
  | (k, v) :: r, n, c, h => by
    rw [List.lookup_cons]
    cases hb : n == k with
    | true => exact ⟨_, rfl⟩
    | false =>
      rcases List.mem_cons.mp h with e | h
      · cases e; simp at hb
      · exact mem_lookup h

theorem cloFrom_mem {cells : List (Str × Addr)} : ∀ {names : List (Str × NameKind)} {acc : List (Str × Addr)} {n : Str} {c : Addr}, (n, c) ∈ cloFrom cells names acc → (n, c) ∈ acc ∨ ((n, .free) ∈ names ∧ c = (cells.lookup n).getD 0)
  | [], _, _, _, h => .inl h
  | (m, k) :: r, acc, n, c, h => by
    unfold cloFrom at h
    split at h
    · rename_i hk
      have hk : k = .free := by simpa using hk
      rcases cloFrom_mem h with h | ⟨h1, h2⟩
      · rcases List.mem_cons.mp h with e | h
        · cases e; exact .inr ⟨hk ▸ List.mem_cons_self, rfl⟩
        · exact .inl h
      · exact .inr ⟨List.mem_cons_of_mem _ h1, h2⟩
    · rcases cloFrom_mem h with h | ⟨h1, h2⟩
      · exact .inl h
      · exact .inr ⟨List.mem_cons_of_mem _ h1, h2⟩
theorem cloFrom_acc {cells : List (Str × Addr)} : ∀ {names : List (Str × NameKind)} {acc : List (Str × Addr)} {p : Str × Addr}, p ∈ acc → p ∈ cloFrom cells names acc
  | [], _, _, h => h
  | (m, k) :: r, acc, p, h => by
    unfold cloFrom
    split
    · exact cloFrom_acc (List.mem_cons_of_mem _ h)
    · exact cloFrom_acc h
theorem cloFrom_has {cells : List (Str × Addr)} : ∀ {names : List (Str × NameKind)} {acc : List (Str × Addr)} {n : Str}, (n, .free) ∈ names → (n, (cells.lookup n).getD 0) ∈ cloFrom cells names acc
  | (m, k) :: r, acc, n, h => by
    unfold cloFrom
    rcases List.mem_cons.mp h with e | h
    · cases e
      exact cloFrom_acc List.mem_cons_self
    · split
      · exact cloFrom_has h
      · exact cloFrom_has h

theorem cells_mem : ∀ {names : List (Str × NameKind)} {h : Heap} {acc : List (Str × Addr)} {x : Str} {c : Addr}, (x, c) ∈ cellsFrom h.objs.size names acc →
    (x, c) ∈ acc ∨ ((x, .cell) ∈ names ∧ h.objs.size ≤ c ∧ CellAt (pushCells h names) c none)
  | [], _, _, _, _, h => .inl h
  | (n, k) :: r, h, acc, x, c, hm => by
    unfold cellsFrom at hm
    unfold pushCells
    split at hm
    · rename_i hk
      rw [if_pos hk]
      have hk : k = .cell := by simpa using hk
      rw [← Heap.size_push h { cls := .type "cell", data := .cell none }] at hm
      rcases cells_mem hm with hm | ⟨h1, h2, h3⟩
      · rcases List.mem_cons.mp hm with e | hm
        · cases e
          exact .inr ⟨hk ▸ List.mem_cons_self, Nat.le_refl _, _, pushCells_keeps r _ _ _ (Heap.get?_push_size _ rfl), rfl⟩
        · exact .inl hm
      · rw [Heap.size_push] at h2
        exact .inr ⟨List.mem_cons_of_mem _ h1, Nat.le_of_succ_le h2, h3⟩
    · rename_i hk
      rw [if_neg hk]
      rcases cells_mem hm with hm | ⟨h1, h2, h3⟩
      · exact .inl hm
      · exact .inr ⟨List.mem_cons_of_mem _ h1, h2, h3⟩
theorem cells_acc : ∀ {names : List (Str × NameKind)} {n : Nat} {acc : List (Str × Addr)} {p : Str × Addr}, p ∈ acc → p ∈ cellsFrom n names acc
  | [], _, _, _, h => h
  | (m, k) :: r, n, acc, p, h => by
    unfold cellsFrom
    split
    · exact cells_acc (List.mem_cons_of_mem _ h)
    · exact cells_acc h
theorem cells_has : ∀ {names : List (Str × NameKind)} {n : Nat} {acc : List (Str × Addr)} {x : Str}, (x, .cell) ∈ names → ∃ c, (x, c) ∈ cellsFrom n names acc
  | (m, k) :: r, n, acc, x, h => by
    unfold cellsFrom
    rcases List.mem_cons.mp h with e | h
    · cases e
      exact ⟨n, cells_acc List.mem_cons_self⟩
    · split
      · exact cells_has h
      · exact cells_has h
theorem cells_inj : ∀ {names : List (Str × NameKind)} {h : Heap} {acc : List (Str × Addr)} {x y : Str} {c : Addr}, (∀ p ∈ acc, p.2 < h.objs.size) → (∀ x y c, (x, c) ∈ acc → (y, c) ∈ acc → x = y) →
    (x, c) ∈ cellsFrom h.objs.size names acc → (y, c) ∈ cellsFrom h.objs.size names acc → x = y
  | [], _, _, _, _, _, _, hi, h1, h2 => hi _ _ _ h1 h2
  | (n, k) :: r, h, acc, x, y, c, hl, hi, h1, h2 => by
    unfold cellsFrom at h1 h2
    split at h1
    · rename_i hk
      rw [if_pos hk] at h2
      rw [← Heap.size_push h { cls := .type "cell", data := .cell none }] at h1 h2
      refine cells_inj (h := h.push _) (fun p hp => ?_) (fun x y c a b => ?_) h1 h2
      · rw [Heap.size_push]
        rcases List.mem_cons.mp hp with rfl | hp
        · exact Nat.lt_succ_self _
        · exact Nat.lt_succ_of_lt (hl p hp)
      · rcases List.mem_cons.mp a with e | a <;> rcases List.mem_cons.mp b with e' | b
        · cases e; cases e'; rfl
        · cases e; exact absurd (hl _ b) (Nat.lt_irrefl _)
        · cases e'; exact absurd (hl _ a) (Nat.lt_irrefl _)
        · exact hi _ _ _ a b
    · rename_i hk
      rw [if_neg hk] at h2
      exact cells_inj hl hi h1 h2

theorem newEnv_comp {M : Model} {A : Around} {E : Value → Shared → Prop} {s : Shared} {scope : Scope} {globals : Addr} {closure : List (Str × Addr)} {qual : Str} {func : Option Addr} {code : Value} {around : Env} {builtins : Addr} {Q : Env → Shared → Prop}
    (h : Q (newEnv scope s.heap.objs.size globals (cellsFrom (s.heap.objs.size + 1) scope.names closure) qual func code (some around) builtins)
      { s with heap := pushCells (s.heap.push { cls := .type "dict", data := .dict #[] }) scope.names }) :
    wpAny M A (newFunctionEnv scope globals closure [] qual func code (some around) builtins) Q E s := by
  simp only [newFunctionEnv, Option.isSome_some, if_true]
  refine wpAny_bind (wpAny_alloc ?_)
  refine wpAny_bind (wpAny_layCells _ (fun n k c => rfl) scope.names closure _ _ ?_)
  rw [show ({ s with heap := s.heap.push { cls := .type "dict", data := .dict #[] } } : Shared).heap.objs.size = s.heap.objs.size + 1 from Heap.size_push ..]
  rw [List.forIn_nil]
  exact wpAny_bind (wpAny_pure (wpAny_pure h))

/-- every name of the written scope, in the scope that runs -/
theorem lookup_relS {sc : Scope} : ∀ {names : List (Str × NameKind)} {x : Str} {k : NameKind},
    (names.map fun (n, k) => if (k == NameKind.free && sc.kind == .function && sc.names.lookup n == some .cell) then (n, NameKind.cell) else (n, k)).lookup x = some k →
    ∃ k', names.lookup x = some k' ∧ (k = k' ∨ (k' = .free ∧ k = .cell))
  | [], _, _, h => by simp at h
  | (n, k₀) :: r, x, k, h => by
    have ih := @lookup_relS sc r x k
    have h' : List.lookup x ((if (k₀ == NameKind.free && sc.kind == .function && sc.names.lookup n == some .cell) = true then (n, NameKind.cell) else (n, k₀)) :: (r.map _)) = some k := h
    cases hx : x == n with
    | true =>
      simp only [List.lookup_cons, hx]
      by_cases hc : (k₀ == NameKind.free && sc.kind == .function && sc.names.lookup n == some .cell) = true
      · rw [if_pos hc] at h'
        simp only [List.lookup_cons, hx] at h'
        cases h'
        simp only [Bool.and_eq_true, beq_iff_eq] at hc
        exact ⟨k₀, rfl, .inr ⟨hc.1.1, rfl⟩⟩
      · rw [if_neg hc] at h'
        simp only [List.lookup_cons, hx] at h'
        cases h'
        exact ⟨_, rfl, .inl rfl⟩
    | false =>
      simp only [List.lookup_cons, hx]
      by_cases hc : (k₀ == NameKind.free && sc.kind == .function && sc.names.lookup n == some .cell) = true
      · rw [if_pos hc] at h'
        simp only [List.lookup_cons, hx] at h'
        exact ih h'
      · rw [if_neg hc] at h'
        simp only [List.lookup_cons, hx] at h'
        exact ih h'
/-- the names of a comprehension's block: its own (with their places in N), or captured -/
structure BlkOk (N : List Str) (sc scope : Scope) (own : List (Str × Nat)) : Prop where
  kind : scope.kind = .function
  uniq : ∀ y ∈ scope.names, scope.names.lookup y.1 = some y.2
  ix : ∀ p ∈ own, N[p.2]? = some p.1
  free : ∀ y ∈ scope.names, y.2 = .free → sc.names.lookup y.1 = some .cell ∨ sc.names.lookup y.1 = some .free
  own : ∀ y ∈ scope.names, y.2 = .local ∨ y.2 = .cell → y.1 ∈ own.map (·.1) ∨ y.1 ∉ N
/-- the slots of the block's own names forgotten -/
def wipe (σ : St) : List Nat → St
  | [] => σ
  | v :: vs => (wipe σ vs).set v none
theorem wipe_length (σ : St) : ∀ vs : List Nat, (wipe σ vs).length = σ.length
  | [] => rfl
  | v :: vs => by unfold wipe; rw [List.length_set, wipe_length σ vs]
theorem wipe_some {σ : St} {i : Nat} {x : V} : ∀ {vs : List Nat}, (wipe σ vs)[i]? = some (some x) → σ[i]? = some (some x) ∧ i ∉ vs
  | [], h => ⟨h, by simp⟩
  | v :: vs, h => by
    unfold wipe at h
    by_cases hi : v = i
    · subst hi
      by_cases hv : v < (wipe σ vs).length
      · rw [List.getElem?_set_self hv] at h; cases h
      · rw [List.getElem?_eq_none (by simpa using hv)] at h; cases h
    · rw [List.getElem?_set_ne hi] at h
      obtain ⟨h1, h2⟩ := wipe_some h
      exact ⟨h1, by simp only [List.mem_cons, not_or]; exact ⟨fun e => hi e.symm, h2⟩⟩

/-- the context of a block that starts at s, its iterator's objects at fp -/
abbrev Cx.blk (X : Cx) (s : Shared) (H : Hp) (scope : Scope) (cenv : Env) (fp : List Addr) : Cx := { X with s_0 := s, H_0 := H, env := cenv, outer := X.stack, ex := fp, fn := fun x => scope.names.lookup x == some .cell, pn := [], xe := fun _ _ => False }
section
variable {X : Cx} {pins : List (Addr × Obj)} {σ : St} {H : Hp} {s : Shared}
theorem block_start {scope : Scope} {own : List (Str × Nat)} {fp : List Addr} (I : Inv X pins σ H s) (ok : BlkOk X.N X.env.scope scope own) (hN : X.N.Nodup) (hfp : ∀ b ∈ fp, FpOk X pins H b ∧ b < s.heap.objs.size) :
    Inv (X.blk s H scope (compEnvC scope (cellsFrom (s.heap.objs.size + 1) scope.names (cloFrom X.env.cells scope.names [])) s.heap.objs.size X.env) fp) [] (wipe σ (own.map (·.2))) H { s with heap := pushCells (s.heap.push { cls := .type "dict", data := .dict #[] }) scope.names } := by
  have hfree : ∀ y ∈ scope.names, y.2 = .free → ∃ c, X.env.cells.lookup y.1 = some c := fun y hy e => by
    rcases ok.free y hy e with k | k
    · exact I.ok.has _ (.inl k)
    · exact I.ok.has _ (.inr k)
  generalize hcenv : compEnvC scope (cellsFrom (s.heap.objs.size + 1) scope.names (cloFrom X.env.cells scope.names [])) s.heap.objs.size X.env = cenv
  have kp : ∀ b o, s.heap.get? b = some o → (pushCells (s.heap.push { cls := .type "dict", data := .dict #[] }) scope.names).get? b = some o := fun b o e => pushCells_keeps _ _ _ _ (Heap.get?_push_of_some _ e)
  have hL : cenv.locals = s.heap.objs.size := by rw [← hcenv]; rfl
  have hcl : cenv.cells = cellsFrom (s.heap.objs.size + 1) scope.names (cloFrom X.env.cells scope.names []) := by rw [← hcenv]; rfl
  have hsc : cenv.scope = relS scope X.env.scope := by rw [← hcenv]; rfl
  rw [← Heap.size_push s.heap { cls := .type "dict", data := .dict #[] }] at hcl
  have cm : ∀ {y c}, (y, c) ∈ cloFrom X.env.cells scope.names [] → X.env.cells.lookup y = some c ∧ c < s.heap.objs.size := fun {y c} hm => by
    rcases cloFrom_mem hm with hm | ⟨h1, rfl⟩
    · cases hm
    · obtain ⟨c, hc⟩ := hfree _ h1 rfl
      rw [hc]
      obtain ⟨w, z⟩ := I.cell _ _ hc
      exact ⟨rfl, z.lt⟩
  have mem : ∀ {y c}, cenv.cells.lookup y = some c → (X.env.cells.lookup y = some c ∧ c < s.heap.objs.size) ∨ (s.heap.objs.size + 1 ≤ c ∧ CellAt (pushCells (s.heap.push { cls := .type "dict", data := .dict #[] }) scope.names) c none) := fun {y c} e => by
    rw [hcl] at e
    rcases cells_mem (PySem.mem_of_lookup e) with hm | ⟨_, h2, h3⟩
    · exact .inl (cm hm)
    · rw [Heap.size_push] at h2; exact .inr ⟨h2, h3⟩
  have look : ∀ {y}, scope.names.lookup y = some .free → ∃ c, cenv.cells.lookup y = some c ∧ X.env.cells.lookup y = some c := fun {y} hl => by
    have hy : (y, NameKind.free) ∈ scope.names := PySem.mem_of_lookup hl
    obtain ⟨c', e'⟩ := mem_lookup (cells_acc (names := scope.names) (n := (s.heap.push { cls := .type "dict", data := .dict #[] }).objs.size) (cloFrom_has (cells := X.env.cells) (acc := []) hy))
    rw [← hcl] at e'
    refine ⟨c', e', ?_⟩
    rw [hcl] at e'
    rcases cells_mem (PySem.mem_of_lookup e') with hm | ⟨h1, _, _⟩
    · exact (cm hm).1
    · have := ok.uniq _ h1
      rw [hl] at this; cases this
  have okB : (X.blk s H scope cenv fp).Ok := by
    refine ⟨I.ok.mod, by show cenv.scope.kind = _; rw [hsc]; exact ok.kind, by show cenv.globals = _; rw [← hcenv]; exact I.ok.glob, by show cenv.builtins = _; rw [← hcenv]; exact I.ok.blt, by show s.heap.objs.size ≤ cenv.locals; rw [hL]; exact Nat.le_refl _,
      fun y z c e1 e2 => ?_, fun y hy => ?_, fun y c z e => ?_, I.ok.hd, I.ok.frames, .inl rfl, fun b hb => ⟨?_, fun y c e z => ?_⟩, I.bs, Nat.le_trans I.ok.bsz I.sz, fun b o e hb => ?_, fun b hb z => ?_, I.stack, I.stkFree⟩
    · have e1 : cenv.cells.lookup y = some c := e1
      have e2 : cenv.cells.lookup z = some c := e2
      rw [hcl] at e1 e2
      refine cells_inj (fun p hp => ?_) (fun y z c a b => I.ok.inj y z c (cm a).1 (cm b).1) (PySem.mem_of_lookup e1) (PySem.mem_of_lookup e2)
      rw [Heap.size_push]
      exact Nat.lt_succ_of_lt (cm (y := p.1) (c := p.2) hp).2
    · show ∃ c, cenv.cells.lookup y = some c
      have key : ∀ k, cenv.kindOf y = some k → (k = .cell ∨ k = .free) → ∃ c, cenv.cells.lookup y = some c := fun k hk hk' => by
        unfold Env.kindOf at hk
        rw [hsc] at hk
        obtain ⟨k', e, r⟩ := lookup_relS hk
        have : k' = .cell ∨ k' = .free := by
          rcases r with rfl | ⟨rfl, _⟩
          · exact hk'
          · exact .inr rfl
        rcases this with rfl | rfl
        · obtain ⟨c, hm⟩ := cells_has (n := (s.heap.push { cls := .type "dict", data := .dict #[] }).objs.size) (acc := cloFrom X.env.cells scope.names []) (PySem.mem_of_lookup e)
          obtain ⟨c', e'⟩ := mem_lookup hm
          exact ⟨c', by rw [hcl]; exact e'⟩
        · obtain ⟨c, h1, _⟩ := look e
          exact ⟨c, h1⟩
      rcases hy with hy | hy
      · exact key _ hy (.inl rfl)
      · exact key _ hy (.inr rfl)
    · have z : (scope.names.lookup y == some NameKind.cell) = true := z
      have z : scope.names.lookup y = some .cell := by simpa using z
      have e : cenv.cells.lookup y = some c := e
      rw [hcl] at e
      rcases cells_mem (PySem.mem_of_lookup e) with hm | ⟨_, h2, _⟩
      · rcases cloFrom_mem hm with hm | ⟨h1, _⟩
        · cases hm
        · have q := ok.uniq _ h1
          rw [z] at q; cases q
      · rw [Heap.size_push] at h2
        exact Nat.le_of_succ_le h2
    · show b ≠ cenv.locals
      rw [hL]; exact Nat.ne_of_lt (hfp b hb).2
    · have e : cenv.cells.lookup y = some c := e
      rcases mem e with ⟨h1, _⟩ | ⟨h1, _⟩
      · exact (hfp b hb).1.2.2.2.2.1 y c h1 z
      · have h2 : s.heap.objs.size + 1 ≤ b := by rw [← z]; exact h1
        exact absurd (Nat.lt_of_lt_of_le (hfp b hb).2 (Nat.le_of_succ_le h2)) (Nat.lt_irrefl _)
    · rcases (hfp b hb).1.2.2.2.1 with z | z
      · exact I.ok.noex b o e z
      · exact absurd (Nat.lt_of_lt_of_le (Heap.lt_size e) (Nat.le_trans I.ok.bsz z)) (Nat.lt_irrefl _)
    · rcases List.mem_cons.mp (I.stkSub b z) with z | z
      · exact (hfp b hb).1.2.1 z
      · exact (hfp b hb).1.2.2.1 z
  refine ⟨okB, rfl, I.bare, Un.kept kp, ⟨fun _ => none, ?_, fun i y av e1 e2 e3 => ?_⟩, fun y c e => ?_, ?_, fun y c e => ?_, fun p hp => ?_, I.hok.kept kp, by rw [wipe_length]; exact I.len⟩
  · show Heap.Ns _ cenv.locals _
    rw [hL]
    exact Heap.Ns.keeps (Heap.Ns.new ..) fun b o e => pushCells_keeps _ _ _ _ e
  · obtain ⟨e2, hne⟩ := wipe_some e2
    have hfr : scope.names.lookup y = some .free ∧ (cenv.kindOf y = some .cell ∨ cenv.kindOf y = some .free) := by
      have key : ∀ k, cenv.scope.names.lookup y = some k → k = .local ∨ k = .cell ∨ k = .free → scope.names.lookup y = some .free ∧ (cenv.kindOf y = some .cell ∨ cenv.kindOf y = some .free) := fun k hk hk' => by
        have hk0 := hk
        rw [hsc] at hk
        obtain ⟨k', e, r⟩ := lookup_relS hk
        have no : ¬ (k' = .local ∨ k' = .cell) := fun hh => by
          rcases ok.own _ (PySem.mem_of_lookup e) hh with e' | e'
          · obtain ⟨p, hp, hpy⟩ := List.mem_map.mp e'
            have e3 := ok.ix p hp
            have : p.1 = y := hpy
            rw [this] at e3
            exact hne (List.mem_map.mpr ⟨p, hp, nodup_ix hN e3 e1⟩)
          · exact e' (List.mem_of_getElem? e1)
        rcases r with rfl | ⟨rfl, rfl⟩
        · rcases hk' with rfl | rfl | rfl
          · exact absurd (.inl rfl) no
          · exact absurd (.inr rfl) no
          · exact ⟨e, .inr hk0⟩
        · exact ⟨e, .inl hk0⟩
      have e3 : Vis cenv.scope y := e3
      rcases e3 with e3 | e3 | e3
      · exact key _ e3 (.inl rfl)
      · exact key _ e3 (.inr (.inl rfl))
      · exact key _ e3 (.inr (.inr rfl))
    obtain ⟨m, hn, hl⟩ := I.loc
    have hvis : Vis X.env.scope y := (ok.free _ (PySem.mem_of_lookup hfr.1) rfl).elim (fun k => .inr (.inl k)) (fun k => .inr (.inr k))
    obtain ⟨w, r, q⟩ := hl i y av e1 e2 hvis
    refine ⟨w, r, .inr ⟨hfr.2, ?_⟩⟩
    obtain ⟨c, h1, h2⟩ := look hfr.1
    rcases q with ⟨k, _⟩ | ⟨_, c', e', z⟩
    · have k : X.env.scope.names.lookup y = some .local := k
      rcases ok.free _ (PySem.mem_of_lookup hfr.1) rfl with k' | k' <;> rw [show X.env.scope.names.lookup y = _ from k'] at k <;> cases k
    · rw [h2] at e'; cases e'
      exact ⟨c, h1, z.keeps kp⟩
  · have e : cenv.cells.lookup y = some c := e
    rcases mem e with ⟨h1, _⟩ | ⟨_, z⟩
    · obtain ⟨w, z⟩ := I.cell y c h1
      exact ⟨w, z.keeps kp⟩
    · exact ⟨_, z⟩
  · show H cenv.locals = none
    rw [hL]; exact I.hok.fresh (Nat.le_refl _)
  · have e : cenv.cells.lookup y = some c := e
    rcases mem e with ⟨h1, _⟩ | ⟨h1, _⟩
    · exact I.freeC y c h1
    · exact I.hok.fresh (Nat.le_of_succ_le h1)
  · exact absurd (show p ∈ ([] : List (Addr × Obj)) ++ [] from hp) (by simp)

/-- an item appended to a tracked list -/
theorem app_ok {E : Value → Shared → Prop} {D : Addr} {xs : List V} {y : V} {v : Value} {Q : Value → Shared → Prop} (I : Inv X pins σ H s) (hD : H D = some (.lst xs)) (hz : xs.length < sizeLine) (r : RelV y v)
    (h : ∀ s', Inv X pins σ (upd H D (.lst (xs ++ [y]))) s' → Q .none s') : wpAny (model X.prog X.w) X.A (call (.builtin "list.append") [.ref D, v]) Q E s := by
  obtain ⟨hz', its, n, ri, e⟩ := I.hok D _ hD
  have hl := ri.length
  refine append_at (hsz := by rw [List.size_toArray]; omega) e fun h' sb ho' => ?_
  refine h { s with heap := h' } (I.write (t' := s.toks) (by rw [hD]; trivial) (.inl rfl) (fun b u hb q => (sb.2 b hb).trans q) ⟨_, ho'⟩ ⟨by rw [List.length_append]; exact hz, its ++ [v], n + 1, ri.append (.cons r .nil), ?_⟩)
  rw [ho']
  simp

/-- a clause's tests -/
def PTs (X : Cx) (ifs : List Expr) (t : TT) : Prop :=
  ∀ (pins : List (Addr × Obj)) (s : Shared) (σ : St) (H : Hp) (Q : Bool → Hp → Prop), Inv X pins σ H s → t σ H Q →
    wpAny (model X.prog X.w) X.A (forIn ifs true fun c r => if r = true then do let ok ← isTrue c X.env (eval c X.env); pure (ForInStep.yield ok) else pure (ForInStep.yield r)) (TP X pins σ Q) X.xe s
def tYes : TT := fun _ H Q => Q true H
theorem pts_nil : PTs X [] tYes := fun _ _ _ H _ I h => wpAny_tests_nil ⟨H, I, h⟩
end

theorem thnF {α : Type} {t : Sem α} {Q Q' : α → Shared → Prop} {M : Model} {A : Around} {E : Value → Shared → Prop} {s : Shared} (h : wpAny M A t Q (fun _ _ => False) s) (hQ : ∀ a s, Q a s → Q' a s) : wpAny M A t Q' E s := wpAny_mono h hQ fun _ _ z => False.elim z

/-- the loop of a list comprehension's block, the target of any form (codeAny_compLoop_tests asks a target that no tuple goes to; statement and proof follow it, PyProof/CompMap.lean:41-61, with the step letOwnedTupleGo kept) -/
theorem compLoop_any {prog : Program} {w : World} {A : Around} {R : Result → Shared → Prop} {s : Shared} {elt target iter : Expr} {ifs : List Expr} {scope : Scope} {pos : Pos} {it acc : Value} {env : Env} (I : Nat → Shared → Prop)
    (turn : ∀ n s, I n s → wpAny (model prog w) A (pyNext it) (fun r s₁ => match r with
      | none => R (.ok .next) s₁
      | some v => wpAny (model prog w) A (letOwnedTupleGo target it v) (fun _ s₁' => wpAny (model prog w) A (assign target env v) (fun _ s₂ =>
          wpAny (model prog w) A (forIn ifs true fun c r => if r = true then do let ok ← isTrue c env (eval c env); pure (ForInStep.yield ok) else pure (ForInStep.yield r)) (fun ok s₃ =>
            if ok = true then wpAny (model prog w) A (eval elt env) (fun x s₄ =>
              wpAny (model prog w) A (call (.builtin "list.append") [acc, x]) (fun _ s₅ => ∃ m, m < n ∧ I m s₅) (notedBy (model prog w) A env fun e s' => R (.error e) s') s₄) (notedBy (model prog w) A env fun e s' => R (.error e) s') s₃
            else ∃ m, m < n ∧ I m s₃) (notedBy (model prog w) A env fun e s' => R (.error e) s') s₂) (notedBy (model prog w) A env fun e s' => R (.error e) s') s₁') (notedBy (model prog w) A env fun e s' => R (.error e) s') s₁) (notedBy (model prog w) A env fun e s' => R (.error e) s') s)
    (n : Nat) (h : I n s) :
    codeAny (model prog w) A (.compLoop (.ListComp elt [⟨target, iter, ifs, 0⟩] scope pos) 0 it acc env) R s := by
  refine codeAny_loop rfl I (fun n s hI => ?_) n h
  show wpAny _ A ((compTurn (.ListComp elt [⟨target, iter, ifs, 0⟩] scope pos) 0 it acc env).onRaise (fun x => do noteFrame x env; theTreesLotGoes x)) _ _ s
  refine wpAny_noted ?_
  rw [compTurn_list]
  refine wpAny_bind (wpAny_standAt (wpAny_bind (wpAny_mono (turn n s hI) (fun r s₁ h₁ => ?_) fun _ _ h' => h')))
  cases r with
  | none => exact wpAny_pure h₁
  | some v =>
    refine wpAny_bind (wpAny_mono h₁ (fun _ s₁' h₁' => ?_) fun _ _ h' => h')
    refine wpAny_bind (wpAny_mono h₁' (fun _ s₂ h₂ => wpAny_bind (wpAny_mono h₂ (fun ok s₃ h₃ => ?_) fun _ _ h' => h')) fun _ _ h' => h')
    cases ok with
    | false => exact wpAny_pure ⟨rfl, h₃⟩
    | true =>
      exact wpAny_bind (wpAny_bind (wpAny_mono h₃ (fun x s₄ h₄ => wpAny_bind (wpAny_mono h₄ (fun _ s₅ h₅ => wpAny_pure (wpAny_pure ⟨rfl, h₅⟩)) fun _ _ h' => h')) fun _ _ h' => h'))

section
variable {X : Cx}
/-- [elt for target in iter if ..]: D the new list; W by the turn and a measure, Nx what a turn is to reach -/
def tLc (wi : TI) (g : TG) (tt : TT) (te : TE) (vs : List Nat) : TE := fun σ H Q => wi σ H fun J H1 => ∀ D, H1 D = none → ∃ W : Nat → Nat → Hp → Prop, (∃ m, W 0 m (upd H1 D (.lst []))) ∧ ∀ i m H, W i m H →
  (J.stop i H ∧ Q (.ref D) H) ∨ (J.go i H ∧ ∃ Nx : Hp → Prop, (∀ H', Nx H' → ∃ m', m' < m ∧ W (i + 1) m' H') ∧ ∀ x H', J.yld i H x H' → g x (wipe σ vs) H' fun σ2 H2 => wipe σ2 vs = wipe σ vs ∧ tt σ2 H2 fun b H3 =>
    if b = true then te σ2 H3 fun y H4 => ∃ acc, H4 D = some (.lst acc) ∧ acc.length < sizeLine ∧ Nx (upd H4 D (.lst (acc ++ [y]))) else Nx H3)
theorem lc_core {pins : List (Addr × Obj)} {s : Shared} {σ : St} {H : Hp} {Q : VK} {elt tg iter : Expr} {ifs : List Expr} {scope : Scope} {own : List (Str × Nat)} {pos pos' : Pos} {wi : TI} {g : TG} {tt : TT} {te : TE} {use : Option (Value → Sem Unit)} {Qf : Value → Shared → Prop}
    (hc : X.calm = true) (hN : X.N.Nodup) (I : Inv X pins σ H s) (hi : PI X tg iter wi) (ok : BlkOk X.N X.env.scope scope own)
    (hg : ∀ (s : Shared) (H : Hp) (C : Addr) (cl : List (Str × Addr)) (fp : List Addr), PG (X.blk s H scope (compEnvC scope cl C X.env) fp) tg g) (ht : ∀ (s : Shared) (H : Hp) (C : Addr) (cl : List (Str × Addr)) (fp : List Addr), PTs (X.blk s H scope (compEnvC scope cl C X.env) fp) ifs tt)
    (he : ∀ (s : Shared) (H : Hp) (C : Addr) (cl : List (Str × Addr)) (fp : List Addr), PE (X.blk s H scope (compEnvC scope cl C X.env) fp) elt te) (hs : ∀ x, foldedSetIterable iter X.env x = pure x)
    (h : tLc wi g tt te (own.map (·.2)) σ H Q)
    (hRR : ∀ D C s' m H', Inv X pins σ H' s' → Q (.ref D) H' → s'.heap.Ns C m → FpOk X pins H' C → compPost (model X.prog X.w) X.A X.xe use Qf (.ref D) C (.ok .next) s') :
    wpAny (model X.prog X.w) X.A (comprehension (.ListComp elt [⟨tg, iter, ifs, 0⟩] scope pos) scope X.env pos' (newList []) false (eval iter X.env) use) Qf X.xe s := by
  have hfree : ∀ y ∈ scope.names, y.2 = .free → ∃ c, X.env.cells.lookup y.1 = some c := fun y hy e => by
    rcases ok.free y hy e with k | k
    · exact I.ok.has _ (.inl k)
    · exact I.ok.has _ (.inr k)
  refine wpAny_comprehension_free (use := use) rfl hs (closure_ok hfree) ok.kind (fun y hy e => by rw [ok.uniq y hy, e])
    (thn (hi pins s σ H _ I h) fun xv s1 hx => thn hx fun itv s2 h2 => ?_)
  obtain ⟨it, fp, tn, J, H2, e, I2, T, st2, f2, q⟩ := h2
  subst e
  refine wpAny_newObj_type (newEnv_comp ?_) (by show 0 ≤ sizeLine; decide)
  generalize hD : s2.heap.objs.size = D
  have hDn : H2 D = none := I2.hok.fresh (Nat.le_of_eq hD)
  obtain ⟨W, ⟨m0, w0⟩, turn⟩ := q D hDn
  -- the new list
  generalize hs3 : ({ s2 with heap := s2.heap.push { cls := .type "list", data := .seq ([] : List Value).toArray } } : Shared) = s3
  have I3 : Inv X pins σ (upd H2 D (.lst [])) s3 := by
    rw [← hs3]
    refine I2.laid (t' := s2.toks) (fun b o e => Heap.get?_push_of_some _ e) (Nat.le_of_eq hD) ⟨Nat.zero_le _, [], 0, .nil, ?_⟩
    rw [← hD]
    exact Heap.get?_push_size _ rfl
  have h3 : s3.heap = s2.heap.push { cls := .type "list", data := .seq ([] : List Value).toArray } := by rw [← hs3]
  have sz : ∀ b ∈ fp, b < s2.heap.objs.size := fun b hb => by
    obtain ⟨o, e, _⟩ := T.obj _ _ st2 b hb
    exact Heap.lt_size e
  have f3 : ∀ b ∈ fp, FpOk X pins (upd H2 D (.lst [])) b ∧ b < s3.heap.objs.size := fun b hb => by
    have hlt := sz b hb
    refine ⟨⟨?_, (f2 b hb).2⟩, by rw [h3, Heap.size_push]; exact Nat.lt_succ_of_lt hlt⟩
    rw [upd_ne (by rw [← hD]; exact Nat.ne_of_lt hlt)]
    exact (f2 b hb).1
  have st3 : tn 0 s3.heap := T.keep _ _ _ st2 fun b _ o e => by rw [h3]; exact Heap.get?_push_of_some _ e
  have I4 := block_start I3 ok hN f3
  have pg := hg s3 (upd H2 D (.lst [])) s3.heap.objs.size (cellsFrom (s3.heap.objs.size + 1) scope.names (cloFrom X.env.cells scope.names [])) fp
  have pt := ht s3 (upd H2 D (.lst [])) s3.heap.objs.size (cellsFrom (s3.heap.objs.size + 1) scope.names (cloFrom X.env.cells scope.names [])) fp
  have pe := he s3 (upd H2 D (.lst [])) s3.heap.objs.size (cellsFrom (s3.heap.objs.size + 1) scope.names (cloFrom X.env.cells scope.names [])) fp
  show codeAny _ _ (.compStart (.ListComp elt [⟨tg, iter, ifs, 0⟩] scope pos) 0 (.ref it) (.ref D) (compEnvC scope (cellsFrom (s3.heap.objs.size + 1) scope.names (cloFrom X.env.cells scope.names [])) s3.heap.objs.size X.env)) (compPost (model X.prog X.w) X.A X.xe use Qf (.ref D) s3.heap.objs.size) { s3 with heap := pushCells (s3.heap.push { cls := .type "dict", data := .dict #[] }) scope.names }
  have nfp : ∀ b ∈ fp, (upd H2 D (.lst [])) b = none := fun b hb => (f3 b hb).1.1
  generalize hce : compEnvC scope (cellsFrom (s3.heap.objs.size + 1) scope.names (cloFrom X.env.cells scope.names [])) s3.heap.objs.size X.env = ce at I4 pg pt pe ⊢
  have cL : ce.locals = s3.heap.objs.size := by subst hce; rfl
  generalize hH3 : upd H2 D (.lst []) = H3 at I3 I4 pg pt pe w0 nfp f3
  generalize hs4 : ({ s3 with heap := pushCells (s3.heap.push { cls := .type "dict", data := .dict #[] }) scope.names } : Shared) = s4 at I4 ⊢
  have st4 : tn 0 s4.heap := T.keep _ _ _ st3 fun b _ o e => by rw [← hs4]; exact pushCells_keeps _ _ _ _ (Heap.get?_push_of_some _ e)
  have stat : ∀ {σ' : St} {H' : Hp} {s' : Shared}, Inv (X.blk s3 H3 scope ce fp) [] σ' H' s' → (∀ b ∈ fp, H' b = none) → ∀ b ∈ fp, FpOk (X.blk s3 H3 scope ce fp) [] H' b := fun {σ' H' s'} I' hn b hb =>
    ⟨hn b hb, (I'.ok.exf b hb).1, I'.ok.exfs b hb, .inl hb, fun x c e => (I'.ok.exf b hb).2 x c e, fun p hp => absurd (show p ∈ ([] : List (Addr × Obj)) ++ [] from hp) (by simp)⟩
  have loop : codeAny (model X.prog X.w) X.A (.compLoop (.ListComp elt [⟨tg, iter, ifs, 0⟩] scope pos) 0 (.ref it) (.ref D) ce) (compPost (model X.prog X.w) X.A X.xe use Qf (.ref D) s3.heap.objs.size) s4 := by
    refine compLoop_any (fun n s' => ∃ i H', Inv (X.blk s3 H3 scope ce fp) [] (wipe σ (own.map (·.2))) H' s' ∧ tn i s'.heap ∧ (∀ b ∈ fp, H' b = none) ∧ W i n H') ?_ m0 ⟨0, H3, I4, st4, nfp, w0⟩
    rintro n s5 ⟨i, H5, I5, st5, n5, w5⟩
    rcases turn i n H5 w5 with ⟨stop, qq⟩ | ⟨go, Nx, hNx, step⟩
    · have td := T.done (X.blk s3 H3 scope ce fp) rfl rfl rfl hc i [] s5 _ H5 (fun _ _ => False) I5 (stat I5 n5) st5 stop
      refine thnF td fun r s6 ⟨hr, I6⟩ => ?_
      subst hr
      -- back in the def's context
      have I7 : Inv X pins σ H5 s6 := I3.call' (ch := fp) I6.os I6.base I6.hok I6.bare fun b hb => ⟨(f3 b hb).1.2.2.2.1, (f3 b hb).1.2.1, (f3 b hb).1.2.2.2.2.1, (f3 b hb).1.2.2.2.2.2⟩
      have nC : H5 s3.heap.objs.size = none := by
        have z : H5 ce.locals = none := I6.free
        rw [cL] at z
        exact z
      obtain ⟨m, hn, _⟩ := I6.loc
      have hn : s6.heap.Ns ce.locals m := hn
      rw [cL] at hn
      exact hRR D s3.heap.objs.size s6 m H5 I7 qq hn (I3.fpOk (Nat.le_refl _) nC)
    · have ti := T.item (X.blk s3 H3 scope ce fp) rfl rfl rfl hc i [] s5 _ H5 (fun _ _ => False) I5 (stat I5 n5) st5 go
      refine thnF ti fun r s6 ⟨u, hr, h6⟩ => ?_
      subst hr
      refine thnF h6 fun _ s7 ⟨x, H7, I7, r7, y7, st7, n7⟩ => ?_
      have I7' := I7.pinned (stat I7 n7) (T.obj _ _ st7)
      refine thnF (pg _ s7 _ H7 x u _ I7' r7 (step x H7 y7)) fun _ s8 ⟨σ8, H8, I8, hw8, q8⟩ => ?_
      refine thnF (pt _ s8 σ8 H8 _ I8 q8) fun b s9 ⟨H9, I9, q9⟩ => ?_
      -- the turn's end
      have fin : ∀ {s' : Shared} {H' : Hp}, Inv (X.blk s3 H3 scope ce fp) ([] ++ pinsAt fp s7.heap) σ8 H' s' → Nx H' → ∃ m, m < n ∧ ∃ i H', Inv (X.blk s3 H3 scope ce fp) [] (wipe σ (own.map (·.2))) H' s' ∧ tn i s'.heap ∧ (∀ b ∈ fp, H' b = none) ∧ W i m H' := fun {s' H'} I' nx => by
        obtain ⟨m', hm, w'⟩ := hNx H' nx
        have pin' : ∀ b ∈ fp, ∀ o, s7.heap.get? b = some o → s'.heap.get? b = some o ∧ H' b = none := fun b hb o e =>
          let z := I'.pin (b, o) (List.mem_append_right _ (List.mem_append_right _ (mem_pinsAt hb e)))
          ⟨z.1, z.2.1⟩
        have hl : (wipe σ (own.map (·.2))).length = σ8.length := by rw [← hw8, wipe_length]
        refine ⟨m', hm, i + 1, H', (I'.unpinned (pins := [])).weak hl (fun j v e => ?_), T.keep _ _ _ st7 fun b hb o e => (pin' b hb o e).1, fun b hb => ?_, w'⟩
        · rw [← hw8] at e
          exact (wipe_some e).1
        · obtain ⟨o, e, _⟩ := T.obj _ _ st7 b hb
          exact (pin' b hb o e).2
      cases b with
      | false =>
        simp only [Bool.false_eq_true, if_false] at q9 ⊢
        exact fin I9 q9
      | true =>
        simp only [if_true] at q9 ⊢
        refine thnF (pe _ s9 σ8 H9 _ I9 q9) fun z s10 ⟨yv, H10, I10, r10, acc, hD10, hz10, nx⟩ => ?_
        exact app_ok (X := X.blk s3 H3 scope ce fp) I10 hD10 hz10 r10 fun s11 I11 => fin I11 nx
  exact codeAny_compStart_list loop (T.self X.A 0 _ _ _ st4 loop)
/-- as a value -/
theorem pe_lc {elt tg iter : Expr} {ifs : List Expr} {scope : Scope} {own : List (Str × Nat)} {pos : Pos} {wi : TI} {g : TG} {tt : TT} {te : TE} (hc : X.calm = true) (hN : X.N.Nodup) (hi : PI X tg iter wi) (ok : BlkOk X.N X.env.scope scope own)
    (hg : ∀ (s : Shared) (H : Hp) (C : Addr) (cl : List (Str × Addr)) (fp : List Addr), PG (X.blk s H scope (compEnvC scope cl C X.env) fp) tg g) (ht : ∀ (s : Shared) (H : Hp) (C : Addr) (cl : List (Str × Addr)) (fp : List Addr), PTs (X.blk s H scope (compEnvC scope cl C X.env) fp) ifs tt)
    (he : ∀ (s : Shared) (H : Hp) (C : Addr) (cl : List (Str × Addr)) (fp : List Addr), PE (X.blk s H scope (compEnvC scope cl C X.env) fp) elt te) (hs : ∀ x, foldedSetIterable iter X.env x = pure x := by intro _; rfl) :
    PE X (.ListComp elt [⟨tg, iter, ifs, 0⟩] scope pos) (tLc wi g tt te (own.map (·.2))) := by
  intro pins s σ H Q I h
  rw [eval_ListComp]
  refine lc_core hc hN I hi ok hg ht he hs h fun D C s' m H' I' q hn f => ⟨m, hn, fun h'' sb => ?_⟩
  obtain ⟨f0, f1, f2, f3, f4, f5⟩ := f
  exact ⟨.ref D, H', I'.turned (t' := s'.toks) (fun b o hb e => (sb.2 b hb).trans e) f0 f1 f3 f4 f5, rfl, q⟩
end

/-! ### the forms one uses -/
/-- over a range: Pv by the turn and the heap (the new list at D within) -/
theorem lc_range {lo : Int} {n : Nat} {g : TG} {tt : TT} {te : TE} {vs : List Nat} {σ : St} {H1 : Hp} {D : Addr} {Qd : Hp → Prop} (Pv : Nat → Hp → Prop) (h0 : Pv 0 (upd H1 D (.lst [])))
    (hs : ∀ i H, i < n → Pv i H → g (.int (lo + i)) (wipe σ vs) H fun σ2 H2 => wipe σ2 vs = wipe σ vs ∧ tt σ2 H2 fun b H3 =>
      if b = true then te σ2 H3 fun y H4 => ∃ acc, H4 D = some (.lst acc) ∧ acc.length < sizeLine ∧ Pv (i + 1) (upd H4 D (.lst (acc ++ [y]))) else Pv (i + 1) H3) (hd : ∀ H, Pv n H → Qd H) :
    ∃ W : Nat → Nat → Hp → Prop, (∃ m, W 0 m (upd H1 D (.lst []))) ∧ ∀ i m H, W i m H →
      ((Itr lo n).stop i H ∧ Qd H) ∨ ((Itr lo n).go i H ∧ ∃ Nx : Hp → Prop, (∀ H', Nx H' → ∃ m', m' < m ∧ W (i + 1) m' H') ∧ ∀ x H', (Itr lo n).yld i H x H' → g x (wipe σ vs) H' fun σ2 H2 => wipe σ2 vs = wipe σ vs ∧ tt σ2 H2 fun b H3 =>
        if b = true then te σ2 H3 fun y H4 => ∃ acc, H4 D = some (.lst acc) ∧ acc.length < sizeLine ∧ Nx (upd H4 D (.lst (acc ++ [y]))) else Nx H3) := by
  refine ⟨fun i m H => m = n - i ∧ i ≤ n ∧ Pv i H, ⟨n, by simp, Nat.zero_le _, h0⟩, ?_⟩
  rintro i m H ⟨rfl, hi, p⟩
  by_cases hlt : i < n
  · refine .inr ⟨hlt, Pv (i + 1), fun H' p' => ⟨n - (i + 1), by omega, rfl, hlt, p'⟩, fun x H' y => ?_⟩
    obtain ⟨e, y⟩ := y
    subst e y
    exact hs i _ hlt p
  · have e : i = n := by omega
    subst e
    exact .inl ⟨Nat.le_refl _, hd H p⟩
def blkC (N : List Str) (sc scope : Scope) (own : List (Str × Nat)) : Bool :=
  (match scope.kind with | .function => true | _ => false) && (scope.names.all fun y => decide (scope.names.lookup y.1 = some y.2)) && (own.all fun p => decide (N[p.2]? = some p.1)) &&
    (scope.names.all fun y => match y.2 with
      | .free => (match sc.names.lookup y.1 with | some .cell => true | some .free => true | _ => false)
      | .local => decide (y.1 ∈ own.map (·.1)) || decide (y.1 ∉ N)
      | .cell => decide (y.1 ∈ own.map (·.1)) || decide (y.1 ∉ N)
      | _ => true)
theorem blkOk_by {N : List Str} {sc scope : Scope} {own : List (Str × Nat)} (h : blkC N sc scope own = true) : BlkOk N sc scope own := by
  unfold blkC at h
  simp only [Bool.and_eq_true, List.all_eq_true, decide_eq_true_eq] at h
  obtain ⟨⟨⟨h1, h2⟩, h3⟩, h4⟩ := h
  refine ⟨?_, h2, h3, fun y hy e => ?_, fun y hy e => ?_⟩
  · split at h1
    · assumption
    · cases h1
  · have q := h4 y hy
    simp only [e] at q
    split at q <;> first | exact .inl (by assumption) | exact .inr (by assumption) | cases q
  · have q := h4 y hy
    rcases e with e | e <;> (simp only [e, Bool.or_eq_true, decide_eq_true_eq] at q; exact q)
end L2

namespace L2
open PySem PySem.Spec PyProof.Rows

section
variable {prog : Program} {w : World} {A : Around} {R : Result → Shared → Prop} {s : Shared} {elt t0 i0 t1 i1 : Expr} {ifs0 ifs1 : List Expr} {scope : Scope} {pos : Pos} {it acc : Value} {env : Env}
end

section
variable {X : Cx}
end
end L2

namespace L2
open PySem PySem.Spec PyProof.Rows

/-! ### lists of pairs as tables -/
section
variable {κ : Type} [DecidableEq κ]
end

/-! ### a tracked dict, its keys ints and texts or tuples of these -/
section
variable {P : Program} {w : World} {H : Hp} {h : Heap} {a : Addr}
end

section
variable {X : Cx} {pins : List (Addr × Obj)} {σ : St} {H : Hp} {s : Shared} {a : Addr} {y v : V} {u r : Value} {o : Option V} {A : Around} {E : Value → Shared → Prop}

end

section
variable {X : Cx} {pins : List (Addr × Obj)} {σ : St} {H : Hp} {s : Shared} {a : Addr} {kvs : List (Key × V)} {k : Key} {u : Value} {A : Around} {E : Value → Shared → Prop}
end

/-! ### readings and rules -/
section
variable {X : Cx} {o i e value : Expr} {pos pos' tpos : Pos} {td ty tv : TE}
end

/-! ### displays -/
section
variable {X : Cx} {pos : Pos}
end

/-! ### methods -/
/-- a method call o.m(e) of a built-in, with one argument: what must be seen of the text -/
structure M1 (X : Cx) (o : Expr) (m : Str) (apos : Pos) (e : Expr) (cpos : Pos) : Prop where
  base : attributeBase o m X.env (eval o X.env) = eval o X.env
  few : ((backTo cpos (starEach [e] X.env)).all (fun x => !x.1) && (backToKw cpos (keywordEach [] X.env)).all (fun x => x.1.isSome)
    && decide (([e] : List Expr).length + ([] : List Keyword).length + (if ([] : List Keyword).isEmpty then 0 else 1) < 30)) = true
  line : (apos.endLine == cpos.line) = true
  trees : backTo cpos (starEach [e] X.env) = [(false, eval e X.env)]
structure M2 (X : Cx) (o : Expr) (m : Str) (apos : Pos) (e f : Expr) (cpos : Pos) : Prop where
  base : attributeBase o m X.env (eval o X.env) = eval o X.env
  few : ((backTo cpos (starEach [e, f] X.env)).all (fun x => !x.1) && (backToKw cpos (keywordEach [] X.env)).all (fun x => x.1.isSome)
    && decide (([e, f] : List Expr).length + ([] : List Keyword).length + (if ([] : List Keyword).isEmpty then 0 else 1) < 30)) = true
  line : (apos.endLine == cpos.line) = true
  trees : backTo cpos (starEach [e, f] X.env) = [(false, eval e X.env), (false, eval f X.env)]

section
variable {X : Cx} {pins : List (Addr × Obj)} {σ : St} {H : Hp} {s : Shared} {a : Addr} {y d : V} {u r : Value} {o : Option V} {A : Around} {E : Value → Shared → Prop}
end

section
variable {X : Cx} {o e f : Expr} {apos cpos : Pos} {td ty tx : TE}
end

/-! ### dict(d): a copy -/
section
variable {X : Cx} {pins : List (Addr × Obj)} {σ : St} {H : Hp} {s : Shared} {a : Addr} {kvs : List (Key × V)} {A : Around} {E : Value → Shared → Prop}
end

section
variable {X : Cx} {pins : List (Addr × Obj)} {σ : St} {H : Hp} {s : Shared} {a : Addr} {y : V} {u : Value} {A : Around} {E : Value → Shared → Prop}
end
end L2

namespace L2
open PySem PySem.Spec PyProof.Rows

section
variable {prog : Program} {w : World} {A : Around} {E : Value → Shared → Prop}
end

section
variable {X : Cx}
end
end L2

namespace L2
open PySem PySem.Spec PyProof.Rows

section
variable {X : Cx} {pins : List (Addr × Obj)} {σ : St} {H : Hp} {s : Shared} {h' : Heap}
/-- .. and one new object is laid -/
theorem Inv.turnedNew {t' : Nat} {ch : List Addr} {T : Addr} {ob : HO} (I : Inv X pins σ H s) (k : ∀ b o, b ∉ ch → s.heap.get? b = some o → h'.get? b = some o) (hf : ∀ b ∈ ch, FpOk X pins H b) (hT : s.heap.objs.size ≤ T)
    (new : ObjOk X.prog X.w (upd H T ob) h' T ob) : Inv X pins σ (upd H T ob) { s with heap := h', toks := t' } := by
  have hn : H T = none := I.hok.fresh hT
  have nit : ∀ b u, H b = some u → b ∉ ch := fun b u e z => by
    have q := (hf b z).1
    rw [q] at e; cases e
  refine I.step (g' := s.gens) (d' := s.drawn) (ch := ch) (fun b hb => ⟨(hf b hb).2.2.2.1, (hf b hb).2.1, (hf b hb).2.2.2.2.1, (hf b hb).2.2.2.2.2⟩) (fun b o _ _ hc e _ => k b o hc e) (fun b o _ _ hc e _ => ⟨o.slots, k b o hc e⟩)
    (fun b o _ e n => ?_) (fun b o hc e => ⟨o, k b o hc e⟩) (fun b xs e => ?_) (fun b o u e => ?_) (fun b ps e => ⟨#[], ?_⟩) (fun m hm => ?_) (fun b u e => ?_) I.bare
  · rw [upd_ne (Nat.ne_of_lt (Nat.lt_of_lt_of_le (Heap.lt_size e) hT))]; exact n
  · rw [upd_ne (ne_of_none e hn)]; exact e
  · rw [upd_ne (ne_of_none e hn)]; exact e
  · rw [upd_ne (ne_of_none e hn), e]; simp
  · obtain ⟨o, es, ep, ho, r⟩ := hm
    exact ⟨o, es, ep, k _ o (fun z => (hf _ z).2.1 rfl) ho, r⟩
  · by_cases hb : b = T
    · subst hb
      rw [upd_same] at e
      cases e
      exact new
    · rw [upd_ne hb] at e
      refine (I.hok b u e).stay (fun c v hc q => k c v ?_ q) (fun c q => by rw [upd_ne (ne_of_none q hn)]; exact q) fun c xs q => by rw [upd_ne (ne_of_none q hn)]; exact q
      rcases hc with z | z
      · rw [z]; exact nit b u e
      · exact nit c _ z

/-! ### locking a thing while a statement runs -/
end
section
variable {X : Cx}
/-! ### one iterator just laid -/
theorem pi_one {tg : Expr} {pins : List (Addr × Obj)} {σ : St} {H : Hp} {s : Shared} {R : It → Hp → Prop} {J : It} {tn : Nat → Heap → Prop} {tk : Nat} (I : Inv X pins σ H s) (o : Obj)
    (T : Turn X.prog X.w X.K tg J [s.heap.objs.size] s.heap.objs.size tn) (st : tn 0 (s.heap.push o)) (q : R J H) : PIE X pins σ tg R (.ref s.heap.objs.size) { s with heap := s.heap.push o, toks := tk } := by
  refine ⟨s.heap.objs.size, [s.heap.objs.size], tn, J, H, rfl, I.kept fun b ob e => Heap.get?_push_of_some _ e, T, st, fun b hb => ?_, q⟩
  have e : b = s.heap.objs.size := by simpa using hb
  subst e
  exact I.fpOk (Nat.le_refl _) (I.hok.fresh (Nat.le_refl _))
end

/-! ### range with a step -/
/-- lo, lo + c, .. (n of them) -/
def Itc (lo c : Int) (n : Nat) : It := ⟨fun i _ => i < n, fun i H x H' => H' = H ∧ x = .int (lo + (i : Nat) * c), fun i _ => n ≤ i⟩
theorem turn_rangeC {P : Program} {w : World} {K : PySem.W.Frag} {tg : Expr} (it : Addr) (lo c : Int) (n : Nat) : Turn P w K tg (Itc lo c n) [it] it (fun i h => IsRangeIter h it (lo + (i : Nat) * c) ((n : Int) - (i : Nat)) c) where
  mem := by simp
  obj := fun i h st b hb => by
    have e : b = it := by simpa using hb
    subst e
    exact ⟨_, st, fun v z => nomatch z⟩
  keep := fun i h h' st k => k it (by simp) _ st
  item := by
    intro X hP hw hK hc i pins s σ H E I hf st hg
    subst hP hw hK
    obtain ⟨f0, f1, f2, f3, f4, f5⟩ := hf it (by simp)
    have W := Walks.range (prog := X.prog) (w := X.w) (I.ok.hd hc) it lo c n
    refine W.item i s _ _ hg st fun v h' tk hv st' kk => ?_
    obtain ⟨t, rfl⟩ := hv
    have I1 : Inv X pins σ H { s with heap := h', toks := tk } := I.turned (fun b o hb e => kk b o (by simpa using hb) e) f0 f1 f3 f4 f5
    exact ⟨_, rfl, go_of (s := { s with heap := h', toks := tk }) (n := "range_iterator") st' rfl rfl (by decide) ⟨.int (lo + (i : Nat) * c), H, I1, ⟨t, rfl⟩, ⟨rfl, rfl⟩, st', fun b hb => (hf b hb).1⟩⟩
  done := by
    intro X hP hw hK hc i pins s σ H E I hf st hg
    subst hP hw hK
    obtain ⟨f0, f1, f2, f3, f4, f5⟩ := hf it (by simp)
    exact wpAny_pyNext_range_end (I.ok.hd hc) st (by have : n ≤ i := hg; omega) fun h' eb => ⟨rfl, I.turned (t' := s.toks) (fun b o hb e => eb b o hb e) f0 f1 f3 f4 f5⟩
  self := fun A i s Q E st h => wpAny_pyIter_rangeiter st h
/-- range(i, j, c): small bounds, n items -/
def RgC (i j c : Int) (n : Nat) : Prop := c ≠ 0 ∧ c.natAbs < 1073741824 ∧ Builtin.Range.small i j c = true ∧ Builtin.Range.rangeSize i j c = n
def iRng3 (ta : TA) : TI := fun σ H R => ta σ H fun vs H1 => ∃ (i j c : Int) (n : Nat), vs = [.int i, .int j, .int c] ∧ RgC i j c n ∧ R (Itc i c n) H1
section
variable {X : Cx} {tg : Expr}
theorem pi_range3 {a b c : Expr} {ta : TA} {p pos : Pos} (hg : Gl X "range") (hm : X.mg "range" = none) (ha : PA X [a, b, c] ta)
    (hs : starEach [a, b, c] X.env = (false, eval a X.env) :: starEach [b, c] X.env := by rfl) (hpl : (backTo pos (starEach [b, c] X.env)).any (·.1) = false := by rfl) :
    PI X tg (.Call (.Name "range" p) [a, b, c] [] pos) (iRng3 ta) := by
  intro pins s σ H R I h
  refine Call_ (ld_blt I hg hm boot_range (PyProof.Rows.callWith_type1 (thn (ha pos pins s σ H _ I h) fun us s1 ⟨vs, H1, I1, r1, q1⟩ => ?_) hs hpl))
  obtain ⟨i, j, k, n, e, ⟨c0, c1, c2, c3⟩, q⟩ := q1
  subst e
  cases r1 with
  | cons r rr =>
    cases rr with
    | cons r' rr =>
      cases rr with
      | cons r'' rr =>
        cases rr
        obtain ⟨t, rfl⟩ := r
        obtain ⟨t', rfl⟩ := r'
        obtain ⟨t'', rfl⟩ := r''
        refine call_range_3 c0 ?_ (.inl (PyProof.noPylong_small c1))
        refine wpAny_pyIter_range (IsRange.new ..) c2 ?_
        have I2 : Inv X pins σ H1 { s1 with heap := s1.heap.push { cls := .type "range", data := .fields #[.int i t, .int j t', .int k t''] } } := I1.kept (t' := s1.toks) fun b o e => Heap.get?_push_of_some _ e
        refine pi_one (tk := s1.toks) I2 _ (turn_rangeC _ i k n) ?_ q
        have e1 : i + ((0 : Nat) : Int) * k = i := by simp
        have e2 : (n : Int) - ((0 : Nat) : Int) = Builtin.Range.rangeSize i j k := by rw [c3]; simp
        show IsRangeIter _ _ (i + ((0 : Nat) : Int) * k) ((n : Int) - ((0 : Nat) : Int)) k
        rw [e1, e2]
        exact Heap.get?_push_size _ rfl
end
/-! ### reversed(list) -/
section
variable {X : Cx} {tg : Expr}
end

/-! ### a str -/
/-! ### a dict's keys: any dict's entries -/
section
variable {prog : Program} {w : World} {A : Around} {E : Value → Shared → Prop} {s : Shared}
end

/-! ### a locked dict -/
section
variable {X : Cx} {pins : List (Addr × Obj)} {σ : St} {H : Hp} {s : Shared} {d : Addr} {o : Obj}
end

section
variable {P : Program} {w : World} {K : PySem.W.Frag} {tg : Expr} {d : Addr} {o : Obj} {es : Array DictEntry} {ep : Nat}
end

/-! ### for k in d, d.keys(), d.values(), d.items() -/
section
variable {X : Cx} {tg e : Expr} {td : TE} {apos cpos : Pos}
end

/-! ### enumerate(list) -/
/-- the list at a as it stands at each turn, each item in a new pair -/
def Ite (K : PySem.W.Frag) (a : Addr) : It :=
  ⟨fun i H => ∃ (xs : List V) (x : V), SqL K H a xs ∧ xs[i]? = some x, fun i H v H' => ∃ T x, v = .ref T ∧ H T = none ∧ H' = upd H T (.tup [.int (i : Nat), x]) ∧ ∀ xs, SqL K H a xs → xs[i]? = some x, fun i H => ∃ xs : List V, SqL K H a xs ∧ xs.length ≤ i⟩
theorem turn_enum {P : Program} {w : World} {K : PySem.W.Frag} {elts : List Expr} {kk : Nat} {tpos : Pos} (a e it : Addr) :
    Turn P w K (.Tuple elts kk tpos) (Ite K a) [e, it] e (fun i h => (∃ old, IsEnum h e it ((i : Nat) : Int) old) ∧ h.IsListIter it a i ∧ e ≠ it) where
  mem := by simp
  obj := fun i h st b hb => by
    obtain ⟨⟨old, he⟩, ⟨o, ho, hc, hd⟩, _⟩ := st
    have e' : b = e ∨ b = it := by simpa using hb
    rcases e' with z | z
    · rw [z]; exact ⟨_, he, fun v q => nomatch q⟩
    · rw [z]; exact ⟨o, ho, fun v q => by rw [hd] at q; cases q⟩
  keep := fun i h h' st k => let ⟨⟨old, he⟩, hi, hne⟩ := st; ⟨⟨old, k e (by simp) _ he⟩, hi.at fun o q => k it (by simp) o q, hne⟩
  item := by
    intro X hP hw hK hc i pins s σ H E I hf st hg
    subst hP hw hK
    obtain ⟨⟨old, he⟩, hit, hne⟩ := st
    obtain ⟨xs, x, hq, hx⟩ := hg
    obtain ⟨its, rv, p, hz⟩ := I.list hq
    obtain ⟨u, hu, ru⟩ := rv.get hx
    have hel : e < s.heap.objs.size := Heap.lt_size he
    have hil : it < s.heap.objs.size := by obtain ⟨_, q, _⟩ := hit; exact Heap.lt_size q
    refine wpAny_pyNext_enum_item he hit p.isList (x := u) (by simpa using hu) hne fun h' ho hit' hT hsz hk => ?_
    refine ⟨_, rfl, wpAny_letOwnedTupleGo_enum (s := { s with heap := h', toks := s.toks + 1 }) ho fun h'' he' sb => ?_⟩
    have hT2 : h''.get? s.heap.objs.size = some { cls := .type "tuple", data := .seq #[.int i s.toks, u] } := (sb.2 _ (Nat.ne_of_gt hel)).trans hT
    have new : ObjOk X.prog X.w (upd H s.heap.objs.size (.tup [.int (i : Nat), x])) h'' s.heap.objs.size (.tup [.int (i : Nat), x]) :=
      ⟨by show 2 ≤ sizeLine; decide, [.int i s.toks, u], .cons ⟨_, rfl⟩ (.cons ru .nil), ⟨_, hT2, rfl, _, rfl⟩⟩
    have I1 : Inv X pins σ (upd H s.heap.objs.size (.tup [.int (i : Nat), x])) { s with heap := h'', toks := s.toks + 1 } :=
      I.turnedNew (ch := [e, it]) (fun b ob hb q => (sb.2 b (fun z => hb (by simp [z]))).trans (hk b ob (fun z => hb (by simp [z])) (fun z => hb (by simp [z])) q)) hf (Nat.le_refl _) new
    refine ⟨.ref s.heap.objs.size, _, I1, rfl, ⟨_, x, rfl, I.hok.fresh (Nat.le_refl _), rfl, fun ys hy => by rw [I.list_inj hy hq]; exact hx⟩, ⟨⟨u, ?_⟩, hit'.at fun o q => (sb.2 it (Ne.symm hne)).trans q, hne⟩, fun b hb => ?_⟩
    · have e1 : ((i + 1 : Nat) : Int) = (i : Int) + 1 := by omega
      rw [e1]; exact he'
    · have hb' : b < s.heap.objs.size := by
        have e' : b = e ∨ b = it := by simpa using hb
        rcases e' with z | z
        · rw [z]; exact hel
        · rw [z]; exact hil
      rw [upd_ne (Nat.ne_of_lt hb')]
      exact (hf b hb).1
  done := by
    intro X hP hw hK hc i pins s σ H E I hf st hg
    subst hP hw hK
    obtain ⟨⟨old, he⟩, hit, hne⟩ := st
    obtain ⟨xs, hq, hx⟩ := hg
    obtain ⟨its, rv, p, hz⟩ := I.list hq
    obtain ⟨f0, f1, f2, f3, f4, f5⟩ := hf it (by simp)
    have hl := rv.length
    exact wpAny_pyNext_enum_end (I.ok.hd hc) he hit p.isList (by simp; omega) fun h' eb => ⟨rfl, I.turned (t' := s.toks) (fun b o hb q => eb b o hb q) f0 f1 f3 f4 f5⟩
  self := fun A i s Q E st h => let ⟨⟨_, he⟩, _⟩ := st; wpAny_pyIter_enum he h
def iEnum (K : PySem.W.Frag) (ta : TA) : TI := fun σ H R => ta σ H fun vs H1 => ∃ a xs, vs = [.ref a] ∧ SqL K H1 a xs ∧ R (Ite K a) H1
theorem pi_enum {X : Cx} {e : Expr} {ta : TA} {p pos tpos : Pos} {elts : List Expr} {kk : Nat} (hg : Gl X "enumerate") (hm : X.mg "enumerate" = none) (ha : PA X [e] ta) (hs : starEach [e] X.env = [(false, eval e X.env)] := by rfl) :
    PI X (.Tuple elts kk tpos) (.Call (.Name "enumerate" p) [e] [] pos) (iEnum X.K ta) := by
  intro pins s σ H R I h
  refine Call_ (ld_blt I hg hm boot_enumerate (PyProof.Rows.callWith_type1 (thn (ha pos pins s σ H _ I h) fun us s1 ⟨vs, H1, I1, r1, q1⟩ => ?_) hs rfl))
  obtain ⟨a, xs, ex, hq, q⟩ := q1
  subst ex
  cases r1 with
  | cons r rr =>
    cases rr
    cases r
    obtain ⟨its, rv, p', hz⟩ := I1.list hq
    refine call_enumerate_list p'.isList fun h' he hit hsz hk => wpAny_pyIter_enum he ?_
    have I2 : Inv X pins σ H1 { s1 with heap := h' } := I1.kept (t' := s1.toks) hk
    refine ⟨s1.heap.objs.size + 1, [s1.heap.objs.size + 1, s1.heap.objs.size], _, _, H1, rfl, I2, turn_enum a (s1.heap.objs.size + 1) s1.heap.objs.size, ⟨⟨.none, he⟩, hit, Nat.succ_ne_self _⟩, fun b hb => ?_, q⟩
    have e' : b = s1.heap.objs.size + 1 ∨ b = s1.heap.objs.size := by simpa using hb
    have hle : s1.heap.objs.size ≤ b := by
      rcases e' with z | z
      · rw [z]; exact Nat.le_add_right _ _
      · rw [z]; exact Nat.le_refl _
    exact I1.fpOk hle (I1.hok.fresh hle)
/-! ### zip(list, list) -/
end L2

section 
namespace Bits
open PySem PyProof.Rows

end Bits
end 

section 
namespace TL
open PySem PySem.Builtin PySem.Builtin.Str PySem.StrLaws

/-! ### the list functions -/
/-! ### the model's split and partition are these -/
/-! ### computing spl and par -/
/-! ### digits -/
/-! ### words: x.split() -/
end TL
end 

namespace L2
open PySem PySem.Spec PyProof.Rows

section
variable {X : Cx} {pins : List (Addr × Obj)} {σ : St} {H : Hp} {s : Shared} {Q : VK}
end

section
variable {X : Cx}

/-! ### of a text alone -/
/-! ### of a text and a text -/
end

section
variable {X : Cx} {o e : Expr} {to te : TE}
end
end L2

namespace L2
open PySem PySem.Spec PyProof.Rows

section
variable {X : Cx}
end

/-! ### slices of a text -/
end L2

namespace Att
open PySem PySem.W PySem.Calls PyProof.Rows

/-! ### the script -/
/-! ### the attachment: holds_open's last premise (the goal 'hc' behind k_head) from a wpAny of the law's body -/
/-! ### rules over ANY heap (no ledger) from facts about the written part K: the library's own take a ledger (News) for what they write -/
section
variable {prog : Program} {w : World} {A : Around} {E : Value → Shared → Prop} {s : Shared} {K : Frag}

/-! the whole heap as the ledger: makes every rule that writes through a ledger a rule over any heap -/
end
end Att

namespace L2
open PySem PySem.Spec PyProof.Rows

end L2

namespace L2
open PySem PySem.Spec PyProof.Rows

end L2

/- THE LAST THEOREM (shape; LID, My.* are yours):
   My.Adr: a structure of the addresses that your layer names (classes, functions); My.Txt K t: a structure (Prop) of the equations over K;
   My.txt_mk : {K} {implicit addresses ..} (e1 : nsIn K mainGlobals "law" = some (some (.ref f))) (e2 : K.lookup f = some ⟨oc, od, .func (fnOf "law" "law" params body scope dV kV doc pm an cdv ct), sl⟩) (e3 : codeIn K cdv "law" = true) .. : ∃ t, My.Txt K t

set_option maxRecDepth 100000 in
set_option maxHeartbeats 0 in
theorem PySem.Challenge.cw_LID_holds : PySem.Challenge.rw_LID.Holds := by
  w_on; o_law; k_head; (case hw => w_witness2)
  k_fill
  refine L2.walk_of (l := PySem.Challenge.rw_LID) (n := 63) (k := 40) (x := "script") (CX := fun w => ..) (sp := fun _ => My.sp_law) rfl (by decide) rfl ⟨rfl, by decide, by decide⟩ (fun w h Y => PySem.W.kIn_of Y) ?F ?S ?C
  case F =>
    intro w mg fa h KX G hmg
    have T : ∃ t, My.Txt (L2.KOf KX) t := by
      dsimp only [L2.KOf]                          -- K must stand as «<heap const> w.params» for k_is
      refine' My.txt_mk ?e1 ?e2 ?e3 ..
      (case e1 => PySem.W.k_is)                    -- in the order: a name -> its address -> its object -> its parts
      (case e2 => PySem.W.k_is)
      ..
    obtain ⟨t, T⟩ := T
    have e0 := hmg.symm.trans (PySem.W.mg_of KX G T.law)
    cases e0                                       -- fa is the law's own address
    exact ⟨_, fun s u => .of_eq rfl, fun base kb nb => My.law_fn T kb nb⟩     -- if «.of_eq rfl» comes too early: refine' ⟨_, ?b, fun base kb nb => My.law_fn T kb nb⟩; exact fun s u => .of_eq rfl
  case S => exact fun w H a ns hl hO hS => ..
  case C => exact ..
(the tactic k_is has no namespace: write k_is) -/

/-! SHORT WORDS over the layer: a def of the text, its body, what a loop and a test want. -/
namespace L2
open PySem PySem.Spec PyProof.Rows

/-! ### the text by places -/
/-- the j-th statement of a class's body -/
def inClass (s : Stmt) (j : Nat) : Stmt := match s with
  | .ClassDef _ _ _ body _ _ _ _ _ _ _ => body.getD j (.Pass ⟨0, 0, 0, 0⟩)
  | _ => .Pass ⟨0, 0, 0, 0⟩
def defArgs (s : Stmt) : Arguments := match s with
  | .FunctionDef _ a _ _ _ _ _ _ _ _ => a
  | _ => { posonlyargs := [], args := [], vararg := none, kwonlyargs := [], kw_defaults := [], kwarg := none, defaults := [] }
def defBody (s : Stmt) : List Stmt := match s with
  | .FunctionDef _ _ b _ _ _ _ _ _ _ => b
  | _ => []
def defScope (s : Stmt) : Scope := match s with
  | .FunctionDef _ _ _ _ _ _ sc _ _ _ => sc
  | _ => { kind := .function, names := [], isGenerator := false, isCoroutine := false }

/-! ### no exception leaves a def -/
abbrev CX0 : CXT := fun _ _ _ _ _ _ => False
abbrev E0 : XK := fun _ _ _ => False
theorem pass0 {X : Cx} : Passes CX0 X E0 := fun _ _ _ _ _ _ _ h => h.elim

/-! ### a def (or method) of the text as it stands behind the top -/
structure Fun (K : PySem.W.Frag) (x qual : Str) (st : Stmt) (f : Addr) (fd : FuncData) : Prop where
  ex : ∃ (oc : Value) (od : Option Addr) (kV doc pm : Value) (an : Option Addr) (cdv ct : Value) (osl : Array (Option Value)),
    fd = PySem.W.fnOf x qual (defArgs st) (defBody st) (defScope st) .none kV doc pm an cdv ct ∧ K.lookup f = some ⟨oc, od, .func fd, osl⟩ ∧ PySem.W.codeIn K cdv qual = true
  kp : PySem.W.keepIn K (.ref f) = true
section
variable {P : Program} {w : World} {K : PySem.W.Frag} {mg : Str → Option Value} {base : Heap}
/-- THE RULE for a def: its body as a term of rules, and the reading of that term -/
theorem Fun.ok {x qual : Str} {st : Stmt} {f : Addr} {fd : FuncData} {N ps : List Str} {k : Nat} {sp : Sp} (F : Fun K x qual st f fd) (S : FnScope N ps (defScope st)) (len : ∀ vs H Q E, sp vs H Q E → vs.length = ps.length)
    (hbody : ∀ (cdv : Value) (A : Around) (outer : List Env) (s : Shared) (H : Hp) (vs : List V) (Q : VK) (E : XK), Room k (A.deeper (envOfC qual (defScope st) s.heap.objs.size f cdv)) → sp vs H Q E →
      ∃ t, PSs (cxOf CX0 P w K mg base N qual (defScope st) f cdv A outer s H E).nox (defBody st) t ∧ t { nx := fun _ H' => Q .non H', rt := Q } (start N vs) H) : FnOk P w K mg base CX0 (k + 1) f fd ps sp := by
  obtain ⟨oc, od, kV, doc, pm, an, cdv, ct, osl, rfl, lk, hcd⟩ := F.ex
  refine fn_of lk hcd S len fun A outer s H vs Q E hr hsp => ?_
  obtain ⟨t, h, q⟩ := hbody cdv A outer s H vs Q E hr hsp
  exact ⟨t, h.nox, q⟩
/-- how its arguments bind (no defaults): h is «fun _ _ _ _ _ _ us hl => match us, hl with | [_, _], _ => rfl», one _ a parameter -/
theorem Fun.binds {x qual : Str} {st : Stmt} {f : Addr} {fd : FuncData} {ps : List Str} (F : Fun K x qual st f fd)
    (h : ∀ (kV doc pm : Value) (an : Option Addr) (cdv ct : Value) (us : List Value), us.length = ps.length → bindArgs (PySem.W.fnOf x qual (defArgs st) (defBody st) (defScope st) .none kV doc pm an cdv ct) ⟨us, []⟩ = pure (ps.zip us)) : Binds K fd ps [] := by
  obtain ⟨oc, od, kV, doc, pm, an, cdv, ct, osl, rfl, lk, hcd⟩ := F.ex
  exact .all (h kV doc pm an cdv ct)
theorem fun_mk {x qual : Str} {st : Stmt} {f : Addr} {oc : Value} {od an : Option Addr} {osl : Array (Option Value)} {kV doc pm cdv ct : Value} (l : K.lookup f = some ⟨oc, od, .func (PySem.W.fnOf x qual (defArgs st) (defBody st) (defScope st) .none kV doc pm an cdv ct), osl⟩)
    (c : PySem.W.codeIn K cdv qual = true) (k : PySem.W.keepIn K (.ref f) = true) : Fun K x qual st f (PySem.W.fnOf x qual (defArgs st) (defBody st) (defScope st) .none kV doc pm an cdv ct) := ⟨⟨oc, od, kV, doc, pm, an, cdv, ct, osl, rfl, l, c⟩, k⟩
end
/-! ### expressions in short: the name that stands in the i-th slot -/
section
variable {X : Cx}
theorem pv (i : Nat) {x : Str} {pos : Pos} (hN : X.N[i]? = some x := by rfl) (hv : Vis X.env.scope x := by first | exact Or.inl rfl | exact Or.inr (Or.inl rfl) | exact Or.inr (Or.inr rfl)) (hd : (x == ("__debug__" : Str)) = false := by decide)
    (hcd : (x == ("__classdict__" : Str)) = false := by decide) : PE X (.Name x pos) (tVar i) := pe_var hN hv hd hcd
end

/-! ### tests -/
theorem iteF {A B : Prop} (h : B) : if false = true then A else B := by
  rw [if_neg Bool.false_ne_true]
  exact h
theorem iteT {A B : Prop} (h : A) : if true = true then A else B := by
  rw [if_pos rfl]
  exact h
theorem ite2 {c A B : Prop} [Decidable c] (h1 : c → A) (h2 : ¬ c → B) : if c then A else B := by
  by_cases h : c
  · rw [if_pos h]
    exact h1 h
  · rw [if_neg h]
    exact h2 h
/-! ### heaps -/
/-- all that was tracked is as it was -/
def Same (H H' : Hp) : Prop := ∀ b o, H b = some o → H' b = some o
theorem Same.refl (H : Hp) : Same H H := fun _ _ h => h
theorem Same.trans {H H1 H2 : Hp} (a : Same H H1) (b : Same H1 H2) : Same H H2 := fun c o h => b c o (a c o h)
/-! ### a dict's pairs: keys that differ -/
section
variable {κ : Type} [DecidableEq κ]
theorem nd_snoc : ∀ {l : List κ} {k : κ}, l.Nodup → ¬ k ∈ l → (l ++ [k]).Nodup
  | [], k, _, _ => by simp
  | a :: r, k, h, hk => by
    obtain ⟨h1, h2⟩ := List.nodup_cons.mp h
    show (a :: (r ++ [k])).Nodup
    refine List.nodup_cons.mpr ⟨fun m => ?_, nd_snoc h2 fun m => hk (List.mem_cons.mpr (Or.inr m))⟩
    rcases List.mem_append.mp m with q | q
    · exact h1 q
    · exact hk (List.mem_cons.mpr (Or.inl (List.mem_singleton.mp q).symm))
end
/-! ### lists -/
theorem at_of {xs : List V} {z : Int} {j : Nat} {v : V} (e : z = (j : Int)) (h : xs[j]? = some v) : atI xs z = some v := by
  rw [e]
  exact atI_nat h
theorem nd_ix {α : Type} {l : List α} (hN : l.Nodup) {i j : Nat} {x : α} (a : l[i]? = some x) (b : l[j]? = some x) : i = j := by
  obtain ⟨h1, e1⟩ := List.getElem?_eq_some_iff.mp a
  obtain ⟨h2, e2⟩ := List.getElem?_eq_some_iff.mp b
  exact (List.getElem_inj hN).mp (e1.trans e2.symm)
/-- a new instance and its __init__ leave all that was tracked as it was -/
theorem Same.made {H H1 : Hp} {x dx C : Addr} (nx : H x = Option.none) (nd : H dx = Option.none) (k : ∀ b o, (upd (upd H dx (.own x)) x (.ins C dx [])) b = some o → b ≠ x → H1 b = some o) : Same H H1 := fun b o e =>
  k b o (by rw [upd_ne (ne_of_none e nx), upd_ne (ne_of_none e nd)]; exact e) (ne_of_none e nx)
end L2

section
set_option Elab.async false
set_option linter.all false
set_option maxRecDepth 100000
set_option maxHeartbeats 2000000
namespace L2
open PySem PySem.Spec PyProof.Rows
open PySem.W (WData Codec OpenSpec Well WellAll ReadsW ReadsAllW)
/-! ### an answer as data -/
mutual
/-- x stands for the datum d, lists and tuples all the way -/
inductive Dw (K : PySem.W.Frag) (H : Hp) : V → WData → Prop
  | non : Dw K H .non .none
  | bl (b : Bool) : Dw K H (.bl b) (.bool b)
  | int (i : Int) : Dw K H (.int i) (.int i)
  | str (x : Str) : Dw K H (.str x) (.str x)
  | byt (b : Array UInt8) : Dw K H (.byt b) (.bytes b.toList)
  | lst {a : Addr} {xs : List V} {ds : List WData} : SqL K H a xs → DwAll K H xs ds → Dw K H (.ref a) (.list ds)
  | tup {a : Addr} {xs : List V} {ds : List WData} : SqT K H a xs → DwAll K H xs ds → Dw K H (.ref a) (.tuple ds)
inductive DwAll (K : PySem.W.Frag) (H : Hp) : List V → List WData → Prop
  | nil : DwAll K H [] []
  | cons {v : V} {vs : List V} {d : WData} {ds : List WData} : Dw K H v d → DwAll K H vs ds → DwAll K H (v :: vs) (d :: ds)
end
theorem dw_ints {K : PySem.W.Frag} {H : Hp} : ∀ ns : List Int, DwAll K H (ns.map V.int) (ns.map WData.int)
  | [] => .nil
  | n :: r => .cons (.int n) (dw_ints r)
theorem ints_dw {K : PySem.W.Frag} {H : Hp} : ∀ (ns : List Int) (xs : List V), DwAll K H xs (ns.map WData.int) → xs = ns.map V.int
  | [], xs, h => by
    cases h
    rfl
  | n :: r, xs, h => by
    cases h with
    | cons h1 h2 =>
      cases h1
      rw [ints_dw r _ h2] <;> rfl
section
variable {P : Program} {w : World} {K : PySem.W.Frag} {H : Hp} {h : Heap} {R : PySem.W.WRecords} {cl : Str → Option Addr}
theorem sqL_at {a : Addr} {xs : List V} (hok : HOk P w H h) (KX : K.In h) (q : SqL K H a xs) : ∃ (its : List Value) (o : Obj) (n : Nat), Vals xs its ∧ h.get? a = some o ∧ o.cls = .type "list" ∧ o.data = .seq its.toArray n := by
  rcases q with q | ⟨o, its, n, e, hc, _, hd, _, hv⟩
  · obtain ⟨_, its, n, hv, e⟩ := (show ObjOk P w H h a (.lst xs) from q.ok hok)
    exact ⟨its, _, n, hv, e, rfl, rfl⟩
  · exact ⟨its.toList, o, n, hv, KX _ _ e, hc, by simp [hd]⟩
theorem sqT_at {a : Addr} {xs : List V} (hok : HOk P w H h) (KX : K.In h) (q : SqT K H a xs) : ∃ (its : List Value) (o : Obj) (n : Nat), Vals xs its ∧ h.get? a = some o ∧ o.cls = .type "tuple" ∧ o.data = .seq its.toArray n := by
  rcases q with q | ⟨o, its, n, e, hc, hd, _, hv⟩
  · obtain ⟨_, its, hv, o, e, hc, n, hd⟩ := (show ObjOk P w H h a (.tup xs) from q.ok hok)
    exact ⟨its, o, n, hv, e, hc, hd⟩
  · exact ⟨its.toList, o, n, hv, KX _ _ e, hc, by simp [hd]⟩
mutual
theorem Dw.reads (hok : HOk P w H h) (KX : K.In h) : ∀ (d : WData) (v : V) (u : Value), Dw K H v d → RelV v u → ∃ as, ReadsW R cl h u d as
  | .none, _, _, x, r => by
    cases x
    cases r
    exact ⟨_, ReadsW.none⟩
  | .bool b, _, _, x, r => by
    cases x
    cases r
    exact ⟨_, ReadsW.bool b⟩
  | .int i, _, _, x, r => by
    cases x
    obtain ⟨t, rfl⟩ := r
    exact ⟨_, ReadsW.int i t⟩
  | .str s, _, _, x, r => by
    cases x
    obtain ⟨t, rfl⟩ := r
    exact ⟨_, ReadsW.str s t⟩
  | .bytes b, _, _, x, r => by
    cases x
    obtain ⟨t, rfl⟩ := r
    exact ⟨_, ReadsW.bytes _ t⟩
  | .list ds, _, _, x, r => by
    cases x with
    | lst hs ha =>
      cases r
      obtain ⟨its, o, n, rv, ho, hc, hd⟩ := sqL_at hok KX hs
      obtain ⟨as, hr⟩ := Dw.readsAll hok KX ds _ its ha rv
      exact ⟨_, ReadsW.list ho hc hd hr⟩
  | .tuple ds, _, _, x, r => by
    cases x with
    | tup hs ha =>
      cases r
      obtain ⟨its, o, n, rv, ho, hc, hd⟩ := sqT_at hok KX hs
      obtain ⟨as, hr⟩ := Dw.readsAll hok KX ds _ its ha rv
      exact ⟨_, ReadsW.tuple ho hc hd hr⟩
  | .float _, _, _, x, _ => by cases x
  | .dict _, _, _, x, _ => by cases x
  | .bytearray _, _, _, x, _ => by cases x
  | .set _, _, _, x, _ => by cases x
  | .frozenset _, _, _, x, _ => by cases x
  | .obj _ _, _, _, x, _ => by cases x
theorem Dw.readsAll (hok : HOk P w H h) (KX : K.In h) : ∀ (ds : List WData) (vs : List V) (us : List Value), DwAll K H vs ds → Vals vs us → ∃ as, ReadsAllW R cl h us ds as
  | [], _, _, x, r => by
    cases x
    cases r
    exact ⟨_, ReadsAllW.nil⟩
  | d :: ds, _, _, x, r => by
    cases x with
    | cons h1 h2 =>
      cases r with
      | cons r1 r2 =>
        obtain ⟨as, q1⟩ := Dw.reads hok KX d _ _ h1 r1
        obtain ⟨bs, q2⟩ := Dw.readsAll hok KX ds _ _ h2 r2
        exact ⟨_, ReadsAllW.cons q1 q2⟩
end
end
/-! ### the arguments -/
mutual
/-- data that a codec tells -/
def plW : WData → Bool
  | .none => true
  | .bool _ => true
  | .int _ => true
  | .str _ => true
  | .bytes _ => true
  | .list xs => plWs xs
  | .tuple xs => plWs xs
  | _ => false
def plWs : List WData → Bool
  | [] => true
  | x :: r => plW x && plWs r
end
theorem plWs_map {α : Type} {f : α → WData} (h : ∀ a, plW (f a) = true) : ∀ l : List α, plWs (l.map f) = true
  | [] => rfl
  | x :: r => by
    show (plW (f x) && plWs (r.map f)) = true
    rw [h x, plWs_map h r] <;> rfl
theorem pl_enc : ∀ (c : Codec) (a : c.denote), plW (c.enc a) = true
  | .unit, _ => rfl
  | .bool, _ => rfl
  | .int _ _, _ => rfl
  | .nat _ _, _ => rfl
  | .u8, _ => rfl
  | .bytes _ _, _ => rfl
  | .text _ _ _ _, _ => rfl
  | .list _ _ c, a => plWs_map (fun x => pl_enc c x) a
  | .pair c d, a => by
    show (plW (c.enc a.1) && (plW (d.enc a.2) && true)) = true
    rw [pl_enc c a.1, pl_enc d a.2] <;> rfl
  | .triple c d e, a => by
    show (plW (c.enc a.1) && (plW (d.enc a.2.1) && (plW (e.enc a.2.2) && true))) = true
    rw [pl_enc c a.1, pl_enc d a.2.1, pl_enc e a.2.2] <;> rfl
  | .option c, none => rfl
  | .option c, some x => pl_enc c x
theorem pl_encAll : ∀ (cs : List Codec) (a : Codec.denoteAll cs), plWs (Codec.encAll cs a) = true
  | [], _ => rfl
  | c :: cs, a => by
    show (plW (c.enc a.1) && plWs (Codec.encAll cs a.2)) = true
    rw [pl_enc c a.1, pl_encAll cs a.2] <;> rfl
theorem weight_mem : ∀ {xs : List WData} {d : WData}, d ∈ xs → d.weight ≤ WData.weightAll xs
  | [], d, h => absurd h (by simp)
  | x :: r, d, h => by
    show d.weight ≤ x.weight + 1 + WData.weightAll r
    rcases List.mem_cons.mp h with e | m
    · rw [e]
      omega
    · have z := weight_mem m
      omega
def toV : Value → V
  | .none => .non
  | .bool b => .bl b
  | .int i _ => .int i
  | .str x _ => .str x
  | .bytes b _ => .byt b
  | .ref a => .ref a
  | _ => .non
/-- a value of the arguments, its objects among A -/
def OkU (A : List Addr) : Value → Prop
  | .none => True
  | .bool _ => True
  | .int _ _ => True
  | .str _ _ => True
  | .bytes _ _ => True
  | .ref a => a ∈ A
  | _ => False
theorem OkU.mono {A B : List Addr} (h : ∀ a ∈ A, a ∈ B) : ∀ {u : Value}, OkU A u → OkU B u := fun {u} x => by
  cases u with
  | ref a => exact h a x
  | none => trivial
  | bool b => trivial
  | int i t => trivial
  | str s t => trivial
  | bytes b t => trivial
  | _ => exact False.elim x
theorem relV_toV {A : List Addr} {u : Value} (x : OkU A u) : RelV (toV u) u := by
  cases u with
  | ref a => rfl
  | none => rfl
  | bool b => rfl
  | int i t => exact ⟨t, rfl⟩
  | str s t => exact ⟨t, rfl⟩
  | bytes b t => exact ⟨t, rfl⟩
  | _ => exact False.elim x
theorem vals_toV {A : List Addr} : ∀ {vs : List Value}, (∀ u ∈ vs, OkU A u) → Vals (vs.map toV) vs
  | [], _ => .nil
  | u :: r, h => .cons (relV_toV (h u (List.mem_cons_self ..))) (vals_toV fun x hx => h x (List.mem_cons_of_mem _ hx))
/-- an object of the arguments -/
def ArgOb (h : Heap) (A : List Addr) (a : Addr) : Prop := ∃ vs : List Value, vs.length ≤ sizeLine ∧ (∀ u ∈ vs, OkU A u) ∧
  (h.get? a = some { cls := .type "list", data := .seq vs.toArray } ∨ h.get? a = some { cls := .type "tuple", data := .seq vs.toArray })
theorem ArgOb.mono {h : Heap} {A B : List Addr} {a : Addr} (k : ∀ a ∈ A, a ∈ B) (x : ArgOb h A a) : ArgOb h B a := by
  obtain ⟨vs, h1, h2, h3⟩ := x
  exact ⟨vs, h1, fun u hu => (h2 u hu).mono k, h3⟩
theorem wellAll_len {P : Params} {h : Heap} : ∀ {vs : List Value} {ds : List WData}, WellAll P h vs ds → vs.length = ds.length
  | _, _, .nil => rfl
  | _, _, .cons _ b => by
    show _ + 1 = _ + 1
    rw [wellAll_len b]
theorem well_list {P : Params} {h : Heap} {v : Value} {ds : List WData} (x : Well P h v (.list ds)) : ∃ (a : Addr) (vs : List Value), v = .ref a ∧ h.get? a = some { cls := .type "list", data := .seq vs.toArray } ∧ WellAll P h vs ds := by
  cases x with
  | list ho hall => exact ⟨_, _, rfl, ho, hall⟩
theorem well_tuple {P : Params} {h : Heap} {v : Value} {ds : List WData} (x : Well P h v (.tuple ds)) : ∃ (a : Addr) (vs : List Value), v = .ref a ∧ h.get? a = some { cls := .type "tuple", data := .seq vs.toArray } ∧ WellAll P h vs ds := by
  cases x with
  | tuple ho hall => exact ⟨_, _, rfl, ho, hall⟩
theorem well_cons {P : Params} {h : Heap} {us : List Value} {d : WData} {ds : List WData} (x : WellAll P h us (d :: ds)) : ∃ (v : Value) (vs : List Value), us = v :: vs ∧ Well P h v d ∧ WellAll P h vs ds := by
  cases x with
  | cons a b => exact ⟨_, _, rfl, a, b⟩
theorem line_of {n : Nat} (h : n ≤ 1048576) : n ≤ sizeLine := Nat.le_trans h (by decide)
section
variable {P : Params} {h : Heap}
mutual
theorem area_one : ∀ (d : WData) (v : Value), Well P h v d → plW d = true → d.weight ≤ 1048576 → ∃ A : List Addr, OkU A v ∧ ∀ a ∈ A, ArgOb h A a
  | .none, _, x, _, _ => by
    cases x
    exact ⟨[], trivial, fun a m => absurd m (by simp)⟩
  | .bool b, _, x, _, _ => by
    cases x
    exact ⟨[], trivial, fun a m => absurd m (by simp)⟩
  | .int i, _, x, _, _ => by
    cases x
    exact ⟨[], trivial, fun a m => absurd m (by simp)⟩
  | .str s, _, x, _, _ => by
    cases x
    exact ⟨[], trivial, fun a m => absurd m (by simp)⟩
  | .bytes b, _, x, _, _ => by
    cases x
    exact ⟨[], trivial, fun a m => absurd m (by simp)⟩
  | .list ds, _, x, p, z => by
    obtain ⟨a, vs, rfl, ho, hall⟩ := well_list x
    have z2 : WData.weightAll ds ≤ 1048576 := z
    obtain ⟨A, h1, h2⟩ := area_all ds _ hall p fun d hd => Nat.le_trans (weight_mem hd) z2
    have k : ∀ b ∈ A, b ∈ a :: A := fun b hb => List.mem_cons_of_mem _ hb
    refine ⟨a :: A, List.mem_cons_self .., fun b hb => ?_⟩
    rcases List.mem_cons.mp hb with e | m
    · rw [e]
      exact ⟨vs, line_of (by rw [wellAll_len hall]; exact Nat.le_trans (PySem.W.length_le_weightAllW ds) z2), fun u hu => (h1 u hu).mono k, .inl ho⟩
    · exact (h2 b m).mono k
  | .tuple ds, _, x, p, z => by
    obtain ⟨a, vs, rfl, ho, hall⟩ := well_tuple x
    have z2 : WData.weightAll ds ≤ 1048576 := z
    obtain ⟨A, h1, h2⟩ := area_all ds _ hall p fun d hd => Nat.le_trans (weight_mem hd) z2
    have k : ∀ b ∈ A, b ∈ a :: A := fun b hb => List.mem_cons_of_mem _ hb
    refine ⟨a :: A, List.mem_cons_self .., fun b hb => ?_⟩
    rcases List.mem_cons.mp hb with e | m
    · rw [e]
      exact ⟨vs, line_of (by rw [wellAll_len hall]; exact Nat.le_trans (PySem.W.length_le_weightAllW ds) z2), fun u hu => (h1 u hu).mono k, .inr ho⟩
    · exact (h2 b m).mono k
  | .float _, _, _, p, _ => Bool.noConfusion (show false = true from p)
  | .dict _, _, _, p, _ => Bool.noConfusion (show false = true from p)
  | .bytearray _, _, _, p, _ => Bool.noConfusion (show false = true from p)
  | .set _, _, _, p, _ => Bool.noConfusion (show false = true from p)
  | .frozenset _, _, _, p, _ => Bool.noConfusion (show false = true from p)
  | .obj _ _, _, _, p, _ => Bool.noConfusion (show false = true from p)
theorem area_all : ∀ (ds : List WData) (vs : List Value), WellAll P h vs ds → plWs ds = true → (∀ d ∈ ds, d.weight ≤ 1048576) → ∃ A : List Addr, (∀ u ∈ vs, OkU A u) ∧ ∀ a ∈ A, ArgOb h A a
  | [], _, x, _, _ => by
    cases x
    exact ⟨[], fun u m => absurd m (by simp), fun a m => absurd m (by simp)⟩
  | d :: ds, _, x, p, z => by
    obtain ⟨v, vs, rfl, x1, x2⟩ := well_cons x
    have q : plW d = true ∧ plWs ds = true := Bool.and_eq_true_iff.mp p
    obtain ⟨A, a1, a2⟩ := area_one d v x1 q.1 (z d (List.mem_cons_self ..))
    obtain ⟨B, b1, b2⟩ := area_all ds vs x2 q.2 fun e he => z e (List.mem_cons_of_mem _ he)
    have kA : ∀ b ∈ A, b ∈ A ++ B := fun b hb => List.mem_append.mpr (.inl hb)
    have kB : ∀ b ∈ B, b ∈ A ++ B := fun b hb => List.mem_append.mpr (.inr hb)
    refine ⟨A ++ B, fun u hu => ?_, fun b hb => ?_⟩
    · rcases List.mem_cons.mp hu with e | m
      · rw [e]
        exact a1.mono kA
      · exact (b1 u m).mono kB
    · rcases List.mem_append.mp hb with m | m
      · exact (a2 b m).mono kA
      · exact (b2 b m).mono kB
end
end
/-- what is tracked of an argument's object -/
def hoOf (o : Obj) : Option HO := match o.data with
  | .seq vs _ => if (o.cls == Value.type "list") = true then some (.frz o (.lst (vs.toList.map toV))) else some (.frz o (.tup (vs.toList.map toV)))
  | _ => none
def argH (K : PySem.W.Frag) (h : Heap) (A : List Addr) : Hp := fun b => if b ∈ A then (if (K.lookup b).isNone = true then (h.get? b).bind hoOf else none) else none
/-- nothing is tracked but what is known to the object -/
def OnlyF (H : Hp) : Prop := ∀ b, H b = none ∨ ∃ o u, H b = some (.frz o u)
theorem hoOf_lst (vs : List Value) : hoOf { cls := .type "list", data := .seq vs.toArray } = some (.frz { cls := .type "list", data := .seq vs.toArray } (.lst (vs.map toV))) := by
  show (if (Value.type "list" == Value.type "list") = true then some (HO.frz { cls := .type "list", data := .seq vs.toArray } (.lst (vs.toArray.toList.map toV))) else some (HO.frz { cls := .type "list", data := .seq vs.toArray } (.tup (vs.toArray.toList.map toV)))) = _
  rw [if_pos (beq_self_eq_true _)]
theorem hoOf_tup (vs : List Value) : hoOf { cls := .type "tuple", data := .seq vs.toArray } = some (.frz { cls := .type "tuple", data := .seq vs.toArray } (.tup (vs.map toV))) := by
  show (if (Value.type "tuple" == Value.type "list") = true then some (HO.frz { cls := .type "tuple", data := .seq vs.toArray } (.lst (vs.toArray.toList.map toV))) else some (HO.frz { cls := .type "tuple", data := .seq vs.toArray } (.tup (vs.toArray.toList.map toV)))) = _
  rw [if_neg (by decide)]
section
variable {P : Program} {w : World} {K : PySem.W.Frag} {h : Heap} {A : List Addr}
theorem argH_at {b : Addr} {o : Obj} (hb : b ∈ A) (hk : K.lookup b = none) (e : h.get? b = some o) : argH K h A b = hoOf o := by
  unfold argH
  rw [if_pos hb, hk, if_pos (show (none : Option Obj).isNone = true from rfl), e] <;> rfl
theorem of_argH {b : Addr} {u : HO} (q : argH K h A b = some u) : b ∈ A ∧ K.lookup b = none := by
  unfold argH at q
  by_cases hb : b ∈ A
  · rw [if_pos hb] at q
    cases hk : K.lookup b with
    | none => exact ⟨hb, rfl⟩
    | some o =>
      rw [hk, if_neg (by simp)] at q
      cases q
  · rw [if_neg hb] at q
    cases q
/-- what stands tracked -/
theorem argH_is (ar : ∀ a ∈ A, ArgOb h A a) {b : Addr} {u : HO} (q : argH K h A b = some u) : K.lookup b = none ∧ ∃ vs : List Value, vs.length ≤ sizeLine ∧ (∀ u ∈ vs, OkU A u) ∧
    ((h.get? b = some { cls := .type "list", data := .seq vs.toArray } ∧ u = .frz { cls := .type "list", data := .seq vs.toArray } (.lst (vs.map toV))) ∨
     (h.get? b = some { cls := .type "tuple", data := .seq vs.toArray } ∧ u = .frz { cls := .type "tuple", data := .seq vs.toArray } (.tup (vs.map toV)))) := by
  obtain ⟨hb, hk⟩ := of_argH q
  obtain ⟨vs, h1, h2, h3⟩ := ar b hb
  refine ⟨hk, vs, h1, h2, ?_⟩
  rcases h3 with e | e
  · rw [argH_at hb hk e, hoOf_lst] at q
    exact .inl ⟨e, (Option.some.inj q).symm⟩
  · rw [argH_at hb hk e, hoOf_tup] at q
    exact .inr ⟨e, (Option.some.inj q).symm⟩
theorem argH_only (ar : ∀ a ∈ A, ArgOb h A a) : OnlyF (argH K h A) := fun b => by
  cases q : argH K h A b with
  | none => exact .inl rfl
  | some u =>
    obtain ⟨_, vs, _, _, ⟨_, e⟩ | ⟨_, e⟩⟩ := argH_is ar q
    · exact .inr ⟨_, _, by rw [e]⟩
    · exact .inr ⟨_, _, by rw [e]⟩
theorem argH_ok (ar : ∀ a ∈ A, ArgOb h A a) : HOk P w (argH K h A) h := fun b u q => by
  obtain ⟨_, vs, h1, h2, ⟨e, rfl⟩ | ⟨e, rfl⟩⟩ := argH_is ar q
  · exact ⟨e, by rw [List.length_map]; exact h1, vs, _, vals_toV h2, e⟩
  · exact ⟨e, by rw [List.length_map]; exact h1, vs, vals_toV h2, _, e, rfl, _, rfl⟩
theorem seq_inj {c c' : Value} {vs us : List Value} (e : (some { cls := c, data := .seq vs.toArray } : Option Obj) = some { cls := c', data := .seq us.toArray }) : c = c' ∧ vs = us := by
  have e1 := Option.some.inj e
  have e2 : c = c' := congrArg Obj.cls e1
  have e3 : Data.seq vs.toArray = Data.seq us.toArray := congrArg Obj.data e1
  injection e3 with e4
  refine ⟨e2, ?_⟩
  have e5 := congrArg Array.toList e4
  simpa using e5
/-- a list argument -/
theorem argL (KX : K.In h) (ar : ∀ a ∈ A, ArgOb h A a) {a : Addr} {vs : List Value} (ha : a ∈ A) (e : h.get? a = some { cls := .type "list", data := .seq vs.toArray }) : (∀ u ∈ vs, OkU A u) ∧ SqL K (argH K h A) a (vs.map toV) := by
  obtain ⟨us, h1, h2, h3⟩ := ar a ha
  have hu : us = vs := by
    rcases h3 with q | q
    · rw [e] at q
      exact (seq_inj q).2.symm
    · rw [e] at q
      exact absurd (Value.type.inj (seq_inj q).1) (by decide)
  subst hu
  refine ⟨h2, ?_⟩
  cases hk : K.lookup a with
  | none => exact .inl (.inr ⟨_, by rw [argH_at ha hk e, hoOf_lst]⟩)
  | some o =>
    have e2 := KX a o hk
    rw [e] at e2
    obtain rfl := Option.some.inj e2
    exact .inr ⟨_, us.toArray, _, hk, rfl, rfl, rfl, by rw [List.size_toArray]; exact h1, by simpa using vals_toV h2⟩
theorem argT (KX : K.In h) (ar : ∀ a ∈ A, ArgOb h A a) {a : Addr} {vs : List Value} (ha : a ∈ A) (e : h.get? a = some { cls := .type "tuple", data := .seq vs.toArray }) : (∀ u ∈ vs, OkU A u) ∧ SqT K (argH K h A) a (vs.map toV) := by
  obtain ⟨us, h1, h2, h3⟩ := ar a ha
  have hu : us = vs := by
    rcases h3 with q | q
    · rw [e] at q
      exact absurd (Value.type.inj (seq_inj q).1) (by decide)
    · rw [e] at q
      exact (seq_inj q).2.symm
  subst hu
  refine ⟨h2, ?_⟩
  cases hk : K.lookup a with
  | none => exact .inl (.inr ⟨_, by rw [argH_at ha hk e, hoOf_tup]⟩)
  | some o =>
    have e2 := KX a o hk
    rw [e] at e2
    obtain rfl := Option.some.inj e2
    exact .inr ⟨_, us.toArray, _, hk, rfl, rfl, by rw [List.size_toArray]; exact h1, by simpa using vals_toV h2⟩
mutual
theorem dw_one {Pm : Params} (KX : K.In h) (ar : ∀ a ∈ A, ArgOb h A a) : ∀ (d : WData) (v : Value), Well Pm h v d → plW d = true → OkU A v → Dw K (argH K h A) (toV v) d
  | .none, _, x, _, _ => by
    cases x
    exact .non
  | .bool b, _, x, _, _ => by
    cases x
    exact .bl b
  | .int i, _, x, _, _ => by
    cases x
    exact .int i
  | .str s, _, x, _, _ => by
    cases x
    exact .str s
  | .bytes b, _, x, _, _ => by
    cases x
    have z := Dw.byt (K := K) (H := argH K h A) b.toArray
    exact z
  | .list ds, _, x, p, hu => by
    obtain ⟨a, vs, rfl, ho, hall⟩ := well_list x
    obtain ⟨h2, hs⟩ := argL KX ar hu ho
    exact .lst hs (dw_all KX ar ds _ hall p h2)
  | .tuple ds, _, x, p, hu => by
    obtain ⟨a, vs, rfl, ho, hall⟩ := well_tuple x
    obtain ⟨h2, hs⟩ := argT KX ar hu ho
    exact .tup hs (dw_all KX ar ds _ hall p h2)
  | .float _, _, _, p, _ => Bool.noConfusion (show false = true from p)
  | .dict _, _, _, p, _ => Bool.noConfusion (show false = true from p)
  | .bytearray _, _, _, p, _ => Bool.noConfusion (show false = true from p)
  | .set _, _, _, p, _ => Bool.noConfusion (show false = true from p)
  | .frozenset _, _, _, p, _ => Bool.noConfusion (show false = true from p)
  | .obj _ _, _, _, p, _ => Bool.noConfusion (show false = true from p)
theorem dw_all {Pm : Params} (KX : K.In h) (ar : ∀ a ∈ A, ArgOb h A a) : ∀ (ds : List WData) (vs : List Value), WellAll Pm h vs ds → plWs ds = true → (∀ u ∈ vs, OkU A u) → DwAll K (argH K h A) (vs.map toV) ds
  | [], _, x, _, _ => by
    cases x
    exact .nil
  | d :: ds, _, x, p, hu => by
    obtain ⟨v, vs, rfl, x1, x2⟩ := well_cons x
    have q : plW d = true ∧ plWs ds = true := Bool.and_eq_true_iff.mp p
    exact .cons (dw_one KX ar d v x1 q.1 (hu _ (List.mem_cons_self ..))) (dw_all KX ar ds vs x2 q.2 fun u m => hu u (List.mem_cons_of_mem _ m))
end
end
/-! ### the call -/
theorem spec_call {P : Program} {w : World} {K : PySem.W.Frag} {mg mb : Str → Option Value} {CX : CXT} {k : Nat} {fa : Addr} {fd : FuncData} {ps : List Str} {sp : Sp} {s₁ : Shared} {vals : List Value} {ds : List WData} {R : PySem.W.WRecords} {cl : Str → Option Addr} {d0 : WData}
    (KX : K.In s₁.heap) (hns : s₁.heap.Ns mainGlobals mg) (hb : s₁.heap.Ns builtinsNs mb) (hbb : ∀ x : Str, x ≠ "__name__" → mb x = bootBuiltins x) (hlim : s₁.heap.NoLimit) (hg : s₁.gens = #[])
    (hwl : WellAll w.params s₁.heap vals ds) (hpl : plWs ds = true) (hwt : ∀ d ∈ ds, d.weight ≤ 1048576) (hr : Room k callerA)
    (F : ∀ base : Heap, K.In base → base.Ns mainGlobals mg → FnOk P w K mg base CX k fa fd ps sp) (hbind : ∀ (s : Shared) (us : List Value), us.length = ps.length → BindsTo s fd ⟨us, []⟩ (ps.zip us)) (hlen : ds.length = ps.length)
    (hsp : ∀ (H : Hp) (xs : List V), OnlyF H → DwAll K H xs ds → sp xs H (fun v H' => Dw K H' v d0) fun _ _ _ => False)
    (hCX : ∀ H e s', CX [] H s₁ (fun _ _ _ => False) e s' → False) :
    codeAny (model P w) callerA (.call (.ref fa) ⟨vals, []⟩) (fun r s' => ∃ u as, r = .ok (.ret u) ∧ ReadsW R cl s'.heap u d0 as ∧ OldK s₁.heap s'.heap ∧ s'.os = s₁.os ∧ AllBare s'.gens) s₁ := by
  obtain ⟨A, ho, ar⟩ := area_all ds vals hwl hpl hwt
  have hO : OnlyF (argH K s₁.heap A) := argH_only ar
  have hok : HOk P w (argH K s₁.heap A) s₁.heap := argH_ok ar
  have hS := dw_all KX ar ds vals hwl hpl ho
  have hV := vals_toV ho
  have hK : ∀ b u, argH K s₁.heap A b = some u → K.lookup b = none := fun b u q => (argH_is ar q).1
  have noA : ∀ {b : Addr} {o : Obj} {es : Array DictEntry} {ep : Nat}, s₁.heap.get? b = some o → o.data = .dict es ep → argH K s₁.heap A b = none := fun {b o es ep} e d => by
    cases q : argH K s₁.heap A b with
    | none => rfl
    | some u =>
      obtain ⟨_, vs, _, _, ⟨e2, _⟩ | ⟨e2, _⟩⟩ := argH_is ar q
      · rw [e2] at e
        cases e
        have d' : Data.seq vs.toArray _ = Data.dict es ep := d
        cases d'
      · rw [e2] at e
        cases e
        have d' : Data.seq vs.toArray _ = Data.dict es ep := d
        cases d'
  generalize argH K s₁.heap A = H at hO hok hS hK noA
  have base_of : ∀ {b : Addr} {o : Obj}, s₁.heap.get? b = some o → H b = none → (hidT s₁.heap H).get? b = some o := fun e n => hidT_get e n
  have nsK : ∀ {b : Addr} {m : Str → Option Value}, s₁.heap.Ns b m → (hidT s₁.heap H).Ns b m := fun {b m} ⟨o, es, ep, e, d, r⟩ => ⟨o, es, ep, base_of e (noA e d), d, r⟩
  have nK : ∀ b o, K.lookup b = some o → H b = none := fun b o e => by
    cases q : H b with
    | none => rfl
    | some u =>
      rw [hK b u q] at e
      cases e
  have hKb : K.In (hidT s₁.heap H) := fun b o e => base_of (KX b o e) (nK b o e)
  have hM : Mod K mg (hidT s₁.heap H) := ⟨hKb, nsK hns, ⟨mb, nsK hb, hbb⟩, let ⟨mc, h1, h2⟩ := hlim; ⟨mc, nsK h1, h2⟩⟩
  have e0 : Env0 P w K mg (hidT s₁.heap H) callerA [] s₁ H := ⟨rfl, hM, fun b o e => of_hidT e, Nat.le_of_eq (hidT_size _ _), trivial, fun b hb => absurd (show b ∈ ([] : List Addr) from hb) (by simp), hok, .of_eq hg⟩
  have hl : vals.length = ps.length := by rw [wellAll_len hwl]; exact hlen
  refine codeAny_mono ((F _ hKb (nsK hns)).run callerA [] s₁ H ⟨vals, []⟩ vals (vals.map toV) _ _ hr e0 (hbind s₁ vals hl) hV (hsp H _ hO hS)) fun r s' x => ?_
  cases r with
  | error e => exact (hCX H e s' x).elim
  | ok fl =>
    cases fl with
    | next => exact False.elim x
    | brk => exact False.elim x
    | cont => exact False.elim x
    | ret u =>
      obtain ⟨v, H', os, bare, un, hok', r', q⟩ := x
      have kept : ∀ b o, s₁.heap.get? b = some o → s'.heap.get? b = some o := fun b o e => by
        cases q2 : H b with
        | none => exact un.keep b o e q2 (by intro z; exact absurd (show b ∈ ([] : List Addr) from z) (by simp)) (by simp)
        | some u2 =>
          rcases hO b with z | ⟨ob, u3, z⟩
          · rw [q2] at z
            cases z
          · have z2 := un.frzs b ob _ z
            obtain ⟨e1, _⟩ := hok b _ z
            obtain ⟨e2, _⟩ := hok' b _ z2
            rw [e] at e1
            cases e1
            exact e2
      have KX' : K.In s'.heap := fun b o e => kept b o (KX b o e)
      obtain ⟨as, hrd⟩ := Dw.reads (R := R) (cl := cl) hok' KX' d0 v u q r'
      exact ⟨u, as, rfl, hrd, OldK.of_keep kept, os, bare⟩
/-! ### the row -/
theorem layable_weight {ds : List WData} (h : WData.layableAll ds = true) : ∀ d ∈ ds, d.weight ≤ 1048576 := fun d hd =>
  (PySem.W.layableW_iff.mp (List.all_eq_true.mp h d hd)).2.2
theorem encAll_len : ∀ (cs : List Codec) (a : Codec.denoteAll cs), (Codec.encAll cs a).length = cs.length
  | [], _ => rfl
  | c :: cs, a => by
    show (Codec.encAll cs a.2).length + 1 = cs.length + 1
    rw [encAll_len cs a.2]
/-- the goal that k_headS leaves (case hc), from the promise of the row's def: whatever the arguments that the codecs let and the row asks for, the def gives what stands for enc (f ..) -/
theorem walk_spec {r : OpenSpec} {k : Nat} {q : Program} {loose : List Str} {XP : (Str → Option Value) → Heap → Prop} {YP : World → Heap → Prop} {d : DefRec} {K : Params → PySem.W.Frag} {CX : World → CXT} {ps : List Str} {sp : World → Sp}
    (hwell : r.wellSaid = true) (hdf : d.params.defaults = []) (hlen : r.args.length = ps.length) (hr : Room k callerA)
    (hY : ∀ (w : World) (h : Heap), YP w h → (K w.params).In h)
    (F : ∀ (w : World) (mg : Str → Option Value) (fa : Addr) (h : Heap), YP w h → (K w.params).In h → h.Ns mainGlobals mg → mg d.name = some (.ref fa) →
      ∃ fd : FuncData, (∀ (s : Shared) (us : List Value), us.length = ps.length → BindsTo s fd ⟨us, []⟩ (ps.zip us)) ∧
        ∀ base : Heap, (K w.params).In base → base.Ns mainGlobals mg → FnOk r.prog w (K w.params) mg base (CX w) k fa fd ps (sp w))
    (hsp : ∀ (w : World) (H : Hp) (xs : List V) (a : Codec.denoteAll r.args), OnlyF H → Codec.withinAll r.args a = true → Codec.app r.args r.asked a = true → DwAll (K w.params) H xs (Codec.encAll r.args a) →
      sp w xs H (fun v H' => Dw (K w.params) H' v (r.ret.enc (Codec.app r.args r.f a))) fun _ _ _ => False)
    (hCX : ∀ (w : World) (H : Hp) (s : Shared) (e : Value) (s' : Shared), CX w [] H s (fun _ _ _ => False) e s' → False) :
    PySem.W.WalkOS q loose XP YP r d [] (fun f vs => PySem.call f vs) := by
  intro w s_0 s₁ mg mb G Y fa o pm cd doc dV kV ho hd hcd hD hmg hg args vals as hpre hlay hrd hwl hlo
  obtain ⟨a, e1, e2⟩ := PySem.W.os_pre_some hpre
  obtain ⟨e3, hwi⟩ := Codec.encAll_of_decAll r.args args a e1
  subst e3
  have KX := hY w _ Y
  obtain ⟨fd, hb, hF⟩ := F w mg fa _ Y KX G.T.g hmg
  refine PySem.W.enter_call (codeAny_mono (spec_call (R := []) (cl := classAt s_0.heap) (d0 := r.ret.enc (Codec.app r.args r.f a)) KX G.T.g G.T.b G.T.builtins G.T.nolimit hg hwl (pl_encAll _ _) (layable_weight hlay) hr hF hb (by rw [encAll_len]; exact hlen)
    (fun H xs hO hS => hsp w H xs a hO hwi e2 hS) fun H e s' => hCX w H s₁ e s') fun r' s' hq => ?_)
  obtain ⟨u, as', rfl, h1, h2, h3, h4⟩ := hq
  exact ⟨.inl ⟨u, _, as', rfl, fun _ => rfl, h1, (OpenSpec.post_iff hwell hwi _ _).mpr rfl, fun z => Bool.noConfusion (show false = true from z)⟩, h2, h3, h4⟩
/-- the same where the promise hangs on the written part alone -/
theorem walk_specK {r : OpenSpec} {k : Nat} {q : Program} {loose : List Str} {XP : (Str → Option Value) → Heap → Prop} {YP : World → Heap → Prop} {d : DefRec} {K : Params → PySem.W.Frag} {CX : CXT} {ps : List Str} {sp : PySem.W.Frag → Sp}
    (hwell : r.wellSaid = true) (hdf : d.params.defaults = []) (hlen : r.args.length = ps.length) (hr : Room k callerA)
    (hY : ∀ (w : World) (h : Heap), YP w h → (K w.params).In h)
    (F : ∀ (w : World) (mg : Str → Option Value) (fa : Addr) (h : Heap), YP w h → (K w.params).In h → h.Ns mainGlobals mg → mg d.name = some (.ref fa) →
      ∃ fd : FuncData, (∀ (s : Shared) (us : List Value), us.length = ps.length → BindsTo s fd ⟨us, []⟩ (ps.zip us)) ∧
        ∀ base : Heap, (K w.params).In base → base.Ns mainGlobals mg → FnOk r.prog w (K w.params) mg base CX k fa fd ps (sp (K w.params)))
    (hsp : ∀ (K : PySem.W.Frag) (H : Hp) (xs : List V) (a : Codec.denoteAll r.args), OnlyF H → Codec.withinAll r.args a = true → Codec.app r.args r.asked a = true → DwAll K H xs (Codec.encAll r.args a) →
      sp K xs H (fun v H' => Dw K H' v (r.ret.enc (Codec.app r.args r.f a))) fun _ _ _ => False)
    (hCX : ∀ (H : Hp) (s : Shared) (e : Value) (s' : Shared), CX [] H s (fun _ _ _ => False) e s' → False) :
    PySem.W.WalkOS q loose XP YP r d [] (fun f vs => PySem.call f vs) :=
  walk_spec (K := K) (CX := fun _ => CX) (sp := fun w => sp (K w.params)) hwell hdf hlen hr hY F (fun w H xs a h1 h2 h3 h4 => hsp (K w.params) H xs a h1 h2 h3 h4) fun _ H s e s' => hCX H s e s'
end L2
end

set_option linter.all false
namespace Pc
open Kyc

/-! ### lists -/
theorem getD_of {α : Type} {l : List α} {i : Nat} {x d : α} (h : l[i]? = some x) : l.getD i d = x := by
  rw [List.getD_eq_getElem?_getD, h]; rfl
theorem get_of_lt {α : Type} {l : List α} {i : Nat} (d : α) (h : i < l.length) : l[i]? = some (l.getD i d) := by
  rw [List.getD_eq_getElem?_getD, List.getElem?_eq_getElem h]; rfl

/-! ### what a clock's run costs, what is spent of it -/
def cost (q : Phase) (u d : Nat) : Nat := if q.kind = 3 then d - (q.inc - u) else d
/-- periods, left, in a period, rest -/
def spendL (inc : Nat) : Nat → Nat → Bool → Nat → Nat × Nat × Bool × Nat
  | 0, l, b, c => (0, l, b, c)
  | m + 1, l, b, c => if l ≤ c then spendL inc m inc true (c - l) else (m + 1, l, b, c)
def spentP (inc : Nat) (p : Player) (c : Nat) : Player :=
  let r := spendL inc p.more p.left p.inPeriod c
  { p with more := r.1, left := r.2.1 - min r.2.2.2 r.2.1, inPeriod := r.2.2.1 }
def spentN (inc : Nat) (p : Player) (c : Nat) : Nat :=
  let r := spendL inc p.more p.left p.inPeriod c
  min r.2.2.2 r.2.1

theorem spentP_stop {inc : Nat} {p : Player} {c : Nat} (h : p.more = 0 ∨ c < p.left) : spentP inc p c = { p with left := p.left - min c p.left } ∧ spentN inc p c = min c p.left := by
  have hs : spendL inc p.more p.left p.inPeriod c = (p.more, p.left, p.inPeriod, c) := by
    cases e : p.more with
    | zero => rfl
    | succ m => unfold spendL; rw [if_neg (by omega)]
  unfold spentP spentN
  rw [hs]
  exact ⟨rfl, rfl⟩
theorem spentP_take {inc : Nat} {p : Player} {c m : Nat} (h : p.more = m + 1) (hc : p.left ≤ c) :
    spentP inc p c = spentP inc { p with left := inc, more := m, inPeriod := true } (c - p.left) ∧ spentN inc p c = spentN inc { p with left := inc, more := m, inPeriod := true } (c - p.left) := by
  have hs : spendL inc p.more p.left p.inPeriod c = spendL inc m inc true (c - p.left) := by
    rw [h, spendL, if_pos hc]
  unfold spentP spentN
  rw [hs]
  exact ⟨rfl, rfl⟩
theorem runPeriods_spend (inc : Nat) (hi : 0 < inc) : ∀ (f : Nat) (p : Player) (d : Nat), p.more ≤ f → 0 < p.left →
    (runPeriods inc f p d).1 = spentP inc p d ∧ ((runPeriods inc f p d).2.2 = true ↔ (spentP inc p d).left = 0) ∧ ((runPeriods inc f p d).2.2 = false → (runPeriods inc f p d).2.1 = d)
  | 0, p, d, hm, hl => by
    rw [(spentP_stop (inc := inc) (c := d) (p := p) (.inl (by omega))).1]
    unfold runPeriods
    by_cases h : d < p.left
    · rw [if_pos h]
      have e : min d p.left = d := by omega
      refine ⟨by show _ = _; rw [e], ?_, fun _ => rfl⟩
      show false = true ↔ p.left - min d p.left = 0
      constructor
      · intro z; cases z
      · intro z; omega
    · rw [if_neg h]
      have e : min d p.left = p.left := by omega
      refine ⟨by show ({ p with left := 0 } : Player) = _; rw [e, Nat.sub_self], ?_, fun z => by cases z⟩
      show true = true ↔ p.left - min d p.left = 0
      constructor
      · intro z; omega
      · intro z; rfl
  | f + 1, p, d, hm, hl => by
    unfold runPeriods
    by_cases h : d < p.left
    · rw [(spentP_stop (inc := inc) (c := d) (p := p) (.inr h)).1, if_pos h]
      have e : min d p.left = d := by omega
      refine ⟨by show _ = _; rw [e], ?_, fun _ => rfl⟩
      show false = true ↔ p.left - min d p.left = 0
      constructor
      · intro z; cases z
      · intro z; omega
    · rw [if_neg h]
      by_cases e : p.more = 0
      · rw [(spentP_stop (inc := inc) (c := d) (p := p) (.inl e)).1, if_pos e]
        have e : min d p.left = p.left := by omega
        refine ⟨by show ({ p with left := 0 } : Player) = _; rw [e, Nat.sub_self], ?_, fun z => by cases z⟩
        show true = true ↔ p.left - min d p.left = 0
        constructor
        · intro z; omega
        · intro z; rfl
      · have em : p.more = (p.more - 1) + 1 := by omega
        rw [(spentP_take (inc := inc) (c := d) em (by omega)).1, if_neg e]
        have ih := runPeriods_spend inc hi f { p with left := inc, more := p.more - 1, inPeriod := true } (d - p.left) (by show p.more - 1 ≤ f; omega) hi
        obtain ⟨i1, i2, i3⟩ := ih
        refine ⟨i1, i2, fun z => ?_⟩
        have := i3 z
        show p.left + (runPeriods inc f { p with left := inc, more := p.more - 1, inPeriod := true } (d - p.left)).2.1 = d
        rw [this]
        omega

/-- what a phase that was found right has -/
structure QOk (q : Phase) : Prop where
  k5 : q.kind ≤ 5
  mn : 1 ≤ q.main
  i4 : q.kind = 4 → 0 < q.inc
  p4 : q.kind = 4 → q.periods ≤ 20
  pn : q.kind ≠ 4 → q.periods = 0

theorem runs_spend {q : Phase} {p : Player} {d : Nat} (hq : QOk q) (hl : 0 < p.left) (hm : p.more ≤ 20) (hn : q.kind ≠ 4 → p.more = 0) :
    ({ (runs q p d).1 with used := 0 } : Player) = { spentP q.inc p (cost q p.used d) with used := 0 } ∧ ((runs q p d).2.2 = true ↔ (spentP q.inc p (cost q p.used d)).left = 0) ∧
    ((runs q p d).2.2 = false → (runs q p d).1.used = p.used + d) ∧ (q.kind = 5 → (runs q p d).2.1 = spentN q.inc p (cost q p.used d)) := by
  by_cases h4 : q.kind = 4
  · have hc : cost q p.used d = d := by unfold cost; rw [if_neg (by omega)]
    rw [hc]
    obtain ⟨a, b, c⟩ := runPeriods_spend q.inc (hq.i4 h4) 20 p d hm hl
    unfold runs
    simp only [if_pos h4]
    refine ⟨?_, b, fun z => by rw [c z], fun z => by omega⟩
    rw [a]
  · have m0 := hn h4
    obtain ⟨e1, e2⟩ := spentP_stop (inc := q.inc) (c := cost q p.used d) (p := p) (.inl m0)
    rw [e1, e2]
    have hc : cost q p.used d = d - (if q.kind = 3 then q.inc - p.used else 0) := by
      unfold cost
      by_cases h3 : q.kind = 3
      · rw [if_pos h3, if_pos h3]
      · rw [if_neg h3, if_neg h3, Nat.sub_zero]
    have h0 : q.kind = 5 → (if q.kind = 3 then q.inc - p.used else 0) = 0 := fun z => by rw [if_neg (by omega)]
    unfold runs
    simp only [if_neg h4]
    generalize (if q.kind = 3 then q.inc - p.used else 0) = free at hc h0
    rw [hc]
    by_cases h : d < free + p.left
    · have e : min (d - free) p.left = d - free := by omega
      simp only [if_pos h, e]
      refine ⟨trivial, ?_, fun _ => trivial, fun z => ?_⟩
      · constructor
        · intro z; cases z
        · intro z; omega
      · have := h0 z; omega
    · have e : min (d - free) p.left = p.left := by omega
      simp only [if_neg h, e, Nat.sub_self]
      refine ⟨trivial, ?_, fun z => (by cases z), fun z => ?_⟩
      · constructor <;> intro z <;> first | rfl | trivial
      · have := h0 z; omega

theorem spendL_more (inc : Nat) : ∀ (m l : Nat) (b : Bool) (c : Nat), (spendL inc m l b c).1 ≤ m
  | 0, _, _, _ => Nat.le_refl _
  | m + 1, l, b, c => by
    unfold spendL
    split
    · exact Nat.le_succ_of_le (spendL_more inc m inc true (c - l))
    · exact Nat.le_refl _
theorem spendL_zero {inc l : Nat} {b : Bool} {c : Nat} : spendL inc 0 l b c = (0, l, b, c) := rfl

/-! ### a move's end -/
def leftMoved (q : Phase) (p : Player) (u : Nat) : Nat :=
  if q.kind = 1 then p.left + q.inc else if q.kind = 2 then p.left + min q.inc u else if q.kind = 4 ∧ p.inPeriod = true then q.inc else p.left
def entered (r : Phase) (p : Player) : Player := ⟨p.phase + 1, 0, p.left + r.main, r.periods, false, p.used⟩
def capped (q : Phase) (p : Player) : Player := if q.kind = 5 then p else { p with left := min full p.left }
def moved (c : Clock) (p : Player) : Player :=
  let q := phaseAt c p.phase
  let p1 := { p with left := leftMoved q p p.used, done := p.done + 1 }
  let p2 := if p1.done = q.moves then entered (phaseAt c (p.phase + 1)) p1 else p1
  capped q p2
theorem moved_ended {c : Clock} {p : Player} (h5 : (phaseAt c p.phase).kind = 5 → (phaseAt c p.phase).moves = 0) : ({ moved c p with used := 0 } : Player) = ended c p := by
  unfold moved ended
  by_cases h : p.done + 1 = (phaseAt c p.phase).moves
  · have hk : ¬ (phaseAt c p.phase).kind = 5 := fun z => by have := h5 z; omega
    have h0 : (phaseAt c p.phase).moves ≠ 0 := by omega
    simp only [if_pos h, if_pos (And.intro h0 h)]
    unfold capped
    rw [if_neg hk]
    rfl
  · have h' : ¬ ((phaseAt c p.phase).moves ≠ 0 ∧ p.done + 1 = (phaseAt c p.phase).moves) := fun z => h z.2
    simp only [if_neg h, if_neg h']
    unfold capped
    by_cases hk : (phaseAt c p.phase).kind = 5
    · rw [if_pos hk, if_pos hk]; rfl
    · rw [if_neg hk, if_neg hk]; rfl

/-! ### phases -/
theorem okPhases_get : ∀ {a : Bool} {l : List Phase} {i : Nat} {q : Phase}, okPhases a l = true → l[i]? = some q → okPhase a (decide (i + 1 = l.length)) q = true
  | a, [], i, q, _, h => by simp at h
  | a, x :: l, 0, q, hk, h => by
    have e : x = q := by simpa using h
    subst e
    unfold okPhases at hk
    rw [Bool.and_eq_true] at hk
    have e : l.isEmpty = decide (0 + 1 = (x :: l).length) := by
      cases l with
      | nil => rfl
      | cons y l => simp
    rw [← e]
    exact hk.1
  | a, x :: l, i + 1, q, hk, h => by
    unfold okPhases at hk
    rw [Bool.and_eq_true] at hk
    have ih := okPhases_get (i := i) hk.2 (by simpa using h)
    have e : decide (i + 1 = l.length) = decide (i + 1 + 1 = (x :: l).length) := by
      rw [List.length_cons]
      by_cases h : i + 1 = l.length
      · rw [decide_eq_true h, decide_eq_true (by omega)]
      · rw [decide_eq_false h, decide_eq_false (by omega)]
    rw [← e]
    exact ih
theorem okPhase_q {a b : Bool} {q : Phase} (h : okPhase a b q = true) : QOk q ∧ (b = true → q.moves = 0) ∧ (b = false → 1 ≤ q.moves) ∧ (q.kind = 5 → a = true) := by
  unfold okPhase at h
  simp only [Bool.and_eq_true, Bool.or_eq_true, decide_eq_true_eq] at h
  obtain ⟨⟨⟨⟨⟨⟨h1, h2⟩, h3⟩, h4⟩, h5⟩, h6⟩, h7⟩ := h
  refine ⟨⟨h4, h2, fun e => ?_, fun e => ?_, fun e => ?_⟩, fun e => ?_, fun e => ?_, fun e => ?_⟩
  · rw [if_neg (by omega)] at h5
    simp at h5; omega
  · rw [if_pos e] at h6
    simp at h6; omega
  · rw [if_neg e] at h6
    simpa using h6
  · rw [if_pos e] at h1
    simpa using h1
  · rw [if_neg (by rw [e]; exact Bool.false_ne_true)] at h1
    simp at h1; omega
  · rcases h7 with h7 | h7
    · simp at h7; omega
    · exact h7

/-! ### a clock that is as the calls make it -/
structure PWf (fs : List Phase) (p : Player) : Prop where
  ph : p.phase < fs.length
  m20 : p.more ≤ 20
  mo : (fs.getD p.phase plain).kind ≠ 4 → p.more = 0
structure Wf (c : Clock) : Prop where
  np : 2 ≤ c.players.length
  n4 : c.players.length ≤ 4
  tn : c.turn < c.players.length
  nf : 1 ≤ c.phases.length
  ok : okPhases (c.phases.length == 1) c.phases = true
  pl : ∀ p ∈ c.players, PWf c.phases p
  lf : c.fallen = none → ∀ p ∈ c.players, 0 < p.left
  on : c.on = true → c.fallen = none
def Us (c : Clock) (u : Nat) : Prop := c.fallen = none → ∀ j p, c.players[j]? = some p → p.used = if j = c.turn then u else 0

theorem Wf.q {c : Clock} (W : Wf c) {k : Nat} (hk : k < c.phases.length) : QOk (phaseAt c k) ∧ ((phaseAt c k).kind = 5 → (phaseAt c k).moves = 0) ∧ ((phaseAt c k).moves ≠ 0 → k + 1 < c.phases.length) := by
  have e := get_of_lt plain hk
  obtain ⟨a, b, d, f⟩ := okPhase_q (okPhases_get W.ok e)
  refine ⟨a, fun h => ?_, fun h => ?_⟩
  · have := f h
    have l1 : c.phases.length = 1 := by simpa using this
    exact b (by simp; omega)
  · by_cases z : k + 1 = c.phases.length
    · exact absurd (b (decide_eq_true z)) h
    · omega
theorem Wf.pt {c : Clock} (W : Wf c) : c.players[c.turn]? = some (player c c.turn) := get_of_lt nobody W.tn
theorem Wf.next_lt {c : Clock} (W : Wf c) : next c < c.players.length := Nat.mod_lt _ (by have := W.np; omega)
theorem Wf.next_ne {c : Clock} (W : Wf c) : next c ≠ c.turn := by
  unfold next
  have h1 := W.np
  have h2 := W.tn
  by_cases h : c.turn + 1 < c.players.length
  · rw [Nat.mod_eq_of_lt h]; omega
  · have e : c.turn + 1 = c.players.length := by omega
    rw [e, Nat.mod_self]; omega
end Pc

set_option linter.all false
namespace Pc
open Kyc

theorem till_off {c : Clock} {t : Nat} (h : c.on = false ∨ c.fallen.isSome = true) : till c t = { c with now := t } := by
  unfold till; rw [if_pos h]
theorem Wf.off {c : Clock} (W : Wf c) (t : Nat) : Wf { c with now := t } := ⟨W.np, W.n4, W.tn, W.nf, W.ok, W.pl, W.lf, W.on⟩

/-- what the run of d milliseconds makes of the one whose clock it is -/
def ranP (c : Clock) (u d : Nat) : Player := spentP (phaseAt c (player c c.turn).phase).inc (player c c.turn) (cost (phaseAt c (player c c.turn).phase) u d)
def ranN (c : Clock) (u d : Nat) : Nat := spentN (phaseAt c (player c c.turn).phase).inc (player c c.turn) (cost (phaseAt c (player c c.turn).phase) u d)
def isGlass (c : Clock) : Prop := (phaseAt c (player c c.turn).phase).kind = 5
instance (c : Clock) : Decidable (isGlass c) := inferInstanceAs (Decidable (_ = _))

theorem spentP_keeps (inc : Nat) (p : Player) (k : Nat) : (spentP inc p k).phase = p.phase ∧ (spentP inc p k).more ≤ p.more ∧ (spentP inc p k).done = p.done := ⟨rfl, spendL_more _ _ _ _ _, rfl⟩

structure TillOn (c : Clock) (t u : Nat) : Prop where
  phs : (till c t).phases = c.phases
  trn : (till c t).turn = c.turn
  nw : (till c t).now = t
  len : (till c t).players.length = c.players.length
  fl : (till c t).fallen = if (ranP c u (t - c.now)).left = 0 then some c.turn else none
  on : (till c t).on = !decide ((ranP c u (t - c.now)).left = 0)
  mv : ∃ p, (till c t).players[c.turn]? = some p ∧ ({ p with used := 0 } : Player) = { ranP c u (t - c.now) with used := 0 } ∧ ((till c t).fallen = none → p.used = u + (t - c.now))
  nx : ∀ p, c.players[next c]? = some p → (till c t).players[next c]? = some (if isGlass c then { p with left := p.left + ranN c u (t - c.now) } else p)
  ot : ∀ j, j ≠ c.turn → j ≠ next c → (till c t).players[j]? = c.players[j]?
theorem till_on {c : Clock} {t u : Nat} (W : Wf c) (U : Us c u) (h : c.on = true) : TillOn c t u := by
  have hf := W.on h
  have hpt := W.pt
  have hw := W.pl _ (List.mem_of_getElem? hpt)
  obtain ⟨hq, _, _⟩ := W.q hw.ph
  have hu : (player c c.turn).used = u := by rw [U hf _ _ hpt, if_pos rfl]
  obtain ⟨r1, r2, r3, r4⟩ := runs_spend (d := t - c.now) hq (W.lf hf _ (List.mem_of_getElem? hpt)) hw.m20 hw.mo
  rw [hu] at r1 r2 r3 r4
  have ht : till c t = (
      let q := phaseAt c (player c c.turn).phase
      let r := runs q (player c c.turn) (t - c.now)
      let l := c.players.set c.turn r.1
      let m := if q.kind = 5 then l.set (next c) { l.getD (next c) nobody with left := (l.getD (next c) nobody).left + r.2.1 } else l
      { c with players := m, now := t, fallen := if r.2.2 then some c.turn else none, on := !r.2.2 }) := by
    unfold till
    rw [if_neg (by rw [h, hf]; simp)]
  have hne := W.next_ne
  have htn := W.tn
  have hnl := W.next_lt
  have hb : (runs (phaseAt c (player c c.turn).phase) (player c c.turn) (t - c.now)).2.2 = decide ((ranP c u (t - c.now)).left = 0) := by
    by_cases z : (ranP c u (t - c.now)).left = 0
    · rw [decide_eq_true z]; exact r2.mpr z
    · rw [decide_eq_false z]
      cases e : (runs (phaseAt c (player c c.turn).phase) (player c c.turn) (t - c.now)).2.2 with
      | false => rfl
      | true => exact absurd (r2.mp e) z
  refine ⟨by rw [ht], by rw [ht], by rw [ht], ?_, ?_, ?_, ?_, fun p hp => ?_, fun j hj hj' => ?_⟩
  · rw [ht]
    dsimp only
    split <;> simp
  · rw [ht]
    dsimp only
    rw [hb]
    by_cases z : (ranP c u (t - c.now)).left = 0 <;> simp [z]
  · rw [ht]
    dsimp only
    rw [hb]
  · refine ⟨(runs (phaseAt c (player c c.turn).phase) (player c c.turn) (t - c.now)).1, ?_, r1, fun z => r3 ?_⟩
    · rw [ht]
      dsimp only
      split
      · rw [List.getElem?_set_ne hne, List.getElem?_set_self htn]
      · rw [List.getElem?_set_self htn]
    · rw [ht] at z
      dsimp only at z
      cases e : (runs (phaseAt c (player c c.turn).phase) (player c c.turn) (t - c.now)).2.2 with
      | false => rfl
      | true => rw [e] at z; cases z
  · rw [ht]
    dsimp only
    have hg : (c.players.set c.turn (runs (phaseAt c (player c c.turn).phase) (player c c.turn) (t - c.now)).1)[next c]? = some p := by
      rw [List.getElem?_set_ne (Ne.symm hne)]; exact hp
    by_cases z : isGlass c
    · have z' : (phaseAt c (player c c.turn).phase).kind = 5 := z
      rw [if_pos z, if_pos z', getD_of hg, r4 z', List.getElem?_set_self (by rw [List.length_set]; exact hnl)]
      rfl
    · have z' : ¬ (phaseAt c (player c c.turn).phase).kind = 5 := z
      rw [if_neg z, if_neg z', hg]
  · rw [ht]
    dsimp only
    split
    · rw [List.getElem?_set_ne (Ne.symm hj'), List.getElem?_set_ne (Ne.symm hj)]
    · rw [List.getElem?_set_ne (Ne.symm hj)]

theorem mem_ix {α : Type} {l : List α} {x : α} (h : x ∈ l) : ∃ i : Nat, l[i]? = some x := List.mem_iff_getElem?.mp h

/-- a player of the clock behind a run, by that ahead of it -/
theorem TillOn.from {c : Clock} {t u : Nat} (T : TillOn c t u) (W : Wf c) {j : Nat} {p : Player} (h : (till c t).players[j]? = some p) :
    ∃ p0, c.players[j]? = some p0 ∧ ((j = c.turn ∧ p0 = player c c.turn ∧ ({ p with used := 0 } : Player) = { ranP c u (t - c.now) with used := 0 } ∧ ((till c t).fallen = none → p.used = u + (t - c.now))) ∨
      (j ≠ c.turn ∧ j = next c ∧ p = (if isGlass c then { p0 with left := p0.left + ranN c u (t - c.now) } else p0)) ∨ (j ≠ c.turn ∧ j ≠ next c ∧ p = p0)) := by
  by_cases h1 : j = c.turn
  · subst h1
    obtain ⟨p', e, a, b⟩ := T.mv
    rw [h] at e
    cases e
    exact ⟨_, W.pt, .inl ⟨rfl, rfl, a, b⟩⟩
  · by_cases h2 : j = next c
    · subst h2
      have e := get_of_lt nobody W.next_lt
      refine ⟨_, e, .inr (.inl ⟨h1, rfl, ?_⟩)⟩
      have := T.nx _ e
      rw [h] at this
      exact Option.some.inj this
    · refine ⟨p, ?_, .inr (.inr ⟨h1, h2, rfl⟩)⟩
      rw [← T.ot j h1 h2]
      exact h
theorem TillOn.wf {c : Clock} {t u : Nat} (T : TillOn c t u) (W : Wf c) (h : c.on = true) : Wf (till c t) := by
  have hf := W.on h
  refine ⟨by rw [T.len]; exact W.np, by rw [T.len]; exact W.n4, by rw [T.len, T.trn]; exact W.tn, by rw [T.phs]; exact W.nf, by rw [T.phs]; exact W.ok, fun p hp => ?_, fun hn p hp => ?_, fun z => ?_⟩
  · obtain ⟨j, hj⟩ := mem_ix hp
    rw [T.phs]
    obtain ⟨p0, e, q⟩ := T.from W hj
    have w0 := W.pl _ (List.mem_of_getElem? e)
    rcases q with ⟨_, e2, a, _⟩ | ⟨_, _, a⟩ | ⟨_, _, a⟩
    · have k := spentP_keeps (phaseAt c (player c c.turn).phase).inc (player c c.turn) (cost (phaseAt c (player c c.turn).phase) u (t - c.now))
      have e1 : p.phase = p0.phase := by
        rw [e2]; exact (congrArg Player.phase a).trans k.1
      have e3 : p.more ≤ p0.more := by
        rw [e2]
        have : p.more = (ranP c u (t - c.now)).more := by have a' := congrArg Player.more a; exact a'
        rw [this]; exact k.2.1
      exact ⟨by rw [e1]; exact w0.ph, Nat.le_trans e3 w0.m20, fun z => by rw [e1] at z; have := w0.mo z; omega⟩
    · split at a <;> (subst a; exact ⟨w0.ph, w0.m20, w0.mo⟩)
    · subst a; exact w0
  · obtain ⟨j, hj⟩ := mem_ix hp
    obtain ⟨p0, e, q⟩ := T.from W hj
    have w0 := W.lf hf _ (List.mem_of_getElem? e)
    rcases q with ⟨_, e2, a, _⟩ | ⟨_, _, a⟩ | ⟨_, _, a⟩
    · have e3 : p.left = (ranP c u (t - c.now)).left := by have a' := congrArg Player.left a; exact a'
      have hn' := T.fl
      rw [hn] at hn'
      by_cases z : (ranP c u (t - c.now)).left = 0
      · rw [if_pos z] at hn'; cases hn'
      · omega
    · split at a
      · subst a; show 0 < p0.left + _; omega
      · subst a; exact w0
    · subst a; exact w0
  · have hon := T.on
    rw [z] at hon
    have : ¬ (ranP c u (t - c.now)).left = 0 := fun y => by rw [decide_eq_true y] at hon; cases hon
    rw [T.fl, if_neg this]
theorem TillOn.us {c : Clock} {t u : Nat} (T : TillOn c t u) (W : Wf c) (U : Us c u) (h : c.on = true) : Us (till c t) (u + (t - c.now)) := by
  have hf := W.on h
  intro hn j p hj
  obtain ⟨p0, e, q⟩ := T.from W hj
  have u0 := U hf j p0 e
  rw [T.trn]
  rcases q with ⟨e1, e2, a, b⟩ | ⟨e1, _, a⟩ | ⟨e1, _, a⟩
  · rw [if_pos e1]; exact b hn
  · rw [if_neg e1] at u0 ⊢
    split at a <;> (subst a; exact u0)
  · rw [if_neg e1] at u0 ⊢
    subst a; exact u0

/-! ### the other calls -/
theorem begun_wf {n : Nat} {l : List Phase} (h2 : 2 ≤ n) (h4 : n ≤ 4) (hl : 1 ≤ l.length) (ok : okPhases (l.length == 1) l = true) : Wf (begun n l) ∧ Us (begun n l) 0 := by
  have hq := okPhase_q (okPhases_get ok (get_of_lt plain (show 0 < l.length by omega)))
  have e : l.headD plain = l.getD 0 plain := by cases l <;> rfl
  refine ⟨⟨?_, ?_, ?_, hl, ok, fun p hp => ?_, fun _ p hp => ?_, fun z => rfl⟩, fun _ j p hj => ?_⟩
  · show 2 ≤ (List.replicate _ _).length; rw [List.length_replicate]; exact h2
  · show (List.replicate _ _).length ≤ 4; rw [List.length_replicate]; exact h4
  · show 0 < (List.replicate _ _).length; rw [List.length_replicate]; omega
  · have hp := (List.mem_replicate.mp hp).2
    subst hp
    refine ⟨by show 0 < l.length; omega, ?_, fun z => ?_⟩
    · show (l.headD plain).periods ≤ 20
      rw [e]
      by_cases z : (l.getD 0 plain).kind = 4
      · exact hq.1.p4 z
      · rw [hq.1.pn z]; omega
    · have z : (l.getD 0 plain).kind ≠ 4 := z
      show (l.headD plain).periods = 0
      rw [e]; exact hq.1.pn z
  · have hp := (List.mem_replicate.mp hp).2
    subst hp
    show 0 < (l.headD plain).main
    rw [e]; exact hq.1.mn
  · have hp := (List.mem_replicate.mp (List.mem_of_getElem? hj)).2
    subst hp
    show 0 = if _ then 0 else 0
    split <;> rfl
theorem pressed_wf {c : Clock} {u : Nat} (W : Wf c) (U : Us c u) (hf : c.fallen = none) : Wf (pressed c) ∧ Us (pressed c) 0 := by
  have hpt := W.pt
  have hw := W.pl _ (List.mem_of_getElem? hpt)
  have hl := W.lf hf _ (List.mem_of_getElem? hpt)
  obtain ⟨hq, h5, hm⟩ := W.q hw.ph
  have hk : ∀ {p}, p ∈ (pressed c).players → p ∈ c.players ∨ p = ended c (player c c.turn) := fun {p} hp => by
    rcases List.mem_or_eq_of_mem_set (show p ∈ c.players.set c.turn (ended c (player c c.turn)) from hp) with z | z
    · exact .inl z
    · exact .inr z
  have hlen : (pressed c).players.length = c.players.length := List.length_set
  have key : PWf c.phases (ended c (player c c.turn)) ∧ 0 < (ended c (player c c.turn)).left ∧ (ended c (player c c.turn)).used = 0 := by
    unfold ended
    dsimp only
    have hlm : 0 < (if (phaseAt c (player c c.turn).phase).kind = 1 then (player c c.turn).left + (phaseAt c (player c c.turn).phase).inc else if (phaseAt c (player c c.turn).phase).kind = 2 then (player c c.turn).left + min (phaseAt c (player c c.turn).phase).inc (player c c.turn).used else if (phaseAt c (player c c.turn).phase).kind = 4 ∧ (player c c.turn).inPeriod = true then (phaseAt c (player c c.turn).phase).inc else (player c c.turn).left) := by
      split
      · omega
      · split
        · omega
        · split
          · rename_i z; exact hq.i4 z.1
          · exact hl
    split
    · rename_i z
      have hlt := hm z.1
      obtain ⟨hq', _, _⟩ := W.q hlt
      refine ⟨⟨hlt, ?_, fun y => ?_⟩, ?_, rfl⟩
      · show (phaseAt c ((player c c.turn).phase + 1)).periods ≤ 20
        by_cases z : (phaseAt c ((player c c.turn).phase + 1)).kind = 4
        · exact hq'.p4 z
        · rw [hq'.pn z]; omega
      · exact hq'.pn y
      · have := hq'.mn
        show 0 < min full (_ + _)
        unfold full
        omega
    · refine ⟨⟨hw.ph, hw.m20, hw.mo⟩, ?_, rfl⟩
      dsimp only
      have hfull : 0 < full := by decide
      split <;> omega
  refine ⟨⟨by rw [hlen]; exact W.np, by rw [hlen]; exact W.n4, ?_, W.nf, W.ok, fun p hp => ?_, fun _ p hp => ?_, W.on⟩, fun _ j p hj => ?_⟩
  · rw [hlen]; exact W.next_lt
  · rcases hk hp with z | z
    · exact W.pl p z
    · rw [z]; exact key.1
  · rcases hk hp with z | z
    · exact W.lf hf p z
    · rw [z]; exact key.2.1
  · show p.used = if _ then 0 else 0
    rw [ite_self]
    have hj : (c.players.set c.turn (ended c (player c c.turn)))[j]? = some p := hj
    by_cases z : j = c.turn
    · subst z
      rw [List.getElem?_set_self W.tn] at hj
      cases hj
      exact key.2.2
    · rw [List.getElem?_set_ne (Ne.symm z)] at hj
      rw [U hf j p hj, if_neg z]
theorem set_wf {c : Clock} {u k m : Nat} (W : Wf c) (U : Us c u) (hk : k < c.players.length) (hm : 1 ≤ m) :
    Wf { c with players := c.players.set k { player c k with left := m } } ∧ Us { c with players := c.players.set k { player c k with left := m } } u := by
  have hpk : c.players[k]? = some (player c k) := get_of_lt nobody hk
  have hlen : (c.players.set k { player c k with left := m }).length = c.players.length := List.length_set
  refine ⟨⟨by show 2 ≤ (c.players.set k _).length; rw [hlen]; exact W.np, by show (c.players.set k _).length ≤ 4; rw [hlen]; exact W.n4, by show c.turn < (c.players.set k _).length; rw [hlen]; exact W.tn, W.nf, W.ok, fun p hp => ?_, fun hf p hp => ?_, W.on⟩, fun hf j p hj => ?_⟩
  · rcases List.mem_or_eq_of_mem_set hp with z | z
    · exact W.pl p z
    · have w := W.pl _ (List.mem_of_getElem? hpk)
      rw [z]; exact ⟨w.ph, w.m20, w.mo⟩
  · rcases List.mem_or_eq_of_mem_set hp with z | z
    · exact W.lf hf p z
    · rw [z]; exact hm
  · have hj : (c.players.set k { player c k with left := m })[j]? = some p := hj
    by_cases z : k = j
    · subst z
      rw [List.getElem?_set_self hk] at hj
      have e : ({ player c k with left := m } : Player) = p := Option.some.inj hj
      rw [← e]
      have := U hf k _ hpk
      exact this
    · rw [List.getElem?_set_ne z] at hj
      exact U hf j p hj
end Pc

set_option linter.all false
namespace Pc
open Kyc
/-- a run, by the program's own steps -/
def ranL (c : Clock) (u d : Nat) : List Player :=
  let l := c.players.set c.turn (ranP c u d)
  if isGlass c then l.set (next c) { player c (next c) with left := (player c (next c)).left + ranN c u d } else l
def ranC (c : Clock) (u d : Nat) : Clock := { c with players := ranL c u d, fallen := if (ranP c u d).left = 0 then some c.turn else none, on := !decide ((ranP c u d).left = 0) }
theorem ranL_len (c : Clock) (u d : Nat) : (ranL c u d).length = c.players.length := by
  unfold ranL
  dsimp only
  split <;> simp
def noU (p : Player) : Player := { p with used := 0 }
theorem ran_till {c : Clock} {t u : Nat} (W : Wf c) (U : Us c u) (h : c.on = true) {i : Nat} {p p' : Player} (h1 : (ranL c u (t - c.now))[i]? = some p) (h2 : (till c t).players[i]? = some p') : noU p' = noU p := by
  have T := till_on (t := t) W U h
  have hne := W.next_ne
  have htn := W.tn
  have hnl := W.next_lt
  obtain ⟨p0, e, q⟩ := T.from W h2
  unfold ranL at h1
  dsimp only at h1
  rcases q with ⟨e1, e2, a, b⟩ | ⟨e1, e2, a⟩ | ⟨e1, e2, a⟩
  · subst e1
    have h1' : (c.players.set c.turn (ranP c u (t - c.now)))[c.turn]? = some p := by
      split at h1
      · rw [List.getElem?_set_ne hne] at h1; exact h1
      · exact h1
    rw [List.getElem?_set_self htn] at h1'
    cases h1'
    exact a
  · subst e2
    have ep : player c (next c) = p0 := getD_of e
    by_cases z : isGlass c
    · rw [if_pos z] at h1 a
      rw [List.getElem?_set_self (by rw [List.length_set]; exact hnl), ep] at h1
      cases h1
      rw [a]
    · rw [if_neg z] at h1 a
      rw [List.getElem?_set_ne (Ne.symm hne), e] at h1
      cases h1
      rw [a]
  · have h1' : c.players[i]? = some p := by
      split at h1
      · rw [List.getElem?_set_ne (Ne.symm e2), List.getElem?_set_ne (Ne.symm e1)] at h1; exact h1
      · rw [List.getElem?_set_ne (Ne.symm e1)] at h1; exact h1
    rw [e] at h1'
    cases h1'
    rw [a]
theorem ended_noU {c : Clock} {p : Player} (h5 : (phaseAt c p.phase).kind = 5 → (phaseAt c p.phase).moves = 0) : noU (moved c p) = noU (ended c p) := by
  have e := moved_ended (c := c) (p := p) h5
  unfold noU
  rw [← e]
end Pc

set_option linter.all false
namespace Pc
open PyFlat

theorem ok_cases {c : List (List Int)} (h : okCall PyKyc.shape c) :
    (∃ n l, c = [[0, n], l]) ∨ (∃ t, c = [[1, t]]) ∨ (∃ t, c = [[2, t]]) ∨ (∃ t, c = [[3, t]]) ∨ (∃ t, c = [[4, t]]) ∨ (∃ k m, c = [[5, k, m]]) ∨ (∃ k, c = [[6, k]]) ∨ c = [[7]] := by
  obtain ⟨p, a, xs, rfl, hs⟩ := h
  have l1 : ∀ {α : Type} {l : List α}, 1 = l.length → ∃ x, l = [x] := fun {α l} e => match l, e with | [x], _ => ⟨x, rfl⟩
  have l2 : ∀ {α : Type} {l : List α}, 2 = l.length → ∃ x y, l = [x, y] := fun {α l} e => match l, e with | [x, y], _ => ⟨x, y, rfl⟩
  have l0 : ∀ {α : Type} {l : List α}, 0 = l.length → l = [] := fun {α l} e => match l, e with | [], _ => rfl
  unfold PyKyc.shape at hs
  have z : ∀ {n k : Nat}, (some (n, k) : Option (Nat × Nat)) = some (a.length, xs.length) → n = a.length ∧ k = xs.length := fun {n k} e => by
    have := Option.some.inj e
    exact ⟨congrArg (·.1) this, congrArg (·.2) this⟩
  by_cases h0 : p = 0
  · rw [if_pos h0] at hs
    obtain ⟨e1, e2⟩ := z hs
    obtain ⟨x, rfl⟩ := l1 e1
    obtain ⟨y, rfl⟩ := l1 e2
    exact .inl ⟨x, y, by rw [h0]⟩
  rw [if_neg h0] at hs
  by_cases h1 : p = 1
  · rw [if_pos h1] at hs
    obtain ⟨e1, e2⟩ := z hs
    obtain ⟨x, rfl⟩ := l1 e1
    have e3 := l0 e2; subst e3
    exact .inr (.inl ⟨x, by rw [h1]⟩)
  rw [if_neg h1] at hs
  by_cases h2 : p = 2
  · rw [if_pos h2] at hs
    obtain ⟨e1, e2⟩ := z hs
    obtain ⟨x, rfl⟩ := l1 e1
    have e3 := l0 e2; subst e3
    exact .inr (.inr (.inl ⟨x, by rw [h2]⟩))
  rw [if_neg h2] at hs
  by_cases h3 : p = 3
  · rw [if_pos h3] at hs
    obtain ⟨e1, e2⟩ := z hs
    obtain ⟨x, rfl⟩ := l1 e1
    have e3 := l0 e2; subst e3
    exact .inr (.inr (.inr (.inl ⟨x, by rw [h3]⟩)))
  rw [if_neg h3] at hs
  by_cases h4 : p = 4
  · rw [if_pos h4] at hs
    obtain ⟨e1, e2⟩ := z hs
    obtain ⟨x, rfl⟩ := l1 e1
    have e3 := l0 e2; subst e3
    exact .inr (.inr (.inr (.inr (.inl ⟨x, by rw [h4]⟩))))
  rw [if_neg h4] at hs
  by_cases h5 : p = 5
  · rw [if_pos h5] at hs
    obtain ⟨e1, e2⟩ := z hs
    obtain ⟨x, y, rfl⟩ := l2 e1
    have e3 := l0 e2; subst e3
    exact .inr (.inr (.inr (.inr (.inr (.inl ⟨x, y, by rw [h5]⟩)))))
  rw [if_neg h5] at hs
  by_cases h6 : p = 6
  · rw [if_pos h6] at hs
    obtain ⟨e1, e2⟩ := z hs
    obtain ⟨x, rfl⟩ := l1 e1
    have e3 := l0 e2; subst e3
    exact .inr (.inr (.inr (.inr (.inr (.inr (.inl ⟨x, by rw [h6]⟩))))))
  rw [if_neg h6] at hs
  by_cases h7 : p = 7
  · rw [if_pos h7] at hs
    obtain ⟨e1, e2⟩ := z hs
    have e3 := l0 e1; subst e3
    have e3 := l0 e2; subst e3
    exact .inr (.inr (.inr (.inr (.inr (.inr (.inr (by rw [h7])))))))
  rw [if_neg h7] at hs
  cases hs
theorem whole_ok {c : List (List Int)} (h : okCall PyKyc.shape c) : PyKyc.whole c = c := by
  rcases ok_cases h with ⟨n, l, rfl⟩ | ⟨t, rfl⟩ | ⟨t, rfl⟩ | ⟨t, rfl⟩ | ⟨t, rfl⟩ | ⟨k, m, rfl⟩ | ⟨k, rfl⟩ | rfl <;> rfl
theorem map_whole : ∀ {cs : List (List (List Int))}, (∀ c ∈ cs, okCall PyKyc.shape c) → cs.map PyKyc.whole = cs
  | [], _ => rfl
  | c :: cs, h => by
    rw [List.map_cons, whole_ok (h c (List.mem_cons_self ..)), map_whole fun d hd => h d (List.mem_cons_of_mem _ hd)]
structure Asked (ns : List Int) (cs : List (List (List Int))) : Prop where
  is : ns = put cs
  ok : ∀ c ∈ cs, okCall PyKyc.shape c
  most : cs.length ≤ 4000
  ans : PyKyc.answers ns = told (played KycNeutral.step KycNeutral.start cs)
  each : ∀ c ∈ cs, KycNeutral.asked1 c = true
  may : KycNeutral.may KycNeutral.start cs = true
theorem asked_of {ns : List Int} (h : PyKyc.answers_asked ns = true) : ∃ cs, Asked ns cs := by
  unfold PyKyc.answers_asked at h
  unfold PyKyc.calls at h
  cases e : PyFlat.calls PyKyc.shape ns.length ns with
  | none => rw [e] at h; cases h
  | some cs =>
    rw [e] at h
    have hp := put_calls _ _ _ e
    refine ⟨cs, ?_⟩
    have ok : ∀ c ∈ cs, okCall PyKyc.shape c := hp.2
    have hm := map_whole ok
    dsimp only at h
    rw [hm] at h
    rw [Bool.and_eq_true] at h
    obtain ⟨h1, h2⟩ := h
    unfold KycNeutral.asked at h2
    simp only [Bool.and_eq_true, decide_eq_true_eq, List.all_eq_true] at h2
    refine ⟨hp.1, ok, of_decide_eq_true h1, ?_, h2.1.2, h2.2⟩
    unfold PyKyc.answers PyKyc.calls
    rw [e]
    dsimp only
    rw [hm]
end Pc

set_option Elab.async false
set_option linter.all false
set_option maxRecDepth 100000
set_option maxHeartbeats 2000000
namespace Pc
open PySem PySem.Spec PyProof.Rows L2
open PySem.W (Codec)
/-! ### words -/
section
variable {X : Cx} {k : Nat} {x m : Str} {ps : List Str} {sp : Sp} {p pos apos : Pos} {e o : Expr} {es : List Expr} {t : TA} {ta : TE} {C : Addr}
theorem pe_gi {n : Int} (hg : Gl X x) (h : ∃ t, X.mg x = some (.int n t)) (hd : (x == ("__debug__" : Str)) = false := by decide) : PE X (.Name x pos) (tC (.int n)) := by
  obtain ⟨t, e⟩ := h
  exact pe_glob hg e ⟨t, rfl⟩ hd
theorem sl_listK {K : PySem.W.Frag} (h : X.K = K := by rfl) : SlR X (rSlL K) := h ▸ sl_list
theorem ix_listK {K : PySem.W.Frag} (h : X.K = K := by rfl) : IxR X (rIxL K) := h ▸ ix_list
theorem call_len_seqK {K : PySem.W.Frag} (h : X.K = K := by rfl) : CallR X (.builtin "len") (fun xs H Q => ∃ p ys, xs = [.ref p] ∧ (SqL K H p ys ∨ SqT K H p ys) ∧ Q (.int ys.length) H) := h ▸ call_len_seq
theorem pe_fldK {K : PySem.W.Frag} {g : Str} (he : PE X e ta) (hb : attributeBase e g X.env (eval e X.env) = eval e X.env) (h : X.K = K := by rfl) : PE X (.Attribute e g pos) (tFld K ta g) := h ▸ pe_fld he hb
/-- a def of the text that keeps its promise -/
def FnU (P : Program) (w : World) (K : PySem.W.Frag) (mg : Str → Option Value) (base : Heap) (k : Nat) (x : Str) (ps : List Str) (sp : Sp) : Prop :=
  ∃ (f : Addr) (fd : FuncData), FnOk P w K mg base CX0 k f fd ps sp ∧ Binds K fd ps [] ∧ mg x = some (.ref f) ∧ PySem.W.keepIn K (.ref f) = true
/-- a method -/
def MtU (P : Program) (w : World) (K : PySem.W.Frag) (mg : Str → Option Value) (base : Heap) (k : Nat) (C : Addr) (m : Str) (ps : List Str) (sp : Sp) : Prop :=
  ∃ (f : Addr) (fd : FuncData), FnOk P w K mg base CX0 k f fd ps sp ∧ Binds K fd ps [] ∧ Meth K C m f
/-- a class that is called -/
def MkU (P : Program) (w : World) (K : PySem.W.Frag) (mg : Str → Option Value) (base : Heap) (k : Nat) (C : Addr) (x : Str) (ps : List Str) (sp : Sp) : Prop :=
  ∃ (f : Addr) (fd : FuncData), FnOk P w K mg base CX0 k f fd ps sp ∧ Binds K fd ps [] ∧ Mk K C f ∧ mg x = some (.ref C)
theorem pe_fn (U : FnU X.prog X.w X.K X.mg X.base k x ps sp) (hr : Room k X.A) (hg : Gl X x) (ha : PA X (e :: es) t) (hdb : (x == ("__debug__" : Str)) = false := by decide)
    (he : starEach (e :: es) X.env = (false, eval e X.env) :: starEach es X.env := by rfl) (hpl : (backTo pos (starEach es X.env)).any (·.1) = false := by rfl) : PE X (.Call (.Name x p) (e :: es) [] pos) (tCall sp [] E0 t) := by
  obtain ⟨f, fd, G, b, m, kp⟩ := U
  exact pe_call G hr hg m kp b .nil pass0 ha hdb he hpl
theorem pe_mk (U : MkU X.prog X.w X.K X.mg X.base k C x ps sp) (hr : Room (k + 1) X.A) (hg : Gl X x) (ha : PA X (e :: es) t) (hdb : (x == ("__debug__" : Str)) = false := by decide)
    (he : starEach (e :: es) X.env = (false, eval e X.env) :: starEach es X.env := by rfl) (hpl : (backTo pos (starEach es X.env)).any (·.1) = false := by rfl) : PE X (.Call (.Name x p) (e :: es) [] pos) (tMake C sp [] E0 t) := by
  obtain ⟨f, fd, G, b, M, m⟩ := U
  exact pe_make M G hr hg m b .nil pass0 ha hdb he hpl
theorem pe_mk0 (U : MkU X.prog X.w X.K X.mg X.base k C x ps sp) (hr : Room (k + 1) X.A) (hg : Gl X x) (hdb : (x == ("__debug__" : Str)) = false := by decide) : PE X (.Call (.Name x p) [] [] pos) (tMake C sp [] E0 tNil) := by
  obtain ⟨f, fd, G, b, M, m⟩ := U
  exact pe_make0 M G hr hg m b .nil pass0 hdb
theorem pe_mth {pl : Sem Bool} (U : MtU X.prog X.w X.K X.mg X.base k C m ps sp) (c : Cls X.K C) (ho : PE X o ta) (hr : Room k X.A) (ha : PA X (e :: es) t)
    (hst : starEach (e :: es) X.env = (false, eval e X.env) :: starEach es X.env := by rfl) (hpl : (backTo pos (starEach es X.env)).any (·.1) = false := by rfl)
    (ht : eval (.Call (.Attribute o m apos) (e :: es) [] pos) X.env = (do
      let ov ← eval o X.env
      standAt apos.atName
      let (f, first) ← holding [ov] (getMethod ov m pl)
      callWith pos f first (backTo pos (starEach (e :: es) X.env)) (backToKw pos (keywordEach [] X.env))) := by rfl) :
    PE X (.Call (.Attribute o m apos) (e :: es) [] pos) (tMeth C m sp [] E0 ta t) := by
  obtain ⟨f, fd, G, b, M⟩ := U
  exact pe_meth ho c M G hr b .nil pass0 ha hst hpl ht
theorem pe_mth0 {pl : Sem Bool} (U : MtU X.prog X.w X.K X.mg X.base k C m ps sp) (c : Cls X.K C) (ho : PE X o ta) (hr : Room k X.A)
    (ht : eval (.Call (.Attribute o m apos) [] [] pos) X.env = (do
      let ov ← eval o X.env
      standAt apos.atName
      let (f, first) ← holding [ov] (getMethod ov m pl)
      callWith pos f first (backTo pos (starEach [] X.env)) (backToKw pos (keywordEach [] X.env))) := by rfl) :
    PE X (.Call (.Attribute o m apos) [] [] pos) (tMeth C m sp [] E0 ta tNil) := by
  obtain ⟨f, fd, G, b, M⟩ := U
  exact pe_meth0 ho c M G hr b .nil pass0 ht
end
/-! ### the text by places -/
def top (i : Nat) : Stmt := PySem.Challenge.pw_playclocks_s01_answers.main.body.getD i (.Pass ⟨0, 0, 0, 0⟩)
abbrev s_Phase_init : Stmt := inClass (top 24) 0
abbrev s_phases_of : Stmt := top 25
abbrev s_moves_hold : Stmt := top 26
abbrev s_kind_holds : Stmt := top 27
abbrev s_inc_holds : Stmt := top 28
abbrev s_periods_hold : Stmt := top 29
abbrev s_phase_holds : Stmt := top 30
abbrev s_phases_hold : Stmt := top 31
abbrev s_cost_of : Stmt := top 32
abbrev s_left_when_moved : Stmt := top 33
abbrev s_Player_init : Stmt := inClass (top 34) 0
abbrev s_Player_spend : Stmt := inClass (top 34) 1
abbrev s_Player_enter_next : Stmt := inClass (top 34) 2
abbrev s_Clocks_init : Stmt := inClass (top 35) 0
abbrev s_Clocks_lay_out : Stmt := inClass (top 35) 1
abbrev s_Clocks_start : Stmt := inClass (top 35) 2
abbrev s_Clocks_go : Stmt := inClass (top 35) 3
abbrev s_Clocks_now : Stmt := inClass (top 35) 4
abbrev s_Clocks_press : Stmt := inClass (top 35) 5
abbrev s_Clocks_pause : Stmt := inClass (top 35) 6
abbrev s_Clocks_set_left : Stmt := inClass (top 35) 7
abbrev s_Clocks_left : Stmt := inClass (top 35) 8
abbrev s_Clocks_state : Stmt := inClass (top 35) 9
abbrev s_Clocks_reach : Stmt := inClass (top 35) 10
abbrev s_Clocks_has_player : Stmt := inClass (top 35) 11
abbrev s_Clocks_may_become : Stmt := inClass (top 35) 12
abbrev s_Clocks_verdict : Stmt := inClass (top 35) 13
abbrev s_Clocks_next_number : Stmt := inClass (top 35) 14
abbrev s_Clocks_run_until : Stmt := inClass (top 35) 15
abbrev s_Clocks_run : Stmt := inClass (top 35) 16
abbrev s_Clocks_end_move : Stmt := inClass (top 35) 17
abbrev s_end_of_call : Stmt := top 45
abbrev s_answer : Stmt := top 46
abbrev s_answers : Stmt := top 47
theorem sc_Phase_init : FnScope ["self", "row"] ["self", "row"] (defScope s_Phase_init) := ⟨rfl, rfl, rfl, by decide +kernel, rfl, by decide +kernel, by decide +kernel⟩
theorem sc_phases_of : FnScope ["numbers", "k"] ["numbers"] (defScope s_phases_of) := ⟨rfl, rfl, rfl, by decide +kernel, rfl, by decide +kernel, by decide +kernel⟩
theorem sc_moves_hold : FnScope ["phase", "is_last"] ["phase", "is_last"] (defScope s_moves_hold) := ⟨rfl, rfl, rfl, by decide +kernel, rfl, by decide +kernel, by decide +kernel⟩
theorem sc_kind_holds : FnScope ["phase", "is_only"] ["phase", "is_only"] (defScope s_kind_holds) := ⟨rfl, rfl, rfl, by decide +kernel, rfl, by decide +kernel, by decide +kernel⟩
theorem sc_inc_holds : FnScope ["phase"] ["phase"] (defScope s_inc_holds) := ⟨rfl, rfl, rfl, by decide +kernel, rfl, by decide +kernel, by decide +kernel⟩
theorem sc_periods_hold : FnScope ["phase"] ["phase"] (defScope s_periods_hold) := ⟨rfl, rfl, rfl, by decide +kernel, rfl, by decide +kernel, by decide +kernel⟩
theorem sc_phase_holds : FnScope ["phase", "is_last", "is_only"] ["phase", "is_last", "is_only"] (defScope s_phase_holds) := ⟨rfl, rfl, rfl, by decide +kernel, rfl, by decide +kernel, by decide +kernel⟩
theorem sc_phases_hold : FnScope ["phases", "count", "k", "phase"] ["phases"] (defScope s_phases_hold) := ⟨rfl, rfl, rfl, by decide +kernel, rfl, by decide +kernel, by decide +kernel⟩
theorem sc_cost_of : FnScope ["phase", "used", "span", "free"] ["phase", "used", "span"] (defScope s_cost_of) := ⟨rfl, rfl, rfl, by decide +kernel, rfl, by decide +kernel, by decide +kernel⟩
theorem sc_left_when_moved : FnScope ["player", "phase", "used"] ["player", "phase", "used"] (defScope s_left_when_moved) := ⟨rfl, rfl, rfl, by decide +kernel, rfl, by decide +kernel, by decide +kernel⟩
theorem sc_Player_init : FnScope ["self", "phase"] ["self", "phase"] (defScope s_Player_init) := ⟨rfl, rfl, rfl, by decide +kernel, rfl, by decide +kernel, by decide +kernel⟩
theorem sc_Player_spend : FnScope ["self", "cost", "inc", "rest", "spent"] ["self", "cost", "inc"] (defScope s_Player_spend) := ⟨rfl, rfl, rfl, by decide +kernel, rfl, by decide +kernel, by decide +kernel⟩
theorem sc_Player_enter_next : FnScope ["self", "phase"] ["self", "phase"] (defScope s_Player_enter_next) := ⟨rfl, rfl, rfl, by decide +kernel, rfl, by decide +kernel, by decide +kernel⟩
theorem sc_Clocks_init : FnScope ["self"] ["self"] (defScope s_Clocks_init) := ⟨rfl, rfl, rfl, by decide +kernel, rfl, by decide +kernel, by decide +kernel⟩
theorem sc_Clocks_lay_out : FnScope ["self", "count", "phases", "k"] ["self", "count", "phases"] (defScope s_Clocks_lay_out) := ⟨rfl, rfl, rfl, by decide +kernel, rfl, by decide +kernel, by decide +kernel⟩
theorem sc_Clocks_start : FnScope ["self", "count", "numbers", "phases"] ["self", "count", "numbers"] (defScope s_Clocks_start) := ⟨rfl, rfl, rfl, by decide +kernel, rfl, by decide +kernel, by decide +kernel⟩
theorem sc_Clocks_go : FnScope ["self", "t"] ["self", "t"] (defScope s_Clocks_go) := ⟨rfl, rfl, rfl, by decide +kernel, rfl, by decide +kernel, by decide +kernel⟩
theorem sc_Clocks_now : FnScope ["self", "t"] ["self", "t"] (defScope s_Clocks_now) := ⟨rfl, rfl, rfl, by decide +kernel, rfl, by decide +kernel, by decide +kernel⟩
theorem sc_Clocks_press : FnScope ["self", "t", "reached"] ["self", "t"] (defScope s_Clocks_press) := ⟨rfl, rfl, rfl, by decide +kernel, rfl, by decide +kernel, by decide +kernel⟩
theorem sc_Clocks_pause : FnScope ["self", "t", "reached"] ["self", "t"] (defScope s_Clocks_pause) := ⟨rfl, rfl, rfl, by decide +kernel, rfl, by decide +kernel, by decide +kernel⟩
theorem sc_Clocks_set_left : FnScope ["self", "number", "amount", "player"] ["self", "number", "amount"] (defScope s_Clocks_set_left) := ⟨rfl, rfl, rfl, by decide +kernel, rfl, by decide +kernel, by decide +kernel⟩
theorem sc_Clocks_left : FnScope ["self", "number", "player", "moves"] ["self", "number"] (defScope s_Clocks_left) := ⟨rfl, rfl, rfl, by decide +kernel, rfl, by decide +kernel, by decide +kernel⟩
theorem sc_Clocks_state : FnScope ["self"] ["self"] (defScope s_Clocks_state) := ⟨rfl, rfl, rfl, by decide +kernel, rfl, by decide +kernel, by decide +kernel⟩
theorem sc_Clocks_reach : FnScope ["self", "t"] ["self", "t"] (defScope s_Clocks_reach) := ⟨rfl, rfl, rfl, by decide +kernel, rfl, by decide +kernel, by decide +kernel⟩
theorem sc_Clocks_has_player : FnScope ["self", "number"] ["self", "number"] (defScope s_Clocks_has_player) := ⟨rfl, rfl, rfl, by decide +kernel, rfl, by decide +kernel, by decide +kernel⟩
theorem sc_Clocks_may_become : FnScope ["self", "t"] ["self", "t"] (defScope s_Clocks_may_become) := ⟨rfl, rfl, rfl, by decide +kernel, rfl, by decide +kernel, by decide +kernel⟩
theorem sc_Clocks_verdict : FnScope ["self"] ["self"] (defScope s_Clocks_verdict) := ⟨rfl, rfl, rfl, by decide +kernel, rfl, by decide +kernel, by decide +kernel⟩
theorem sc_Clocks_next_number : FnScope ["self"] ["self"] (defScope s_Clocks_next_number) := ⟨rfl, rfl, rfl, by decide +kernel, rfl, by decide +kernel, by decide +kernel⟩
theorem sc_Clocks_run_until : FnScope ["self", "t", "span"] ["self", "t"] (defScope s_Clocks_run_until) := ⟨rfl, rfl, rfl, by decide +kernel, rfl, by decide +kernel, by decide +kernel⟩
theorem sc_Clocks_run : FnScope ["self", "span", "player", "phase", "spent", "receiver"] ["self", "span"] (defScope s_Clocks_run) := ⟨rfl, rfl, rfl, by decide +kernel, rfl, by decide +kernel, by decide +kernel⟩
theorem sc_Clocks_end_move : FnScope ["self", "player", "phase"] ["self"] (defScope s_Clocks_end_move) := ⟨rfl, rfl, rfl, by decide +kernel, rfl, by decide +kernel, by decide +kernel⟩
theorem sc_end_of_call : FnScope ["calls", "place"] ["calls", "place"] (defScope s_end_of_call) := ⟨rfl, rfl, rfl, by decide +kernel, rfl, by decide +kernel, by decide +kernel⟩
theorem sc_answer : FnScope ["clocks", "call"] ["clocks", "call"] (defScope s_answer) := ⟨rfl, rfl, rfl, by decide +kernel, rfl, by decide +kernel, by decide +kernel⟩
theorem sc_answers : FnScope ["calls", "clocks", "given", "place", "end", "answered"] ["calls"] (defScope s_answers) := ⟨rfl, rfl, rfl, by decide +kernel, rfl, by decide +kernel, by decide +kernel⟩
structure Txt (K : PySem.W.Frag) (mg : Str → Option Value) (C_Phase C_Player C_Clocks : Addr) : Prop where
  c_Phase : Cls K C_Phase
  c_Player : Cls K C_Player
  c_Clocks : Cls K C_Clocks
  n_Phase_moves : NoAttr K C_Phase "moves"
  n_Phase_main : NoAttr K C_Phase "main"
  n_Phase_kind : NoAttr K C_Phase "kind"
  n_Phase_inc : NoAttr K C_Phase "inc"
  n_Phase_periods : NoAttr K C_Phase "periods"
  n_Player_time_left : NoAttr K C_Player "time_left"
  n_Player_periods : NoAttr K C_Player "periods"
  n_Player_in_period : NoAttr K C_Player "in_period"
  n_Player_phase_number : NoAttr K C_Player "phase_number"
  n_Player_moves : NoAttr K C_Player "moves"
  n_Clocks_phases : NoAttr K C_Clocks "phases"
  n_Clocks_players : NoAttr K C_Clocks "players"
  n_Clocks_moment : NoAttr K C_Clocks "moment"
  n_Clocks_running : NoAttr K C_Clocks "running"
  n_Clocks_mover : NoAttr K C_Clocks "mover"
  n_Clocks_used : NoAttr K C_Clocks "used"
  n_Clocks_loser : NoAttr K C_Clocks "loser"
  g_ROW : ∃ t, mg "ROW" = some (.int (5) t)
  g_MOST_MOVES : ∃ t, mg "MOST_MOVES" = some (.int (200) t)
  g_HOURGLASS : ∃ t, mg "HOURGLASS" = some (.int (5) t)
  g_PLAIN : ∃ t, mg "PLAIN" = some (.int (0) t)
  g_MOST_INC : ∃ t, mg "MOST_INC" = some (.int (3600000) t)
  g_BY_PERIODS : ∃ t, mg "BY_PERIODS" = some (.int (4) t)
  g_MOST_PERIODS : ∃ t, mg "MOST_PERIODS" = some (.int (20) t)
  g_MOST_MAIN : ∃ t, mg "MOST_MAIN" = some (.int (86400000) t)
  g_MOST_PHASES : ∃ t, mg "MOST_PHASES" = some (.int (3) t)
  g_DELAYED : ∃ t, mg "DELAYED" = some (.int (3) t)
  g_ADDED : ∃ t, mg "ADDED" = some (.int (1) t)
  g_GIVEN_BACK : ∃ t, mg "GIVEN_BACK" = some (.int (2) t)
  g_FEWEST_PLAYERS : ∃ t, mg "FEWEST_PLAYERS" = some (.int (2) t)
  g_MOST_PLAYERS : ∃ t, mg "MOST_PLAYERS" = some (.int (4) t)
  g_WRONG : ∃ t, mg "WRONG" = some (.int (-22) t)
  g_ALREADY_FALLEN : ∃ t, mg "ALREADY_FALLEN" = some (.int (-41) t)
  g_GOES_ALREADY : ∃ t, mg "GOES_ALREADY" = some (.int (-17) t)
  g_MOST_SET : ∃ t, mg "MOST_SET" = some (.int (86400000) t)
  g_NOT_NOW : ∃ t, mg "NOT_NOW" = some (.int (-16) t)
  g_MOVES_TOLD_BELOW : ∃ t, mg "MOVES_TOLD_BELOW" = some (.int (4294967296) t)
  g_LATEST : ∃ t, mg "LATEST" = some (.int (1000000000) t)
  g_FALLEN : ∃ t, mg "FALLEN" = some (.int (100) t)
  g_MOST_LEFT : ∃ t, mg "MOST_LEFT" = some (.int (1000000000) t)
  g_START : ∃ t, mg "START" = some (.int (0) t)
  g_SET : ∃ t, mg "SET" = some (.int (5) t)
  g_STATE : ∃ t, mg "STATE" = some (.int (7) t)
  g_GO : ∃ t, mg "GO" = some (.int (1) t)
  g_NOW : ∃ t, mg "NOW" = some (.int (2) t)
  g_PRESS : ∃ t, mg "PRESS" = some (.int (3) t)
  g_PAUSE : ∃ t, mg "PAUSE" = some (.int (4) t)
  g_LEFT : ∃ t, mg "LEFT" = some (.int (6) t)
  b_range : mg "range" = none
  b_len : mg "len" = none
  b_enumerate : mg "enumerate" = none
  b_max : mg "max" = none
  b_min : mg "min" = none
/-! ### the data -/
def nV (n : Nat) : V := .int (n : Int)
def phF (q : Kyc.Phase) : List (Str × V) := [("moves", nV q.moves), ("main", nV q.main), ("kind", nV q.kind), ("inc", nV q.inc), ("periods", nV q.periods)]
def b2n (b : Bool) : Nat := if b then 1 else 0
def plF (p : Kyc.Player) : List (Str × V) := [("time_left", nV p.left), ("periods", nV p.more), ("in_period", nV (b2n p.inPeriod)), ("phase_number", nV p.phase), ("moves", nV p.done)]
def loV : Option Nat → V
  | none => .non
  | some k => nV k
def ckF (lp lq : Addr) (now : Nat) (on : Bool) (turn u : Nat) (lo : Option Nat) : List (Str × V) :=
  [("phases", .ref lp), ("players", .ref lq), ("moment", nV now), ("running", .bl on), ("mover", nV turn), ("used", nV u), ("loser", loV lo)]
theorem ph_moves (q : Kyc.Phase) : (phF q).lookup ("moves" : Str) = some (nV q.moves) := by kernel_rfl
theorem ph_main (q : Kyc.Phase) : (phF q).lookup ("main" : Str) = some (nV q.main) := by kernel_rfl
theorem ph_kind (q : Kyc.Phase) : (phF q).lookup ("kind" : Str) = some (nV q.kind) := by kernel_rfl
theorem ph_inc (q : Kyc.Phase) : (phF q).lookup ("inc" : Str) = some (nV q.inc) := by kernel_rfl
theorem ph_periods (q : Kyc.Phase) : (phF q).lookup ("periods" : Str) = some (nV q.periods) := by kernel_rfl
theorem pl_time_left (p : Kyc.Player) : (plF p).lookup ("time_left" : Str) = some (nV p.left) := by kernel_rfl
theorem pl_periods (p : Kyc.Player) : (plF p).lookup ("periods" : Str) = some (nV p.more) := by kernel_rfl
theorem pl_in_period (p : Kyc.Player) : (plF p).lookup ("in_period" : Str) = some (nV (b2n p.inPeriod)) := by kernel_rfl
theorem pl_phase_number (p : Kyc.Player) : (plF p).lookup ("phase_number" : Str) = some (nV p.phase) := by kernel_rfl
theorem pl_moves (p : Kyc.Player) : (plF p).lookup ("moves" : Str) = some (nV p.done) := by kernel_rfl
theorem pl_put_time_left (p : Kyc.Player) (n : Nat) : putF "time_left" (nV n) (plF p) = plF { p with left := n } := by kernel_rfl
theorem pl_put_periods (p : Kyc.Player) (n : Nat) : putF "periods" (nV n) (plF p) = plF { p with more := n } := by kernel_rfl
theorem pl_put_in_period (p : Kyc.Player) (b : Bool) : putF "in_period" (nV (b2n b)) (plF p) = plF { p with inPeriod := b } := by kernel_rfl
theorem pl_put_phase_number (p : Kyc.Player) (n : Nat) : putF "phase_number" (nV n) (plF p) = plF { p with phase := n } := by kernel_rfl
theorem pl_put_moves (p : Kyc.Player) (n : Nat) : putF "moves" (nV n) (plF p) = plF { p with done := n } := by kernel_rfl
section
variable {lp lq : Addr} {now turn u : Nat} {on : Bool} {lo : Option Nat}
theorem ck_phases : (ckF lp lq now on turn u lo).lookup ("phases" : Str) = some (.ref lp) := by kernel_rfl
theorem ck_players : (ckF lp lq now on turn u lo).lookup ("players" : Str) = some (.ref lq) := by kernel_rfl
theorem ck_moment : (ckF lp lq now on turn u lo).lookup ("moment" : Str) = some (nV now) := by kernel_rfl
theorem ck_running : (ckF lp lq now on turn u lo).lookup ("running" : Str) = some (.bl on) := by kernel_rfl
theorem ck_mover : (ckF lp lq now on turn u lo).lookup ("mover" : Str) = some (nV turn) := by kernel_rfl
theorem ck_used : (ckF lp lq now on turn u lo).lookup ("used" : Str) = some (nV u) := by kernel_rfl
theorem ck_loser : (ckF lp lq now on turn u lo).lookup ("loser" : Str) = some (loV lo) := by kernel_rfl
theorem ck_put_moment {n : Nat} : putF "moment" (nV n) (ckF lp lq now on turn u lo) = ckF lp lq n on turn u lo := by kernel_rfl
theorem ck_put_running {b : Bool} : putF "running" (.bl b) (ckF lp lq now on turn u lo) = ckF lp lq now b turn u lo := by kernel_rfl
theorem ck_put_mover {n : Nat} : putF "mover" (nV n) (ckF lp lq now on turn u lo) = ckF lp lq now on n u lo := by kernel_rfl
theorem ck_put_used {n : Nat} : putF "used" (nV n) (ckF lp lq now on turn u lo) = ckF lp lq now on turn n lo := by kernel_rfl
theorem ck_put_loser {o : Option Nat} : putF "loser" (loV o) (ckF lp lq now on turn u lo) = ckF lp lq now on turn u o := by kernel_rfl
theorem ck_put_phases {a : Addr} : putF "phases" (.ref a) (ckF lp lq now on turn u lo) = ckF a lq now on turn u lo := by kernel_rfl
theorem ck_put_players {a : Addr} : putF "players" (.ref a) (ckF lp lq now on turn u lo) = ckF lp a now on turn u lo := by kernel_rfl
end
/-- a phase, a player stand there -/
def PhAt (C : Addr) (H : Hp) (a : Addr) (q : Kyc.Phase) : Prop := ∃ dx, H a = some (.ins C dx (phF q))
def PlAt (C : Addr) (H : Hp) (a : Addr) (p : Kyc.Player) : Prop := ∃ dx, H a = some (.ins C dx (plF p))
end Pc

set_option Elab.async false
set_option linter.all false
set_option maxRecDepth 100000
set_option maxHeartbeats 2000000
namespace Pc
open PySem PySem.Spec PyProof.Rows L2
/-! ### helps -/
theorem q_bl {Q : VK} {H : Hp} {a b : Bool} (k : Q (.bl b) H) (e : a = b) : Q (.bl a) H := e ▸ k
theorem q_int {Q : VK} {H : Hp} {i j : Int} (k : Q (.int j) H) (e : i = j) : Q (.int i) H := e ▸ k
theorem q_nat {Q : VK} {H : Hp} {i : Int} {n : Nat} (k : Q (nV n) H) (e : i = (n : Int)) : Q (.int i) H := e ▸ k
theorem iteTb {b : Bool} {A B : Prop} (e : b = true) (h : A) : if b = true then A else B := by rw [if_pos e]; exact h
theorem iteFb {b : Bool} {A B : Prop} (e : b = false) (h : B) : if b = true then A else B := by rw [if_neg (by rw [e]; exact Bool.false_ne_true)]; exact h
theorem bnT {p : Prop} [Decidable p] (h : ¬ p) : (!decide p) = true := by rw [decide_eq_false h]; rfl
theorem bnF {p : Prop} [Decidable p] (h : p) : (!decide p) = false := by rw [decide_eq_true h]; rfl
theorem put_le {g : Str} {v : V} : ∀ {fs : List (Str × V)} {n : Nat}, fs.length ≤ n → (putF g v fs).length ≤ n + 1
  | [], n, _ => by show 1 ≤ n + 1; omega
  | (k, x) :: r, n, h => by
    show (if k = g then (k, v) :: r else (k, x) :: putF g v r).length ≤ n + 1
    rw [List.length_cons] at h
    split
    · rw [List.length_cons]; omega
    · rw [List.length_cons]
      have := put_le (g := g) (v := v) (fs := r) (n := n - 1) (by omega)
      omega
theorem for_enum {K : PySem.W.Frag} {a : Addr} {xs : List V} {g : TG} {tb : TS} {D : Ends} {σ : L2.St} {H : Hp} (Pv : Nat → L2.St → Hp → Prop) (h0 : Pv 0 σ H) (hl : ∀ i σ H, i ≤ xs.length → Pv i σ H → SqL K H a xs)
    (hs : ∀ (i : Nat) x (T : Addr) σ H, xs[i]? = some x → Pv i σ H → H T = none → g (.ref T) σ (upd H T (.tup [.int (i : Nat), x])) fun σ2 H2 => tb { D with nx := Pv (i + 1), ct := Pv (i + 1), bk := D.nx } σ2 H2) (hd : ∀ σ H, Pv xs.length σ H → D.nx σ H) :
    ∃ W : Nat → Nat → L2.St → Hp → Prop, (∃ m, W 0 m σ H) ∧ ∀ i m σ H, W i m σ H →
      ((Ite K a).stop i H ∧ D.nx σ H) ∨ ((Ite K a).go i H ∧ ∃ N : L2.St → Hp → Prop, (∀ σ' H', N σ' H' → ∃ m', m' < m ∧ W (i + 1) m' σ' H') ∧ ∀ x H', (Ite K a).yld i H x H' → g x σ H' fun σ2 H2 => tb { D with nx := N, ct := N, bk := D.nx } σ2 H2) := by
  refine ⟨fun i m σ H => m = xs.length - i ∧ i ≤ xs.length ∧ Pv i σ H, ⟨xs.length, by simp, Nat.zero_le _, h0⟩, ?_⟩
  rintro i m σ H ⟨rfl, hi, p⟩
  have q := hl i σ H hi p
  by_cases hlt : i < xs.length
  · refine .inr ⟨⟨xs, xs[i], q, by simp [hlt]⟩, Pv (i + 1), fun σ' H' p' => ⟨xs.length - (i + 1), by omega, rfl, hlt, p'⟩, fun v H' y => ?_⟩
    obtain ⟨T, x, e1, hT, e2, y⟩ := y
    subst e1 e2
    exact hs i x T σ H (y xs q) p hT
  · have e : i = xs.length := by omega
    subst e
    exact .inl ⟨⟨xs, q, Nat.le_refl _⟩, hd σ H p⟩
theorem lc_rangeC {lo c : Int} {n : Nat} {g : TG} {tt : TT} {te : TE} {vs : List Nat} {σ : L2.St} {H1 : Hp} {D : Addr} {Qd : Hp → Prop} (Pv : Nat → Hp → Prop) (h0 : Pv 0 (upd H1 D (.lst [])))
    (hs : ∀ (i : Nat) H, i < n → Pv i H → g (.int (lo + (i : Nat) * c)) (wipe σ vs) H fun σ2 H2 => wipe σ2 vs = wipe σ vs ∧ tt σ2 H2 fun b H3 =>
      if b = true then te σ2 H3 fun y H4 => ∃ acc, H4 D = some (.lst acc) ∧ acc.length < sizeLine ∧ Pv (i + 1) (upd H4 D (.lst (acc ++ [y]))) else Pv (i + 1) H3) (hd : ∀ H, Pv n H → Qd H) :
    ∃ W : Nat → Nat → Hp → Prop, (∃ m, W 0 m (upd H1 D (.lst []))) ∧ ∀ i m H, W i m H →
      ((Itc lo c n).stop i H ∧ Qd H) ∨ ((Itc lo c n).go i H ∧ ∃ Nx : Hp → Prop, (∀ H', Nx H' → ∃ m', m' < m ∧ W (i + 1) m' H') ∧ ∀ x H', (Itc lo c n).yld i H x H' → g x (wipe σ vs) H' fun σ2 H2 => wipe σ2 vs = wipe σ vs ∧ tt σ2 H2 fun b H3 =>
        if b = true then te σ2 H3 fun y H4 => ∃ acc, H4 D = some (.lst acc) ∧ acc.length < sizeLine ∧ Nx (upd H4 D (.lst (acc ++ [y]))) else Nx H3) := by
  refine ⟨fun i m H => m = n - i ∧ i ≤ n ∧ Pv i H, ⟨n, by simp, Nat.zero_le _, h0⟩, ?_⟩
  rintro i m H ⟨rfl, hi, p⟩
  by_cases hlt : i < n
  · refine .inr ⟨hlt, Pv (i + 1), fun H' p' => ⟨n - (i + 1), by omega, rfl, hlt, p'⟩, fun x H' y => ?_⟩
    obtain ⟨e, y⟩ := y
    subst e y
    exact hs i _ hlt p
  · have e : i = n := by omega
    subst e
    exact .inl ⟨Nat.le_refl _, hd H p⟩

section
variable {P : Program} {w : World} {K : PySem.W.Frag} {mg : Str → Option Value} {base : Heap} {C_Phase C_Player C_Clocks f : Addr} {fd : FuncData}
/-! ### Phase.__init__ -/
def spPhase_init (C : Addr) : Sp := fun vs H Q _ => ∃ (x dx r : Addr) (q : Kyc.Phase), vs = [.ref x, .ref r] ∧ H x = some (.ins C dx []) ∧ H r = some (.lst [nV q.moves, nV q.main, nV q.kind, nV q.inc, nV q.periods]) ∧
  ∀ H' : Hp, H' x = some (.ins C dx (phF q)) → (∀ b, b ≠ x → H' b = H b) → Q .non H'
theorem ok_Phase_init (F : Fun K "__init__" "Phase.__init__" s_Phase_init f fd) (T : Txt K mg C_Phase C_Player C_Clocks) : FnOk P w K mg base CX0 1 f fd ["self", "row"] (spPhase_init C_Phase) := by
  refine F.ok sc_Phase_init (fun vs H Q E h => ?_) (fun cdv A outer s H vs Q E hr h => ?_)
  · obtain ⟨x, dx, r, q, rfl, _⟩ := h
    rfl
  · obtain ⟨x, dx, r, q, rfl, hx, hq, k⟩ := h
    have ne : r ≠ x := ne_of hq hx (by intro z; cases z)
    refine ⟨_, (pss_cons (ps_fld (pv 0) (pe_ix (ix_listK (K := K)) (pv 1) pe_int (fun _ _ => rfl)) rfl)
        (pss_cons (ps_fld (pv 0) (pe_ix (ix_listK (K := K)) (pv 1) pe_int (fun _ _ => rfl)) rfl)
        (pss_cons (ps_fld (pv 0) (pe_ix (ix_listK (K := K)) (pv 1) pe_int (fun _ _ => rfl)) rfl)
        (pss_cons (ps_fld (pv 0) (pe_ix (ix_listK (K := K)) (pv 1) pe_int (fun _ _ => rfl)) rfl)
        (pss_one (ps_fld (pv 0) (pe_ix (ix_listK (K := K)) (pv 1) pe_int (fun _ _ => rfl)) rfl)))))), ?_⟩
    have l0 : ([] : List (Str × V)).length ≤ 0 := Nat.le_refl _
    have l1 := put_le (g := "moves") (v := nV q.moves) l0
    have l2 := put_le (g := "main") (v := nV q.main) l1
    have l3 := put_le (g := "kind") (v := nV q.kind) l2
    have l4 := put_le (g := "inc") (v := nV q.inc) l3
    refine ⟨_, rfl, r, _, 0, _, rfl, rfl, SqL.of hq, at_of (j := 0) rfl rfl, _, rfl, x, _, dx, _, rfl, hx, T.c_Phase, T.n_Phase_moves, Nat.lt_of_le_of_lt l0 (by decide), ?_⟩
    refine ⟨_, rfl, r, _, 1, _, rfl, rfl, SqL.of ((upd_ne ne).trans hq), at_of (j := 1) rfl rfl, _, rfl, x, _, dx, _, rfl, upd_same, T.c_Phase, T.n_Phase_main, Nat.lt_of_le_of_lt l1 (by decide), ?_⟩
    rw [upd_upd]
    refine ⟨_, rfl, r, _, 2, _, rfl, rfl, SqL.of ((upd_ne ne).trans hq), at_of (j := 2) rfl rfl, _, rfl, x, _, dx, _, rfl, upd_same, T.c_Phase, T.n_Phase_kind, Nat.lt_of_le_of_lt l2 (by decide), ?_⟩
    rw [upd_upd]
    refine ⟨_, rfl, r, _, 3, _, rfl, rfl, SqL.of ((upd_ne ne).trans hq), at_of (j := 3) rfl rfl, _, rfl, x, _, dx, _, rfl, upd_same, T.c_Phase, T.n_Phase_inc, Nat.lt_of_le_of_lt l3 (by decide), ?_⟩
    rw [upd_upd]
    refine ⟨_, rfl, r, _, 4, _, rfl, rfl, SqL.of ((upd_ne ne).trans hq), at_of (j := 4) rfl rfl, _, rfl, x, _, dx, _, rfl, upd_same, T.c_Phase, T.n_Phase_periods, Nat.lt_of_le_of_lt l4 (by decide), ?_⟩
    rw [upd_upd]
    refine k _ (upd_same.trans ?_) fun b hb => upd_ne hb
    kernel_rfl
/-! ### what holds of a phase -/
def movesHold (last : Bool) (q : Kyc.Phase) : Bool := if last = true then decide (q.moves = 0) else decide (1 ≤ q.moves) && decide (q.moves ≤ 200)
def kindHolds (only : Bool) (q : Kyc.Phase) : Bool := if q.kind = 5 then only else decide (q.kind < 5)
def incHolds (q : Kyc.Phase) : Bool := if q.kind = 0 ∨ q.kind = 5 then decide (q.inc = 0) else decide (1 ≤ q.inc) && decide (q.inc ≤ 3600000)
def periodsHold (q : Kyc.Phase) : Bool := if q.kind = 4 then decide (1 ≤ q.periods) && decide (q.periods ≤ 20) else decide (q.periods = 0)
theorem okPhase_is (only last : Bool) (q : Kyc.Phase) :
    Kyc.okPhase only last q = (movesHold last q && kindHolds only q && (decide (1 ≤ q.main) && decide (q.main ≤ 86400000)) && (incHolds q && periodsHold q)) := by
  unfold Kyc.okPhase movesHold kindHolds incHolds periodsHold
  rw [Bool.eq_iff_iff]
  simp only [Bool.and_eq_true, Bool.or_eq_true, decide_eq_true_eq]
  have e1 : (if last = true then q.moves == 0 else decide (1 ≤ q.moves) && decide (q.moves ≤ 200)) = (if last = true then decide (q.moves = 0) else decide (1 ≤ q.moves) && decide (q.moves ≤ 200)) := by
    split
    · rw [Bool.eq_iff_iff]; simp
    · rfl
  have e2 : (if q.kind = 0 ∨ q.kind = 5 then q.inc == 0 else decide (1 ≤ q.inc) && decide (q.inc ≤ 3600000)) = (if q.kind = 0 ∨ q.kind = 5 then decide (q.inc = 0) else decide (1 ≤ q.inc) && decide (q.inc ≤ 3600000)) := by
    split
    · rw [Bool.eq_iff_iff]; simp
    · rfl
  have e3 : (if q.kind = 4 then decide (1 ≤ q.periods) && decide (q.periods ≤ 20) else q.periods == 0) = (if q.kind = 4 then decide (1 ≤ q.periods) && decide (q.periods ≤ 20) else decide (q.periods = 0)) := by
    split
    · rfl
    · rw [Bool.eq_iff_iff]; simp
  rw [e1, e2, e3]
  by_cases h5 : q.kind = 5
  · rw [if_pos h5]
    have : q.kind ≤ 5 := by omega
    have hn : ¬ (q.kind != 5) = true := by rw [h5]; decide
    constructor
    · rintro ⟨⟨⟨⟨⟨⟨a, b⟩, c⟩, d⟩, e⟩, f⟩, g⟩
      exact ⟨⟨⟨a, g.resolve_left hn⟩, b, c⟩, e, f⟩
    · rintro ⟨⟨⟨a, g⟩, b, c⟩, e, f⟩
      exact ⟨⟨⟨⟨⟨⟨a, b⟩, c⟩, this⟩, e⟩, f⟩, .inr g⟩
  · rw [if_neg h5]
    have hn : (q.kind != 5) = true := by simp [h5]
    constructor
    · rintro ⟨⟨⟨⟨⟨⟨a, b⟩, c⟩, d⟩, e⟩, f⟩, g⟩
      exact ⟨⟨⟨a, decide_eq_true (by omega)⟩, b, c⟩, e, f⟩
    · rintro ⟨⟨⟨a, g⟩, b, c⟩, e, f⟩
      have g := of_decide_eq_true g
      exact ⟨⟨⟨⟨⟨⟨a, b⟩, c⟩, by omega⟩, e⟩, f⟩, .inl hn⟩
/-- lo ≤ n ≤ hi, told by Python's chain -/
theorem chain_nat {Q : VK} {H : Hp} {lo hi n : Nat} (k : Q (.bl (decide (lo ≤ n) && decide (n ≤ hi))) H) (h1 : ¬ ((lo : Int) ≤ (n : Int)) → True) : (if decide ((lo : Int) ≤ (n : Int)) = true then Q (.bl (decide ((n : Int) ≤ (hi : Int)))) H else Q (.bl false) H) := by
  by_cases h : lo ≤ n
  · rw [if_pos (decide_eq_true (by omega))]
    refine q_bl k ?_
    rw [decide_eq_true h, Bool.true_and]
    exact decide_eq_decide.mpr (by omega)
  · rw [if_neg (by rw [decide_eq_true_eq]; omega)]
    refine q_bl k ?_
    rw [decide_eq_false h, Bool.false_and]
def spMoves (C : Addr) : Sp := fun vs H Q _ => ∃ (a : Addr) (b : Bool) (q : Kyc.Phase), vs = [.ref a, .bl b] ∧ PhAt C H a q ∧ Q (.bl (movesHold b q)) H
theorem ok_moves_hold (F : Fun K "moves_hold" "moves_hold" s_moves_hold f fd) (T : Txt K mg C_Phase C_Player C_Clocks) : FnOk P w K mg base CX0 1 f fd ["phase", "is_last"] (spMoves C_Phase) := by
  refine F.ok sc_moves_hold (fun vs H Q E h => ?_) (fun cdv A outer s H vs Q E hr h => ?_)
  · obtain ⟨a, b, q, rfl, _⟩ := h
    rfl
  · obtain ⟨a, b, q, rfl, ⟨dx, ha⟩, k⟩ := h
    refine ⟨_, (pss_cons (ps_if (pt_val (pv 1)) (pss_one (ps_ret (pe_cmp (pc_eqI (pe_fldK (pv 0) rfl) pe_int)))) pss_nil)
        (pss_one (ps_ret (pe_chain op_le op_le pe_int (pe_fldK (pv 0) rfl) (pe_gi rfl T.g_MOST_MOVES))))), ?_⟩
    refine ⟨_, rfl, b, rfl, ?_⟩
    cases b with
    | true =>
      refine iteT ?_
      refine ⟨_, rfl, a, _, dx, _, _, rfl, ha, T.c_Phase, T.n_Phase_moves, ph_moves q, _, _, rfl, rfl, ?_⟩
      refine q_bl k ?_
      show _ = decide (q.moves = 0)
      exact decide_eq_decide.mpr (by omega)
    | false =>
      refine iteF ?_
      refine ⟨_, rfl, a, _, dx, _, _, rfl, ha, T.c_Phase, T.n_Phase_moves, ph_moves q, _, _, rfl, rfl, _, rfl, ?_⟩
      refine ite2 (fun h1 => ?_) fun h1 => ?_
      · have h1 := of_decide_eq_true h1
        refine ⟨_, _, rfl, rfl, q_bl k ?_⟩
        show _ = (decide (1 ≤ q.moves) && decide (q.moves ≤ 200))
        rw [decide_eq_true (show 1 ≤ q.moves by omega), Bool.true_and]
        exact decide_eq_decide.mpr (by omega)
      · have h1 : ¬ (1 : Int) ≤ (q.moves : Int) := fun z => h1 (decide_eq_true z)
        refine q_bl k ?_
        show _ = (decide (1 ≤ q.moves) && decide (q.moves ≤ 200))
        rw [decide_eq_false (show ¬ 1 ≤ q.moves by omega), Bool.false_and]
def spKind (C : Addr) : Sp := fun vs H Q _ => ∃ (a : Addr) (b : Bool) (q : Kyc.Phase), vs = [.ref a, .bl b] ∧ PhAt C H a q ∧ Q (.bl (kindHolds b q)) H
theorem ok_kind_holds (F : Fun K "kind_holds" "kind_holds" s_kind_holds f fd) (T : Txt K mg C_Phase C_Player C_Clocks) : FnOk P w K mg base CX0 1 f fd ["phase", "is_only"] (spKind C_Phase) := by
  refine F.ok sc_kind_holds (fun vs H Q E h => ?_) (fun cdv A outer s H vs Q E hr h => ?_)
  · obtain ⟨a, b, q, rfl, _⟩ := h
    rfl
  · obtain ⟨a, b, q, rfl, ⟨dx, ha⟩, k⟩ := h
    refine ⟨_, (pss_cons (ps_if (pt_cmp (pc_eqI (pe_fldK (pv 0) rfl) (pe_gi rfl T.g_HOURGLASS))) (pss_one (ps_ret (pv 1))) pss_nil)
        (pss_one (ps_ret (pe_chain op_le op_lt (pe_gi rfl T.g_PLAIN) (pe_fldK (pv 0) rfl) (pe_gi rfl T.g_HOURGLASS))))), ?_⟩
    refine ⟨_, rfl, a, _, dx, _, _, rfl, ha, T.c_Phase, T.n_Phase_kind, ph_kind q, _, _, rfl, rfl, _, rfl, ?_⟩
    refine ite2 (fun h1 => ?_) fun h1 => ?_
    · have h1 := of_decide_eq_true h1
      refine ⟨_, rfl, q_bl k ?_⟩
      unfold kindHolds
      rw [if_pos (show q.kind = 5 by omega)]
    · have h1 : ¬ (q.kind : Int) = 5 := fun z => h1 (decide_eq_true z)
      refine ⟨_, rfl, a, _, dx, _, _, rfl, ha, T.c_Phase, T.n_Phase_kind, ph_kind q, _, _, rfl, rfl, _, rfl, ?_⟩
      rw [if_pos (decide_eq_true (show (0 : Int) ≤ (q.kind : Int) by omega))]
      refine ⟨_, _, rfl, rfl, q_bl k ?_⟩
      unfold kindHolds
      rw [if_neg (show ¬ q.kind = 5 by omega)]
      exact decide_eq_decide.mpr (by omega)
def spInc (C : Addr) : Sp := fun vs H Q _ => ∃ (a : Addr) (q : Kyc.Phase), vs = [.ref a] ∧ PhAt C H a q ∧ Q (.bl (incHolds q)) H
theorem ok_inc_holds (F : Fun K "inc_holds" "inc_holds" s_inc_holds f fd) (T : Txt K mg C_Phase C_Player C_Clocks) : FnOk P w K mg base CX0 1 f fd ["phase"] (spInc C_Phase) := by
  refine F.ok sc_inc_holds (fun vs H Q E h => ?_) (fun cdv A outer s H vs Q E hr h => ?_)
  · obtain ⟨a, q, rfl, _⟩ := h
    rfl
  · obtain ⟨a, q, rfl, ⟨dx, ha⟩, k⟩ := h
    refine ⟨_, (pss_cons (ps_if (PW.pt (pw_or (pt_cmp (pc_eqI (pe_fldK (pv 0) rfl) (pe_gi rfl T.g_PLAIN))) (pw_or1 (pt_cmp (pc_eqI (pe_fldK (pv 0) rfl) (pe_gi rfl T.g_HOURGLASS)))))) (pss_one (ps_ret (pe_cmp (pc_eqI (pe_fldK (pv 0) rfl) pe_int)))) pss_nil)
        (pss_one (ps_ret (pe_chain op_le op_le pe_int (pe_fldK (pv 0) rfl) (pe_gi rfl T.g_MOST_INC))))), ?_⟩
    refine ⟨_, rfl, a, _, dx, _, _, rfl, ha, T.c_Phase, T.n_Phase_kind, ph_kind q, _, _, rfl, rfl, _, rfl, ?_⟩
    have yes : (q.kind = 0 ∨ q.kind = 5) → tRet (tEqI (tFld K (tVar 0) "inc") (tC (.int 0))) { nx := fun _ H' => Q .non H', rt := Q } (L2.start ["phase"] [.ref a]) H := fun h1 => by
      refine ⟨_, rfl, a, _, dx, _, _, rfl, ha, T.c_Phase, T.n_Phase_inc, ph_inc q, _, _, rfl, rfl, q_bl k ?_⟩
      unfold incHolds
      rw [if_pos h1]
      exact decide_eq_decide.mpr (by omega)
    refine ite2 (fun h1 => ?_) fun h1 => ?_
    · have h1 := of_decide_eq_true h1
      exact iteT (yes (.inl (by omega)))
    · have h1 : ¬ (q.kind : Int) = 0 := fun z => h1 (decide_eq_true z)
      refine ⟨_, rfl, a, _, dx, _, _, rfl, ha, T.c_Phase, T.n_Phase_kind, ph_kind q, _, _, rfl, rfl, _, rfl, ?_⟩
      refine ite2 (fun h2 => ?_) fun h2 => ?_
      · have h2 := of_decide_eq_true h2
        exact yes (.inr (by omega))
      · have h2 : ¬ (q.kind : Int) = 5 := fun z => h2 (decide_eq_true z)
        refine ⟨_, rfl, a, _, dx, _, _, rfl, ha, T.c_Phase, T.n_Phase_inc, ph_inc q, _, _, rfl, rfl, _, rfl, ?_⟩
        have e : incHolds q = (decide (1 ≤ q.inc) && decide (q.inc ≤ 3600000)) := by
          unfold incHolds
          rw [if_neg (by omega)]
        refine ite2 (fun h3 => ?_) fun h3 => ?_
        · have h3 := of_decide_eq_true h3
          refine ⟨_, _, rfl, rfl, q_bl k ?_⟩
          rw [e, decide_eq_true (show 1 ≤ q.inc by omega), Bool.true_and]
          exact decide_eq_decide.mpr (by omega)
        · have h3 : ¬ (1 : Int) ≤ (q.inc : Int) := fun z => h3 (decide_eq_true z)
          refine q_bl k ?_
          rw [e, decide_eq_false (show ¬ 1 ≤ q.inc by omega), Bool.false_and]
def spPeriods (C : Addr) : Sp := fun vs H Q _ => ∃ (a : Addr) (q : Kyc.Phase), vs = [.ref a] ∧ PhAt C H a q ∧ Q (.bl (periodsHold q)) H
theorem ok_periods_hold (F : Fun K "periods_hold" "periods_hold" s_periods_hold f fd) (T : Txt K mg C_Phase C_Player C_Clocks) : FnOk P w K mg base CX0 1 f fd ["phase"] (spPeriods C_Phase) := by
  refine F.ok sc_periods_hold (fun vs H Q E h => ?_) (fun cdv A outer s H vs Q E hr h => ?_)
  · obtain ⟨a, q, rfl, _⟩ := h
    rfl
  · obtain ⟨a, q, rfl, ⟨dx, ha⟩, k⟩ := h
    refine ⟨_, (pss_cons (ps_if (pt_cmp (pc_eqI (pe_fldK (pv 0) rfl) (pe_gi rfl T.g_BY_PERIODS))) (pss_one (ps_ret (pe_chain op_le op_le pe_int (pe_fldK (pv 0) rfl) (pe_gi rfl T.g_MOST_PERIODS)))) pss_nil)
        (pss_one (ps_ret (pe_cmp (pc_eqI (pe_fldK (pv 0) rfl) pe_int))))), ?_⟩
    refine ⟨_, rfl, a, _, dx, _, _, rfl, ha, T.c_Phase, T.n_Phase_kind, ph_kind q, _, _, rfl, rfl, _, rfl, ?_⟩
    refine ite2 (fun h1 => ?_) fun h1 => ?_
    · have h1 := of_decide_eq_true h1
      refine ⟨_, rfl, a, _, dx, _, _, rfl, ha, T.c_Phase, T.n_Phase_periods, ph_periods q, _, _, rfl, rfl, _, rfl, ?_⟩
      have e : periodsHold q = (decide (1 ≤ q.periods) && decide (q.periods ≤ 20)) := by
        unfold periodsHold
        rw [if_pos (by omega)]
      refine ite2 (fun h3 => ?_) fun h3 => ?_
      · have h3 := of_decide_eq_true h3
        refine ⟨_, _, rfl, rfl, q_bl k ?_⟩
        rw [e, decide_eq_true (show 1 ≤ q.periods by omega), Bool.true_and]
        exact decide_eq_decide.mpr (by omega)
      · have h3 : ¬ (1 : Int) ≤ (q.periods : Int) := fun z => h3 (decide_eq_true z)
        refine q_bl k ?_
        rw [e, decide_eq_false (show ¬ 1 ≤ q.periods by omega), Bool.false_and]
    · have h1 : ¬ (q.kind : Int) = 4 := fun z => h1 (decide_eq_true z)
      refine ⟨_, rfl, a, _, dx, _, _, rfl, ha, T.c_Phase, T.n_Phase_periods, ph_periods q, _, _, rfl, rfl, q_bl k ?_⟩
      unfold periodsHold
      rw [if_neg (show ¬ q.kind = 4 by omega)]
      exact decide_eq_decide.mpr (by omega)
def spPhase_holds (C : Addr) : Sp := fun vs H Q _ => ∃ (a : Addr) (b c : Bool) (q : Kyc.Phase), vs = [.ref a, .bl b, .bl c] ∧ PhAt C H a q ∧ Q (.bl (Kyc.okPhase c b q)) H
theorem ok_phase_holds (F : Fun K "phase_holds" "phase_holds" s_phase_holds f fd) (T : Txt K mg C_Phase C_Player C_Clocks)
    (U_moves_hold : FnU P w K mg base 1 "moves_hold" ["phase", "is_last"] (spMoves C_Phase)) (U_kind_holds : FnU P w K mg base 1 "kind_holds" ["phase", "is_only"] (spKind C_Phase))
    (U_inc_holds : FnU P w K mg base 1 "inc_holds" ["phase"] (spInc C_Phase)) (U_periods_hold : FnU P w K mg base 1 "periods_hold" ["phase"] (spPeriods C_Phase)) :
    FnOk P w K mg base CX0 2 f fd ["phase", "is_last", "is_only"] (spPhase_holds C_Phase) := by
  refine F.ok sc_phase_holds (fun vs H Q E h => ?_) (fun cdv A outer s H vs Q E hr h => ?_)
  · obtain ⟨a, b, c, q, rfl, _⟩ := h
    rfl
  · obtain ⟨a, b, c, q, rfl, hq, k⟩ := h
    obtain ⟨dx, ha⟩ := hq
    have hq : PhAt C_Phase H a q := ⟨dx, ha⟩
    refine ⟨_, (pss_cons (ps_if (PW.pt (pw_or (pt_not (pt_val (pe_fn U_moves_hold (hr.mono (by decide)) rfl (pa_cons (pv 0) (pa_cons (pv 1) pa_nil))))) (pw_or1 (pt_not (pt_val (pe_fn U_kind_holds (hr.mono (by decide)) rfl (pa_cons (pv 0) (pa_cons (pv 2) pa_nil)))))))) (pss_one (ps_ret pe_bl)) pss_nil)
        (pss_cons (ps_if (pt_not (pt_chain op_le op_le pe_int (pe_fldK (pv 0) rfl) (pe_gi rfl T.g_MOST_MAIN))) (pss_one (ps_ret pe_bl)) pss_nil)
        (pss_one (ps_ret (pe_and (pe_fn U_inc_holds (hr.mono (by decide)) rfl (pa_cons (pv 0) pa_nil)) (pe_one (pe_fn U_periods_hold (hr.mono (by decide)) rfl (pa_cons (pv 0) pa_nil)))))))), ?_⟩
    rw [okPhase_is] at k
    refine ⟨_, rfl, _, rfl, a, b, q, rfl, hq, _, rfl, ?_⟩
    cases e1 : movesHold b q with
    | false =>
      refine iteT (iteT ?_)
      refine q_bl k ?_
      rw [e1]; rfl
    | true =>
      refine iteF ?_
      refine ⟨_, rfl, _, rfl, a, c, q, rfl, hq, _, rfl, ?_⟩
      cases e2 : kindHolds c q with
      | false =>
        refine iteT ?_
        refine q_bl k ?_
        rw [e1, e2]; rfl
      | true =>
        refine iteF ?_
        rw [e1, e2, Bool.true_and, Bool.true_and] at k
        refine ⟨_, rfl, a, _, dx, _, _, rfl, ha, T.c_Phase, T.n_Phase_main, ph_main q, _, _, rfl, rfl, _, rfl, ?_⟩
        have go : (1 ≤ q.main ∧ q.main ≤ 86400000) → tRet (tAndV (tCall (spInc C_Phase) [] E0 (tCons (tVar 0) tNil)) (tCall (spPeriods C_Phase) [] E0 (tCons (tVar 0) tNil))) { nx := fun _ H' => Q .non H', rt := Q } (L2.start ["phase", "is_last", "is_only"] [.ref a, .bl b, .bl c]) H := fun hm => by
          rw [decide_eq_true hm.1, decide_eq_true hm.2, Bool.true_and, Bool.true_and] at k
          refine ⟨_, rfl, a, q, rfl, hq, _, rfl, ?_⟩
          cases e3 : incHolds q with
          | false =>
            refine iteF (q_bl k ?_)
            rw [e3]; rfl
          | true =>
            rw [e3, Bool.true_and] at k
            exact iteT ⟨_, rfl, a, q, rfl, hq, k⟩
        refine ite2 (fun h3 => ?_) fun h3 => ?_
        · have h3 := of_decide_eq_true h3
          refine ⟨_, _, rfl, rfl, _, rfl, ?_⟩
          cases e4 : decide ((q.main : Int) ≤ 86400000) with
          | true =>
            have e4 := of_decide_eq_true e4
            exact iteF (go ⟨by omega, by omega⟩)
          | false =>
            have e4 := of_decide_eq_false e4
            refine iteT (q_bl k ?_)
            rw [decide_eq_false (show ¬ q.main ≤ 86400000 by omega), Bool.and_false, Bool.false_and]
        · have h3 : ¬ (1 : Int) ≤ (q.main : Int) := fun z => h3 (decide_eq_true z)
          refine ⟨_, rfl, iteT (q_bl k ?_)⟩
          rw [decide_eq_false (show ¬ 1 ≤ q.main by omega), Bool.false_and, Bool.false_and]
end
end Pc

set_option Elab.async false
set_option linter.all false
set_option maxRecDepth 100000
set_option maxHeartbeats 2000000
namespace Pc
open PySem PySem.Spec PyProof.Rows L2
theorem same_new {H : Hp} {a : Addr} {o : HO} (h : H a = Option.none) : Same H (upd H a o) := fun b u e => by
  rw [upd_ne (ne_of_none e h)]; exact e
theorem some_ne {H H' : Hp} (s : Same H H') {a b : Addr} {o : HO} (h : H a = some o) (h' : H' b = Option.none) : a ≠ b := ne_of_none (s _ _ h) h'
/-- the list at l holds the phases at as, which are qs -/
structure PhsAt (C : Addr) (H : Hp) (l : Addr) (as : List Addr) (qs : List Kyc.Phase) : Prop where
  lst : H l = some (.lst (as.map V.ref))
  len : as.length = qs.length
  at_ : ∀ (i : Nat) (a : Addr) (q : Kyc.Phase), as[i]? = some a → qs[i]? = some q → PhAt C H a q
theorem PhsAt.same {C : Addr} {H H' : Hp} {l : Addr} {as : List Addr} {qs : List Kyc.Phase} (p : PhsAt C H l as qs) (s : Same H H') : PhsAt C H' l as qs :=
  ⟨s _ _ p.lst, p.len, fun i a q h1 h2 => let ⟨dx, e⟩ := p.at_ i a q h1 h2; ⟨dx, s _ _ e⟩⟩
theorem get_map_ref {as : List Addr} {i : Nat} {x : V} (h : (as.map V.ref)[i]? = some x) : ∃ a, as[i]? = some a ∧ x = V.ref a := by
  rw [List.getElem?_map] at h
  cases e : as[i]? with
  | none => rw [e] at h; cases h
  | some a => rw [e] at h; exact ⟨a, rfl, (Option.some.inj h).symm⟩
theorem get_of_len {α β : Type} {l : List α} {m : List β} (e : l.length = m.length) {i : Nat} {a : α} (h : l[i]? = some a) : ∃ b, m[i]? = some b := by
  have := (List.getElem?_eq_some_iff.mp h).1
  exact ⟨_, List.getElem?_eq_getElem (by omega)⟩
/-! ### phases_of -/
theorem phasesOf_cut : ∀ (i : Nat) (ns : List Int), 5 * i + 5 ≤ ns.length → (∀ x ∈ ns, 0 ≤ x) → ∃ q : Kyc.Phase, (KycNeutral.phasesOf ns)[i]? = some q ∧ ((ns.drop (5 * i)).take 5).map V.int = [nV q.moves, nV q.main, nV q.kind, nV q.inc, nV q.periods]
  | 0, ns, h, h0 => by
    match ns, h, h0 with
    | a :: b :: c :: d :: e :: l, _, h0 =>
      refine ⟨⟨a.toNat, b.toNat, c.toNat, d.toNat, e.toNat⟩, rfl, ?_⟩
      have ha := h0 a (by simp)
      have hb := h0 b (by simp)
      have hc := h0 c (by simp)
      have hd := h0 d (by simp)
      have he := h0 e (by simp)
      show [V.int a, V.int b, V.int c, V.int d, V.int e] = [V.int ((a.toNat : Nat) : Int), V.int ((b.toNat : Nat) : Int), V.int ((c.toNat : Nat) : Int), V.int ((d.toNat : Nat) : Int), V.int ((e.toNat : Nat) : Int)]
      rw [Int.toNat_of_nonneg ha, Int.toNat_of_nonneg hb, Int.toNat_of_nonneg hc, Int.toNat_of_nonneg hd, Int.toNat_of_nonneg he]
  | i + 1, ns, h, h0 => by
    match ns, h, h0 with
    | a :: b :: c :: d :: e :: l, h, h0 =>
      have ih := phasesOf_cut i l (by simp at h; omega) fun x hx => h0 x (by simp [hx])
      obtain ⟨q, h1, h2⟩ := ih
      refine ⟨q, ?_, ?_⟩
      · show (_ :: KycNeutral.phasesOf l)[i + 1]? = some q
        rw [List.getElem?_cons_succ]; exact h1
      · have e5 : 5 * (i + 1) = 5 * i + 1 + 1 + 1 + 1 + 1 := by omega
        rw [e5]
        exact h2
theorem phasesOf_len : ∀ (m : Nat) (ns : List Int), ns.length = 5 * m → (KycNeutral.phasesOf ns).length = m
  | 0, ns, h => by
    have e : ns = [] := List.length_eq_zero_iff.mp (by omega)
    subst e; rfl
  | m + 1, ns, h => by
    match ns, h with
    | a :: b :: c :: d :: e :: l, h =>
      show (_ :: KycNeutral.phasesOf l).length = m + 1
      rw [List.length_cons, phasesOf_len m l (by simp at h; omega)]
theorem rgC5 {m : Nat} (h : m ≤ 8) : RgC 0 ((5 * m : Nat) : Int) 5 m := by
  have : m = 0 ∨ m = 1 ∨ m = 2 ∨ m = 3 ∨ m = 4 ∨ m = 5 ∨ m = 6 ∨ m = 7 ∨ m = 8 := by omega
  rcases this with rfl | rfl | rfl | rfl | rfl | rfl | rfl | rfl | rfl <;> exact ⟨by decide, by decide, by decide +kernel, by decide +kernel⟩
section
variable {P : Program} {w : World} {K : PySem.W.Frag} {mg : Str → Option Value} {base : Heap} {C_Phase C_Player C_Clocks f : Addr} {fd : FuncData}
def spPhases_of (C : Addr) : Sp := fun vs H Q _ => ∃ (l : Addr) (ns : List Int) (m : Nat), vs = [.ref l] ∧ H l = some (.lst (ns.map V.int)) ∧ ns.length = 5 * m ∧ m ≤ 8 ∧ (∀ x ∈ ns, 0 ≤ x) ∧
  ∀ (H' : Hp) (D : Addr) (as : List Addr), Same H H' → PhsAt C H' D as (KycNeutral.phasesOf ns) → Q (.ref D) H'
theorem ok_phases_of (F : Fun K "phases_of" "phases_of" s_phases_of f fd) (T : Txt K mg C_Phase C_Player C_Clocks)
    (U_Phase_init : MkU P w K mg base 1 C_Phase "Phase" ["self", "row"] (spPhase_init C_Phase)) :
    FnOk P w K mg base CX0 3 f fd ["numbers"] (spPhases_of C_Phase) := by
  refine F.ok sc_phases_of (fun vs H Q E h => ?_) (fun cdv A outer s H vs Q E hr h => ?_)
  · obtain ⟨l, ns, m, rfl, _⟩ := h
    rfl
  · obtain ⟨l, ns, m, rfl, hl, hn, hm, h0, k⟩ := h
    refine ⟨_, (pss_one (ps_ret (pe_lc (own := [("k", 1)]) rfl sc_phases_of.nd (pi_range3 rfl T.b_range (pa_cons pe_int (pa_cons (pe_callB (call_len_seqK (K := K)) (by rfl) T.b_len PySem.boot_len (pa_cons (pv 0) pa_nil)) (pa_cons (pe_gi rfl T.g_ROW) pa_nil)))) (show BlkOk ["numbers", "k"] (defScope s_phases_of) _ _ from blkOk_by (by decide +kernel)) (fun _ _ _ _ _ => pg_name (i := 1) sc_phases_of.nd rfl (Or.inl rfl)) (fun _ _ _ _ _ => pts_nil) (fun _ _ _ _ _ => (pe_mk U_Phase_init (hr.mono (by decide)) rfl (pa_cons (pe_slice (sl_listK (K := K)) (pv 0) (po_some (pv 1)) (po_some (pe_add (pv 1) (pe_gi rfl T.g_ROW)))) pa_nil)))))), ?_⟩
    have hlen : ((ns.map V.int).length : Int) = ((5 * m : Nat) : Int) := by rw [List.length_map, hn]
    refine ⟨_, rfl, l, _, rfl, .inl (SqL.of hl), 0, _, 5, m, rfl, (by rw [hlen]; exact rgC5 hm), ?_⟩
    intro D hD
    refine lc_rangeC (Pv := fun i H' => ∃ as : List Addr, H' D = some (.lst (as.map V.ref)) ∧ as.length = i ∧ (∀ (j : Nat) (a : Addr) (q : Kyc.Phase), as[j]? = some a → (KycNeutral.phasesOf ns)[j]? = some q → PhAt C_Phase H' a q) ∧ Same H H') ?_ ?_ ?_
    · exact ⟨[], upd_same, rfl, fun j a q h => by simp at h, same_new hD⟩
    · rintro i H1 hi ⟨as, hD1, hlen1, hq1, s1⟩
      obtain ⟨q, hq, hcut⟩ := phasesOf_cut i ns (by omega) h0
      refine ⟨rfl, ?_⟩
      unfold tYes
      refine iteT ?_
      refine ⟨_, rfl, _, rfl, _, rfl, _, rfl, _, _, rfl, rfl, _, rfl, l, _, rfl, SqL.of (s1 _ _ hl), fun p hp => ?_⟩
      intro x dx nx nd ne
      have hcv : cutV (ns.map V.int) (some (0 + (i : Nat) * 5)) (some (0 + (i : Nat) * 5 + 5)) = [nV q.moves, nV q.main, nV q.kind, nV q.inc, nV q.periods] := by
        have e1 : (0 + ((i : Nat) : Int) * 5) = ((5 * i : Nat) : Int) := by omega
        have e2 : (((5 * i : Nat) : Int) + 5) = ((5 * i + 5 : Nat) : Int) := by omega
        unfold cutV
        rw [e1, e2, HT.sIx_nat, HT.sIx_nat, List.length_map, hn, ← hcut, List.map_take, List.map_drop]
        have e3 : min (5 * i) (5 * m) = 5 * i := by omega
        have e4 : min (5 * i + 5) (5 * m) - 5 * i = 5 := by omega
        rw [e3, e4]
      have px : p ≠ x := ne_of_none (o := .lst _) upd_same nx
      have pd : p ≠ dx := ne_of_none (o := .lst _) upd_same nd
      refine ⟨x, dx, p, q, rfl, upd_same, ?_, fun H2 h2 k2 => ⟨rfl, ?_⟩⟩
      · rw [upd_ne px, upd_ne pd, upd_same]
        exact congrArg (fun z => some (HO.lst z)) hcv
      · have sp1 : Same H1 (upd H1 p (.lst (cutV (ns.map V.int) (some (0 + (i : Nat) * 5)) (some (0 + (i : Nat) * 5 + 5))))) := same_new hp
        have s2 : Same H1 H2 := fun b o e => by
          have e' := sp1 b o e
          rw [k2 b (ne_of_none e' nx), upd_ne (ne_of_none e' nx), upd_ne (ne_of_none e' nd)]
          exact e'
        have hD2 := s2 _ _ hD1
        have hDn : ∀ b o, H b = some o → b ≠ D := fun b o e => ne_of_none e hD
        refine ⟨as.map V.ref, hD2, ?_, as ++ [x], ?_, ?_, ?_, ?_⟩
        · rw [List.length_map, hlen1]
          exact Nat.lt_of_lt_of_le hi (Nat.le_trans hm (by decide))
        · rw [upd_same, List.map_append]; rfl
        · rw [List.length_append, hlen1]; rfl
        · intro j a q' ha hq'
          by_cases hj : j < as.length
          · rw [List.getElem?_append_left hj] at ha
            obtain ⟨dy, e⟩ := hq1 j a q' ha hq'
            have e := s2 _ _ e
            exact ⟨dy, by rw [upd_ne (ne_of e hD2 (by intro z; cases z))]; exact e⟩
          · have hj' : j < (as ++ [x]).length := (List.getElem?_eq_some_iff.mp ha).1
            rw [List.length_append, List.length_singleton] at hj'
            have ej : j = i := by omega
            subst ej
            rw [hq] at hq'
            cases hq'
            rw [List.getElem?_append_right (by omega), hlen1, Nat.sub_self] at ha
            cases ha
            exact ⟨dx, by rw [upd_ne (ne_of h2 hD2 (by intro z; cases z))]; exact h2⟩
        · intro b o e
          rw [upd_ne (hDn b o e)]
          exact s2 _ _ (s1 _ _ e)
    · rintro H1 ⟨as, hD1, hlen1, hq1, s1⟩
      exact k H1 D as s1 ⟨hD1, by rw [hlen1, phasesOf_len m ns hn], hq1⟩
/-! ### phases_hold -/
def holdsAll (qs : List Kyc.Phase) : Bool := decide (1 ≤ qs.length) && decide (qs.length ≤ 3) && Kyc.okPhases (qs.length == 1) qs
def spPhases_hold (C : Addr) : Sp := fun vs H Q _ => ∃ (l : Addr) (as : List Addr) (qs : List Kyc.Phase), vs = [.ref l] ∧ PhsAt C H l as qs ∧ ∀ H' : Hp, Same H H' → Q (.bl (holdsAll qs)) H'
theorem okPhases_drop {a : Bool} {qs : List Kyc.Phase} {i : Nat} {q : Kyc.Phase} (h : qs[i]? = some q) : Kyc.okPhases a (qs.drop i) = (Kyc.okPhase a (decide ((i : Int) = (qs.length : Int) - 1)) q && Kyc.okPhases a (qs.drop (i + 1))) := by
  have hi := (List.getElem?_eq_some_iff.mp h).1
  have e : qs.drop i = q :: qs.drop (i + 1) := by
    rw [List.drop_eq_getElem_cons hi]
    rw [(List.getElem?_eq_some_iff.mp h).2]
  rw [e]
  show (Kyc.okPhase a (qs.drop (i + 1)).isEmpty q && _) = _
  have e2 : (qs.drop (i + 1)).isEmpty = decide ((i : Int) = (qs.length : Int) - 1) := by
    rw [Bool.eq_iff_iff, List.isEmpty_iff, List.drop_eq_nil_iff, decide_eq_true_eq]
    omega
  rw [e2]
theorem ok_phases_hold (F : Fun K "phases_hold" "phases_hold" s_phases_hold f fd) (T : Txt K mg C_Phase C_Player C_Clocks)
    (U_phase_holds : FnU P w K mg base 2 "phase_holds" ["phase", "is_last", "is_only"] (spPhase_holds C_Phase)) :
    FnOk P w K mg base CX0 3 f fd ["phases"] (spPhases_hold C_Phase) := by
  refine F.ok sc_phases_hold (fun vs H Q E h => ?_) (fun cdv A outer s H vs Q E hr h => ?_)
  · obtain ⟨l, as, qs, rfl, _⟩ := h
    rfl
  · obtain ⟨l, as, qs, rfl, hp, k⟩ := h
    refine ⟨_, (pss_cons (ps_set (i := 1) sc_phases_hold.nd rfl (Or.inl rfl) (pe_callB (call_len_seqK (K := K)) (by rfl) T.b_len PySem.boot_len (pa_cons (pv 0) pa_nil)))
        (pss_cons (ps_if (pt_not (pt_chain op_le op_le pe_int (pv 1) (pe_gi rfl T.g_MOST_PHASES))) (pss_one (ps_ret pe_bl)) pss_nil)
        (pss_cons (ps_for PassesOwn.never rfl (pi_enum rfl T.b_enumerate (pa_cons (pv 0) pa_nil)) (pg_tup rfl (pgs_cons (pg_name (i := 2) sc_phases_hold.nd rfl (Or.inl rfl)) (pgs_cons (pg_name (i := 3) sc_phases_hold.nd rfl (Or.inl rfl)) pgs_nil))) (pss_one (ps_if (pt_not (pt_val (pe_fn U_phase_holds (hr.mono (by decide)) rfl (pa_cons (pv 3) (pa_cons (pe_cmp (pc_eqI (pv 2) (pe_sub (pv 1) pe_int))) (pa_cons (pe_cmp (pc_eqI (pv 1) pe_int)) pa_nil)))))) (pss_one (ps_ret pe_bl)) pss_nil)))
        (pss_one (ps_ret pe_bl))))), ?_⟩
    have hlen : (as.map V.ref).length = qs.length := by rw [List.length_map, hp.len]
    refine ⟨_, rfl, l, _, rfl, .inl (SqL.of hp.lst), ?_⟩
    rw [hlen]
    refine ⟨_, rfl, _, _, rfl, rfl, _, rfl, ?_⟩
    refine ite2 (fun h1 => ?_) fun h1 => ?_
    · have h1 := of_decide_eq_true h1
      refine ⟨_, _, rfl, rfl, _, rfl, ?_⟩
      cases e3 : decide ((qs.length : Int) ≤ 3) with
      | false =>
        have e3 := of_decide_eq_false e3
        refine iteT (q_bl (k H (Same.refl H)) ?_)
        unfold holdsAll
        rw [decide_eq_false (show ¬ qs.length ≤ 3 by omega), Bool.and_false, Bool.false_and]
      | true =>
        have e3 := of_decide_eq_true e3
        refine iteF ?_
        have eh : holdsAll qs = Kyc.okPhases (qs.length == 1) (qs.drop 0) := by
          unfold holdsAll
          rw [decide_eq_true (show qs.length ≤ 3 by omega), decide_eq_true (show 1 ≤ qs.length by omega), Bool.true_and, Bool.true_and, List.drop_zero]
        have e1 : decide ((qs.length : Int) = 1) = (qs.length == 1) := by
          rw [Bool.eq_iff_iff, decide_eq_true_eq, beq_iff_eq]; omega
        refine ⟨_, rfl, l, _, rfl, SqL.of hp.lst, for_enum (K := K) (a := l) (xs := as.map V.ref) (fun i σ H' => ∃ v2 v3 : Option V, σ = [some (.ref l), some (.int (qs.length : Nat)), v2, v3] ∧ Same H H' ∧ holdsAll qs = Kyc.okPhases (qs.length == 1) (qs.drop i)) ?_ ?_ ?_ ?_⟩
        · exact ⟨none, none, rfl, Same.refl H, eh⟩
        · rintro i σ H' _ ⟨_, _, _, s1, _⟩
          exact SqL.of (s1 _ _ hp.lst)
        · rintro i x T0 σ H1 hi ⟨v2, v3, rfl, s1, eq1⟩ hT
          obtain ⟨a, ha, rfl⟩ := get_map_ref hi
          obtain ⟨q, hq⟩ := get_of_len hp.len ha
          have s2 : Same H (upd H1 T0 (.tup [.int (i : Nat), .ref a])) := s1.trans (same_new hT)
          obtain ⟨dq, hpa⟩ := hp.at_ i a q ha hq
          refine ⟨T0, _, rfl, SqT.of upd_same, rfl, _, _, rfl, _, _, rfl, rfl, ?_⟩
          refine ⟨_, rfl, _, rfl, _, rfl, _, _, rfl, rfl, _, _, rfl, rfl, _, rfl, _, _, rfl, rfl, a, _, _, q, rfl, ⟨dq, s2 _ _ hpa⟩, _, rfl, ?_⟩
          rw [okPhases_drop hq] at eq1
          dsimp only
          rw [e1]
          cases e4 : Kyc.okPhase (qs.length == 1) (decide ((i : Int) = (qs.length : Int) - 1)) q with
          | false =>
            refine iteT (q_bl (k _ s2) ?_)
            rw [eq1, e4]; rfl
          | true =>
            refine iteF ⟨_, _, rfl, s2, ?_⟩
            rw [eq1, e4, Bool.true_and]
        · rintro σ H1 ⟨v2, v3, rfl, s1, eq1⟩
          refine q_bl (k _ s1) ?_
          rw [eq1, hlen, List.drop_length]; rfl
    · have h1 : ¬ (1 : Int) ≤ (qs.length : Int) := fun z => h1 (decide_eq_true z)
      refine ⟨_, rfl, iteT (q_bl (k H (Same.refl H)) ?_)⟩
      unfold holdsAll
      rw [decide_eq_false (show ¬ 1 ≤ qs.length by omega), Bool.false_and, Bool.false_and]
end
end Pc

set_option Elab.async false
set_option linter.all false
set_option maxRecDepth 100000
set_option maxHeartbeats 2000000
namespace Pc
open PySem PySem.Spec PyProof.Rows L2
theorem ph_ne_pl {H : Hp} {a x C C' dx dy : Addr} {q : Kyc.Phase} {p : Kyc.Player} (h1 : H a = some (.ins C dx (phF q))) (h2 : H x = some (.ins C' dy (plF p))) : a ≠ x :=
  ne_of h1 h2 (by
    intro z
    injection z with _ _ z
    have e := congrArg (fun l => l.lookup ("main" : Str)) z
    have e2 : (plF p).lookup ("main" : Str) = none := by kernel_rfl
    have e : (phF q).lookup ("main" : Str) = (plF p).lookup ("main" : Str) := e
    rw [ph_main, e2] at e
    cases e)
theorem pl_len (p : Kyc.Player) : (plF p).length < 1000 := by show 5 < 1000; decide
theorem ck_len {lp lq : Addr} {now turn u : Nat} {on : Bool} {lo : Option Nat} : (ckF lp lq now on turn u lo).length < 1000 := by show 7 < 1000; decide
section
variable {P : Program} {w : World} {K : PySem.W.Frag} {mg : Str → Option Value} {base : Heap} {C_Phase C_Player C_Clocks f : Addr} {fd : FuncData}
/-! ### cost_of -/
def spCost (C : Addr) : Sp := fun vs H Q _ => ∃ (a : Addr) (q : Kyc.Phase) (u d : Nat), vs = [.ref a, nV u, nV d] ∧ PhAt C H a q ∧ Q (nV (cost q u d)) H
theorem ok_cost_of (F : Fun K "cost_of" "cost_of" s_cost_of f fd) (T : Txt K mg C_Phase C_Player C_Clocks) : FnOk P w K mg base CX0 1 f fd ["phase", "used", "span"] (spCost C_Phase) := by
  refine F.ok sc_cost_of (fun vs H Q E h => ?_) (fun cdv A outer s H vs Q E hr h => ?_)
  · obtain ⟨a, q, u, d, rfl, _⟩ := h
    rfl
  · obtain ⟨a, q, u, d, rfl, ⟨dx, ha⟩, k⟩ := h
    refine ⟨_, (pss_cons (ps_if (pt_cmp (pc_neI (pe_fldK (pv 0) rfl) (pe_gi rfl T.g_DELAYED))) (pss_one (ps_ret (pv 2))) pss_nil)
        (pss_cons (ps_set (i := 3) sc_cost_of.nd rfl (Or.inl rfl) (pe_callB (call_max2 rfl) (by rfl) T.b_max PyProof.Rows.boot_max (pa_cons pe_int (pa_cons (pe_sub (pe_fldK (pv 0) rfl) (pv 1)) pa_nil))))
        (pss_one (ps_ret (pe_callB (call_max2 rfl) (by rfl) T.b_max PyProof.Rows.boot_max (pa_cons pe_int (pa_cons (pe_sub (pv 2) (pv 3)) pa_nil))))))), ?_⟩
    refine ⟨_, rfl, a, _, dx, _, _, rfl, ha, T.c_Phase, T.n_Phase_kind, ph_kind q, _, _, rfl, rfl, _, rfl, ?_⟩
    by_cases h3 : q.kind = 3
    · refine iteFb (bnF (show (q.kind : Int) = 3 by omega)) ?_
      refine ⟨_, rfl, a, _, dx, _, _, rfl, ha, T.c_Phase, T.n_Phase_inc, ph_inc q, _, rfl, _, _, rfl, rfl, _, _, rfl, ?_⟩
      refine ⟨_, rfl, _, rfl, _, _, rfl, rfl, _, _, rfl, ?_⟩
      refine q_nat k ?_
      unfold cost
      rw [if_pos h3]
      (repeat' split) <;> omega
    · refine iteTb (bnT (show ¬ (q.kind : Int) = 3 by omega)) ⟨_, rfl, ?_⟩
      unfold cost at k
      rw [if_neg h3] at k
      exact k
/-! ### left_when_moved -/
def spLwm (C C' : Addr) : Sp := fun vs H Q _ => ∃ (ap aq : Addr) (p : Kyc.Player) (q : Kyc.Phase) (u : Nat), vs = [.ref ap, .ref aq, nV u] ∧ PlAt C' H ap p ∧ PhAt C H aq q ∧ Q (nV (leftMoved q p u)) H
theorem ok_left_when_moved (F : Fun K "left_when_moved" "left_when_moved" s_left_when_moved f fd) (T : Txt K mg C_Phase C_Player C_Clocks) : FnOk P w K mg base CX0 1 f fd ["player", "phase", "used"] (spLwm C_Phase C_Player) := by
  refine F.ok sc_left_when_moved (fun vs H Q E h => ?_) (fun cdv A outer s H vs Q E hr h => ?_)
  · obtain ⟨ap, aq, p, q, u, rfl, _⟩ := h
    rfl
  · obtain ⟨ap, aq, p, q, u, rfl, ⟨dp, hp⟩, ⟨dq, hq⟩, k⟩ := h
    refine ⟨_, (pss_cons (ps_if (pt_cmp (pc_eqI (pe_fldK (pv 1) rfl) (pe_gi rfl T.g_ADDED))) (pss_one (ps_ret (pe_add (pe_fldK (pv 0) rfl) (pe_fldK (pv 1) rfl)))) pss_nil)
        (pss_cons (ps_if (pt_cmp (pc_eqI (pe_fldK (pv 1) rfl) (pe_gi rfl T.g_GIVEN_BACK))) (pss_one (ps_ret (pe_add (pe_fldK (pv 0) rfl) (pe_callB (call_min2 rfl) (by rfl) T.b_min PyProof.Rows.boot_min (pa_cons (pv 2) (pa_cons (pe_fldK (pv 1) rfl) pa_nil)))))) pss_nil)
        (pss_cons (ps_if (PW.pt (pw_and (pt_cmp (pc_eqI (pe_fldK (pv 1) rfl) (pe_gi rfl T.g_BY_PERIODS))) (pw_and1 (pt_cmp (pc_eqI (pe_fldK (pv 0) rfl) pe_int))))) (pss_one (ps_ret (pe_fldK (pv 1) rfl))) pss_nil)
        (pss_one (ps_ret (pe_fldK (pv 0) rfl)))))), ?_⟩
    refine ⟨_, rfl, aq, _, dq, _, _, rfl, hq, T.c_Phase, T.n_Phase_kind, ph_kind q, _, _, rfl, rfl, _, rfl, ?_⟩
    unfold leftMoved at k
    refine ite2 (fun h1 => ?_) fun h1 => ?_
    · have h1 := of_decide_eq_true h1
      rw [if_pos (show q.kind = 1 by omega)] at k
      exact ⟨_, rfl, ap, _, dp, _, _, rfl, hp, T.c_Player, T.n_Player_time_left, pl_time_left p, _, rfl, aq, _, dq, _, _, rfl, hq, T.c_Phase, T.n_Phase_inc, ph_inc q, _, _, rfl, rfl, q_nat k (by omega)⟩
    · have h1 : ¬ (q.kind : Int) = 1 := fun z => h1 (decide_eq_true z)
      rw [if_neg (show ¬ q.kind = 1 by omega)] at k
      refine ⟨_, rfl, aq, _, dq, _, _, rfl, hq, T.c_Phase, T.n_Phase_kind, ph_kind q, _, _, rfl, rfl, _, rfl, ?_⟩
      refine ite2 (fun h2 => ?_) fun h2 => ?_
      · have h2 := of_decide_eq_true h2
        rw [if_pos (show q.kind = 2 by omega)] at k
        refine ⟨_, rfl, ap, _, dp, _, _, rfl, hp, T.c_Player, T.n_Player_time_left, pl_time_left p, _, rfl, _, rfl, aq, _, dq, _, _, rfl, hq, T.c_Phase, T.n_Phase_inc, ph_inc q, _, _, rfl, _, _, rfl, rfl, q_nat k ?_⟩
        split <;> omega
      · have h2 : ¬ (q.kind : Int) = 2 := fun z => h2 (decide_eq_true z)
        rw [if_neg (show ¬ q.kind = 2 by omega)] at k
        have rest : ¬ (q.kind = 4 ∧ p.inPeriod = true) → tRet (tFld K (tVar 0) "time_left") { nx := fun _ H' => Q .non H', rt := Q } (L2.start ["player", "phase", "used"] [.ref ap, .ref aq, nV u]) H := fun h4 => by
          rw [if_neg h4] at k
          exact ⟨_, rfl, ap, _, dp, _, _, rfl, hp, T.c_Player, T.n_Player_time_left, pl_time_left p, k⟩
        refine ⟨_, rfl, aq, _, dq, _, _, rfl, hq, T.c_Phase, T.n_Phase_kind, ph_kind q, _, _, rfl, rfl, _, rfl, ?_⟩
        refine ite2 (fun h3 => ?_) fun h3 => ?_
        · have h3 := of_decide_eq_true h3
          refine ⟨_, rfl, ap, _, dp, _, _, rfl, hp, T.c_Player, T.n_Player_in_period, pl_in_period p, _, _, rfl, rfl, _, rfl, ?_⟩
          cases e : p.inPeriod with
          | true =>
            rw [if_pos ⟨show q.kind = 4 by omega, e⟩] at k
            refine iteT ?_
            exact ⟨_, rfl, aq, _, dq, _, _, rfl, hq, T.c_Phase, T.n_Phase_inc, ph_inc q, k⟩
          | false =>
            refine iteF (rest fun z => ?_)
            rw [e] at z
            exact Bool.false_ne_true z.2
        · have h3 : ¬ (q.kind : Int) = 4 := fun z => h3 (decide_eq_true z)
          exact iteF (rest fun z => by omega)
/-! ### Player -/
def spPlayer_init (C C' : Addr) : Sp := fun vs H Q _ => ∃ (x dx a : Addr) (q : Kyc.Phase), vs = [.ref x, .ref a] ∧ H x = some (.ins C' dx []) ∧ PhAt C H a q ∧
  ∀ H' : Hp, H' x = some (.ins C' dx (plF ⟨0, 0, q.main, q.periods, false, 0⟩)) → (∀ b, b ≠ x → H' b = H b) → Q .non H'
theorem ok_Player_init (F : Fun K "__init__" "Player.__init__" s_Player_init f fd) (T : Txt K mg C_Phase C_Player C_Clocks) : FnOk P w K mg base CX0 1 f fd ["self", "phase"] (spPlayer_init C_Phase C_Player) := by
  refine F.ok sc_Player_init (fun vs H Q E h => ?_) (fun cdv A outer s H vs Q E hr h => ?_)
  · obtain ⟨x, dx, a, q, rfl, _⟩ := h
    rfl
  · obtain ⟨x, dx, a, q, rfl, hx, ⟨da, ha⟩, k⟩ := h
    have ne : a ≠ x := ne_of ha hx (by
      intro z
      injection z with _ _ z
      cases z)
    refine ⟨_, (pss_cons (ps_fld (pv 0) (pe_fldK (pv 1) rfl) rfl)
        (pss_cons (ps_fld (pv 0) (pe_fldK (pv 1) rfl) rfl)
        (pss_cons (ps_fld (pv 0) pe_int rfl)
        (pss_cons (ps_fld (pv 0) pe_int rfl)
        (pss_one (ps_fld (pv 0) pe_int rfl)))))), ?_⟩
    have l0 : ([] : List (Str × V)).length ≤ 0 := Nat.le_refl _
    refine ⟨_, rfl, a, _, da, _, _, rfl, ha, T.c_Phase, T.n_Phase_main, ph_main q, _, rfl, x, _, dx, _, rfl, hx, T.c_Player, T.n_Player_time_left, Nat.lt_of_le_of_lt l0 (by decide), ?_⟩
    have l1 := put_le (g := "time_left") (v := nV q.main) l0
    refine ⟨_, rfl, a, _, da, _, _, rfl, ((upd_ne ne).trans ha), T.c_Phase, T.n_Phase_periods, ph_periods q, _, rfl, x, _, dx, _, rfl, upd_same, T.c_Player, T.n_Player_periods, Nat.lt_of_le_of_lt l1 (by decide), ?_⟩
    rw [upd_upd]
    have l2 := put_le (g := "periods") (v := nV q.periods) l1
    refine ⟨_, rfl, x, _, dx, _, rfl, upd_same, T.c_Player, T.n_Player_in_period, Nat.lt_of_le_of_lt l2 (by decide), ?_⟩
    rw [upd_upd]
    have l3 := put_le (g := "in_period") (v := V.int 0) l2
    refine ⟨_, rfl, x, _, dx, _, rfl, upd_same, T.c_Player, T.n_Player_phase_number, Nat.lt_of_le_of_lt l3 (by decide), ?_⟩
    rw [upd_upd]
    have l4 := put_le (g := "phase_number") (v := V.int 0) l3
    refine ⟨_, rfl, x, _, dx, _, rfl, upd_same, T.c_Player, T.n_Player_moves, Nat.lt_of_le_of_lt l4 (by decide), ?_⟩
    rw [upd_upd]
    refine k _ (upd_same.trans ?_) fun b hb => upd_ne hb
    kernel_rfl
def spSpend (C' : Addr) : Sp := fun vs H Q _ => ∃ (x dx : Addr) (p : Kyc.Player) (c i : Nat), vs = [.ref x, nV c, nV i] ∧ H x = some (.ins C' dx (plF p)) ∧
  ∀ H' : Hp, H' x = some (.ins C' dx (plF (spentP i p c))) → (∀ b, b ≠ x → H' b = H b) → Q (nV (spentN i p c)) H'
theorem ok_Player_spend (F : Fun K "spend" "Player.spend" s_Player_spend f fd) (T : Txt K mg C_Phase C_Player C_Clocks) : FnOk P w K mg base CX0 1 f fd ["self", "cost", "inc"] (spSpend C_Player) := by
  refine F.ok sc_Player_spend (fun vs H Q E h => ?_) (fun cdv A outer s H vs Q E hr h => ?_)
  · obtain ⟨x, dx, p, c, i, rfl, _⟩ := h
    rfl
  · obtain ⟨x, dx, p, c, i, rfl, hx, k⟩ := h
    refine ⟨_, (pss_cons (ps_set (i := 3) sc_Player_spend.nd rfl (Or.inl rfl) (pv 1))
        (pss_cons (ps_while PassesOwn.never (PW.pt (pw_and (pt_cmp (pc_gt (pe_fldK (pv 0) rfl) pe_int)) (pw_and1 (pt_cmp (pc_ge (pv 3) (pe_fldK (pv 0) rfl)))))) (pss_cons (ps_aug (i := 3) sc_Player_spend.nd rfl (Or.inl rfl) (pe_fldK (pv 0) rfl) ip_sub)
          (pss_cons (ps_fldaug (pv 0) pe_int in_sub)
          (pss_cons (ps_fld (pv 0) (pv 2) rfl)
          (pss_one (ps_fld (pv 0) pe_int rfl))))))
        (pss_cons (ps_set (i := 4) sc_Player_spend.nd rfl (Or.inl rfl) (pe_callB (call_min2 rfl) (by rfl) T.b_min PyProof.Rows.boot_min (pa_cons (pv 3) (pa_cons (pe_fldK (pv 0) rfl) pa_nil))))
        (pss_cons (ps_fldaug (pv 0) (pv 4) in_sub)
        (pss_one (ps_ret (pv 4))))))), ?_⟩
    refine ⟨_, rfl, ?_⟩
    obtain ⟨W, hW⟩ : ∃ W : Nat → L2.St → Hp → Prop, W = fun m σ H' => ∃ (p' : Kyc.Player) (r : Nat), σ = [some (.ref x), some (nV c), some (nV i), some (nV r), none] ∧ H' x = some (.ins C_Player dx (plF p')) ∧ (∀ b, b ≠ x → H' b = H b) ∧
      spentP i p' r = spentP i p c ∧ spentN i p' r = spentN i p c ∧ p'.more = m := ⟨_, rfl⟩
    refine ⟨W, ⟨p.more, by rw [hW]; exact ⟨p, c, rfl, hx, fun _ _ => rfl, rfl, rfl, rfl⟩⟩, fun m σ H1 hw => ?_⟩
    rw [hW] at hw
    obtain ⟨p', r, rfl, hx1, k1, e1, e2, em⟩ := hw
    have fin : (p'.more = 0 ∨ r < p'.left) → tSeq (tAsg (tCB (fun xs H Q => ∃ i j, xs = [.int i, .int j] ∧ Q (.int (if j < i then j else i)) H) (tCons (tVar 3) (tCons (tFld K (tVar 0) "time_left") tNil))) (gName 4)) (tSeq (sFldAug K (tVar 0) (tVar 4) rSub "time_left") (tRet (tVar 4)))
        { nx := fun _ H' => Q .non H', rt := Q } [some (.ref x), some (nV c), some (nV i), some (nV r), none] H1 := fun h => by
      obtain ⟨f1, f2⟩ := spentP_stop (inc := i) (p := p') (c := r) h
      refine ⟨_, rfl, _, rfl, x, _, dx, _, _, rfl, hx1, T.c_Player, T.n_Player_time_left, pl_time_left p', _, _, rfl, ?_⟩
      have ev : (if (p'.left : Int) < (r : Int) then (p'.left : Int) else (r : Int)) = ((spentN i p c : Nat) : Int) := by
        rw [← e2, f2]
        split <;> omega
      rw [ev]
      refine ⟨_, rfl, x, _, dx, _, _, rfl, hx1, T.c_Player, T.n_Player_time_left, pl_time_left p', _, rfl, _, _, rfl, rfl, dx, _, hx1, pl_len p', ?_⟩
      refine ⟨_, rfl, ?_⟩
      have e3 : V.int ((p'.left : Int) - ((spentN i p c : Nat) : Int)) = nV (p'.left - min r p'.left) := by
        refine congrArg V.int ?_
        rw [← e2, f2]
        omega
      rw [e3, pl_put_time_left]
      refine k _ (upd_same.trans ?_) fun b hb => (upd_ne hb).trans (k1 b hb)
      rw [← e1, f1]
    refine ⟨_, rfl, x, _, dx, _, _, rfl, hx1, T.c_Player, T.n_Player_periods, pl_periods p', _, _, rfl, rfl, _, rfl, ?_⟩
    refine ite2 (fun h1 => ?_) fun h1 => ?_
    · have h1 := of_decide_eq_true h1
      refine ⟨_, rfl, _, rfl, x, _, dx, _, _, rfl, hx1, T.c_Player, T.n_Player_time_left, pl_time_left p', _, _, rfl, rfl, _, rfl, ?_⟩
      refine ite2 (fun h2 => ?_) fun h2 => ?_
      · have h2 := of_decide_eq_true h2
        refine ⟨fun σ' H' => ∃ m', m' < m ∧ W m' σ' H', fun _ _ z => z, ?_⟩
        refine ⟨_, rfl, _, rfl, x, _, dx, _, _, rfl, hx1, T.c_Player, T.n_Player_time_left, pl_time_left p', _, _, rfl, rfl, ?_⟩
        refine ⟨_, rfl, x, _, dx, _, _, rfl, hx1, T.c_Player, T.n_Player_periods, pl_periods p', _, _, rfl, rfl, dx, _, hx1, pl_len p', ?_⟩
        have e3 : V.int ((p'.more : Int) - 1) = nV (p'.more - 1) := congrArg V.int (by omega)
        rw [e3, pl_put_periods]
        refine ⟨_, rfl, _, rfl, x, _, dx, _, rfl, upd_same, T.c_Player, T.n_Player_time_left, pl_len _, ?_⟩
        rw [upd_upd, pl_put_time_left]
        refine ⟨_, rfl, x, _, dx, _, rfl, upd_same, T.c_Player, T.n_Player_in_period, pl_len _, ?_⟩
        have e4 : V.int 1 = nV (b2n true) := rfl
        rw [upd_upd, e4, pl_put_in_period]
        refine ⟨p'.more - 1, by omega, ?_⟩
        rw [hW]
        obtain ⟨g1, g2⟩ := spentP_take (inc := i) (p := p') (c := r) (m := p'.more - 1) (by omega) (by omega)
        refine ⟨_, r - p'.left, ?_, upd_same, fun b hb => (upd_ne hb).trans (k1 b hb), g1.symm.trans e1, g2.symm.trans e2, rfl⟩
        have e5 : V.int ((r : Int) - (p'.left : Int)) = nV (r - p'.left) := congrArg V.int (by omega)
        rw [← e5]; rfl
      · have h2 : ¬ (p'.left : Int) ≤ (r : Int) := fun z => h2 (decide_eq_true z)
        exact fin (.inr (by omega))
    · have h1 : ¬ (0 : Int) < (p'.more : Int) := fun z => h1 (decide_eq_true z)
      exact iteF (fin (.inl (by omega)))
def spEnter (C C' : Addr) : Sp := fun vs H Q _ => ∃ (x dx a : Addr) (p : Kyc.Player) (q : Kyc.Phase), vs = [.ref x, .ref a] ∧ H x = some (.ins C' dx (plF p)) ∧ PhAt C H a q ∧
  ∀ H' : Hp, H' x = some (.ins C' dx (plF (entered q p))) → (∀ b, b ≠ x → H' b = H b) → Q .non H'
theorem ok_Player_enter_next (F : Fun K "enter_next" "Player.enter_next" s_Player_enter_next f fd) (T : Txt K mg C_Phase C_Player C_Clocks) : FnOk P w K mg base CX0 1 f fd ["self", "phase"] (spEnter C_Phase C_Player) := by
  refine F.ok sc_Player_enter_next (fun vs H Q E h => ?_) (fun cdv A outer s H vs Q E hr h => ?_)
  · obtain ⟨x, dx, a, p, q, rfl, _⟩ := h
    rfl
  · obtain ⟨x, dx, a, p, q, rfl, hx, ⟨da, ha⟩, k⟩ := h
    have ne : a ≠ x := ph_ne_pl ha hx
    refine ⟨_, (pss_cons (ps_fldaug (pv 0) (pe_fldK (pv 1) rfl) in_add)
        (pss_cons (ps_fld (pv 0) (pe_fldK (pv 1) rfl) rfl)
        (pss_cons (ps_fld (pv 0) pe_int rfl)
        (pss_cons (ps_fldaug (pv 0) pe_int in_add)
        (pss_one (ps_fld (pv 0) pe_int rfl)))))), ?_⟩
    refine ⟨_, rfl, x, _, dx, _, _, rfl, hx, T.c_Player, T.n_Player_time_left, pl_time_left p, _, rfl, a, _, da, _, _, rfl, ha, T.c_Phase, T.n_Phase_main, ph_main q, _, _, rfl, rfl, dx, _, hx, pl_len _, ?_⟩
    have e1 : V.int ((p.left : Int) + (q.main : Int)) = nV (p.left + q.main) := congrArg V.int (by omega)
    rw [e1, pl_put_time_left]
    refine ⟨_, rfl, a, _, da, _, _, rfl, ((upd_ne ne).trans ha), T.c_Phase, T.n_Phase_periods, ph_periods q, _, rfl, x, _, dx, _, rfl, upd_same, T.c_Player, T.n_Player_periods, pl_len _, ?_⟩
    rw [upd_upd, pl_put_periods]
    refine ⟨_, rfl, x, _, dx, _, rfl, upd_same, T.c_Player, T.n_Player_in_period, pl_len _, ?_⟩
    have e4 : V.int 0 = nV (b2n false) := rfl
    rw [upd_upd, e4, pl_put_in_period]
    refine ⟨_, rfl, x, _, dx, _, _, rfl, upd_same, T.c_Player, T.n_Player_phase_number, pl_phase_number _, _, _, rfl, rfl, dx, _, upd_same, pl_len _, ?_⟩
    have e5 : V.int (((p.phase : Nat) : Int) + 1) = nV (p.phase + 1) := congrArg V.int (by omega)
    rw [upd_upd]
    have e6 : putF "phase_number" (V.int (((p.phase : Nat) : Int) + 1)) (plF { p with left := p.left + q.main, more := q.periods, inPeriod := false }) = plF { p with left := p.left + q.main, more := q.periods, inPeriod := false, phase := p.phase + 1 } := by
      rw [e5]; exact pl_put_phase_number _ _
    refine ⟨_, rfl, x, _, dx, _, rfl, upd_same, T.c_Player, T.n_Player_moves, ?_, ?_⟩
    · have := congrArg List.length e6
      exact Nat.lt_of_le_of_lt (Nat.le_of_eq this) (pl_len _)
    · rw [upd_upd]
      refine k _ (upd_same.trans ?_) fun b hb => upd_ne hb
      have e7 : V.int 0 = nV 0 := rfl
      refine congrArg (fun z => some (HO.ins C_Player dx z)) ?_
      refine (congrArg (putF "moves" (V.int 0)) e6).trans ?_
      rw [e7]
      exact pl_put_moves _ _
end
end Pc

set_option Elab.async false
set_option linter.all false
set_option maxRecDepth 100000
set_option maxHeartbeats 2000000
namespace Pc
open PySem PySem.Spec PyProof.Rows L2
/-! ### all but instances is kept -/
def Kp (H H' : Hp) : Prop := ∀ b o, H b = some o → (∀ C dx fs, o ≠ HO.ins C dx fs) → H' b = some o
theorem Kp.refl (H : Hp) : Kp H H := fun _ _ e _ => e
theorem Kp.trans {H H1 H2 : Hp} (a : Kp H H1) (b : Kp H1 H2) : Kp H H2 := fun c o e n => b c o (a c o e n) n
theorem Kp.same {H H' : Hp} (s : Same H H') : Kp H H' := fun b o e _ => s b o e
theorem Kp.but {H H' : Hp} {a C dx : Addr} {fs : List (Str × V)} (h : H a = some (.ins C dx fs)) (k : ∀ b, b ≠ a → H' b = H b) : Kp H H' := fun b o e n => by
  have : b ≠ a := fun z => by
    subst z
    rw [h] at e
    exact n _ _ _ (Option.some.inj e).symm
  rw [k b this]; exact e
theorem Kp.upd {H : Hp} {a C dx : Addr} {fs : List (Str × V)} {o : HO} (h : H a = some (.ins C dx fs)) : Kp H (upd H a o) := Kp.but h fun _ hb => upd_ne hb
theorem Kp.lst {H H' : Hp} (k : Kp H H') {l : Addr} {xs : List V} (h : H l = some (.lst xs)) : H' l = some (.lst xs) := k _ _ h fun _ _ _ z => by cases z
theorem ck_ne_pl {H : Hp} {a x C C' dx dy lp lq : Addr} {now turn u : Nat} {on : Bool} {lo : Option Nat} {p : Kyc.Player} (h1 : H x = some (.ins C dx (ckF lp lq now on turn u lo))) (h2 : H a = some (.ins C' dy (plF p))) : a ≠ x :=
  ne_of h2 h1 (by
    intro z
    injection z with _ _ z
    have e2 : (plF p).lookup ("phases" : Str) = none := by kernel_rfl
    rw [z, ck_phases] at e2
    cases e2)
theorem ck_ne_ph {H : Hp} {a x C C' dx dy lp lq : Addr} {now turn u : Nat} {on : Bool} {lo : Option Nat} {q : Kyc.Phase} (h1 : H x = some (.ins C dx (ckF lp lq now on turn u lo))) (h2 : H a = some (.ins C' dy (phF q))) : a ≠ x :=
  ne_of h2 h1 (by
    intro z
    injection z with _ _ z
    have e2 : (phF q).lookup ("phases" : Str) = none := by kernel_rfl
    rw [z, ck_phases] at e2
    cases e2)
/-- the clocks at x, whole -/
structure Vw (C_Phase C_Player C_Clocks : Addr) (H : Hp) (x dx lp lq : Addr) (ps as : List Addr) (qs : List Kyc.Phase) (pl : List Kyc.Player) (now : Nat) (on : Bool) (turn u : Nat) (lo : Option Nat) : Prop where
  obj : H x = some (.ins C_Clocks dx (ckF lp lq now on turn u lo))
  phs : PhsAt C_Phase H lp ps qs
  lst : H lq = some (.lst (as.map V.ref))
  len : as.length = pl.length
  nd : as.Nodup
  at_ : ∀ (i : Nat) (a : Addr) (p : Kyc.Player), as[i]? = some a → pl[i]? = some p → ∃ dp, H a = some (.ins C_Player dp (plF p))
section
variable {C_Phase C_Player C_Clocks : Addr} {H H' : Hp} {x dx lp lq : Addr} {ps as : List Addr} {qs : List Kyc.Phase} {pl : List Kyc.Player} {now turn u : Nat} {on : Bool} {lo : Option Nat}
theorem Vw.but (v : Vw C_Phase C_Player C_Clocks H x dx lp lq ps as qs pl now on turn u lo) {now' turn' u' : Nat} {on' : Bool} {lo' : Option Nat}
    (h : H' x = some (.ins C_Clocks dx (ckF lp lq now' on' turn' u' lo'))) (k : ∀ b, b ≠ x → H' b = H b) : Vw C_Phase C_Player C_Clocks H' x dx lp lq ps as qs pl now' on' turn' u' lo' := by
  refine ⟨h, ⟨?_, v.phs.len, fun i a q h1 h2 => ?_⟩, ?_, v.len, v.nd, fun i a p h1 h2 => ?_⟩
  · rw [k lp (ne_of v.phs.lst v.obj (by intro z; cases z))]; exact v.phs.lst
  · obtain ⟨d, e⟩ := v.phs.at_ i a q h1 h2
    exact ⟨d, by rw [k a (ck_ne_ph v.obj e)]; exact e⟩
  · rw [k lq (ne_of v.lst v.obj (by intro z; cases z))]; exact v.lst
  · obtain ⟨d, e⟩ := v.at_ i a p h1 h2
    exact ⟨d, by rw [k a (ck_ne_pl v.obj e)]; exact e⟩
theorem Vw.setx (v : Vw C_Phase C_Player C_Clocks H x dx lp lq ps as qs pl now on turn u lo) (now' : Nat) (on' : Bool) (turn' u' : Nat) (lo' : Option Nat) :
    Vw C_Phase C_Player C_Clocks (upd H x (.ins C_Clocks dx (ckF lp lq now' on' turn' u' lo'))) x dx lp lq ps as qs pl now' on' turn' u' lo' := v.but upd_same fun _ hb => upd_ne hb
theorem Vw.setp (v : Vw C_Phase C_Player C_Clocks H x dx lp lq ps as qs pl now on turn u lo) {j : Nat} {a dp : Addr} {p' : Kyc.Player} (hj : as[j]? = some a) (h : H' a = some (.ins C_Player dp (plF p'))) (k : ∀ b, b ≠ a → H' b = H b) :
    Vw C_Phase C_Player C_Clocks H' x dx lp lq ps as qs (pl.set j p') now on turn u lo := by
  obtain ⟨p0, hp0⟩ := get_of_len v.len hj
  obtain ⟨d0, e0⟩ := v.at_ j a p0 hj hp0
  refine ⟨?_, ⟨?_, v.phs.len, fun i b q h1 h2 => ?_⟩, ?_, by rw [List.length_set]; exact v.len, v.nd, fun i b p h1 h2 => ?_⟩
  · rw [k x (Ne.symm (ck_ne_pl v.obj e0))]; exact v.obj
  · rw [k lp (ne_of v.phs.lst e0 (by intro z; cases z))]; exact v.phs.lst
  · obtain ⟨d, e⟩ := v.phs.at_ i b q h1 h2
    exact ⟨d, by rw [k b (ph_ne_pl e e0)]; exact e⟩
  · rw [k lq (ne_of v.lst e0 (by intro z; cases z))]; exact v.lst
  · by_cases hij : i = j
    · subst hij
      have eb : b = a := Option.some.inj (h1.symm.trans hj)
      subst eb
      rw [List.getElem?_set_self (List.getElem?_eq_some_iff.mp hp0).1] at h2
      cases h2
      exact ⟨dp, h⟩
    · rw [List.getElem?_set_ne (fun z => hij z.symm)] at h2
      obtain ⟨d, e⟩ := v.at_ i b p h1 h2
      have nba : b ≠ a := fun z => hij (nd_ix v.nd h1 (by rw [z]; exact hj))
      exact ⟨d, by rw [k b nba]; exact e⟩
theorem Vw.same (v : Vw C_Phase C_Player C_Clocks H x dx lp lq ps as qs pl now on turn u lo) (s : Same H H') : Vw C_Phase C_Player C_Clocks H' x dx lp lq ps as qs pl now on turn u lo :=
  ⟨s _ _ v.obj, v.phs.same s, s _ _ v.lst, v.len, v.nd, fun i a p h1 h2 => let ⟨d, e⟩ := v.at_ i a p h1 h2; ⟨d, s _ _ e⟩⟩
theorem Vw.congr (v : Vw C_Phase C_Player C_Clocks H x dx lp lq ps as qs pl now on turn u lo) {pl' : List Kyc.Player} (hl : pl'.length = pl.length) (h : ∀ (i : Nat) (p p' : Kyc.Player), pl[i]? = some p → pl'[i]? = some p' → plF p' = plF p) :
    Vw C_Phase C_Player C_Clocks H x dx lp lq ps as qs pl' now on turn u lo :=
  ⟨v.obj, v.phs, v.lst, v.len.trans hl.symm, v.nd, fun i a p' h1 h2 => by
    obtain ⟨p, hp⟩ := get_of_len hl h2
    obtain ⟨d, e⟩ := v.at_ i a p h1 hp
    exact ⟨d, by rw [h i p p' hp h2]; exact e⟩⟩
end
def CkAt (C_Phase C_Player C_Clocks : Addr) (H : Hp) (x : Addr) (c : Kyc.Clock) (u : Nat) : Prop :=
  ∃ (dx lp lq : Addr) (ps as : List Addr), Vw C_Phase C_Player C_Clocks H x dx lp lq ps as c.phases c.players c.now c.on c.turn u c.fallen
section
variable {P : Program} {w : World} {K : PySem.W.Frag} {mg : Str → Option Value} {base : Heap} {C_Phase C_Player C_Clocks f : Addr} {fd : FuncData}
/-! ### small methods of Clocks -/
def spMay (C_Phase C_Player C_Clocks : Addr) : Sp := fun vs H Q _ => ∃ (x : Addr) (t : Nat) (c : Kyc.Clock) (u : Nat), vs = [.ref x, nV t] ∧ CkAt C_Phase C_Player C_Clocks H x c u ∧ Q (.bl (!decide (t < c.now ∨ Kyc.most < t))) H
theorem ok_Clocks_may_become (F : Fun K "may_become" "Clocks.may_become" s_Clocks_may_become f fd) (T : Txt K mg C_Phase C_Player C_Clocks) : FnOk P w K mg base CX0 1 f fd ["self", "t"] (spMay C_Phase C_Player C_Clocks) := by
  refine F.ok sc_Clocks_may_become (fun vs H Q E h => ?_) (fun cdv A outer s H vs Q E hr h => ?_)
  · obtain ⟨x, t, c, u, rfl, _⟩ := h
    rfl
  · obtain ⟨x, t, c, u, rfl, ⟨dx, lp, lq, ps, as, v⟩, k⟩ := h
    refine ⟨_, (pss_one (ps_ret (pe_chain op_le op_le (pe_fldK (pv 0) rfl) (pv 1) (pe_gi rfl T.g_LATEST)))), ?_⟩
    refine ⟨_, rfl, x, _, dx, _, _, rfl, v.obj, T.c_Clocks, T.n_Clocks_moment, ck_moment, _, rfl, _, _, rfl, rfl, _, rfl, ?_⟩
    refine ite2 (fun h1 => ?_) fun h1 => ?_
    · have h1 := of_decide_eq_true h1
      refine ⟨_, _, rfl, rfl, q_bl k ?_⟩
      rw [Bool.eq_iff_iff, Bool.not_eq_true', decide_eq_true_eq, decide_eq_false_iff_not]
      unfold Kyc.most
      omega
    · have h1 : ¬ (c.now : Int) ≤ (t : Int) := fun z => h1 (decide_eq_true z)
      refine q_bl k ?_
      rw [decide_eq_true (show t < c.now ∨ Kyc.most < t from .inl (by omega))]; rfl
def spVerdict (C_Phase C_Player C_Clocks : Addr) : Sp := fun vs H Q _ => ∃ (x : Addr) (c : Kyc.Clock) (u : Nat), vs = [.ref x] ∧ CkAt C_Phase C_Player C_Clocks H x c u ∧ Q (.int (Kyc.fell c)) H
theorem ok_Clocks_verdict (F : Fun K "verdict" "Clocks.verdict" s_Clocks_verdict f fd) (T : Txt K mg C_Phase C_Player C_Clocks) : FnOk P w K mg base CX0 1 f fd ["self"] (spVerdict C_Phase C_Player C_Clocks) := by
  refine F.ok sc_Clocks_verdict (fun vs H Q E h => ?_) (fun cdv A outer s H vs Q E hr h => ?_)
  · obtain ⟨x, c, u, rfl, _⟩ := h
    rfl
  · obtain ⟨x, c, u, rfl, ⟨dx, lp, lq, ps, as, v⟩, k⟩ := h
    refine ⟨_, (pss_cons (ps_if (pt_cmp (pc_isN (pe_fldK (pv 0) rfl))) (pss_one (ps_ret pe_int)) pss_nil)
        (pss_one (ps_ret (pe_add (pe_gi rfl T.g_FALLEN) (pe_fldK (pv 0) rfl))))), ?_⟩
    refine ⟨_, rfl, x, _, dx, _, _, rfl, v.obj, T.c_Clocks, T.n_Clocks_loser, ck_loser, _, rfl, ?_⟩
    unfold Kyc.fell at k
    cases e : c.fallen with
    | none =>
      rw [e] at k
      exact iteT k
    | some j =>
      rw [e] at k
      refine iteF ?_
      have ho := v.obj
      rw [e] at ho
      exact ⟨_, rfl, x, _, dx, _, _, rfl, ho, T.c_Clocks, T.n_Clocks_loser, ck_loser, _, _, rfl, rfl, k⟩
def spNext (C_Phase C_Player C_Clocks : Addr) : Sp := fun vs H Q _ => ∃ (x dx lp lq : Addr) (ps as : List Addr) (qs : List Kyc.Phase) (pl : List Kyc.Player) (now : Nat) (on : Bool) (turn u : Nat) (lo : Option Nat), vs = [.ref x] ∧
  Vw C_Phase C_Player C_Clocks H x dx lp lq ps as qs pl now on turn u lo ∧ 1 ≤ pl.length ∧ Q (nV ((turn + 1) % pl.length)) H
theorem ok_Clocks_next_number (F : Fun K "next_number" "Clocks.next_number" s_Clocks_next_number f fd) (T : Txt K mg C_Phase C_Player C_Clocks) : FnOk P w K mg base CX0 1 f fd ["self"] (spNext C_Phase C_Player C_Clocks) := by
  refine F.ok sc_Clocks_next_number (fun vs H Q E h => ?_) (fun cdv A outer s H vs Q E hr h => ?_)
  · obtain ⟨x, dx, lp, lq, ps, as, qs, pl, now, on, turn, u, lo, rfl, _⟩ := h
    rfl
  · obtain ⟨x, dx, lp, lq, ps, as, qs, pl, now, on, turn, u, lo, rfl, v, h1, k⟩ := h
    refine ⟨_, (pss_one (ps_ret (pe_op op_mod (pe_add (pe_fldK (pv 0) rfl) pe_int) (pe_callB (call_len_seqK (K := K)) (by rfl) T.b_len PySem.boot_len (pa_cons (pe_fldK (pv 0) rfl) pa_nil))))), ?_⟩
    have hlen : (as.map V.ref).length = pl.length := by rw [List.length_map, v.len]
    refine ⟨_, rfl, x, _, dx, _, _, rfl, v.obj, T.c_Clocks, T.n_Clocks_mover, ck_mover, _, _, rfl, rfl, _, rfl, x, _, dx, _, _, rfl, v.obj, T.c_Clocks, T.n_Clocks_players, ck_players, lq, _, rfl, .inl (SqL.of v.lst), _, _, rfl, rfl, ?_, q_nat k ?_⟩
    · rw [hlen]; omega
    · rw [hlen, Int.natCast_emod]; rfl
end
end Pc

set_option Elab.async false
set_option linter.all false
set_option maxRecDepth 100000
set_option maxHeartbeats 2000000
namespace Pc
open PySem PySem.Spec PyProof.Rows L2
theorem plF_noU (p : Kyc.Player) : plF (noU p) = plF p := rfl
theorem ref_get {as : List Addr} {i : Nat} {a : Addr} (h : as[i]? = some a) : (as.map V.ref)[i]? = some (V.ref a) := by
  rw [List.getElem?_map, h]; rfl
section
variable {P : Program} {w : World} {K : PySem.W.Frag} {mg : Str → Option Value} {base : Heap} {C_Phase C_Player C_Clocks f : Addr} {fd : FuncData}
/-! ### run -/
def spRun (C_Phase C_Player C_Clocks : Addr) : Sp := fun vs H Q _ => ∃ (x : Addr) (d : Nat) (c : Kyc.Clock) (u : Nat), vs = [.ref x, nV d] ∧ Wf c ∧ c.on = true ∧ CkAt C_Phase C_Player C_Clocks H x c u ∧
  ∀ H' : Hp, CkAt C_Phase C_Player C_Clocks H' x (ranC c u d) (u + d) → Kp H H' → Q .non H'
theorem ok_Clocks_run (F : Fun K "run" "Clocks.run" s_Clocks_run f fd) (T : Txt K mg C_Phase C_Player C_Clocks)
    (U_cost_of : FnU P w K mg base 1 "cost_of" ["phase", "used", "span"] (spCost C_Phase)) (U_Player_spend : MtU P w K mg base 1 C_Player "spend" ["self", "cost", "inc"] (spSpend C_Player))
    (U_Clocks_next_number : MtU P w K mg base 1 C_Clocks "next_number" ["self"] (spNext C_Phase C_Player C_Clocks)) :
    FnOk P w K mg base CX0 2 f fd ["self", "span"] (spRun C_Phase C_Player C_Clocks) := by
  refine F.ok sc_Clocks_run (fun vs H Q E h => ?_) (fun cdv A outer s H vs Q E hr h => ?_)
  · obtain ⟨x, d, c, u, rfl, _⟩ := h
    rfl
  · obtain ⟨x, d, c, u, rfl, W, hon, ⟨dx, lp, lq, ps, as, v⟩, k⟩ := h
    refine ⟨_, (pss_cons (ps_set (i := 2) sc_Clocks_run.nd rfl (Or.inl rfl) (pe_ix (ix_listK (K := K)) (pe_fldK (pv 0) rfl) (pe_fldK (pv 0) rfl) (fun _ _ => rfl)))
        (pss_cons (ps_set (i := 3) sc_Clocks_run.nd rfl (Or.inl rfl) (pe_ix (ix_listK (K := K)) (pe_fldK (pv 0) rfl) (pe_fldK (pv 2) rfl) (fun _ _ => rfl)))
        (pss_cons (ps_set (i := 4) sc_Clocks_run.nd rfl (Or.inl rfl) (pe_mth U_Player_spend T.c_Player (pv 2) (hr.mono (by decide)) (pa_cons (pe_fn U_cost_of (hr.mono (by decide)) rfl (pa_cons (pv 3) (pa_cons (pe_fldK (pv 0) rfl) (pa_cons (pv 1) pa_nil)))) (pa_cons (pe_fldK (pv 3) rfl) pa_nil))))
        (pss_cons (ps_fldaug (pv 0) (pv 1) in_add)
        (pss_cons (ps_if (pt_cmp (pc_eqI (pe_fldK (pv 3) rfl) (pe_gi rfl T.g_HOURGLASS))) (pss_cons (ps_set (i := 5) sc_Clocks_run.nd rfl (Or.inl rfl) (pe_ix (ix_listK (K := K)) (pe_fldK (pv 0) rfl) (pe_mth0 U_Clocks_next_number T.c_Clocks (pv 0) (hr.mono (by decide))) (fun _ _ => rfl)))
          (pss_one (ps_fldaug (pv 5) (pv 4) in_add))) pss_nil)
        (pss_one (ps_if (pt_cmp (pc_eqI (pe_fldK (pv 2) rfl) pe_int)) (pss_cons (ps_fld (pv 0) (pe_fldK (pv 0) rfl) rfl)
          (pss_one (ps_fld (pv 0) pe_bl rfl))) pss_nil))))))), ?_⟩
    have hf := W.on hon
    have hpt := W.pt
    obtain ⟨ap, hap⟩ := get_of_len v.len.symm hpt
    obtain ⟨dp, hp⟩ := v.at_ _ _ _ hap hpt
    have hw := W.pl _ (List.mem_of_getElem? hpt)
    have hqt : c.phases[(Kyc.player c c.turn).phase]? = some (Kyc.phaseAt c (Kyc.player c c.turn).phase) := get_of_lt Kyc.plain hw.ph
    obtain ⟨aq, haq⟩ := get_of_len v.phs.len.symm hqt
    obtain ⟨dq, hq⟩ := v.phs.at_ _ _ _ haq hqt
    -- player = self.players[self.mover]; phase = self.phases[player.phase_number]
    refine ⟨_, rfl, x, _, dx, _, _, rfl, v.obj, T.c_Clocks, T.n_Clocks_players, ck_players, _, rfl, x, _, dx, _, _, rfl, v.obj, T.c_Clocks, T.n_Clocks_mover, ck_mover, lq, _, _, _, rfl, rfl, SqL.of v.lst, atI_nat (ref_get hap), ?_⟩
    refine ⟨_, rfl, x, _, dx, _, _, rfl, v.obj, T.c_Clocks, T.n_Clocks_phases, ck_phases, _, rfl, ap, _, dp, _, _, rfl, hp, T.c_Player, T.n_Player_phase_number, pl_phase_number _, lp, _, _, _, rfl, rfl, SqL.of v.phs.lst, atI_nat (ref_get haq), ?_⟩
    -- spent = player.spend(cost_of(phase, self.used, span), phase.inc)
    refine ⟨_, rfl, ap, dp, _, rfl, hp, (by kernel_rfl), _, rfl, _, rfl, x, _, dx, _, _, rfl, v.obj, T.c_Clocks, T.n_Clocks_used, ck_used, _, rfl, aq, _, u, d, rfl, ⟨dq, hq⟩, _, rfl, aq, _, dq, _, _, rfl, hq, T.c_Phase, T.n_Phase_inc, ph_inc _, ap, dp, _, _, _, rfl, hp, fun H1 h1 k1 => ?_⟩
    have v1 : Vw C_Phase C_Player C_Clocks H1 x dx lp lq ps as c.phases (c.players.set c.turn (ranP c u d)) c.now c.on c.turn u c.fallen := v.setp hap h1 k1
    have kp1 : Kp H H1 := Kp.but hp k1
    -- self.used += span
    refine ⟨_, rfl, x, _, dx, _, _, rfl, v1.obj, T.c_Clocks, T.n_Clocks_used, ck_used, _, rfl, _, _, rfl, rfl, dx, _, v1.obj, ck_len, ?_⟩
    have e1 : V.int ((u : Int) + (d : Int)) = nV (u + d) := congrArg V.int (by omega)
    rw [e1, ck_put_used]
    have v2 := v1.setx c.now c.on c.turn (u + d) c.fallen
    have kp2 := kp1.trans (Kp.upd (o := .ins C_Clocks dx (ckF lp lq c.now c.on c.turn (u + d) c.fallen)) v1.obj)
    have hq2 : upd H1 x (.ins C_Clocks dx (ckF lp lq c.now c.on c.turn (u + d) c.fallen)) aq = some (.ins C_Phase dq (phF (Kyc.phaseAt c (Kyc.player c c.turn).phase))) := by
      obtain ⟨dq', e⟩ := v2.phs.at_ _ _ _ haq hqt
      have e0 : H1 aq = H aq := k1 aq (ph_ne_pl hq hp)
      rw [upd_ne (ck_ne_ph v.obj hq), e0]; exact hq
    generalize upd H1 x (.ins C_Clocks dx (ckF lp lq c.now c.on c.turn (u + d) c.fallen)) = H2 at v2 kp2 hq2
    -- the end: if player.time_left == 0
    have fin : ∀ (H3 : Hp) (pl : List Kyc.Player) (vr : Option V), Vw C_Phase C_Player C_Clocks H3 x dx lp lq ps as c.phases pl c.now c.on c.turn (u + d) c.fallen → Kp H H3 → pl = ranL c u d →
        (∃ d3, H3 ap = some (.ins C_Player d3 (plF (ranP c u d)))) →
        tIfS (tB (tEqI (tFld K (tVar 2) "time_left") (tC (.int 0)))) (tSeq (sFld K (tVar 0) (tFld K (tVar 0) "mover") "loser") (sFld K (tVar 0) (tC (.bl false)) "running")) tNext
          { nx := fun _ H' => Q .non H', rt := Q } [some (.ref x), some (nV d), some (.ref ap), some (.ref aq), some (nV (ranN c u d)), vr] H3 := fun H3 pl vr v3 kp3 el ⟨d3, h3⟩ => by
      subst el
      refine ⟨_, rfl, ap, _, d3, _, _, rfl, h3, T.c_Player, T.n_Player_time_left, pl_time_left _, _, _, rfl, rfl, _, rfl, ?_⟩
      by_cases hz : (ranP c u d).left = 0
      · refine iteTb (decide_eq_true (show ((ranP c u d).left : Int) = 0 by omega)) ?_
        refine ⟨_, rfl, x, _, dx, _, _, rfl, v3.obj, T.c_Clocks, T.n_Clocks_mover, ck_mover, _, rfl, x, _, dx, _, rfl, v3.obj, T.c_Clocks, T.n_Clocks_loser, ck_len, ?_⟩
        have e2 : nV c.turn = loV (some c.turn) := rfl
        rw [e2, ck_put_loser]
        have v4 := v3.setx c.now c.on c.turn (u + d) (some c.turn)
        refine ⟨_, rfl, x, _, dx, _, rfl, v4.obj, T.c_Clocks, T.n_Clocks_running, ck_len, ?_⟩
        rw [ck_put_running]
        have v5 := v4.setx c.now false c.turn (u + d) (some c.turn)
        refine k _ ⟨dx, lp, lq, ps, as, ?_⟩ (kp3.trans ((Kp.upd v3.obj).trans (Kp.upd v4.obj)))
        show Vw _ _ _ _ x dx lp lq ps as c.phases (ranL c u d) c.now (!decide ((ranP c u d).left = 0)) c.turn (u + d) (if (ranP c u d).left = 0 then some c.turn else none)
        rw [if_pos hz, decide_eq_true hz]
        exact v5
      · refine iteFb (decide_eq_false (show ¬ ((ranP c u d).left : Int) = 0 by omega)) ?_
        refine k _ ⟨dx, lp, lq, ps, as, ?_⟩ kp3
        show Vw _ _ _ _ x dx lp lq ps as c.phases (ranL c u d) c.now (!decide ((ranP c u d).left = 0)) c.turn (u + d) (if (ranP c u d).left = 0 then some c.turn else none)
        rw [if_neg hz, decide_eq_false hz]
        rw [hon, hf] at v3
        exact v3
    -- if phase.kind == HOURGLASS
    refine ⟨_, rfl, aq, _, dq, _, _, rfl, hq2, T.c_Phase, T.n_Phase_kind, ph_kind _, _, _, rfl, rfl, _, rfl, ?_⟩
    have hp2 : ∃ d3, H2 ap = some (.ins C_Player d3 (plF (ranP c u d))) := v2.at_ c.turn ap _ hap (List.getElem?_set_self W.tn)
    by_cases hg : isGlass c
    · have hg' : (Kyc.phaseAt c (Kyc.player c c.turn).phase).kind = 5 := hg
      refine iteTb (decide_eq_true (show ((Kyc.phaseAt c (Kyc.player c c.turn).phase).kind : Int) = 5 by omega)) ?_
      have hnl := W.next_lt
      have hne := W.next_ne
      have hnx : (c.players.set c.turn (ranP c u d))[Kyc.next c]? = some (Kyc.player c (Kyc.next c)) := by
        rw [List.getElem?_set_ne (Ne.symm hne)]; exact get_of_lt Kyc.nobody hnl
      have hlset : (c.players.set c.turn (ranP c u d)).length = c.players.length := List.length_set
      obtain ⟨ar, har⟩ := get_of_len v2.len.symm hnx
      obtain ⟨dr, hr'⟩ := v2.at_ _ _ _ har hnx
      refine ⟨_, rfl, x, _, dx, _, _, rfl, v2.obj, T.c_Clocks, T.n_Clocks_players, ck_players, _, rfl, x, dx, _, rfl, v2.obj, (by kernel_rfl), x, dx, lp, lq, ps, as, _, _, _, _, _, _, _, rfl, v2, (by rw [hlset]; have := W.np; omega), ?_⟩
      rw [hlset]
      refine ⟨lq, _, _, _, rfl, rfl, SqL.of v2.lst, atI_nat (ref_get har), ?_⟩
      refine ⟨_, rfl, ar, _, dr, _, _, rfl, hr', T.c_Player, T.n_Player_time_left, pl_time_left _, _, rfl, _, _, rfl, rfl, dr, _, hr', pl_len _, ?_⟩
      have e2 : V.int (((Kyc.player c (Kyc.next c)).left : Int) + ((ranN c u d : Nat) : Int)) = nV ((Kyc.player c (Kyc.next c)).left + ranN c u d) := congrArg V.int (by omega)
      have e3 : putF "time_left" (V.int (((Kyc.player c (Kyc.next c)).left : Int) + ((ranN c u d : Nat) : Int))) (plF (Kyc.player c (Kyc.next c))) = plF { Kyc.player c (Kyc.next c) with left := (Kyc.player c (Kyc.next c)).left + ranN c u d } := by
        rw [e2]; exact pl_put_time_left _ _
      have v3 := v2.setp (H' := upd H2 ar (.ins C_Player dr (putF "time_left" (V.int (((Kyc.player c (Kyc.next c)).left : Int) + ((ranN c u d : Nat) : Int))) (plF (Kyc.player c (Kyc.next c)))))) har (upd_same.trans (congrArg (fun z => some (HO.ins C_Player dr z)) e3)) fun b hb => upd_ne hb
      refine fin _ _ _ v3 (kp2.trans (Kp.upd hr')) ?_ ?_
      · unfold ranL
        rw [if_pos hg]
      · obtain ⟨d3, h3⟩ := hp2
        have : ap ≠ ar := fun z => hne (nd_ix v2.nd har (by rw [← z]; exact hap))
        exact ⟨d3, by rw [upd_ne this]; exact h3⟩
    · have hg' : ¬ (Kyc.phaseAt c (Kyc.player c c.turn).phase).kind = 5 := hg
      refine iteFb (decide_eq_false (show ¬ ((Kyc.phaseAt c (Kyc.player c c.turn).phase).kind : Int) = 5 by omega)) ?_
      refine fin _ _ _ v2 kp2 ?_ hp2
      unfold ranL
      rw [if_neg hg]
/-! ### run_until -/
theorem ckAt_till {H : Hp} {x : Addr} {c : Kyc.Clock} {u t : Nat} (W : Wf c) (U : Us c u) (h : c.on = true) (q : CkAt C_Phase C_Player C_Clocks H x (ranC { c with now := t } u (t - c.now)) (u + (t - c.now))) :
    CkAt C_Phase C_Player C_Clocks H x (Kyc.till c t) (u + (t - c.now)) := by
  obtain ⟨dx, lp, lq, ps, as, v⟩ := q
  have T := till_on (t := t) W U h
  refine ⟨dx, lp, lq, ps, as, ?_⟩
  rw [T.phs, T.trn, T.nw, T.fl, T.on]
  have v : Vw C_Phase C_Player C_Clocks H x dx lp lq ps as c.phases (ranL c u (t - c.now)) t (!decide ((ranP c u (t - c.now)).left = 0)) c.turn (u + (t - c.now)) (if (ranP c u (t - c.now)).left = 0 then some c.turn else none) := v
  refine v.congr (by rw [T.len, ranL_len]) fun i p p' h1 h2 => ?_
  have e := ran_till W U h h1 h2
  exact (show plF (noU p') = plF (noU p) from congrArg plF e)
def spUntil (C_Phase C_Player C_Clocks : Addr) : Sp := fun vs H Q _ => ∃ (x : Addr) (t : Nat) (c : Kyc.Clock) (u : Nat), vs = [.ref x, nV t] ∧ Wf c ∧ Us c u ∧ c.now ≤ t ∧ CkAt C_Phase C_Player C_Clocks H x c u ∧
  ∀ (H' : Hp) (u' : Nat), CkAt C_Phase C_Player C_Clocks H' x (Kyc.till c t) u' → Wf (Kyc.till c t) → Us (Kyc.till c t) u' → Kp H H' → Q .non H'
theorem ok_Clocks_run_until (F : Fun K "run_until" "Clocks.run_until" s_Clocks_run_until f fd) (T : Txt K mg C_Phase C_Player C_Clocks)
    (U_Clocks_run : MtU P w K mg base 2 C_Clocks "run" ["self", "span"] (spRun C_Phase C_Player C_Clocks)) :
    FnOk P w K mg base CX0 3 f fd ["self", "t"] (spUntil C_Phase C_Player C_Clocks) := by
  refine F.ok sc_Clocks_run_until (fun vs H Q E h => ?_) (fun cdv A outer s H vs Q E hr h => ?_)
  · obtain ⟨x, t, c, u, rfl, _⟩ := h
    rfl
  · obtain ⟨x, t, c, u, rfl, W, U, ht, ⟨dx, lp, lq, ps, as, v⟩, k⟩ := h
    refine ⟨_, (pss_cons (ps_set (i := 2) sc_Clocks_run_until.nd rfl (Or.inl rfl) (pe_sub (pv 1) (pe_fldK (pv 0) rfl)))
        (pss_cons (ps_fld (pv 0) (pv 1) rfl)
        (pss_one (ps_if (pt_val (pe_fldK (pv 0) rfl)) (pss_one (ps_expr (pe_mth U_Clocks_run T.c_Clocks (pv 0) (hr.mono (by decide)) (pa_cons (pv 2) pa_nil)))) pss_nil)))), ?_⟩
    refine ⟨_, rfl, _, rfl, x, _, dx, _, _, rfl, v.obj, T.c_Clocks, T.n_Clocks_moment, ck_moment, _, _, rfl, rfl, ?_⟩
    have e1 : V.int ((t : Int) - (c.now : Int)) = nV (t - c.now) := congrArg V.int (by omega)
    refine ⟨_, rfl, _, rfl, x, _, dx, _, rfl, v.obj, T.c_Clocks, T.n_Clocks_moment, ck_len, ?_⟩
    rw [ck_put_moment]
    have v1 := v.setx t c.on c.turn u c.fallen
    refine ⟨_, rfl, x, _, dx, _, _, rfl, v1.obj, T.c_Clocks, T.n_Clocks_running, ck_running, _, rfl, ?_⟩
    cases hon : c.on with
    | true =>
      refine iteT ?_
      rw [hon] at v1
      refine ⟨_, rfl, x, dx, _, rfl, v1.obj, (by kernel_rfl), _, rfl, x, t - c.now, { c with now := t }, u, (congrArg (fun z => [V.ref x, z]) e1), W.off t, hon, ⟨dx, lp, lq, ps, as, (by show Vw _ _ _ _ x dx lp lq ps as c.phases c.players t c.on c.turn u c.fallen; rw [hon]; exact v1)⟩, fun H' q kp => ?_⟩
      have TT := till_on (t := t) W U hon
      exact k H' _ (ckAt_till W U hon q) (TT.wf W hon) (TT.us W U hon) ((Kp.upd v.obj).trans kp)
    | false =>
      refine iteF ?_
      have e := till_off (c := c) (t := t) (.inl hon)
      rw [e] at k
      rw [hon] at v1
      exact k _ u ⟨dx, lp, lq, ps, as, (by show Vw _ _ _ _ x dx lp lq ps as c.phases c.players t c.on c.turn u c.fallen; rw [hon]; exact v1)⟩ (W.off t) U (Kp.upd v.obj)
/-! ### end_move -/
def spEnd (C_Phase C_Player C_Clocks : Addr) : Sp := fun vs H Q _ => ∃ (x : Addr) (c : Kyc.Clock) (u : Nat), vs = [.ref x] ∧ Wf c ∧ Us c u ∧ c.fallen = none ∧ CkAt C_Phase C_Player C_Clocks H x c u ∧
  ∀ H' : Hp, CkAt C_Phase C_Player C_Clocks H' x (Kyc.pressed c) 0 → Kp H H' → Q .non H'
theorem ok_Clocks_end_move (F : Fun K "end_move" "Clocks.end_move" s_Clocks_end_move f fd) (T : Txt K mg C_Phase C_Player C_Clocks)
    (U_left_when_moved : FnU P w K mg base 1 "left_when_moved" ["player", "phase", "used"] (spLwm C_Phase C_Player)) (U_Player_enter_next : MtU P w K mg base 1 C_Player "enter_next" ["self", "phase"] (spEnter C_Phase C_Player))
    (U_Clocks_next_number : MtU P w K mg base 1 C_Clocks "next_number" ["self"] (spNext C_Phase C_Player C_Clocks)) :
    FnOk P w K mg base CX0 2 f fd ["self"] (spEnd C_Phase C_Player C_Clocks) := by
  refine F.ok sc_Clocks_end_move (fun vs H Q E h => ?_) (fun cdv A outer s H vs Q E hr h => ?_)
  · obtain ⟨x, c, u, rfl, _⟩ := h
    rfl
  · obtain ⟨x, c, u, rfl, W, U, hf, ⟨dx, lp, lq, ps, as, v⟩, k⟩ := h
    refine ⟨_, (pss_cons (ps_set (i := 1) sc_Clocks_end_move.nd rfl (Or.inl rfl) (pe_ix (ix_listK (K := K)) (pe_fldK (pv 0) rfl) (pe_fldK (pv 0) rfl) (fun _ _ => rfl)))
        (pss_cons (ps_set (i := 2) sc_Clocks_end_move.nd rfl (Or.inl rfl) (pe_ix (ix_listK (K := K)) (pe_fldK (pv 0) rfl) (pe_fldK (pv 1) rfl) (fun _ _ => rfl)))
        (pss_cons (ps_fld (pv 1) (pe_fn U_left_when_moved (hr.mono (by decide)) rfl (pa_cons (pv 1) (pa_cons (pv 2) (pa_cons (pe_fldK (pv 0) rfl) pa_nil)))) rfl)
        (pss_cons (ps_fldaug (pv 1) pe_int in_add)
        (pss_cons (ps_if (pt_cmp (pc_eqI (pe_fldK (pv 1) rfl) (pe_fldK (pv 2) rfl))) (pss_one (ps_expr (pe_mth U_Player_enter_next T.c_Player (pv 1) (hr.mono (by decide)) (pa_cons (pe_ix (ix_listK (K := K)) (pe_fldK (pv 0) rfl) (pe_add (pe_fldK (pv 1) rfl) pe_int) (fun _ _ => rfl)) pa_nil)))) pss_nil)
        (pss_cons (ps_if (pt_cmp (pc_neI (pe_fldK (pv 2) rfl) (pe_gi rfl T.g_HOURGLASS))) (pss_one (ps_fld (pv 1) (pe_callB (call_min2 rfl) (by rfl) T.b_min PyProof.Rows.boot_min (pa_cons (pe_fldK (pv 1) rfl) (pa_cons (pe_gi rfl T.g_MOST_LEFT) pa_nil))) rfl)) pss_nil)
        (pss_cons (ps_fld (pv 0) (pe_mth0 U_Clocks_next_number T.c_Clocks (pv 0) (hr.mono (by decide))) rfl)
        (pss_one (ps_fld (pv 0) pe_int rfl))))))))), ?_⟩
    have hpt := W.pt
    obtain ⟨ap, hap⟩ := get_of_len v.len.symm hpt
    obtain ⟨dp, hp⟩ := v.at_ _ _ _ hap hpt
    have hw := W.pl _ (List.mem_of_getElem? hpt)
    have hu : (Kyc.player c c.turn).used = u := by rw [U hf _ _ hpt, if_pos rfl]
    subst hu
    have hqt : c.phases[(Kyc.player c c.turn).phase]? = some (Kyc.phaseAt c (Kyc.player c c.turn).phase) := get_of_lt Kyc.plain hw.ph
    obtain ⟨hqo, h5, hm⟩ := W.q hw.ph
    obtain ⟨aq, haq⟩ := get_of_len v.phs.len.symm hqt
    obtain ⟨dq, hq⟩ := v.phs.at_ _ _ _ haq hqt
    have hnp : ap ≠ aq := Ne.symm (ph_ne_pl hq hp)
    generalize hq_ : Kyc.phaseAt c (Kyc.player c c.turn).phase = q at *
    generalize hp_ : Kyc.player c c.turn = p at *
    refine ⟨_, rfl, x, _, dx, _, _, rfl, v.obj, T.c_Clocks, T.n_Clocks_players, ck_players, _, rfl, x, _, dx, _, _, rfl, v.obj, T.c_Clocks, T.n_Clocks_mover, ck_mover, lq, _, _, _, rfl, rfl, SqL.of v.lst, atI_nat (ref_get hap), ?_⟩
    refine ⟨_, rfl, x, _, dx, _, _, rfl, v.obj, T.c_Clocks, T.n_Clocks_phases, ck_phases, _, rfl, ap, _, dp, _, _, rfl, hp, T.c_Player, T.n_Player_phase_number, pl_phase_number _, lp, _, _, _, rfl, rfl, SqL.of v.phs.lst, atI_nat (ref_get haq), ?_⟩
    -- player.time_left = left_when_moved(player, phase, self.used)
    refine ⟨_, rfl, _, rfl, _, rfl, x, _, dx, _, _, rfl, v.obj, T.c_Clocks, T.n_Clocks_used, ck_used, ap, aq, p, q, p.used, rfl, ⟨dp, hp⟩, ⟨dq, hq⟩, _, rfl, ap, _, dp, _, rfl, hp, T.c_Player, T.n_Player_time_left, pl_len _, ?_⟩
    rw [pl_put_time_left]
    -- player.moves += 1
    refine ⟨_, rfl, ap, _, dp, _, _, rfl, upd_same, T.c_Player, T.n_Player_moves, pl_moves _, _, _, rfl, rfl, dp, _, upd_same, pl_len _, ?_⟩
    have e1 : V.int ((p.done : Int) + 1) = nV (p.done + 1) := congrArg V.int (by omega)
    have e2 : putF "moves" (V.int ((p.done : Int) + 1)) (plF { p with left := leftMoved q p p.used }) = plF { p with left := leftMoved q p p.used, done := p.done + 1 } := by
      rw [e1]; exact pl_put_moves _ _
    rw [upd_upd]
    have h1 : upd H ap (.ins C_Player dp (putF "moves" (V.int ((p.done : Int) + 1)) (plF { p with left := leftMoved q p p.used }))) ap = some (.ins C_Player dp (plF { p with left := leftMoved q p p.used, done := p.done + 1 })) := upd_same.trans (congrArg (fun z => some (HO.ins C_Player dp z)) e2)
    have k1 : ∀ b, b ≠ ap → upd H ap (.ins C_Player dp (putF "moves" (V.int ((p.done : Int) + 1)) (plF { p with left := leftMoved q p p.used }))) b = H b := fun b hb => upd_ne hb
    have kp1 : Kp H (upd H ap (.ins C_Player dp (putF "moves" (V.int ((p.done : Int) + 1)) (plF { p with left := leftMoved q p p.used })))) := Kp.but hp k1
    have v1 := v.setp hap h1 k1
    generalize upd H ap (.ins C_Player dp (putF "moves" (V.int ((p.done : Int) + 1)) (plF { p with left := leftMoved q p p.used }))) = H1 at h1 k1 kp1 v1
    have hq1 : H1 aq = some (.ins C_Phase dq (phF q)) := by rw [k1 aq (Ne.symm hnp)]; exact hq
    -- the end, from: if phase.kind != HOURGLASS
    have fin : ∀ (H2 : Hp) (p2 : Kyc.Player), H2 ap = some (.ins C_Player dp (plF p2)) → (∀ b, b ≠ ap → H2 b = H b) → noU (capped q p2) = noU (Kyc.ended c p) →
        tSeq (tIfS (tB (tNeI (tFld K (tVar 2) "kind") (tC (.int 5)))) (sFld K (tVar 1) (tCB (fun xs H Q => ∃ i j, xs = [.int i, .int j] ∧ Q (.int (if j < i then j else i)) H) (tCons (tFld K (tVar 1) "time_left") (tCons (tC (.int 1000000000)) tNil))) "time_left") tNext)
          (tSeq (sFld K (tVar 0) (tMeth C_Clocks "next_number" (spNext C_Phase C_Player C_Clocks) [] E0 (tVar 0) tNil) "mover") (sFld K (tVar 0) (tC (.int 0)) "used"))
          { nx := fun _ H' => Q .non H', rt := Q } [some (.ref x), some (.ref ap), some (.ref aq)] H2 := fun H2 p2 h2 k2 ee => by
      have hq2 : H2 aq = some (.ins C_Phase dq (phF q)) := by rw [k2 aq (Ne.symm hnp)]; exact hq
      have last : ∀ H3 : Hp, H3 ap = some (.ins C_Player dp (plF (capped q p2))) → (∀ b, b ≠ ap → H3 b = H b) →
          tSeq (sFld K (tVar 0) (tMeth C_Clocks "next_number" (spNext C_Phase C_Player C_Clocks) [] E0 (tVar 0) tNil) "mover") (sFld K (tVar 0) (tC (.int 0)) "used")
          { nx := fun _ H' => Q .non H', rt := Q } [some (.ref x), some (.ref ap), some (.ref aq)] H3 := fun H3 h3 k3 => by
        have e3 : plF (capped q p2) = plF (Kyc.ended c p) := (show plF (noU (capped q p2)) = plF (noU (Kyc.ended c p)) from congrArg plF ee)
        rw [e3] at h3
        have v3 := v.setp hap h3 k3
        have hlset : (c.players.set c.turn (Kyc.ended c p)).length = c.players.length := List.length_set
        refine ⟨_, rfl, x, dx, _, rfl, v3.obj, (by kernel_rfl), x, dx, lp, lq, ps, as, _, _, _, _, _, _, _, rfl, v3, (by rw [hlset]; have := W.np; omega), ?_⟩
        rw [hlset]
        refine ⟨_, rfl, x, _, dx, _, rfl, v3.obj, T.c_Clocks, T.n_Clocks_mover, ck_len, ?_⟩
        rw [ck_put_mover]
        have v4 := v3.setx c.now c.on ((c.turn + 1) % c.players.length) p.used c.fallen
        refine ⟨_, rfl, x, _, dx, _, rfl, v4.obj, T.c_Clocks, T.n_Clocks_used, ck_len, ?_⟩
        have e4 : V.int 0 = nV 0 := rfl
        rw [e4, ck_put_used]
        have v5 := v4.setx c.now c.on ((c.turn + 1) % c.players.length) 0 c.fallen
        refine k _ ⟨dx, lp, lq, ps, as, ?_⟩ ((Kp.but hp k3).trans ((Kp.upd v3.obj).trans (Kp.upd v4.obj)))
        show Vw _ _ _ _ x dx lp lq ps as c.phases (c.players.set c.turn (Kyc.ended c (Kyc.player c c.turn))) c.now c.on (Kyc.next c) 0 c.fallen
        rw [hp_]
        exact v5
      refine ⟨_, rfl, aq, _, dq, _, _, rfl, hq2, T.c_Phase, T.n_Phase_kind, ph_kind q, _, _, rfl, rfl, _, rfl, ?_⟩
      by_cases hk : q.kind = 5
      · refine iteFb (bnF (show (q.kind : Int) = 5 by omega)) (last H2 ?_ k2)
        unfold capped
        rw [if_pos hk]
        exact h2
      · refine iteTb (bnT (show ¬ (q.kind : Int) = 5 by omega)) ?_
        refine ⟨_, rfl, ap, _, dp, _, _, rfl, h2, T.c_Player, T.n_Player_time_left, pl_time_left p2, _, _, rfl, _, rfl, ap, _, dp, _, rfl, h2, T.c_Player, T.n_Player_time_left, pl_len _, ?_⟩
        have e5 : V.int (if (1000000000 : Int) < (p2.left : Int) then 1000000000 else (p2.left : Int)) = nV (min Kyc.full p2.left) := by
          refine congrArg V.int ?_
          unfold Kyc.full
          split <;> omega
        rw [e5, pl_put_time_left]
        refine last _ (upd_same.trans ?_) fun b hb => (upd_ne hb).trans (k2 b hb)
        unfold capped
        rw [if_neg hk]
    have ee : noU (moved c p) = noU (Kyc.ended c p) := ended_noU (by rw [hq_]; exact h5)
    unfold moved at ee
    rw [hq_] at ee
    -- if player.moves == phase.moves
    refine ⟨_, rfl, ap, _, dp, _, _, rfl, h1, T.c_Player, T.n_Player_moves, pl_moves _, _, rfl, aq, _, dq, _, _, rfl, hq1, T.c_Phase, T.n_Phase_moves, ph_moves q, _, _, rfl, rfl, _, rfl, ?_⟩
    by_cases hmv : p.done + 1 = q.moves
    · have hd : decide ((((p.done + 1 : Nat)) : Int) = (q.moves : Int)) = true := decide_eq_true (by omega)
      dsimp only at ee
      rw [if_pos hmv] at ee
      have hlt := hm (by omega)
      have hqt2 : c.phases[p.phase + 1]? = some (Kyc.phaseAt c (p.phase + 1)) := get_of_lt Kyc.plain hlt
      obtain ⟨ar, har⟩ := get_of_len v1.phs.len.symm hqt2
      obtain ⟨dr, hr2⟩ := v1.phs.at_ _ _ _ har hqt2
      refine iteTb hd ?_
      have e6 : ((p.phase : Nat) : Int) + 1 = ((p.phase + 1 : Nat) : Int) := by omega
      refine ⟨_, rfl, ap, dp, _, rfl, h1, (by kernel_rfl), _, rfl, x, _, dx, _, _, rfl, v1.obj, T.c_Clocks, T.n_Clocks_phases, ck_phases, _, rfl, ap, _, dp, _, _, rfl, h1, T.c_Player, T.n_Player_phase_number, pl_phase_number _, _, _, rfl, rfl, lp, _, _, _, rfl, rfl, SqL.of v1.phs.lst, at_of e6 (ref_get har), ap, dp, ar, _, _, rfl, h1, ⟨dr, hr2⟩, fun H2 h2 k2 => ?_⟩
      exact fin H2 _ h2 (fun b hb => (k2 b hb).trans (k1 b hb)) ee
    · have hd : decide ((((p.done + 1 : Nat)) : Int) = (q.moves : Int)) = false := decide_eq_false (by omega)
      dsimp only at ee
      rw [if_neg hmv] at ee
      refine iteFb hd ?_
      exact fin H1 _ h1 k1 ee
end
end Pc

set_option Elab.async false
set_option linter.all false
set_option maxRecDepth 100000
set_option maxHeartbeats 2000000
namespace Pc
open PySem PySem.Spec PyProof.Rows L2
section
variable {P : Program} {w : World} {K : PySem.W.Frag} {mg : Str → Option Value} {base : Heap} {C_Phase C_Player C_Clocks f : Addr} {fd : FuncData}
/-! ### lay_out -/
def fresh (q : Kyc.Phase) : Kyc.Player := ⟨0, 0, q.main, q.periods, false, 0⟩
def isCk (fs : List (Str × V)) : Prop := fs = [] ∨ ∃ (lp lq : Addr) (now : Nat) (on : Bool) (turn u : Nat) (lo : Option Nat), fs = ckF lp lq now on turn u lo
theorem isCk.put {fs : List (Str × V)} (h : isCk fs) (lp lq : Addr) :
    putF "loser" .non (putF "used" (.int 0) (putF "mover" (.int 0) (putF "running" (.bl false) (putF "moment" (.int 0) (putF "players" (.ref lq) (putF "phases" (.ref lp) fs)))))) = ckF lp lq 0 false 0 0 none := by
  rcases h with rfl | ⟨lp', lq', now, on, turn, u, lo, rfl⟩ <;> kernel_rfl
theorem isCk.len {fs : List (Str × V)} (h : isCk fs) : fs.length ≤ 7 := by
  rcases h with rfl | ⟨lp', lq', now, on, turn, u, lo, rfl⟩
  · exact Nat.zero_le _
  · exact Nat.le_refl _
theorem isCk.ne_ph {fs : List (Str × V)} (h : isCk fs) (q : Kyc.Phase) : fs ≠ phF q := fun z => by
  have e := congrArg (fun l => l.lookup ("main" : Str)) z
  have e : fs.lookup ("main" : Str) = (phF q).lookup ("main" : Str) := e
  rw [ph_main] at e
  rcases h with rfl | ⟨lp', lq', now, on, turn, u, lo, rfl⟩
  · cases e
  · have e2 : (ckF lp' lq' now on turn u lo).lookup ("main" : Str) = none := by kernel_rfl
    rw [e2] at e; cases e
def spLay (C_Phase C_Player C_Clocks : Addr) : Sp := fun vs H Q _ => ∃ (x dx : Addr) (n : Nat) (lp : Addr) (ps : List Addr) (qs : List Kyc.Phase) (fs : List (Str × V)), vs = [.ref x, nV n, .ref lp] ∧ H x = some (.ins C_Clocks dx fs) ∧ isCk fs ∧
  PhsAt C_Phase H lp ps qs ∧ (n = 0 ∨ 1 ≤ qs.length) ∧ n ≤ 4 ∧
  ∀ (H' : Hp) (lq : Addr) (as : List Addr), Vw C_Phase C_Player C_Clocks H' x dx lp lq ps as qs (List.replicate n (fresh (qs.headD Kyc.plain))) 0 false 0 0 none → Kp H H' → Q .non H'
theorem ok_Clocks_lay_out (F : Fun K "lay_out" "Clocks.lay_out" s_Clocks_lay_out f fd) (T : Txt K mg C_Phase C_Player C_Clocks)
    (U_Player_init : MkU P w K mg base 1 C_Player "Player" ["self", "phase"] (spPlayer_init C_Phase C_Player)) :
    FnOk P w K mg base CX0 3 f fd ["self", "count", "phases"] (spLay C_Phase C_Player C_Clocks) := by
  refine F.ok sc_Clocks_lay_out (fun vs H Q E h => ?_) (fun cdv A outer s H vs Q E hr h => ?_)
  · obtain ⟨x, dx, n, lp, ps, qs, fs, rfl, _⟩ := h
    rfl
  · obtain ⟨x, dx, n, lp, ps, qs, fs, rfl, hx, hck, hphs, hn0, hn4, k⟩ := h
    refine ⟨_, (pss_cons (ps_fld (pv 0) (pv 2) rfl)
        (pss_cons (ps_fld (pv 0) (pe_lc (own := [("k", 3)]) rfl sc_Clocks_lay_out.nd (pi_range1 rfl T.b_range (pa_cons (pv 1) pa_nil)) (show BlkOk ["self", "count", "phases", "k"] (defScope s_Clocks_lay_out) _ _ from blkOk_by (by decide +kernel)) (fun _ _ _ _ _ => pg_name (i := 3) sc_Clocks_lay_out.nd rfl (Or.inl rfl)) (fun _ _ _ _ _ => pts_nil) (fun _ _ _ _ _ => (pe_mk U_Player_init (hr.mono (by decide)) rfl (pa_cons (pe_ix (ix_listK (K := K)) (pv 2) pe_int (fun _ _ => rfl)) pa_nil)))) rfl)
        (pss_cons (ps_fld (pv 0) pe_int rfl)
        (pss_cons (ps_fld (pv 0) pe_bl rfl)
        (pss_cons (ps_fld (pv 0) pe_int rfl)
        (pss_cons (ps_fld (pv 0) pe_int rfl)
        (pss_one (ps_fld (pv 0) pe_non rfl)))))))), ?_⟩
    have l0 := hck.len
    have kx : ∀ (o : HO) b, b ≠ x → upd H x o b = H b := fun o b hb => upd_ne hb
    -- self.phases = phases
    refine ⟨_, rfl, _, rfl, x, _, dx, _, rfl, hx, T.c_Clocks, T.n_Clocks_phases, Nat.lt_of_le_of_lt l0 (by decide), ?_⟩
    have l1 := put_le (g := "phases") (v := .ref lp) l0
    have hphs1 : PhsAt C_Phase (upd H x (.ins C_Clocks dx (putF "phases" (.ref lp) fs))) lp ps qs := by
      refine ⟨?_, hphs.len, fun i a q h1 h2 => ?_⟩
      · rw [upd_ne (ne_of hphs.lst hx (by intro z; cases z))]; exact hphs.lst
      · obtain ⟨d, e⟩ := hphs.at_ i a q h1 h2
        refine ⟨d, ?_⟩
        rw [upd_ne (ne_of e hx (by
          intro z
          injection z with _ _ z
          exact hck.ne_ph q z.symm))]
        exact e
    have kp1 : Kp H (upd H x (.ins C_Clocks dx (putF "phases" (.ref lp) fs))) := Kp.upd hx
    have hx1 : upd H x (.ins C_Clocks dx (putF "phases" (.ref lp) fs)) x = some (.ins C_Clocks dx (putF "phases" (.ref lp) fs)) := upd_same
    generalize upd H x (.ins C_Clocks dx (putF "phases" (.ref lp) fs)) = H1 at hphs1 kp1 hx1
    -- self.players = [Player(phases[0]) for k in range(count)]
    refine ⟨_, rfl, (n : Int), rfl, (by omega), (by omega), ?_⟩
    intro D hD
    rw [Int.toNat_natCast]
    refine lc_range (Pv := fun i H' => ∃ as : List Addr, H' D = some (.lst (as.map V.ref)) ∧ as.length = i ∧ as.Nodup ∧ (∀ a ∈ as, ∃ dp, H' a = some (.ins C_Player dp (plF (fresh (qs.headD Kyc.plain))))) ∧ Same H1 H') ?_ ?_ ?_
    · exact ⟨[], upd_same, rfl, List.nodup_nil, fun a h => by simp at h, same_new hD⟩
    · rintro i H2 hi ⟨as, hD2, hlen2, hnd, hat, s2⟩
      have hq0 : qs[0]? = some (qs.headD Kyc.plain) := by
        rcases hn0 with z | z
        · omega
        · cases qs with
          | nil => simp at z
          | cons q r => rfl
      obtain ⟨aq, haq⟩ := get_of_len hphs1.len.symm hq0
      obtain ⟨dq, hq⟩ := hphs1.at_ 0 aq _ haq hq0
      refine ⟨rfl, ?_⟩
      unfold tYes
      refine iteT ?_
      refine ⟨_, rfl, lp, _, _, _, rfl, rfl, SqL.of (s2 _ _ hphs1.lst), at_of (j := 0) rfl (ref_get haq), ?_⟩
      intro y dy ny nd ne
      refine ⟨y, dy, aq, qs.headD Kyc.plain, rfl, upd_same, ⟨dq, ?_⟩, fun H3 h3 k3 => ⟨rfl, ?_⟩⟩
      · rw [upd_ne (ne_of_none (s2 _ _ hq) ny), upd_ne (ne_of_none (s2 _ _ hq) nd)]
        exact s2 _ _ hq
      · have s3 : Same H2 H3 := Same.made ny nd fun b o e hb => by rw [k3 b hb]; exact e
        have hD3 := s3 _ _ hD2
        refine ⟨as.map V.ref, hD3, ?_, as ++ [y], ?_, ?_, ?_, ?_, ?_⟩
        · rw [List.length_map, hlen2]
          exact Nat.lt_of_lt_of_le hi (Nat.le_trans hn4 (by decide))
        · rw [upd_same, List.map_append]; rfl
        · rw [List.length_append, hlen2]; rfl
        · refine nd_snoc hnd fun m => ?_
          obtain ⟨dp, e⟩ := hat y m
          rw [ny] at e; cases e
        · intro a ha
          rcases List.mem_append.mp ha with m | m
          · obtain ⟨dp, e⟩ := hat a m
            have e := s3 _ _ e
            exact ⟨dp, by rw [upd_ne (ne_of e hD3 (by intro z; cases z))]; exact e⟩
          · have ea := List.mem_singleton.mp m
            subst ea
            exact ⟨dy, by rw [upd_ne (ne_of h3 hD3 (by intro z; cases z))]; exact h3⟩
        · intro b o e
          rw [upd_ne (ne_of_none e hD)]
          exact s3 _ _ (s2 _ _ e)
    · rintro H2 ⟨as, hD2, hlen2, hnd, hat, s2⟩
      have hx2 := s2 _ _ hx1
      have l2 := put_le (g := "players") (v := .ref D) l1
      have l3 := put_le (g := "moment") (v := .int 0) l2
      have l4 := put_le (g := "running") (v := .bl false) l3
      have l5 := put_le (g := "mover") (v := .int 0) l4
      have l6 := put_le (g := "used") (v := .int 0) l5
      refine ⟨_, rfl, x, _, dx, _, rfl, hx2, T.c_Clocks, T.n_Clocks_players, Nat.lt_of_le_of_lt l1 (by decide), ?_⟩
      refine ⟨_, rfl, x, _, dx, _, rfl, upd_same, T.c_Clocks, T.n_Clocks_moment, Nat.lt_of_le_of_lt l2 (by decide), ?_⟩
      rw [upd_upd]
      refine ⟨_, rfl, x, _, dx, _, rfl, upd_same, T.c_Clocks, T.n_Clocks_running, Nat.lt_of_le_of_lt l3 (by decide), ?_⟩
      rw [upd_upd]
      refine ⟨_, rfl, x, _, dx, _, rfl, upd_same, T.c_Clocks, T.n_Clocks_mover, Nat.lt_of_le_of_lt l4 (by decide), ?_⟩
      rw [upd_upd]
      refine ⟨_, rfl, x, _, dx, _, rfl, upd_same, T.c_Clocks, T.n_Clocks_used, Nat.lt_of_le_of_lt l5 (by decide), ?_⟩
      rw [upd_upd]
      refine ⟨_, rfl, x, _, dx, _, rfl, upd_same, T.c_Clocks, T.n_Clocks_loser, Nat.lt_of_le_of_lt l6 (by decide), ?_⟩
      rw [upd_upd, hck.put lp D]
      refine k _ D as ?_ (kp1.trans ((Kp.same s2).trans (Kp.upd hx2)))
      refine ⟨upd_same, ⟨?_, hphs1.len, fun i a q h1 h2 => ?_⟩, ?_, by rw [hlen2, List.length_replicate], hnd, fun i a p h1 h2 => ?_⟩
      · rw [upd_ne (ne_of (s2 _ _ hphs1.lst) hx2 (by intro z; cases z))]; exact s2 _ _ hphs1.lst
      · obtain ⟨d, e⟩ := hphs1.at_ i a q h1 h2
        refine ⟨d, ?_⟩
        rw [upd_ne (ne_of (s2 _ _ e) hx2 (by
          intro z
          injection z with _ _ z
          have e1 := congrArg (fun l => l.lookup ("phases" : Str)) z
          have e1 : (phF q).lookup ("phases" : Str) = (putF "phases" (.ref lp) fs).lookup ("phases" : Str) := e1
          rw [lookup_putF, if_pos rfl] at e1
          have e2 : (phF q).lookup ("phases" : Str) = none := by kernel_rfl
          rw [e2] at e1; cases e1))]
        exact s2 _ _ e
      · rw [upd_ne (ne_of hD2 hx2 (by intro z; cases z))]; exact hD2
      · have ep := (List.mem_replicate.mp (List.mem_of_getElem? h2)).2
        subst ep
        obtain ⟨d, e⟩ := hat a (List.mem_of_getElem? h1)
        refine ⟨d, ?_⟩
        rw [upd_ne (ne_of e hx2 (by
          intro z
          injection z with _ _ z
          have e1 := congrArg (fun l => l.lookup ("phases" : Str)) z
          have e1 : (plF (fresh (qs.headD Kyc.plain))).lookup ("phases" : Str) = (putF "phases" (.ref lp) fs).lookup ("phases" : Str) := e1
          rw [lookup_putF, if_pos rfl] at e1
          have e2 : (plF (fresh (qs.headD Kyc.plain))).lookup ("phases" : Str) = none := by kernel_rfl
          rw [e2] at e1; cases e1))]
        exact e
/-! ### the object behind the calls -/
/-- what stands at x for a state of the specification -/
def CkS (C_Phase C_Player C_Clocks : Addr) (H : Hp) (x : Addr) : Option Kyc.Clock → Prop
  | none => ∃ (dx lp lq : Addr), H x = some (.ins C_Clocks dx (ckF lp lq 0 false 0 0 none))
  | some c => ∃ u, Wf c ∧ Us c u ∧ CkAt C_Phase C_Player C_Clocks H x c u
def spClocks_init (C_Phase C_Player C_Clocks : Addr) : Sp := fun vs H Q _ => ∃ (x dx : Addr), vs = [.ref x] ∧ H x = some (.ins C_Clocks dx []) ∧ ∀ H' : Hp, CkS C_Phase C_Player C_Clocks H' x none → Kp H H' → Q .non H'
theorem ok_Clocks_init (F : Fun K "__init__" "Clocks.__init__" s_Clocks_init f fd) (T : Txt K mg C_Phase C_Player C_Clocks)
    (U_Clocks_lay_out : MtU P w K mg base 3 C_Clocks "lay_out" ["self", "count", "phases"] (spLay C_Phase C_Player C_Clocks)) :
    FnOk P w K mg base CX0 4 f fd ["self"] (spClocks_init C_Phase C_Player C_Clocks) := by
  refine F.ok sc_Clocks_init (fun vs H Q E h => ?_) (fun cdv A outer s H vs Q E hr h => ?_)
  · obtain ⟨x, dx, rfl, _⟩ := h
    rfl
  · obtain ⟨x, dx, rfl, hx, k⟩ := h
    refine ⟨_, (pss_one (ps_expr (pe_mth U_Clocks_lay_out T.c_Clocks (pv 0) (hr.mono (by decide)) (pa_cons pe_int (pa_cons (pe_lst pa_nil) pa_nil))))), ?_⟩
    refine ⟨_, rfl, x, dx, _, rfl, hx, rfl, Nat.zero_le _, fun l hl => ?_⟩
    have hx1 : upd H l (.lst []) x = some (.ins C_Clocks dx []) := by rw [upd_ne (ne_of_none hx hl)]; exact hx
    refine ⟨x, dx, 0, l, [], [], [], rfl, hx1, .inl rfl, ⟨upd_same, rfl, fun i a q h => by simp at h⟩, .inl rfl, Nat.zero_le _, fun H' lq as v kp => ?_⟩
    exact k H' ⟨dx, l, lq, v.obj⟩ ((Kp.same (same_new hl)).trans kp)
def spStart (C_Phase C_Player C_Clocks : Addr) : Sp := fun vs H Q _ => ∃ (x : Addr) (n : Nat) (l : Addr) (ns : List Int) (m : Nat) (s : Option Kyc.Clock), vs = [.ref x, nV n, .ref l] ∧ CkS C_Phase C_Player C_Clocks H x s ∧
  H l = some (.lst (ns.map V.int)) ∧ ns.length = 5 * m ∧ m ≤ 8 ∧ (∀ z ∈ ns, 0 ≤ z) ∧
  ∀ (H' : Hp) (s' : Option Kyc.Clock) (r : Int), Kyc.acts s (.start n (KycNeutral.phasesOf ns)) = some (s', Kyc.say r) → CkS C_Phase C_Player C_Clocks H' x s' → Kp H H' → Q (.int r) H'
theorem CkS.same {H H' : Hp} {x : Addr} {s : Option Kyc.Clock} (q : CkS C_Phase C_Player C_Clocks H x s) (sm : Same H H') : CkS C_Phase C_Player C_Clocks H' x s := by
  cases s with
  | none => obtain ⟨dx, lp, lq, e⟩ := q; exact ⟨dx, lp, lq, sm _ _ e⟩
  | some c => obtain ⟨u, W, U, dx, lp, lq, ps, as, v⟩ := q; exact ⟨u, W, U, dx, lp, lq, ps, as, v.same sm⟩
theorem CkS.ins {H : Hp} {x : Addr} {s : Option Kyc.Clock} (q : CkS C_Phase C_Player C_Clocks H x s) : ∃ (dx lp lq : Addr) (now : Nat) (on : Bool) (turn u : Nat) (lo : Option Nat), H x = some (.ins C_Clocks dx (ckF lp lq now on turn u lo)) := by
  cases s with
  | none => obtain ⟨dx, lp, lq, e⟩ := q; exact ⟨dx, lp, lq, _, _, _, _, _, e⟩
  | some c => obtain ⟨u, W, U, dx, lp, lq, ps, as, v⟩ := q; exact ⟨dx, lp, lq, _, _, _, _, _, v.obj⟩
theorem ok_Clocks_start (F : Fun K "start" "Clocks.start" s_Clocks_start f fd) (T : Txt K mg C_Phase C_Player C_Clocks)
    (U_phases_of : FnU P w K mg base 3 "phases_of" ["numbers"] (spPhases_of C_Phase)) (U_phases_hold : FnU P w K mg base 3 "phases_hold" ["phases"] (spPhases_hold C_Phase))
    (U_Clocks_lay_out : MtU P w K mg base 3 C_Clocks "lay_out" ["self", "count", "phases"] (spLay C_Phase C_Player C_Clocks)) :
    FnOk P w K mg base CX0 4 f fd ["self", "count", "numbers"] (spStart C_Phase C_Player C_Clocks) := by
  refine F.ok sc_Clocks_start (fun vs H Q E h => ?_) (fun cdv A outer s H vs Q E hr h => ?_)
  · obtain ⟨x, n, l, ns, m, s, rfl, _⟩ := h
    rfl
  · obtain ⟨x, n, l, ns, m, s, rfl, hck, hl, hlen, hm, h0, k⟩ := h
    refine ⟨_, (pss_cons (ps_set (i := 3) sc_Clocks_start.nd rfl (Or.inl rfl) (pe_fn U_phases_of (hr.mono (by decide)) rfl (pa_cons (pv 2) pa_nil)))
        (pss_cons (ps_if (PW.pt (pw_or (pt_not (pt_chain op_le op_le (pe_gi rfl T.g_FEWEST_PLAYERS) (pv 1) (pe_gi rfl T.g_MOST_PLAYERS))) (pw_or1 (pt_not (pt_val (pe_fn U_phases_hold (hr.mono (by decide)) rfl (pa_cons (pv 3) pa_nil))))))) (pss_one (ps_ret (pe_gi rfl T.g_WRONG))) pss_nil)
        (pss_cons (ps_expr (pe_mth U_Clocks_lay_out T.c_Clocks (pv 0) (hr.mono (by decide)) (pa_cons (pv 1) (pa_cons (pv 3) pa_nil))))
        (pss_one (ps_ret pe_int))))), ?_⟩
    refine ⟨_, rfl, l, ns, m, rfl, hl, hlen, hm, h0, fun H1 D ps s1 hphs => ?_⟩
    generalize KycNeutral.phasesOf ns = qs at hphs k
    have bad : (n < 2 ∨ 4 < n ∨ qs.length < 1 ∨ 3 < qs.length ∨ Kyc.okPhases (qs.length == 1) qs = false) → ∀ H2, Same H H2 → Q (.int (-22)) H2 := fun hb H2 s2 => by
      refine k H2 s (-22) ?_ (hck.same s2) (Kp.same s2)
      show some (if n < 2 ∨ 4 < n ∨ qs.length < 1 ∨ 3 < qs.length ∨ Kyc.okPhases (qs.length == 1) qs = false then (s, Kyc.say (-22)) else (some (Kyc.begun n qs), Kyc.say 0)) = _
      rw [if_pos hb]
    refine ⟨_, rfl, _, _, rfl, rfl, _, rfl, ?_⟩
    have go : (2 ≤ n ∧ n ≤ 4) → tIfS (tNot (tB (tCall (spPhases_hold C_Phase) [] E0 (tCons (tVar 3) tNil)))) (tRet (tC (.int (-22)))) tNext
        { nx := tSeq (tDrop (tMeth C_Clocks "lay_out" (spLay C_Phase C_Player C_Clocks) [] E0 (tVar 0) (tCons (tVar 1) (tCons (tVar 3) tNil)))) (tRet (tC (.int 0))) { nx := fun _ H' => Q .non H', rt := Q }, rt := Q } [some (.ref x), some (nV n), some (.ref l), some (.ref D)] H1 := fun hn => by
      refine ⟨_, rfl, D, ps, qs, rfl, hphs, fun H2 s2 => ⟨_, rfl, ?_⟩⟩
      cases hh : holdsAll qs with
      | false =>
        refine iteT (bad ?_ H2 (s1.trans s2))
        unfold holdsAll at hh
        cases ho : Kyc.okPhases (qs.length == 1) qs with
        | false => exact .inr (.inr (.inr (.inr rfl)))
        | true =>
          rw [ho, Bool.and_true, Bool.and_eq_false_iff, decide_eq_false_iff_not, decide_eq_false_iff_not] at hh
          omega
      | true =>
        refine iteF ?_
        unfold holdsAll at hh
        rw [Bool.and_eq_true, Bool.and_eq_true, decide_eq_true_eq, decide_eq_true_eq] at hh
        obtain ⟨⟨g1, g2⟩, g3⟩ := hh
        have hck2 := hck.same (s1.trans s2)
        obtain ⟨dx, lp0, lq0, now0, on0, turn0, u0, lo0, hx2⟩ := hck2.ins
        refine ⟨_, rfl, x, dx, _, rfl, hx2, (by kernel_rfl), _, rfl, _, rfl, x, dx, n, D, ps, qs, _, rfl, hx2, .inr ⟨lp0, lq0, now0, on0, turn0, u0, lo0, rfl⟩, hphs.same s2, .inr g1, hn.2, fun H3 lq as v kp => ?_⟩
        obtain ⟨W, U⟩ := begun_wf hn.1 hn.2 g1 g3
        refine k H3 (some (Kyc.begun n qs)) 0 ?_ ⟨0, W, U, dx, D, lq, ps, as, v⟩ ((Kp.same (s1.trans s2)).trans kp)
        show some (if n < 2 ∨ 4 < n ∨ qs.length < 1 ∨ 3 < qs.length ∨ Kyc.okPhases (qs.length == 1) qs = false then (s, Kyc.say (-22)) else (some (Kyc.begun n qs), Kyc.say 0)) = _
        rw [if_neg (fun z => by
          rcases z with z | z | z | z | z
          · omega
          · omega
          · omega
          · omega
          · rw [g3] at z; cases z)]
    refine ite2 (fun h1 => ?_) fun h1 => ?_
    · have h1 := of_decide_eq_true h1
      refine ⟨_, _, rfl, rfl, _, rfl, ?_⟩
      cases e4 : decide ((n : Int) ≤ 4) with
      | false =>
        have e4 := of_decide_eq_false e4
        exact iteT (iteT (bad (.inr (.inl (by omega))) H1 s1))
      | true =>
        have e4 := of_decide_eq_true e4
        exact iteF (go ⟨by omega, by omega⟩)
    · have h1 : ¬ (2 : Int) ≤ (n : Int) := fun z => h1 (decide_eq_true z)
      exact ⟨_, rfl, iteT (iteT (bad (.inl (by omega)) H1 s1))⟩
/-! ### go, now -/
def spAct (C_Phase C_Player C_Clocks : Addr) (g : Nat → Kyc.Call) : Sp := fun vs H Q _ => ∃ (x : Addr) (t : Nat) (c : Kyc.Clock), vs = [.ref x, nV t] ∧ CkS C_Phase C_Player C_Clocks H x (some c) ∧
  ∀ (H' : Hp) (c' : Kyc.Clock) (r : Int), Kyc.acts (some c) (g t) = some (some c', Kyc.say r) → CkS C_Phase C_Player C_Clocks H' x (some c') → Kp H H' → Q (.int r) H'
theorem ok_Clocks_go (F : Fun K "go" "Clocks.go" s_Clocks_go f fd) (T : Txt K mg C_Phase C_Player C_Clocks)
    (U_Clocks_may_become : MtU P w K mg base 1 C_Clocks "may_become" ["self", "t"] (spMay C_Phase C_Player C_Clocks)) :
    FnOk P w K mg base CX0 2 f fd ["self", "t"] (spAct C_Phase C_Player C_Clocks Kyc.Call.go) := by
  refine F.ok sc_Clocks_go (fun vs H Q E h => ?_) (fun cdv A outer s H vs Q E hr h => ?_)
  · obtain ⟨x, t, c, rfl, _⟩ := h
    rfl
  · obtain ⟨x, t, c, rfl, hck, k⟩ := h
    refine ⟨_, (pss_cons (ps_if (pt_not (pt_val (pe_mth U_Clocks_may_become T.c_Clocks (pv 0) (hr.mono (by decide)) (pa_cons (pv 1) pa_nil)))) (pss_one (ps_ret (pe_gi rfl T.g_WRONG))) pss_nil)
        (pss_cons (ps_if (pt_cmp (pc_notN (pe_fldK (pv 0) rfl))) (pss_one (ps_ret (pe_gi rfl T.g_ALREADY_FALLEN))) pss_nil)
        (pss_cons (ps_if (pt_val (pe_fldK (pv 0) rfl)) (pss_one (ps_ret (pe_gi rfl T.g_GOES_ALREADY))) pss_nil)
        (pss_cons (ps_fld (pv 0) (pv 1) rfl)
        (pss_cons (ps_fld (pv 0) pe_bl rfl)
        (pss_one (ps_ret pe_int))))))), ?_⟩
    have stay : ∀ r, Kyc.acts (some c) (.go t) = some (some c, Kyc.say r) → Q (.int r) H := fun r e => k H c r e hck (Kp.refl H)
    obtain ⟨u, W, U, hat⟩ := hck
    have hat' := hat
    obtain ⟨dx, lp, lq, ps, as, v⟩ := hat
    refine ⟨_, rfl, x, dx, _, rfl, v.obj, (by kernel_rfl), _, rfl, x, t, c, u, rfl, hat', _, rfl, ?_⟩
    unfold Kyc.acts at stay k
    dsimp only [Option.map] at stay k
    by_cases hb : t < c.now ∨ Kyc.most < t
    · refine iteTb (by simp [hb]) (stay (-22) ?_)
      rw [if_pos hb]
    · refine iteFb (by simp [hb]) ?_
      refine ⟨_, rfl, x, _, dx, _, _, rfl, v.obj, T.c_Clocks, T.n_Clocks_loser, ck_loser, _, rfl, ?_⟩
      simp only [if_neg hb] at stay k
      cases hf : c.fallen with
      | some j =>
        refine iteT (stay (-41) ?_)
        rw [hf]; rfl
      | none =>
        refine iteF ?_
        rw [hf] at stay k
        refine ⟨_, rfl, x, _, dx, _, _, rfl, v.obj, T.c_Clocks, T.n_Clocks_running, ck_running, _, rfl, ?_⟩
        cases hon : c.on with
        | true =>
          refine iteT (stay (-17) ?_)
          rw [hon]; rfl
        | false =>
          refine iteF ?_
          rw [hon] at k
          refine ⟨_, rfl, _, rfl, x, _, dx, _, rfl, v.obj, T.c_Clocks, T.n_Clocks_moment, ck_len, ?_⟩
          rw [ck_put_moment]
          have v1 := v.setx t c.on c.turn u c.fallen
          refine ⟨_, rfl, x, _, dx, _, rfl, v1.obj, T.c_Clocks, T.n_Clocks_running, ck_len, ?_⟩
          rw [ck_put_running]
          have v2 := v1.setx t true c.turn u c.fallen
          have et : Kyc.till c t = { c with now := t } := till_off (.inl hon)
          refine k _ { c with now := t, on := true } 0 ?_ ⟨u, ⟨W.np, W.n4, W.tn, W.nf, W.ok, W.pl, W.lf, fun _ => hf⟩, U, dx, lp, lq, ps, as, v2⟩ ((Kp.upd v.obj).trans (Kp.upd v1.obj))
          rw [et]; rfl
theorem ok_Clocks_now (F : Fun K "now" "Clocks.now" s_Clocks_now f fd) (T : Txt K mg C_Phase C_Player C_Clocks)
    (U_Clocks_may_become : MtU P w K mg base 1 C_Clocks "may_become" ["self", "t"] (spMay C_Phase C_Player C_Clocks))
    (U_Clocks_run_until : MtU P w K mg base 3 C_Clocks "run_until" ["self", "t"] (spUntil C_Phase C_Player C_Clocks))
    (U_Clocks_verdict : MtU P w K mg base 1 C_Clocks "verdict" ["self"] (spVerdict C_Phase C_Player C_Clocks)) :
    FnOk P w K mg base CX0 4 f fd ["self", "t"] (spAct C_Phase C_Player C_Clocks Kyc.Call.now) := by
  refine F.ok sc_Clocks_now (fun vs H Q E h => ?_) (fun cdv A outer s H vs Q E hr h => ?_)
  · obtain ⟨x, t, c, rfl, _⟩ := h
    rfl
  · obtain ⟨x, t, c, rfl, hck, k⟩ := h
    refine ⟨_, (pss_cons (ps_if (pt_not (pt_val (pe_mth U_Clocks_may_become T.c_Clocks (pv 0) (hr.mono (by decide)) (pa_cons (pv 1) pa_nil)))) (pss_one (ps_ret (pe_gi rfl T.g_WRONG))) pss_nil)
        (pss_cons (ps_expr (pe_mth U_Clocks_run_until T.c_Clocks (pv 0) (hr.mono (by decide)) (pa_cons (pv 1) pa_nil)))
        (pss_one (ps_ret (pe_mth0 U_Clocks_verdict T.c_Clocks (pv 0) (hr.mono (by decide))))))), ?_⟩
    have stay : ∀ r, Kyc.acts (some c) (.now t) = some (some c, Kyc.say r) → Q (.int r) H := fun r e => k H c r e hck (Kp.refl H)
    obtain ⟨u, W, U, hat⟩ := hck
    have hat' := hat
    obtain ⟨dx, lp, lq, ps, as, v⟩ := hat
    refine ⟨_, rfl, x, dx, _, rfl, v.obj, (by kernel_rfl), _, rfl, x, t, c, u, rfl, hat', _, rfl, ?_⟩
    unfold Kyc.acts at stay k
    dsimp only [Option.map] at stay k
    by_cases hb : t < c.now ∨ Kyc.most < t
    · refine iteTb (by simp [hb]) (stay (-22) ?_)
      rw [if_pos hb]
    · refine iteFb (by simp [hb]) ?_
      simp only [if_neg hb] at k
      refine ⟨_, rfl, x, dx, _, rfl, v.obj, (by kernel_rfl), _, rfl, x, t, c, u, rfl, W, U, (by omega), hat', fun H1 u1 hat1 W1 U1 kp1 => ?_⟩
      have hat1' := hat1
      obtain ⟨dx1, lp1, lq1, ps1, as1, v1⟩ := hat1
      exact ⟨_, rfl, x, dx1, _, rfl, v1.obj, (by kernel_rfl), x, _, u1, rfl, hat1', k H1 (Kyc.till c t) _ rfl ⟨u1, W1, U1, hat1'⟩ kp1⟩
end
end Pc

set_option Elab.async false
set_option linter.all false
set_option maxRecDepth 100000
set_option maxHeartbeats 2000000
namespace Pc
open PySem PySem.Spec PyProof.Rows L2
/-! ### reach: what press and pause have in common -/
def reached (c : Kyc.Clock) (t : Nat) : Kyc.Clock × Int :=
  if t < c.now ∨ Kyc.most < t then (c, -22) else if c.fallen.isSome then (c, -41) else if c.on = false then (c, -16) else (Kyc.till c t, Kyc.fell (Kyc.till c t))
theorem fell_zero {c : Kyc.Clock} (h : Kyc.fell c = 0) : c.fallen = none := by
  unfold Kyc.fell at h
  cases e : c.fallen with
  | none => rfl
  | some k =>
    rw [e] at h
    have h : (100 : Int) + (k : Int) = 0 := h
    omega
theorem fell_ne {c : Kyc.Clock} (h : Kyc.fell c ≠ 0) : c.fallen.isSome = true := by
  unfold Kyc.fell at h
  cases e : c.fallen with
  | none => rw [e] at h; exact absurd rfl h
  | some k => rfl
theorem reached_ne {c : Kyc.Clock} {t : Nat} (h : (reached c t).2 ≠ 0) :
    Kyc.acts (some c) (.press t) = some (some (reached c t).1, Kyc.say (reached c t).2) ∧ Kyc.acts (some c) (.pause t) = some (some (reached c t).1, Kyc.say (reached c t).2) := by
  unfold reached at h ⊢
  unfold Kyc.acts
  dsimp only [Option.map]
  by_cases h1 : t < c.now ∨ Kyc.most < t
  · simp only [if_pos h1] at h ⊢; exact ⟨trivial, trivial⟩
  simp only [if_neg h1] at h ⊢
  by_cases h2 : c.fallen.isSome = true
  · simp only [if_pos h2] at h ⊢; exact ⟨trivial, trivial⟩
  simp only [if_neg h2] at h ⊢
  by_cases h3 : c.on = false
  · simp only [if_pos h3] at h ⊢; exact ⟨trivial, trivial⟩
  simp only [if_neg h3] at h ⊢
  have h4 := fell_ne h
  simp only [if_pos h4]
  exact ⟨trivial, trivial⟩
theorem reached_eq {c : Kyc.Clock} {t : Nat} (h : (reached c t).2 = 0) :
    (reached c t).1 = Kyc.till c t ∧ c.on = true ∧ (Kyc.till c t).fallen = none ∧ Kyc.acts (some c) (.press t) = some (some (Kyc.pressed (Kyc.till c t)), Kyc.say ((Kyc.next c : Nat) : Int)) ∧
      Kyc.acts (some c) (.pause t) = some (some { Kyc.till c t with on := false }, Kyc.say 0) := by
  unfold reached at h ⊢
  unfold Kyc.acts
  dsimp only [Option.map]
  by_cases h1 : t < c.now ∨ Kyc.most < t
  · simp only [if_pos h1] at h; exact absurd h (by decide)
  simp only [if_neg h1] at h ⊢
  by_cases h2 : c.fallen.isSome = true
  · simp only [if_pos h2] at h; exact absurd h (by decide)
  simp only [if_neg h2] at h ⊢
  by_cases h3 : c.on = false
  · simp only [if_pos h3] at h; exact absurd h (by decide)
  simp only [if_neg h3] at h ⊢
  have h4 := fell_zero h
  have h5 : ¬ (Kyc.till c t).fallen.isSome = true := by rw [h4]; exact Bool.false_ne_true
  simp only [if_neg h5]
  exact ⟨trivial, (by cases e : c.on with | true => rfl | false => exact absurd e h3), h4, trivial, trivial⟩
section
variable {P : Program} {w : World} {K : PySem.W.Frag} {mg : Str → Option Value} {base : Heap} {C_Phase C_Player C_Clocks f : Addr} {fd : FuncData}
def spReach (C_Phase C_Player C_Clocks : Addr) : Sp := fun vs H Q _ => ∃ (x : Addr) (t : Nat) (c : Kyc.Clock), vs = [.ref x, nV t] ∧ CkS C_Phase C_Player C_Clocks H x (some c) ∧
  ∀ H' : Hp, CkS C_Phase C_Player C_Clocks H' x (some (reached c t).1) → Kp H H' → Q (.int (reached c t).2) H'
theorem ok_Clocks_reach (F : Fun K "reach" "Clocks.reach" s_Clocks_reach f fd) (T : Txt K mg C_Phase C_Player C_Clocks)
    (U_Clocks_may_become : MtU P w K mg base 1 C_Clocks "may_become" ["self", "t"] (spMay C_Phase C_Player C_Clocks))
    (U_Clocks_run_until : MtU P w K mg base 3 C_Clocks "run_until" ["self", "t"] (spUntil C_Phase C_Player C_Clocks))
    (U_Clocks_verdict : MtU P w K mg base 1 C_Clocks "verdict" ["self"] (spVerdict C_Phase C_Player C_Clocks)) :
    FnOk P w K mg base CX0 4 f fd ["self", "t"] (spReach C_Phase C_Player C_Clocks) := by
  refine F.ok sc_Clocks_reach (fun vs H Q E h => ?_) (fun cdv A outer s H vs Q E hr h => ?_)
  · obtain ⟨x, t, c, rfl, _⟩ := h
    rfl
  · obtain ⟨x, t, c, rfl, hck, k⟩ := h
    refine ⟨_, (pss_cons (ps_if (pt_not (pt_val (pe_mth U_Clocks_may_become T.c_Clocks (pv 0) (hr.mono (by decide)) (pa_cons (pv 1) pa_nil)))) (pss_one (ps_ret (pe_gi rfl T.g_WRONG))) pss_nil)
        (pss_cons (ps_if (pt_cmp (pc_notN (pe_fldK (pv 0) rfl))) (pss_one (ps_ret (pe_gi rfl T.g_ALREADY_FALLEN))) pss_nil)
        (pss_cons (ps_if (pt_not (pt_val (pe_fldK (pv 0) rfl))) (pss_one (ps_ret (pe_gi rfl T.g_NOT_NOW))) pss_nil)
        (pss_cons (ps_expr (pe_mth U_Clocks_run_until T.c_Clocks (pv 0) (hr.mono (by decide)) (pa_cons (pv 1) pa_nil)))
        (pss_one (ps_ret (pe_mth0 U_Clocks_verdict T.c_Clocks (pv 0) (hr.mono (by decide))))))))), ?_⟩
    have stay : ∀ r, reached c t = (c, r) → Q (.int r) H := fun r e => by
      rw [e] at k
      exact k H hck (Kp.refl H)
    obtain ⟨u, W, U, hat⟩ := hck
    have hat' := hat
    obtain ⟨dx, lp, lq, ps, as, v⟩ := hat
    refine ⟨_, rfl, x, dx, _, rfl, v.obj, (by kernel_rfl), _, rfl, x, t, c, u, rfl, hat', _, rfl, ?_⟩
    unfold reached at stay k
    by_cases hb : t < c.now ∨ Kyc.most < t
    · refine iteTb (by simp [hb]) (stay (-22) ?_)
      rw [if_pos hb]
    · refine iteFb (by simp [hb]) ?_
      refine ⟨_, rfl, x, _, dx, _, _, rfl, v.obj, T.c_Clocks, T.n_Clocks_loser, ck_loser, _, rfl, ?_⟩
      simp only [if_neg hb] at stay k
      cases hf : c.fallen with
      | some j =>
        refine iteT (stay (-41) ?_)
        rw [hf]; rfl
      | none =>
        refine iteF ?_
        rw [hf] at stay k
        refine ⟨_, rfl, x, _, dx, _, _, rfl, v.obj, T.c_Clocks, T.n_Clocks_running, ck_running, _, rfl, ?_⟩
        cases hon : c.on with
        | false =>
          refine iteT (stay (-16) ?_)
          rw [hon]; rfl
        | true =>
          refine iteF ?_
          rw [hon] at k
          refine ⟨_, rfl, x, dx, _, rfl, v.obj, (by kernel_rfl), _, rfl, x, t, c, u, rfl, W, U, (by omega), hat', fun H1 u1 hat1 W1 U1 kp1 => ?_⟩
          have hat1' := hat1
          obtain ⟨dx1, lp1, lq1, ps1, as1, v1⟩ := hat1
          exact ⟨_, rfl, x, dx1, _, rfl, v1.obj, (by kernel_rfl), x, _, u1, rfl, hat1', k H1 ⟨u1, W1, U1, hat1'⟩ kp1⟩
/-! ### press, pause -/
theorem ok_Clocks_press (F : Fun K "press" "Clocks.press" s_Clocks_press f fd) (T : Txt K mg C_Phase C_Player C_Clocks)
    (U_Clocks_reach : MtU P w K mg base 4 C_Clocks "reach" ["self", "t"] (spReach C_Phase C_Player C_Clocks))
    (U_Clocks_end_move : MtU P w K mg base 2 C_Clocks "end_move" ["self"] (spEnd C_Phase C_Player C_Clocks)) :
    FnOk P w K mg base CX0 5 f fd ["self", "t"] (spAct C_Phase C_Player C_Clocks Kyc.Call.press) := by
  refine F.ok sc_Clocks_press (fun vs H Q E h => ?_) (fun cdv A outer s H vs Q E hr h => ?_)
  · obtain ⟨x, t, c, rfl, _⟩ := h
    rfl
  · obtain ⟨x, t, c, rfl, hck, k⟩ := h
    refine ⟨_, (pss_cons (ps_set (i := 2) sc_Clocks_press.nd rfl (Or.inl rfl) (pe_mth U_Clocks_reach T.c_Clocks (pv 0) (hr.mono (by decide)) (pa_cons (pv 1) pa_nil)))
        (pss_cons (ps_if (pt_cmp (pc_neI (pv 2) pe_int)) (pss_one (ps_ret (pv 2))) pss_nil)
        (pss_cons (ps_expr (pe_mth0 U_Clocks_end_move T.c_Clocks (pv 0) (hr.mono (by decide))))
        (pss_one (ps_ret (pe_fldK (pv 0) rfl)))))), ?_⟩
    have hck' := hck
    obtain ⟨u, W, U, dx, lp, lq, ps, as, v⟩ := hck
    refine ⟨_, rfl, x, dx, _, rfl, v.obj, (by kernel_rfl), _, rfl, x, t, c, rfl, hck', fun H1 hck1 kp1 => ?_⟩
    refine ⟨_, rfl, _, _, rfl, rfl, _, rfl, ?_⟩
    by_cases hz : (reached c t).2 = 0
    · obtain ⟨e1, hon, hf1, e2, _⟩ := reached_eq hz
      rw [e1] at hck1
      obtain ⟨u1, W1, U1, hat1'⟩ := hck1
      have hat1 := hat1'
      obtain ⟨dx1, lp1, lq1, ps1, as1, v1⟩ := hat1
      refine iteFb (bnF hz) ?_
      refine ⟨_, rfl, x, dx1, _, rfl, v1.obj, (by kernel_rfl), x, _, u1, rfl, W1, U1, hf1, hat1', fun H2 hat2 kp2 => ?_⟩
      have hat2' := hat2
      obtain ⟨dx2, lp2, lq2, ps2, as2, v2⟩ := hat2
      obtain ⟨W2, U2⟩ := pressed_wf W1 U1 hf1
      refine ⟨_, rfl, x, _, dx2, _, _, rfl, v2.obj, T.c_Clocks, T.n_Clocks_mover, ck_mover, ?_⟩
      refine k H2 (Kyc.pressed (Kyc.till c t)) _ ?_ ⟨0, W2, U2, hat2'⟩ (kp1.trans kp2)
      have TT := till_on (t := t) W U hon
      have en : Kyc.next (Kyc.till c t) = Kyc.next c := by unfold Kyc.next; rw [TT.trn, TT.len]
      rw [e2]
      show some (some (Kyc.pressed (Kyc.till c t)), Kyc.say ((Kyc.next c : Nat) : Int)) = some (some (Kyc.pressed (Kyc.till c t)), Kyc.say ((Kyc.next (Kyc.till c t) : Nat) : Int))
      rw [en]
    · refine iteTb (bnT hz) ⟨_, rfl, ?_⟩
      exact k H1 _ _ (reached_ne hz).1 hck1 kp1
theorem ok_Clocks_pause (F : Fun K "pause" "Clocks.pause" s_Clocks_pause f fd) (T : Txt K mg C_Phase C_Player C_Clocks)
    (U_Clocks_reach : MtU P w K mg base 4 C_Clocks "reach" ["self", "t"] (spReach C_Phase C_Player C_Clocks)) :
    FnOk P w K mg base CX0 5 f fd ["self", "t"] (spAct C_Phase C_Player C_Clocks Kyc.Call.pause) := by
  refine F.ok sc_Clocks_pause (fun vs H Q E h => ?_) (fun cdv A outer s H vs Q E hr h => ?_)
  · obtain ⟨x, t, c, rfl, _⟩ := h
    rfl
  · obtain ⟨x, t, c, rfl, hck, k⟩ := h
    refine ⟨_, (pss_cons (ps_set (i := 2) sc_Clocks_pause.nd rfl (Or.inl rfl) (pe_mth U_Clocks_reach T.c_Clocks (pv 0) (hr.mono (by decide)) (pa_cons (pv 1) pa_nil)))
        (pss_cons (ps_if (pt_cmp (pc_eqI (pv 2) pe_int)) (pss_one (ps_fld (pv 0) pe_bl rfl)) pss_nil)
        (pss_one (ps_ret (pv 2))))), ?_⟩
    have hck' := hck
    obtain ⟨u, W, U, dx, lp, lq, ps, as, v⟩ := hck
    refine ⟨_, rfl, x, dx, _, rfl, v.obj, (by kernel_rfl), _, rfl, x, t, c, rfl, hck', fun H1 hck1 kp1 => ?_⟩
    refine ⟨_, rfl, _, _, rfl, rfl, _, rfl, ?_⟩
    by_cases hz : (reached c t).2 = 0
    · obtain ⟨e1, hon, hf1, _, e2⟩ := reached_eq hz
      rw [e1] at hck1
      obtain ⟨u1, W1, U1, dx1, lp1, lq1, ps1, as1, v1⟩ := hck1
      refine iteTb (decide_eq_true hz) ?_
      refine ⟨_, rfl, x, _, dx1, _, rfl, v1.obj, T.c_Clocks, T.n_Clocks_running, ck_len, ?_⟩
      rw [ck_put_running]
      have v2 := v1.setx (Kyc.till c t).now false (Kyc.till c t).turn u1 (Kyc.till c t).fallen
      refine ⟨_, rfl, ?_⟩
      rw [hz]
      exact k _ { Kyc.till c t with on := false } 0 e2 ⟨u1, ⟨W1.np, W1.n4, W1.tn, W1.nf, W1.ok, W1.pl, W1.lf, fun z => by cases z⟩, U1, dx1, lp1, lq1, ps1, as1, v2⟩ (kp1.trans (Kp.upd v1.obj))
    · refine iteFb (decide_eq_false hz) ⟨_, rfl, ?_⟩
      exact k H1 _ _ (reached_ne hz).2 hck1 kp1
/-! ### has_player, set_left, left, state -/
def spHas (C_Phase C_Player C_Clocks : Addr) : Sp := fun vs H Q _ => ∃ (x : Addr) (j : Nat) (c : Kyc.Clock) (u : Nat), vs = [.ref x, nV j] ∧ CkAt C_Phase C_Player C_Clocks H x c u ∧ Q (.bl (decide (j < c.players.length))) H
theorem ok_Clocks_has_player (F : Fun K "has_player" "Clocks.has_player" s_Clocks_has_player f fd) (T : Txt K mg C_Phase C_Player C_Clocks) : FnOk P w K mg base CX0 1 f fd ["self", "number"] (spHas C_Phase C_Player C_Clocks) := by
  refine F.ok sc_Clocks_has_player (fun vs H Q E h => ?_) (fun cdv A outer s H vs Q E hr h => ?_)
  · obtain ⟨x, j, c, u, rfl, _⟩ := h
    rfl
  · obtain ⟨x, j, c, u, rfl, ⟨dx, lp, lq, ps, as, v⟩, k⟩ := h
    refine ⟨_, (pss_one (ps_ret (pe_cmp (pc_lt (pv 1) (pe_callB (call_len_seqK (K := K)) (by rfl) T.b_len PySem.boot_len (pa_cons (pe_fldK (pv 0) rfl) pa_nil)))))), ?_⟩
    have hlen : (as.map V.ref).length = c.players.length := by rw [List.length_map, v.len]
    refine ⟨_, rfl, _, rfl, x, _, dx, _, _, rfl, v.obj, T.c_Clocks, T.n_Clocks_players, ck_players, lq, _, rfl, .inl (SqL.of v.lst), _, _, rfl, rfl, q_bl k ?_⟩
    rw [hlen, Bool.eq_iff_iff, decide_eq_true_eq, decide_eq_true_eq]
    omega
def spSet (C_Phase C_Player C_Clocks : Addr) : Sp := fun vs H Q _ => ∃ (x : Addr) (j m : Nat) (c : Kyc.Clock), vs = [.ref x, nV j, nV m] ∧ CkS C_Phase C_Player C_Clocks H x (some c) ∧
  ∀ (H' : Hp) (c' : Kyc.Clock) (r : Int), Kyc.acts (some c) (.set j m) = some (some c', Kyc.say r) → CkS C_Phase C_Player C_Clocks H' x (some c') → Kp H H' → Q (.int r) H'
theorem ok_Clocks_set_left (F : Fun K "set_left" "Clocks.set_left" s_Clocks_set_left f fd) (T : Txt K mg C_Phase C_Player C_Clocks)
    (U_Clocks_has_player : MtU P w K mg base 1 C_Clocks "has_player" ["self", "number"] (spHas C_Phase C_Player C_Clocks)) :
    FnOk P w K mg base CX0 2 f fd ["self", "number", "amount"] (spSet C_Phase C_Player C_Clocks) := by
  refine F.ok sc_Clocks_set_left (fun vs H Q E h => ?_) (fun cdv A outer s H vs Q E hr h => ?_)
  · obtain ⟨x, j, m, c, rfl, _⟩ := h
    rfl
  · obtain ⟨x, j, m, c, rfl, hck, k⟩ := h
    refine ⟨_, (pss_cons (ps_if (PW.pt (pw_or (pt_not (pt_val (pe_mth U_Clocks_has_player T.c_Clocks (pv 0) (hr.mono (by decide)) (pa_cons (pv 1) pa_nil)))) (pw_or1 (pt_not (pt_chain op_le op_le pe_int (pv 2) (pe_gi rfl T.g_MOST_SET)))))) (pss_one (ps_ret (pe_gi rfl T.g_WRONG))) pss_nil)
        (pss_cons (ps_if (pt_cmp (pc_notN (pe_fldK (pv 0) rfl))) (pss_one (ps_ret (pe_gi rfl T.g_ALREADY_FALLEN))) pss_nil)
        (pss_cons (ps_if (pt_val (pe_fldK (pv 0) rfl)) (pss_one (ps_ret (pe_gi rfl T.g_NOT_NOW))) pss_nil)
        (pss_cons (ps_set (i := 3) sc_Clocks_set_left.nd rfl (Or.inl rfl) (pe_ix (ix_listK (K := K)) (pe_fldK (pv 0) rfl) (pv 1) (fun _ _ => rfl)))
        (pss_cons (ps_fld (pv 3) (pv 2) rfl)
        (pss_one (ps_ret pe_int))))))), ?_⟩
    have stay : ∀ r, Kyc.acts (some c) (.set j m) = some (some c, Kyc.say r) → Q (.int r) H := fun r e => k H c r e hck (Kp.refl H)
    obtain ⟨u, W, U, hat⟩ := hck
    have hat' := hat
    obtain ⟨dx, lp, lq, ps, as, v⟩ := hat
    unfold Kyc.acts at stay k
    dsimp only [Option.map] at stay k
    have bad : (c.players.length ≤ j ∨ m < 1 ∨ 86400000 < m) → Q (.int (-22)) H := fun hb => stay (-22) (by rw [if_pos hb])
    refine ⟨_, rfl, x, dx, _, rfl, v.obj, (by kernel_rfl), _, rfl, x, j, c, u, rfl, hat', _, rfl, ?_⟩
    by_cases hj : j < c.players.length
    · refine iteFb (by simp [hj]) ?_
      refine ⟨_, rfl, _, _, rfl, rfl, _, rfl, ?_⟩
      by_cases h1 : 1 ≤ m
      · refine iteTb (decide_eq_true (show (1 : Int) ≤ (m : Int) by omega)) ⟨_, _, rfl, rfl, _, rfl, ?_⟩
        by_cases h2 : m ≤ 86400000
        · refine iteFb (bnF (show (m : Int) ≤ 86400000 by omega)) ?_
          have hb : ¬ (c.players.length ≤ j ∨ m < 1 ∨ 86400000 < m) := by omega
          simp only [if_neg hb] at stay k
          refine ⟨_, rfl, x, _, dx, _, _, rfl, v.obj, T.c_Clocks, T.n_Clocks_loser, ck_loser, _, rfl, ?_⟩
          cases hf : c.fallen with
          | some i =>
            refine iteT (stay (-41) ?_)
            rw [hf]; rfl
          | none =>
            refine iteF ?_
            rw [hf] at stay k
            refine ⟨_, rfl, x, _, dx, _, _, rfl, v.obj, T.c_Clocks, T.n_Clocks_running, ck_running, _, rfl, ?_⟩
            cases hon : c.on with
            | true =>
              refine iteT (stay (-16) ?_)
              rw [hon]; rfl
            | false =>
              refine iteF ?_
              have hpj : c.players[j]? = some (Kyc.player c j) := get_of_lt Kyc.nobody hj
              obtain ⟨ap, hap⟩ := get_of_len v.len.symm hpj
              obtain ⟨dp, hp⟩ := v.at_ _ _ _ hap hpj
              refine ⟨_, rfl, x, _, dx, _, _, rfl, v.obj, T.c_Clocks, T.n_Clocks_players, ck_players, _, rfl, lq, _, _, _, rfl, rfl, SqL.of v.lst, atI_nat (ref_get hap), ?_⟩
              refine ⟨_, rfl, _, rfl, ap, _, dp, _, rfl, hp, T.c_Player, T.n_Player_time_left, pl_len _, ?_⟩
              rw [pl_put_time_left]
              obtain ⟨W1, U1⟩ := set_wf W U hj h1
              have v1 := v.setp (H' := upd H ap (.ins C_Player dp (plF { Kyc.player c j with left := m }))) hap upd_same fun b hb => upd_ne hb
              refine k _ { c with players := c.players.set j { Kyc.player c j with left := m } } 0 ?_ ⟨u, W1, U1, dx, lp, lq, ps, as, v1⟩ (Kp.upd hp)
              rw [if_neg (show ¬ (none : Option Nat).isSome = true from Bool.false_ne_true), if_neg (show ¬ c.on = true by rw [hon]; exact Bool.false_ne_true), hf]
        · exact iteTb (bnT (show ¬ (m : Int) ≤ 86400000 by omega)) (bad (by omega))
      · exact iteFb (decide_eq_false (show ¬ (1 : Int) ≤ (m : Int) by omega)) ⟨_, rfl, iteT (bad (by omega))⟩
    · exact iteTb (by simp [hj]) (iteT (bad (by omega)))
def spLeft (C_Phase C_Player C_Clocks : Addr) : Sp := fun vs H Q _ => ∃ (x : Addr) (j : Nat) (c : Kyc.Clock), vs = [.ref x, nV j] ∧ CkS C_Phase C_Player C_Clocks H x (some c) ∧
  ∀ (a : Kyc.Ans) (p : Addr) (xs : List V), Kyc.acts (some c) (.left j) = some (some c, a) → xs = (a.value :: KycNeutral.ints a.out).map V.int → H p = none → Q (.ref p) (upd H p (.lst xs))
theorem ok_Clocks_left (F : Fun K "left" "Clocks.left" s_Clocks_left f fd) (T : Txt K mg C_Phase C_Player C_Clocks)
    (U_Clocks_has_player : MtU P w K mg base 1 C_Clocks "has_player" ["self", "number"] (spHas C_Phase C_Player C_Clocks)) :
    FnOk P w K mg base CX0 2 f fd ["self", "number"] (spLeft C_Phase C_Player C_Clocks) := by
  refine F.ok sc_Clocks_left (fun vs H Q E h => ?_) (fun cdv A outer s H vs Q E hr h => ?_)
  · obtain ⟨x, j, c, rfl, _⟩ := h
    rfl
  · obtain ⟨x, j, c, rfl, hck, k⟩ := h
    refine ⟨_, (pss_cons (ps_if (pt_not (pt_val (pe_mth U_Clocks_has_player T.c_Clocks (pv 0) (hr.mono (by decide)) (pa_cons (pv 1) pa_nil)))) (pss_one (ps_ret (pe_lst (pa_cons (pe_gi rfl T.g_WRONG) pa_nil)))) pss_nil)
        (pss_cons (ps_set (i := 2) sc_Clocks_left.nd rfl (Or.inl rfl) (pe_ix (ix_listK (K := K)) (pe_fldK (pv 0) rfl) (pv 1) (fun _ _ => rfl)))
        (pss_cons (ps_set (i := 3) sc_Clocks_left.nd rfl (Or.inl rfl) (pe_op op_mod (pe_fldK (pv 2) rfl) (pe_gi rfl T.g_MOVES_TOLD_BELOW)))
        (pss_one (ps_ret (pe_lst (pa_cons (pe_fldK (pv 2) rfl) (pa_cons (pe_fldK (pv 2) rfl) (pa_cons (pe_fldK (pv 2) rfl) (pa_cons (pe_fldK (pv 2) rfl) (pa_cons (pv 3) pa_nil))))))))))), ?_⟩
    obtain ⟨u, W, U, hat⟩ := hck
    have hat' := hat
    obtain ⟨dx, lp, lq, ps, as, v⟩ := hat
    unfold Kyc.acts at k
    dsimp only [Option.map] at k
    refine ⟨_, rfl, x, dx, _, rfl, v.obj, (by kernel_rfl), _, rfl, x, j, c, u, rfl, hat', _, rfl, ?_⟩
    by_cases hj : j < c.players.length
    · refine iteFb (by simp [hj]) ?_
      rw [if_neg (show ¬ c.players.length ≤ j by omega)] at k
      have hpj : c.players[j]? = some (Kyc.player c j) := get_of_lt Kyc.nobody hj
      obtain ⟨ap, hap⟩ := get_of_len v.len.symm hpj
      obtain ⟨dp, hp⟩ := v.at_ _ _ _ hap hpj
      refine ⟨_, rfl, x, _, dx, _, _, rfl, v.obj, T.c_Clocks, T.n_Clocks_players, ck_players, _, rfl, lq, _, _, _, rfl, rfl, SqL.of v.lst, atI_nat (ref_get hap), ?_⟩
      refine ⟨_, rfl, ap, _, dp, _, _, rfl, hp, T.c_Player, T.n_Player_moves, pl_moves _, _, _, rfl, rfl, (by show (0 : Int) < 4294967296; decide), ?_⟩
      refine ⟨_, rfl, ap, _, dp, _, _, rfl, hp, T.c_Player, T.n_Player_time_left, pl_time_left _, _, rfl, ap, _, dp, _, _, rfl, hp, T.c_Player, T.n_Player_periods, pl_periods _, _, rfl, ap, _, dp, _, _, rfl, hp, T.c_Player, T.n_Player_in_period, pl_in_period _, _, rfl, ap, _, dp, _, _, rfl, hp, T.c_Player, T.n_Player_phase_number, pl_phase_number _, _, rfl, (by show 5 ≤ sizeLine; decide), fun p hpn => ?_⟩
      refine k _ p _ rfl ?_ hpn
      have e : ((Kyc.player c j).done : Int) % 4294967296 = (((Kyc.player c j).done % 2 ^ 32 : Nat) : Int) := by omega
      show [nV _, nV _, nV _, nV _, V.int (((Kyc.player c j).done : Int) % 4294967296)] = _
      rw [e]
      rfl
    · refine iteTb (by simp [hj]) ?_
      rw [if_pos (show c.players.length ≤ j by omega)] at k
      exact ⟨(by show 1 ≤ sizeLine; decide), fun p hpn => k _ p _ rfl rfl hpn⟩
def spState (C_Phase C_Player C_Clocks : Addr) : Sp := fun vs H Q _ => ∃ (x : Addr) (c : Kyc.Clock), vs = [.ref x] ∧ CkS C_Phase C_Player C_Clocks H x (some c) ∧
  ∀ (a : Kyc.Ans) (p : Addr) (xs : List V), Kyc.acts (some c) .state = some (some c, a) → xs = (a.value :: KycNeutral.ints a.out).map V.int → H p = none → Q (.ref p) (upd H p (.lst xs))
theorem ok_Clocks_state (F : Fun K "state" "Clocks.state" s_Clocks_state f fd) (T : Txt K mg C_Phase C_Player C_Clocks)
    (U_Clocks_verdict : MtU P w K mg base 1 C_Clocks "verdict" ["self"] (spVerdict C_Phase C_Player C_Clocks)) :
    FnOk P w K mg base CX0 2 f fd ["self"] (spState C_Phase C_Player C_Clocks) := by
  refine F.ok sc_Clocks_state (fun vs H Q E h => ?_) (fun cdv A outer s H vs Q E hr h => ?_)
  · obtain ⟨x, c, rfl, _⟩ := h
    rfl
  · obtain ⟨x, c, rfl, hck, k⟩ := h
    refine ⟨_, (pss_one (ps_ret (pe_lst (pa_cons (pe_mth0 U_Clocks_verdict T.c_Clocks (pv 0) (hr.mono (by decide))) (pa_cons (pe_fldK (pv 0) rfl) (pa_cons (pe_fldK (pv 0) rfl) (pa_cons (pe_ifExp (pt_val (pe_fldK (pv 0) rfl)) pe_int pe_int) pa_nil))))))), ?_⟩
    obtain ⟨u, W, U, hat⟩ := hck
    have hat' := hat
    obtain ⟨dx, lp, lq, ps, as, v⟩ := hat
    unfold Kyc.acts at k
    dsimp only [Option.map] at k
    refine ⟨_, rfl, x, dx, _, rfl, v.obj, (by kernel_rfl), x, c, u, rfl, hat', _, rfl, x, _, dx, _, _, rfl, v.obj, T.c_Clocks, T.n_Clocks_mover, ck_mover, _, rfl, x, _, dx, _, _, rfl, v.obj, T.c_Clocks, T.n_Clocks_moment, ck_moment, _, rfl, x, _, dx, _, _, rfl, v.obj, T.c_Clocks, T.n_Clocks_running, ck_running, _, rfl, ?_⟩
    cases hon : c.on with
    | true =>
      rw [hon] at k
      exact iteT ⟨(by show 4 ≤ sizeLine; decide), fun p hpn => k _ p _ rfl rfl hpn⟩
    | false =>
      rw [hon] at k
      exact iteF ⟨(by show 4 ≤ sizeLine; decide), fun p hpn => k _ p _ rfl rfl hpn⟩
end
end Pc

set_option Elab.async false
set_option linter.all false
set_option maxRecDepth 100000
set_option maxHeartbeats 2000000
namespace Pc
open PySem PySem.Spec PyProof.Rows L2
open PyFlat (put put1 putRow putRows okCall told played)
theorem Kp.sql {K : PySem.W.Frag} {H H' : Hp} {a : Addr} {xs : List V} (k : Kp H H') (h : SqL K H a xs) : SqL K H' a xs := by
  rcases h with (h | ⟨o, h⟩) | h
  · exact .inl (.inl (k _ _ h fun _ _ _ z => by cases z))
  · exact .inl (.inr ⟨o, k _ _ h fun _ _ _ z => by cases z⟩)
  · exact .inr h
theorem ans_len (s : Option Kyc.Clock) (c : Kyc.Call) (t : Option Kyc.Clock) (a : Kyc.Ans) (h : Kyc.acts s c = some (t, a)) : a.out.length ≤ 4 := by
  have sy : ∀ r, (Kyc.say r).out.length ≤ 4 := fun r => Nat.zero_le _
  have key : ∀ k : Kyc.Clock, Kyc.acts (some k) c = some (t, a) → a.out.length ≤ 4 := fun k h => by
    cases c <;> simp only [Kyc.acts, Option.map_some] at h <;> (repeat' (split at h)) <;> (cases h; first | exact sy _ | exact Nat.le_refl _ | exact Nat.le_succ _)
  cases s with
  | some k => exact key k h
  | none =>
    cases c <;> simp only [Kyc.acts, Option.map_none] at h
    · split at h <;> (cases h; exact sy _)
    all_goals cases h
theorem step_len (s : Option Kyc.Clock) (c : List (List Int)) : (KycNeutral.step s c).2.length ≤ 5 := by
  unfold KycNeutral.step
  cases e : (KycNeutral.callOf c).bind (Kyc.acts s) with
  | none => exact Nat.zero_le _
  | some p =>
    obtain ⟨t, a⟩ := p
    cases e2 : KycNeutral.callOf c with
    | none => rw [e2] at e; cases e
    | some k =>
      rw [e2] at e
      have := ans_len s k t a e
      show (a.value :: KycNeutral.ints a.out).length ≤ 5
      unfold KycNeutral.ints
      rw [List.length_cons, List.length_map]
      omega
theorem put1_ne {c : List (List Int)} (h : okCall PyKyc.shape c) : 0 < (put1 c).length := by
  obtain ⟨p, a, xs, rfl, _⟩ := h
  show 0 < ((p :: a) ++ putRows xs).length
  rw [List.length_append, List.length_cons]
  omega
section
variable {P : Program} {w : World} {K : PySem.W.Frag} {mg : Str → Option Value} {base : Heap} {C_Phase C_Player C_Clocks f : Addr} {fd : FuncData}
theorem refs_ne {as : List Addr} {out : List Int} (h : 1 ≤ as.length) : HO.lst (as.map V.ref) ≠ HO.lst (out.map V.int) := fun z => by
  injection z with z
  cases as with
  | nil => simp at h
  | cons a r =>
    cases out with
    | nil => simp at z
    | cons n t =>
      have := (List.cons.inj z).1
      cases this
theorem CkS.setg {H : Hp} {x g : Addr} {s : Option Kyc.Clock} {o : HO} {out : List Int} (q : CkS C_Phase C_Player C_Clocks H x s) (hg : H g = some (.lst (out.map V.int))) : CkS C_Phase C_Player C_Clocks (upd H g o) x s := by
  cases s with
  | none =>
    obtain ⟨dx, lp, lq, e⟩ := q
    exact ⟨dx, lp, lq, by rw [upd_ne (ne_of e hg (by intro z; cases z))]; exact e⟩
  | some c =>
    obtain ⟨u, W, U, dx, lp, lq, ps, as, v⟩ := q
    have n1 := W.nf
    have n2 := W.np
    refine ⟨u, W, U, dx, lp, lq, ps, as, ?_, ⟨?_, v.phs.len, fun i a q h1 h2 => ?_⟩, ?_, v.len, v.nd, fun i a p h1 h2 => ?_⟩
    · rw [upd_ne (ne_of v.obj hg (by intro z; cases z))]; exact v.obj
    · rw [upd_ne (ne_of v.phs.lst hg (refs_ne (by rw [v.phs.len]; exact n1)))]; exact v.phs.lst
    · obtain ⟨d, e⟩ := v.phs.at_ i a q h1 h2
      exact ⟨d, by rw [upd_ne (ne_of e hg (by intro z; cases z))]; exact e⟩
    · rw [upd_ne (ne_of v.lst hg (refs_ne (by rw [v.len]; omega)))]; exact v.lst
    · obtain ⟨d, e⟩ := v.at_ i a p h1 h2
      exact ⟨d, by rw [upd_ne (ne_of e hg (by intro z; cases z))]; exact e⟩
/-! ### answers -/
def spEndOf (K : PySem.W.Frag) : Sp := fun vs H Q _ => ∃ (l : Addr) (pre : List Int) (c : List (List Int)) (post : List Int), vs = [.ref l, nV pre.length] ∧ SqL K H l ((pre ++ (put1 c ++ post)).map V.int) ∧ okCall PyKyc.shape c ∧ KycNeutral.asked1 c = true ∧
  Q (nV (pre.length + (put1 c).length)) H
def spAnswer (C_Phase C_Player C_Clocks : Addr) : Sp := fun vs H Q _ => ∃ (x l : Addr) (s : Option Kyc.Clock) (c : List (List Int)), vs = [.ref x, .ref l] ∧ CkS C_Phase C_Player C_Clocks H x s ∧ H l = some (.lst ((put1 c).map V.int)) ∧
  okCall PyKyc.shape c ∧ KycNeutral.asked1 c = true ∧ (KycNeutral.step s c).2 ≠ [] ∧
  ∀ (H' : Hp) (r : Addr), H' r = some (.lst ((KycNeutral.step s c).2.map V.int)) → (∀ b xs, H b = some (.lst xs) → b ≠ r) → CkS C_Phase C_Player C_Clocks H' x (KycNeutral.step s c).1 → Kp H H' → Q (.ref r) H'
def spAnswers (K : PySem.W.Frag) : Sp := fun vs H Q _ => ∃ (a : Addr) (ns : List Int), vs = [.ref a] ∧ SqL K H a (ns.map V.int) ∧ PyKyc.answers_asked ns = true ∧
  ∀ (H' : Hp) (g : Addr), H' g = some (.lst ((PyKyc.answers ns).map V.int)) → Q (.ref g) H'
theorem ok_answers (F : Fun K "answers" "answers" s_answers f fd) (T : Txt K mg C_Phase C_Player C_Clocks)
    (U_Clocks_init : MkU P w K mg base 4 C_Clocks "Clocks" ["self"] (spClocks_init C_Phase C_Player C_Clocks))
    (U_end_of_call : FnU P w K mg base 1 "end_of_call" ["calls", "place"] (spEndOf K))
    (U_answer : FnU P w K mg base 6 "answer" ["clocks", "call"] (spAnswer C_Phase C_Player C_Clocks)) :
    FnOk P w K mg base CX0 7 f fd ["calls"] (spAnswers K) := by
  refine F.ok sc_answers (fun vs H Q E h => ?_) (fun cdv A outer s H vs Q E hr h => ?_)
  · obtain ⟨a, ns, rfl, _⟩ := h
    rfl
  · obtain ⟨a, ns, rfl, hsq, hask, k⟩ := h
    obtain ⟨cs, A0⟩ := asked_of hask
    refine ⟨_, (pss_cons (ps_set (i := 1) sc_answers.nd rfl (Or.inl rfl) (pe_mk0 U_Clocks_init (hr.mono (by decide)) rfl))
        (pss_cons (ps_set (i := 2) sc_answers.nd rfl (Or.inl rfl) (pe_lst pa_nil))
        (pss_cons (ps_set (i := 3) sc_answers.nd rfl (Or.inl rfl) pe_int)
        (pss_cons (ps_while PassesOwn.never (pt_cmp (pc_lt (pv 3) (pe_callB (call_len_seqK (K := K)) (by rfl) T.b_len PySem.boot_len (pa_cons (pv 0) pa_nil)))) (pss_cons (ps_set (i := 4) sc_answers.nd rfl (Or.inl rfl) (pe_fn U_end_of_call (hr.mono (by decide)) rfl (pa_cons (pv 0) (pa_cons (pv 3) pa_nil))))
          (pss_cons (ps_set (i := 5) sc_answers.nd rfl (Or.inl rfl) (pe_fn U_answer (hr.mono (by decide)) rfl (pa_cons (pv 1) (pa_cons (pe_slice (sl_listK (K := K)) (pv 0) (po_some (pv 3)) (po_some (pv 4))) pa_nil))))
          (pss_cons (ps_expr (pe_bm PySem.F.plainAttrs_list PySem.F.slot_list_append PySem.F.type_list_append mt_append (pv 2) (pa_cons (pe_callB (call_len_seqK (K := K)) (by rfl) T.b_len PySem.boot_len (pa_cons (pv 5) pa_nil)) pa_nil)))
          (pss_cons (ps_expr (pe_bm PySem.F.plainAttrs_list PySem.F.slot_list_extend PySem.F.type_list_extend mt_extend (pv 2) (pa_cons (pv 5) pa_nil)))
          (pss_one (ps_set (i := 3) sc_answers.nd rfl (Or.inl rfl) (pv 4))))))))
        (pss_one (ps_ret (pv 2))))))), ?_⟩
    intro x dx nx nd ne
    refine ⟨x, dx, rfl, upd_same, fun H1 hck kp1 => ⟨rfl, ?_⟩⟩
    have kp1' : Kp H H1 := (Kp.same ((same_new nd).trans (same_new (by rw [upd_ne (Ne.symm ne)]; exact nx)))).trans kp1
    refine ⟨Nat.zero_le _, fun g hg => ?_⟩
    have hgn : ∀ b o, H b = some o → (∀ C dx fs, o ≠ HO.ins C dx fs) → b ≠ g := fun b o e n => ne_of_none (kp1' b o e n) hg
    have kp2 : Kp H (upd H1 g (.lst [])) := kp1'.trans (Kp.same (same_new hg))
    have hck2 := hck.same (same_new (o := .lst []) hg)
    have hg2 : upd H1 g (.lst []) g = some (.lst []) := upd_same
    generalize upd H1 g (.lst []) = H2 at kp2 hck2 hg2
    obtain ⟨W, hW⟩ : ∃ W : Nat → L2.St → Hp → Prop, W = fun m σ H' => ∃ (pre : List Int) (rest : List (List (List Int))) (s : Option Kyc.Clock) (out : List Int) (v4 v5 : Option V), σ = [some (.ref a), some (.ref x), some (.ref g), some (nV pre.length), v4, v5] ∧
        ns = pre ++ put rest ∧ (∀ c ∈ rest, okCall PyKyc.shape c ∧ KycNeutral.asked1 c = true) ∧ KycNeutral.may s rest = true ∧ PyKyc.answers ns = out ++ told (played KycNeutral.step s rest) ∧
        H' g = some (.lst (out.map V.int)) ∧ CkS C_Phase C_Player C_Clocks H' x s ∧ Kp H H' ∧ out.length + 6 * rest.length ≤ 24000 ∧ rest.length = m := ⟨_, rfl⟩
    refine ⟨W, ⟨cs.length, ?_⟩, fun m σ H3 hw => ?_⟩
    · rw [hW]
      refine ⟨[], cs, none, [], none, none, rfl, A0.is, fun c hc => ⟨A0.ok c hc, A0.each c hc⟩, A0.may, A0.ans, hg2, hck2, kp2, ?_, rfl⟩
      have := A0.most
      show 0 + 6 * cs.length ≤ 24000
      omega
    rw [hW] at hw
    obtain ⟨pre, rest, s, out, v4, v5, rfl, hns, hok, hmay, hans, hg3, hck3, kp3, hl, rfl⟩ := hw
    have sq3 := kp3.sql hsq
    refine ⟨_, rfl, _, rfl, a, _, rfl, .inl sq3, _, _, rfl, rfl, _, rfl, ?_⟩
    cases rest with
    | nil =>
      refine iteFb (decide_eq_false ?_) ?_
      · rw [List.length_map, hns]
        show ¬ ((pre.length : Int) < ((pre ++ []).length : Int))
        rw [List.append_nil]; omega
      · refine ⟨_, rfl, k H3 g ?_⟩
        rw [hans]
        show H3 g = some (.lst ((out ++ []).map V.int))
        rw [List.append_nil]; exact hg3
    | cons c rest' =>
      have hc := hok c List.mem_cons_self
      have hp1 := put1_ne hc.1
      have hns : ns = pre ++ (put1 c ++ put rest') := hns
      refine iteTb (decide_eq_true ?_) ?_
      · rw [List.length_map, hns, List.length_append, List.length_append]
        omega
      have hmay2 : (!((KycNeutral.step s c).2.isEmpty) && KycNeutral.may (KycNeutral.step s c).1 rest') = true := hmay
      rw [Bool.and_eq_true] at hmay2
      have hne : (KycNeutral.step s c).2 ≠ [] := fun z => by
        have := hmay2.1
        rw [z] at this; cases this
      refine ⟨fun σ' H' => ∃ m', m' < (c :: rest').length ∧ W m' σ' H', fun _ _ z => z, ?_⟩
      -- end = end_of_call(calls, place)
      refine ⟨_, rfl, _, rfl, a, pre, c, put rest', rfl, (by rw [← hns]; exact sq3), hc.1, hc.2, ?_⟩
      -- answered = answer(clocks, calls[place:end])
      refine ⟨_, rfl, _, rfl, _, rfl, _, rfl, _, rfl, _, rfl, a, _, rfl, sq3, fun p hp => ?_⟩
      have hcut : cutV (ns.map V.int) (some ((pre.length : Nat) : Int)) (some ((pre.length + (put1 c).length : Nat) : Int)) = (put1 c).map V.int := by
        unfold cutV
        rw [HT.sIx_nat, HT.sIx_nat, List.length_map]
        have e1 : min pre.length ns.length = pre.length := by rw [hns, List.length_append]; omega
        have e2 : min (pre.length + (put1 c).length) ns.length - pre.length = (put1 c).length := by rw [hns, List.length_append, List.length_append]; omega
        rw [e1, e2, ← List.map_drop, ← List.map_take, hns, List.drop_left, List.take_left]
      have hpl : upd H3 p (.lst (cutV (ns.map V.int) (some ((pre.length : Nat) : Int)) (some ((pre.length + (put1 c).length : Nat) : Int)))) p = some (.lst ((put1 c).map V.int)) := upd_same.trans (congrArg (fun z => some (HO.lst z)) hcut)
      have s4 : Same H3 (upd H3 p (.lst (cutV (ns.map V.int) (some ((pre.length : Nat) : Int)) (some ((pre.length + (put1 c).length : Nat) : Int))))) := same_new hp
      refine ⟨x, p, s, c, rfl, hck3.same s4, hpl, hc.1, hc.2, hne, fun H4 r hr4 hrn hck4 kp4 => ?_⟩
      have kp5 := kp3.trans ((Kp.same s4).trans kp4)
      have hg4 := kp4.lst (s4 _ _ hg3)
      have hgr : g ≠ r := hrn _ _ (s4 _ _ hg3)
      have hlr := step_len s c
      have hl' : out.length + 6 * (rest'.length + 1) ≤ 24000 := hl
      have hsz : (24000 : Nat) < sizeLine := by decide
      -- given.append(len(answered))
      refine ⟨_, rfl, .inl ⟨rfl, _, SqL.of hg4⟩, _, rfl, r, _, rfl, .inl (SqL.of hr4), g, _, _, rfl, rfl, hg4, (by rw [List.length_map]; omega), ?_⟩
      -- given.extend(answered)
      have hr5 : upd H4 g (.lst (out.map V.int ++ [V.int (((KycNeutral.step s c).2.map V.int).length : Nat)])) r = some (.lst ((KycNeutral.step s c).2.map V.int)) := by rw [upd_ne (Ne.symm hgr)]; exact hr4
      refine ⟨_, rfl, .inl ⟨rfl, _, SqL.of upd_same⟩, _, rfl, g, r, _, _, rfl, rfl, upd_same, hr5, (by rw [List.length_append, List.length_map, List.length_map, List.length_singleton]; omega), ?_⟩
      rw [upd_upd]
      -- place = end
      refine ⟨_, rfl, rest'.length, Nat.lt_succ_self _, ?_⟩
      rw [hW]
      obtain ⟨dx4, lp4, lq4, now4, on4, turn4, u4, lo4, hx4⟩ := hck4.ins
      have hgx : g ≠ x := ne_of hg4 hx4 (by intro z; cases z)
      have eout : (out ++ (((KycNeutral.step s c).2.length : Int) :: (KycNeutral.step s c).2)).map V.int = out.map V.int ++ [V.int (((KycNeutral.step s c).2.map V.int).length : Nat)] ++ (KycNeutral.step s c).2.map V.int := by
        rw [List.map_append, List.map_cons, List.length_map, List.append_assoc]; rfl
      refine ⟨pre ++ put1 c, rest', (KycNeutral.step s c).1, out ++ (((KycNeutral.step s c).2.length : Int) :: (KycNeutral.step s c).2), some (nV (pre.length + (put1 c).length)), some (.ref r), ?_, ?_, fun d hd => hok d (List.mem_cons_of_mem _ hd), hmay2.2, ?_, ?_, ?_, ?_, ?_, rfl⟩
      · rw [List.length_append]; rfl
      · rw [hns, List.append_assoc]
      · rw [hans, List.append_assoc]; rfl
      · rw [upd_same, eout]
      · exact hck4.setg hg4
      · intro b o e n
        rw [upd_ne (hgn b o e n)]
        exact kp5 b o e n
      · rw [List.length_append, List.length_cons]; omega
end
end Pc

set_option Elab.async false
set_option linter.all false
set_option maxRecDepth 100000
set_option maxHeartbeats 2000000
namespace Pc
open PySem PySem.Spec PyProof.Rows L2
open PyFlat (put put1 putRow putRows okCall told played)
theorem put1_start (n : Int) (l : List Int) : put1 [[0, n], l] = 0 :: n :: (l.length : Int) :: l := by
  show [0, n] ++ (((l.length : Int) :: l) ++ []) = _
  rw [List.append_nil]; rfl
theorem step_of {s : Option Kyc.Clock} {c : List (List Int)} {k : Kyc.Call} {t : Option Kyc.Clock} {a : Kyc.Ans} (h1 : KycNeutral.callOf c = some k) (h2 : Kyc.acts s k = some (t, a)) : KycNeutral.step s c = (t, a.value :: KycNeutral.ints a.out) := by
  unfold KycNeutral.step
  rw [h1]
  show (match Kyc.acts s k with | none => (s, []) | some (t, a) => (t, a.value :: KycNeutral.ints a.out)) = _
  rw [h2]
theorem step_none {s : Option Kyc.Clock} {c : List (List Int)} {k : Kyc.Call} (h1 : KycNeutral.callOf c = some k) (h2 : Kyc.acts s k = none) : (KycNeutral.step s c).2 = [] := by
  unfold KycNeutral.step
  rw [h1]
  show (match Kyc.acts s k with | none => (s, []) | some (t, a) => (t, a.value :: KycNeutral.ints a.out)).2 = _
  rw [h2]
theorem nat_of {z : Int} {b : Nat} (h : KycNeutral.natural z b = true) : ∃ n : Nat, z = (n : Int) := by
  unfold KycNeutral.natural at h
  rw [Bool.and_eq_true, decide_eq_true_eq] at h
  exact ⟨z.toNat, by omega⟩
theorem fives_of : ∀ (n : Nat) (l : List Int), l.length ≤ n → KycNeutral.fives l = true → ∃ m, l.length = 5 * m ∧ ∀ x ∈ l, 0 ≤ x
  | _, [], _, _ => ⟨0, rfl, fun x h => by simp at h⟩
  | 0, _ :: _, h, _ => by simp at h
  | n + 1, a :: b :: c :: d :: e :: l, h, hf => by
    unfold KycNeutral.fives at hf
    simp only [Bool.and_eq_true] at hf
    obtain ⟨h1, h2, h3, h4, h5, h6⟩ := hf
    obtain ⟨m, hm, hx⟩ := fives_of n l (by simp at h; omega) h6
    refine ⟨m + 1, by simp; omega, fun x hx' => ?_⟩
    simp only [List.mem_cons] at hx'
    obtain ⟨a', ha⟩ := nat_of h1
    obtain ⟨b', hb⟩ := nat_of h2
    obtain ⟨c', hc⟩ := nat_of h3
    obtain ⟨d', hd⟩ := nat_of h4
    obtain ⟨e', he⟩ := nat_of h5
    rcases hx' with z | z | z | z | z | z
    · omega
    · omega
    · omega
    · omega
    · omega
    · exact hx x z
  | _, [_], _, hf => by simp [KycNeutral.fives] at hf
  | _, [_, _], _, hf => by simp [KycNeutral.fives] at hf
  | _, [_, _, _], _, hf => by simp [KycNeutral.fives] at hf
  | _, [_, _, _, _], _, hf => by simp [KycNeutral.fives] at hf
section
variable {P : Program} {w : World} {K : PySem.W.Frag} {mg : Str → Option Value} {base : Heap} {C_Phase C_Player C_Clocks f : Addr} {fd : FuncData}
/-- what a call hands back, behind the method: [r] -/
theorem ans_end {H H' : Hp} {x : Addr} {s t : Option Kyc.Clock} {c : List (List Int)} {kc : Kyc.Call} {a : Kyc.Ans} {Q : VK} {xs : List V} (h1 : KycNeutral.callOf c = some kc) (h2 : Kyc.acts s kc = some (t, a)) (hx : xs = (a.value :: KycNeutral.ints a.out).map V.int)
    (hck : CkS C_Phase C_Player C_Clocks H' x t) (kp : Kp H H')
    (k : ∀ (H' : Hp) (r : Addr), H' r = some (.lst ((KycNeutral.step s c).2.map V.int)) → (∀ b xs, H b = some (.lst xs) → b ≠ r) → CkS C_Phase C_Player C_Clocks H' x (KycNeutral.step s c).1 → Kp H H' → Q (.ref r) H') (p : Addr) (hp : H' p = none) :
    Q (.ref p) (upd H' p (.lst xs)) := by
  have e := step_of h1 h2
  rw [e] at k
  refine k _ p (by rw [upd_same, hx]) (fun b ys hb z => ?_) (hck.same (same_new hp)) (kp.trans (Kp.same (same_new hp)))
  subst z
  have := kp.lst hb
  rw [hp] at this; cases this
theorem ok_answer (F : Fun K "answer" "answer" s_answer f fd) (T : Txt K mg C_Phase C_Player C_Clocks)
    (U_Clocks_start : MtU P w K mg base 4 C_Clocks "start" ["self", "count", "numbers"] (spStart C_Phase C_Player C_Clocks))
    (U_Clocks_go : MtU P w K mg base 2 C_Clocks "go" ["self", "t"] (spAct C_Phase C_Player C_Clocks Kyc.Call.go))
    (U_Clocks_now : MtU P w K mg base 4 C_Clocks "now" ["self", "t"] (spAct C_Phase C_Player C_Clocks Kyc.Call.now))
    (U_Clocks_press : MtU P w K mg base 5 C_Clocks "press" ["self", "t"] (spAct C_Phase C_Player C_Clocks Kyc.Call.press))
    (U_Clocks_pause : MtU P w K mg base 5 C_Clocks "pause" ["self", "t"] (spAct C_Phase C_Player C_Clocks Kyc.Call.pause))
    (U_Clocks_set_left : MtU P w K mg base 2 C_Clocks "set_left" ["self", "number", "amount"] (spSet C_Phase C_Player C_Clocks))
    (U_Clocks_left : MtU P w K mg base 2 C_Clocks "left" ["self", "number"] (spLeft C_Phase C_Player C_Clocks))
    (U_Clocks_state : MtU P w K mg base 2 C_Clocks "state" ["self"] (spState C_Phase C_Player C_Clocks)) :
    FnOk P w K mg base CX0 6 f fd ["clocks", "call"] (spAnswer C_Phase C_Player C_Clocks) := by
  refine F.ok sc_answer (fun vs H Q E h => ?_) (fun cdv A outer s0 H vs Q E hr h => ?_)
  · obtain ⟨x, l, s, c, rfl, _⟩ := h
    rfl
  · obtain ⟨x, l, s, c, rfl, hck, hl, hc, hask, hne, k⟩ := h
    refine ⟨_, (pss_cons (ps_if (pt_cmp (pc_eqI (pe_ix (ix_listK (K := K)) (pv 1) pe_int (fun _ _ => rfl)) (pe_gi rfl T.g_START))) (pss_one (ps_ret (pe_lst (pa_cons (pe_mth U_Clocks_start T.c_Clocks (pv 0) (hr.mono (by decide)) (pa_cons (pe_ix (ix_listK (K := K)) (pv 1) pe_int (fun _ _ => rfl)) (pa_cons (pe_slice (sl_listK (K := K)) (pv 1) (po_some pe_int) po_none) pa_nil))) pa_nil)))) pss_nil)
        (pss_cons (ps_if (pt_cmp (pc_eqI (pe_ix (ix_listK (K := K)) (pv 1) pe_int (fun _ _ => rfl)) (pe_gi rfl T.g_GO))) (pss_one (ps_ret (pe_lst (pa_cons (pe_mth U_Clocks_go T.c_Clocks (pv 0) (hr.mono (by decide)) (pa_cons (pe_ix (ix_listK (K := K)) (pv 1) pe_int (fun _ _ => rfl)) pa_nil)) pa_nil)))) pss_nil)
        (pss_cons (ps_if (pt_cmp (pc_eqI (pe_ix (ix_listK (K := K)) (pv 1) pe_int (fun _ _ => rfl)) (pe_gi rfl T.g_NOW))) (pss_one (ps_ret (pe_lst (pa_cons (pe_mth U_Clocks_now T.c_Clocks (pv 0) (hr.mono (by decide)) (pa_cons (pe_ix (ix_listK (K := K)) (pv 1) pe_int (fun _ _ => rfl)) pa_nil)) pa_nil)))) pss_nil)
        (pss_cons (ps_if (pt_cmp (pc_eqI (pe_ix (ix_listK (K := K)) (pv 1) pe_int (fun _ _ => rfl)) (pe_gi rfl T.g_PRESS))) (pss_one (ps_ret (pe_lst (pa_cons (pe_mth U_Clocks_press T.c_Clocks (pv 0) (hr.mono (by decide)) (pa_cons (pe_ix (ix_listK (K := K)) (pv 1) pe_int (fun _ _ => rfl)) pa_nil)) pa_nil)))) pss_nil)
        (pss_cons (ps_if (pt_cmp (pc_eqI (pe_ix (ix_listK (K := K)) (pv 1) pe_int (fun _ _ => rfl)) (pe_gi rfl T.g_PAUSE))) (pss_one (ps_ret (pe_lst (pa_cons (pe_mth U_Clocks_pause T.c_Clocks (pv 0) (hr.mono (by decide)) (pa_cons (pe_ix (ix_listK (K := K)) (pv 1) pe_int (fun _ _ => rfl)) pa_nil)) pa_nil)))) pss_nil)
        (pss_cons (ps_if (pt_cmp (pc_eqI (pe_ix (ix_listK (K := K)) (pv 1) pe_int (fun _ _ => rfl)) (pe_gi rfl T.g_SET))) (pss_one (ps_ret (pe_lst (pa_cons (pe_mth U_Clocks_set_left T.c_Clocks (pv 0) (hr.mono (by decide)) (pa_cons (pe_ix (ix_listK (K := K)) (pv 1) pe_int (fun _ _ => rfl)) (pa_cons (pe_ix (ix_listK (K := K)) (pv 1) pe_int (fun _ _ => rfl)) pa_nil))) pa_nil)))) pss_nil)
        (pss_cons (ps_if (pt_cmp (pc_eqI (pe_ix (ix_listK (K := K)) (pv 1) pe_int (fun _ _ => rfl)) (pe_gi rfl T.g_LEFT))) (pss_one (ps_ret (pe_mth U_Clocks_left T.c_Clocks (pv 0) (hr.mono (by decide)) (pa_cons (pe_ix (ix_listK (K := K)) (pv 1) pe_int (fun _ _ => rfl)) pa_nil)))) pss_nil)
        (pss_cons (ps_if (pt_cmp (pc_eqI (pe_ix (ix_listK (K := K)) (pv 1) pe_int (fun _ _ => rfl)) (pe_gi rfl T.g_STATE))) (pss_one (ps_ret (pe_mth0 U_Clocks_state T.c_Clocks (pv 0) (hr.mono (by decide))))) pss_nil)
        (pss_one ps_never))))))))), ?_⟩
    obtain ⟨dx, lp0, lq0, now0, on0, turn0, u0, lo0, hx⟩ := hck.ins
    rcases ok_cases hc with ⟨n, ps, rfl⟩ | ⟨t, rfl⟩ | ⟨t, rfl⟩ | ⟨t, rfl⟩ | ⟨t, rfl⟩ | ⟨j, m, rfl⟩ | ⟨j, rfl⟩ | rfl
    · rw [put1_start] at hl
      have hask : (KycNeutral.natural n 32 && (KycNeutral.fives ps && decide (ps.length ≤ 40))) = true := hask
      rw [Bool.and_eq_true, Bool.and_eq_true, decide_eq_true_eq] at hask
      obtain ⟨n', rfl⟩ := nat_of hask.1
      obtain ⟨m, hm, h0⟩ := fives_of _ ps (Nat.le_refl _) hask.2.1
      refine ⟨_, rfl, l, _, 0, _, rfl, rfl, SqL.of hl, at_of (j := 0) rfl rfl, _, _, rfl, rfl, _, rfl, iteTb (decide_eq_true rfl) ?_⟩
      refine ⟨_, rfl, x, dx, _, rfl, hx, (by kernel_rfl), _, rfl, l, _, 1, _, rfl, rfl, SqL.of hl, at_of (j := 1) rfl rfl, _, rfl, 3, rfl, l, _, rfl, SqL.of hl, fun p hp => ?_⟩
      have hcut : cutV ((0 :: (n' : Int) :: (ps.length : Int) :: ps).map V.int) (some 3) none = ps.map V.int := by
        unfold cutV
        rw [show (3 : Int) = ((3 : Nat) : Int) from rfl, HT.sIx_nat, HT.sIx_none]
        have e3 : min 3 ((0 :: (n' : Int) :: (ps.length : Int) :: ps).map V.int).length = 3 := by simp
        rw [e3]
        show (ps.map V.int).take (_ - 3) = _
        rw [List.take_of_length_le (by simp)]
      refine ⟨x, n', p, ps, m, s, rfl, hck.same (same_new hp), upd_same.trans (congrArg (fun z => some (HO.lst z)) hcut), hm, (by omega), h0, fun H' s' r e hck' kp => ?_⟩
      exact ⟨(by show 1 ≤ sizeLine; decide), fun p2 hp2 => ans_end (kc := .start n' (KycNeutral.phasesOf ps)) rfl e rfl hck' ((Kp.same (same_new hp)).trans kp) k p2 hp2⟩
    · obtain ⟨t, rfl⟩ := nat_of (show KycNeutral.natural t 32 = true from hask)
      have hl : H l = some (.lst [.int 1, nV t]) := hl
      cases s with
      | none => exact absurd (step_none (k := .go t) rfl rfl) hne
      | some c =>
        refine ⟨_, rfl, l, _, 0, _, rfl, rfl, SqL.of hl, at_of (j := 0) rfl rfl, _, _, rfl, rfl, _, rfl, iteFb (decide_eq_false (by decide)) ?_⟩
        refine ⟨_, rfl, l, _, 0, _, rfl, rfl, SqL.of hl, at_of (j := 0) rfl rfl, _, _, rfl, rfl, _, rfl, iteTb (decide_eq_true rfl) ?_⟩
        refine ⟨_, rfl, x, dx, _, rfl, hx, (by kernel_rfl), _, rfl, l, _, 1, _, rfl, rfl, SqL.of hl, at_of (j := 1) rfl rfl, x, t, c, rfl, hck, fun H' c' r e hck' kp => ?_⟩
        exact ⟨(by show 1 ≤ sizeLine; decide), fun p2 hp2 => ans_end (kc := .go t) rfl e rfl hck' kp k p2 hp2⟩
    · obtain ⟨t, rfl⟩ := nat_of (show KycNeutral.natural t 32 = true from hask)
      have hl : H l = some (.lst [.int 2, nV t]) := hl
      cases s with
      | none => exact absurd (step_none (k := .now t) rfl rfl) hne
      | some c =>
        refine ⟨_, rfl, l, _, 0, _, rfl, rfl, SqL.of hl, at_of (j := 0) rfl rfl, _, _, rfl, rfl, _, rfl, iteFb (decide_eq_false (by decide)) ?_⟩
        refine ⟨_, rfl, l, _, 0, _, rfl, rfl, SqL.of hl, at_of (j := 0) rfl rfl, _, _, rfl, rfl, _, rfl, iteFb (decide_eq_false (by decide)) ?_⟩
        refine ⟨_, rfl, l, _, 0, _, rfl, rfl, SqL.of hl, at_of (j := 0) rfl rfl, _, _, rfl, rfl, _, rfl, iteTb (decide_eq_true rfl) ?_⟩
        refine ⟨_, rfl, x, dx, _, rfl, hx, (by kernel_rfl), _, rfl, l, _, 1, _, rfl, rfl, SqL.of hl, at_of (j := 1) rfl rfl, x, t, c, rfl, hck, fun H' c' r e hck' kp => ?_⟩
        exact ⟨(by show 1 ≤ sizeLine; decide), fun p2 hp2 => ans_end (kc := .now t) rfl e rfl hck' kp k p2 hp2⟩
    · obtain ⟨t, rfl⟩ := nat_of (show KycNeutral.natural t 32 = true from hask)
      have hl : H l = some (.lst [.int 3, nV t]) := hl
      cases s with
      | none => exact absurd (step_none (k := .press t) rfl rfl) hne
      | some c =>
        refine ⟨_, rfl, l, _, 0, _, rfl, rfl, SqL.of hl, at_of (j := 0) rfl rfl, _, _, rfl, rfl, _, rfl, iteFb (decide_eq_false (by decide)) ?_⟩
        refine ⟨_, rfl, l, _, 0, _, rfl, rfl, SqL.of hl, at_of (j := 0) rfl rfl, _, _, rfl, rfl, _, rfl, iteFb (decide_eq_false (by decide)) ?_⟩
        refine ⟨_, rfl, l, _, 0, _, rfl, rfl, SqL.of hl, at_of (j := 0) rfl rfl, _, _, rfl, rfl, _, rfl, iteFb (decide_eq_false (by decide)) ?_⟩
        refine ⟨_, rfl, l, _, 0, _, rfl, rfl, SqL.of hl, at_of (j := 0) rfl rfl, _, _, rfl, rfl, _, rfl, iteTb (decide_eq_true rfl) ?_⟩
        refine ⟨_, rfl, x, dx, _, rfl, hx, (by kernel_rfl), _, rfl, l, _, 1, _, rfl, rfl, SqL.of hl, at_of (j := 1) rfl rfl, x, t, c, rfl, hck, fun H' c' r e hck' kp => ?_⟩
        exact ⟨(by show 1 ≤ sizeLine; decide), fun p2 hp2 => ans_end (kc := .press t) rfl e rfl hck' kp k p2 hp2⟩
    · obtain ⟨t, rfl⟩ := nat_of (show KycNeutral.natural t 32 = true from hask)
      have hl : H l = some (.lst [.int 4, nV t]) := hl
      cases s with
      | none => exact absurd (step_none (k := .pause t) rfl rfl) hne
      | some c =>
        refine ⟨_, rfl, l, _, 0, _, rfl, rfl, SqL.of hl, at_of (j := 0) rfl rfl, _, _, rfl, rfl, _, rfl, iteFb (decide_eq_false (by decide)) ?_⟩
        refine ⟨_, rfl, l, _, 0, _, rfl, rfl, SqL.of hl, at_of (j := 0) rfl rfl, _, _, rfl, rfl, _, rfl, iteFb (decide_eq_false (by decide)) ?_⟩
        refine ⟨_, rfl, l, _, 0, _, rfl, rfl, SqL.of hl, at_of (j := 0) rfl rfl, _, _, rfl, rfl, _, rfl, iteFb (decide_eq_false (by decide)) ?_⟩
        refine ⟨_, rfl, l, _, 0, _, rfl, rfl, SqL.of hl, at_of (j := 0) rfl rfl, _, _, rfl, rfl, _, rfl, iteFb (decide_eq_false (by decide)) ?_⟩
        refine ⟨_, rfl, l, _, 0, _, rfl, rfl, SqL.of hl, at_of (j := 0) rfl rfl, _, _, rfl, rfl, _, rfl, iteTb (decide_eq_true rfl) ?_⟩
        refine ⟨_, rfl, x, dx, _, rfl, hx, (by kernel_rfl), _, rfl, l, _, 1, _, rfl, rfl, SqL.of hl, at_of (j := 1) rfl rfl, x, t, c, rfl, hck, fun H' c' r e hck' kp => ?_⟩
        exact ⟨(by show 1 ≤ sizeLine; decide), fun p2 hp2 => ans_end (kc := .pause t) rfl e rfl hck' kp k p2 hp2⟩
    · have hask : (KycNeutral.natural j 32 && KycNeutral.natural m 32) = true := hask
      rw [Bool.and_eq_true] at hask
      obtain ⟨j, rfl⟩ := nat_of hask.1
      obtain ⟨m, rfl⟩ := nat_of hask.2
      have hl : H l = some (.lst [.int 5, nV j, nV m]) := hl
      cases s with
      | none => exact absurd (step_none (k := .set j m) rfl rfl) hne
      | some c =>
        refine ⟨_, rfl, l, _, 0, _, rfl, rfl, SqL.of hl, at_of (j := 0) rfl rfl, _, _, rfl, rfl, _, rfl, iteFb (decide_eq_false (by decide)) ?_⟩
        refine ⟨_, rfl, l, _, 0, _, rfl, rfl, SqL.of hl, at_of (j := 0) rfl rfl, _, _, rfl, rfl, _, rfl, iteFb (decide_eq_false (by decide)) ?_⟩
        refine ⟨_, rfl, l, _, 0, _, rfl, rfl, SqL.of hl, at_of (j := 0) rfl rfl, _, _, rfl, rfl, _, rfl, iteFb (decide_eq_false (by decide)) ?_⟩
        refine ⟨_, rfl, l, _, 0, _, rfl, rfl, SqL.of hl, at_of (j := 0) rfl rfl, _, _, rfl, rfl, _, rfl, iteFb (decide_eq_false (by decide)) ?_⟩
        refine ⟨_, rfl, l, _, 0, _, rfl, rfl, SqL.of hl, at_of (j := 0) rfl rfl, _, _, rfl, rfl, _, rfl, iteFb (decide_eq_false (by decide)) ?_⟩
        refine ⟨_, rfl, l, _, 0, _, rfl, rfl, SqL.of hl, at_of (j := 0) rfl rfl, _, _, rfl, rfl, _, rfl, iteTb (decide_eq_true rfl) ?_⟩
        refine ⟨_, rfl, x, dx, _, rfl, hx, (by kernel_rfl), _, rfl, l, _, 1, _, rfl, rfl, SqL.of hl, at_of (j := 1) rfl rfl, _, rfl, l, _, 2, _, rfl, rfl, SqL.of hl, at_of (j := 2) rfl rfl, x, j, m, c, rfl, hck, fun H' c' r e hck' kp => ?_⟩
        exact ⟨(by show 1 ≤ sizeLine; decide), fun p2 hp2 => ans_end (kc := .set j m) rfl e rfl hck' kp k p2 hp2⟩
    · obtain ⟨j, rfl⟩ := nat_of (show KycNeutral.natural j 32 = true from hask)
      have hl : H l = some (.lst [.int 6, nV j]) := hl
      cases s with
      | none => exact absurd (step_none (k := .left j) rfl rfl) hne
      | some c =>
        refine ⟨_, rfl, l, _, 0, _, rfl, rfl, SqL.of hl, at_of (j := 0) rfl rfl, _, _, rfl, rfl, _, rfl, iteFb (decide_eq_false (by decide)) ?_⟩
        refine ⟨_, rfl, l, _, 0, _, rfl, rfl, SqL.of hl, at_of (j := 0) rfl rfl, _, _, rfl, rfl, _, rfl, iteFb (decide_eq_false (by decide)) ?_⟩
        refine ⟨_, rfl, l, _, 0, _, rfl, rfl, SqL.of hl, at_of (j := 0) rfl rfl, _, _, rfl, rfl, _, rfl, iteFb (decide_eq_false (by decide)) ?_⟩
        refine ⟨_, rfl, l, _, 0, _, rfl, rfl, SqL.of hl, at_of (j := 0) rfl rfl, _, _, rfl, rfl, _, rfl, iteFb (decide_eq_false (by decide)) ?_⟩
        refine ⟨_, rfl, l, _, 0, _, rfl, rfl, SqL.of hl, at_of (j := 0) rfl rfl, _, _, rfl, rfl, _, rfl, iteFb (decide_eq_false (by decide)) ?_⟩
        refine ⟨_, rfl, l, _, 0, _, rfl, rfl, SqL.of hl, at_of (j := 0) rfl rfl, _, _, rfl, rfl, _, rfl, iteFb (decide_eq_false (by decide)) ?_⟩
        refine ⟨_, rfl, l, _, 0, _, rfl, rfl, SqL.of hl, at_of (j := 0) rfl rfl, _, _, rfl, rfl, _, rfl, iteTb (decide_eq_true rfl) ?_⟩
        refine ⟨_, rfl, x, dx, _, rfl, hx, (by kernel_rfl), _, rfl, l, _, 1, _, rfl, rfl, SqL.of hl, at_of (j := 1) rfl rfl, x, j, c, rfl, hck, fun a p2 xs e hxs hp2 => ?_⟩
        exact ans_end (kc := .left j) rfl e hxs hck (Kp.refl H) k p2 hp2
    · have hl : H l = some (.lst [.int 7]) := hl
      cases s with
      | none => exact absurd (step_none (k := .state) rfl rfl) hne
      | some c =>
        refine ⟨_, rfl, l, _, 0, _, rfl, rfl, SqL.of hl, at_of (j := 0) rfl rfl, _, _, rfl, rfl, _, rfl, iteFb (decide_eq_false (by decide)) ?_⟩
        refine ⟨_, rfl, l, _, 0, _, rfl, rfl, SqL.of hl, at_of (j := 0) rfl rfl, _, _, rfl, rfl, _, rfl, iteFb (decide_eq_false (by decide)) ?_⟩
        refine ⟨_, rfl, l, _, 0, _, rfl, rfl, SqL.of hl, at_of (j := 0) rfl rfl, _, _, rfl, rfl, _, rfl, iteFb (decide_eq_false (by decide)) ?_⟩
        refine ⟨_, rfl, l, _, 0, _, rfl, rfl, SqL.of hl, at_of (j := 0) rfl rfl, _, _, rfl, rfl, _, rfl, iteFb (decide_eq_false (by decide)) ?_⟩
        refine ⟨_, rfl, l, _, 0, _, rfl, rfl, SqL.of hl, at_of (j := 0) rfl rfl, _, _, rfl, rfl, _, rfl, iteFb (decide_eq_false (by decide)) ?_⟩
        refine ⟨_, rfl, l, _, 0, _, rfl, rfl, SqL.of hl, at_of (j := 0) rfl rfl, _, _, rfl, rfl, _, rfl, iteFb (decide_eq_false (by decide)) ?_⟩
        refine ⟨_, rfl, l, _, 0, _, rfl, rfl, SqL.of hl, at_of (j := 0) rfl rfl, _, _, rfl, rfl, _, rfl, iteFb (decide_eq_false (by decide)) ?_⟩
        refine ⟨_, rfl, l, _, 0, _, rfl, rfl, SqL.of hl, at_of (j := 0) rfl rfl, _, _, rfl, rfl, _, rfl, iteTb (decide_eq_true rfl) ?_⟩
        refine ⟨_, rfl, x, dx, _, rfl, hx, (by kernel_rfl), x, c, rfl, hck, fun a p2 xs e hxs hp2 => ?_⟩
        exact ans_end (kc := .state) rfl e hxs hck (Kp.refl H) k p2 hp2
/-! ### end_of_call -/
theorem pre_get {pre xs : List Int} {j : Nat} {z : Int} (h : xs[j]? = some z) : ((pre ++ xs).map V.int)[pre.length + j]? = some (V.int z) := by
  rw [List.getElem?_map, List.getElem?_append_right (Nat.le_add_right _ _), Nat.add_sub_cancel_left, h]; rfl
theorem ok_end_of_call (F : Fun K "end_of_call" "end_of_call" s_end_of_call f fd) (T : Txt K mg C_Phase C_Player C_Clocks) :
    FnOk P w K mg base CX0 1 f fd ["calls", "place"] (spEndOf K) := by
  refine F.ok sc_end_of_call (fun vs H Q E h => ?_) (fun cdv A outer s0 H vs Q E hr h => ?_)
  · obtain ⟨l, pre, c, post, rfl, _⟩ := h
    rfl
  · obtain ⟨l, pre, c, post, rfl, hsq, hc, hask, k⟩ := h
    refine ⟨_, (pss_cons (ps_if (pt_cmp (pc_eqI (pe_ix (ix_listK (K := K)) (pv 0) (pv 1) (fun _ _ => rfl)) (pe_gi rfl T.g_START))) (pss_one (ps_ret (pe_add (pe_add (pv 1) pe_int) (pe_ix (ix_listK (K := K)) (pv 0) (pe_add (pv 1) pe_int) (fun _ _ => rfl))))) pss_nil)
        (pss_cons (ps_if (pt_cmp (pc_eqI (pe_ix (ix_listK (K := K)) (pv 0) (pv 1) (fun _ _ => rfl)) (pe_gi rfl T.g_SET))) (pss_one (ps_ret (pe_add (pv 1) pe_int))) pss_nil)
        (pss_cons (ps_if (pt_cmp (pc_eqI (pe_ix (ix_listK (K := K)) (pv 0) (pv 1) (fun _ _ => rfl)) (pe_gi rfl T.g_STATE))) (pss_one (ps_ret (pe_add (pv 1) pe_int))) pss_nil)
        (pss_one (ps_ret (pe_add (pv 1) pe_int)))))), ?_⟩
    have g0 : ∀ {z : Int}, (put1 c ++ post)[0]? = some z → atI ((pre ++ (put1 c ++ post)).map V.int) (pre.length : Int) = some (V.int z) := fun h => atI_nat (pre_get h)
    have g2 : ∀ {z : Int}, (put1 c ++ post)[2]? = some z → atI ((pre ++ (put1 c ++ post)).map V.int) ((pre.length : Int) + 2) = some (V.int z) := fun h => at_of (j := pre.length + 2) (by omega) (pre_get h)
    rcases ok_cases hc with ⟨n, ps, rfl⟩ | ⟨t, rfl⟩ | ⟨t, rfl⟩ | ⟨t, rfl⟩ | ⟨t, rfl⟩ | ⟨j, m, rfl⟩ | ⟨j, rfl⟩ | rfl
    · rw [put1_start] at hsq g0 g2 k
      refine ⟨_, rfl, _, rfl, l, _, _, _, rfl, rfl, hsq, g0 rfl, _, _, rfl, rfl, _, rfl, iteTb (decide_eq_true rfl) ?_⟩
      refine ⟨_, rfl, _, _, rfl, rfl, _, rfl, _, rfl, _, _, rfl, rfl, l, _, _, _, rfl, rfl, hsq, g2 rfl, _, _, rfl, rfl, q_nat k ?_⟩
      show ((pre.length : Int) + 3) + (ps.length : Int) = ((pre.length + (0 :: n :: (ps.length : Int) :: ps).length : Nat) : Int)
      simp only [List.length_cons]
      omega
    · refine ⟨_, rfl, _, rfl, l, _, _, _, rfl, rfl, hsq, g0 rfl, _, _, rfl, rfl, _, rfl, iteFb (decide_eq_false (by decide)) ?_⟩
      refine ⟨_, rfl, _, rfl, l, _, _, _, rfl, rfl, hsq, g0 rfl, _, _, rfl, rfl, _, rfl, iteFb (decide_eq_false (by decide)) ?_⟩
      refine ⟨_, rfl, _, rfl, l, _, _, _, rfl, rfl, hsq, g0 rfl, _, _, rfl, rfl, _, rfl, iteFb (decide_eq_false (by decide)) ?_⟩
      refine ⟨_, rfl, _, _, rfl, rfl, q_nat k ?_⟩
      show (pre.length : Int) + 2 = ((pre.length + 2 : Nat) : Int)
      omega
    · refine ⟨_, rfl, _, rfl, l, _, _, _, rfl, rfl, hsq, g0 rfl, _, _, rfl, rfl, _, rfl, iteFb (decide_eq_false (by decide)) ?_⟩
      refine ⟨_, rfl, _, rfl, l, _, _, _, rfl, rfl, hsq, g0 rfl, _, _, rfl, rfl, _, rfl, iteFb (decide_eq_false (by decide)) ?_⟩
      refine ⟨_, rfl, _, rfl, l, _, _, _, rfl, rfl, hsq, g0 rfl, _, _, rfl, rfl, _, rfl, iteFb (decide_eq_false (by decide)) ?_⟩
      refine ⟨_, rfl, _, _, rfl, rfl, q_nat k ?_⟩
      show (pre.length : Int) + 2 = ((pre.length + 2 : Nat) : Int)
      omega
    · refine ⟨_, rfl, _, rfl, l, _, _, _, rfl, rfl, hsq, g0 rfl, _, _, rfl, rfl, _, rfl, iteFb (decide_eq_false (by decide)) ?_⟩
      refine ⟨_, rfl, _, rfl, l, _, _, _, rfl, rfl, hsq, g0 rfl, _, _, rfl, rfl, _, rfl, iteFb (decide_eq_false (by decide)) ?_⟩
      refine ⟨_, rfl, _, rfl, l, _, _, _, rfl, rfl, hsq, g0 rfl, _, _, rfl, rfl, _, rfl, iteFb (decide_eq_false (by decide)) ?_⟩
      refine ⟨_, rfl, _, _, rfl, rfl, q_nat k ?_⟩
      show (pre.length : Int) + 2 = ((pre.length + 2 : Nat) : Int)
      omega
    · refine ⟨_, rfl, _, rfl, l, _, _, _, rfl, rfl, hsq, g0 rfl, _, _, rfl, rfl, _, rfl, iteFb (decide_eq_false (by decide)) ?_⟩
      refine ⟨_, rfl, _, rfl, l, _, _, _, rfl, rfl, hsq, g0 rfl, _, _, rfl, rfl, _, rfl, iteFb (decide_eq_false (by decide)) ?_⟩
      refine ⟨_, rfl, _, rfl, l, _, _, _, rfl, rfl, hsq, g0 rfl, _, _, rfl, rfl, _, rfl, iteFb (decide_eq_false (by decide)) ?_⟩
      refine ⟨_, rfl, _, _, rfl, rfl, q_nat k ?_⟩
      show (pre.length : Int) + 2 = ((pre.length + 2 : Nat) : Int)
      omega
    · refine ⟨_, rfl, _, rfl, l, _, _, _, rfl, rfl, hsq, g0 rfl, _, _, rfl, rfl, _, rfl, iteFb (decide_eq_false (by decide)) ?_⟩
      refine ⟨_, rfl, _, rfl, l, _, _, _, rfl, rfl, hsq, g0 rfl, _, _, rfl, rfl, _, rfl, iteTb (decide_eq_true rfl) ?_⟩
      refine ⟨_, rfl, _, _, rfl, rfl, q_nat k ?_⟩
      show (pre.length : Int) + 3 = ((pre.length + 3 : Nat) : Int)
      omega
    · refine ⟨_, rfl, _, rfl, l, _, _, _, rfl, rfl, hsq, g0 rfl, _, _, rfl, rfl, _, rfl, iteFb (decide_eq_false (by decide)) ?_⟩
      refine ⟨_, rfl, _, rfl, l, _, _, _, rfl, rfl, hsq, g0 rfl, _, _, rfl, rfl, _, rfl, iteFb (decide_eq_false (by decide)) ?_⟩
      refine ⟨_, rfl, _, rfl, l, _, _, _, rfl, rfl, hsq, g0 rfl, _, _, rfl, rfl, _, rfl, iteFb (decide_eq_false (by decide)) ?_⟩
      refine ⟨_, rfl, _, _, rfl, rfl, q_nat k ?_⟩
      show (pre.length : Int) + 2 = ((pre.length + 2 : Nat) : Int)
      omega
    · refine ⟨_, rfl, _, rfl, l, _, _, _, rfl, rfl, hsq, g0 rfl, _, _, rfl, rfl, _, rfl, iteFb (decide_eq_false (by decide)) ?_⟩
      refine ⟨_, rfl, _, rfl, l, _, _, _, rfl, rfl, hsq, g0 rfl, _, _, rfl, rfl, _, rfl, iteFb (decide_eq_false (by decide)) ?_⟩
      refine ⟨_, rfl, _, rfl, l, _, _, _, rfl, rfl, hsq, g0 rfl, _, _, rfl, rfl, _, rfl, iteTb (decide_eq_true rfl) ?_⟩
      refine ⟨_, rfl, _, _, rfl, rfl, q_nat k ?_⟩
      show (pre.length : Int) + 1 = ((pre.length + 1 : Nat) : Int)
      omega
end
end Pc

set_option Elab.async false
set_option linter.all false
set_option maxRecDepth 100000
set_option maxHeartbeats 2000000
namespace Pc
open PySem PySem.Spec PyProof.Rows L2
open PySem.W (Codec)
theorem all_mk {P : Program} {w : World} {K : PySem.W.Frag} {h : Heap} {mg : Str → Option Value} {fa C_Phase C_Player C_Clocks f_Phase_init f_phases_of f_moves_hold f_kind_holds f_inc_holds f_periods_hold f_phase_holds f_phases_hold f_cost_of f_left_when_moved f_Player_init f_Player_spend f_Player_enter_next f_Clocks_init f_Clocks_lay_out f_Clocks_start f_Clocks_go f_Clocks_now f_Clocks_press f_Clocks_pause f_Clocks_set_left f_Clocks_left f_Clocks_state f_Clocks_reach f_Clocks_has_player f_Clocks_may_become f_Clocks_verdict f_Clocks_next_number f_Clocks_run_until f_Clocks_run f_Clocks_end_move f_end_of_call f_answer f_answers : Addr}
    (X : K.In h) (G : h.Ns mainGlobals mg) (hfa : mg "answers" = some (.ref fa))
    (a_Phase : PySem.W.nsIn K mainGlobals "Phase" = some (some (.ref C_Phase)))
    (pg_Phase : PySem.W.plainGet K C_Phase Str.empty = true) (hd_Phase : PySem.W.hasDictIn K C_Phase = true) (po_Phase : PySem.W.plainOver K C_Phase = true) (sa_Phase : PySem.W.findIn K (.ref C_Phase) "__setattr__" = some (some (.builtin "object.__setattr__"))) (mk_Phase : PySem.W.makesIn K C_Phase = true) (kc_Phase : PySem.W.keepIn K (.ref C_Phase) = true)
    (n_Phase_moves : PySem.W.findIn K (.ref C_Phase) "moves" = some none)
    (n_Phase_main : PySem.W.findIn K (.ref C_Phase) "main" = some none)
    (n_Phase_kind : PySem.W.findIn K (.ref C_Phase) "kind" = some none)
    (n_Phase_inc : PySem.W.findIn K (.ref C_Phase) "inc" = some none)
    (n_Phase_periods : PySem.W.findIn K (.ref C_Phase) "periods" = some none)
    (a_Player : PySem.W.nsIn K mainGlobals "Player" = some (some (.ref C_Player)))
    (pg_Player : PySem.W.plainGet K C_Player Str.empty = true) (hd_Player : PySem.W.hasDictIn K C_Player = true) (po_Player : PySem.W.plainOver K C_Player = true) (sa_Player : PySem.W.findIn K (.ref C_Player) "__setattr__" = some (some (.builtin "object.__setattr__"))) (mk_Player : PySem.W.makesIn K C_Player = true) (kc_Player : PySem.W.keepIn K (.ref C_Player) = true)
    (n_Player_time_left : PySem.W.findIn K (.ref C_Player) "time_left" = some none)
    (n_Player_periods : PySem.W.findIn K (.ref C_Player) "periods" = some none)
    (n_Player_in_period : PySem.W.findIn K (.ref C_Player) "in_period" = some none)
    (n_Player_phase_number : PySem.W.findIn K (.ref C_Player) "phase_number" = some none)
    (n_Player_moves : PySem.W.findIn K (.ref C_Player) "moves" = some none)
    (a_Clocks : PySem.W.nsIn K mainGlobals "Clocks" = some (some (.ref C_Clocks)))
    (pg_Clocks : PySem.W.plainGet K C_Clocks Str.empty = true) (hd_Clocks : PySem.W.hasDictIn K C_Clocks = true) (po_Clocks : PySem.W.plainOver K C_Clocks = true) (sa_Clocks : PySem.W.findIn K (.ref C_Clocks) "__setattr__" = some (some (.builtin "object.__setattr__"))) (mk_Clocks : PySem.W.makesIn K C_Clocks = true) (kc_Clocks : PySem.W.keepIn K (.ref C_Clocks) = true)
    (n_Clocks_phases : PySem.W.findIn K (.ref C_Clocks) "phases" = some none)
    (n_Clocks_players : PySem.W.findIn K (.ref C_Clocks) "players" = some none)
    (n_Clocks_moment : PySem.W.findIn K (.ref C_Clocks) "moment" = some none)
    (n_Clocks_running : PySem.W.findIn K (.ref C_Clocks) "running" = some none)
    (n_Clocks_mover : PySem.W.findIn K (.ref C_Clocks) "mover" = some none)
    (n_Clocks_used : PySem.W.findIn K (.ref C_Clocks) "used" = some none)
    (n_Clocks_loser : PySem.W.findIn K (.ref C_Clocks) "loser" = some none)
    {t_ROW : Nat} (g_ROW : PySem.W.nsIn K mainGlobals "ROW" = some (some (.int (5) t_ROW)))
    {t_MOST_MOVES : Nat} (g_MOST_MOVES : PySem.W.nsIn K mainGlobals "MOST_MOVES" = some (some (.int (200) t_MOST_MOVES)))
    {t_HOURGLASS : Nat} (g_HOURGLASS : PySem.W.nsIn K mainGlobals "HOURGLASS" = some (some (.int (5) t_HOURGLASS)))
    {t_PLAIN : Nat} (g_PLAIN : PySem.W.nsIn K mainGlobals "PLAIN" = some (some (.int (0) t_PLAIN)))
    {t_MOST_INC : Nat} (g_MOST_INC : PySem.W.nsIn K mainGlobals "MOST_INC" = some (some (.int (3600000) t_MOST_INC)))
    {t_BY_PERIODS : Nat} (g_BY_PERIODS : PySem.W.nsIn K mainGlobals "BY_PERIODS" = some (some (.int (4) t_BY_PERIODS)))
    {t_MOST_PERIODS : Nat} (g_MOST_PERIODS : PySem.W.nsIn K mainGlobals "MOST_PERIODS" = some (some (.int (20) t_MOST_PERIODS)))
    {t_MOST_MAIN : Nat} (g_MOST_MAIN : PySem.W.nsIn K mainGlobals "MOST_MAIN" = some (some (.int (86400000) t_MOST_MAIN)))
    {t_MOST_PHASES : Nat} (g_MOST_PHASES : PySem.W.nsIn K mainGlobals "MOST_PHASES" = some (some (.int (3) t_MOST_PHASES)))
    {t_DELAYED : Nat} (g_DELAYED : PySem.W.nsIn K mainGlobals "DELAYED" = some (some (.int (3) t_DELAYED)))
    {t_ADDED : Nat} (g_ADDED : PySem.W.nsIn K mainGlobals "ADDED" = some (some (.int (1) t_ADDED)))
    {t_GIVEN_BACK : Nat} (g_GIVEN_BACK : PySem.W.nsIn K mainGlobals "GIVEN_BACK" = some (some (.int (2) t_GIVEN_BACK)))
    {t_FEWEST_PLAYERS : Nat} (g_FEWEST_PLAYERS : PySem.W.nsIn K mainGlobals "FEWEST_PLAYERS" = some (some (.int (2) t_FEWEST_PLAYERS)))
    {t_MOST_PLAYERS : Nat} (g_MOST_PLAYERS : PySem.W.nsIn K mainGlobals "MOST_PLAYERS" = some (some (.int (4) t_MOST_PLAYERS)))
    {t_WRONG : Nat} (g_WRONG : PySem.W.nsIn K mainGlobals "WRONG" = some (some (.int (-22) t_WRONG)))
    {t_ALREADY_FALLEN : Nat} (g_ALREADY_FALLEN : PySem.W.nsIn K mainGlobals "ALREADY_FALLEN" = some (some (.int (-41) t_ALREADY_FALLEN)))
    {t_GOES_ALREADY : Nat} (g_GOES_ALREADY : PySem.W.nsIn K mainGlobals "GOES_ALREADY" = some (some (.int (-17) t_GOES_ALREADY)))
    {t_MOST_SET : Nat} (g_MOST_SET : PySem.W.nsIn K mainGlobals "MOST_SET" = some (some (.int (86400000) t_MOST_SET)))
    {t_NOT_NOW : Nat} (g_NOT_NOW : PySem.W.nsIn K mainGlobals "NOT_NOW" = some (some (.int (-16) t_NOT_NOW)))
    {t_MOVES_TOLD_BELOW : Nat} (g_MOVES_TOLD_BELOW : PySem.W.nsIn K mainGlobals "MOVES_TOLD_BELOW" = some (some (.int (4294967296) t_MOVES_TOLD_BELOW)))
    {t_LATEST : Nat} (g_LATEST : PySem.W.nsIn K mainGlobals "LATEST" = some (some (.int (1000000000) t_LATEST)))
    {t_FALLEN : Nat} (g_FALLEN : PySem.W.nsIn K mainGlobals "FALLEN" = some (some (.int (100) t_FALLEN)))
    {t_MOST_LEFT : Nat} (g_MOST_LEFT : PySem.W.nsIn K mainGlobals "MOST_LEFT" = some (some (.int (1000000000) t_MOST_LEFT)))
    {t_START : Nat} (g_START : PySem.W.nsIn K mainGlobals "START" = some (some (.int (0) t_START)))
    {t_SET : Nat} (g_SET : PySem.W.nsIn K mainGlobals "SET" = some (some (.int (5) t_SET)))
    {t_STATE : Nat} (g_STATE : PySem.W.nsIn K mainGlobals "STATE" = some (some (.int (7) t_STATE)))
    {t_GO : Nat} (g_GO : PySem.W.nsIn K mainGlobals "GO" = some (some (.int (1) t_GO)))
    {t_NOW : Nat} (g_NOW : PySem.W.nsIn K mainGlobals "NOW" = some (some (.int (2) t_NOW)))
    {t_PRESS : Nat} (g_PRESS : PySem.W.nsIn K mainGlobals "PRESS" = some (some (.int (3) t_PRESS)))
    {t_PAUSE : Nat} (g_PAUSE : PySem.W.nsIn K mainGlobals "PAUSE" = some (some (.int (4) t_PAUSE)))
    {t_LEFT : Nat} (g_LEFT : PySem.W.nsIn K mainGlobals "LEFT" = some (some (.int (6) t_LEFT)))
    (b_range : PySem.W.nsIn K mainGlobals "range" = some none)
    (b_len : PySem.W.nsIn K mainGlobals "len" = some none)
    (b_enumerate : PySem.W.nsIn K mainGlobals "enumerate" = some none)
    (b_max : PySem.W.nsIn K mainGlobals "max" = some none)
    (b_min : PySem.W.nsIn K mainGlobals "min" = some none)
    (a_Phase_init : PySem.W.findIn K (.ref C_Phase) "__init__" = some (some (.ref f_Phase_init)))
    (i_Phase_init : PySem.W.isFn K (.ref f_Phase_init) = true)
    {od_Phase_init an_Phase_init : Option Addr} {sl_Phase_init : Array (Option Value)} {oc_Phase_init kV_Phase_init dc_Phase_init pm_Phase_init cd_Phase_init ct_Phase_init : Value}
    (l_Phase_init : K.lookup f_Phase_init = some ⟨oc_Phase_init, od_Phase_init, .func (PySem.W.fnOf "__init__" "Phase.__init__" (defArgs s_Phase_init) (defBody s_Phase_init) (defScope s_Phase_init) .none kV_Phase_init dc_Phase_init pm_Phase_init an_Phase_init cd_Phase_init ct_Phase_init), sl_Phase_init⟩) (c_Phase_init : PySem.W.codeIn K cd_Phase_init "Phase.__init__" = true) (k_Phase_init : PySem.W.keepIn K (.ref f_Phase_init) = true)
    (a_phases_of : PySem.W.nsIn K mainGlobals "phases_of" = some (some (.ref f_phases_of)))
    {od_phases_of an_phases_of : Option Addr} {sl_phases_of : Array (Option Value)} {oc_phases_of kV_phases_of dc_phases_of pm_phases_of cd_phases_of ct_phases_of : Value}
    (l_phases_of : K.lookup f_phases_of = some ⟨oc_phases_of, od_phases_of, .func (PySem.W.fnOf "phases_of" "phases_of" (defArgs s_phases_of) (defBody s_phases_of) (defScope s_phases_of) .none kV_phases_of dc_phases_of pm_phases_of an_phases_of cd_phases_of ct_phases_of), sl_phases_of⟩) (c_phases_of : PySem.W.codeIn K cd_phases_of "phases_of" = true) (k_phases_of : PySem.W.keepIn K (.ref f_phases_of) = true)
    (a_moves_hold : PySem.W.nsIn K mainGlobals "moves_hold" = some (some (.ref f_moves_hold)))
    {od_moves_hold an_moves_hold : Option Addr} {sl_moves_hold : Array (Option Value)} {oc_moves_hold kV_moves_hold dc_moves_hold pm_moves_hold cd_moves_hold ct_moves_hold : Value}
    (l_moves_hold : K.lookup f_moves_hold = some ⟨oc_moves_hold, od_moves_hold, .func (PySem.W.fnOf "moves_hold" "moves_hold" (defArgs s_moves_hold) (defBody s_moves_hold) (defScope s_moves_hold) .none kV_moves_hold dc_moves_hold pm_moves_hold an_moves_hold cd_moves_hold ct_moves_hold), sl_moves_hold⟩) (c_moves_hold : PySem.W.codeIn K cd_moves_hold "moves_hold" = true) (k_moves_hold : PySem.W.keepIn K (.ref f_moves_hold) = true)
    (a_kind_holds : PySem.W.nsIn K mainGlobals "kind_holds" = some (some (.ref f_kind_holds)))
    {od_kind_holds an_kind_holds : Option Addr} {sl_kind_holds : Array (Option Value)} {oc_kind_holds kV_kind_holds dc_kind_holds pm_kind_holds cd_kind_holds ct_kind_holds : Value}
    (l_kind_holds : K.lookup f_kind_holds = some ⟨oc_kind_holds, od_kind_holds, .func (PySem.W.fnOf "kind_holds" "kind_holds" (defArgs s_kind_holds) (defBody s_kind_holds) (defScope s_kind_holds) .none kV_kind_holds dc_kind_holds pm_kind_holds an_kind_holds cd_kind_holds ct_kind_holds), sl_kind_holds⟩) (c_kind_holds : PySem.W.codeIn K cd_kind_holds "kind_holds" = true) (k_kind_holds : PySem.W.keepIn K (.ref f_kind_holds) = true)
    (a_inc_holds : PySem.W.nsIn K mainGlobals "inc_holds" = some (some (.ref f_inc_holds)))
    {od_inc_holds an_inc_holds : Option Addr} {sl_inc_holds : Array (Option Value)} {oc_inc_holds kV_inc_holds dc_inc_holds pm_inc_holds cd_inc_holds ct_inc_holds : Value}
    (l_inc_holds : K.lookup f_inc_holds = some ⟨oc_inc_holds, od_inc_holds, .func (PySem.W.fnOf "inc_holds" "inc_holds" (defArgs s_inc_holds) (defBody s_inc_holds) (defScope s_inc_holds) .none kV_inc_holds dc_inc_holds pm_inc_holds an_inc_holds cd_inc_holds ct_inc_holds), sl_inc_holds⟩) (c_inc_holds : PySem.W.codeIn K cd_inc_holds "inc_holds" = true) (k_inc_holds : PySem.W.keepIn K (.ref f_inc_holds) = true)
    (a_periods_hold : PySem.W.nsIn K mainGlobals "periods_hold" = some (some (.ref f_periods_hold)))
    {od_periods_hold an_periods_hold : Option Addr} {sl_periods_hold : Array (Option Value)} {oc_periods_hold kV_periods_hold dc_periods_hold pm_periods_hold cd_periods_hold ct_periods_hold : Value}
    (l_periods_hold : K.lookup f_periods_hold = some ⟨oc_periods_hold, od_periods_hold, .func (PySem.W.fnOf "periods_hold" "periods_hold" (defArgs s_periods_hold) (defBody s_periods_hold) (defScope s_periods_hold) .none kV_periods_hold dc_periods_hold pm_periods_hold an_periods_hold cd_periods_hold ct_periods_hold), sl_periods_hold⟩) (c_periods_hold : PySem.W.codeIn K cd_periods_hold "periods_hold" = true) (k_periods_hold : PySem.W.keepIn K (.ref f_periods_hold) = true)
    (a_phase_holds : PySem.W.nsIn K mainGlobals "phase_holds" = some (some (.ref f_phase_holds)))
    {od_phase_holds an_phase_holds : Option Addr} {sl_phase_holds : Array (Option Value)} {oc_phase_holds kV_phase_holds dc_phase_holds pm_phase_holds cd_phase_holds ct_phase_holds : Value}
    (l_phase_holds : K.lookup f_phase_holds = some ⟨oc_phase_holds, od_phase_holds, .func (PySem.W.fnOf "phase_holds" "phase_holds" (defArgs s_phase_holds) (defBody s_phase_holds) (defScope s_phase_holds) .none kV_phase_holds dc_phase_holds pm_phase_holds an_phase_holds cd_phase_holds ct_phase_holds), sl_phase_holds⟩) (c_phase_holds : PySem.W.codeIn K cd_phase_holds "phase_holds" = true) (k_phase_holds : PySem.W.keepIn K (.ref f_phase_holds) = true)
    (a_phases_hold : PySem.W.nsIn K mainGlobals "phases_hold" = some (some (.ref f_phases_hold)))
    {od_phases_hold an_phases_hold : Option Addr} {sl_phases_hold : Array (Option Value)} {oc_phases_hold kV_phases_hold dc_phases_hold pm_phases_hold cd_phases_hold ct_phases_hold : Value}
    (l_phases_hold : K.lookup f_phases_hold = some ⟨oc_phases_hold, od_phases_hold, .func (PySem.W.fnOf "phases_hold" "phases_hold" (defArgs s_phases_hold) (defBody s_phases_hold) (defScope s_phases_hold) .none kV_phases_hold dc_phases_hold pm_phases_hold an_phases_hold cd_phases_hold ct_phases_hold), sl_phases_hold⟩) (c_phases_hold : PySem.W.codeIn K cd_phases_hold "phases_hold" = true) (k_phases_hold : PySem.W.keepIn K (.ref f_phases_hold) = true)
    (a_cost_of : PySem.W.nsIn K mainGlobals "cost_of" = some (some (.ref f_cost_of)))
    {od_cost_of an_cost_of : Option Addr} {sl_cost_of : Array (Option Value)} {oc_cost_of kV_cost_of dc_cost_of pm_cost_of cd_cost_of ct_cost_of : Value}
    (l_cost_of : K.lookup f_cost_of = some ⟨oc_cost_of, od_cost_of, .func (PySem.W.fnOf "cost_of" "cost_of" (defArgs s_cost_of) (defBody s_cost_of) (defScope s_cost_of) .none kV_cost_of dc_cost_of pm_cost_of an_cost_of cd_cost_of ct_cost_of), sl_cost_of⟩) (c_cost_of : PySem.W.codeIn K cd_cost_of "cost_of" = true) (k_cost_of : PySem.W.keepIn K (.ref f_cost_of) = true)
    (a_left_when_moved : PySem.W.nsIn K mainGlobals "left_when_moved" = some (some (.ref f_left_when_moved)))
    {od_left_when_moved an_left_when_moved : Option Addr} {sl_left_when_moved : Array (Option Value)} {oc_left_when_moved kV_left_when_moved dc_left_when_moved pm_left_when_moved cd_left_when_moved ct_left_when_moved : Value}
    (l_left_when_moved : K.lookup f_left_when_moved = some ⟨oc_left_when_moved, od_left_when_moved, .func (PySem.W.fnOf "left_when_moved" "left_when_moved" (defArgs s_left_when_moved) (defBody s_left_when_moved) (defScope s_left_when_moved) .none kV_left_when_moved dc_left_when_moved pm_left_when_moved an_left_when_moved cd_left_when_moved ct_left_when_moved), sl_left_when_moved⟩) (c_left_when_moved : PySem.W.codeIn K cd_left_when_moved "left_when_moved" = true) (k_left_when_moved : PySem.W.keepIn K (.ref f_left_when_moved) = true)
    (a_Player_init : PySem.W.findIn K (.ref C_Player) "__init__" = some (some (.ref f_Player_init)))
    (i_Player_init : PySem.W.isFn K (.ref f_Player_init) = true)
    {od_Player_init an_Player_init : Option Addr} {sl_Player_init : Array (Option Value)} {oc_Player_init kV_Player_init dc_Player_init pm_Player_init cd_Player_init ct_Player_init : Value}
    (l_Player_init : K.lookup f_Player_init = some ⟨oc_Player_init, od_Player_init, .func (PySem.W.fnOf "__init__" "Player.__init__" (defArgs s_Player_init) (defBody s_Player_init) (defScope s_Player_init) .none kV_Player_init dc_Player_init pm_Player_init an_Player_init cd_Player_init ct_Player_init), sl_Player_init⟩) (c_Player_init : PySem.W.codeIn K cd_Player_init "Player.__init__" = true) (k_Player_init : PySem.W.keepIn K (.ref f_Player_init) = true)
    (a_Player_spend : PySem.W.findIn K (.ref C_Player) "spend" = some (some (.ref f_Player_spend)))
    (i_Player_spend : PySem.W.isFn K (.ref f_Player_spend) = true)
    {od_Player_spend an_Player_spend : Option Addr} {sl_Player_spend : Array (Option Value)} {oc_Player_spend kV_Player_spend dc_Player_spend pm_Player_spend cd_Player_spend ct_Player_spend : Value}
    (l_Player_spend : K.lookup f_Player_spend = some ⟨oc_Player_spend, od_Player_spend, .func (PySem.W.fnOf "spend" "Player.spend" (defArgs s_Player_spend) (defBody s_Player_spend) (defScope s_Player_spend) .none kV_Player_spend dc_Player_spend pm_Player_spend an_Player_spend cd_Player_spend ct_Player_spend), sl_Player_spend⟩) (c_Player_spend : PySem.W.codeIn K cd_Player_spend "Player.spend" = true) (k_Player_spend : PySem.W.keepIn K (.ref f_Player_spend) = true)
    (a_Player_enter_next : PySem.W.findIn K (.ref C_Player) "enter_next" = some (some (.ref f_Player_enter_next)))
    (i_Player_enter_next : PySem.W.isFn K (.ref f_Player_enter_next) = true)
    {od_Player_enter_next an_Player_enter_next : Option Addr} {sl_Player_enter_next : Array (Option Value)} {oc_Player_enter_next kV_Player_enter_next dc_Player_enter_next pm_Player_enter_next cd_Player_enter_next ct_Player_enter_next : Value}
    (l_Player_enter_next : K.lookup f_Player_enter_next = some ⟨oc_Player_enter_next, od_Player_enter_next, .func (PySem.W.fnOf "enter_next" "Player.enter_next" (defArgs s_Player_enter_next) (defBody s_Player_enter_next) (defScope s_Player_enter_next) .none kV_Player_enter_next dc_Player_enter_next pm_Player_enter_next an_Player_enter_next cd_Player_enter_next ct_Player_enter_next), sl_Player_enter_next⟩) (c_Player_enter_next : PySem.W.codeIn K cd_Player_enter_next "Player.enter_next" = true) (k_Player_enter_next : PySem.W.keepIn K (.ref f_Player_enter_next) = true)
    (a_Clocks_init : PySem.W.findIn K (.ref C_Clocks) "__init__" = some (some (.ref f_Clocks_init)))
    (i_Clocks_init : PySem.W.isFn K (.ref f_Clocks_init) = true)
    {od_Clocks_init an_Clocks_init : Option Addr} {sl_Clocks_init : Array (Option Value)} {oc_Clocks_init kV_Clocks_init dc_Clocks_init pm_Clocks_init cd_Clocks_init ct_Clocks_init : Value}
    (l_Clocks_init : K.lookup f_Clocks_init = some ⟨oc_Clocks_init, od_Clocks_init, .func (PySem.W.fnOf "__init__" "Clocks.__init__" (defArgs s_Clocks_init) (defBody s_Clocks_init) (defScope s_Clocks_init) .none kV_Clocks_init dc_Clocks_init pm_Clocks_init an_Clocks_init cd_Clocks_init ct_Clocks_init), sl_Clocks_init⟩) (c_Clocks_init : PySem.W.codeIn K cd_Clocks_init "Clocks.__init__" = true) (k_Clocks_init : PySem.W.keepIn K (.ref f_Clocks_init) = true)
    (a_Clocks_lay_out : PySem.W.findIn K (.ref C_Clocks) "lay_out" = some (some (.ref f_Clocks_lay_out)))
    (i_Clocks_lay_out : PySem.W.isFn K (.ref f_Clocks_lay_out) = true)
    {od_Clocks_lay_out an_Clocks_lay_out : Option Addr} {sl_Clocks_lay_out : Array (Option Value)} {oc_Clocks_lay_out kV_Clocks_lay_out dc_Clocks_lay_out pm_Clocks_lay_out cd_Clocks_lay_out ct_Clocks_lay_out : Value}
    (l_Clocks_lay_out : K.lookup f_Clocks_lay_out = some ⟨oc_Clocks_lay_out, od_Clocks_lay_out, .func (PySem.W.fnOf "lay_out" "Clocks.lay_out" (defArgs s_Clocks_lay_out) (defBody s_Clocks_lay_out) (defScope s_Clocks_lay_out) .none kV_Clocks_lay_out dc_Clocks_lay_out pm_Clocks_lay_out an_Clocks_lay_out cd_Clocks_lay_out ct_Clocks_lay_out), sl_Clocks_lay_out⟩) (c_Clocks_lay_out : PySem.W.codeIn K cd_Clocks_lay_out "Clocks.lay_out" = true) (k_Clocks_lay_out : PySem.W.keepIn K (.ref f_Clocks_lay_out) = true)
    (a_Clocks_start : PySem.W.findIn K (.ref C_Clocks) "start" = some (some (.ref f_Clocks_start)))
    (i_Clocks_start : PySem.W.isFn K (.ref f_Clocks_start) = true)
    {od_Clocks_start an_Clocks_start : Option Addr} {sl_Clocks_start : Array (Option Value)} {oc_Clocks_start kV_Clocks_start dc_Clocks_start pm_Clocks_start cd_Clocks_start ct_Clocks_start : Value}
    (l_Clocks_start : K.lookup f_Clocks_start = some ⟨oc_Clocks_start, od_Clocks_start, .func (PySem.W.fnOf "start" "Clocks.start" (defArgs s_Clocks_start) (defBody s_Clocks_start) (defScope s_Clocks_start) .none kV_Clocks_start dc_Clocks_start pm_Clocks_start an_Clocks_start cd_Clocks_start ct_Clocks_start), sl_Clocks_start⟩) (c_Clocks_start : PySem.W.codeIn K cd_Clocks_start "Clocks.start" = true) (k_Clocks_start : PySem.W.keepIn K (.ref f_Clocks_start) = true)
    (a_Clocks_go : PySem.W.findIn K (.ref C_Clocks) "go" = some (some (.ref f_Clocks_go)))
    (i_Clocks_go : PySem.W.isFn K (.ref f_Clocks_go) = true)
    {od_Clocks_go an_Clocks_go : Option Addr} {sl_Clocks_go : Array (Option Value)} {oc_Clocks_go kV_Clocks_go dc_Clocks_go pm_Clocks_go cd_Clocks_go ct_Clocks_go : Value}
    (l_Clocks_go : K.lookup f_Clocks_go = some ⟨oc_Clocks_go, od_Clocks_go, .func (PySem.W.fnOf "go" "Clocks.go" (defArgs s_Clocks_go) (defBody s_Clocks_go) (defScope s_Clocks_go) .none kV_Clocks_go dc_Clocks_go pm_Clocks_go an_Clocks_go cd_Clocks_go ct_Clocks_go), sl_Clocks_go⟩) (c_Clocks_go : PySem.W.codeIn K cd_Clocks_go "Clocks.go" = true) (k_Clocks_go : PySem.W.keepIn K (.ref f_Clocks_go) = true)
    (a_Clocks_now : PySem.W.findIn K (.ref C_Clocks) "now" = some (some (.ref f_Clocks_now)))
    (i_Clocks_now : PySem.W.isFn K (.ref f_Clocks_now) = true)
    {od_Clocks_now an_Clocks_now : Option Addr} {sl_Clocks_now : Array (Option Value)} {oc_Clocks_now kV_Clocks_now dc_Clocks_now pm_Clocks_now cd_Clocks_now ct_Clocks_now : Value}
    (l_Clocks_now : K.lookup f_Clocks_now = some ⟨oc_Clocks_now, od_Clocks_now, .func (PySem.W.fnOf "now" "Clocks.now" (defArgs s_Clocks_now) (defBody s_Clocks_now) (defScope s_Clocks_now) .none kV_Clocks_now dc_Clocks_now pm_Clocks_now an_Clocks_now cd_Clocks_now ct_Clocks_now), sl_Clocks_now⟩) (c_Clocks_now : PySem.W.codeIn K cd_Clocks_now "Clocks.now" = true) (k_Clocks_now : PySem.W.keepIn K (.ref f_Clocks_now) = true)
    (a_Clocks_press : PySem.W.findIn K (.ref C_Clocks) "press" = some (some (.ref f_Clocks_press)))
    (i_Clocks_press : PySem.W.isFn K (.ref f_Clocks_press) = true)
    {od_Clocks_press an_Clocks_press : Option Addr} {sl_Clocks_press : Array (Option Value)} {oc_Clocks_press kV_Clocks_press dc_Clocks_press pm_Clocks_press cd_Clocks_press ct_Clocks_press : Value}
    (l_Clocks_press : K.lookup f_Clocks_press = some ⟨oc_Clocks_press, od_Clocks_press, .func (PySem.W.fnOf "press" "Clocks.press" (defArgs s_Clocks_press) (defBody s_Clocks_press) (defScope s_Clocks_press) .none kV_Clocks_press dc_Clocks_press pm_Clocks_press an_Clocks_press cd_Clocks_press ct_Clocks_press), sl_Clocks_press⟩) (c_Clocks_press : PySem.W.codeIn K cd_Clocks_press "Clocks.press" = true) (k_Clocks_press : PySem.W.keepIn K (.ref f_Clocks_press) = true)
    (a_Clocks_pause : PySem.W.findIn K (.ref C_Clocks) "pause" = some (some (.ref f_Clocks_pause)))
    (i_Clocks_pause : PySem.W.isFn K (.ref f_Clocks_pause) = true)
    {od_Clocks_pause an_Clocks_pause : Option Addr} {sl_Clocks_pause : Array (Option Value)} {oc_Clocks_pause kV_Clocks_pause dc_Clocks_pause pm_Clocks_pause cd_Clocks_pause ct_Clocks_pause : Value}
    (l_Clocks_pause : K.lookup f_Clocks_pause = some ⟨oc_Clocks_pause, od_Clocks_pause, .func (PySem.W.fnOf "pause" "Clocks.pause" (defArgs s_Clocks_pause) (defBody s_Clocks_pause) (defScope s_Clocks_pause) .none kV_Clocks_pause dc_Clocks_pause pm_Clocks_pause an_Clocks_pause cd_Clocks_pause ct_Clocks_pause), sl_Clocks_pause⟩) (c_Clocks_pause : PySem.W.codeIn K cd_Clocks_pause "Clocks.pause" = true) (k_Clocks_pause : PySem.W.keepIn K (.ref f_Clocks_pause) = true)
    (a_Clocks_set_left : PySem.W.findIn K (.ref C_Clocks) "set_left" = some (some (.ref f_Clocks_set_left)))
    (i_Clocks_set_left : PySem.W.isFn K (.ref f_Clocks_set_left) = true)
    {od_Clocks_set_left an_Clocks_set_left : Option Addr} {sl_Clocks_set_left : Array (Option Value)} {oc_Clocks_set_left kV_Clocks_set_left dc_Clocks_set_left pm_Clocks_set_left cd_Clocks_set_left ct_Clocks_set_left : Value}
    (l_Clocks_set_left : K.lookup f_Clocks_set_left = some ⟨oc_Clocks_set_left, od_Clocks_set_left, .func (PySem.W.fnOf "set_left" "Clocks.set_left" (defArgs s_Clocks_set_left) (defBody s_Clocks_set_left) (defScope s_Clocks_set_left) .none kV_Clocks_set_left dc_Clocks_set_left pm_Clocks_set_left an_Clocks_set_left cd_Clocks_set_left ct_Clocks_set_left), sl_Clocks_set_left⟩) (c_Clocks_set_left : PySem.W.codeIn K cd_Clocks_set_left "Clocks.set_left" = true) (k_Clocks_set_left : PySem.W.keepIn K (.ref f_Clocks_set_left) = true)
    (a_Clocks_left : PySem.W.findIn K (.ref C_Clocks) "left" = some (some (.ref f_Clocks_left)))
    (i_Clocks_left : PySem.W.isFn K (.ref f_Clocks_left) = true)
    {od_Clocks_left an_Clocks_left : Option Addr} {sl_Clocks_left : Array (Option Value)} {oc_Clocks_left kV_Clocks_left dc_Clocks_left pm_Clocks_left cd_Clocks_left ct_Clocks_left : Value}
    (l_Clocks_left : K.lookup f_Clocks_left = some ⟨oc_Clocks_left, od_Clocks_left, .func (PySem.W.fnOf "left" "Clocks.left" (defArgs s_Clocks_left) (defBody s_Clocks_left) (defScope s_Clocks_left) .none kV_Clocks_left dc_Clocks_left pm_Clocks_left an_Clocks_left cd_Clocks_left ct_Clocks_left), sl_Clocks_left⟩) (c_Clocks_left : PySem.W.codeIn K cd_Clocks_left "Clocks.left" = true) (k_Clocks_left : PySem.W.keepIn K (.ref f_Clocks_left) = true)
    (a_Clocks_state : PySem.W.findIn K (.ref C_Clocks) "state" = some (some (.ref f_Clocks_state)))
    (i_Clocks_state : PySem.W.isFn K (.ref f_Clocks_state) = true)
    {od_Clocks_state an_Clocks_state : Option Addr} {sl_Clocks_state : Array (Option Value)} {oc_Clocks_state kV_Clocks_state dc_Clocks_state pm_Clocks_state cd_Clocks_state ct_Clocks_state : Value}
    (l_Clocks_state : K.lookup f_Clocks_state = some ⟨oc_Clocks_state, od_Clocks_state, .func (PySem.W.fnOf "state" "Clocks.state" (defArgs s_Clocks_state) (defBody s_Clocks_state) (defScope s_Clocks_state) .none kV_Clocks_state dc_Clocks_state pm_Clocks_state an_Clocks_state cd_Clocks_state ct_Clocks_state), sl_Clocks_state⟩) (c_Clocks_state : PySem.W.codeIn K cd_Clocks_state "Clocks.state" = true) (k_Clocks_state : PySem.W.keepIn K (.ref f_Clocks_state) = true)
    (a_Clocks_reach : PySem.W.findIn K (.ref C_Clocks) "reach" = some (some (.ref f_Clocks_reach)))
    (i_Clocks_reach : PySem.W.isFn K (.ref f_Clocks_reach) = true)
    {od_Clocks_reach an_Clocks_reach : Option Addr} {sl_Clocks_reach : Array (Option Value)} {oc_Clocks_reach kV_Clocks_reach dc_Clocks_reach pm_Clocks_reach cd_Clocks_reach ct_Clocks_reach : Value}
    (l_Clocks_reach : K.lookup f_Clocks_reach = some ⟨oc_Clocks_reach, od_Clocks_reach, .func (PySem.W.fnOf "reach" "Clocks.reach" (defArgs s_Clocks_reach) (defBody s_Clocks_reach) (defScope s_Clocks_reach) .none kV_Clocks_reach dc_Clocks_reach pm_Clocks_reach an_Clocks_reach cd_Clocks_reach ct_Clocks_reach), sl_Clocks_reach⟩) (c_Clocks_reach : PySem.W.codeIn K cd_Clocks_reach "Clocks.reach" = true) (k_Clocks_reach : PySem.W.keepIn K (.ref f_Clocks_reach) = true)
    (a_Clocks_has_player : PySem.W.findIn K (.ref C_Clocks) "has_player" = some (some (.ref f_Clocks_has_player)))
    (i_Clocks_has_player : PySem.W.isFn K (.ref f_Clocks_has_player) = true)
    {od_Clocks_has_player an_Clocks_has_player : Option Addr} {sl_Clocks_has_player : Array (Option Value)} {oc_Clocks_has_player kV_Clocks_has_player dc_Clocks_has_player pm_Clocks_has_player cd_Clocks_has_player ct_Clocks_has_player : Value}
    (l_Clocks_has_player : K.lookup f_Clocks_has_player = some ⟨oc_Clocks_has_player, od_Clocks_has_player, .func (PySem.W.fnOf "has_player" "Clocks.has_player" (defArgs s_Clocks_has_player) (defBody s_Clocks_has_player) (defScope s_Clocks_has_player) .none kV_Clocks_has_player dc_Clocks_has_player pm_Clocks_has_player an_Clocks_has_player cd_Clocks_has_player ct_Clocks_has_player), sl_Clocks_has_player⟩) (c_Clocks_has_player : PySem.W.codeIn K cd_Clocks_has_player "Clocks.has_player" = true) (k_Clocks_has_player : PySem.W.keepIn K (.ref f_Clocks_has_player) = true)
    (a_Clocks_may_become : PySem.W.findIn K (.ref C_Clocks) "may_become" = some (some (.ref f_Clocks_may_become)))
    (i_Clocks_may_become : PySem.W.isFn K (.ref f_Clocks_may_become) = true)
    {od_Clocks_may_become an_Clocks_may_become : Option Addr} {sl_Clocks_may_become : Array (Option Value)} {oc_Clocks_may_become kV_Clocks_may_become dc_Clocks_may_become pm_Clocks_may_become cd_Clocks_may_become ct_Clocks_may_become : Value}
    (l_Clocks_may_become : K.lookup f_Clocks_may_become = some ⟨oc_Clocks_may_become, od_Clocks_may_become, .func (PySem.W.fnOf "may_become" "Clocks.may_become" (defArgs s_Clocks_may_become) (defBody s_Clocks_may_become) (defScope s_Clocks_may_become) .none kV_Clocks_may_become dc_Clocks_may_become pm_Clocks_may_become an_Clocks_may_become cd_Clocks_may_become ct_Clocks_may_become), sl_Clocks_may_become⟩) (c_Clocks_may_become : PySem.W.codeIn K cd_Clocks_may_become "Clocks.may_become" = true) (k_Clocks_may_become : PySem.W.keepIn K (.ref f_Clocks_may_become) = true)
    (a_Clocks_verdict : PySem.W.findIn K (.ref C_Clocks) "verdict" = some (some (.ref f_Clocks_verdict)))
    (i_Clocks_verdict : PySem.W.isFn K (.ref f_Clocks_verdict) = true)
    {od_Clocks_verdict an_Clocks_verdict : Option Addr} {sl_Clocks_verdict : Array (Option Value)} {oc_Clocks_verdict kV_Clocks_verdict dc_Clocks_verdict pm_Clocks_verdict cd_Clocks_verdict ct_Clocks_verdict : Value}
    (l_Clocks_verdict : K.lookup f_Clocks_verdict = some ⟨oc_Clocks_verdict, od_Clocks_verdict, .func (PySem.W.fnOf "verdict" "Clocks.verdict" (defArgs s_Clocks_verdict) (defBody s_Clocks_verdict) (defScope s_Clocks_verdict) .none kV_Clocks_verdict dc_Clocks_verdict pm_Clocks_verdict an_Clocks_verdict cd_Clocks_verdict ct_Clocks_verdict), sl_Clocks_verdict⟩) (c_Clocks_verdict : PySem.W.codeIn K cd_Clocks_verdict "Clocks.verdict" = true) (k_Clocks_verdict : PySem.W.keepIn K (.ref f_Clocks_verdict) = true)
    (a_Clocks_next_number : PySem.W.findIn K (.ref C_Clocks) "next_number" = some (some (.ref f_Clocks_next_number)))
    (i_Clocks_next_number : PySem.W.isFn K (.ref f_Clocks_next_number) = true)
    {od_Clocks_next_number an_Clocks_next_number : Option Addr} {sl_Clocks_next_number : Array (Option Value)} {oc_Clocks_next_number kV_Clocks_next_number dc_Clocks_next_number pm_Clocks_next_number cd_Clocks_next_number ct_Clocks_next_number : Value}
    (l_Clocks_next_number : K.lookup f_Clocks_next_number = some ⟨oc_Clocks_next_number, od_Clocks_next_number, .func (PySem.W.fnOf "next_number" "Clocks.next_number" (defArgs s_Clocks_next_number) (defBody s_Clocks_next_number) (defScope s_Clocks_next_number) .none kV_Clocks_next_number dc_Clocks_next_number pm_Clocks_next_number an_Clocks_next_number cd_Clocks_next_number ct_Clocks_next_number), sl_Clocks_next_number⟩) (c_Clocks_next_number : PySem.W.codeIn K cd_Clocks_next_number "Clocks.next_number" = true) (k_Clocks_next_number : PySem.W.keepIn K (.ref f_Clocks_next_number) = true)
    (a_Clocks_run_until : PySem.W.findIn K (.ref C_Clocks) "run_until" = some (some (.ref f_Clocks_run_until)))
    (i_Clocks_run_until : PySem.W.isFn K (.ref f_Clocks_run_until) = true)
    {od_Clocks_run_until an_Clocks_run_until : Option Addr} {sl_Clocks_run_until : Array (Option Value)} {oc_Clocks_run_until kV_Clocks_run_until dc_Clocks_run_until pm_Clocks_run_until cd_Clocks_run_until ct_Clocks_run_until : Value}
    (l_Clocks_run_until : K.lookup f_Clocks_run_until = some ⟨oc_Clocks_run_until, od_Clocks_run_until, .func (PySem.W.fnOf "run_until" "Clocks.run_until" (defArgs s_Clocks_run_until) (defBody s_Clocks_run_until) (defScope s_Clocks_run_until) .none kV_Clocks_run_until dc_Clocks_run_until pm_Clocks_run_until an_Clocks_run_until cd_Clocks_run_until ct_Clocks_run_until), sl_Clocks_run_until⟩) (c_Clocks_run_until : PySem.W.codeIn K cd_Clocks_run_until "Clocks.run_until" = true) (k_Clocks_run_until : PySem.W.keepIn K (.ref f_Clocks_run_until) = true)
    (a_Clocks_run : PySem.W.findIn K (.ref C_Clocks) "run" = some (some (.ref f_Clocks_run)))
    (i_Clocks_run : PySem.W.isFn K (.ref f_Clocks_run) = true)
    {od_Clocks_run an_Clocks_run : Option Addr} {sl_Clocks_run : Array (Option Value)} {oc_Clocks_run kV_Clocks_run dc_Clocks_run pm_Clocks_run cd_Clocks_run ct_Clocks_run : Value}
    (l_Clocks_run : K.lookup f_Clocks_run = some ⟨oc_Clocks_run, od_Clocks_run, .func (PySem.W.fnOf "run" "Clocks.run" (defArgs s_Clocks_run) (defBody s_Clocks_run) (defScope s_Clocks_run) .none kV_Clocks_run dc_Clocks_run pm_Clocks_run an_Clocks_run cd_Clocks_run ct_Clocks_run), sl_Clocks_run⟩) (c_Clocks_run : PySem.W.codeIn K cd_Clocks_run "Clocks.run" = true) (k_Clocks_run : PySem.W.keepIn K (.ref f_Clocks_run) = true)
    (a_Clocks_end_move : PySem.W.findIn K (.ref C_Clocks) "end_move" = some (some (.ref f_Clocks_end_move)))
    (i_Clocks_end_move : PySem.W.isFn K (.ref f_Clocks_end_move) = true)
    {od_Clocks_end_move an_Clocks_end_move : Option Addr} {sl_Clocks_end_move : Array (Option Value)} {oc_Clocks_end_move kV_Clocks_end_move dc_Clocks_end_move pm_Clocks_end_move cd_Clocks_end_move ct_Clocks_end_move : Value}
    (l_Clocks_end_move : K.lookup f_Clocks_end_move = some ⟨oc_Clocks_end_move, od_Clocks_end_move, .func (PySem.W.fnOf "end_move" "Clocks.end_move" (defArgs s_Clocks_end_move) (defBody s_Clocks_end_move) (defScope s_Clocks_end_move) .none kV_Clocks_end_move dc_Clocks_end_move pm_Clocks_end_move an_Clocks_end_move cd_Clocks_end_move ct_Clocks_end_move), sl_Clocks_end_move⟩) (c_Clocks_end_move : PySem.W.codeIn K cd_Clocks_end_move "Clocks.end_move" = true) (k_Clocks_end_move : PySem.W.keepIn K (.ref f_Clocks_end_move) = true)
    (a_end_of_call : PySem.W.nsIn K mainGlobals "end_of_call" = some (some (.ref f_end_of_call)))
    {od_end_of_call an_end_of_call : Option Addr} {sl_end_of_call : Array (Option Value)} {oc_end_of_call kV_end_of_call dc_end_of_call pm_end_of_call cd_end_of_call ct_end_of_call : Value}
    (l_end_of_call : K.lookup f_end_of_call = some ⟨oc_end_of_call, od_end_of_call, .func (PySem.W.fnOf "end_of_call" "end_of_call" (defArgs s_end_of_call) (defBody s_end_of_call) (defScope s_end_of_call) .none kV_end_of_call dc_end_of_call pm_end_of_call an_end_of_call cd_end_of_call ct_end_of_call), sl_end_of_call⟩) (c_end_of_call : PySem.W.codeIn K cd_end_of_call "end_of_call" = true) (k_end_of_call : PySem.W.keepIn K (.ref f_end_of_call) = true)
    (a_answer : PySem.W.nsIn K mainGlobals "answer" = some (some (.ref f_answer)))
    {od_answer an_answer : Option Addr} {sl_answer : Array (Option Value)} {oc_answer kV_answer dc_answer pm_answer cd_answer ct_answer : Value}
    (l_answer : K.lookup f_answer = some ⟨oc_answer, od_answer, .func (PySem.W.fnOf "answer" "answer" (defArgs s_answer) (defBody s_answer) (defScope s_answer) .none kV_answer dc_answer pm_answer an_answer cd_answer ct_answer), sl_answer⟩) (c_answer : PySem.W.codeIn K cd_answer "answer" = true) (k_answer : PySem.W.keepIn K (.ref f_answer) = true)
    (a_answers : PySem.W.nsIn K mainGlobals "answers" = some (some (.ref f_answers)))
    {od_answers an_answers : Option Addr} {sl_answers : Array (Option Value)} {oc_answers kV_answers dc_answers pm_answers cd_answers ct_answers : Value}
    (l_answers : K.lookup f_answers = some ⟨oc_answers, od_answers, .func (PySem.W.fnOf "answers" "answers" (defArgs s_answers) (defBody s_answers) (defScope s_answers) .none kV_answers dc_answers pm_answers an_answers cd_answers ct_answers), sl_answers⟩) (c_answers : PySem.W.codeIn K cd_answers "answers" = true) (k_answers : PySem.W.keepIn K (.ref f_answers) = true) :
    ∃ fd : FuncData, (∀ (s : Shared) (us : List Value), us.length = (["calls"] : List Str).length → BindsTo s fd ⟨us, []⟩ ((["calls"] : List Str).zip us)) ∧ ∀ base : Heap, K.In base → base.Ns mainGlobals mg → FnOk P w K mg base CX0 7 fa fd ["calls"] (spAnswers K) := by
  have e := hfa.symm.trans (PySem.W.mg_of X G a_answers)
  cases e
  have T : Txt K mg C_Phase C_Player C_Clocks := ⟨⟨pg_Phase, hd_Phase, po_Phase, sa_Phase⟩, ⟨pg_Player, hd_Player, po_Player, sa_Player⟩, ⟨pg_Clocks, hd_Clocks, po_Clocks, sa_Clocks⟩, n_Phase_moves, n_Phase_main, n_Phase_kind, n_Phase_inc, n_Phase_periods, n_Player_time_left, n_Player_periods, n_Player_in_period, n_Player_phase_number, n_Player_moves, n_Clocks_phases, n_Clocks_players, n_Clocks_moment, n_Clocks_running, n_Clocks_mover, n_Clocks_used, n_Clocks_loser, ⟨_, PySem.W.mg_of X G g_ROW⟩, ⟨_, PySem.W.mg_of X G g_MOST_MOVES⟩, ⟨_, PySem.W.mg_of X G g_HOURGLASS⟩, ⟨_, PySem.W.mg_of X G g_PLAIN⟩, ⟨_, PySem.W.mg_of X G g_MOST_INC⟩, ⟨_, PySem.W.mg_of X G g_BY_PERIODS⟩, ⟨_, PySem.W.mg_of X G g_MOST_PERIODS⟩, ⟨_, PySem.W.mg_of X G g_MOST_MAIN⟩, ⟨_, PySem.W.mg_of X G g_MOST_PHASES⟩, ⟨_, PySem.W.mg_of X G g_DELAYED⟩, ⟨_, PySem.W.mg_of X G g_ADDED⟩, ⟨_, PySem.W.mg_of X G g_GIVEN_BACK⟩, ⟨_, PySem.W.mg_of X G g_FEWEST_PLAYERS⟩, ⟨_, PySem.W.mg_of X G g_MOST_PLAYERS⟩, ⟨_, PySem.W.mg_of X G g_WRONG⟩, ⟨_, PySem.W.mg_of X G g_ALREADY_FALLEN⟩, ⟨_, PySem.W.mg_of X G g_GOES_ALREADY⟩, ⟨_, PySem.W.mg_of X G g_MOST_SET⟩, ⟨_, PySem.W.mg_of X G g_NOT_NOW⟩, ⟨_, PySem.W.mg_of X G g_MOVES_TOLD_BELOW⟩, ⟨_, PySem.W.mg_of X G g_LATEST⟩, ⟨_, PySem.W.mg_of X G g_FALLEN⟩, ⟨_, PySem.W.mg_of X G g_MOST_LEFT⟩, ⟨_, PySem.W.mg_of X G g_START⟩, ⟨_, PySem.W.mg_of X G g_SET⟩, ⟨_, PySem.W.mg_of X G g_STATE⟩, ⟨_, PySem.W.mg_of X G g_GO⟩, ⟨_, PySem.W.mg_of X G g_NOW⟩, ⟨_, PySem.W.mg_of X G g_PRESS⟩, ⟨_, PySem.W.mg_of X G g_PAUSE⟩, ⟨_, PySem.W.mg_of X G g_LEFT⟩, PySem.W.mg_none_of X G b_range, PySem.W.mg_none_of X G b_len, PySem.W.mg_none_of X G b_enumerate, PySem.W.mg_none_of X G b_max, PySem.W.mg_none_of X G b_min⟩
  have F_Phase_init := fun_mk (st := s_Phase_init) l_Phase_init c_Phase_init k_Phase_init
  have B_Phase_init := F_Phase_init.binds (ps := ["self", "row"]) fun _ _ _ _ _ _ us hl => match us, hl with | [_, _], _ => rfl
  have F_phases_of := fun_mk (st := s_phases_of) l_phases_of c_phases_of k_phases_of
  have B_phases_of := F_phases_of.binds (ps := ["numbers"]) fun _ _ _ _ _ _ us hl => match us, hl with | [_], _ => rfl
  have F_moves_hold := fun_mk (st := s_moves_hold) l_moves_hold c_moves_hold k_moves_hold
  have B_moves_hold := F_moves_hold.binds (ps := ["phase", "is_last"]) fun _ _ _ _ _ _ us hl => match us, hl with | [_, _], _ => rfl
  have F_kind_holds := fun_mk (st := s_kind_holds) l_kind_holds c_kind_holds k_kind_holds
  have B_kind_holds := F_kind_holds.binds (ps := ["phase", "is_only"]) fun _ _ _ _ _ _ us hl => match us, hl with | [_, _], _ => rfl
  have F_inc_holds := fun_mk (st := s_inc_holds) l_inc_holds c_inc_holds k_inc_holds
  have B_inc_holds := F_inc_holds.binds (ps := ["phase"]) fun _ _ _ _ _ _ us hl => match us, hl with | [_], _ => rfl
  have F_periods_hold := fun_mk (st := s_periods_hold) l_periods_hold c_periods_hold k_periods_hold
  have B_periods_hold := F_periods_hold.binds (ps := ["phase"]) fun _ _ _ _ _ _ us hl => match us, hl with | [_], _ => rfl
  have F_phase_holds := fun_mk (st := s_phase_holds) l_phase_holds c_phase_holds k_phase_holds
  have B_phase_holds := F_phase_holds.binds (ps := ["phase", "is_last", "is_only"]) fun _ _ _ _ _ _ us hl => match us, hl with | [_, _, _], _ => rfl
  have F_phases_hold := fun_mk (st := s_phases_hold) l_phases_hold c_phases_hold k_phases_hold
  have B_phases_hold := F_phases_hold.binds (ps := ["phases"]) fun _ _ _ _ _ _ us hl => match us, hl with | [_], _ => rfl
  have F_cost_of := fun_mk (st := s_cost_of) l_cost_of c_cost_of k_cost_of
  have B_cost_of := F_cost_of.binds (ps := ["phase", "used", "span"]) fun _ _ _ _ _ _ us hl => match us, hl with | [_, _, _], _ => rfl
  have F_left_when_moved := fun_mk (st := s_left_when_moved) l_left_when_moved c_left_when_moved k_left_when_moved
  have B_left_when_moved := F_left_when_moved.binds (ps := ["player", "phase", "used"]) fun _ _ _ _ _ _ us hl => match us, hl with | [_, _, _], _ => rfl
  have F_Player_init := fun_mk (st := s_Player_init) l_Player_init c_Player_init k_Player_init
  have B_Player_init := F_Player_init.binds (ps := ["self", "phase"]) fun _ _ _ _ _ _ us hl => match us, hl with | [_, _], _ => rfl
  have F_Player_spend := fun_mk (st := s_Player_spend) l_Player_spend c_Player_spend k_Player_spend
  have B_Player_spend := F_Player_spend.binds (ps := ["self", "cost", "inc"]) fun _ _ _ _ _ _ us hl => match us, hl with | [_, _, _], _ => rfl
  have F_Player_enter_next := fun_mk (st := s_Player_enter_next) l_Player_enter_next c_Player_enter_next k_Player_enter_next
  have B_Player_enter_next := F_Player_enter_next.binds (ps := ["self", "phase"]) fun _ _ _ _ _ _ us hl => match us, hl with | [_, _], _ => rfl
  have F_Clocks_init := fun_mk (st := s_Clocks_init) l_Clocks_init c_Clocks_init k_Clocks_init
  have B_Clocks_init := F_Clocks_init.binds (ps := ["self"]) fun _ _ _ _ _ _ us hl => match us, hl with | [_], _ => rfl
  have F_Clocks_lay_out := fun_mk (st := s_Clocks_lay_out) l_Clocks_lay_out c_Clocks_lay_out k_Clocks_lay_out
  have B_Clocks_lay_out := F_Clocks_lay_out.binds (ps := ["self", "count", "phases"]) fun _ _ _ _ _ _ us hl => match us, hl with | [_, _, _], _ => rfl
  have F_Clocks_start := fun_mk (st := s_Clocks_start) l_Clocks_start c_Clocks_start k_Clocks_start
  have B_Clocks_start := F_Clocks_start.binds (ps := ["self", "count", "numbers"]) fun _ _ _ _ _ _ us hl => match us, hl with | [_, _, _], _ => rfl
  have F_Clocks_go := fun_mk (st := s_Clocks_go) l_Clocks_go c_Clocks_go k_Clocks_go
  have B_Clocks_go := F_Clocks_go.binds (ps := ["self", "t"]) fun _ _ _ _ _ _ us hl => match us, hl with | [_, _], _ => rfl
  have F_Clocks_now := fun_mk (st := s_Clocks_now) l_Clocks_now c_Clocks_now k_Clocks_now
  have B_Clocks_now := F_Clocks_now.binds (ps := ["self", "t"]) fun _ _ _ _ _ _ us hl => match us, hl with | [_, _], _ => rfl
  have F_Clocks_press := fun_mk (st := s_Clocks_press) l_Clocks_press c_Clocks_press k_Clocks_press
  have B_Clocks_press := F_Clocks_press.binds (ps := ["self", "t"]) fun _ _ _ _ _ _ us hl => match us, hl with | [_, _], _ => rfl
  have F_Clocks_pause := fun_mk (st := s_Clocks_pause) l_Clocks_pause c_Clocks_pause k_Clocks_pause
  have B_Clocks_pause := F_Clocks_pause.binds (ps := ["self", "t"]) fun _ _ _ _ _ _ us hl => match us, hl with | [_, _], _ => rfl
  have F_Clocks_set_left := fun_mk (st := s_Clocks_set_left) l_Clocks_set_left c_Clocks_set_left k_Clocks_set_left
  have B_Clocks_set_left := F_Clocks_set_left.binds (ps := ["self", "number", "amount"]) fun _ _ _ _ _ _ us hl => match us, hl with | [_, _, _], _ => rfl
  have F_Clocks_left := fun_mk (st := s_Clocks_left) l_Clocks_left c_Clocks_left k_Clocks_left
  have B_Clocks_left := F_Clocks_left.binds (ps := ["self", "number"]) fun _ _ _ _ _ _ us hl => match us, hl with | [_, _], _ => rfl
  have F_Clocks_state := fun_mk (st := s_Clocks_state) l_Clocks_state c_Clocks_state k_Clocks_state
  have B_Clocks_state := F_Clocks_state.binds (ps := ["self"]) fun _ _ _ _ _ _ us hl => match us, hl with | [_], _ => rfl
  have F_Clocks_reach := fun_mk (st := s_Clocks_reach) l_Clocks_reach c_Clocks_reach k_Clocks_reach
  have B_Clocks_reach := F_Clocks_reach.binds (ps := ["self", "t"]) fun _ _ _ _ _ _ us hl => match us, hl with | [_, _], _ => rfl
  have F_Clocks_has_player := fun_mk (st := s_Clocks_has_player) l_Clocks_has_player c_Clocks_has_player k_Clocks_has_player
  have B_Clocks_has_player := F_Clocks_has_player.binds (ps := ["self", "number"]) fun _ _ _ _ _ _ us hl => match us, hl with | [_, _], _ => rfl
  have F_Clocks_may_become := fun_mk (st := s_Clocks_may_become) l_Clocks_may_become c_Clocks_may_become k_Clocks_may_become
  have B_Clocks_may_become := F_Clocks_may_become.binds (ps := ["self", "t"]) fun _ _ _ _ _ _ us hl => match us, hl with | [_, _], _ => rfl
  have F_Clocks_verdict := fun_mk (st := s_Clocks_verdict) l_Clocks_verdict c_Clocks_verdict k_Clocks_verdict
  have B_Clocks_verdict := F_Clocks_verdict.binds (ps := ["self"]) fun _ _ _ _ _ _ us hl => match us, hl with | [_], _ => rfl
  have F_Clocks_next_number := fun_mk (st := s_Clocks_next_number) l_Clocks_next_number c_Clocks_next_number k_Clocks_next_number
  have B_Clocks_next_number := F_Clocks_next_number.binds (ps := ["self"]) fun _ _ _ _ _ _ us hl => match us, hl with | [_], _ => rfl
  have F_Clocks_run_until := fun_mk (st := s_Clocks_run_until) l_Clocks_run_until c_Clocks_run_until k_Clocks_run_until
  have B_Clocks_run_until := F_Clocks_run_until.binds (ps := ["self", "t"]) fun _ _ _ _ _ _ us hl => match us, hl with | [_, _], _ => rfl
  have F_Clocks_run := fun_mk (st := s_Clocks_run) l_Clocks_run c_Clocks_run k_Clocks_run
  have B_Clocks_run := F_Clocks_run.binds (ps := ["self", "span"]) fun _ _ _ _ _ _ us hl => match us, hl with | [_, _], _ => rfl
  have F_Clocks_end_move := fun_mk (st := s_Clocks_end_move) l_Clocks_end_move c_Clocks_end_move k_Clocks_end_move
  have B_Clocks_end_move := F_Clocks_end_move.binds (ps := ["self"]) fun _ _ _ _ _ _ us hl => match us, hl with | [_], _ => rfl
  have F_end_of_call := fun_mk (st := s_end_of_call) l_end_of_call c_end_of_call k_end_of_call
  have B_end_of_call := F_end_of_call.binds (ps := ["calls", "place"]) fun _ _ _ _ _ _ us hl => match us, hl with | [_, _], _ => rfl
  have F_answer := fun_mk (st := s_answer) l_answer c_answer k_answer
  have B_answer := F_answer.binds (ps := ["clocks", "call"]) fun _ _ _ _ _ _ us hl => match us, hl with | [_, _], _ => rfl
  have F_answers := fun_mk (st := s_answers) l_answers c_answers k_answers
  have B_answers := F_answers.binds (ps := ["calls"]) fun _ _ _ _ _ _ us hl => match us, hl with | [_], _ => rfl
  refine ⟨PySem.W.fnOf "answers" "answers" (defArgs s_answers) (defBody s_answers) (defScope s_answers) .none kV_answers dc_answers pm_answers an_answers cd_answers ct_answers, fun s us hu => match us, hu with | [_], _ => .of_eq rfl, fun base _ _ => ?_⟩
  have U_Phase_init : MkU P w K mg base 1 C_Phase "Phase" ["self", "row"] (spPhase_init C_Phase) := ⟨_, _, ok_Phase_init F_Phase_init T, B_Phase_init, ⟨mk_Phase, a_Phase_init, i_Phase_init, kc_Phase⟩, PySem.W.mg_of X G a_Phase⟩
  have U_phases_of : FnU P w K mg base 3 "phases_of" ["numbers"] (spPhases_of C_Phase) := ⟨_, _, ok_phases_of F_phases_of T U_Phase_init, B_phases_of, PySem.W.mg_of X G a_phases_of, k_phases_of⟩
  have U_moves_hold : FnU P w K mg base 1 "moves_hold" ["phase", "is_last"] (spMoves C_Phase) := ⟨_, _, ok_moves_hold F_moves_hold T, B_moves_hold, PySem.W.mg_of X G a_moves_hold, k_moves_hold⟩
  have U_kind_holds : FnU P w K mg base 1 "kind_holds" ["phase", "is_only"] (spKind C_Phase) := ⟨_, _, ok_kind_holds F_kind_holds T, B_kind_holds, PySem.W.mg_of X G a_kind_holds, k_kind_holds⟩
  have U_inc_holds : FnU P w K mg base 1 "inc_holds" ["phase"] (spInc C_Phase) := ⟨_, _, ok_inc_holds F_inc_holds T, B_inc_holds, PySem.W.mg_of X G a_inc_holds, k_inc_holds⟩
  have U_periods_hold : FnU P w K mg base 1 "periods_hold" ["phase"] (spPeriods C_Phase) := ⟨_, _, ok_periods_hold F_periods_hold T, B_periods_hold, PySem.W.mg_of X G a_periods_hold, k_periods_hold⟩
  have U_phase_holds : FnU P w K mg base 2 "phase_holds" ["phase", "is_last", "is_only"] (spPhase_holds C_Phase) := ⟨_, _, ok_phase_holds F_phase_holds T U_moves_hold U_kind_holds U_inc_holds U_periods_hold, B_phase_holds, PySem.W.mg_of X G a_phase_holds, k_phase_holds⟩
  have U_phases_hold : FnU P w K mg base 3 "phases_hold" ["phases"] (spPhases_hold C_Phase) := ⟨_, _, ok_phases_hold F_phases_hold T U_phase_holds, B_phases_hold, PySem.W.mg_of X G a_phases_hold, k_phases_hold⟩
  have U_cost_of : FnU P w K mg base 1 "cost_of" ["phase", "used", "span"] (spCost C_Phase) := ⟨_, _, ok_cost_of F_cost_of T, B_cost_of, PySem.W.mg_of X G a_cost_of, k_cost_of⟩
  have U_left_when_moved : FnU P w K mg base 1 "left_when_moved" ["player", "phase", "used"] (spLwm C_Phase C_Player) := ⟨_, _, ok_left_when_moved F_left_when_moved T, B_left_when_moved, PySem.W.mg_of X G a_left_when_moved, k_left_when_moved⟩
  have U_Player_init : MkU P w K mg base 1 C_Player "Player" ["self", "phase"] (spPlayer_init C_Phase C_Player) := ⟨_, _, ok_Player_init F_Player_init T, B_Player_init, ⟨mk_Player, a_Player_init, i_Player_init, kc_Player⟩, PySem.W.mg_of X G a_Player⟩
  have U_Player_spend : MtU P w K mg base 1 C_Player "spend" ["self", "cost", "inc"] (spSpend C_Player) := ⟨_, _, ok_Player_spend F_Player_spend T, B_Player_spend, ⟨a_Player_spend, i_Player_spend, k_Player_spend⟩⟩
  have U_Player_enter_next : MtU P w K mg base 1 C_Player "enter_next" ["self", "phase"] (spEnter C_Phase C_Player) := ⟨_, _, ok_Player_enter_next F_Player_enter_next T, B_Player_enter_next, ⟨a_Player_enter_next, i_Player_enter_next, k_Player_enter_next⟩⟩
  have U_Clocks_lay_out : MtU P w K mg base 3 C_Clocks "lay_out" ["self", "count", "phases"] (spLay C_Phase C_Player C_Clocks) := ⟨_, _, ok_Clocks_lay_out F_Clocks_lay_out T U_Player_init, B_Clocks_lay_out, ⟨a_Clocks_lay_out, i_Clocks_lay_out, k_Clocks_lay_out⟩⟩
  have U_Clocks_init : MkU P w K mg base 4 C_Clocks "Clocks" ["self"] (spClocks_init C_Phase C_Player C_Clocks) := ⟨_, _, ok_Clocks_init F_Clocks_init T U_Clocks_lay_out, B_Clocks_init, ⟨mk_Clocks, a_Clocks_init, i_Clocks_init, kc_Clocks⟩, PySem.W.mg_of X G a_Clocks⟩
  have U_Clocks_may_become : MtU P w K mg base 1 C_Clocks "may_become" ["self", "t"] (spMay C_Phase C_Player C_Clocks) := ⟨_, _, ok_Clocks_may_become F_Clocks_may_become T, B_Clocks_may_become, ⟨a_Clocks_may_become, i_Clocks_may_become, k_Clocks_may_become⟩⟩
  have U_Clocks_verdict : MtU P w K mg base 1 C_Clocks "verdict" ["self"] (spVerdict C_Phase C_Player C_Clocks) := ⟨_, _, ok_Clocks_verdict F_Clocks_verdict T, B_Clocks_verdict, ⟨a_Clocks_verdict, i_Clocks_verdict, k_Clocks_verdict⟩⟩
  have U_Clocks_next_number : MtU P w K mg base 1 C_Clocks "next_number" ["self"] (spNext C_Phase C_Player C_Clocks) := ⟨_, _, ok_Clocks_next_number F_Clocks_next_number T, B_Clocks_next_number, ⟨a_Clocks_next_number, i_Clocks_next_number, k_Clocks_next_number⟩⟩
  have U_Clocks_run : MtU P w K mg base 2 C_Clocks "run" ["self", "span"] (spRun C_Phase C_Player C_Clocks) := ⟨_, _, ok_Clocks_run F_Clocks_run T U_cost_of U_Player_spend U_Clocks_next_number, B_Clocks_run, ⟨a_Clocks_run, i_Clocks_run, k_Clocks_run⟩⟩
  have U_Clocks_run_until : MtU P w K mg base 3 C_Clocks "run_until" ["self", "t"] (spUntil C_Phase C_Player C_Clocks) := ⟨_, _, ok_Clocks_run_until F_Clocks_run_until T U_Clocks_run, B_Clocks_run_until, ⟨a_Clocks_run_until, i_Clocks_run_until, k_Clocks_run_until⟩⟩
  have U_Clocks_end_move : MtU P w K mg base 2 C_Clocks "end_move" ["self"] (spEnd C_Phase C_Player C_Clocks) := ⟨_, _, ok_Clocks_end_move F_Clocks_end_move T U_left_when_moved U_Player_enter_next U_Clocks_next_number, B_Clocks_end_move, ⟨a_Clocks_end_move, i_Clocks_end_move, k_Clocks_end_move⟩⟩
  have U_Clocks_start : MtU P w K mg base 4 C_Clocks "start" ["self", "count", "numbers"] (spStart C_Phase C_Player C_Clocks) := ⟨_, _, ok_Clocks_start F_Clocks_start T U_phases_of U_phases_hold U_Clocks_lay_out, B_Clocks_start, ⟨a_Clocks_start, i_Clocks_start, k_Clocks_start⟩⟩
  have U_Clocks_go : MtU P w K mg base 2 C_Clocks "go" ["self", "t"] (spAct C_Phase C_Player C_Clocks Kyc.Call.go) := ⟨_, _, ok_Clocks_go F_Clocks_go T U_Clocks_may_become, B_Clocks_go, ⟨a_Clocks_go, i_Clocks_go, k_Clocks_go⟩⟩
  have U_Clocks_now : MtU P w K mg base 4 C_Clocks "now" ["self", "t"] (spAct C_Phase C_Player C_Clocks Kyc.Call.now) := ⟨_, _, ok_Clocks_now F_Clocks_now T U_Clocks_may_become U_Clocks_run_until U_Clocks_verdict, B_Clocks_now, ⟨a_Clocks_now, i_Clocks_now, k_Clocks_now⟩⟩
  have U_Clocks_reach : MtU P w K mg base 4 C_Clocks "reach" ["self", "t"] (spReach C_Phase C_Player C_Clocks) := ⟨_, _, ok_Clocks_reach F_Clocks_reach T U_Clocks_may_become U_Clocks_run_until U_Clocks_verdict, B_Clocks_reach, ⟨a_Clocks_reach, i_Clocks_reach, k_Clocks_reach⟩⟩
  have U_Clocks_press : MtU P w K mg base 5 C_Clocks "press" ["self", "t"] (spAct C_Phase C_Player C_Clocks Kyc.Call.press) := ⟨_, _, ok_Clocks_press F_Clocks_press T U_Clocks_reach U_Clocks_end_move, B_Clocks_press, ⟨a_Clocks_press, i_Clocks_press, k_Clocks_press⟩⟩
  have U_Clocks_pause : MtU P w K mg base 5 C_Clocks "pause" ["self", "t"] (spAct C_Phase C_Player C_Clocks Kyc.Call.pause) := ⟨_, _, ok_Clocks_pause F_Clocks_pause T U_Clocks_reach, B_Clocks_pause, ⟨a_Clocks_pause, i_Clocks_pause, k_Clocks_pause⟩⟩
  have U_Clocks_has_player : MtU P w K mg base 1 C_Clocks "has_player" ["self", "number"] (spHas C_Phase C_Player C_Clocks) := ⟨_, _, ok_Clocks_has_player F_Clocks_has_player T, B_Clocks_has_player, ⟨a_Clocks_has_player, i_Clocks_has_player, k_Clocks_has_player⟩⟩
  have U_Clocks_set_left : MtU P w K mg base 2 C_Clocks "set_left" ["self", "number", "amount"] (spSet C_Phase C_Player C_Clocks) := ⟨_, _, ok_Clocks_set_left F_Clocks_set_left T U_Clocks_has_player, B_Clocks_set_left, ⟨a_Clocks_set_left, i_Clocks_set_left, k_Clocks_set_left⟩⟩
  have U_Clocks_left : MtU P w K mg base 2 C_Clocks "left" ["self", "number"] (spLeft C_Phase C_Player C_Clocks) := ⟨_, _, ok_Clocks_left F_Clocks_left T U_Clocks_has_player, B_Clocks_left, ⟨a_Clocks_left, i_Clocks_left, k_Clocks_left⟩⟩
  have U_Clocks_state : MtU P w K mg base 2 C_Clocks "state" ["self"] (spState C_Phase C_Player C_Clocks) := ⟨_, _, ok_Clocks_state F_Clocks_state T U_Clocks_verdict, B_Clocks_state, ⟨a_Clocks_state, i_Clocks_state, k_Clocks_state⟩⟩
  have U_end_of_call : FnU P w K mg base 1 "end_of_call" ["calls", "place"] (spEndOf K) := ⟨_, _, ok_end_of_call F_end_of_call T, B_end_of_call, PySem.W.mg_of X G a_end_of_call, k_end_of_call⟩
  have U_answer : FnU P w K mg base 6 "answer" ["clocks", "call"] (spAnswer C_Phase C_Player C_Clocks) := ⟨_, _, ok_answer F_answer T U_Clocks_start U_Clocks_go U_Clocks_now U_Clocks_press U_Clocks_pause U_Clocks_set_left U_Clocks_left U_Clocks_state, B_answer, PySem.W.mg_of X G a_answer, k_answer⟩
  exact ok_answers F_answers T U_Clocks_init U_end_of_call U_answer
end Pc
open PySem PySem.W PyProof.Rows
set_option maxRecDepth 100000 in
set_option maxHeartbeats 0 in
theorem PySem.Challenge.cw_playclocks_s01_answers_holds : PySem.Challenge.rw_playclocks_s01_answers.Holds := by
  w_on; k_headS; (case hw => exact ⟨[.list [.int 0, .int 0, .int 0]], by decide +kernel, by decide +kernel⟩)
  k_fillS
  refine L2.walk_specK (r := PySem.Challenge.rw_playclocks_s01_answers) (k := 7) (CX := L2.CX0) (ps := ["calls"]) (sp := Pc.spAnswers) (by decide +kernel) rfl rfl ⟨rfl, by decide, by decide⟩ (fun w h Y => PySem.W.kIn_of Y) ?F ?S (fun _ _ _ _ z => z)
  case F =>
    intro w mg fa h Y KX G hmg
    refine' Pc.all_mk KX G hmg ?a_Phase ?pg_Phase ?hd_Phase ?po_Phase ?sa_Phase ?mk_Phase ?kc_Phase ?n_Phase_moves ?n_Phase_main ?n_Phase_kind ?n_Phase_inc ?n_Phase_periods ?a_Player ?pg_Player ?hd_Player ?po_Player ?sa_Player ?mk_Player ?kc_Player ?n_Player_time_left ?n_Player_periods ?n_Player_in_period ?n_Player_phase_number ?n_Player_moves ?a_Clocks ?pg_Clocks ?hd_Clocks ?po_Clocks ?sa_Clocks ?mk_Clocks ?kc_Clocks ?n_Clocks_phases ?n_Clocks_players ?n_Clocks_moment ?n_Clocks_running ?n_Clocks_mover ?n_Clocks_used ?n_Clocks_loser ?g_ROW ?g_MOST_MOVES ?g_HOURGLASS ?g_PLAIN ?g_MOST_INC ?g_BY_PERIODS ?g_MOST_PERIODS ?g_MOST_MAIN ?g_MOST_PHASES ?g_DELAYED ?g_ADDED ?g_GIVEN_BACK ?g_FEWEST_PLAYERS ?g_MOST_PLAYERS ?g_WRONG ?g_ALREADY_FALLEN ?g_GOES_ALREADY ?g_MOST_SET ?g_NOT_NOW ?g_MOVES_TOLD_BELOW ?g_LATEST ?g_FALLEN ?g_MOST_LEFT ?g_START ?g_SET ?g_STATE ?g_GO ?g_NOW ?g_PRESS ?g_PAUSE ?g_LEFT ?b_range ?b_len ?b_enumerate ?b_max ?b_min ?a_Phase_init ?i_Phase_init ?l_Phase_init ?c_Phase_init ?k_Phase_init ?a_phases_of ?l_phases_of ?c_phases_of ?k_phases_of ?a_moves_hold ?l_moves_hold ?c_moves_hold ?k_moves_hold ?a_kind_holds ?l_kind_holds ?c_kind_holds ?k_kind_holds ?a_inc_holds ?l_inc_holds ?c_inc_holds ?k_inc_holds ?a_periods_hold ?l_periods_hold ?c_periods_hold ?k_periods_hold ?a_phase_holds ?l_phase_holds ?c_phase_holds ?k_phase_holds ?a_phases_hold ?l_phases_hold ?c_phases_hold ?k_phases_hold ?a_cost_of ?l_cost_of ?c_cost_of ?k_cost_of ?a_left_when_moved ?l_left_when_moved ?c_left_when_moved ?k_left_when_moved ?a_Player_init ?i_Player_init ?l_Player_init ?c_Player_init ?k_Player_init ?a_Player_spend ?i_Player_spend ?l_Player_spend ?c_Player_spend ?k_Player_spend ?a_Player_enter_next ?i_Player_enter_next ?l_Player_enter_next ?c_Player_enter_next ?k_Player_enter_next ?a_Clocks_init ?i_Clocks_init ?l_Clocks_init ?c_Clocks_init ?k_Clocks_init ?a_Clocks_lay_out ?i_Clocks_lay_out ?l_Clocks_lay_out ?c_Clocks_lay_out ?k_Clocks_lay_out ?a_Clocks_start ?i_Clocks_start ?l_Clocks_start ?c_Clocks_start ?k_Clocks_start ?a_Clocks_go ?i_Clocks_go ?l_Clocks_go ?c_Clocks_go ?k_Clocks_go ?a_Clocks_now ?i_Clocks_now ?l_Clocks_now ?c_Clocks_now ?k_Clocks_now ?a_Clocks_press ?i_Clocks_press ?l_Clocks_press ?c_Clocks_press ?k_Clocks_press ?a_Clocks_pause ?i_Clocks_pause ?l_Clocks_pause ?c_Clocks_pause ?k_Clocks_pause ?a_Clocks_set_left ?i_Clocks_set_left ?l_Clocks_set_left ?c_Clocks_set_left ?k_Clocks_set_left ?a_Clocks_left ?i_Clocks_left ?l_Clocks_left ?c_Clocks_left ?k_Clocks_left ?a_Clocks_state ?i_Clocks_state ?l_Clocks_state ?c_Clocks_state ?k_Clocks_state ?a_Clocks_reach ?i_Clocks_reach ?l_Clocks_reach ?c_Clocks_reach ?k_Clocks_reach ?a_Clocks_has_player ?i_Clocks_has_player ?l_Clocks_has_player ?c_Clocks_has_player ?k_Clocks_has_player ?a_Clocks_may_become ?i_Clocks_may_become ?l_Clocks_may_become ?c_Clocks_may_become ?k_Clocks_may_become ?a_Clocks_verdict ?i_Clocks_verdict ?l_Clocks_verdict ?c_Clocks_verdict ?k_Clocks_verdict ?a_Clocks_next_number ?i_Clocks_next_number ?l_Clocks_next_number ?c_Clocks_next_number ?k_Clocks_next_number ?a_Clocks_run_until ?i_Clocks_run_until ?l_Clocks_run_until ?c_Clocks_run_until ?k_Clocks_run_until ?a_Clocks_run ?i_Clocks_run ?l_Clocks_run ?c_Clocks_run ?k_Clocks_run ?a_Clocks_end_move ?i_Clocks_end_move ?l_Clocks_end_move ?c_Clocks_end_move ?k_Clocks_end_move ?a_end_of_call ?l_end_of_call ?c_end_of_call ?k_end_of_call ?a_answer ?l_answer ?c_answer ?k_answer ?a_answers ?l_answers ?c_answers ?k_answers
    (case a_Phase => k_is)
    (case pg_Phase => k_is)
    (case hd_Phase => k_is)
    (case po_Phase => k_is)
    (case sa_Phase => k_is)
    (case mk_Phase => k_is)
    (case kc_Phase => k_is)
    (case n_Phase_moves => k_is)
    (case n_Phase_main => k_is)
    (case n_Phase_kind => k_is)
    (case n_Phase_inc => k_is)
    (case n_Phase_periods => k_is)
    (case a_Player => k_is)
    (case pg_Player => k_is)
    (case hd_Player => k_is)
    (case po_Player => k_is)
    (case sa_Player => k_is)
    (case mk_Player => k_is)
    (case kc_Player => k_is)
    (case n_Player_time_left => k_is)
    (case n_Player_periods => k_is)
    (case n_Player_in_period => k_is)
    (case n_Player_phase_number => k_is)
    (case n_Player_moves => k_is)
    (case a_Clocks => k_is)
    (case pg_Clocks => k_is)
    (case hd_Clocks => k_is)
    (case po_Clocks => k_is)
    (case sa_Clocks => k_is)
    (case mk_Clocks => k_is)
    (case kc_Clocks => k_is)
    (case n_Clocks_phases => k_is)
    (case n_Clocks_players => k_is)
    (case n_Clocks_moment => k_is)
    (case n_Clocks_running => k_is)
    (case n_Clocks_mover => k_is)
    (case n_Clocks_used => k_is)
    (case n_Clocks_loser => k_is)
    (case g_ROW => k_is)
    (case g_MOST_MOVES => k_is)
    (case g_HOURGLASS => k_is)
    (case g_PLAIN => k_is)
    (case g_MOST_INC => k_is)
    (case g_BY_PERIODS => k_is)
    (case g_MOST_PERIODS => k_is)
    (case g_MOST_MAIN => k_is)
    (case g_MOST_PHASES => k_is)
    (case g_DELAYED => k_is)
    (case g_ADDED => k_is)
    (case g_GIVEN_BACK => k_is)
    (case g_FEWEST_PLAYERS => k_is)
    (case g_MOST_PLAYERS => k_is)
    (case g_WRONG => k_is)
    (case g_ALREADY_FALLEN => k_is)
    (case g_GOES_ALREADY => k_is)
    (case g_MOST_SET => k_is)
    (case g_NOT_NOW => k_is)
    (case g_MOVES_TOLD_BELOW => k_is)
    (case g_LATEST => k_is)
    (case g_FALLEN => k_is)
    (case g_MOST_LEFT => k_is)
    (case g_START => k_is)
    (case g_SET => k_is)
    (case g_STATE => k_is)
    (case g_GO => k_is)
    (case g_NOW => k_is)
    (case g_PRESS => k_is)
    (case g_PAUSE => k_is)
    (case g_LEFT => k_is)
    (case b_range => k_is)
    (case b_len => k_is)
    (case b_enumerate => k_is)
    (case b_max => k_is)
    (case b_min => k_is)
    (case a_Phase_init => k_is)
    (case i_Phase_init => k_is)
    (case l_Phase_init => k_is)
    (case c_Phase_init => k_is)
    (case k_Phase_init => k_is)
    (case a_phases_of => k_is)
    (case l_phases_of => k_is)
    (case c_phases_of => k_is)
    (case k_phases_of => k_is)
    (case a_moves_hold => k_is)
    (case l_moves_hold => k_is)
    (case c_moves_hold => k_is)
    (case k_moves_hold => k_is)
    (case a_kind_holds => k_is)
    (case l_kind_holds => k_is)
    (case c_kind_holds => k_is)
    (case k_kind_holds => k_is)
    (case a_inc_holds => k_is)
    (case l_inc_holds => k_is)
    (case c_inc_holds => k_is)
    (case k_inc_holds => k_is)
    (case a_periods_hold => k_is)
    (case l_periods_hold => k_is)
    (case c_periods_hold => k_is)
    (case k_periods_hold => k_is)
    (case a_phase_holds => k_is)
    (case l_phase_holds => k_is)
    (case c_phase_holds => k_is)
    (case k_phase_holds => k_is)
    (case a_phases_hold => k_is)
    (case l_phases_hold => k_is)
    (case c_phases_hold => k_is)
    (case k_phases_hold => k_is)
    (case a_cost_of => k_is)
    (case l_cost_of => k_is)
    (case c_cost_of => k_is)
    (case k_cost_of => k_is)
    (case a_left_when_moved => k_is)
    (case l_left_when_moved => k_is)
    (case c_left_when_moved => k_is)
    (case k_left_when_moved => k_is)
    (case a_Player_init => k_is)
    (case i_Player_init => k_is)
    (case l_Player_init => k_is)
    (case c_Player_init => k_is)
    (case k_Player_init => k_is)
    (case a_Player_spend => k_is)
    (case i_Player_spend => k_is)
    (case l_Player_spend => k_is)
    (case c_Player_spend => k_is)
    (case k_Player_spend => k_is)
    (case a_Player_enter_next => k_is)
    (case i_Player_enter_next => k_is)
    (case l_Player_enter_next => k_is)
    (case c_Player_enter_next => k_is)
    (case k_Player_enter_next => k_is)
    (case a_Clocks_init => k_is)
    (case i_Clocks_init => k_is)
    (case l_Clocks_init => k_is)
    (case c_Clocks_init => k_is)
    (case k_Clocks_init => k_is)
    (case a_Clocks_lay_out => k_is)
    (case i_Clocks_lay_out => k_is)
    (case l_Clocks_lay_out => k_is)
    (case c_Clocks_lay_out => k_is)
    (case k_Clocks_lay_out => k_is)
    (case a_Clocks_start => k_is)
    (case i_Clocks_start => k_is)
    (case l_Clocks_start => k_is)
    (case c_Clocks_start => k_is)
    (case k_Clocks_start => k_is)
    (case a_Clocks_go => k_is)
    (case i_Clocks_go => k_is)
    (case l_Clocks_go => k_is)
    (case c_Clocks_go => k_is)
    (case k_Clocks_go => k_is)
    (case a_Clocks_now => k_is)
    (case i_Clocks_now => k_is)
    (case l_Clocks_now => k_is)
    (case c_Clocks_now => k_is)
    (case k_Clocks_now => k_is)
    (case a_Clocks_press => k_is)
    (case i_Clocks_press => k_is)
    (case l_Clocks_press => k_is)
    (case c_Clocks_press => k_is)
    (case k_Clocks_press => k_is)
    (case a_Clocks_pause => k_is)
    (case i_Clocks_pause => k_is)
    (case l_Clocks_pause => k_is)
    (case c_Clocks_pause => k_is)
    (case k_Clocks_pause => k_is)
    (case a_Clocks_set_left => k_is)
    (case i_Clocks_set_left => k_is)
    (case l_Clocks_set_left => k_is)
    (case c_Clocks_set_left => k_is)
    (case k_Clocks_set_left => k_is)
    (case a_Clocks_left => k_is)
    (case i_Clocks_left => k_is)
    (case l_Clocks_left => k_is)
    (case c_Clocks_left => k_is)
    (case k_Clocks_left => k_is)
    (case a_Clocks_state => k_is)
    (case i_Clocks_state => k_is)
    (case l_Clocks_state => k_is)
    (case c_Clocks_state => k_is)
    (case k_Clocks_state => k_is)
    (case a_Clocks_reach => k_is)
    (case i_Clocks_reach => k_is)
    (case l_Clocks_reach => k_is)
    (case c_Clocks_reach => k_is)
    (case k_Clocks_reach => k_is)
    (case a_Clocks_has_player => k_is)
    (case i_Clocks_has_player => k_is)
    (case l_Clocks_has_player => k_is)
    (case c_Clocks_has_player => k_is)
    (case k_Clocks_has_player => k_is)
    (case a_Clocks_may_become => k_is)
    (case i_Clocks_may_become => k_is)
    (case l_Clocks_may_become => k_is)
    (case c_Clocks_may_become => k_is)
    (case k_Clocks_may_become => k_is)
    (case a_Clocks_verdict => k_is)
    (case i_Clocks_verdict => k_is)
    (case l_Clocks_verdict => k_is)
    (case c_Clocks_verdict => k_is)
    (case k_Clocks_verdict => k_is)
    (case a_Clocks_next_number => k_is)
    (case i_Clocks_next_number => k_is)
    (case l_Clocks_next_number => k_is)
    (case c_Clocks_next_number => k_is)
    (case k_Clocks_next_number => k_is)
    (case a_Clocks_run_until => k_is)
    (case i_Clocks_run_until => k_is)
    (case l_Clocks_run_until => k_is)
    (case c_Clocks_run_until => k_is)
    (case k_Clocks_run_until => k_is)
    (case a_Clocks_run => k_is)
    (case i_Clocks_run => k_is)
    (case l_Clocks_run => k_is)
    (case c_Clocks_run => k_is)
    (case k_Clocks_run => k_is)
    (case a_Clocks_end_move => k_is)
    (case i_Clocks_end_move => k_is)
    (case l_Clocks_end_move => k_is)
    (case c_Clocks_end_move => k_is)
    (case k_Clocks_end_move => k_is)
    (case a_end_of_call => k_is)
    (case l_end_of_call => k_is)
    (case c_end_of_call => k_is)
    (case k_end_of_call => k_is)
    (case a_answer => k_is)
    (case l_answer => k_is)
    (case c_answer => k_is)
    (case k_answer => k_is)
    (case a_answers => k_is)
    (case l_answers => k_is)
    (case c_answers => k_is)
    (case k_answers => k_is)
  case S =>
    intro K H xs a hO hwi hask hx
    cases hx with
    | cons h1 h2 =>
      cases h2
      cases h1 with
      | lst hs ha =>
        have e := L2.ints_dw a.1 _ ha
        subst e
        exact ⟨_, a.1, rfl, hs, hask, fun H' p hp => .lst (L2.SqL.of hp) (L2.dw_ints _)⟩
