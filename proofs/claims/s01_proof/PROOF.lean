import PyProof.Rows.All
import Wide.All
import OpenK.AllK
import Wide.FinOn
import PyProof.EqAt
import PyProof.EqKinds
import PyProof.TupleCall
import KE.BitLaws
import Open.SpecLaws
import KE.OsHead
import KE.OsGo
import KE.SpHead
import KE.OsShapes
import PySem.Challenge.RW_sandpipe_s01_answers
set_option Elab.async false
set_option linter.all false
set_option maxRecDepth 100000
namespace L2
open PySem PySem.Spec PyProof.Rows

/-- a key: an int or a str -/
abbrev Key := Sum Int Str
def keyIs : Key → Value → Bool
  | .inl k, v => Value.isInt k v
  | .inr x, v => Value.isStrOf x v
def keyH (w : World) : Key → Int
  | .inl k => hashInt k
  | .inr x => hashStr w x
theorem keyIs_shape : ∀ {k : Key} {v : Value}, keyIs k v = true → (∃ i t, k = Sum.inl i ∧ v = Value.int i t) ∨ (∃ x t, k = Sum.inr x ∧ v = Value.str x t)
  | .inl i, v, h => by
    obtain ⟨t, e⟩ := Value.isInt_shape (k := i) (v := v) h
    exact .inl ⟨i, t, rfl, e⟩
  | .inr x, v, h => by
    obtain ⟨t, e⟩ := Value.isStrOf_shape (x := x) (v := v) h
    exact .inr ⟨x, t, rfl, e⟩
theorem key_ll (a b : Int) : decide ((Sum.inl a : Key) = Sum.inl b) = (a == b) := by
  by_cases e : a = b
  · subst e; simp
  · have h : ¬ (Sum.inl a : Key) = Sum.inl b := fun q => e (Sum.inl.inj q)
    rw [decide_eq_false h]
    exact (beq_eq_false_iff_ne.mpr e).symm
theorem key_rr (a b : Str) : decide ((Sum.inr a : Key) = Sum.inr b) = decide (a = b) := by
  by_cases e : a = b
  · subst e; simp
  · have h : ¬ (Sum.inr a : Key) = Sum.inr b := fun q => e (Sum.inr.inj q)
    rw [decide_eq_false h, decide_eq_false e]
theorem key_lr (a : Int) (b : Str) : decide ((Sum.inl a : Key) = Sum.inr b) = false := decide_eq_false (fun q => nomatch q)
theorem key_rl (a : Str) (b : Int) : decide ((Sum.inr a : Key) = Sum.inl b) = false := decide_eq_false (fun q => nomatch q)

def mixKind (prog : Program) (w : World) : PySem.KeyKind prog w Key where
  is := keyIs
  hash := keyH w
  inj := fun v a b ha hb => by
    rcases keyIs_shape ha with ⟨i, t, rfl, rfl⟩ | ⟨x, t, rfl, rfl⟩
    · rcases keyIs_shape hb with ⟨j, u, rfl, e⟩ | ⟨y, u, rfl, e⟩
      · injection e with e1 _; rw [e1]
      · exact nomatch e
    · rcases keyIs_shape hb with ⟨j, u, rfl, e⟩ | ⟨y, u, rfl, e⟩
      · exact nomatch e
      · injection e with e1 _; rw [e1]
  byValue := fun k v h => by
    rcases keyIs_shape h with ⟨i, t, rfl, rfl⟩ | ⟨x, t, rfl, rfl⟩ <;> rfl
  pyHash := fun hv h => by
    rcases keyIs_shape hv with ⟨i, t, rfl, rfl⟩ | ⟨x, t, rfl, rfl⟩
    · exact wpAny_pyHash_int h
    · exact wpAny_pyHash_str h
  eqBool := fun hu hv h => by
    rcases keyIs_shape hu with ⟨i, t, rfl, rfl⟩ | ⟨x, t, rfl, rfl⟩
    · rcases keyIs_shape hv with ⟨j, u, rfl, rfl⟩ | ⟨y, u, rfl, rfl⟩
      · rw [key_ll] at h; exact wpAny_eqBool_int h
      · rw [key_lr] at h; exact SeqAt.EqAt.int_str i t y u _ _ _ _ h
    · rcases keyIs_shape hv with ⟨j, u, rfl, rfl⟩ | ⟨y, u, rfl, rfl⟩
      · rw [key_rl] at h; exact SeqAt.EqAt.str_int x t j u _ _ _ _ h
      · rw [key_rr] at h; exact wpAny_eqBool_str h
  «strs» := fun k x t v h => by
    rcases keyIs_shape h with ⟨i, u, rfl, e⟩ | ⟨y, u, rfl, e⟩
    · exact nomatch e
    · injection e with e1 _
      subst e1
      cases v <;> rfl

end L2

namespace L2
open PySem PySem.Spec PyProof.Rows

/-- a value, without the heap -/
inductive V where
  | non | bl (b : Bool) | int (i : Int) | str (x : Str) | byt (b : Array UInt8) | flt (b : UInt64) | ref (a : Addr) | ty (n : String)
  deriving DecidableEq

def RelV : V → Value → Prop
  | .non, u => u = Value.none
  | .bl b, u => u = Value.bool b
  | .int i, u => ∃ t, u = Value.int i t
  | .str x, u => ∃ t, u = Value.str x t
  | .byt b, u => ∃ t, u = Value.bytes b t
  | .flt b, u => ∃ t, u = Value.float b t
  | .ref a, u => u = Value.ref a
  | .ty n, u => u = Value.type n

abbrev Vals : List V → List Value → Prop := Paired RelV
theorem Vals.length {xs : List V} {us : List Value} (r : Vals xs us) : xs.length = us.length := Paired.length r
theorem Vals.get : ∀ {xs : List V} {us : List Value} {i : Nat} {x : V}, Vals xs us → xs[i]? = some x → ∃ u, us[i]? = some u ∧ RelV x u
  | _, _, _, _, .nil, e => by simp at e
  | _, _, 0, _, .cons r _, e => by simp at e; subst e; exact ⟨_, rfl, r⟩
  | _, _, i + 1, x, .cons _ t, e => by
    obtain ⟨u, h1, h2⟩ := Vals.get (i := i) (x := x) t (by simpa using e)
    exact ⟨u, by simpa using h1, h2⟩
theorem Vals.set {x : V} {u : Value} (r : RelV x u) : ∀ {xs : List V} {us : List Value} (i : Nat), Vals xs us → Vals (xs.set i x) (us.set i u)
  | _, _, _, .nil => .nil
  | _, _, 0, .cons _ t => .cons r t
  | _, _, i + 1, .cons q t => .cons q (Vals.set r i t)
theorem Vals.append : ∀ {xs ys : List V} {us ws : List Value}, Vals xs us → Vals ys ws → Vals (xs ++ ys) (us ++ ws)
  | _, _, _, _, .nil, s => s
  | _, _, _, _, .cons r t, s => .cons r (Vals.append t s)
theorem Vals.take : ∀ {xs : List V} {us : List Value} (n : Nat), Vals xs us → Vals (xs.take n) (us.take n)
  | _, _, 0, _ => .nil
  | _, _, _ + 1, .nil => .nil
  | _, _, n + 1, .cons r t => .cons r (Vals.take n t)
theorem Vals.drop : ∀ {xs : List V} {us : List Value} (n : Nat), Vals xs us → Vals (xs.drop n) (us.drop n)
  | _, _, 0, r => r
  | _, _, _ + 1, .nil => .nil
  | _, _, n + 1, .cons _ t => Vals.drop n t
def RelO : Option V → Option Value → Prop
  | some v, some u => RelV v u
  | none, none => True
  | _, _ => False
def KV {κ : Type} : List (κ × V) → List (κ × Value) → Prop := Paired fun (p : κ × V) (q : κ × Value) => p.1 = q.1 ∧ RelV p.2 q.2

/-- a key of a dict (00_mix): an int or a text -/
def kV : Key → V
  | .inl i => .int i
  | .inr x => .str x

/-- what stands at a tracked address -/
inductive HO where
  /-- a list -/
  | lst (xs : List V)
  /-- a tuple (never changes) -/
  | tup (xs : List V)
  /-- a dict whose keys are ints and texts; one whose keys are tuples of ints and texts (the empty one is both) -/
  | dK (kvs : List (Key × V)) | dT (kvs : List (List Key × V))
  /-- a set of ints: its members, its size -/
  | set (S : Int → Bool) (n : Nat)
  /-- an instance of the class at C, its dict at dx, its attributes -/
  | ins (C dx : Addr) (fs : List (Str × V))
  /-- the dict of the instance at x -/
  | own (x : Addr)
  /-- the dict of an exception -/
  | xd (fs : List (Str × V))
  /-- a bound method, f of x -/
  | met (f x : Addr)
  /-- a range object lo, lo + 1, .. below hi -/
  | rng (lo hi : Int)
  /-- a thing that is known to the object (the script; a dict while a loop walks it): read, never written while it is so -/
  | frz (o : Obj) (u : HO)
  /-- a code object's table -/
  | tbl (ps : Array Value)
  /-- any other thing, by what is true of its one object (a def of one's own: SetO a S n := HO.ext fun h => ..) -/
  | ext (φ : Heap → Prop)

abbrev Hp := Addr → Option HO
def upd (H : Hp) (a : Addr) (o : HO) : Hp := fun b => if b = a then some o else H b
theorem upd_same {H : Hp} {a : Addr} {o : HO} : upd H a o a = some o := by unfold upd; rw [if_pos rfl]
theorem upd_ne {H : Hp} {a b : Addr} {o : HO} (h : b ≠ a) : upd H a o b = H b := by unfold upd; rw [if_neg h]
/-- two objects of different content stand apart -/
theorem ne_of {H : Hp} {a b : Addr} {o u : HO} (h : H a = some o) (h' : H b = some u) (d : o ≠ u) : a ≠ b := by
  intro e; subst e; rw [h] at h'; exact d (Option.some.inj h')
theorem ne_of_none {H : Hp} {a b : Addr} {o : HO} (h : H a = some o) (h' : H b = none) : a ≠ b := by
  intro e; subst e; rw [h] at h'; cases h'

section
variable (P : Program) (w : World)
def ObjOk (H : Hp) (h : Heap) (a : Addr) : HO → Prop
  | .lst xs => xs.length ≤ sizeLine ∧ ∃ (its : List Value) (n : Nat), Vals xs its ∧ h.get? a = some { cls := .type "list", data := .seq its.toArray n }
  | .tup xs => xs.length ≤ sizeLine ∧ ∃ its : List Value, Vals xs its ∧ IsTup h a its.toArray
  | .dK kvs => kvs.length ≤ sizeLine ∧ (a == sysModules) = false ∧ ∃ vs, KV kvs vs ∧ h.DictOf (mixKind P w) a vs
  | .dT kvs => kvs.length ≤ sizeLine ∧ (a == sysModules) = false ∧ ∃ xs : List (List Key × Addr × Value),
      Paired (fun (p : List Key × V) (q : List Key × Addr × Value) => p.1 = q.1 ∧ H q.2.1 = some (.tup (p.1.map kV)) ∧ RelV p.2 q.2.2) kvs xs ∧
      ∃ o es ep, h.get? a = some o ∧ o.ExactDict ∧ o.data = .dict es ep ∧ es.toList = xs.map (entryOfKey (tupleKind (mixKind P w))) ∧ (xs.map (·.1)).Nodup
  | .set S n => h.SetOf (intKind P w) a S n
  | .ins C dx fs => H dx = some (.own a) ∧ fs.length ≤ 1000 ∧ dx ≠ a ∧ h.get? a = some (PySem.W.instObj C dx) ∧
      ∃ mA, h.Ns1 dx mA ∧ (∀ f, RelO (fs.lookup f) (mA f)) ∧ PySem.Within mA (fs.map (·.1))
  | .own _ => ∃ o, h.get? a = some o
  | .xd fs => ∃ mA, h.Ns1 a mA ∧ ∀ f, RelO (fs.lookup f) (mA f)
  | .rng lo hi => ∃ t u v, h.get? a = some { cls := .type "range", data := .fields #[.int lo t, .int hi u, .int 1 v] }
  | .frz o u => h.get? a = some o ∧ ObjOk H h a u
  | .tbl ps => h.get? a = some { cls := .none, data := .fields ps }
  | .met f x => h.get? a = some (PySem.W.methodObj (.ref f) (.ref x))
  | .ext φ => φ h ∧ (∃ o, h.get? a = some o) ∧ ∀ h1 h2 : Heap, φ h1 → (∀ o, h1.get? a = some o → h2.get? a = some o) → φ h2
/-- the abstract heap is held -/
def HOk (H : Hp) (h : Heap) : Prop := ∀ a o, H a = some o → ObjOk P w H h a o
end

section
variable {P : Program} {w : World} {H H' : Hp} {h h' : Heap} {a : Addr} {o : HO}
theorem ObjOk.lt (x : ObjOk P w H h a o) : a < h.objs.size := by
  cases o with
  | lst xs => obtain ⟨_, _, _, _, e⟩ := x; exact Heap.lt_size e
  | tup xs => obtain ⟨_, _, _, p⟩ := x; exact p.lt
  | dK kvs => obtain ⟨_, _, _, _, o, _, _, e, _⟩ := x; exact Heap.lt_size e
  | dT kvs => obtain ⟨_, _, _, _, o, _, _, e, _⟩ := x; exact Heap.lt_size e
  | set S n => obtain ⟨o, _, _, _, e, _⟩ := x; exact Heap.lt_size e
  | ins C dx fs => obtain ⟨_, _, _, e, _⟩ := x; exact Heap.lt_size e
  | own y => obtain ⟨_, e⟩ := x; exact Heap.lt_size e
  | xd fs => obtain ⟨_, ⟨_, _, _, e, _⟩, _⟩ := x; exact Heap.lt_size e
  | rng lo hi => obtain ⟨_, _, _, e⟩ := x; exact Heap.lt_size e
  | frz ob u => obtain ⟨e, _⟩ := x; exact Heap.lt_size e
  | tbl ps => exact Heap.lt_size (show h.get? a = some _ from x)
  | met f y => exact Heap.lt_size (show h.get? a = some _ from x)
  | ext φ => obtain ⟨_, ⟨_, e⟩, _⟩ := x; exact Heap.lt_size e
theorem Paired.mapP {α β : Type} {F G : α → β → Prop} : ∀ {l₁ : List α} {l₂ : List β}, Paired F l₁ l₂ → (∀ a b, F a b → G a b) → Paired G l₁ l₂
  | _, _, .nil, _ => .nil
  | _, _, .cons r t, f => .cons (f _ _ r) (Paired.mapP t f)
/-- what an object's description leans on: its own object, its own dict, the tuples -/
theorem ObjOk.stay (x : ObjOk P w H h a o) (k : ∀ b u, (b = a ∨ H b = some (.own a)) → h.get? b = some u → h'.get? b = some u)
    (ho : ∀ b, H b = some (.own a) → H' b = some (.own a)) (ht : ∀ b xs, H b = some (.tup xs) → H' b = some (.tup xs)) : ObjOk P w H' h' a o := by
  induction o with
  | lst xs => obtain ⟨z, its, n, r, e⟩ := x; exact ⟨z, its, n, r, k _ _ (.inl rfl) e⟩
  | tup xs => obtain ⟨z, its, r, ob, e, c⟩ := x; exact ⟨z, its, r, ob, k _ _ (.inl rfl) e, c⟩
  | dK kvs => obtain ⟨z, y, vs, r, ob, es, ep, e, c⟩ := x; exact ⟨z, y, vs, r, ob, es, ep, k _ _ (.inl rfl) e, c⟩
  | dT kvs =>
    obtain ⟨z, y, xs, r, ob, es, ep, e, c⟩ := x
    exact ⟨z, y, xs, Paired.mapP r fun p q z => ⟨z.1, ht _ _ z.2.1, z.2.2⟩, ob, es, ep, k _ _ (.inl rfl) e, c⟩
  | set S n => obtain ⟨ob, es, ep, t, e, c⟩ := x; exact ⟨ob, es, ep, t, k _ _ (.inl rfl) e, c⟩
  | ins C dx fs =>
    obtain ⟨d, z, ne, e, mA, ⟨od, es, ep, e2, c⟩, r⟩ := x
    exact ⟨ho _ d, z, ne, k _ _ (.inl rfl) e, mA, ⟨od, es, ep, k _ _ (.inr d) e2, c⟩, r⟩
  | own y => obtain ⟨ob, e⟩ := x; exact ⟨ob, k _ _ (.inl rfl) e⟩
  | xd fs => obtain ⟨mA, ⟨od, es, ep, e, c⟩, r⟩ := x; exact ⟨mA, ⟨od, es, ep, k _ _ (.inl rfl) e, c⟩, r⟩
  | rng lo hi => obtain ⟨t, u, v, e⟩ := x; exact ⟨t, u, v, k _ _ (.inl rfl) e⟩
  | frz ob u ih => obtain ⟨e, q⟩ := x; exact ⟨k _ _ (.inl rfl) e, ih q⟩
  | tbl ps =>
    have e : h.get? a = some { cls := .none, data := .fields ps } := x
    show h'.get? a = some { cls := .none, data := .fields ps }
    exact k a _ (.inl rfl) e
  | met f y =>
    have e : h.get? a = some (PySem.W.methodObj (.ref f) (.ref y)) := x
    show h'.get? a = some (PySem.W.methodObj (.ref f) (.ref y))
    exact k a _ (.inl rfl) e
  | ext φ => obtain ⟨p, ⟨o, e⟩, st⟩ := x; exact ⟨st _ _ p fun o q => k _ _ (.inl rfl) q, ⟨o, k _ _ (.inl rfl) e⟩, st⟩
theorem HOk.lt (x : HOk P w H h) (e : H a = some o) : a < h.objs.size := (x a o e).lt
theorem HOk.fresh (x : HOk P w H h) (e : h.objs.size ≤ a) : H a = none := by
  cases q : H a with
  | none => rfl
  | some u => exact absurd (Nat.lt_of_lt_of_le (x.lt q) e) (Nat.lt_irrefl _)
/-- every object of the heap is kept -/
theorem HOk.kept (x : HOk P w H h) (k : ∀ b u, h.get? b = some u → h'.get? b = some u) : HOk P w H h' := fun a o e =>
  (x a o e).stay (fun b u _ q => k b u q) (fun _ q => q) fun _ _ q => q
/-- a new object is laid and tracked -/
theorem HOk.laid (x : HOk P w H h) (k : ∀ b u, h.get? b = some u → h'.get? b = some u) (hp : h.objs.size ≤ a) (new : ObjOk P w (upd H a o) h' a o) : HOk P w (upd H a o) h' := fun b u e => by
  have hn := x.fresh hp
  by_cases hb : b = a
  · subst hb; rw [upd_same] at e; cases e; exact new
  · rw [upd_ne hb] at e
    exact (x b u e).stay (fun c v _ q => k c v q) (fun c q => by rw [upd_ne (ne_of_none q hn)]; exact q) fun c xs q => by rw [upd_ne (ne_of_none q hn)]; exact q
end

/-- what may be read as u: it is u, or a known u -/
def Rd (H : Hp) (a : Addr) (u : HO) : Prop := H a = some u ∨ ∃ o, H a = some (.frz o u)
theorem Rd.of {H : Hp} {a : Addr} {u : HO} (h : H a = some u) : Rd H a u := .inl h
theorem Rd.ok {P : Program} {w : World} {H : Hp} {h : Heap} {a : Addr} {u : HO} (r : Rd H a u) (x : HOk P w H h) : ObjOk P w H h a u := by
  rcases r with r | ⟨o, r⟩
  · exact x a u r
  · obtain ⟨_, q⟩ := x a _ r
    exact q
/-- what may be written -/
def Mut : Option HO → Prop
  | some (.lst _) => True
  | some (.dK _) => True
  | some (.dT _) => True
  | some (.set _ _) => True
  | some (.ins _ _ _) => True
  | some (.ext _) => True
  | _ => False
section
variable {P : Program} {w : World} {H : Hp} {h h' : Heap} {x e : Addr} {o' : HO}
/-- the object at e is changed: x itself, or the dict of the instance x -/
theorem HOk.write (ok : HOk P w H h) (mu : Mut (H x)) (he : e = x ∨ H e = some (.own x)) (k : ∀ b u, b ≠ e → h.get? b = some u → h'.get? b = some u) (heo : ∃ u, h'.get? e = some u)
    (new : ObjOk P w (upd H x o') h' x o') : HOk P w (upd H x o') h' := fun b u q => by
  have nown : ∀ c y, H c = some (.own y) → c ≠ x := fun c y r z => by subst z; rw [r] at mu; exact mu
  have ntup : ∀ c xs, H c = some (.tup xs) → c ≠ x := fun c xs r z => by subst z; rw [r] at mu; exact mu
  by_cases hb : b = x
  · subst hb; rw [upd_same] at q; cases q; exact new
  · rw [upd_ne hb] at q
    by_cases hbe : b = e
    · have q' : H b = some (.own x) := by
        rcases he with z | z
        · exact absurd (hbe.trans z) hb
        · rw [hbe]; exact z
      rw [q] at q'; cases q'
      obtain ⟨v, hv⟩ := heo
      exact ⟨v, by rw [hbe]; exact hv⟩
    · refine (ok b u q).stay (fun c v hc r => k c v ?_ r) (fun c r => by rw [upd_ne (nown c b r)]; exact r) fun c xs r => by rw [upd_ne (ntup c xs r)]; exact r
      rcases hc with rfl | hc
      · exact hbe
      · rintro rfl
        rcases he with z | z
        · exact nown c b hc z
        · rw [hc] at z; cases z; exact hb rfl
end

structure Un (fs ex : List Addr) (H H' : Hp) (h h' : Heap) : Prop where
  keep : ∀ b o, h.get? b = some o → H b = none → b ∉ fs → b ∉ ex → h'.get? b = some o
  slot : ∀ b o, h.get? b = some o → H b = none → b ∈ fs → b ∉ ex → ∃ sl, h'.get? b = some { o with slots := sl }
  free : ∀ b o, h.get? b = some o → H b = none → b ∉ ex → H' b = none
  there : ∀ b o, h.get? b = some o → b ∉ ex → ∃ o', h'.get? b = some o'
  tups : ∀ b xs, H b = some (.tup xs) → H' b = some (.tup xs)
  frzs : ∀ b o u, H b = some (.frz o u) → H' b = some (.frz o u)
  tbls : ∀ b ps, H b = some (.tbl ps) → ∃ more, H' b = some (.tbl (ps ++ more))
section
variable {fs fs' ex ex' : List Addr} {H H1 H2 : Hp} {h h1 h2 h' : Heap} {a x e : Addr} {o : HO}
theorem Un.any (u : Un fs ex H H1 h h1) {b : Addr} {ob : Obj} (q : h.get? b = some ob) (n : H b = none) (hx : b ∉ ex) : ∃ sl, h1.get? b = some { ob with slots := sl } := by
  by_cases hb : b ∈ fs
  · exact u.slot b ob q n hb hx
  · exact ⟨ob.slots, u.keep b ob q n hb hx⟩
theorem Un.trans (a : Un fs ex H H1 h h1) (b : Un fs ex H1 H2 h1 h2) : Un fs ex H H2 h h2 where
  keep := fun c ob q n hc hx => b.keep c ob (a.keep c ob q n hc hx) (a.free c ob q n hx) hc hx
  slot := fun c ob q n hc hx => by
    obtain ⟨sl, e1⟩ := a.slot c ob q n hc hx
    obtain ⟨sl', e2⟩ := b.slot c _ e1 (a.free c ob q n hx) hc hx
    exact ⟨sl', e2⟩
  free := fun c ob q n hx => by
    obtain ⟨o', e1⟩ := a.there c ob q hx
    exact b.free c o' e1 (a.free c ob q n hx) hx
  there := fun c ob q hx => by
    obtain ⟨o', e1⟩ := a.there c ob q hx
    exact b.there c o' e1 hx
  tups := fun c xs q => b.tups c xs (a.tups c xs q)
  frzs := fun c ob xs q => b.frzs c ob xs (a.frzs c ob xs q)
  tbls := fun c ps q => by
    obtain ⟨m1, e1⟩ := a.tbls c ps q
    obtain ⟨m2, e2⟩ := b.tbls c _ e1
    exact ⟨m1 ++ m2, by rw [e2, Array.append_assoc]⟩
theorem Un.kept (k : ∀ b u, h.get? b = some u → h'.get? b = some u) : Un fs ex H H h h' :=
  ⟨fun b ob q _ _ _ => k b ob q, fun b ob q _ _ _ => ⟨ob.slots, k b ob q⟩, fun _ _ _ n _ => n, fun b ob q _ => ⟨ob, k b ob q⟩, fun _ _ q => q, fun _ _ _ q => q, fun _ ps q => ⟨#[], by rw [q]; simp⟩⟩
theorem Un.refl : Un fs ex H H h h := Un.kept fun _ _ q => q
theorem Un.laid (k : ∀ b u, h.get? b = some u → h'.get? b = some u) (hp : h.objs.size ≤ a) (hn : H a = none) : Un fs ex H (upd H a o) h h' where
  keep := fun b u q _ _ _ => k b u q
  slot := fun b u q _ _ _ => ⟨u.slots, k b u q⟩
  free := fun b u q n _ => by rw [upd_ne (Nat.ne_of_lt (Nat.lt_of_lt_of_le (Heap.lt_size q) hp))]; exact n
  there := fun b u q _ => ⟨u, k b u q⟩
  tups := fun b xs q => by rw [upd_ne (ne_of_none q hn)]; exact q
  frzs := fun b u xs q => by rw [upd_ne (ne_of_none q hn)]; exact q
  tbls := fun b ps q => ⟨#[], by rw [upd_ne (ne_of_none q hn), q]; simp⟩
theorem Un.write (mu : Mut (H x)) (he : e = x ∨ H e = some (.own x)) (k : ∀ b u, b ≠ e → h.get? b = some u → h'.get? b = some u) (heo : ∃ u, h'.get? e = some u) : Un fs ex H (upd H x o) h h' := by
  have hx : ∀ b, H b = none → b ≠ x := fun b n z => by subst z; rw [n] at mu; exact mu
  have hb : ∀ b, H b = none → b ≠ e := fun b n z => by
    subst z
    rcases he with r | r
    · exact hx b n r
    · rw [n] at r; cases r
  have hm : ∀ b u, H b = some u → ¬ Mut (some u) → b ≠ x := fun b u q nm z => by subst z; rw [q] at mu; exact nm mu
  refine ⟨fun b u q n _ _ => k b u (hb b n) q, fun b u q n _ _ => ⟨u.slots, k b u (hb b n) q⟩, fun b u q n _ => by rw [upd_ne (hx b n)]; exact n, fun b u q _ => ?_,
    fun b xs q => by rw [upd_ne (hm b _ q fun z => z)]; exact q, fun b u xs q => by rw [upd_ne (hm b _ q fun z => z)]; exact q, fun b ps q => ⟨#[], by rw [upd_ne (hm b _ q fun z => z), q]; simp⟩⟩
  by_cases hbe : b = e
  · subst hbe; exact heo
  · exact ⟨u, k b u hbe q⟩
theorem Un.mono (u : Un fs ex H H1 h h1) (hs : ∀ b ∈ fs, b ∈ fs') (hx : ∀ b ∈ ex, b ∈ ex') : Un fs' ex' H H1 h h1 :=
  ⟨fun b ob q n hb he => u.keep b ob q n (fun z => hb (hs b z)) fun z => he (hx b z), fun _ _ q n _ he => u.any q n fun z => he (hx _ z), fun b ob q n he => u.free b ob q n fun z => he (hx b z), fun b ob q he => u.there b ob q fun z => he (hx b z), u.tups, u.frzs, u.tbls⟩
end

def trk (h : Heap) (H : Hp) : List Addr := (List.range h.objs.size).filter fun a => (H a).isSome
def hidT (h : Heap) (H : Hp) : Heap := PySem.W.hideAll h (trk h H)
theorem hidT_size (h : Heap) (H : Hp) : (hidT h H).objs.size = h.objs.size := PySem.W.hideAll_size _ _
theorem hidT_get {h : Heap} {H : Hp} {b : Addr} {o : Obj} (e : h.get? b = some o) (n : H b = none) : (hidT h H).get? b = some o :=
  PySem.W.hideAll_get _ e fun hm => by
    have q : (H b).isSome = true := (List.mem_filter.mp hm).2
    rw [n] at q; simp at q
theorem of_hidT {h : Heap} {H : Hp} {b : Addr} {o : Obj} (e : (hidT h H).get? b = some o) : h.get? b = some o ∧ H b = none := by
  have e' : h.get? b = some o := PySem.W.of_hideAll (trk h H) e
  refine ⟨e', ?_⟩
  cases q : H b with
  | none => rfl
  | some x =>
    have hm : b ∈ trk h H := List.mem_filter.mpr ⟨List.mem_range.mpr (Heap.lt_size e'), by simp [q]⟩
    have z : (hidT h H).get? b = none := PySem.W.hideAll_none (trk h H) hm
    rw [z] at e; cases e

def allNews (g h : Heap) (L : Addr) : List (Addr × Obj) := (List.range h.objs.size).filterMap fun a => if a = L ∨ (g.get? a).isSome = true then none else (h.get? a).map fun o => (a, o)
def rest (g h : Heap) (L d : Addr) : List (Addr × Obj) := (allNews g h L).filter fun p => decide (p.1 ≠ d)
end L2

namespace L2
open PySem PySem.Spec PyProof.Rows

/-- the module's facts, over the base: the heap at the law's entry without what is tracked there -/
structure Mod (K : PySem.W.Frag) (mg : Str → Option Value) (base : Heap) : Prop where
  kin : K.In base
  glob : base.Ns mainGlobals mg
  blt : ∃ mb, base.Ns builtinsNs mb ∧ ∀ x : Str, x ≠ "__name__" → mb x = bootBuiltins x
  nolimit : base.NoLimit

/-- the context: a def's body (or a comprehension's block) running. base: fixed through the whole law; s₀, H₀: the entry; outer: the frames whose slots others may change (a def's callers); stack: all frames that run;
   ex: iterators that were made ahead of the entry and are walked here (a comprehension's); fn: the names whose cells were made at the entry (a def: all; a comprehension's block: its own); calm: not within an except suite; pn: pins that every state bears; xe: what is wanted of an exception that leaves the code -/
structure Cx where
  prog : Program
  w : World
  K : PySem.W.Frag
  mg : Str → Option Value
  base : Heap
  A : Around
  N : List Str
  s_0 : Shared
  H_0 : Hp
  env : Env
  outer : List Env
  stack : List Env
  ex : List Addr
  fn : Str → Bool
  calm : Bool
  pn : List (Addr × Obj)
  xe : Value → Shared → Prop
/-- the callers' frames -/
def frs (l : List Env) : List Addr := l.filterMap (·.frame)
abbrev Cx.fs (X : Cx) : List Addr := frs X.outer

def Vis (sc : Scope) (x : Str) : Prop := sc.names.lookup x = some .local ∨ sc.names.lookup x = some .cell ∨ sc.names.lookup x = some .free
def Loc (sc : Scope) (x : Str) : Prop := sc.names.lookup x = some .local ∨ sc.names.lookup x = some .cell
def Look (env : Env) (h : Heap) (m : Str → Option Value) (x : Str) (u : Value) : Prop :=
  (env.kindOf x = some .local ∧ m x = some u) ∨ ((env.kindOf x = some .cell ∨ env.kindOf x = some .free) ∧ ∃ c, env.cells.lookup x = some c ∧ h.IsCell c (some u))

structure Cx.Ok (X : Cx) : Prop where
  mod : Mod X.K X.mg X.base
  kind : X.env.scope.kind = .function
  glob : X.env.globals = mainGlobals
  blt : X.env.builtins = builtinsNs
  above : X.s_0.heap.objs.size ≤ X.env.locals
  inj : ∀ x y c, X.env.cells.lookup x = some c → X.env.cells.lookup y = some c → x = y
  has : ∀ x, (X.env.kindOf x = some .cell ∨ X.env.kindOf x = some .free) → ∃ c, X.env.cells.lookup x = some c
  cab : ∀ x c, X.fn x = true → X.env.cells.lookup x = some c → X.s_0.heap.objs.size ≤ c
  hd : X.calm = true → X.A.handled = none
  frames : X.A.frames = some X.stack
  stk : X.stack = X.outer ∨ (X.stack = X.env :: X.outer ∧ X.env.frame = some X.env.locals)
  exf : ∀ b ∈ X.ex, b ≠ X.env.locals ∧ ∀ x c, X.env.cells.lookup x = some c → c ≠ b
  bs : ∀ b o, X.base.get? b = some o → X.s_0.heap.get? b = some o ∧ X.H_0 b = none
  bsz : X.base.objs.size ≤ X.s_0.heap.objs.size
  noex : ∀ b o, X.base.get? b = some o → b ∉ X.ex
  exfs : ∀ b ∈ X.ex, b ∉ X.fs
  funs : X.s_0.heap.FunFrames X.base X.outer
  frf : ∀ b ∈ X.fs, X.H_0 b = none

structure Inv (X : Cx) (pins : List (Addr × Obj)) (σ : List (Option V)) (H : Hp) (s : Shared) : Prop where
  ok : X.Ok
  os : s.os = X.s_0.os
  bare : AllBare s.gens
  base : Un X.fs X.ex X.H_0 H X.s_0.heap s.heap
  loc : ∃ m, s.heap.Ns X.env.locals m ∧ ∀ (i : Nat) (x : Str) (v : V), X.N[i]? = some x → σ[i]? = some (some v) → Vis X.env.scope x → ∃ u, RelV v u ∧ Look X.env s.heap m x u
  cell : ∀ x c, X.env.cells.lookup x = some c → ∃ v, s.heap.IsCell c v
  free : H X.env.locals = none
  freeC : ∀ x c, X.env.cells.lookup x = some c → H c = none
  pin : ∀ p ∈ X.pn ++ pins, s.heap.get? p.1 = some p.2 ∧ H p.1 = none ∧ p.1 ≠ X.env.locals ∧ p.1 ∉ X.fs ∧ ∀ v, p.2.data ≠ .cell v
  hok : HOk X.prog X.w H s.heap
  len : σ.length = X.N.length

section
variable {X : Cx} {pins : List (Addr × Obj)} {σ : List (Option V)} {H H' : Hp} {s : Shared} {h' : Heap}

theorem Cx.Ok.nofr (ok : X.Ok) {b : Addr} {o : Obj} (e : X.base.get? b = some o) : b ∉ X.fs := fun hb => by
  have := (ok.funs.mem hb).1
  rw [e] at this; cases this
theorem Inv.bs (I : Inv X pins σ H s) : ∀ b o, X.base.get? b = some o → s.heap.get? b = some o ∧ H b = none := fun b o e =>
  ⟨I.base.keep b o (I.ok.bs b o e).1 (I.ok.bs b o e).2 (I.ok.nofr e) (I.ok.noex b o e), I.base.free b o (I.ok.bs b o e).1 (I.ok.bs b o e).2 (I.ok.noex b o e)⟩
theorem Inv.bk (I : Inv X pins σ H s) : ∀ b o, X.base.get? b = some o → s.heap.get? b = some o := fun b o e => (I.bs b o e).1
theorem Inv.mod (I : Inv X pins σ H s) : Mod X.K X.mg X.base := I.ok.mod
theorem Inv.kIn (I : Inv X pins σ H s) : X.K.In s.heap := I.ok.mod.kin.keeps I.bk
theorem Inv.nolimit (I : Inv X pins σ H s) : s.heap.NoLimit := I.ok.mod.nolimit.keeps I.bk
/-- the frame over the base: for OpenK's rules (K.In X.base is I.mod.kin) -/
theorem Inv.fr (I : Inv X pins σ H s) : ∃ m, Fr X.base X.env.locals s.heap m :=
  let ⟨m, hn, _⟩ := I.loc
  ⟨m, hn, I.bk, Nat.le_trans I.ok.bsz I.ok.above⟩
theorem Inv.lt (I : Inv X pins σ H s) : X.env.locals < s.heap.objs.size := let ⟨_, hn, _⟩ := I.loc; hn.lt
theorem Inv.sz (I : Inv X pins σ H s) : X.s_0.heap.objs.size ≤ s.heap.objs.size := Nat.le_trans I.ok.above (Nat.le_of_lt I.lt)
theorem Inv.nofs (I : Inv X pins σ H s) {a : Addr} (h : s.heap.objs.size ≤ a) : a ∉ X.fs := fun hb => by
  obtain ⟨_, o, ho, _⟩ := I.ok.funs.mem hb
  exact absurd (Nat.lt_of_lt_of_le (Heap.lt_size ho) (Nat.le_trans I.sz h)) (Nat.lt_irrefl _)
theorem Inv.cne (I : Inv X pins σ H s) : ∀ x c, X.env.cells.lookup x = some c → c ≠ X.env.locals := fun x c e z => by
  obtain ⟨v, o, ho, hd⟩ := I.cell x c e
  obtain ⟨m, ⟨o', es, ep, ho', hd', _⟩, _⟩ := I.loc
  rw [z, ho'] at ho; cases ho; rw [hd'] at hd; cases hd
theorem Inv.funs (I : Inv X pins σ H s) : s.heap.FunFrames X.base X.outer := by
  have all : ∀ (l : List Env), (∀ b ∈ frs l, b ∈ X.fs) → X.s_0.heap.FunFrames X.base l → s.heap.FunFrames X.base l := by
    intro l
    induction l with
    | nil => intro _ _; trivial
    | cons env r ih =>
      intro hs hl
      obtain ⟨hk, ⟨L, o, hf, hn, ho, hd⟩, hr⟩ := hl
      have hL : L ∈ X.fs := hs L (by unfold frs; rw [List.filterMap_cons, hf]; exact List.mem_cons_self)
      obtain ⟨sl, e⟩ := I.base.slot L o ho (I.ok.frf L hL) hL fun z => I.ok.exfs L z hL
      exact ⟨hk, ⟨L, _, hf, hn, e, hd⟩, ih (fun b hb => hs b (by unfold frs; rw [List.filterMap_cons, hf]; exact List.mem_cons_of_mem _ hb)) hr⟩
  exact all X.outer (fun _ hb => hb) I.ok.funs

/-- the frames that run, for a call -/
theorem Inv.stack (I : Inv X pins σ H s) : s.heap.FunFrames X.base X.stack := by
  rcases I.ok.stk with e | ⟨e, hf⟩
  · rw [e]; exact I.funs
  · rw [e]
    obtain ⟨m, hn, _⟩ := I.loc
    refine .cons (by rw [I.ok.kind]; decide) hf hn ?_ I.funs
    exact Heap.get?_none_of_le (Nat.le_trans I.ok.bsz I.ok.above)
theorem Inv.stkSub (I : Inv X pins σ H s) : ∀ b ∈ frs X.stack, b ∈ X.env.locals :: X.fs := fun b hb => by
  rcases I.ok.stk with e | ⟨e, hf⟩
  · rw [e] at hb; exact List.mem_cons_of_mem _ hb
  · rw [e] at hb
    unfold frs at hb
    rw [List.filterMap_cons, hf] at hb
    exact hb
theorem Inv.stkFree (I : Inv X pins σ H s) : ∀ b ∈ frs X.stack, H b = none := fun b hb => by
  rcases List.mem_cons.mp (I.stkSub b hb) with e | hb
  · rw [e]; exact I.free
  · obtain ⟨_, o, ho, _⟩ := I.ok.funs.mem hb
    exact I.base.free b o ho (I.ok.frf b hb) fun z => I.ok.exfs b z hb

/-- THE STEP: the untracked objects but the frame and the records at ch are kept (the callers' frames up to slots), the frame's map is kept, the new abstract heap is held -/
theorem Inv.step {g' : Array GenState} {t' : Nat} {d' : Drawn} {ch : List Addr} (I : Inv X pins σ H s)
    (hch : ∀ b ∈ ch, (b ∈ X.ex ∨ X.s_0.heap.objs.size ≤ b) ∧ b ≠ X.env.locals ∧ (∀ x c, X.env.cells.lookup x = some c → c ≠ b) ∧ ∀ p ∈ X.pn ++ pins, p.1 ≠ b)
    (keep : ∀ b o, b ≠ X.env.locals → b ∉ X.fs → b ∉ ch → s.heap.get? b = some o → H b = none → h'.get? b = some o)
    (slot : ∀ b o, b ≠ X.env.locals → b ∈ X.fs → b ∉ ch → s.heap.get? b = some o → H b = none → ∃ sl, h'.get? b = some { o with slots := sl }) (free : ∀ b o, b ∉ ch → s.heap.get? b = some o → H b = none → H' b = none)
    (there : ∀ b o, b ∉ ch → s.heap.get? b = some o → ∃ o', h'.get? b = some o')
    (tups : ∀ b xs, H b = some (.tup xs) → H' b = some (.tup xs)) (frzs : ∀ b o u, H b = some (.frz o u) → H' b = some (.frz o u)) (tbls : ∀ b ps, H b = some (.tbl ps) → ∃ more, H' b = some (.tbl (ps ++ more)))
    (ns : ∀ m, s.heap.Ns X.env.locals m → h'.Ns X.env.locals m) (hok : HOk X.prog X.w H' h') (hg : AllBare g') :
    Inv X pins σ H' { s with heap := h', gens := g', drawn := d', toks := t' } := by
  have neL : ∀ b o, X.s_0.heap.get? b = some o → b ≠ X.env.locals := fun b o e => Nat.ne_of_lt (Nat.lt_of_lt_of_le (Heap.lt_size e) I.ok.above)
  have neC : ∀ b o, X.s_0.heap.get? b = some o → b ∉ X.ex → b ∉ ch := fun b o e hx hb => by
    rcases (hch b hb).1 with z | z
    · exact hx z
    · exact absurd (Nat.lt_of_lt_of_le (Heap.lt_size e) z) (Nat.lt_irrefl _)
  have cellK : ∀ x c, X.env.cells.lookup x = some c → ∀ v, s.heap.IsCell c v → h'.IsCell c v := fun x c e v ⟨o, ho, hd⟩ => by
    have nch : c ∉ ch := fun z => (hch c z).2.2.1 x c e rfl
    by_cases hc : c ∈ X.fs
    · obtain ⟨sl, q⟩ := slot c o (I.cne x c e) hc nch ho (I.freeC x c e)
      exact ⟨_, q, hd⟩
    · exact ⟨o, keep c o (I.cne x c e) hc nch ho (I.freeC x c e), hd⟩
  refine ⟨I.ok, I.os, hg, ⟨fun b o e n hb hx => ?_, fun b o e n hb hx => ?_, fun b o e n hx => ?_, fun b o e hx => ?_, fun b xs e => tups b xs (I.base.tups b xs e), fun b o xs e => frzs b o xs (I.base.frzs b o xs e), fun b ps e => ?_⟩, ?_, fun x c e => ?_, ?_, fun x c e => ?_, fun p hp => ?_, hok, I.len⟩
  · exact keep b o (neL b o e) hb (neC b o e hx) (I.base.keep b o e n hb hx) (I.base.free b o e n hx)
  · obtain ⟨sl, e1⟩ := I.base.slot b o e n hb hx
    obtain ⟨sl', e2⟩ := slot b _ (neL b o e) hb (neC b o e hx) e1 (I.base.free b o e n hx)
    exact ⟨sl', e2⟩
  · obtain ⟨o', e1⟩ := I.base.there b o e hx
    exact free b o' (neC b o e hx) e1 (I.base.free b o e n hx)
  · obtain ⟨o', e1⟩ := I.base.there b o e hx
    exact there b o' (neC b o e hx) e1
  · obtain ⟨m1, e1⟩ := I.base.tbls b ps e
    obtain ⟨m2, e2⟩ := tbls b _ e1
    exact ⟨m1 ++ m2, by rw [e2, Array.append_assoc]⟩
  · obtain ⟨m, hn, hl⟩ := I.loc
    refine ⟨m, ns m hn, fun i x v e1 e2 e3 => ?_⟩
    obtain ⟨u, r, l⟩ := hl i x v e1 e2 e3
    refine ⟨u, r, ?_⟩
    rcases l with l | ⟨k, c, e, z⟩
    · exact .inl l
    · exact .inr ⟨k, c, e, cellK x c e _ z⟩
  · obtain ⟨v, z⟩ := I.cell x c e
    exact ⟨v, cellK x c e v z⟩
  · obtain ⟨m, ⟨o, _, _, ho, _⟩, _⟩ := I.loc
    exact free _ o (fun z => (hch _ z).2.1 rfl) ho I.free
  · obtain ⟨v, o, ho, hd⟩ := I.cell x c e
    exact free c o (fun z => (hch c z).2.2.1 x c e rfl) ho (I.freeC x c e)
  · obtain ⟨e, n, ne, nf, d⟩ := I.pin p hp
    have nch : p.1 ∉ ch := fun z => (hch p.1 z).2.2.2 p hp rfl
    exact ⟨keep p.1 p.2 ne nf nch e n, free p.1 p.2 nch e n, ne, nf, d⟩
/-- .. where the frame's own object is kept too -/
theorem Inv.un {t' : Nat} (I : Inv X pins σ H s) (u : Un X.fs [] H H' s.heap h') (hok : HOk X.prog X.w H' h') : Inv X pins σ H' { s with heap := h', toks := t' } := by
  obtain ⟨m, ⟨o, es, ep, ho, r⟩, _⟩ := id I.loc
  obtain ⟨sl, hL⟩ := u.any ho I.free (by simp)
  exact I.step (g' := s.gens) (d' := s.drawn) (ch := []) (fun _ z => nomatch z) (fun b o _ hb _ e n => u.keep b o e n hb (by simp)) (fun b o _ hb _ e n => u.slot b o e n hb (by simp)) (fun b o _ e n => u.free b o e n (by simp)) (fun b o _ e => u.there b o e (by simp)) u.tups u.frzs u.tbls (fun m' hm => by
    obtain ⟨o', es', ep', ho', r'⟩ := hm
    rw [ho] at ho'; cases ho'
    exact ⟨_, es', ep', hL, r'⟩) hok I.bare
/-- behind a call (or a comprehension's block): the slots of this frame may have changed too, the records at ch may have turned -/
theorem Inv.call {g' : Array GenState} {t' : Nat} {d' : Drawn} {ch : List Addr} (I : Inv X pins σ H s) (u : Un (frs X.stack) ch H H' s.heap h') (hok : HOk X.prog X.w H' h') (hg : AllBare g')
    (hch : ∀ b ∈ ch, (b ∈ X.ex ∨ X.s_0.heap.objs.size ≤ b) ∧ b ≠ X.env.locals ∧ (∀ x c, X.env.cells.lookup x = some c → c ≠ b) ∧ ∀ p ∈ X.pn ++ pins, p.1 ≠ b) :
    Inv X pins σ H' { s with heap := h', gens := g', drawn := d', toks := t' } := by
  obtain ⟨m, ⟨o, es, ep, ho, r⟩, _⟩ := id I.loc
  obtain ⟨sl, hL⟩ := u.any ho I.free fun z => (hch _ z).2.1 rfl
  exact I.step (ch := ch) hch (fun b o hL hb hc e n => u.keep b o e n (fun z => (List.mem_cons.mp (I.stkSub b z)).elim hL hb) hc) (fun b o _ _ hc e n => u.any e n hc) (fun b o hc e n => u.free b o e n hc) (fun b o hc e => u.there b o e hc) u.tups u.frzs u.tbls (fun m' hm => by
    obtain ⟨o', es', ep', ho', r'⟩ := hm
    rw [ho] at ho'; cases ho'
    exact ⟨_, es', ep', hL, r'⟩) hok hg
/-- an untracked record of ours (an iterator) has turned -/
theorem Inv.turned {t' : Nat} {it : Addr} (I : Inv X pins σ H s) (k : ∀ b o, b ≠ it → s.heap.get? b = some o → h'.get? b = some o) (hn : H it = none) (hL : it ≠ X.env.locals)
    (h1 : it ∈ X.ex ∨ X.s_0.heap.objs.size ≤ it) (h2 : ∀ x c, X.env.cells.lookup x = some c → c ≠ it) (h3 : ∀ p ∈ X.pn ++ pins, p.1 ≠ it) : Inv X pins σ H { s with heap := h', toks := t' } := by
  have nit : ∀ b u, H b = some u → b ≠ it := fun b u e z => by rw [z, hn] at e; cases e
  refine I.step (g' := s.gens) (d' := s.drawn) (ch := [it]) (fun b hb => ?_) (fun b o _ _ hc e _ => k b o (fun z => hc (by simp [z])) e) (fun b o _ _ hc e _ => ⟨o.slots, k b o (fun z => hc (by simp [z])) e⟩) (fun _ _ _ _ n => n)
    (fun b o hc e => ⟨o, k b o (fun z => hc (by simp [z])) e⟩) (fun _ _ e => e) (fun _ _ _ e => e) (fun b ps e => ⟨#[], by rw [e]; simp⟩) (fun m hm => ?_) (fun b u e => ?_) I.bare
  · have e : b = it := by simpa using hb
    subst e
    exact ⟨h1, hL, h2, h3⟩
  · obtain ⟨o, es, ep, ho, r⟩ := hm
    exact ⟨o, es, ep, k _ o (Ne.symm hL) ho, r⟩
  · refine (I.hok b u e).stay (fun c v hc q => k c v ?_ q) (fun _ q => q) fun _ _ q => q
    rcases hc with z | z
    · rw [z]; exact nit b u e
    · exact nit c _ z
theorem Inv.tok (I : Inv X pins σ H s) (t : Nat) : Inv X pins σ H { s with toks := t } := I.un (h' := s.heap) (t' := t) Un.refl I.hok
/-- all objects kept -/
theorem Inv.kept {t' : Nat} (I : Inv X pins σ H s) (k : ∀ b u, s.heap.get? b = some u → h'.get? b = some u) : Inv X pins σ H { s with heap := h', toks := t' } := I.un (Un.kept k) (I.hok.kept k)
/-- a new object laid and tracked -/
theorem Inv.laid {a : Addr} {o : HO} {t' : Nat} (I : Inv X pins σ H s) (k : ∀ b u, s.heap.get? b = some u → h'.get? b = some u) (hp : s.heap.objs.size ≤ a) (new : ObjOk X.prog X.w (upd H a o) h' a o) :
    Inv X pins σ (upd H a o) { s with heap := h', toks := t' } := I.un (Un.laid k hp (I.hok.fresh hp)) (I.hok.laid k hp new)
/-- an object written -/
theorem Inv.write {x e : Addr} {o : HO} {t' : Nat} (I : Inv X pins σ H s) (mu : Mut (H x)) (he : e = x ∨ H e = some (.own x)) (k : ∀ b u, b ≠ e → s.heap.get? b = some u → h'.get? b = some u) (heo : ∃ u, h'.get? e = some u)
    (new : ObjOk X.prog X.w (upd H x o) h' x o) : Inv X pins σ (upd H x o) { s with heap := h', toks := t' } := I.un (Un.write mu he k heo) (I.hok.write mu he k heo new)
/-- forgetting slots, pins -/
theorem Inv.weak {σ' : List (Option V)} (I : Inv X pins σ H s) (hl : σ'.length = σ.length) (w : ∀ (i : Nat) v, σ'[i]? = some (some v) → σ[i]? = some (some v)) : Inv X pins σ' H s :=
  ⟨I.ok, I.os, I.bare, I.base, let ⟨m, hn, hl'⟩ := I.loc; ⟨m, hn, fun i x v e1 e2 e3 => hl' i x v e1 (w i v e2) e3⟩, I.cell, I.free, I.freeC, I.pin, I.hok, hl.trans I.len⟩
theorem Inv.pins_of {pins' : List (Addr × Obj)} (I : Inv X pins σ H s) (h : ∀ p ∈ pins', s.heap.get? p.1 = some p.2 ∧ H p.1 = none ∧ p.1 ≠ X.env.locals ∧ p.1 ∉ X.fs ∧ ∀ v, p.2.data ≠ .cell v) : Inv X pins' σ H s :=
  ⟨I.ok, I.os, I.bare, I.base, I.loc, I.cell, I.free, I.freeC, fun p hp => (List.mem_append.mp hp).elim (fun z => I.pin p (List.mem_append_left _ z)) (h p), I.hok, I.len⟩

theorem nodup_ix {N : List Str} (hN : N.Nodup) {i j : Nat} {x : Str} (a : N[i]? = some x) (b : N[j]? = some x) : i = j := by
  obtain ⟨h1, e1⟩ := List.getElem?_eq_some_iff.mp a
  obtain ⟨h2, e2⟩ := List.getElem?_eq_some_iff.mp b
  exact (List.getElem_inj hN).mp (e1.trans e2.symm)

/-- a name is stored; what changed -/
theorem store_ok2 {M : Model} {A : Around} {E : Value → Shared → Prop} {i : Nat} {x : Str} {v : V} {u : Value} {Q : Unit → Shared → Prop} (I : Inv X pins σ H s) (hN : X.N.Nodup) (hi : X.N[i]? = some x) (hx : Loc X.env.scope x) (r : RelV v u)
    (h : ∀ s', Inv X pins (σ.set i (some v)) H s' → (∃ a, Heap.SameBut a s.heap s'.heap ∧ (a = X.env.locals ∨ X.env.cells.lookup x = some a)) → Q () s') (hf : X.fn x = true ∨ X.env.scope.names.lookup x = some .local := by first | exact .inl rfl | exact .inr rfl | assumption) : wpAny M A (storeName X.env x u) Q E s := by
  obtain ⟨m, hn, hl⟩ := id I.loc
  have hcls : (X.env.scope.kind == .class || (X.env.scope.kind == .module && X.env.locals != X.env.globals)) = false := by rw [I.ok.kind]; rfl
  have hiσ : i < σ.length := by rw [I.len]; exact (List.getElem?_eq_some_iff.mp hi).1
  have cne := I.cne
  have tracked : ∀ {a : Addr} {h' : Heap}, (∃ o, s.heap.get? a = some o ∧ H a = none) → Heap.SameBut a s.heap h' → HOk X.prog X.w H h' := fun {a h'} ha hs b ob e => by
    obtain ⟨_, _, hfree⟩ := ha
    refine (I.hok b ob e).stay (fun c w' hc q => (hs.2 c ?_).trans q) (fun _ q => q) fun _ _ q => q
    rintro rfl
    rcases hc with rfl | hc
    · rw [hfree] at e; cases e
    · rw [hfree] at hc; cases hc
  rcases hx with hk | hk
  · refine wpAny_storeName_local hk hn (fun h' hn' hs => ?_) hcls
    obtain ⟨oL, _, _, hoL, _⟩ := id hn
    refine h _ ⟨I.ok, I.os, I.bare, ⟨fun b o e n hb hx => ?_, fun b o e n hb hx => ?_, I.base.free, fun b o e hx => ?_, I.base.tups, I.base.frzs, I.base.tbls⟩, ⟨_, hn', fun j y v' e1 e2 e3 => ?_⟩, fun y c e => ?_, I.free, I.freeC, fun p hp => ?_, tracked ⟨oL, hoL, I.free⟩ hs, by simpa using I.len⟩ ⟨_, hs, .inl rfl⟩
    · exact (hs.2 b (Nat.ne_of_lt (Nat.lt_of_lt_of_le (Heap.lt_size e) I.ok.above))).trans (I.base.keep b o e n hb hx)
    · obtain ⟨sl, e1⟩ := I.base.slot b o e n hb hx
      exact ⟨sl, (hs.2 b (Nat.ne_of_lt (Nat.lt_of_lt_of_le (Heap.lt_size e) I.ok.above))).trans e1⟩
    · obtain ⟨o', e1⟩ := I.base.there b o e hx
      exact ⟨o', (hs.2 b (Nat.ne_of_lt (Nat.lt_of_lt_of_le (Heap.lt_size e) I.ok.above))).trans e1⟩
    · by_cases hj : j = i
      · subst hj
        rw [hi] at e1; cases e1
        rw [List.getElem?_set_self hiσ] at e2
        cases e2
        exact ⟨u, r, .inl ⟨hk, by simp⟩⟩
      · rw [List.getElem?_set_ne (Ne.symm hj)] at e2
        obtain ⟨u', r', q⟩ := hl j y v' e1 e2 e3
        refine ⟨u', r', ?_⟩
        rcases q with ⟨k, e⟩ | ⟨k, c, e, z⟩
        · refine .inl ⟨k, ?_⟩
          have : y ≠ x := fun e => hj (nodup_ix hN e1 (e ▸ hi))
          simp [this, e]
        · exact .inr ⟨k, c, e, z.sameBut hs (cne y c e)⟩
    · obtain ⟨w', z⟩ := I.cell y c e
      exact ⟨w', z.sameBut hs (cne y c e)⟩
    · obtain ⟨e, n, ne, nf, d⟩ := I.pin p hp
      exact ⟨(hs.2 p.1 ne).trans e, n, ne, nf, d⟩
  · have hfn : X.fn x = true := by
      rcases hf with z | z
      · exact z
      · rw [z] at hk; cases hk
    obtain ⟨c, hc⟩ := I.ok.has x (.inl hk)
    obtain ⟨w', z⟩ := I.cell x c hc
    refine wpAny_storeName_cell I.ok.kind hk hc z (fun h' hc' hs => ?_)
    obtain ⟨oc, hoc, hocd⟩ := id z
    refine h { s with heap := h' } ⟨I.ok, I.os, I.bare, ⟨fun b o e n hb hx => ?_, fun b o e n hb hx => ?_, I.base.free, fun b o e hx => ?_, I.base.tups, I.base.frzs, I.base.tbls⟩, ⟨m, hn.sameBut hs (Ne.symm (cne x c hc)), fun j y v' e1 e2 e3 => ?_⟩, fun y c' e => ?_, I.free, I.freeC, fun p hp => ?_, tracked ⟨oc, hoc, I.freeC x c hc⟩ hs, by simpa using I.len⟩ ⟨c, hs, .inr hc⟩
    · exact (hs.2 b (Nat.ne_of_lt (Nat.lt_of_lt_of_le (Heap.lt_size e) (I.ok.cab x c hfn hc)))).trans (I.base.keep b o e n hb hx)
    · obtain ⟨sl, e1⟩ := I.base.slot b o e n hb hx
      exact ⟨sl, (hs.2 b (Nat.ne_of_lt (Nat.lt_of_lt_of_le (Heap.lt_size e) (I.ok.cab x c hfn hc)))).trans e1⟩
    · obtain ⟨o', e1⟩ := I.base.there b o e hx
      exact ⟨o', (hs.2 b (Nat.ne_of_lt (Nat.lt_of_lt_of_le (Heap.lt_size e) (I.ok.cab x c hfn hc)))).trans e1⟩
    · by_cases hj : j = i
      · subst hj
        rw [hi] at e1; cases e1
        rw [List.getElem?_set_self hiσ] at e2
        cases e2
        exact ⟨u, r, .inr ⟨.inl hk, c, hc, hc'⟩⟩
      · rw [List.getElem?_set_ne (Ne.symm hj)] at e2
        obtain ⟨u', r', q⟩ := hl j y v' e1 e2 e3
        refine ⟨u', r', ?_⟩
        rcases q with q | ⟨k, c', e, z'⟩
        · exact .inl q
        · refine .inr ⟨k, c', e, z'.sameBut hs ?_⟩
          rintro rfl
          exact hj (nodup_ix hN e1 (I.ok.inj _ _ _ e hc ▸ hi))
    · by_cases hcc : c' = c
      · subst hcc; exact ⟨_, hc'⟩
      · obtain ⟨w2, z2⟩ := I.cell y c' e
        exact ⟨w2, z2.sameBut hs hcc⟩
    · obtain ⟨e, n, ne, nf, d⟩ := I.pin p hp
      refine ⟨(hs.2 p.1 ?_).trans e, n, ne, nf, d⟩
      intro q
      rw [q, hoc] at e
      have q' : oc = p.2 := Option.some.inj e
      exact d w' (by rw [← q']; exact hocd)
theorem store_ok {M : Model} {A : Around} {E : Value → Shared → Prop} {i : Nat} {x : Str} {v : V} {u : Value} {Q : Unit → Shared → Prop} (I : Inv X pins σ H s) (hN : X.N.Nodup) (hi : X.N[i]? = some x) (hx : Loc X.env.scope x) (r : RelV v u)
    (h : ∀ s', Inv X pins (σ.set i (some v)) H s' → Q () s') (hf : X.fn x = true ∨ X.env.scope.names.lookup x = some .local := by first | exact .inl rfl | exact .inr rfl | assumption) : wpAny M A (storeName X.env x u) Q E s :=
  store_ok2 I hN hi hx r (fun s' I' _ => h s' I') hf
/-- behind a call or a block, the state as it is -/
theorem Inv.call' {s' : Shared} {ch : List Addr} (I : Inv X pins σ H s) (ho : s'.os = s.os) (u : Un (frs X.stack) ch H H' s.heap s'.heap) (hok : HOk X.prog X.w H' s'.heap) (hg : AllBare s'.gens)
    (hch : ∀ b ∈ ch, (b ∈ X.ex ∨ X.s_0.heap.objs.size ≤ b) ∧ b ≠ X.env.locals ∧ (∀ x c, X.env.cells.lookup x = some c → c ≠ b) ∧ ∀ p ∈ X.pn ++ pins, p.1 ≠ b) : Inv X pins σ H' s' := by
  obtain ⟨h', g', d', t', o'⟩ := s'
  have e : o' = s.os := ho
  subst e
  exact I.call (g' := g') (t' := t') (d' := d') u hok hg hch
end

/-- an exception: its class, its own dict's address (where it has one), the abstract heap behind it -/
abbrev XK := Value → Option Addr → Hp → Prop
abbrev St := List (Option V)
abbrev VK := V → Hp → Prop
/-- an expression's reading; a test's; an argument list's -/
abbrev TE := St → Hp → VK → Prop
abbrev TT := St → Hp → (Bool → Hp → Prop) → Prop
abbrev TA := St → Hp → (List V → Hp → Prop) → Prop
/-- what is wanted behind a statement -/
structure Ends where
  nx : St → Hp → Prop
  rt : VK
  bk : St → Hp → Prop := fun _ _ => False
  ct : St → Hp → Prop := fun _ _ => False
abbrev TS := Ends → St → Hp → Prop

def EP (X : Cx) (pins : List (Addr × Obj)) (σ : St) (Q : VK) (u : Value) (s' : Shared) : Prop := ∃ v H', Inv X pins σ H' s' ∧ RelV v u ∧ Q v H'
def TP (X : Cx) (pins : List (Addr × Obj)) (σ : St) (Q : Bool → Hp → Prop) (b : Bool) (s' : Shared) : Prop := ∃ H', Inv X pins σ H' s' ∧ Q b H'
def AP (X : Cx) (pins : List (Addr × Obj)) (σ : St) (Q : List V → Hp → Prop) (us : List Value) (s' : Shared) : Prop := ∃ vs H', Inv X pins σ H' s' ∧ Vals vs us ∧ Q vs H'
def SP (X : Cx) (pins : List (Addr × Obj)) (D : Ends) (f : Flow) (s' : Shared) : Prop :=
  match f with
  | .next => ∃ σ' H', Inv X pins σ' H' s' ∧ D.nx σ' H'
  | .brk => ∃ σ' H', Inv X pins σ' H' s' ∧ D.bk σ' H'
  | .cont => ∃ σ' H', Inv X pins σ' H' s' ∧ D.ct σ' H'
  | .ret u => ∃ v σ' H', Inv X pins σ' H' s' ∧ RelV v u ∧ D.rt v H'

def PE (X : Cx) (e : Expr) (t : TE) : Prop :=
  ∀ (pins : List (Addr × Obj)) (s : Shared) (σ : St) (H : Hp) (Q : VK), Inv X pins σ H s → t σ H Q → wpAny (model X.prog X.w) X.A (eval e X.env) (EP X pins σ Q) X.xe s
def PT (X : Cx) (e : Expr) (t : TT) : Prop :=
  ∀ (pins : List (Addr × Obj)) (s : Shared) (σ : St) (H : Hp) (Q : Bool → Hp → Prop), Inv X pins σ H s → t σ H Q → wpAny (model X.prog X.w) X.A (isTrue e X.env (eval e X.env)) (TP X pins σ Q) X.xe s
/-- a test whatever its 'whole' is (and, or) -/
def PW (X : Cx) (e : Expr) (t : TT) : Prop :=
  ∀ (whole : Sem Value) (pins : List (Addr × Obj)) (s : Shared) (σ : St) (H : Hp) (Q : Bool → Hp → Prop), Inv X pins σ H s → t σ H Q → wpAny (model X.prog X.w) X.A (isTrue e X.env whole) (TP X pins σ Q) X.xe s
theorem PW.pt {X : Cx} {e : Expr} {t : TT} (h : PW X e t) : PT X e t := h _
/-- an argument list (no star), from the left -/
def PA (X : Cx) (es : List Expr) (t : TA) : Prop :=
  ∀ (pos : Pos) (pins : List (Addr × Obj)) (s : Shared) (σ : St) (H : Hp) (Q : List V → Hp → Prop), Inv X pins σ H s → t σ H Q → wpAny (model X.prog X.w) X.A (spliced (backTo pos (starEach es X.env))) (AP X pins σ Q) X.xe s
def PS (X : Cx) (st : Stmt) (t : TS) : Prop :=
  ∀ (pins : List (Addr × Obj)) (s : Shared) (σ : St) (H : Hp) (D : Ends), Inv X pins σ H s → t D σ H → wpAny (model X.prog X.w) X.A (exec st X.env) (SP X pins D) X.xe s
def PSs (X : Cx) (st : List Stmt) (t : TS) : Prop :=
  ∀ (pins : List (Addr × Obj)) (s : Shared) (σ : St) (H : Hp) (D : Ends), Inv X pins σ H s → t D σ H → wpAny (model X.prog X.w) X.A (execs st X.env) (SP X pins D) X.xe s
/-- weaken the end -/
theorem thn {α : Type} {t : Sem α} {Q Q' : α → Shared → Prop} {M : Model} {A : Around} {E : Value → Shared → Prop} {s : Shared} (h : wpAny M A t Q E s) (hQ : ∀ a s, Q a s → Q' a s) : wpAny M A t Q' E s := wpAny_mono h hQ fun _ _ x => x
end L2

namespace L2
open PySem PySem.Spec PyProof.Rows
section
variable {X : Cx}

def tVar (i : Nat) : TE := fun σ H Q => ∃ v, σ[i]? = some (some v) ∧ Q v H
def tC (v : V) : TE := fun _ H Q => Q v H
theorem pe_var {i : Nat} {x : Str} {pos : Pos} (hN : X.N[i]? = some x) (hv : Vis X.env.scope x) (hd : (x == ("__debug__" : Str)) = false := by decide) (hcd : (x == ("__classdict__" : Str)) = false := by decide) : PE X (.Name x pos) (tVar i) := by
  intro pins s σ H Q I h
  obtain ⟨v, e, h⟩ := h
  obtain ⟨m, hn, hl⟩ := I.loc
  obtain ⟨u, r, l⟩ := hl i x v hN e hv
  have fin : EP X pins σ Q u s := ⟨v, H, I, r, h⟩
  rcases l with ⟨hk, hm⟩ | ⟨hk, c, hc, hcell⟩
  · exact wpAny_Name (wpAny_loadName_local I.ok.kind hk hn hm fin) hd
  · rcases hk with hk | hk
    · exact wpAny_Name (wpAny_loadName_cell I.ok.kind hk hc hcell fin) hd
    · exact wpAny_Name (wpAny_loadName_free I.ok.kind hk hc hcell fin hcd) hd
theorem pe_int {i j pos} : PE X (.Constant (.int i) j pos) (tC (.int i)) := fun _ _ _ H _ I h => wpAny_Constant_int ⟨.int i, H, I.tok _, ⟨_, rfl⟩, h⟩
theorem pe_bl {b j pos} : PE X (.Constant (.bool b) j pos) (tC (.bl b)) := fun _ _ _ H _ I h => Constant_bool ⟨.bl b, H, I, rfl, h⟩
/-- a global name of the def -/
def Gl (X : Cx) (x : Str) : Prop := X.env.kindOf x = some .globalImplicit
theorem ld_glob {E : Value → Shared → Prop} {pins : List (Addr × Obj)} {s : Shared} {σ : St} {H : Hp} {x : Str} {u : Value} {pos : Pos} {Q : Value → Shared → Prop} (I : Inv X pins σ H s) (hg : Gl X x) (hm : X.mg x = some u) (h : Q u s)
    (hd : (x == ("__debug__" : Str)) = false := by decide) : wpAny (model X.prog X.w) X.A (eval (.Name x pos) X.env) Q E s :=
  Calls.Name_function_global I.ok.kind hg (Calls.loadGlobal_global (by rw [I.ok.glob]; exact I.mod.glob.keeps I.bk) hm h) hd
theorem ld_blt {E : Value → Shared → Prop} {pins : List (Addr × Obj)} {s : Shared} {σ : St} {H : Hp} {x : Str} {u : Value} {pos : Pos} {Q : Value → Shared → Prop} (I : Inv X pins σ H s) (hg : Gl X x) (hm : X.mg x = none) (hv : bootBuiltins x = some u) (h : Q u s)
    (hn : x ≠ "__name__" := by decide) (hd : (x == ("__debug__" : Str)) = false := by decide) : wpAny (model X.prog X.w) X.A (eval (.Name x pos) X.env) Q E s := by
  obtain ⟨mb, h1, h2⟩ := I.mod.blt
  exact Calls.Name_function_global I.ok.kind hg (Calls.loadGlobal_builtin (by rw [I.ok.glob]; exact I.mod.glob.keeps I.bk) hm (by rw [I.ok.blt]; exact h1.keeps I.bk) ((h2 x hn).trans hv) h) hd
/-- a module's constant, a class, a function, as a value -/
theorem pe_glob {x : Str} {v : V} {u : Value} {pos : Pos} (hg : Gl X x) (hm : X.mg x = some u) (r : RelV v u) (hd : (x == ("__debug__" : Str)) = false := by decide) : PE X (.Name x pos) (tC v) :=
  fun _ _ _ H _ I h => ld_glob I hg hm ⟨v, H, I, r, h⟩ hd
variable {a b : Expr} {ta tb : TE} {pos : Pos}
/-- a comparison as a value, as a test -/
def tB (t : TE) : TT := fun σ H Q => t σ H fun x H1 => ∃ c, x = .bl c ∧ Q c H1
/-- an expression whose value is a bool, as a test -/
theorem pt_val {e : Expr} {t : TE} (h : PE X e t) (he : ∀ whole, isTrue e X.env whole = (do let v ← whole; standAt e.pos; holding [v] (truthy v)) := by intro _; rfl) : PT X e (tB t) := by
  intro pins s σ H Q I hw
  refine isTrue_plain (thn (h pins s σ H _ I hw) fun v s1 ⟨x, H1, I1, r1, q1⟩ => ?_) (he _)
  obtain ⟨d, rfl, q⟩ := q1
  cases r1
  exact wpAny_truthy_bool ⟨H1, I1, q⟩

variable {tA tB' : TT} {rest : List Expr}
def tAnd (t u : TT) : TT := fun σ H Q => t σ H fun c H1 => if c = true then u σ H1 Q else Q false H1
def tOr (t u : TT) : TT := fun σ H Q => t σ H fun c H1 => if c = true then Q true H1 else u σ H1 Q
def tNot (t : TT) : TT := fun σ H Q => t σ H fun c H1 => Q (!c) H1
theorem pw_and1 (ha : PT X a tA) : PW X (.BoolOp .And [a] pos) tA := by
  intro wh pins s σ H Q I h
  refine isTrue_and (thn (ha pins s σ H Q I h) fun c s1 e => ?_)
  cases c with
  | true => exact isTrue_and_nil e
  | false => exact e
theorem pw_or1 (ha : PT X a tA) : PW X (.BoolOp .Or [a] pos) tA := by
  intro wh pins s σ H Q I h
  refine isTrue_or (thn (ha pins s σ H Q I h) fun c s1 e => ?_)
  cases c with
  | false => exact isTrue_or_nil e
  | true => exact e
theorem pw_and (ha : PT X a tA) (hb : PW X (.BoolOp .And (b :: rest) pos) tB') : PW X (.BoolOp .And (a :: b :: rest) pos) (tAnd tA tB') := by
  intro wh pins s σ H Q I h
  refine isTrue_and (thn (ha pins s σ H _ I h) fun c s1 ⟨H1, I1, q1⟩ => ?_)
  cases c with
  | true => exact hb wh pins s1 σ H1 Q I1 q1
  | false => exact ⟨H1, I1, q1⟩
theorem pw_or (ha : PT X a tA) (hb : PW X (.BoolOp .Or (b :: rest) pos) tB') : PW X (.BoolOp .Or (a :: b :: rest) pos) (tOr tA tB') := by
  intro wh pins s σ H Q I h
  refine isTrue_or (thn (ha pins s σ H _ I h) fun c s1 ⟨H1, I1, q1⟩ => ?_)
  cases c with
  | true => exact ⟨H1, I1, q1⟩
  | false => exact hb wh pins s1 σ H1 Q I1 q1
theorem pt_not (ha : PT X a tA) : PT X (.UnaryOp .Not a pos) (tNot tA) := by
  intro pins s σ H Q I h
  exact isTrue_not (ha pins s σ H (fun c H1 => Q (!c) H1) I h)
/-- .. as values (bools) -/
def tAndV (ta tb : TE) : TE := fun σ H Q => ta σ H fun x H1 => ∃ c, x = .bl c ∧ if c = true then tb σ H1 Q else Q (.bl false) H1
def tOrV (ta tb : TE) : TE := fun σ H Q => ta σ H fun x H1 => ∃ c, x = .bl c ∧ if c = true then Q (.bl true) H1 else tb σ H1 Q
def tNotV (ta : TE) : TE := fun σ H Q => ta σ H fun x H1 => ∃ c, x = .bl c ∧ Q (.bl (!c)) H1
theorem pe_one {op} {t : TE} (h : PE X a t) : PE X (.BoolOp op [a] pos) t := fun pins s σ H Q I hw => BoolOp_one (h pins s σ H Q I hw)
theorem pe_and (ha : PE X a ta) (hb : PE X (.BoolOp .And (b :: rest) pos) tb) : PE X (.BoolOp .And (a :: b :: rest) pos) (tAndV ta tb) := by
  intro pins s σ H Q I h
  refine BoolOp_and (thn (ha pins s σ H _ I h) fun v s1 ⟨x, H1, I1, r1, q1⟩ => ?_)
  obtain ⟨c, rfl, q1⟩ := q1
  cases r1
  refine wpAny_truthy_bool ?_
  cases c with
  | true => exact hb pins s1 σ H1 Q I1 q1
  | false => exact ⟨.bl false, H1, I1, rfl, q1⟩
/-- a if t else b -/
def tIf (t : TT) (ta tb : TE) : TE := fun σ H Q => t σ H fun c H1 => if c = true then ta σ H1 Q else tb σ H1 Q
theorem pe_ifExp {c : Expr} (hc : PT X c tA) (ha : PE X a ta) (hb : PE X b tb) : PE X (.IfExp c a b pos) (tIf tA ta tb) := by
  intro pins s σ H Q I h
  refine wpAny_IfExp (thn (hc pins s σ H _ I h) fun d s1 ⟨H1, I1, q1⟩ => ?_)
  cases d with
  | true => exact ha pins s1 σ H1 Q I1 q1
  | false => exact hb pins s1 σ H1 Q I1 q1
end
end L2

namespace L2
open PySem PySem.Spec PyProof.Rows

def SqL (K : PySem.W.Frag) (H : Hp) (a : Addr) (xs : List V) : Prop :=
  Rd H a (.lst xs) ∨
    ∃ (o : Obj) (its : Array Value) (n : Nat), K.lookup a = some o ∧ o.cls = .type "list" ∧ o.dict = none ∧ o.data = .seq its n ∧ its.size ≤ sizeLine ∧ Vals xs its.toList
def SqT (K : PySem.W.Frag) (H : Hp) (a : Addr) (xs : List V) : Prop :=
  Rd H a (.tup xs) ∨
    ∃ (o : Obj) (its : Array Value) (n : Nat), K.lookup a = some o ∧ o.cls = .type "tuple" ∧ o.data = .seq its n ∧ its.size ≤ sizeLine ∧ Vals xs its.toList
def absV : Value → Option V
  | .none => some .non
  | .bool b => some (.bl b)
  | .int i _ => some (.int i)
  | .str x _ => some (.str x)
  | .bytes b _ => some (.byt b)
  | .float b _ => some (.flt b)
  | .ref a => some (.ref a)
  | .type n => some (.ty n)
  | _ => none
theorem RelV.abs {x : V} {u : Value} (r : RelV x u) : absV u = some x := by
  cases x with
  | non => cases r; rfl
  | bl _ => cases r; rfl
  | int _ => obtain ⟨t, rfl⟩ := r; rfl
  | str _ => obtain ⟨t, rfl⟩ := r; rfl
  | byt _ => obtain ⟨t, rfl⟩ := r; rfl
  | flt _ => obtain ⟨t, rfl⟩ := r; rfl
  | ref _ => cases r; rfl
  | ty _ => cases r; rfl
theorem RelV.inj {x y : V} {u : Value} (r : RelV x u) (q : RelV y u) : x = y := Option.some.inj (r.abs.symm.trans q.abs)
theorem Vals.inj : ∀ {xs ys : List V} {us : List Value}, Vals xs us → Vals ys us → xs = ys
  | _, _, _, .nil, .nil => rfl
  | _, _, _, .cons r t, .cons r' t' => by rw [r.inj r', Vals.inj t t']
section
variable {X : Cx} {pins : List (Addr × Obj)} {σ : St} {H : Hp} {s : Shared} {a : Addr} {xs ys : List V}
theorem SqL.of {K : PySem.W.Frag} (h : H a = some (.lst xs)) : SqL K H a xs := .inl (.inl h)
theorem SqT.of {K : PySem.W.Frag} (h : H a = some (.tup xs)) : SqT K H a xs := .inl (.inl h)
theorem Inv.list (I : Inv X pins σ H s) (h : SqL X.K H a xs) : ∃ its : List Value, Vals xs its ∧ PlainL s.heap a its.toArray ∧ xs.length ≤ sizeLine := by
  rcases h with h | ⟨o, its, n, hk, hc, hd, hs, hz, r⟩
  · obtain ⟨z, its, n, r, e⟩ := h.ok I.hok
    exact ⟨its, r, ⟨_, n, e, rfl, rfl, rfl⟩, z⟩
  · refine ⟨its.toList, r, ⟨o, n, I.kIn a o hk, hc, hd, by simpa using hs⟩, ?_⟩
    have e := r.length
    simp only [Array.length_toList] at e
    omega
theorem Inv.tuple (I : Inv X pins σ H s) (h : SqT X.K H a xs) : ∃ its : List Value, Vals xs its ∧ IsTup s.heap a its.toArray ∧ xs.length ≤ sizeLine := by
  rcases h with h | ⟨o, its, n, hk, hc, hs, hz, r⟩
  · obtain ⟨z, its, r, p⟩ := h.ok I.hok
    exact ⟨its, r, p, z⟩
  · refine ⟨its.toList, r, ⟨o, I.kIn a o hk, hc, n, by simpa using hs⟩, ?_⟩
    have e := r.length
    simp only [Array.length_toList] at e
    omega
theorem Inv.list_inj (I : Inv X pins σ H s) (h : SqL X.K H a xs) (h' : SqL X.K H a ys) : xs = ys := by
  obtain ⟨its, r, ⟨o, n, e, _, _, d⟩, _⟩ := I.list h
  obtain ⟨its', r', ⟨o', n', e', _, _, d'⟩, _⟩ := I.list h'
  rw [e] at e'; cases e'
  rw [d] at d'
  injection d' with d1 _
  have : its = its' := by simpa using congrArg Array.toList d1
  subst this
  exact r.inj r'
end

abbrev Cx.wish (X : Cx) (E : Value → Shared → Prop) : Cx := { X with xe := E }
/-- no exception leaves -/
abbrev Cx.nox (X : Cx) : Cx := X.wish fun _ _ => False
theorem Cx.Ok.wish {X : Cx} (ok : X.Ok) (E : Value → Shared → Prop) : (X.wish E).Ok :=
  ⟨ok.mod, ok.kind, ok.glob, ok.blt, ok.above, ok.inj, ok.has, ok.cab, ok.hd, ok.frames, ok.stk, ok.exf, ok.bs, ok.bsz, ok.noex, ok.exfs, ok.funs, ok.frf⟩
theorem Cx.Ok.unwish {X : Cx} {E : Value → Shared → Prop} (ok : (X.wish E).Ok) : X.Ok :=
  ⟨ok.mod, ok.kind, ok.glob, ok.blt, ok.above, ok.inj, ok.has, ok.cab, ok.hd, ok.frames, ok.stk, ok.exf, ok.bs, ok.bsz, ok.noex, ok.exfs, ok.funs, ok.frf⟩
section
variable {X : Cx} {pins : List (Addr × Obj)} {σ : St} {H : Hp} {s : Shared} {E : Value → Shared → Prop}
theorem Inv.wish (I : Inv X pins σ H s) (E : Value → Shared → Prop) : Inv (X.wish E) pins σ H s := ⟨I.ok.wish E, I.os, I.bare, I.base, I.loc, I.cell, I.free, I.freeC, I.pin, I.hok, I.len⟩
theorem Inv.unwish (I : Inv (X.wish E) pins σ H s) : Inv X pins σ H s := ⟨I.ok.unwish, I.os, I.bare, I.base, I.loc, I.cell, I.free, I.freeC, I.pin, I.hok, I.len⟩
theorem SP.unwish {D : Ends} {f : Flow} {s' : Shared} (h : SP (X.wish E) pins D f s') : SP X pins D f s' := by
  cases f with
  | next => obtain ⟨σ', H', I, q⟩ := h; exact ⟨σ', H', I.unwish, q⟩
  | brk => obtain ⟨σ', H', I, q⟩ := h; exact ⟨σ', H', I.unwish, q⟩
  | cont => obtain ⟨σ', H', I, q⟩ := h; exact ⟨σ', H', I.unwish, q⟩
  | ret u => obtain ⟨v, σ', H', I, r, q⟩ := h; exact ⟨v, σ', H', I.unwish, r, q⟩
theorem PE.nox {e : Expr} {t : TE} (h : PE X.nox e t) : PE X e t := fun pins s σ H Q I hw =>
  wpAny_mono (h pins s σ H Q (I.wish _) hw) (fun _ _ ⟨v, H', I', r, q⟩ => ⟨v, H', I'.unwish, r, q⟩) fun _ _ z => False.elim z
theorem PT.nox {e : Expr} {t : TT} (h : PT X.nox e t) : PT X e t := fun pins s σ H Q I hw =>
  wpAny_mono (h pins s σ H Q (I.wish _) hw) (fun _ _ ⟨H', I', q⟩ => ⟨H', I'.unwish, q⟩) fun _ _ z => False.elim z
theorem PSs.nox {st : List Stmt} {t : TS} (h : PSs X.nox st t) : PSs X st t := fun pins s σ H D I hw =>
  wpAny_mono (h pins s σ H D (I.wish _) hw) (fun _ _ q => q.unwish) fun _ _ z => False.elim z
end

section
variable {X : Cx} {st : Stmt} {rest : List Stmt} {t u : TS} {e : Expr} {te : TE} {pos : Pos}
def tNext : TS := fun D σ H => D.nx σ H
def tSeq (t u : TS) : TS := fun D σ H => t { D with nx := u D } σ H
theorem pss_nil : PSs X [] tNext := fun _ _ σ H _ I h => wpAny_execs_nil ⟨σ, H, I, h⟩
theorem pss_cons (h1 : PS X st t) (h2 : PSs X rest u) : PSs X (st :: rest) (tSeq t u) := by
  intro pins s σ H D I h
  refine wpAny_execs_cons (thn (h1 pins s σ H { D with nx := u D } I h) fun f s1 q => ?_)
  cases f with
  | next =>
    obtain ⟨σ', H', I', q⟩ := q
    exact h2 pins s1 σ' H' D I' q
  | ret v => exact q
  | brk => exact q
  | cont => exact q
theorem pss_one (h1 : PS X st t) : PSs X [st] t := by
  intro pins s σ H D I h
  refine wpAny_execs_cons (thn (h1 pins s σ H D I h) fun f s1 q => ?_)
  cases f with
  | next => exact wpAny_execs_nil q
  | ret v => exact q
  | brk => exact q
  | cont => exact q
/-- in a def's body nothing is shown -/
theorem Inv.quiet {pins : List (Addr × Obj)} {σ : St} {H : Hp} {s : Shared} (I : Inv X pins σ H s) : interactive X.env = false := by simp [interactive, I.ok.kind]
/-- an expression whose value is dropped -/
def tDrop (te : TE) : TS := fun D σ H => te σ H fun _ H1 => D.nx σ H1
theorem ps_expr (he : PE X e te) (hs : swapsWith e none pos.line X.env = pure false := by rfl) : PS X (.Expr e pos) (tDrop te) := by
  intro pins s σ H D I h
  exact wpAny_Expr_any (thn (he pins s σ H _ I h) fun v s1 ⟨x, H1, I1, r1, q1⟩ => ⟨σ, H1, I1, q1⟩) I.quiet hs
def tRet (te : TE) : TS := fun D σ H => te σ H D.rt
theorem ps_ret (he : PE X e te) : PS X (.Return (some e) pos) (tRet te) := by
  intro pins s σ H D I h
  exact wpAny_Return_some (thn (he pins s σ H _ I h) fun v s1 ⟨x, H1, I1, r1, q1⟩ => ⟨x, σ, H1, I1, r1, q1⟩)
def tIfS (c : TT) (t u : TS) : TS := fun D σ H => c σ H fun b H1 => if b = true then t D σ H1 else u D σ H1
theorem ps_if {c : Expr} {a b : List Stmt} {tc : TT} (hc : PT X c tc) (ha : PSs X a t) (hb : PSs X b u) : PS X (.If c a b pos) (tIfS tc t u) := by
  intro pins s σ H D I h
  refine wpAny_If (thn (hc pins s σ H _ I h) fun d s1 ⟨H1, I1, q1⟩ => ?_)
  cases d with
  | true => exact ha pins s1 σ H1 D I1 q1
  | false => exact hb pins s1 σ H1 D I1 q1
end

abbrev TG := V → St → Hp → (St → Hp → Prop) → Prop
abbrev TGs := List V → St → Hp → (St → Hp → Prop) → Prop
def PG (X : Cx) (target : Expr) (t : TG) : Prop :=
  ∀ (pins : List (Addr × Obj)) (s : Shared) (σ : St) (H : Hp) (v : V) (u : Value) (Q : St → Hp → Prop), Inv X pins σ H s → RelV v u → t v σ H Q →
    wpAny (model X.prog X.w) X.A (assign target X.env u) (fun _ s' => ∃ σ' H', Inv X pins σ' H' s' ∧ Q σ' H') X.xe s
/-- several targets, one after another -/
def PGs (X : Cx) (ts : List Expr) (t : TGs) : Prop :=
  ∀ (pins : List (Addr × Obj)) (s : Shared) (σ : St) (H : Hp) (vs : List V) (us : List Value) (Q : St → Hp → Prop), Inv X pins σ H s → Vals vs us → t vs σ H Q →
    wpAny (model X.prog X.w) X.A (assignInOrder ((assignEach ts X.env).map (·.2)) us) (fun _ s' => ∃ σ' H', Inv X pins σ' H' s' ∧ Q σ' H') X.xe s
section
variable {X : Cx} {pos : Pos}
def gName (i : Nat) : TG := fun v σ H Q => Q (σ.set i (some v)) H
theorem pg_name {i : Nat} {x : Str} (hN : X.N.Nodup) (hi : X.N[i]? = some x) (hx : Loc X.env.scope x) (hf : X.fn x = true ∨ X.env.scope.names.lookup x = some .local := by first | exact .inl rfl | exact .inr rfl | assumption) : PG X (.Name x pos) (gName i) := by
  intro pins s σ H v u Q I r h
  exact wpAny_assign_Name (store_ok I hN hi hx r (fun s' I' => ⟨_, H, I', h⟩) hf)
def gNil : TGs := fun vs σ H Q => vs = [] ∧ Q σ H
def gCons (t : TG) (u : TGs) : TGs := fun vs σ H Q => ∃ v r, vs = v :: r ∧ t v σ H fun σ' H' => u r σ' H' Q
theorem pgs_nil : PGs X [] gNil := by
  intro pins s σ H vs us Q I r h
  obtain ⟨e, h⟩ := h
  subst e
  cases r
  exact assignInOrder_nil ⟨σ, H, I, h⟩
theorem pgs_cons {e : Expr} {es : List Expr} {t : TG} {u : TGs} (h1 : PG X e t) (h2 : PGs X es u)
    (hs : (assignEach (e :: es) X.env).map (·.2) = assign e X.env :: (assignEach es X.env).map (·.2) := by rfl) : PGs X (e :: es) (gCons t u) := by
  intro pins s σ H vs us Q I r h
  obtain ⟨v, vr, e1, h⟩ := h
  subst e1
  cases r with
  | cons r rr =>
    rw [hs]
    refine assignInOrder_cons (thn (h1 pins s σ H _ _ _ I r h) fun _ s1 ⟨σ1, H1, I1, q1⟩ => ?_)
    exact h2 pins s1 σ1 H1 _ _ Q I1 rr q1
/-- (a, b, ..) = a tuple of that length -/
def gTup (K : PySem.W.Frag) (n : Nat) (t : TGs) : TG := fun v σ H Q => ∃ a xs, v = .ref a ∧ SqT K H a xs ∧ xs.length = n ∧ t xs σ H Q
theorem pg_tup {es : List Expr} {k : Nat} {t : TGs} {n : Nat} (hc : X.calm = true) (h : PGs X es t)
    (hn : (assignEach es X.env).length = n := by rfl) (hst : (assignEach es X.env).findIdx? (·.1) = none := by rfl) : PG X (.Tuple es k pos) (gTup X.K n t) := by
  intro pins s σ H v u Q I r hw
  obtain ⟨a, xs, e1, hq, hl, hw⟩ := hw
  subst e1
  cases r
  obtain ⟨its, rv, ht, hz⟩ := I.tuple hq
  refine assign_Tuple_tuple (I.ok.hd hc) ht (by simp [hn, ← hl, rv.length]) hst fun h' hx => ?_
  have I1 : Inv X pins σ H { s with heap := h' } := I.kept (t' := s.toks) fun b o e => hx b o (Nat.ne_of_lt (Heap.lt_size e)) e
  exact h pins _ σ H xs _ Q I1 (by simpa using rv) hw
/-- target = value -/
def tAsg (te : TE) (g : TG) : TS := fun D σ H => te σ H fun x H1 => g x σ H1 D.nx
/-- name = value -/
theorem ps_set {i : Nat} {x : Str} {e : Expr} {te : TE} {pos' : Pos} (hN : X.N.Nodup) (hi : X.N[i]? = some x) (hx : Loc X.env.scope x) (he : PE X e te) (hs : swapsWith e (some (.Name x pos')) pos.line X.env = pure false := by rfl) (hf : X.fn x = true ∨ X.env.scope.names.lookup x = some .local := by first | exact .inl rfl | exact .inr rfl | assumption) :
    PS X (.Assign [.Name x pos'] e pos) (tAsg te (gName i)) := by
  intro pins s σ H D I h
  refine wpAny_Assign_Name (thn (he pins s σ H _ I h) fun v s1 ⟨y, H1, I1, r1, q1⟩ => ?_) hs
  exact store_ok I1 hN hi hx r1 (fun s2 I2 => ⟨_, H1, I2, q1⟩) hf
end

section
variable {X : Cx} {pos : Pos}
/-- the invariant W with its measure -/
def tWhile (c : TT) (tb : TS) : TS := fun D σ H => ∃ W : Nat → St → Hp → Prop, (∃ m, W m σ H) ∧ ∀ m σ H, W m σ H →
  c σ H fun b H1 => if b = true then ∃ N : St → Hp → Prop, (∀ σ' H', N σ' H' → ∃ m', m' < m ∧ W m' σ' H') ∧ tb { D with nx := N, ct := N, bk := D.nx } σ H1 else D.nx σ H1
theorem ps_while {c : Expr} {body : List Stmt} {tc : TT} {tb : TS} (hp : PassesOwn (model X.prog X.w) X.A X.env X.xe) (hc : PT X c tc) (hb : PSs X body tb) : PS X (.While c body [] pos) (tWhile tc tb) := by
  intro pins s σ H D I h
  obtain ⟨W, ⟨m0, w0⟩, turn⟩ := h
  refine wpAny_While (codeAny_whileLoop (fun n s' => ∃ σ' H', Inv X pins σ' H' s' ∧ W n σ' H') ?_ m0 ⟨σ, H, I, w0⟩)
  rintro n s1 ⟨σ1, H1, I1, w1⟩
  refine wpAny_passesOwn hp (thn (hc pins s1 σ1 H1 _ I1 (turn n σ1 H1 w1)) fun b s2 ⟨H2, I2, q2⟩ => ?_)
  cases b with
  | true =>
    obtain ⟨N, hN, q2⟩ := q2
    rw [if_pos rfl]
    refine wpAny_passesOwn hp (thn (hb pins s2 σ1 H2 _ I2 q2) fun f s3 q3 => ?_)
    cases f with
    | next =>
      obtain ⟨σ3, H3, I3, n3⟩ := q3
      obtain ⟨m', hm, w3⟩ := hN σ3 H3 n3
      exact ⟨m', hm, σ3, H3, I3, w3⟩
    | cont =>
      obtain ⟨σ3, H3, I3, n3⟩ := q3
      obtain ⟨m', hm, w3⟩ := hN σ3 H3 n3
      exact ⟨m', hm, σ3, H3, I3, w3⟩
    | brk => exact q3
    | ret v => exact q3
  | false =>
    rw [if_neg Bool.false_ne_true]
    exact wpAny_execs_nil ⟨σ1, H2, I2, q2⟩
end

/-- at turn i: it yields x (the heap may grow), or it stops -/
structure It where
  go : Nat → Hp → Prop
  yld : Nat → Hp → V → Hp → Prop
  stop : Nat → Hp → Prop
/-- the iterator's own objects may turn: they are not the frame's, not pinned, younger than the entry (or a comprehension's own) -/
def FpOk (X : Cx) (pins : List (Addr × Obj)) (H : Hp) (b : Addr) : Prop :=
  H b = none ∧ b ≠ X.env.locals ∧ b ∉ X.fs ∧ (b ∈ X.ex ∨ X.s_0.heap.objs.size ≤ b) ∧ (∀ x c, X.env.cells.lookup x = some c → c ≠ b) ∧ ∀ p ∈ X.pn ++ pins, p.1 ≠ b
theorem Inv.fpOk {X : Cx} {pins : List (Addr × Obj)} {σ : St} {H H' : Hp} {s : Shared} {b : Addr} (I : Inv X pins σ H s) (hb : s.heap.objs.size ≤ b) (hn : H' b = none) : FpOk X pins H' b := by
  refine ⟨hn, Nat.ne_of_gt (Nat.lt_of_lt_of_le I.lt hb), I.nofs hb, .inr (Nat.le_trans I.sz hb), fun x c e z => ?_, fun p hp z => ?_⟩
  · obtain ⟨v, q⟩ := I.cell x c e
    exact absurd (Nat.lt_of_lt_of_le q.lt (by rw [z]; exact hb)) (Nat.lt_irrefl _)
  · exact absurd (Nat.lt_of_lt_of_le (Heap.lt_size (I.pin p hp).1) (by rw [z]; exact hb)) (Nat.lt_irrefl _)
structure Turn (P : Program) (w : World) (K : PySem.W.Frag) (tg : Expr) (J : It) (fp : List Addr) (it : Addr) (tn : Nat → Heap → Prop) : Prop where
  mem : it ∈ fp
  obj : ∀ i h, tn i h → ∀ b ∈ fp, ∃ o, h.get? b = some o ∧ ∀ v, o.data ≠ .cell v
  keep : ∀ i h h', tn i h → (∀ b ∈ fp, ∀ o, h.get? b = some o → h'.get? b = some o) → tn i h'
  item : ∀ (X : Cx), X.prog = P → X.w = w → X.K = K → X.calm = true → ∀ (i : Nat) (pins : List (Addr × Obj)) (s : Shared) (σ : St) (H : Hp) (E : Value → Shared → Prop), Inv X pins σ H s → (∀ b ∈ fp, FpOk X pins H b) → tn i s.heap → J.go i H →
    wpAny (model P w) X.A (pyNext (.ref it)) (fun r s1 => ∃ u, r = some u ∧
      wpAny (model P w) X.A (letOwnedTupleGo tg (.ref it) u) (fun _ s2 => ∃ x H', Inv X pins σ H' s2 ∧ RelV x u ∧ J.yld i H x H' ∧ tn (i + 1) s2.heap ∧ ∀ b ∈ fp, H' b = none) E s1) E s
  done : ∀ (X : Cx), X.prog = P → X.w = w → X.K = K → X.calm = true → ∀ (i : Nat) (pins : List (Addr × Obj)) (s : Shared) (σ : St) (H : Hp) (E : Value → Shared → Prop), Inv X pins σ H s → (∀ b ∈ fp, FpOk X pins H b) → tn i s.heap → J.stop i H →
    wpAny (model P w) X.A (pyNext (.ref it)) (fun r s1 => r = none ∧ Inv X pins σ H s1) E s
  self : ∀ (A : Around) (i : Nat) (s : Shared) (Q : Value → Shared → Prop) (E : Value → Shared → Prop), tn i s.heap → Q (.ref it) s → wpAny (model P w) A (pyIter (.ref it)) Q E s
abbrev TI := St → Hp → (It → Hp → Prop) → Prop
/-- an iterator has come -/
def PIE (X : Cx) (pins : List (Addr × Obj)) (σ : St) (tg : Expr) (R : It → Hp → Prop) (itv : Value) (s2 : Shared) : Prop :=
  ∃ (it : Addr) (fp : List Addr) (tn : Nat → Heap → Prop) (J : It) (H' : Hp), itv = .ref it ∧ Inv X pins σ H' s2 ∧ Turn X.prog X.w X.K tg J fp it tn ∧ tn 0 s2.heap ∧ (∀ b ∈ fp, FpOk X pins H' b) ∧ R J H'
def PI (X : Cx) (tg iter : Expr) (wi : TI) : Prop :=
  ∀ (pins : List (Addr × Obj)) (s : Shared) (σ : St) (H : Hp) (R : It → Hp → Prop), Inv X pins σ H s → wi σ H R →
    wpAny (model X.prog X.w) X.A (eval iter X.env) (fun v s1 => wpAny (model X.prog X.w) X.A (pyIter v) (PIE X pins σ tg R) X.xe s1) X.xe s

/-- the step ahead of the store is nothing for an iterator that keeps no tuple -/
theorem go_of {M : Model} {A : Around} {E : Value → Shared → Prop} {s : Shared} {tg : Expr} {it : Addr} {u : Value} {o : Obj} {n : String} {vs : Array Value} {Q : Unit → Shared → Prop} (ho : s.heap.get? it = some o) (hc : o.cls = .type n) (hd : o.data = .fields vs)
    (hn : ["enumerate", "zip", "dict_itemiterator", "dict_reverseitemiterator", "odict_iterator", "itertools.zip_longest", "itertools.pairwise"].contains n = false) (hQ : Q () s) : wpAny M A (letOwnedTupleGo tg (.ref it) u) Q E s := by
  unfold letOwnedTupleGo
  cases tg <;> first
    | exact wpAny_pure hQ
    | (cases u <;> first
        | exact wpAny_pure hQ
        | (refine wpAny_bind (wpAny_load ho ?_)
           rw [hc, hd]
           show wpAny M A (if (["enumerate", "zip", "dict_itemiterator", "dict_reverseitemiterator", "odict_iterator", "itertools.zip_longest", "itertools.pairwise"].contains n && vs[0]? == some (rawInt _)) = true then _ else _) Q E s
           rw [if_neg (by intro h; rw [hn, Bool.false_and] at h; cases h)]
           exact wpAny_pure hQ))

/-- the list at a, as it stands at each turn (a loop may append to it) -/
def Itl (K : PySem.W.Frag) (a : Addr) : It :=
  ⟨fun i H => ∃ xs x, SqL K H a xs ∧ xs[i]? = some x, fun i H x H' => H' = H ∧ ∀ xs, SqL K H a xs → xs[i]? = some x, fun i H => ∃ xs, SqL K H a xs ∧ xs.length ≤ i⟩
/-- lo, lo + 1, .. (n of them) -/
def Itr (lo : Int) (n : Nat) : It := ⟨fun i _ => i < n, fun i H x H' => H' = H ∧ x = .int (lo + i), fun i _ => n ≤ i⟩
theorem turn_list {P : Program} {w : World} {K : PySem.W.Frag} {tg : Expr} (a it : Addr) : Turn P w K tg (Itl K a) [it] it (fun i h => h.IsListIter it a i) where
  mem := by simp
  obj := fun i h st b hb => by
    have e : b = it := by simpa using hb
    subst e
    obtain ⟨o, e, c, d⟩ := st
    exact ⟨o, e, fun v z => by rw [d] at z; cases z⟩
  keep := fun i h h' st k => st.at fun o e => k it (by simp) o e
  item := by
    intro X hP hw hK hc i pins s σ H E I hf st hg
    subst hP hw hK
    obtain ⟨xs, x, hq, hx⟩ := hg
    obtain ⟨its, rv, p, hz⟩ := I.list hq
    obtain ⟨u, hu, ru⟩ := rv.get hx
    obtain ⟨f0, f1, f2, f3, f4, f5⟩ := hf it (by simp)
    refine wpAny_pyNext_list_item st p.isList (x := u) (by simpa using hu) fun h' st' sb => ?_
    have I1 : Inv X pins σ H { s with heap := h' } := I.turned (t' := s.toks) (fun b o hb e => (sb.2 b hb).trans e) f0 f1 f3 f4 f5
    obtain ⟨o, e, c, d⟩ := id st'
    exact ⟨u, rfl, go_of (s := { s with heap := h' }) e c d (by decide) ⟨x, H, I1, ru, ⟨rfl, fun ys hy => by rw [I.list_inj hy hq]; exact hx⟩, st', fun b hb => (hf b hb).1⟩⟩
  done := by
    intro X hP hw hK hc i pins s σ H E I hf st hg
    subst hP hw hK
    obtain ⟨xs, hq, hx⟩ := hg
    obtain ⟨its, rv, p, hz⟩ := I.list hq
    obtain ⟨f0, f1, f2, f3, f4, f5⟩ := hf it (by simp)
    have hl := rv.length
    exact wpAny_pyNext_list_end (I.ok.hd hc) st p.isList (by simp; omega) fun h' eb => ⟨rfl, I.turned (t' := s.toks) (fun b o hb e => eb b o hb e) f0 f1 f3 f4 f5⟩
  self := fun _ _ _ _ _ st h => wpAny_pyIter_listiter st h
theorem turn_range {P : Program} {w : World} {K : PySem.W.Frag} {tg : Expr} (it : Addr) (lo : Int) (n : Nat) : Turn P w K tg (Itr lo n) [it] it (fun i h => IsRangeIter h it (lo + (i : Nat) * 1) ((n : Int) - (i : Nat)) 1) where
  mem := by simp
  obj := fun i h st b hb => by
    have e : b = it := by simpa using hb
    subst e
    exact ⟨_, st, fun v z => by
      have z' : Data.fields _ = Data.cell v := z
      cases z'⟩
  keep := fun i h h' st k => k it (by simp) _ st
  item := by
    intro X hP hw hK hc i pins s σ H E I hf st hg
    subst hP hw hK
    obtain ⟨f0, f1, f2, f3, f4, f5⟩ := hf it (by simp)
    have W := Walks.range (prog := X.prog) (w := X.w) (I.ok.hd hc) it lo 1 n
    refine W.item i s _ _ hg st fun v h' tk hv st' kk => ?_
    obtain ⟨t, rfl⟩ := hv
    have I1 : Inv X pins σ H { s with heap := h', toks := tk } := I.turned (fun b o hb e => kk b o (by simpa using hb) e) f0 f1 f3 f4 f5
    refine ⟨_, rfl, go_of (s := { s with heap := h', toks := tk }) (n := "range_iterator") st' rfl rfl (by decide) ⟨.int (lo + i), H, I1, ⟨t, ?_⟩, ⟨rfl, rfl⟩, st', fun b hb => (hf b hb).1⟩⟩
    rw [Int.mul_one]
  done := by
    intro X hP hw hK hc i pins s σ H E I hf st hg
    subst hP hw hK
    obtain ⟨f0, f1, f2, f3, f4, f5⟩ := hf it (by simp)
    exact wpAny_pyNext_range_end (I.ok.hd hc) st (by have : n ≤ i := hg; omega) fun h' eb => ⟨rfl, I.turned (t' := s.toks) (fun b o hb e => eb b o hb e) f0 f1 f3 f4 f5⟩
  self := fun _ _ _ _ _ st h => wpAny_pyIter_rangeiter st h
end L2

namespace L2
open PySem PySem.Spec PyProof.Rows
section
variable {X : Cx} {tg : Expr}
def iList (K : PySem.W.Frag) (tl : TE) : TI := fun σ H R => tl σ H fun x H1 => ∃ a, x = .ref a ∧ (∃ xs, SqL K H1 a xs) ∧ R (Itl K a) H1
theorem pi_list {l : Expr} {tl : TE} (hl : PE X l tl) : PI X tg l (iList X.K tl) := by
  intro pins s σ H R I h
  refine thn (hl pins s σ H _ I h) fun v s1 ⟨x, H1, I1, r1, q1⟩ => ?_
  obtain ⟨a, e, ⟨xs, hq⟩, q⟩ := q1
  subst e
  cases r1
  obtain ⟨its, rv, p, hz⟩ := I1.list hq
  refine wpAny_pyIter_list p.isList ?_
  refine ⟨s1.heap.objs.size, [s1.heap.objs.size], _, _, H1, rfl, I1.kept (t' := s1.toks) fun b o e => Heap.get?_push_of_some _ e, turn_list a _, ⟨_, Heap.get?_push_size _ rfl, rfl, rfl⟩, fun b hb => ?_, q⟩
  have e : b = s1.heap.objs.size := by simpa using hb
  subst e
  exact I1.fpOk (Nat.le_refl _) (I1.hok.fresh (Nat.le_refl _))
/-- a range object just made, walked -/
theorem range_it {pins : List (Addr × Obj)} {σ : St} {H : Hp} {s : Shared} {R : It → Hp → Prop} {E : Value → Shared → Prop} {lo hi : Int} {t u v : Tok} {tk : Nat} (I : Inv X pins σ H s) (h1 : -(2 ^ 62) ≤ lo) (h2 : lo < 2 ^ 62) (h3 : -(2 ^ 62) ≤ hi) (h4 : hi < 2 ^ 62)
    (q : R (Itr lo (hi - lo).toNat) H) : wpAny (model X.prog X.w) X.A (pyIter (.ref s.heap.objs.size)) (PIE X pins σ tg R) E { s with heap := s.heap.push { cls := .type "range", data := .fields #[.int lo t, .int hi u, .int 1 v] }, toks := tk } := by
  refine wpAny_pyIter_range (IsRange.new ..) (small_one h1 h2 h3 h4) ?_
  have I1 : Inv X pins σ H { s with heap := s.heap.push { cls := .type "range", data := .fields #[.int lo t, .int hi u, .int 1 v] }, toks := tk } := I.kept fun b o e => Heap.get?_push_of_some _ e
  refine ⟨(s.heap.push { cls := .type "range", data := .fields #[.int lo t, .int hi u, .int 1 v] }).objs.size, [(s.heap.push { cls := .type "range", data := .fields #[.int lo t, .int hi u, .int 1 v] }).objs.size], _, _, H, rfl,
    I1.kept (t' := tk) fun b o e => Heap.get?_push_of_some _ e, turn_range _ lo (hi - lo).toNat, ?_, fun b hb => ?_, q⟩
  · have e1 : lo + ((0 : Nat) : Int) * 1 = lo := by simp
    have e2 : (((hi - lo).toNat : Nat) : Int) - ((0 : Nat) : Int) = Builtin.Range.rangeSize lo hi 1 := by rw [rangeSize_one]; split <;> omega
    show IsRangeIter _ _ (lo + ((0 : Nat) : Int) * 1) ((((hi - lo).toNat : Nat) : Int) - ((0 : Nat) : Int)) 1
    rw [e1, e2]
    exact Heap.get?_push_size _ rfl
  · have e : b = (s.heap.push { cls := .type "range", data := .fields #[.int lo t, .int hi u, .int 1 v] }).objs.size := by simpa using hb
    subst e
    exact I1.fpOk (Nat.le_refl _) (I1.hok.fresh (Nat.le_refl _))
def iRng1 (ta : TA) : TI := fun σ H R => ta σ H fun vs H1 => ∃ j : Int, vs = [.int j] ∧ -(2 ^ 62) ≤ j ∧ j < 2 ^ 62 ∧ R (Itr 0 j.toNat) H1
def iRng2 (ta : TA) : TI := fun σ H R => ta σ H fun vs H1 => ∃ i j : Int, vs = [.int i, .int j] ∧ (-(2 ^ 62) ≤ i ∧ i < 2 ^ 62 ∧ -(2 ^ 62) ≤ j ∧ j < 2 ^ 62) ∧ R (Itr i (j - i).toNat) H1
theorem pi_range1 {a : Expr} {ta : TA} {p pos : Pos} (hg : Gl X "range") (hm : X.mg "range" = none) (ha : PA X [a] ta) (hs : starEach [a] X.env = [(false, eval a X.env)] := by rfl) : PI X tg (.Call (.Name "range" p) [a] [] pos) (iRng1 ta) := by
  intro pins s σ H R I h
  refine Call_ (ld_blt I hg hm boot_range (PyProof.Rows.callWith_type1 (thn (ha pos pins s σ H _ I h) fun us s1 ⟨vs, H1, I1, r1, q1⟩ => ?_) hs rfl))
  obtain ⟨j, e, q1, q2, q⟩ := q1
  subst e
  cases r1 with
  | cons r rr =>
    cases rr
    obtain ⟨t, rfl⟩ := r
    exact call_range_1 (range_it I1 (by omega) (by omega) q1 q2 (by simpa using q))
theorem pi_range2 {a b : Expr} {ta : TA} {p pos : Pos} (hg : Gl X "range") (hm : X.mg "range" = none) (ha : PA X [a, b] ta) (hs : starEach [a, b] X.env = [(false, eval a X.env), (false, eval b X.env)] := by rfl) (hs2 : starEach [b] X.env = [(false, eval b X.env)] := by rfl) :
    PI X tg (.Call (.Name "range" p) [a, b] [] pos) (iRng2 ta) := by
  intro pins s σ H R I h
  refine Call_ (ld_blt I hg hm boot_range (PyProof.Rows.callWith_type1 (thn (ha pos pins s σ H _ I h) fun us s1 ⟨vs, H1, I1, r1, q1⟩ => ?_) (by rw [hs, hs2]) (by rw [hs2]; rfl)))
  obtain ⟨i, j, e, ⟨q1, q2, q3, q4⟩, q⟩ := q1
  subst e
  cases r1 with
  | cons r rr =>
    cases rr with
    | cons r' rr =>
      cases rr
      obtain ⟨t, rfl⟩ := r
      obtain ⟨t', rfl⟩ := r'
      exact call_range_2 (range_it I1 q1 q2 q3 q4 q)

/-- W: the invariant by the turn and a measure; N: what the body is to reach -/
def tFor (wi : TI) (g : TG) (tb : TS) : TS := fun D σ H => wi σ H fun J H1 => ∃ W : Nat → Nat → St → Hp → Prop, (∃ m, W 0 m σ H1) ∧ ∀ i m σ H, W i m σ H →
  (J.stop i H ∧ D.nx σ H) ∨ (J.go i H ∧ ∃ N : St → Hp → Prop, (∀ σ' H', N σ' H' → ∃ m', m' < m ∧ W (i + 1) m' σ' H') ∧ ∀ x H', J.yld i H x H' → g x σ H' fun σ2 H2 => tb { D with nx := N, ct := N, bk := D.nx } σ2 H2)
/-- the records at fp as they stand -/
def pinsAt (fp : List Addr) (h : Heap) : List (Addr × Obj) := fp.filterMap fun b => (h.get? b).map fun o => (b, o)
theorem mem_pinsAt {fp : List Addr} {h : Heap} {b : Addr} {o : Obj} (hb : b ∈ fp) (e : h.get? b = some o) : (b, o) ∈ pinsAt fp h := List.mem_filterMap.mpr ⟨b, hb, by rw [e]; rfl⟩
theorem of_pinsAt {fp : List Addr} {h : Heap} {p : Addr × Obj} (hp : p ∈ pinsAt fp h) : p.1 ∈ fp ∧ h.get? p.1 = some p.2 := by
  obtain ⟨b, hb, e⟩ := List.mem_filterMap.mp hp
  cases q : h.get? b with
  | none => rw [q] at e; cases e
  | some o =>
    rw [q] at e
    have e' : (b, o) = p := Option.some.inj e
    subst e'
    exact ⟨hb, q⟩
theorem Inv.pinned {pins : List (Addr × Obj)} {σ : St} {H : Hp} {s : Shared} {fp : List Addr} (I : Inv X pins σ H s) (hf : ∀ b ∈ fp, FpOk X pins H b) (ho : ∀ b ∈ fp, ∃ o, s.heap.get? b = some o ∧ ∀ v, o.data ≠ .cell v) : Inv X (pins ++ pinsAt fp s.heap) σ H s :=
  I.pins_of fun p hp => (List.mem_append.mp hp).elim (fun z => I.pin p (List.mem_append_right _ z)) fun z => by
    obtain ⟨hb, e⟩ := of_pinsAt z
    obtain ⟨f0, f1, f2, _⟩ := hf p.1 hb
    obtain ⟨o, e', d⟩ := ho p.1 hb
    rw [e] at e'; cases e'
    exact ⟨e, f0, f1, f2, d⟩
theorem Inv.unpinned {pins pl : List (Addr × Obj)} {σ : St} {H : Hp} {s : Shared} (I : Inv X (pins ++ pl) σ H s) : Inv X pins σ H s := I.pins_of fun p hp => I.pin p (List.mem_append_right _ (List.mem_append_left _ hp))
theorem ps_for {iter : Expr} {body : List Stmt} {wi : TI} {g : TG} {tb : TS} {pos : Pos} (hp : PassesOwn (model X.prog X.w) X.A X.env X.xe) (hc : X.calm = true) (hi : PI X tg iter wi) (hg : PG X tg g) (hb : PSs X body tb)
    (hs : ∀ x, foldedSetIterable iter X.env x = pure x := by intro _; rfl) : PS X (.For tg iter body [] pos) (tFor wi g tb) := by
  intro pins s σ H D I h
  refine wpAny_For (thn (hi pins s σ H _ I h) fun v s1 h1 => thn h1 fun itv s2 h2 => ?_) hs
  obtain ⟨it, fp, tn, J, H2, e, I2, T, st2, f2, W, ⟨m0, w0⟩, turn⟩ := h2
  subst e
  -- what stays true of the iterator's objects through the loop
  have stat : ∀ {H' : Hp}, (∀ b ∈ fp, H' b = none) → ∀ b ∈ fp, FpOk X pins H' b := fun hn b hb => ⟨hn b hb, (f2 b hb).2⟩
  refine codeAny_forLoop_any (fun n s' => ∃ i σ' H', Inv X pins σ' H' s' ∧ tn i s'.heap ∧ (∀ b ∈ fp, H' b = none) ∧ W i n σ' H') ?_ m0 ⟨0, σ, H2, I2, st2, fun b hb => (f2 b hb).1, w0⟩
  rintro n s3 ⟨i, σ3, H3, I3, st3, fr3, w3⟩
  rcases turn i n σ3 H3 w3 with ⟨stop, qn⟩ | ⟨go, N, hN, step⟩
  · refine wpAny_passesOwn hp (thn (T.done X rfl rfl rfl hc i pins s3 σ3 H3 X.xe I3 (stat fr3) st3 stop) fun r s4 ⟨hr, I4⟩ => ?_)
    subst hr
    exact wpAny_execs_nil ⟨σ3, H3, I4, qn⟩
  · refine wpAny_passesOwn hp (thn (T.item X rfl rfl rfl hc i pins s3 σ3 H3 X.xe I3 (stat fr3) st3 go) fun r s4 ⟨u, hr, h4⟩ => ?_)
    subst hr
    refine wpAny_passesOwn hp (thn h4 fun _ s5 ⟨x, H5, I5, r5, y5, st5, fr5⟩ => ?_)
    have I5' := I5.pinned (stat fr5) (T.obj _ _ st5)
    refine wpAny_passesOwn hp (thn (hg _ s5 σ3 H5 x u _ I5' r5 (step x H5 y5)) fun _ s6 ⟨σ6, H6, I6, q6⟩ => ?_)
    refine wpAny_passesOwn hp (thn (hb _ s6 σ6 H6 _ I6 q6) fun f s7 q7 => ?_)
    have again : ∀ {σ7 : St} {H7 : Hp}, Inv X (pins ++ pinsAt fp s5.heap) σ7 H7 s7 → N σ7 H7 → ∃ m, m < n ∧ ∃ i σ' H', Inv X pins σ' H' s7 ∧ tn i s7.heap ∧ (∀ b ∈ fp, H' b = none) ∧ W i m σ' H' := fun {σ7 H7} I7 n7 => by
      obtain ⟨m', hm, w7⟩ := hN σ7 H7 n7
      refine ⟨m', hm, i + 1, σ7, H7, I7.unpinned, T.keep _ _ _ st5 fun b hb o e => (I7.pin (b, o) (List.mem_append_right _ (List.mem_append_right _ (mem_pinsAt hb e)))).1, fun b hb => ?_, w7⟩
      obtain ⟨o, e, d⟩ := T.obj _ _ st5 b hb
      exact (I7.pin (b, o) (List.mem_append_right _ (List.mem_append_right _ (mem_pinsAt hb e)))).2.1
    cases f with
    | next => obtain ⟨σ7, H7, I7, n7⟩ := q7; exact again I7 n7
    | cont => obtain ⟨σ7, H7, I7, n7⟩ := q7; exact again I7 n7
    | brk => obtain ⟨σ7, H7, I7, q7⟩ := q7; exact ⟨σ7, H7, I7.unpinned, q7⟩
    | ret v => obtain ⟨x7, σ7, H7, I7, r7, q7⟩ := q7; exact ⟨x7, σ7, H7, I7.unpinned, r7, q7⟩
end

/-- over a list that the body leaves as it is -/
theorem for_list {K : PySem.W.Frag} {a : Addr} {xs : List V} {g : TG} {tb : TS} {D : Ends} {σ : St} {H : Hp} (Pv : Nat → St → Hp → Prop) (h0 : Pv 0 σ H) (hl : ∀ i σ H, i ≤ xs.length → Pv i σ H → SqL K H a xs)
    (hs : ∀ i x σ H, xs[i]? = some x → Pv i σ H → g x σ H fun σ2 H2 => tb { D with nx := Pv (i + 1), ct := Pv (i + 1), bk := D.nx } σ2 H2) (hd : ∀ σ H, Pv xs.length σ H → D.nx σ H) :
    ∃ W : Nat → Nat → St → Hp → Prop, (∃ m, W 0 m σ H) ∧ ∀ i m σ H, W i m σ H →
      ((Itl K a).stop i H ∧ D.nx σ H) ∨ ((Itl K a).go i H ∧ ∃ N : St → Hp → Prop, (∀ σ' H', N σ' H' → ∃ m', m' < m ∧ W (i + 1) m' σ' H') ∧ ∀ x H', (Itl K a).yld i H x H' → g x σ H' fun σ2 H2 => tb { D with nx := N, ct := N, bk := D.nx } σ2 H2) := by
  refine ⟨fun i m σ H => m = xs.length - i ∧ i ≤ xs.length ∧ Pv i σ H, ⟨xs.length, by simp, Nat.zero_le _, h0⟩, ?_⟩
  rintro i m σ H ⟨rfl, hi, p⟩
  have q := hl i σ H hi p
  by_cases hlt : i < xs.length
  · refine .inr ⟨⟨xs, xs[i], q, by simp [hlt]⟩, Pv (i + 1), fun σ' H' p' => ⟨xs.length - (i + 1), by omega, rfl, hlt, p'⟩, fun x H' y => ?_⟩
    obtain ⟨e, y⟩ := y
    subst e
    exact hs i x σ _ (y xs q) p
  · have e : i = xs.length := by omega
    subst e
    exact .inl ⟨⟨xs, q, Nat.le_refl _⟩, hd σ H p⟩
theorem for_range {lo : Int} {n : Nat} {g : TG} {tb : TS} {D : Ends} {σ : St} {H : Hp} (Pv : Nat → St → Hp → Prop) (h0 : Pv 0 σ H)
    (hs : ∀ i σ H, i < n → Pv i σ H → g (.int (lo + i)) σ H fun σ2 H2 => tb { D with nx := Pv (i + 1), ct := Pv (i + 1), bk := D.nx } σ2 H2) (hd : ∀ σ H, Pv n σ H → D.nx σ H) :
    ∃ W : Nat → Nat → St → Hp → Prop, (∃ m, W 0 m σ H) ∧ ∀ i m σ H, W i m σ H →
      ((Itr lo n).stop i H ∧ D.nx σ H) ∨ ((Itr lo n).go i H ∧ ∃ N : St → Hp → Prop, (∀ σ' H', N σ' H' → ∃ m', m' < m ∧ W (i + 1) m' σ' H') ∧ ∀ x H', (Itr lo n).yld i H x H' → g x σ H' fun σ2 H2 => tb { D with nx := N, ct := N, bk := D.nx } σ2 H2) := by
  refine ⟨fun i m σ H => m = n - i ∧ i ≤ n ∧ Pv i σ H, ⟨n, by simp, Nat.zero_le _, h0⟩, ?_⟩
  rintro i m σ H ⟨rfl, hi, p⟩
  by_cases hlt : i < n
  · refine .inr ⟨hlt, Pv (i + 1), fun σ' H' p' => ⟨n - (i + 1), by omega, rfl, hlt, p'⟩, fun x H' y => ?_⟩
    obtain ⟨e, y⟩ := y
    subst e y
    exact hs i σ _ hlt p
  · have e : i = n := by omega
    subst e
    exact .inl ⟨Nat.le_refl _, hd σ H p⟩
end L2

namespace L2
open PySem PySem.Spec PyProof.Rows

abbrev R2 := V → V → Hp → VK → Prop
/-- a two-place operation on values: f is binaryOp op, inplaceOp op or compareOp op -/
def OpR (X : Cx) (f : Value → Value → Sem Value) (r : R2) : Prop :=
  ∀ (pins : List (Addr × Obj)) (s : Shared) (σ : St) (H : Hp) (x y : V) (v u : Value) (Q : VK), Inv X pins σ H s → RelV x v → RelV y u → r x y H Q →
    wpAny (model X.prog X.w) X.A (f v u) (EP X pins σ Q) X.xe s
/-- a one-place operation -/
def UnR (X : Cx) (f : Value → Sem Value) (r : V → Hp → VK → Prop) : Prop :=
  ∀ (pins : List (Addr × Obj)) (s : Shared) (σ : St) (H : Hp) (x : V) (v : Value) (Q : VK), Inv X pins σ H s → RelV x v → r x H Q →
    wpAny (model X.prog X.w) X.A (f v) (EP X pins σ Q) X.xe s
/-- a call of a value that is known (a builtin, a type) with values -/
def CallR (X : Cx) (f : Value) (r : List V → Hp → VK → Prop) : Prop :=
  ∀ (pins : List (Addr × Obj)) (s : Shared) (σ : St) (H : Hp) (xs : List V) (us : List Value) (Q : VK), Inv X pins σ H s → Vals xs us → r xs H Q →
    wpAny (model X.prog X.w) X.A (call f us) (EP X pins σ Q) X.xe s
def tOp (r : R2) (ta tb : TE) : TE := fun σ H Q => ta σ H fun x H1 => tb σ H1 fun y H2 => r x y H2 Q
def tUn (r : V → Hp → VK → Prop) (ta : TE) : TE := fun σ H Q => ta σ H fun x H1 => r x H1 Q
/-- ints in, under C, and a value out -/
def rI (C : Int → Int → Prop) (g : Int → Int → V) : R2 := fun x y H Q => ∃ i j, x = .int i ∧ y = .int j ∧ C i j ∧ Q (g i j) H
def rI0 (g : Int → Int → V) : R2 := fun x y H Q => ∃ i j, x = .int i ∧ y = .int j ∧ Q (g i j) H
def rU (g : Int → V) : V → Hp → VK → Prop := fun x H Q => ∃ i, x = .int i ∧ Q (g i) H

section
variable {X : Cx} {a b c : Expr} {ta tb tc : TE} {pos : Pos}

theorem binT (ha : PE X a ta) (hb : PE X b tb) {pins : List (Addr × Obj)} {s : Shared} {σ : St} {H : Hp} {R : V → V → Hp → Prop} (I : Inv X pins σ H s)
    (h : ta σ H fun x H1 => tb σ H1 fun y H2 => R x y H2) {Q : Value → Shared → Prop} {f : Value → Value → Sem Value}
    (hf : ∀ v u s2 x y H2, Inv X pins σ H2 s2 → RelV x v → RelV y u → R x y H2 → wpAny (model X.prog X.w) X.A (f v u) Q X.xe s2) :
    wpAny (model X.prog X.w) X.A (eval a X.env) (fun v s₁ => wpAny (model X.prog X.w) X.A (eval b X.env) (fun u s₂ => wpAny (model X.prog X.w) X.A (f v u) Q X.xe s₂) X.xe s₁) X.xe s := by
  refine thn (ha pins s σ H _ I h) fun v s1 ⟨x, H1, I1, r1, q1⟩ => ?_
  refine thn (hb pins s1 σ H1 _ I1 q1) fun u s2 ⟨y, H2, I2, r2, q2⟩ => ?_
  exact hf v u s2 x y H2 I2 r1 r2 q2

theorem pe_op {op : Operator} {r : R2} (ho : OpR X (binaryOp op) r) (ha : PE X a ta) (hb : PE X b tb) : PE X (.BinOp a op b pos) (tOp r ta tb) := by
  intro pins s σ H Q I h
  exact wpAny_BinOp (binT ha hb I h fun v u s2 x y H2 I2 rx ry q => ho pins s2 σ H2 x y v u Q I2 rx ry q)
theorem pe_un {op : UnaryOp} {r : V → Hp → VK → Prop} (ho : UnR X (unaryOp op) r) (ha : PE X a ta) : PE X (.UnaryOp op a pos) (tUn r ta) := by
  intro pins s σ H Q I h
  exact UnaryOp_ (thn (ha pins s σ H _ I h) fun v s1 ⟨x, H1, I1, r1, q1⟩ => ho pins s1 σ H1 x v Q I1 r1 q1)
theorem opI {f : Value → Value → Sem Value} {C : Int → Int → Prop} {g : Int → Int → Int}
    (rule : ∀ (i j : Int) (t u : Tok) (s : Shared) (Q : Value → Shared → Prop) (E : Value → Shared → Prop), C i j → Q (.int (g i j) s.toks) { s with toks := s.toks + 1 } → wpAny (model X.prog X.w) X.A (f (.int i t) (.int j u)) Q E s) :
    OpR X f (rI C fun i j => .int (g i j)) := by
  intro pins s σ H x y v u Q I rx ry h
  obtain ⟨i, j, rfl, rfl, hc, q⟩ := h
  obtain ⟨t, rfl⟩ := rx
  obtain ⟨t', rfl⟩ := ry
  exact rule i j t t' s _ _ hc ⟨.int (g i j), H, I.tok _, ⟨_, rfl⟩, q⟩
theorem opI0 {f : Value → Value → Sem Value} {g : Int → Int → Int}
    (rule : ∀ (i j : Int) (t u : Tok) (s : Shared) (Q : Value → Shared → Prop) (E : Value → Shared → Prop), Q (.int (g i j) s.toks) { s with toks := s.toks + 1 } → wpAny (model X.prog X.w) X.A (f (.int i t) (.int j u)) Q E s) :
    OpR X f (rI0 fun i j => .int (g i j)) := by
  intro pins s σ H x y v u Q I rx ry h
  obtain ⟨i, j, rfl, rfl, q⟩ := h
  obtain ⟨t, rfl⟩ := rx
  obtain ⟨t', rfl⟩ := ry
  exact rule i j t t' s _ _ ⟨.int (g i j), H, I.tok _, ⟨_, rfl⟩, q⟩
theorem opB0 {f : Value → Value → Sem Value} {g : Int → Int → Bool}
    (rule : ∀ (i j : Int) (t u : Tok) (s : Shared) (Q : Value → Shared → Prop) (E : Value → Shared → Prop), Q (.bool (g i j)) s → wpAny (model X.prog X.w) X.A (f (.int i t) (.int j u)) Q E s) :
    OpR X f (rI0 fun i j => .bl (g i j)) := by
  intro pins s σ H x y v u Q I rx ry h
  obtain ⟨i, j, rfl, rfl, q⟩ := h
  obtain ⟨t, rfl⟩ := rx
  obtain ⟨t', rfl⟩ := ry
  exact rule i j t t' s _ _ ⟨.bl (g i j), H, I, rfl, q⟩

def CDiv (i j : Int) : Prop := 0 < j ∧ j < 1073741824
def CMul (i j : Int) : Prop := (-(2 ^ 64) < i ∧ i < 2 ^ 64) ∨ (-(2 ^ 64) < j ∧ j < 2 ^ 64)
theorem CMul.ok {i j : Int} (h : CMul i j) : IntMulOk i j := by
  rcases h with ⟨h1, h2⟩ | ⟨h1, h2⟩
  · exact .of_left (intBits_le_64 h1 h2)
  · exact .of_right (intBits_le_64 h1 h2)
theorem op_add : OpR X (binaryOp .Add) (rI0 fun i j => .int (i + j)) := opI0 fun _ _ _ _ _ _ _ q => add_int q
theorem op_sub : OpR X (binaryOp .Sub) (rI0 fun i j => .int (i - j)) := opI0 fun _ _ _ _ _ _ _ q => sub_int q
theorem op_mul : OpR X (binaryOp .Mult) (rI CMul fun i j => .int (i * j)) := opI fun _ _ _ _ _ _ _ hc q => mul_int q hc.ok
/-- // by a positive divisor -/
theorem op_fdiv : OpR X (binaryOp .FloorDiv) (rI CDiv fun i j => .int (i / j)) := opI fun i j _ _ _ _ _ hc q => by
  have h1 : (0 : Int) < j := hc.1
  have h2 : j < 1073741824 := hc.2
  exact floordiv_int (by omega) (by rw [Int.fdiv_eq_ediv_of_nonneg i (by omega)]; exact q) (.inl (PyProof.noPylong_small (by omega)))
/-- % by a positive divisor of any size -/
theorem op_mod : OpR X (binaryOp .Mod) (rI (fun _ j => 0 < j) fun i j => .int (i % j)) := opI fun i j _ _ _ _ _ hc q => by
  have h1 : (0 : Int) < j := hc
  exact mod_int' (by omega) (by rw [Int.fmod_eq_emod_of_nonneg i (by omega)]; exact q)
theorem unI {f : Value → Sem Value} {g : Int → Int}
    (rule : ∀ (i : Int) (t : Tok) (s : Shared) (Q : Value → Shared → Prop) (E : Value → Shared → Prop), Q (.int (g i) s.toks) { s with toks := s.toks + 1 } → wpAny (model X.prog X.w) X.A (f (.int i t)) Q E s) :
    UnR X f (rU fun i => .int (g i)) := by
  intro pins s σ H x v Q I rx h
  obtain ⟨i, rfl, q⟩ := h
  obtain ⟨t, rfl⟩ := rx
  exact rule i t s _ _ ⟨.int (g i), H, I.tok _, ⟨_, rfl⟩, q⟩
theorem un_neg : UnR X (unaryOp .USub) (rU fun i => .int (-i)) := unI fun _ _ _ _ _ q => neg_int q
end

/-- the scalars that == tells apart as data does -/
def scal : V → V → Bool
  | .non, .non => true | .non, .int _ => true | .int _, .non => true | .non, .bl _ => true | .bl _, .non => true | .non, .str _ => true | .str _, .non => true
  | .int _, .int _ => true | .bl _, .bl _ => true | .str _, .str _ => true | .byt _, .byt _ => true
  | .int _, .str _ => true | .str _, .int _ => true | .bl _, .str _ => true | .str _, .bl _ => true
  | _, _ => false
def rEq : R2 := fun x y H Q => scal x y = true ∧ Q (.bl (decide (x = y))) H
def rNe : R2 := fun x y H Q => scal x y = true ∧ Q (.bl (!decide (x = y))) H

theorem dec_int {i j : Int} : decide (V.int i = V.int j) = (i == j) := by
  rw [Bool.eq_iff_iff]
  simp
theorem dec_bl {i j : Bool} : decide (V.bl i = V.bl j) = (i == j) := by
  rw [Bool.eq_iff_iff]
  simp
theorem dec_str {i j : Str} : decide (V.str i = V.str j) = (i == j) := by
  rw [Bool.eq_iff_iff]
  simp
theorem dec_byt {i j : Array UInt8} : decide (V.byt i = V.byt j) = (i.toList == j.toList) := by
  rw [Bool.eq_iff_iff]
  cases i
  cases j
  simp

section
variable {X : Cx} {a b c : Expr} {ta tb tc : TE} {pos : Pos}
theorem fin_bl {pins : List (Addr × Obj)} {σ : St} {H : Hp} {s : Shared} {Q : VK} {k k' : Bool} (I : Inv X pins σ H s) (q : Q (.bl k) H) (e : k = k') : EP X pins σ Q (.bool k') s := by
  subst e
  exact ⟨.bl k, H, I, rfl, q⟩
theorem op_eq : OpR X (compareOp .Eq) rEq := by
  intro pins s σ H x y v u Q I rx ry h
  obtain ⟨hs, q⟩ := h
  cases x with
  | non =>
    cases rx
    cases y with
    | non => cases ry; exact PySem.EqNone.eq_none_none (fin_bl I q (by simp))
    | bl j => cases ry; exact PySem.EqNone.eq_none_bool (fin_bl I q (by simp))
    | int j => obtain ⟨t', rfl⟩ := ry; exact PySem.EqNone.eq_none_int (fin_bl I q (by simp))
    | str j => obtain ⟨t', rfl⟩ := ry; exact PySem.EqNone.eq_none_str (fin_bl I q (by simp))
    | _ => exact absurd (show false = true from hs) Bool.false_ne_true
  | bl i =>
    cases rx
    cases y with
    | non => cases ry; exact PySem.EqNone.eq_bool_none (fin_bl I q (by simp))
    | bl j => cases ry; exact eq_bool (fin_bl I q dec_bl)
    | str j => obtain ⟨t', rfl⟩ := ry; exact PySem.EqMixed.eq_bool_str (fin_bl I q (by simp))
    | _ => exact absurd (show false = true from hs) Bool.false_ne_true
  | int i =>
    obtain ⟨t, rfl⟩ := rx
    cases y with
    | non => cases ry; exact PySem.EqNone.eq_int_none (fin_bl I q (by simp))
    | int j => obtain ⟨t', rfl⟩ := ry; exact eq_int (fin_bl I q dec_int)
    | str j => obtain ⟨t', rfl⟩ := ry; exact PySem.EqMixed.eq_int_str (fin_bl I q (by simp))
    | _ => exact absurd (show false = true from hs) Bool.false_ne_true
  | str i =>
    obtain ⟨t, rfl⟩ := rx
    cases y with
    | non => cases ry; exact PySem.EqNone.eq_str_none (fin_bl I q (by simp))
    | bl j => cases ry; exact PySem.EqMixed.eq_str_bool (fin_bl I q (by simp))
    | int j => obtain ⟨t', rfl⟩ := ry; exact PySem.EqMixed.eq_str_int (fin_bl I q (by simp))
    | str j => obtain ⟨t', rfl⟩ := ry; exact eq_str (fin_bl I q dec_str)
    | _ => exact absurd (show false = true from hs) Bool.false_ne_true
  | byt i =>
    obtain ⟨t, rfl⟩ := rx
    cases y with
    | byt j => obtain ⟨t', rfl⟩ := ry; exact PySem.W.eq_bytes (fin_bl I q dec_byt)
    | _ => exact absurd (show false = true from hs) Bool.false_ne_true
  | _ => cases y <;> exact absurd (show false = true from hs) Bool.false_ne_true
theorem op_lt : OpR X (compareOp .Lt) (rI0 fun i j => .bl (decide (i < j))) := opB0 fun _ _ _ _ _ _ _ q => lt_int q
theorem op_le : OpR X (compareOp .LtE) (rI0 fun i j => .bl (decide (i ≤ j))) := opB0 fun _ _ _ _ _ _ _ q => le_int q
theorem op_gt : OpR X (compareOp .Gt) (rI0 fun i j => .bl (decide (j < i))) := opB0 fun _ _ _ _ _ _ _ q => gt_int q
theorem op_ge : OpR X (compareOp .GtE) (rI0 fun i j => .bl (decide (j ≤ i))) := opB0 fun _ _ _ _ _ _ _ q => ge_int q
theorem nomark (b : Expr) {op : CmpOp} (h : op ≠ .In := by decide) (h2 : op ≠ .NotIn := by decide) : behindInMarks op b = false := by
  have e1 : (op == CmpOp.In) = false := by cases op <;> first | rfl | exact absurd rfl h
  have e2 : (op == CmpOp.NotIn) = false := by cases op <;> first | rfl | exact absurd rfl h2
  cases b <;> simp [behindInMarks, e1, e2]
/-- a comparison as a value; hm: nomark b, or (for in, not in) by with_unfolding_all rfl -/
theorem pe_cmpR {op : CmpOp} {r : R2} (ho : OpR X (compareOp op) r) (ha : PE X a ta) (hb : PE X b tb) (hm : behindInMarks op b = false) : PE X (.Compare a [op] [b] pos) (tOp r ta tb) := by
  intro pins s σ H Q I h
  exact wpAny_Compare1 (binT ha hb I h fun v u s2 x y H2 I2 rx ry q => ho pins s2 σ H2 x y v u Q I2 rx ry q) hm
/-- a reading of a value as a test -/
def tTest (t : TE) : TT := fun σ H Q => t σ H fun x H' => ∃ k, x = .bl k ∧ Q k H'
theorem pt_cmpR {op : CmpOp} {r : R2} (ho : OpR X (compareOp op) r) (ha : PE X a ta) (hb : PE X b tb) (hm : behindInMarks op b = false) : PT X (.Compare a [op] [b] pos) (tTest (tOp r ta tb)) := by
  intro pins s σ H Q I h
  refine wpAny_isTrue_Compare1 (thn (ha pins s σ H _ I h) fun v s1 ⟨x, H1, I1, r1, q1⟩ => thn (hb pins s1 σ H1 _ I1 q1) fun u s2 ⟨y, H2, I2, r2, q2⟩ =>
    thn (ho pins s2 σ H2 x y v u _ I2 r1 r2 q2) fun c s3 ⟨z, H3, I3, r3, k, e, q3⟩ => ?_) hm
  subst e
  cases r3
  exact wpAny_truthy_bool ⟨H3, I3, q3⟩
/-- a op1 b op2 c -/
def tChain (r r' : R2) (ta tb tc : TE) : TE := fun σ H Q => ta σ H fun x H1 => tb σ H1 fun y H2 => r x y H2 fun z H3 => ∃ k, z = .bl k ∧
  (if k = true then tc σ H3 fun w' H4 => r' y w' H4 Q else Q (.bl false) H3)
theorem pe_chain {op op' : CmpOp} {r r' : R2} (ho : OpR X (compareOp op) r) (ho' : OpR X (compareOp op') r') (ha : PE X a ta) (hb : PE X b tb) (hc : PE X c tc)
    (hm : lastMarks [op, op'] [b, c] = false := by with_unfolding_all rfl) : PE X (.Compare a [op, op'] [b, c] pos) (tChain r r' ta tb tc) := by
  intro pins s σ H Q I h
  refine Compare_chain (thn (ha pins s σ H _ I h) fun v s1 ⟨x, H1, I1, r1, q1⟩ => chain_link (thn (hb pins s1 σ H1 _ I1 q1) fun u s2 ⟨y, H2, I2, r2, q2⟩ =>
    thn (ho pins s2 σ H2 x y v u _ I2 r1 r2 q2) fun d s3 ⟨z, H3, I3, r3, k, e, q3⟩ => ?_)) hm
  subst e
  cases r3
  refine wpAny_truthy_bool ?_
  cases k with
  | false => exact ite_ff ⟨.bl false, H3, I3, rfl, q3⟩
  | true => exact ite_tt (chain_last (thn (hc pins s3 σ H3 _ I3 q3) fun w' s4 ⟨z', H4, I4, r4, q4⟩ => ho' pins s4 σ H4 y z' u w' Q I4 r2 r4 q4))
theorem pt_chain {op op' : CmpOp} {r r' : R2} (ho : OpR X (compareOp op) r) (ho' : OpR X (compareOp op') r') (ha : PE X a ta) (hb : PE X b tb) (hc : PE X c tc)
    (hm : lastMarks [op, op'] [b, c] = false := by with_unfolding_all rfl) : PT X (.Compare a [op, op'] [b, c] pos) (tTest (tChain r r' ta tb tc)) := by
  intro pins s σ H Q I h
  refine isTrue_chain (thn (ha pins s σ H _ I h) fun v s1 ⟨x, H1, I1, r1, q1⟩ => test_link (thn (hb pins s1 σ H1 _ I1 q1) fun u s2 ⟨y, H2, I2, r2, q2⟩ =>
    thn (ho pins s2 σ H2 x y v u _ I2 r1 r2 q2) fun d s3 ⟨z, H3, I3, r3, k, e, q3⟩ => ?_)) hm
  subst e
  cases r3
  refine wpAny_truthy_bool ?_
  cases k with
  | false =>
    obtain ⟨k', e', q'⟩ := q3
    cases e'
    exact ite_ff ⟨H3, I3, q'⟩
  | true =>
    refine ite_tt (test_last (thn (hc pins s3 σ H3 _ I3 q3) fun w' s4 ⟨z', H4, I4, r4, q4⟩ => thn (ho' pins s4 σ H4 y z' u w' _ I4 r2 r4 q4) fun d' s5 ⟨z2, H5, I5, r5, k2, e2, q5⟩ => ?_))
    subst e2
    cases r5
    exact wpAny_truthy_bool ⟨H5, I5, q5⟩

theorem line63 : (sizeLine : Nat) < 2 ^ 63 := by rw [sizeLine_eq]; decide
theorem vals1 {x : V} {us : List Value} (r : Vals [x] us) : ∃ u, us = [u] ∧ RelV x u := by
  cases r with
  | cons r1 r2 => cases r2; exact ⟨_, rfl, r1⟩
end
end L2

namespace L2
open PySem PySem.Spec PyProof.Rows

structure ObjM (h : Heap) (x dx C : Addr) (mA : Str → Option Value) : Prop where
  obj : h.get? x = some (PySem.W.instObj C dx)
  ns : h.Ns1 dx mA
  ne : dx ≠ x

theorem lookIn_ns {h : Heap} {dx : Addr} {mA : Str → Option Value} (n : h.Ns1 dx mA) : ∃ od, h.get? dx = some od ∧ ∀ name, PySem.W.lookIn name od = some (mA name) := by
  obtain ⟨o, es, ep, ho, hd, hk, _, hm⟩ := n
  refine ⟨o, ho, fun name => ?_⟩
  have e := hm name
  unfold nsFind findBy at e
  rw [← Array.find?_toList] at e
  unfold PySem.W.lookIn
  rw [hd]
  dsimp only
  split
  · rename_i y q
    rw [q] at e
    exact congrArg some e
  · rename_i q
    rw [q] at e
    have a : es.toList.any (·.refKey) = false := by
      rw [List.any_eq_false]
      intro y hy
      obtain ⟨z, t, hkey⟩ := hk y (Array.mem_toList_iff.mp hy)
      simp [DictEntry.refKey, hkey]
    have a' : ¬ es.toList.any (·.refKey) = true := by rw [a]; exact Bool.false_ne_true
    rw [if_neg a']
    exact congrArg some e

theorem ObjM.look {h : Heap} {x dx C : Addr} {mA : Str → Option Value} (I : ObjM h x dx C mA) : ∃ od, PySem.W.InstAt h x (PySem.W.instObj C dx) C (some od) ∧ ∀ name, PySem.W.lookIn name od = some (mA name) :=
  let ⟨od, ho, hl⟩ := lookIn_ns I.ns
  ⟨od, ⟨I.obj, rfl, rfl, ho⟩, hl⟩

section
variable {prog : Program} {w : World} {A : Around} {E : Value → Shared → Prop} {s : Shared} {K : PySem.W.Frag} {x dx C f : Addr} {mA : Str → Option Value} {name : Str} {v : Value}

theorem get_map {expr : Bool} {Q : Value → Shared → Prop} (X : K.In s.heap) (I : ObjM s.heap x dx C mA) (hg : PySem.W.plainGet K C name = true) (hh : PySem.W.hasDictIn K C = true)
    (ha : PySem.W.findIn K (.ref C) name = some none) (hv : mA name = some v) (hv' : PySem.W.handedIn v = true) (h : Q v { s with toks := s.toks + 1 }) :
    wpAny (model prog w) A (getAttr (.ref x) name expr) Q E s := by
  obtain ⟨od, J, hl⟩ := I.look
  exact PySem.W.get_value X J (PySem.W.plainGet_of hg).1 (PySem.W.findObj_own hh ha rfl (by rw [hl, hv])) hv' h

theorem set_map {ns : List Str} {Q : Unit → Shared → Prop} (X : K.In s.heap) (I : ObjM s.heap x dx C mA)
    (hs : PySem.W.findIn K (.ref C) "__setattr__" = some (some (.builtin "object.__setattr__"))) (hp : PySem.W.plainOver K C = true) (ht : PySem.W.takerIn K C name = some none) (hh : PySem.W.hasDictIn K C = true)
    (hw : PySem.Within mA ns) (hsz : ns.length ≤ sizeLine)
    (h : ∀ h', ObjM h' x dx C (fun y => if y = name then some v else mA y) → Heap.SameBut dx s.heap h' → Q () { s with heap := h', toks := s.toks + 2 }) :
    wpAny (model prog w) A (setAttr (.ref x) name v) Q E s := by
  obtain ⟨od, J, hl⟩ := I.look
  refine PySem.W.set_plain X J hs (PySem.W.osa_open (s := { s with toks := s.toks + 1 }) (r := none) X J hp ht fun b => ?_)
  obtain ⟨cd, hc, hd'⟩ := PySem.W.any_some hh
  have hx : s.heap.get? x = some ⟨.ref C, some dx, .plain, #[]⟩ := I.obj
  refine wpAny_bind (wpAny_pure (wpAny_bind (wpAny_bind (wpAny_loadPart hx (wpAny_bind (PySem.W.Looks.here (s := { s with toks := s.toks + 1 }) (PySem.W.looks_clsIn X hc) ?_))))))
  rw [hd']
  refine wpAny_pure (a := some dx) (wpAny_bind (wpAny_pure (wpAny_bind ?_)))
  refine wpAny_nsSet1 (s := { s with toks := s.toks + 1 }) I.ns fun h' hn2 hs2 => ?_
  obtain ⟨oD, esD, epD, hoD, hdD, hcD⟩ := hn2.count (PySem.Within.cons name v hw)
  refine wpAny_bind (wpAny_lookBehind hoD (by rw [hdD]; exact pastItsLine_dict (Nat.le_trans hcD (by rw [List.length_cons]; omega))) ?_)
  exact wpAny_pure (h _ ⟨(hs2.2 _ (Ne.symm I.ne)).trans I.obj, hn2, I.ne⟩ hs2)

/-- C(..): the dict at the heap's end, the instance behind it; then its __init__ -/
theorem make_map {R : Result → Shared → Prop} {vs : List Value} {kw : List (Str × Value)} (X : K.In s.heap) (hm : PySem.W.makesIn K C = true)
    (hi : PySem.W.findIn K (.ref C) "__init__" = some (some (.ref f))) (hf : PySem.W.typeIn K (.ref f) = some (.type "function"))
    (h : codeAny (model prog w) (A.under (.builtin "type.__call__" ⟨.ref C :: vs, kw⟩)) (.call (.ref f) ⟨.ref (s.heap.objs.size + 1) :: vs, kw⟩) (PySem.W.InitBack (s.heap.objs.size + 1) R)
      { s with heap := (s.heap.push PySem.W.emptyDict).push (PySem.W.instObj C s.heap.objs.size) }) :
    codeAny (model prog w) A (.call (.ref C) ⟨vs, kw⟩) R s := by
  obtain ⟨hh, g, d, t, os⟩ := s
  exact PySem.W.make_core (PySem.W.makes_of X hm) (PySem.W.looks_findIn X hi) (fun self => PySem.W.bind_fn X self hf) (.inl rfl) h
end

def putF (f : Str) (v : V) : List (Str × V) → List (Str × V)
  | [] => [(f, v)]
  | (g, x) :: r => if g = f then (g, v) :: r else (g, x) :: putF f v r
theorem lookup_putF (f g : Str) (v : V) : ∀ fs : List (Str × V), (putF f v fs).lookup g = if g = f then some v else fs.lookup g
  | [] => by
    show List.lookup g [(f, v)] = _
    by_cases h : g = f
    · have hb : (g == f) = true := beq_iff_eq.mpr h
      simp only [List.lookup, hb, if_pos h]
    · have hb : (g == f) = false := beq_eq_false_iff_ne.mpr h
      simp only [List.lookup, hb, if_neg h]
  | (k, x) :: r => by
    have ih := lookup_putF f g v r
    rw [show putF f v ((k, x) :: r) = (if k = f then (k, v) :: r else (k, x) :: putF f v r) from rfl]
    by_cases hk : k = f
    · rw [if_pos hk]
      by_cases h : g = k
      · have hb : (g == k) = true := beq_iff_eq.mpr h
        simp only [List.lookup, hb, if_pos (h.trans hk)]
      · have hb : (g == k) = false := beq_eq_false_iff_ne.mpr h
        simp only [List.lookup, hb, if_neg (fun e : g = f => h (e.trans hk.symm))]
    · rw [if_neg hk]
      by_cases h : g = k
      · have hb : (g == k) = true := beq_iff_eq.mpr h
        simp only [List.lookup, hb, if_neg (fun e : g = f => hk (h.symm.trans e))]
      · have hb : (g == k) = false := beq_eq_false_iff_ne.mpr h
        simp only [List.lookup, hb]
        exact ih
theorem keys_putF (f : Str) (v : V) : ∀ fs : List (Str × V), f ∈ (putF f v fs).map (·.1) ∧ ∀ g, g ∈ fs.map (·.1) → g ∈ (putF f v fs).map (·.1)
  | [] => ⟨by simp [putF], fun g h => by simp at h⟩
  | (k, x) :: r => by
    obtain ⟨i1, i2⟩ := keys_putF f v r
    rw [show putF f v ((k, x) :: r) = (if k = f then (k, v) :: r else (k, x) :: putF f v r) from rfl]
    by_cases hk : k = f
    · rw [if_pos hk]
      subst hk
      exact ⟨by simp, fun g h => by simpa using h⟩
    · rw [if_neg hk]
      refine ⟨?_, fun g h => ?_⟩
      · rw [List.map_cons]
        exact List.mem_cons_of_mem _ i1
      · rw [List.map_cons] at h ⊢
        rcases List.mem_cons.mp h with e | e
        · exact List.mem_cons.mpr (.inl e)
        · exact List.mem_cons_of_mem _ (i2 g e)
theorem length_putF (f : Str) (v : V) : ∀ fs : List (Str × V), (putF f v fs).length ≤ fs.length + 1
  | [] => by simp [putF]
  | (k, x) :: r => by
    have ih := length_putF f v r
    rw [show putF f v ((k, x) :: r) = (if k = f then (k, v) :: r else (k, x) :: putF f v r) from rfl]
    by_cases hk : k = f
    · rw [if_pos hk, List.length_cons, List.length_cons]; omega
    · rw [if_neg hk, List.length_cons, List.length_cons]; omega

theorem RelO.some_of {v : V} {o : Option Value} (r : RelO (some v) o) : ∃ u, o = some u ∧ RelV v u := by
  cases o with
  | none => exact (show False from r).elim
  | some u => exact ⟨u, rfl, r⟩
theorem handed_of {v : V} {u : Value} (r : RelV v u) : PySem.W.handedIn u = true := by
  cases v with
  | non => cases (show u = Value.none from r); rfl
  | bl b => cases (show u = Value.bool b from r); rfl
  | int i => obtain ⟨t, e⟩ := (show ∃ t, u = Value.int i t from r); cases e; rfl
  | str x => obtain ⟨t, e⟩ := (show ∃ t, u = Value.str x t from r); cases e; rfl
  | byt b => obtain ⟨t, e⟩ := (show ∃ t, u = Value.bytes b t from r); cases e; rfl
  | flt b => obtain ⟨t, e⟩ := (show ∃ t, u = Value.float b t from r); cases e; rfl
  | ref a => cases (show u = Value.ref a from r); rfl
  | ty n => cases (show u = Value.type n from r); rfl

section
variable {P : Program} {w : World} {H H' : Hp} {h h' : Heap} {a C dx : Addr} {fs fs' : List (Str × V)}
theorem ins_get (hok : HOk P w H h) (e : H a = some (.ins C dx fs)) : ∃ mA, ObjM h a dx C mA ∧ (∀ f, RelO (fs.lookup f) (mA f)) ∧ PySem.Within mA (fs.map (·.1)) ∧ fs.length ≤ 1000 ∧ H dx = some (.own a) := by
  obtain ⟨d, z, ne, ob, mA, n, r, q⟩ := (show ObjOk P w H h a (.ins C dx fs) from hok a _ e)
  exact ⟨mA, ⟨ob, n, ne⟩, r, q, z, d⟩
end

structure Cls (K : PySem.W.Frag) (C : Addr) : Prop where
  pg : PySem.W.plainGet K C Str.empty = true
  hd : PySem.W.hasDictIn K C = true
  po : PySem.W.plainOver K C = true
  sa : PySem.W.findIn K (.ref C) "__setattr__" = some (some (.builtin "object.__setattr__"))
theorem Cls.get {K : PySem.W.Frag} {C : Addr} (c : Cls K C) (f : Str) : PySem.W.plainGet K C f = true := c.pg
/-- no class of it has the name -/
def NoAttr (K : PySem.W.Frag) (C : Addr) (f : Str) : Prop := PySem.W.findIn K (.ref C) f = some none
theorem NoAttr.taker {K : PySem.W.Frag} {C : Addr} {f : Str} (n : NoAttr K C f) : PySem.W.takerIn K C f = some none := by
  unfold PySem.W.takerIn
  rw [show PySem.W.findIn K (.ref C) f = some none from n]
  rfl
/-- a constant of the class -/
structure Con (K : PySem.W.Frag) (C : Addr) (f : Str) (v : V) (u : Value) : Prop where
  at_ : PySem.W.findIn K (.ref C) f = some (some u)
  rel : RelV v u
  get : PySem.W.specialIn K u "__get__" = some none
  cp : PySem.W.copiedNames.contains f = false
/-- a method: a plain def of the class or of one above it -/
structure Meth (K : PySem.W.Frag) (C : Addr) (m : Str) (f : Addr) : Prop where
  at_ : PySem.W.findIn K (.ref C) m = some (some (.ref f))
  fn : PySem.W.isFn K (.ref f) = true
  kp : PySem.W.keepIn K (.ref f) = true

section
variable {X : Cx} {pins : List (Addr × Obj)} {σ : St} {H : Hp} {s : Shared} {a C dx : Addr} {fs : List (Str × V)} {f : Str} {v : V} {A : Around} {E : Value → Shared → Prop}

theorem getattr_ok {b : Bool} {Q : Value → Shared → Prop} (I : Inv X pins σ H s) (e : H a = some (.ins C dx fs)) (c : Cls X.K C) (n : NoAttr X.K C f) (l : fs.lookup f = some v)
    (h : ∀ u s', Inv X pins σ H s' → RelV v u → Q u s') : wpAny (model X.prog X.w) A (getAttr (.ref a) f b) Q E s := by
  obtain ⟨mA, O, r, _, _, _⟩ := ins_get I.hok e
  obtain ⟨u, hu, ru⟩ := RelO.some_of (v := v) (o := mA f) (by rw [← l]; exact r f)
  exact get_map I.kIn O (c.get f) c.hd n hu (handed_of ru) (h u _ (I.tok _) ru)

theorem setattr_ok {y : V} {u : Value} {Q : Unit → Shared → Prop} (I : Inv X pins σ H s) (e : H a = some (.ins C dx fs)) (c : Cls X.K C) (n : NoAttr X.K C f) (hl : fs.length < 1000) (ry : RelV y u)
    (h : ∀ s', Inv X pins σ (upd H a (.ins C dx (putF f y fs))) s' → Q () s') : wpAny (model X.prog X.w) A (setAttr (.ref a) f u) Q E s := by
  obtain ⟨mA, O, r, wi, _, ho⟩ := ins_get I.hok e
  have hz : (fs.map (·.1)).length ≤ sizeLine := by rw [List.length_map, sizeLine_eq]; omega
  refine set_map I.kIn O c.sa c.po n.taker c.hd wi hz fun h' O' sb => h _ ?_
  have hd : ∃ o, h'.get? dx = some o := let ⟨o, _, _, e', _⟩ := O'.ns; ⟨o, e'⟩
  refine I.write (x := a) (e := dx) (by rw [e]; exact True.intro) (.inr ho) (fun b q hb z => (sb.2 b hb).trans z) hd ?_
  refine ⟨by rw [upd_ne O.ne]; exact ho, ?_, O.ne, O'.obj, _, O'.ns, fun g => ?_, fun g hg => ?_⟩
  · have := length_putF f y fs; omega
  · show RelO ((putF f y fs).lookup g) (if g = f then some u else mA g)
    rw [lookup_putF]
    by_cases q : g = f
    · rw [if_pos q, if_pos q]; exact ry
    · rw [if_neg q, if_neg q]; exact r g
  · by_cases q : g = f
    · rw [q]; exact (keys_putF f y fs).1
    · refine (keys_putF f y fs).2 g (wi g fun z => hg ?_)
      show (if g = f then some u else mA g) = none
      rw [if_neg q]; exact z

/-- a new instance, tracked, without attributes -/
theorem Inv.made (I : Inv X pins σ H s) : Inv X pins σ (upd (upd H s.heap.objs.size (.own (s.heap.objs.size + 1))) (s.heap.objs.size + 1) (.ins C s.heap.objs.size []))
    { s with heap := (s.heap.push PySem.W.emptyDict).push (PySem.W.instObj C s.heap.objs.size) } := by
  have e1 : (s.heap.push PySem.W.emptyDict).get? s.heap.objs.size = some PySem.W.emptyDict := Heap.get?_push_size s.heap rfl
  have e2 : ((s.heap.push PySem.W.emptyDict).push (PySem.W.instObj C s.heap.objs.size)).get? (s.heap.objs.size + 1) = some (PySem.W.instObj C s.heap.objs.size) := by
    have := Heap.get?_push_size (s.heap.push PySem.W.emptyDict) (o := PySem.W.instObj C s.heap.objs.size) rfl
    rwa [Heap.size_push] at this
  have e3 : (s.heap.push PySem.W.emptyDict).Ns s.heap.objs.size (fun _ => none) := ⟨PySem.W.emptyDict, #[], _, e1, rfl, (fun e he => absurd he (by simp)), fun _ => rfl⟩
  have I1 := I.laid (a := s.heap.objs.size) (o := .own (s.heap.objs.size + 1)) (h' := s.heap.push PySem.W.emptyDict) (t' := s.toks) (fun b u q => Heap.get?_push_of_some _ q) (Nat.le_refl _) ⟨_, e1⟩
  refine I1.laid (a := s.heap.objs.size + 1) (o := .ins C s.heap.objs.size []) (t' := s.toks) (fun b u q => Heap.get?_push_of_some _ q) (Nat.le_of_eq (Heap.size_push _ _)) ?_
  have ne : s.heap.objs.size ≠ s.heap.objs.size + 1 := Nat.ne_of_lt (Nat.lt_succ_self _)
  refine ⟨by rw [upd_ne ne, upd_same], Nat.zero_le _, ne, e2, fun _ => none, (Heap.Ns1.of_empty e3).at fun o q => Heap.get?_push_of_some _ q, fun _ => True.intro, fun y hy => absurd rfl hy⟩

/-- e.f where nothing but the object is asked: through attributeBase (super) and the last hold -/
theorem attr_of {prog : Program} {w : World} {env : Env} {e : Expr} {f : Str} {pos : Pos} {s : Shared} {Q : Value → Shared → Prop} (hb : attributeBase e f env (eval e env) = eval e env)
    (h : wpAny (model prog w) A (eval e env) (fun o s₁ => wpAny (model prog w) A (getAttr o f true) Q E s₁) E s) : wpAny (model prog w) A (eval (.Attribute e f pos) env) Q E s :=
  Attribute_any_ h (by rw [arm_eval_Attribute, hb])
end

/-- e.f, an attribute of the instance -/
def tFld (K : PySem.W.Frag) (ta : TE) (f : Str) : TE := fun σ H Q => ta σ H fun x H1 => ∃ a C dx fs v, x = .ref a ∧ H1 a = some (.ins C dx fs) ∧ Cls K C ∧ NoAttr K C f ∧ fs.lookup f = some v ∧ Q v H1
/-- e.f = value -/
def sFld (K : PySem.W.Frag) (ta tv : TE) (f : Str) : TS := fun D σ H => tv σ H fun y H1 => ta σ H1 fun x H2 => ∃ a C dx fs, x = .ref a ∧ H2 a = some (.ins C dx fs) ∧ Cls K C ∧ NoAttr K C f ∧ fs.length < 1000 ∧
  D.nx σ (upd H2 a (.ins C dx (putF f y fs)))
section
variable {X : Cx} {o e value : Expr} {f : Str} {pos pos' tpos : Pos} {ta tv : TE}
theorem pe_fld (he : PE X e ta) (hb : attributeBase e f X.env (eval e X.env) = eval e X.env) : PE X (.Attribute e f pos) (tFld X.K ta f) := by
  intro pins s σ H Q I h
  refine attr_of hb (thn (he pins s σ H _ I h) fun u s1 ⟨x, H1, I1, rx, a, C, dx, fs, v, ex, ea, c, n, l, q⟩ => ?_)
  subst ex
  obtain rfl : u = Value.ref a := rx
  exact getattr_ok I1 ea c n l fun u' s2 I2 ru => ⟨v, H1, I2, ru, q⟩
theorem ps_fld (ha : PE X o ta) (hv : PE X value tv) (hs : swapsWith value (some (.Attribute o f pos')) pos.line X.env = pure false) : PS X (.Assign [.Attribute o f pos'] value pos) (sFld X.K ta tv f) := by
  intro pins s σ H D I h
  refine plainObj_wpAny_Assign_Attribute (thn (hv pins s σ H _ I h) fun u s1 ⟨y, H1, I1, ry, q⟩ => thn (ha pins s1 σ H1 _ I1 q) fun ov s2 ⟨x, H2, I2, rx, a, C, dx, fs, ex, ea, c, n, l, q2⟩ => ?_) hs
  subst ex
  obtain rfl : ov = Value.ref a := rx
  exact setattr_ok I2 ea c n l ry fun s3 I3 => ⟨σ, _, I3, q2⟩
end

section
variable {X : Cx} {pins : List (Addr × Obj)} {σ : St} {H : Hp} {s : Shared} {A : Around} {E : Value → Shared → Prop} {Q : Value → Shared → Prop} {c : Value} {b : Bool}
/-- the type of a value, as the fragment's deciders take it; for an instance its class -/
inductive TyOf (K : PySem.W.Frag) (H : Hp) : V → Value → Prop where
  | non : TyOf K H .non (.type "NoneType")
  | bl (x : Bool) : TyOf K H (.bl x) (.type "bool")
  | int (i : Int) : TyOf K H (.int i) (.type "int")
  | str (x : Str) : TyOf K H (.str x) (.type "str")
  | flt (x : UInt64) : TyOf K H (.flt x) (.type "float")
  | lst {a : Addr} {xs : List V} (e : H a = some (.lst xs)) : TyOf K H (.ref a) (.type "list")
  | frz {a : Addr} {o : Obj} {xs : List V} (e : H a = some (.frz o (.lst xs))) : TyOf K H (.ref a) (.type "list")
  | tup {a : Addr} {xs : List V} (e : H a = some (.tup xs)) : TyOf K H (.ref a) (.type "tuple")
  | dK {a : Addr} {kvs : List (Key × V)} (e : H a = some (.dK kvs)) : TyOf K H (.ref a) (.type "dict")
  | dT {a : Addr} {kvs : List (List Key × V)} (e : H a = some (.dT kvs)) : TyOf K H (.ref a) (.type "dict")
  | ins {a C dx : Addr} {fs : List (Str × V)} (e : H a = some (.ins C dx fs)) (cl : Cls K C) (ha : PySem.W.findIn K (.ref C) "__class__" = some (some (.builtin "object.__class__")))
      (hn : PySem.W.specialIn K (.builtin "object.__class__") "__get__" = some (some (.builtin "getset_descriptor.__get__"))) (htk : PySem.W.takesIn K (.builtin "object.__class__") = some true)
      (hm : PySem.W.mroIn K C (.type "object") = some true) : TyOf K H (.ref a) (.ref C)
end
end L2

namespace L2
open PySem PySem.Spec PyProof.Rows

structure Room (k : Nat) (A : Around) : Prop where
  hd : A.handled = none
  dp : A.depth + 3 * k + 5 < recursionLimit
  un : A.units + 16 * k + 200 < cLine
theorem Room.mono {j k : Nat} {A : Around} (r : Room k A) (h : j ≤ k) : Room j A := ⟨r.hd, by have := r.dp; omega, by have := r.un; omega⟩
theorem Room.deeper {k : Nat} {A : Around} (r : Room (k + 1) A) (env : Env) : Room k (A.deeper env) :=
  ⟨r.hd, by have := r.dp; show A.depth + 1 + 3 * k + 5 < _; omega, by have := r.un; show A.units + 3 + 16 * k + 200 < _; omega⟩
theorem make_depth {A : Around} {C : Addr} {us : List Value} {kw : List (Str × Value)} : (A.under (.builtin "type.__call__" ⟨.ref C :: us, kw⟩)).depth = A.depth + 1 := by
  first | rfl | simp [Around.under, Code.weight, Code.isCreation, Code.isGuard, Code.isCaller, Code.frames, Code.isFrame, guardIds]
theorem make_units {A : Around} {C : Addr} {us : List Value} {kw : List (Str × Value)} : (A.under (.builtin "type.__call__" ⟨.ref C :: us, kw⟩)).units = A.units + 1 := by
  first | rfl | simp [Around.under, Code.cUnits, Code.frames, Code.isFrame]
theorem Room.make {k : Nat} {A : Around} (r : Room (k + 1) A) (C : Addr) (us : List Value) (kw : List (Str × Value)) : Room k (A.under (.builtin "type.__call__" ⟨.ref C :: us, kw⟩)) :=
  ⟨r.hd, by have := r.dp; rw [make_depth]; omega, by have := r.un; rw [make_units]; omega⟩
theorem Room.depth {k : Nat} {A : Around} (r : Room k A) : A.depth < recursionLimit := by have := r.dp; omega
theorem Room.units {k : Nat} {A : Around} (r : Room k A) : A.units + 64 < cLine := by have := r.un; omega
def tNil : TA := fun _ H Q => Q [] H
def tCons (ta : TE) (tr : TA) : TA := fun σ H Q => ta σ H fun x H1 => tr σ H1 fun xs H2 => Q (x :: xs) H2
section
variable {X : Cx} {e : Expr} {es : List Expr} {te : TE} {t : TA} {pos : Pos}
theorem pa_nil : PA X [] tNil := fun _ _ _ _ H Q I h => Calls.spliced_nil ⟨[], H, I, .nil, h⟩
theorem pa_cons (ha : PE X e te) (hr : PA X es t) (hs : starEach (e :: es) X.env = (false, eval e X.env) :: starEach es X.env := by rfl) : PA X (e :: es) (tCons te t) := by
  intro pos pins s σ H Q I h
  rw [hs]
  show wpAny _ _ (spliced ((false, eval e X.env) :: backTo pos (starEach es X.env))) _ _ s
  refine Calls.spliced_cons (thn (ha pins s σ H _ I h) fun u s1 ⟨x, H1, I1, r1, q1⟩ => ?_)
  exact thn (hr pos pins s1 σ H1 _ I1 q1) fun us s2 ⟨xs, H2, I2, r2, q2⟩ => ⟨x :: xs, H2, I2, .cons r1 r2, q2⟩

def tLst (t : TA) : TE := fun σ H Q => t σ H fun xs H1 => xs.length ≤ sizeLine ∧ ∀ p, H1 p = none → Q (.ref p) (upd H1 p (.lst xs))
theorem pe_lst (h : PA X es t) : PE X (.List es pos) (tLst t) := by
  intro pins s σ H Q I hq
  refine wpAny_List_spliced (thn (h pos pins s σ H _ I hq) fun us s1 ⟨xs, H1, I1, r, z, q⟩ => ⟨by rw [← r.length]; exact z, ?_⟩)
  have hf : H1 s1.heap.objs.size = none := I1.hok.fresh (Nat.le_refl _)
  refine ⟨.ref s1.heap.objs.size, upd H1 s1.heap.objs.size (.lst xs), I1.laid (t' := s1.toks) (fun b u e => Heap.get?_push_of_some _ e) (Nat.le_refl _) ?_, rfl, q _ hf⟩
  exact ⟨z, us, 0, r, Heap.get?_push_size _ rfl⟩
end

/-- a def's promise: the bound arguments in the parameters' order, the heap, the wanted end, the wanted exception -/
abbrev Sp := List V → Hp → VK → XK → Prop
/-- how an exception lies behind a call (file 08 gives it): the callers' frames, abstract heap and state ahead of the call, the wish, the exception, the state -/
abbrev CXT := List Env → Hp → Shared → XK → Value → Shared → Prop

/-- the state at a call -/
structure Env0 (P : Program) (w : World) (K : PySem.W.Frag) (mg : Str → Option Value) (base : Heap) (A : Around) (outer : List Env) (s : Shared) (H : Hp) : Prop where
  frames : A.frames = some outer
  mod : Mod K mg base
  bs : ∀ b o, base.get? b = some o → s.heap.get? b = some o ∧ H b = none
  bsz : base.objs.size ≤ s.heap.objs.size
  funs : s.heap.FunFrames base outer
  frf : ∀ b ∈ frs outer, H b = none
  hok : HOk P w H s.heap
  bare : AllBare s.gens
/-- a call's end -/
def CE (outer : List Env) (P : Program) (w : World) (H : Hp) (s : Shared) (Q : VK) (u : Value) (s' : Shared) : Prop :=
  ∃ v H', s'.os = s.os ∧ AllBare s'.gens ∧ Un (frs outer) [] H H' s.heap s'.heap ∧ HOk P w H' s'.heap ∧ RelV v u ∧ Q v H'
def CR (CX : CXT) (outer : List Env) (P : Program) (w : World) (H : Hp) (s : Shared) (Q : VK) (E : XK) (r : Result) (s' : Shared) : Prop :=
  match r with
  | .ok (.ret u) => CE outer P w H s Q u s'
  | .ok _ => False
  | .error e => CX outer H s E e s'
structure FnOk (P : Program) (w : World) (K : PySem.W.Frag) (mg : Str → Option Value) (base : Heap) (CX : CXT) (k : Nat) (f : Addr) (fd : FuncData) (ps : List Str) (sp : Sp) : Prop where
  len : ∀ vs H Q E, sp vs H Q E → vs.length = ps.length
  run : ∀ (A : Around) (outer : List Env) (s : Shared) (H : Hp) (args : Args) (us : List Value) (vs : List V) (Q : VK) (E : XK), Room k A → Env0 P w K mg base A outer s H → BindsTo s fd args (ps.zip us) → Vals vs us → sp vs H Q E →
    codeAny (model P w) A (.call (.ref f) args) (CR CX outer P w H s Q E) s
theorem FnOk.mono {P : Program} {w : World} {K : PySem.W.Frag} {mg : Str → Option Value} {base : Heap} {CX : CXT} {j k : Nat} {f : Addr} {fd : FuncData} {ps : List Str} {sp : Sp} (F : FnOk P w K mg base CX j f fd ps sp) (h : j ≤ k) :
    FnOk P w K mg base CX k f fd ps sp := ⟨F.len, fun A outer s H args us vs Q E hr => F.run A outer s H args us vs Q E (hr.mono h)⟩
theorem Env0.make {P : Program} {w : World} {K : PySem.W.Frag} {mg : Str → Option Value} {base : Heap} {A : Around} {outer : List Env} {s : Shared} {H : Hp} (e : Env0 P w K mg base A outer s H) (C : Addr) (us : List Value) (kw : List (Str × Value)) :
    Env0 P w K mg base (A.under (.builtin "type.__call__" ⟨.ref C :: us, kw⟩)) outer s H := ⟨by first | exact e.frames | (simpa [Around.under, Code.envs, Code.isFrame, pushEnvs] using e.frames), e.mod, e.bs, e.bsz, e.funs, e.frf, e.hok, e.bare⟩
section
variable {X : Cx} {pins : List (Addr × Obj)} {σ : St} {H : Hp} {s s' : Shared}
/-- from a body: what a callee wants -/
theorem Inv.env0 (I : Inv X pins σ H s) : Env0 X.prog X.w X.K X.mg X.base X.A X.stack s H :=
  ⟨I.ok.frames, I.ok.mod, I.bs, Nat.le_trans I.ok.bsz I.sz, I.stack, I.stkFree, I.hok, I.bare⟩
/-- behind a call -/
theorem Inv.after {Q : VK} {u : Value} (I : Inv X pins σ H s) (h : CE X.stack X.prog X.w H s Q u s') : EP X pins σ Q u s' := by
  obtain ⟨v, H', os, bare, un, hok, r, q⟩ := h
  obtain ⟨hh, g, d, t, os'⟩ := s'
  obtain rfl : os' = s.os := os
  exact ⟨v, H', I.call (h' := hh) (g' := g) (d' := d) (t' := t) (ch := []) un hok bare (fun b z => absurd z (by simp)), r, q⟩
end

/-- f(..): the written arguments, then the defaults dvs; E: what is wanted of an exception -/
def tCall (sp : Sp) (dvs : List V) (E : XK) (t : TA) : TE := fun σ H Q => t σ H fun vs H1 => sp (vs ++ dvs) H1 Q E
/-- C(..): a new instance and its dict, then __init__ -/
def tMake (C : Addr) (sp : Sp) (dvs : List V) (E : XK) (t : TA) : TE := fun σ H Q => t σ H fun vs H1 => ∀ x dx, H1 x = none → H1 dx = none → dx ≠ x →
  sp (.ref x :: (vs ++ dvs)) (upd (upd H1 dx (.own x)) x (.ins C dx [])) (fun v H2 => v = .non ∧ Q (.ref x) H2) E

/-- how the parameters are bound: us the positional arguments, kw the keywords' values by name, ds the defaults that fill up -/
def Binds (K : PySem.W.Frag) (fd : FuncData) (ps : List Str) (ds : List Value) : Prop :=
  ∀ (s : Shared) (us : List Value), K.In s.heap → (us ++ ds).length = ps.length → BindsTo s fd ⟨us, []⟩ (ps.zip (us ++ ds))
/-- every parameter is given -/
theorem Binds.all {K : PySem.W.Frag} {fd : FuncData} {ps : List Str} (h : ∀ us : List Value, us.length = ps.length → bindArgs fd ⟨us, []⟩ = pure (ps.zip us)) : Binds K fd ps [] := fun s us _ hl => by
  rw [List.append_nil] at hl ⊢
  exact .of_eq (h us hl)

/-- an exception of a callee reaches what this body wants of exceptions -/
def Passes (CX : CXT) (X : Cx) (E : XK) : Prop := ∀ (pins : List (Addr × Obj)) (σ : St) (H : Hp) (s : Shared) (e : Value) (s' : Shared), Inv X pins σ H s → CX X.stack H s E e s' → X.xe e s'

section
variable {X : Cx} {CX : CXT} {k : Nat} {f C : Addr} {fd : FuncData} {ps : List Str} {sp : Sp} {dvs : List V} {ds : List Value} {E : XK} {x m : Str} {p pos apos : Pos} {e o : Expr} {es : List Expr} {ta : TE} {t : TA}

/-- the callee runs -/
theorem run_fn {pins : List (Addr × Obj)} {σ : St} {H : Hp} {s : Shared} {Q : VK} {us : List Value} {vs : List V} (F : FnOk X.prog X.w X.K X.mg X.base CX k f fd ps sp) (hr : Room k X.A) (hb : Binds X.K fd ps ds) (hd : Vals dvs ds) (hx : Passes CX X E)
    (I : Inv X pins σ H s) (r : Vals vs us) (h : sp (vs ++ dvs) H Q E) : wpAny (model X.prog X.w) X.A (call (.ref f) us) (EP X pins σ Q) X.xe s := by
  have r2 : Vals (vs ++ dvs) (us ++ ds) := r.append hd
  have hl : (us ++ ds).length = ps.length := by rw [← r2.length]; exact F.len _ _ _ _ h
  refine wpAny_call (codeAny_mono (F.run X.A X.stack s H ⟨us, []⟩ (us ++ ds) (vs ++ dvs) Q E hr I.env0 (hb s us I.kIn hl) r2 h) fun r s' hq => ?_)
  cases r with
  | error e => exact hx pins σ H s e s' I hq
  | ok fl =>
    cases fl with
    | ret u => exact I.after hq
    | next => exact False.elim hq
    | brk => exact False.elim hq
    | cont => exact False.elim hq

theorem pe_call (F : FnOk X.prog X.w X.K X.mg X.base CX k f fd ps sp) (hr : Room k X.A) (hg : Gl X x) (hm : X.mg x = some (.ref f)) (hk : PySem.W.keepIn X.K (.ref f) = true) (hb : Binds X.K fd ps ds) (hd : Vals dvs ds) (hx : Passes CX X E)
    (ha : PA X (e :: es) t) (hdb : (x == ("__debug__" : Str)) = false := by decide) (he : starEach (e :: es) X.env = (false, eval e X.env) :: starEach es X.env := by rfl) (hpl : (backTo pos (starEach es X.env)).any (·.1) = false := by rfl) :
    PE X (.Call (.Name x p) (e :: es) [] pos) (tCall sp dvs E t) := by
  intro pins s σ H Q I h
  refine wpAny_Call_Name_kw (ld_glob I hg hm ?_ hdb)
  refine PySem.W.callWith_K (h₀ := X.base) I.ok.mod.kin hk (thn (ha pos pins s σ H _ I h) fun us s1 ⟨vs, H1, I1, r, q⟩ => ⟨I1.kIn, ?_⟩) he hpl
  exact run_fn F hr hb hd hx I1 r q
/-- what a class must have to be made -/
structure Mk (K : PySem.W.Frag) (C f : Addr) : Prop where
  makes : PySem.W.makesIn K C = true
  init : PySem.W.findIn K (.ref C) "__init__" = some (some (.ref f))
  fn : PySem.W.isFn K (.ref f) = true
  kp : PySem.W.keepIn K (.ref C) = true

theorem run_make {pins : List (Addr × Obj)} {σ : St} {H : Hp} {s : Shared} {Q : VK} {us : List Value} {vs : List V} (M : Mk X.K C f) (F : FnOk X.prog X.w X.K X.mg X.base CX k f fd ps sp) (hr : Room (k + 1) X.A) (hb : Binds X.K fd ps ds) (hd : Vals dvs ds)
    (hx : Passes CX X E) (I : Inv X pins σ H s) (r : Vals vs us)
    (h : ∀ x dx, H x = none → H dx = none → dx ≠ x → sp (.ref x :: (vs ++ dvs)) (upd (upd H dx (.own x)) x (.ins C dx [])) (fun v H2 => v = .non ∧ Q (.ref x) H2) E) :
    wpAny (model X.prog X.w) X.A (call (.ref C) us) (EP X pins σ Q) X.xe s := by
  have hq := h (s.heap.objs.size + 1) s.heap.objs.size (I.hok.fresh (Nat.le_succ _)) (I.hok.fresh (Nat.le_refl _)) (Nat.ne_of_lt (Nat.lt_succ_self _))
  have I2 := Inv.made (C := C) I
  have r2 : Vals (V.ref (s.heap.objs.size + 1) :: (vs ++ dvs)) (Value.ref (s.heap.objs.size + 1) :: (us ++ ds)) := .cons rfl (r.append hd)
  have hl : (Value.ref (s.heap.objs.size + 1) :: us ++ ds).length = ps.length := by
    have e := r2.length
    rw [F.len _ _ _ _ hq] at e
    exact e.symm
  refine wpAny_call (make_map (f := f) I.kIn M.makes M.init (beq_iff_eq.mp M.fn) (codeAny_mono (F.run _ X.stack _ _ ⟨Value.ref (s.heap.objs.size + 1) :: us, []⟩ (Value.ref (s.heap.objs.size + 1) :: (us ++ ds)) _ _ E (hr.make C us [])
    (I2.env0.make C us []) (hb _ (Value.ref (s.heap.objs.size + 1) :: us) I2.kIn hl) r2 hq) fun r s' hq' => ?_))
  cases r with
  | error e => exact hx pins σ _ _ e s' I2 hq'
  | ok fl =>
    cases fl with
    | ret u =>
      obtain ⟨v, H', I3, rv, ev, q3⟩ := I2.after hq'
      subst ev
      exact ⟨rv, ⟨V.ref (s.heap.objs.size + 1), H', I3, rfl, q3⟩⟩
    | next => exact False.elim hq'
    | brk => exact False.elim hq'
    | cont => exact False.elim hq'
theorem pe_make (M : Mk X.K C f) (F : FnOk X.prog X.w X.K X.mg X.base CX k f fd ps sp) (hr : Room (k + 1) X.A) (hg : Gl X x) (hm : X.mg x = some (.ref C)) (hb : Binds X.K fd ps ds) (hd : Vals dvs ds) (hx : Passes CX X E)
    (ha : PA X (e :: es) t) (hdb : (x == ("__debug__" : Str)) = false := by decide) (he : starEach (e :: es) X.env = (false, eval e X.env) :: starEach es X.env := by rfl) (hpl : (backTo pos (starEach es X.env)).any (·.1) = false := by rfl) :
    PE X (.Call (.Name x p) (e :: es) [] pos) (tMake C sp dvs E t) := by
  intro pins s σ H Q I h
  refine wpAny_Call_Name_kw (ld_glob I hg hm ?_ hdb)
  refine PySem.W.callWith_K (h₀ := X.base) I.ok.mod.kin M.kp (thn (ha pos pins s σ H _ I h) fun us s1 ⟨vs, H1, I1, r, q⟩ => ⟨I1.kIn, ?_⟩) he hpl
  exact run_make M F hr hb hd hx I1 r q
theorem pe_make0 (M : Mk X.K C f) (F : FnOk X.prog X.w X.K X.mg X.base CX k f fd ps sp) (hr : Room (k + 1) X.A) (hg : Gl X x) (hm : X.mg x = some (.ref C)) (hb : Binds X.K fd ps ds) (hd : Vals dvs ds) (hx : Passes CX X E)
    (hdb : (x == ("__debug__" : Str)) = false := by decide) : PE X (.Call (.Name x p) [] [] pos) (tMake C sp dvs E tNil) := by
  intro pins s σ H Q I h
  refine wpAny_Call_Name_kw (ld_glob I hg hm ?_ hdb)
  exact PySem.W.callWith_K0 I.kIn M.kp (run_make (us := []) M F hr hb hd hx I .nil h)
end

section
variable {X : Cx} {CX : CXT} {k : Nat} {f C : Addr} {fd : FuncData} {ps ks : List Str} {sp : Sp} {E : XK} {x m : Str} {p pos apos kpos : Pos} {e o : Expr} {es : List Expr} {kws : List Keyword} {te ta : TE} {t tk : TA} {nm : Option Str}
/-- how a call with keywords binds: g puts the positional values us and the keywords' values ws (names ks) in the parameters' order, defaults among them -/
structure KBinds (K : PySem.W.Frag) (fd : FuncData) (ps ks : List Str) (g : List Value → List Value → List Value) (gV : List V → List V → List V) : Prop where
  to : ∀ (s : Shared) (us ws : List Value), K.In s.heap → (g us ws).length = ps.length → BindsTo s fd ⟨us, ks.zip ws⟩ (ps.zip (g us ws))
  rel : ∀ {vs : List V} {us : List Value} {zs : List V} {ws : List Value}, Vals vs us → Vals zs ws → Vals (gV vs zs) (g us ws)
variable {g : List Value → List Value → List Value} {gV : List V → List V → List V}
end

/-- names: the parameters first -/
structure FnScope (N P : List Str) (sc : Scope) : Prop where
  kind : sc.kind = .function
  co : sc.isCoroutine = false
  gen : sc.isGenerator = false
  nd : N.Nodup
  pre : N.take P.length = P
  par : ∀ x ∈ P, sc.names.lookup x = some .local ∨ sc.names.lookup x = some .cell
  nofree : ∀ y ∈ sc.names, y.2 ≠ .free

theorem bindL_out {kindOf : Str → Option NameKind} {x : Str} : ∀ {binds : List (Str × Value)} {m : Str → Option Value}, (∀ v, (x, v) ∉ binds) → bindL kindOf binds m x = m x
  | [], _, _ => rfl
  | (n, v) :: r, m, h => by
    unfold bindL
    rw [bindL_out fun w hw => h w (List.mem_cons_of_mem _ hw)]
    split
    · have : x ≠ n := by rintro rfl; exact h v List.mem_cons_self
      simp [this]
    · rfl
theorem bindC_out {kindOf : Str → Option NameKind} {x : Str} : ∀ {binds : List (Str × Value)} {m : Str → Option Value}, (∀ v, (x, v) ∉ binds) → bindC kindOf binds m x = m x
  | [], _, _ => rfl
  | (n, v) :: r, m, h => by
    unfold bindC
    rw [bindC_out fun w hw => h w (List.mem_cons_of_mem _ hw)]
    split
    · rfl
    · have : x ≠ n := by rintro rfl; exact h v List.mem_cons_self
      simp [this]
theorem bindL_get {kindOf : Str → Option NameKind} {x : Str} {v : Value} : ∀ {P : List Str} {vs : List Value} {i : Nat} {m : Str → Option Value}, P.Nodup → P[i]? = some x → vs[i]? = some v → kindOf x = some .local →
    bindL kindOf (P.zip vs) m x = some v
  | [], _, _, _, _, h, _, _ => by simp at h
  | _ :: _, [], _, _, _, _, h, _ => by simp at h
  | p :: P, w :: vs, 0, m, nd, h1, h2, hk => by
    simp at h1 h2; subst h1; subst h2
    show bindL kindOf ((p, w) :: P.zip vs) m p = _
    unfold bindL
    rw [bindL_out fun v hv => (List.nodup_cons.mp nd).1 (List.of_mem_zip hv).1, if_pos hk]
    simp
  | p :: P, w :: vs, i + 1, m, nd, h1, h2, hk => by
    show bindL kindOf ((p, w) :: P.zip vs) m x = _
    unfold bindL
    exact bindL_get (i := i) (List.nodup_cons.mp nd).2 (by simpa using h1) (by simpa using h2) hk
theorem bindC_get {kindOf : Str → Option NameKind} {x : Str} {v : Value} : ∀ {P : List Str} {vs : List Value} {i : Nat} {m : Str → Option Value}, P.Nodup → P[i]? = some x → vs[i]? = some v → kindOf x ≠ some .local →
    bindC kindOf (P.zip vs) m x = some v
  | [], _, _, _, _, h, _, _ => by simp at h
  | _ :: _, [], _, _, _, _, h, _ => by simp at h
  | p :: P, w :: vs, 0, m, nd, h1, h2, hk => by
    simp at h1 h2; subst h1; subst h2
    show bindC kindOf ((p, w) :: P.zip vs) m p = _
    unfold bindC
    rw [bindC_out fun v hv => (List.nodup_cons.mp nd).1 (List.of_mem_zip hv).1, if_neg hk]
    simp
  | p :: P, w :: vs, i + 1, m, nd, h1, h2, hk => by
    show bindC kindOf ((p, w) :: P.zip vs) m x = _
    unfold bindC
    exact bindC_get (i := i) (List.nodup_cons.mp nd).2 (by simpa using h1) (by simpa using h2) hk

/-- the names' values at the entry -/
def start (N : List Str) (vs : List V) : St := vs.map some ++ List.replicate (N.length - vs.length) none

/-- the context of a def's body, at its entry; an exception leaves the frame, then lies as CX says -/
def cxOf (CX : CXT) (P : Program) (w : World) (K : PySem.W.Frag) (mg : Str → Option Value) (base : Heap) (N : List Str) (qual : Str) (scope : Scope) (f : Addr) (cd : Value) (A : Around) (outer : List Env) (s : Shared) (H : Hp) (E : XK) : Cx where
  prog := P
  w := w
  K := K
  mg := mg
  base := base
  A := A.deeper (envOfC qual scope s.heap.objs.size f cd)
  N := N
  s_0 := s
  H_0 := H
  env := envOfC qual scope s.heap.objs.size f cd
  outer := outer
  stack := envOfC qual scope s.heap.objs.size f cd :: outer
  ex := []
  calm := true
  fn := fun _ => true
  pn := []
  xe := fun e s' => wpAny (model P w) (A.deeper (envOfC qual scope s.heap.objs.size f cd)) (leaving (envOfC qual scope s.heap.objs.size f cd) e) (fun _ s'' => CX outer H s E e s'') (fun e' s'' => CX outer H s E e' s'') s'

theorem cell_has {sc : Scope} {n : Nat} {x : Str} (h : sc.names.lookup x = some .cell) : ∃ c, (cellsFrom n sc.names []).lookup x = some c := by
  have q := PySem.W.cellsFrom_some sc.names n [] (.inl h)
  exact Option.isSome_iff_exists.mp q

theorem inv_start {CX : CXT} {P : Program} {w : World} {K : PySem.W.Frag} {mg : Str → Option Value} {base : Heap} {N ps : List Str} {qual : Str} {scope : Scope} {f : Addr} {cd : Value} {A : Around} {outer : List Env} {s s1 : Shared} {H : Hp} {E : XK} {us : List Value} {vs : List V}
    (S : FnScope N ps scope) (hd : A.handled = none) (e0 : Env0 P w K mg base A outer s H) (hl : vs.length = ps.length) (r : Vals vs us)
    (x : InCallC s s.heap.objs.size (bindL (envOfC qual scope s.heap.objs.size f cd).kindOf (ps.zip us) fun _ => none) (cellsFrom (s.heap.objs.size + 1) scope.names []) (bindC (envOfC qual scope s.heap.objs.size f cd).kindOf (ps.zip us) fun _ => none) s1) :
    Inv (cxOf CX P w K mg base N qual scope f cd A outer s H E) [] (start N vs) H s1 := by
  have hpl : ps.length ≤ N.length := by have := congrArg List.length S.pre; rw [List.length_take] at this; omega
  obtain ⟨h1, tk, rfl, hk⟩ := x.done
  have noA : ∀ b : Addr, b ∉ (cxOf CX P w K mg base N qual scope f cd A outer s H E).ex := fun b z => absurd (show b ∈ ([] : List Addr) from z) (by simp)
  refine ⟨⟨e0.mod, S.kind, rfl, rfl, Nat.le_refl _, fun y z c h1 h2 => ?_, fun y hy => ?_, fun y c _ h => ?_, fun _ => hd, Around.frames_deeper e0.frames, .inr ⟨rfl, rfl⟩, fun b z => absurd z (noA b), e0.bs, e0.bsz, fun b _ _ => noA b, fun b z => absurd z (noA b), e0.funs, e0.frf⟩,
    rfl, e0.bare, Un.kept hk, ⟨_, x.toInCall.ns, fun i y v h1 h2 h3 => ?_⟩, fun y c h => ⟨_, x.cell y c h⟩, e0.hok.fresh (Nat.le_refl _), fun y c h => ?_, fun p hp => absurd (show p ∈ ([] : List (Addr × Obj)) from hp) (by simp), e0.hok.kept hk, ?_⟩
  · exact name_of_addr x.apart (PySem.mem_of_lookup h1) (PySem.mem_of_lookup h2)
  · have hy : scope.names.lookup y = some .cell ∨ scope.names.lookup y = some .free := hy
    rcases hy with hy | hy
    · exact cell_has hy
    · exact absurd rfl (S.nofree _ (PySem.mem_of_lookup hy))
  · exact Nat.le_of_lt (x.above y c (PySem.mem_of_lookup h))
  · have hi : i < vs.length := by
      unfold start at h2
      by_cases hi : i < vs.length
      · exact hi
      · rw [List.getElem?_append_right (by simpa using hi)] at h2
        rw [List.getElem?_replicate] at h2
        split at h2 <;> cases h2
    have ha : vs[i]? = some v := by
      unfold start at h2
      rw [List.getElem?_append_left (by simpa using hi), List.getElem?_map] at h2
      cases e : vs[i]? with
      | none => rw [e] at h2; cases h2
      | some a => rw [e] at h2; cases h2; rfl
    obtain ⟨u, hu, rv⟩ := r.get ha
    have hp : ps[i]? = some y := by
      rw [← S.pre, List.getElem?_take_of_lt (by omega)]; exact h1
    have ndP : ps.Nodup := by rw [← S.pre]; exact S.nd.sublist (List.take_sublist _ _)
    refine ⟨u, rv, ?_⟩
    rcases S.par y (List.mem_of_getElem? hp) with k | k
    · exact .inl ⟨k, bindL_get ndP hp hu k⟩
    · obtain ⟨c, e⟩ := cell_has (n := s.heap.objs.size + 1) k
      refine .inr ⟨.inl k, c, e, ?_⟩
      have q := x.cell y c e
      rw [bindC_get ndP hp hu (by show scope.names.lookup y ≠ _; rw [k]; decide)] at q
      exact q
  · exact e0.hok.fresh (Nat.le_of_lt (x.above y c (PySem.mem_of_lookup h)))
  · unfold start
    show _ = N.length
    rw [List.length_append, List.length_map, List.length_replicate]
    omega

/-- THE RULE: a def (or a method) of the text, by its body. The body's reading t is chosen for each entry; it is run at the parameters' values -/
theorem fn_of {CX : CXT} {P : Program} {w : World} {K : PySem.W.Frag} {mg : Str → Option Value} {base : Heap} {k : Nat} {f : Addr} {name qual : Str} {params : Arguments} {body : List Stmt} {scope : Scope} {dV kV doc pm cdv ct oc : Value} {an od : Option Addr}
    {osl : Array (Option Value)} {N ps : List Str} {sp : Sp} (lk : K.lookup f = some ⟨oc, od, .func (PySem.W.fnOf name qual params body scope dV kV doc pm an cdv ct), osl⟩) (hcd : PySem.W.codeIn K cdv qual = true) (S : FnScope N ps scope)
    (len : ∀ vs H Q E, sp vs H Q E → vs.length = ps.length)
    (hbody : ∀ (A : Around) (outer : List Env) (s : Shared) (H : Hp) (vs : List V) (Q : VK) (E : XK), Room k (A.deeper (envOfC qual scope s.heap.objs.size f cdv)) → sp vs H Q E →
      ∃ t, PSs (cxOf CX P w K mg base N qual scope f cdv A outer s H E) body t ∧ t { nx := fun _ H' => Q .non H', rt := Q } (start N vs) H) :
    FnOk P w K mg base CX (k + 1) f (PySem.W.fnOf name qual params body scope dV kV doc pm an cdv ct) ps sp := by
  refine ⟨len, fun A outer s H args us vs Q E hr e0 hb r hsp => ?_⟩
  have hl := len _ _ _ _ hsp
  have KX : K.In s.heap := e0.mod.kin.keeps fun b o e => (e0.bs b o e).1
  have lim : s.heap.NoLimit := e0.mod.nolimit.keeps fun b o e => (e0.bs b o e).1
  have hkind : ∀ y ∈ ps.zip us, scope.names.lookup y.1 = some .local ∨ (scope.names.lookup y.1 = some .cell ∧ ((cellsFrom (s.heap.objs.size + 1) scope.names []).lookup y.1).isSome = true) := fun ⟨n, v⟩ hy => by
    rcases S.par n (List.of_mem_zip hy).1 with q | q
    · exact .inl q
    · exact .inr ⟨q, PySem.W.cellsFrom_some _ _ _ (.inl q)⟩
  refine codeAny_call_function hr.depth (KX _ _ lk) rfl S.co S.gen rfl (PySem.W.codeRec_of KX hcd) (hb _ _ _ _ ?_)
  refine wpAny_newFunctionEnv_cells S.kind hkind fun env he s1 x => ?_
  subst he
  refine ⟨lim.keeps x.toInCall.keep, codeAny_func ?_⟩
  obtain ⟨t, ht, hq⟩ := hbody A outer s H vs Q E (hr.deeper _) hsp
  have I : Inv (cxOf CX P w K mg base N qual scope f cdv A outer s H E) [] (start N vs) H s1 := inv_start S hr.hd e0 hl r x
  refine wpAny_mono (ht [] s1 (start N vs) H _ I hq) (fun fl s' hs => ?_) fun e s' hs => hs
  have fin : ∀ {σ' : St} {H' : Hp} {v : V} {u : Value}, Inv (cxOf CX P w K mg base N qual scope f cdv A outer s H E) [] σ' H' s' → RelV v u → Q v H' → CE outer P w H s Q u s' :=
    fun {σ' H' v u} J rv q => ⟨v, H', J.os, J.bare, J.base, J.hok, rv, q⟩
  cases fl with
  | ret u =>
    obtain ⟨v, σ', H', J, rv, q⟩ := hs
    exact fin J rv q
  | next =>
    obtain ⟨σ', H', J, q⟩ := hs
    exact fin (v := V.non) (u := Value.none) J rfl q
  | brk =>
    obtain ⟨_, _, _, q⟩ := hs
    exact False.elim q
  | cont =>
    obtain ⟨_, _, _, q⟩ := hs
    exact False.elim q
end L2

namespace L2
open PySem PySem.Spec PyProof.Rows
section
variable {X : Cx} {x : Str} {p pos : Pos} {e : Expr} {es : List Expr} {t : TA} {id T : String} {r : List V → Hp → VK → Prop}

def tCB (r : List V → Hp → VK → Prop) (t : TA) : TE := fun σ H Q => t σ H fun vs H1 => r vs H1 Q
/-- f(e, ..), f a built-in function -/
theorem pe_callB (hc : CallR X (.builtin id) r) (hg : Gl X x) (hm : X.mg x = none) (hv : bootBuiltins x = some (.builtin id)) (ha : PA X (e :: es) t) (hn : x ≠ "__name__" := by decide) (hdb : (x == ("__debug__" : Str)) = false := by decide)
    (he : starEach (e :: es) X.env = (false, eval e X.env) :: starEach es X.env := by rfl) (hpl : (backTo pos (starEach es X.env)).any (·.1) = false := by rfl) : PE X (.Call (.Name x p) (e :: es) [] pos) (tCB r t) := by
  intro pins s σ H Q I h
  refine wpAny_Call_Name_kw (ld_blt I hg hm hv ?_ hn hdb)
  exact PyProof.Rows.callWith_builtin1 (thn (ha pos pins s σ H _ I h) fun us s1 ⟨vs, H1, I1, r1, q1⟩ => hc pins s1 σ H1 vs us Q I1 r1 q1) he hpl
/-- T(e, ..), T a built-in type -/
theorem pe_callTy (hc : CallR X (.type T) r) (hg : Gl X x) (hm : X.mg x = none) (hv : bootBuiltins x = some (.type T)) (ha : PA X (e :: es) t) (hn : x ≠ "__name__" := by decide) (hdb : (x == ("__debug__" : Str)) = false := by decide)
    (he : starEach (e :: es) X.env = (false, eval e X.env) :: starEach es X.env := by rfl) (hpl : (backTo pos (starEach es X.env)).any (·.1) = false := by rfl) : PE X (.Call (.Name x p) (e :: es) [] pos) (tCB r t) := by
  intro pins s σ H Q I h
  refine wpAny_Call_Name_kw (ld_blt I hg hm hv ?_ hn hdb)
  exact PyProof.Rows.callWith_type1 (thn (ha pos pins s σ H _ I h) fun us s1 ⟨vs, H1, I1, r1, q1⟩ => hc pins s1 σ H1 vs us Q I1 r1 q1) he hpl
end
end L2

namespace HT
open PySem PyProof.Rows

section
open PySem.SeqAt
open PySem.AutoSeq1 (wpAny_loadPart')
open PySem.MeetsSeq PySem.MeetsSeq2 PySem.MeetsSeq3

end

section
variable {prog : Program} {w : World} {A : Around} {E : Value → Shared → Prop} {s : Shared}

/-- a slice's bound as a place among n (d where it is left out) -/
def sIx (n d : Nat) : Option Int → Nat
  | none => d
  | some v => if v < 0 then (v + (n : Int)).toNat else min v.toNat n
theorem sIx_nat (n d k : Nat) : sIx n d (some (k : Int)) = min k n := by
  show (if (k : Int) < 0 then ((k : Int) + (n : Int)).toNat else min (k : Int).toNat n) = min k n
  rw [if_neg (by omega), Int.toNat_natCast]
end
end HT

namespace L2
open PySem PySem.Spec PyProof.Rows

abbrev TO := St → Hp → (Option Int → Hp → Prop) → Prop
/-- a slice's part (left out, or an int) -/
def PO (X : Cx) (e : Option Expr) (t : TO) : Prop :=
  ∀ (pins : List (Addr × Obj)) (s : Shared) (σ : St) (H : Hp) (Q : Option Int → Hp → Prop), Inv X pins σ H s → t σ H Q →
    wpAny (model X.prog X.w) X.A (evalPart e X.env) (fun u s' => ∃ o H', Inv X pins σ H' s' ∧ IsPart u o ∧ Q o H') X.xe s
def tNoPart : TO := fun _ H Q => Q none H
def tPart (t : TE) : TO := fun σ H Q => t σ H fun x H1 => ∃ i, x = .int i ∧ Q (some i) H1

section
variable {X : Cx} {e : Expr} {te : TE} {lo hi : Option Expr} {tl th : TO} {pos p2 : Pos}

theorem po_some (h : PE X e te) : PO X (some e) (tPart te) := by
  intro pins s σ H Q I hw
  rw [evalPart_some]
  refine thn (h pins s σ H _ I hw) fun u s1 ⟨x, H1, I1, r1, q1⟩ => ?_
  obtain ⟨i, rfl, q⟩ := q1
  obtain ⟨t, rfl⟩ := r1
  exact ⟨some i, H1, I1, .int i t, q⟩

/-- what a slice of a value is, by values: the slice object stands at sl -/
def SlR (X : Cx) (r : V → Option Int → Option Int → Hp → VK → Prop) : Prop :=
  ∀ (pins : List (Addr × Obj)) (s : Shared) (σ : St) (H : Hp) (x : V) (v vl vu : Value) (lo hi : Option Int) (sl : Addr) (Q : VK), Inv X pins σ H s → RelV x v → s.heap.IsSliceOf sl vl vu .none → IsPart vl lo → IsPart vu hi → r x lo hi H Q →
    ∃ T id, typeLookup (.type T) "__getitem__" = pure (some (.builtin id)) ∧ s.TypeIs v T ∧ wpAny (model X.prog X.w) X.A (getItem v (.ref sl)) (EP X pins σ Q) X.xe s
def tSl (r : V → Option Int → Option Int → Hp → VK → Prop) (te : TE) (tl th : TO) : TE := fun σ H Q => te σ H fun x H1 => tl σ H1 fun l H2 => th σ H2 fun u H3 => r x l u H3 Q
/-- a[lo:hi], any a -/
theorem pe_slice {r : V → Option Int → Option Int → Hp → VK → Prop} (hr : SlR X r) (he : PE X e te) (hl : PO X lo tl) (hu : PO X hi th) : PE X (.Subscript e (.Slice lo hi none p2) pos) (tSl r te tl th) := by
  intro pins s σ H Q I h
  refine Subscript_ (thn (he pins s σ H _ I h) fun v s1 ⟨x, H1, I1, r1, q1⟩ => ?_)
  refine wpAny_Slice (thn (hl pins s1 σ H1 _ I1 q1) fun vl s2 ⟨l, H2, I2, pl, q2⟩ => thn (hu pins s2 σ H2 _ I2 q2) fun vu s3 ⟨u, H3, I3, pu, q3⟩ => ?_)
  rw [evalPart_none]
  refine wpAny_pure ?_
  have I4 : Inv X pins σ H3 { s3 with heap := s3.heap.push { cls := .type "slice", data := .fields #[vl, vu, .none] } } := I3.kept (t' := s3.toks) fun b ob q => Heap.get?_push_of_some _ q
  obtain ⟨T, id, hT, ht, hg⟩ := hr pins { s3 with heap := s3.heap.push { cls := .type "slice", data := .fields #[vl, vu, .none] } } σ H3 x v vl vu l u s3.heap.objs.size Q I4 r1 (Heap.IsSliceOf.new ..) pl pu q3
  show wpAny (model X.prog X.w) X.A (subscriptTail e (.Slice lo hi none p2) v (.ref s3.heap.objs.size)) (EP X pins σ Q) X.xe { s3 with heap := s3.heap.push { cls := .type "slice", data := .fields #[vl, vu, .none] } }
  exact tail_any (ops := [.ref s3.heap.objs.size, v]) ht hT hg (by with_unfolding_all rfl)

/-- the items of xs[lo:hi] -/
def cutV (xs : List V) (lo hi : Option Int) : List V := (xs.drop (HT.sIx xs.length 0 lo)).take (HT.sIx xs.length xs.length hi - HT.sIx xs.length 0 lo)
theorem cutV_length (xs : List V) (lo hi : Option Int) : (cutV xs lo hi).length ≤ xs.length := by
  unfold cutV
  rw [List.length_take, List.length_drop]
  omega
end
end L2

namespace L2
open PySem PySem.Spec PyProof.Rows

/-- the place that an index of any sign means -/
def ixN (n : Nat) (i : Int) : Option Nat := if 0 ≤ i then (if i < n then some i.toNat else none) else if -(n : Int) ≤ i then some (i + n).toNat else none
def atI {α : Type} (xs : List α) (i : Int) : Option α := (ixN xs.length i).bind fun j => xs[j]?
theorem ixN_seq {n : Nat} {i : Int} {j : Nat} (h : ixN n i = some j) : seqIndex? i n = some j ∧ j < n ∧ -(n : Int) ≤ i ∧ i < n := by
  unfold ixN at h
  by_cases h0 : 0 ≤ i
  · rw [if_pos h0] at h
    by_cases h1 : i < n
    · rw [if_pos h1] at h
      have e : i.toNat = j := Option.some.inj h
      exact ⟨by rw [seqIndex_of h0 h1, e], by omega, by omega, h1⟩
    · rw [if_neg h1] at h; cases h
  · rw [if_neg h0] at h
    by_cases h1 : -(n : Int) ≤ i
    · rw [if_pos h1] at h
      have e : (i + n).toNat = j := Option.some.inj h
      exact ⟨by rw [seqIndex_neg (by omega) h1, e], by omega, h1, by omega⟩
    · rw [if_neg h1] at h; cases h
theorem atI_get {α : Type} {xs : List α} {i : Int} {v : α} (h : atI xs i = some v) : ∃ j, seqIndex? i xs.length = some j ∧ xs[j]? = some v ∧ j < xs.length ∧ -(xs.length : Int) ≤ i ∧ i < xs.length := by
  unfold atI at h
  cases e : ixN xs.length i with
  | none => rw [e] at h; cases h
  | some j =>
    rw [e] at h
    obtain ⟨h1, h2, h3, h4⟩ := ixN_seq e
    exact ⟨j, h1, h, h2, h3, h4⟩
theorem atI_nat {α : Type} {xs : List α} {j : Nat} {v : α} (h : xs[j]? = some v) : atI xs (j : Int) = some v := by
  have hj : j < xs.length := (List.getElem?_eq_some_iff.mp h).1
  have e : ixN xs.length (j : Int) = some j := by
    unfold ixN
    rw [if_pos (by omega), if_pos (by omega)]; simp
  unfold atI; rw [e]; exact h
/-- what stands as an index of a plain subscript -/
def PlainIx (b : Expr) : Prop := ∀ o i, subscripted b false o i = operate [o, i] (getItem o i)
/-- a subscript by values -/
def IxR (X : Cx) (r : R2) : Prop :=
  ∀ (value slice : Expr) (pins : List (Addr × Obj)) (s : Shared) (σ : St) (H : Hp) (x y : V) (v u : Value) (Q : VK), Inv X pins σ H s → RelV x v → RelV y u → r x y H Q →
    subscripted slice false v u = operate [v, u] (getItem v u) → wpAny (model X.prog X.w) X.A (subscriptTail value slice v u) (EP X pins σ Q) X.xe s
/-- a call of a builtin's method by values: the receiver, the arguments -/
def MtR (X : Cx) (id : String) (r : V → List V → Hp → VK → Prop) : Prop :=
  ∀ (pins : List (Addr × Obj)) (s : Shared) (σ : St) (H : Hp) (x : V) (xs : List V) (v : Value) (us : List Value) (Q : VK), Inv X pins σ H s → RelV x v → Vals xs us → r x xs H Q →
    wpAny (model X.prog X.w) X.A (call (.builtin id) (v :: us)) (EP X pins σ Q) X.xe s
section
variable {X : Cx} {a b : Expr} {ta tb : TE} {pos : Pos}
/-- a[b] -/
theorem pe_ix {r : R2} (hr : IxR X r) (ha : PE X a ta) (hb : PE X b tb) (hs : PlainIx b) : PE X (.Subscript a b pos) (tOp r ta tb) := by
  intro pins s σ H Q I h
  exact Subscript_ (binT ha hb I h fun v u s2 x y H2 I2 rx ry q => hr a b pins s2 σ H2 x y v u Q I2 rx ry q (hs _ _))

def rIxL (K : PySem.W.Frag) : R2 := fun x y H Q => ∃ p xs i v, x = .ref p ∧ y = .int i ∧ SqL K H p xs ∧ atI xs i = some v ∧ Q v H
def rIxT (K : PySem.W.Frag) : R2 := fun x y H Q => ∃ p xs i v, x = .ref p ∧ y = .int i ∧ SqT K H p xs ∧ atI xs i = some v ∧ Q v H
theorem ix_list : IxR X (rIxL X.K) := by
  intro value slice pins s σ H x y v u Q I rx ry h hs
  obtain ⟨p, xs, i, z, rfl, rfl, hq, he, q⟩ := h
  cases rx
  obtain ⟨t, rfl⟩ := ry
  obtain ⟨its, r, pl, hz⟩ := I.list hq
  obtain ⟨j, h1, h2, h3, h4, h5⟩ := atI_get he
  obtain ⟨w, ew, rw'⟩ := r.get h2
  have hl := r.length
  have hn := line63
  have fin : EP X pins σ Q w s := ⟨z, H, I, rw', q⟩
  by_cases h0 : 0 ≤ i
  · have hj : i.toNat = j := by
      rw [seqIndex_of h0 h5] at h1
      exact Option.some.inj h1
    exact item_listR pl.isList h0 (by omega) (by rw [hj]; simpa using ew) fin hs
  · have hj : (i + (its.toArray.size : Int)).toNat = j := by
      rw [seqIndex_neg (by omega) h4] at h1
      rw [List.size_toArray, ← hl]
      exact Option.some.inj h1
    exact subscriptTail_builtinR (x := w) pl.isList.typeIs slot_list_getitem.lookup
      (wpAny_getItem_list_neg (Q := fun r s' => r = w ∧ EP X pins σ Q r s') pl.isList (by omega) (by rw [List.size_toArray] <;> omega) (by omega) (by rw [hj]; simpa using ew) ⟨rfl, fin⟩) hs
theorem ix_tup : IxR X (rIxT X.K) := by
  intro value slice pins s σ H x y v u Q I rx ry h hs
  obtain ⟨p, xs, i, z, rfl, rfl, hq, he, q⟩ := h
  cases rx
  obtain ⟨t, rfl⟩ := ry
  obtain ⟨its, r, pl, hz⟩ := I.tuple hq
  obtain ⟨j, h1, h2, h3, h4, h5⟩ := atI_get he
  obtain ⟨w, ew, rw'⟩ := r.get h2
  have hl := r.length
  have hn := line63
  have fin : EP X pins σ Q w s := ⟨z, H, I, rw', q⟩
  exact subscriptTail_builtinR (x := w) pl.typeIs slot_tuple_getitem.lookup
    (getItem_tuple (j := j) (Q := fun r s' => r = w ∧ EP X pins σ Q r s') pl (by omega) (by omega) (by rw [List.size_toArray, ← hl]; exact h1) (by simpa using ew) ⟨rfl, fin⟩) hs
theorem Inv.lst {pins : List (Addr × Obj)} {σ : St} {H : Hp} {s : Shared} {p : Addr} {xs : List V} (I : Inv X pins σ H s) (h : H p = some (.lst xs)) :
    ∃ (its : List Value) (n : Nat), Vals xs its ∧ s.heap.get? p = some { cls := .type "list", data := .seq its.toArray n } ∧ xs.length ≤ sizeLine := by
  obtain ⟨z, its, n, r, e⟩ := I.hok p _ h
  exact ⟨its, n, r, e, z⟩
theorem slice_bounds (lo hi : Option Int) (n : Nat) : (sliceBounds lo hi none n).1 = ((HT.sIx n 0 lo : Nat) : Int) ∧ (sliceBounds lo hi none n).2.1 = ((HT.sIx n n hi : Nat) : Int) ∧ (sliceBounds lo hi none n).2.2 = 1 := by
  refine ⟨?_, ?_, rfl⟩
  · cases lo with
    | none => simp [sliceBounds, HT.sIx]
    | some i =>
      simp only [sliceBounds, HT.sIx, Option.getD_none, show (1 : Int) > 0 by decide, if_true]
      by_cases h : i < 0
      · simp only [h, if_true] <;> omega
      · simp only [h, if_false] <;> omega
  · cases hi with
    | none => simp [sliceBounds, HT.sIx]
    | some i =>
      simp only [sliceBounds, HT.sIx, Option.getD_none, show (1 : Int) > 0 by decide, if_true]
      by_cases h : i < 0
      · simp only [h, if_true] <;> omega
      · simp only [h, if_false] <;> omega
theorem slicePick_cut (its : List Value) (lo hi : Option Int) : slicePick its.toArray lo hi none = ((its.drop (HT.sIx its.length 0 lo)).take (HT.sIx its.length its.length hi - HT.sIx its.length 0 lo)).toArray := by
  obtain ⟨h1, h2, h3⟩ := slice_bounds lo hi its.toArray.size
  unfold slicePick
  rw [h1, h2, h3]
  simp only [sliceRange_one, pick_run, List.size_toArray] <;> rfl
/-- xs[lo:hi] of a list: a new list -/
def rSlL (K : PySem.W.Frag) : V → Option Int → Option Int → Hp → VK → Prop := fun x lo hi H Q => ∃ a xs, x = .ref a ∧ SqL K H a xs ∧ ∀ p, H p = none → Q (.ref p) (upd H p (.lst (cutV xs lo hi)))
theorem sl_list : SlR X (rSlL X.K) := by
  intro pins s σ H x v vl vu lo hi sl Q I rx hs pl pu h
  obtain ⟨a, xs, rfl, hx, q⟩ := h
  cases rx
  obtain ⟨its, r, ht, hz⟩ := I.list hx
  have hlen := r.length
  refine ⟨"list", _, slot_list_getitem.lookup, ht.isList.typeIs, ?_⟩
  refine wpAny_getItem_list_slice ht.isList hs pl pu .none (by simp) ?_ (by rw [List.size_toArray] <;> omega)
  rw [slicePick_cut, ← hlen]
  refine ⟨.ref s.heap.objs.size, _, I.laid (t' := s.toks) (o := .lst (cutV xs lo hi)) (fun b ob q => Heap.get?_push_of_some _ q) (Nat.le_refl _) ?_, rfl, q _ (I.hok.fresh (Nat.le_refl _))⟩
  exact ⟨Nat.le_trans (cutV_length xs lo hi) hz, _, 0, (r.drop (HT.sIx xs.length 0 lo)).take (HT.sIx xs.length xs.length hi - HT.sIx xs.length 0 lo), Heap.get?_push_size _ rfl⟩

def flatV : V → Bool
  | .non => true
  | .bl _ => true
  | .int _ => true
  | .str _ => true
  | _ => false
/-- == of flat values -/
def eqV : V → V → Bool
  | .non, .non => true
  | .bl a, .bl b => a == b
  | .bl a, .int b => (if a then 1 else 0) == b
  | .int a, .bl b => a == (if b then 1 else 0)
  | .int a, .int b => a == b
  | .str a, .str b => a == b
  | _, _ => false
theorem eqAt_V {A : Around} {s : Shared} {y x : V} {u v : Value} (ry : RelV y u) (rx : RelV x v) (fy : flatV y = true) (fx : flatV x = true) : SeqAt.EqAt A s u v (eqV y x) := by
  cases y with
  | non =>
    cases ry
    cases x with
    | non => cases rx; exact SeqAt.EqAt.same _
    | bl b => cases rx; exact SeqAt.EqAt.none_bool b
    | int b => obtain ⟨t, rfl⟩ := rx; exact SeqAt.EqAt.none_int b t
    | str b => obtain ⟨t, rfl⟩ := rx; exact SeqAt.EqAt.none_str b t
    | _ => exact absurd (show false = true from fx) Bool.false_ne_true
  | bl a =>
    cases ry
    cases x with
    | non => cases rx; exact SeqAt.EqAt.bool_none a
    | bl b => cases rx; exact SeqAt.EqAt.bool_bool a b
    | int b => obtain ⟨t, rfl⟩ := rx; exact SeqAt.EqAt.bool_int a b t
    | str b => obtain ⟨t, rfl⟩ := rx; exact SeqAt.EqAt.bool_str a b t
    | _ => exact absurd (show false = true from fx) Bool.false_ne_true
  | int a =>
    obtain ⟨t', rfl⟩ := ry
    cases x with
    | non => cases rx; exact SeqAt.EqAt.int_none a t'
    | bl b => cases rx; exact SeqAt.EqAt.int_bool a t' b
    | int b => obtain ⟨t, rfl⟩ := rx; exact SeqAt.EqAt.int_int a t' b t
    | str b => obtain ⟨t, rfl⟩ := rx; exact SeqAt.EqAt.int_str a t' b t
    | _ => exact absurd (show false = true from fx) Bool.false_ne_true
  | str a =>
    obtain ⟨t', rfl⟩ := ry
    cases x with
    | non => cases rx; exact SeqAt.EqAt.str_none a t'
    | bl b => cases rx; exact SeqAt.EqAt.str_bool a t' b
    | int b => obtain ⟨t, rfl⟩ := rx; exact SeqAt.EqAt.str_int a t' b t
    | str b => obtain ⟨t, rfl⟩ := rx; exact SeqAt.EqAt.str_str a t' b t
    | _ => exact absurd (show false = true from fx) Bool.false_ne_true
  | _ => exact absurd (show false = true from fy) Bool.false_ne_true
/-- the items' answers, read off the values (a value's own answer does not lean on its token) -/
def eqU (x : V) (u : Value) : Bool := match u with
  | .none => eqV .non x
  | .bool b => eqV (.bl b) x
  | .int i _ => eqV (.int i) x
  | .str z _ => eqV (.str z) x
  | _ => false
theorem eqU_of {x y : V} {u : Value} (r : RelV y u) (f : flatV y = true) : eqU x u = eqV y x := by
  cases y with
  | non => cases r; rfl
  | bl b => cases r; rfl
  | int i => obtain ⟨t, rfl⟩ := r; rfl
  | str z => obtain ⟨t, rfl⟩ := r; rfl
  | _ => exact absurd (show false = true from f) Bool.false_ne_true
theorem mem_eqAt {A : Around} {s : Shared} {x : V} {v : Value} (rx : RelV x v) (fx : flatV x = true) : ∀ {xs : List V} {us : List Value}, Vals xs us → xs.all flatV = true → ∀ u ∈ us, SeqAt.EqAt A s u v (eqU x u)
  | _, _, .nil, _ => fun u hu => by cases hu
  | y :: xs, u :: us, .cons r t, f => fun u' hu => by
    rw [List.all_cons, Bool.and_eq_true] at f
    rcases List.mem_cons.mp hu with rfl | hu
    · rw [eqU_of r f.1]; exact eqAt_V r rx f.1 fx
    · exact mem_eqAt rx fx t f.2 u' hu
theorem call_len_seq : CallR X (.builtin "len") (fun xs H Q => ∃ p ys, xs = [.ref p] ∧ (SqL X.K H p ys ∨ SqT X.K H p ys) ∧ Q (.int ys.length) H) := by
  intro pins s σ H xs us Q I r h
  obtain ⟨p, ys, rfl, hq, q⟩ := h
  obtain ⟨u, rfl, rx⟩ := vals1 r
  cases rx
  have hn := line63
  rcases hq with hq | hq
  · obtain ⟨its, r', pl, hz⟩ := I.list hq
    have hlen := r'.length
    exact Calls.call_len_list pl.isList (by simp only [List.size_toArray] <;> omega) ⟨.int ys.length, H, I.tok _, ⟨s.toks + 1, by rw [List.size_toArray, hlen]⟩, q⟩
  · obtain ⟨its, r', pl, hz⟩ := I.tuple hq
    have hlen := r'.length
    exact len_tuple pl (by simp only [List.size_toArray] <;> omega) ⟨.int ys.length, H, I.tok _, ⟨s.toks + 1, by rw [List.size_toArray, hlen]⟩, q⟩
theorem call_list_of : CallR X (.type "list") (fun xs H Q => ∃ p ys, xs = [.ref p] ∧ (SqL X.K H p ys ∨ SqT X.K H p ys) ∧ ∀ l, H l = none → Q (.ref l) (upd H l (.lst ys))) := by
  intro pins s σ H xs us Q I r h
  obtain ⟨p, ys, rfl, hq, q⟩ := h
  obtain ⟨u, rfl, rx⟩ := vals1 r
  cases rx
  have fin : ∀ (its : List Value), Vals ys its → ys.length ≤ sizeLine → ∀ (h' : Heap) (c' : Nat), (∀ b o', s.heap.get? b = some o' → h'.get? b = some o') →
      h'.get? s.heap.objs.size = some { cls := .type "list", dict := none, data := .seq its.toArray c', slots := #[] } → EP X pins σ Q (.ref s.heap.objs.size) { s with heap := h' } := fun its r' hz h' c' kp e =>
    ⟨.ref s.heap.objs.size, _, I.laid (t' := s.toks) kp (Nat.le_refl _) (show ObjOk X.prog X.w _ h' _ (.lst ys) from ⟨hz, its, c', r', e⟩), rfl, q _ (I.hok.fresh (Nat.le_refl _))⟩
  rcases hq with hq | hq
  · obtain ⟨its, r', pl, hz⟩ := I.list hq
    have hlen := r'.length
    obtain ⟨o, ho, hc, n, hd⟩ := pl.isList
    exact call_list_seq p (.inl rfl) ho hc hd (fun h' c' kp e => fin its r' hz h' c' kp e) (by simp only [List.size_toArray] <;> omega)
  · obtain ⟨its, r', pl, hz⟩ := I.tuple hq
    have hlen := r'.length
    obtain ⟨o, ho, hc, n, hd⟩ := pl
    exact call_list_seq p (.inr rfl) ho hc hd (fun h' c' kp e => fin its r' hz h' c' kp e) (by simp only [List.size_toArray] <;> omega)
/-- the value is of that builtin type -/
def tyV (K : PySem.W.Frag) (T : String) (x : V) (H : Hp) : Prop := match x with
  | .str _ => T = "str"
  | .int _ => T = "int"
  | .ref p => (T = "list" ∧ ∃ xs, SqL K H p xs) ∨ (T = "tuple" ∧ ∃ o, K.lookup p = some o ∧ o.cls = .type "tuple" ∧ o.dict = none) ∨
      (T = "dict" ∧ ((∃ kvs, H p = some (.dK kvs)) ∨ ∃ kvs, H p = some (.dT kvs))) ∨ (T = "set" ∧ ∃ S n, H p = some (.set S n))
  | _ => False
theorem tyV_is {pins : List (Addr × Obj)} {σ : St} {H : Hp} {s : Shared} {T : String} {x : V} {v : Value} (I : Inv X pins σ H s) (r : RelV x v) (ty : tyV X.K T x H) :
    s.TypeIs v T ∧ ∀ a, v = .ref a → ∃ ob, s.heap.get? a = some ob ∧ ob.dict = none := by
  cases x with
  | str z =>
    obtain ⟨t, rfl⟩ := r
    cases (show T = "str" from ty)
    exact ⟨typeIs_str s z t, fun _ e => nomatch e⟩
  | int i =>
    obtain ⟨t, rfl⟩ := r
    cases (show T = "int" from ty)
    exact ⟨typeIs_int s i t, fun _ e => nomatch e⟩
  | ref p =>
    cases r
    rcases ty with ⟨rfl, xs, hq⟩ | ⟨rfl, o, hk, hc, hd⟩ | ⟨rfl, hk⟩ | ⟨rfl, S, n, hk⟩
    · obtain ⟨its, _, pl, _⟩ := I.list hq
      refine ⟨pl.isList.typeIs, fun a e => ?_⟩
      cases e
      obtain ⟨o, n, e, c, hd, _⟩ := pl
      exact ⟨o, e, hd⟩
    · refine ⟨⟨o, I.kIn p o hk, hc⟩, fun a e => ?_⟩
      cases e
      exact ⟨o, I.kIn _ o hk, hd⟩
    · have z : ∃ o, s.heap.get? p = some o ∧ o.ExactDict := by
        rcases hk with ⟨kvs, hk⟩ | ⟨kvs, hk⟩
        · obtain ⟨_, _, _, _, o, _, _, e, ex, _⟩ := I.hok p _ hk
          exact ⟨o, e, ex⟩
        · obtain ⟨_, _, _, _, o, _, _, e, ex, _⟩ := I.hok p _ hk
          exact ⟨o, e, ex⟩
      obtain ⟨o, e, ex⟩ := z
      refine ⟨⟨o, e, ex.1⟩, fun a e2 => ?_⟩
      cases e2
      exact ⟨o, e, ex.2.1⟩
    · obtain ⟨o, _, _, _, e, ex, _⟩ := I.hok p _ hk
      refine ⟨⟨o, e, ex.1⟩, fun a e2 => ?_⟩
      cases e2
      exact ⟨o, e, ex.2.1⟩
  | _ => exact False.elim ty
def tBM0 (K : PySem.W.Frag) (T : String) (r : V → List V → Hp → VK → Prop) (to : TE) : TE := fun σ H Q => to σ H fun x H1 => tyV K T x H1 ∧ r x [] H1 Q
def tBM (K : PySem.W.Frag) (T : String) (r : V → List V → Hp → VK → Prop) (to : TE) (t : TA) : TE := fun σ H Q => to σ H fun x H1 => tyV K T x H1 ∧ t σ H1 fun xs H2 => r x xs H2 Q
variable {o e : Expr} {es : List Expr} {to : TE} {t : TA} {name : Str} {apos cpos : Pos} {T id : String} {r : V → List V → Hp → VK → Prop}
theorem pe_bm0 (pa : PlainAttrs T) (slot : Slot T name id) (hty : typeOf (.builtin id) = pure (.type "method_descriptor")) (hm : MtR X id r) (ho : PE X o to)
    (hbase : attributeBase o name X.env (eval o X.env) = eval o X.env := by rfl) (hline : (apos.endLine == cpos.line) = true := by rfl) : PE X (.Call (.Attribute o name apos) [] [] cpos) (tBM0 X.K T r to) := by
  intro pins s σ H Q I h
  refine wpAny_Call_method0_late hbase hline (thn (ho pins s σ H _ I h) fun v s1 ⟨x, H1, I1, r1, ty, q1⟩ => ?_)
  obtain ⟨h1, h2⟩ := tyV_is I1 r1 ty
  exact ⟨T, id, pa, slot, hty, h1, h2, Calls.callWith_builtin rfl (PySem.evalArgs_none (hm pins s1 σ H1 x [] v [] Q I1 r1 .nil q1))⟩
theorem pe_bm (pa : PlainAttrs T) (slot : Slot T name id) (hty : typeOf (.builtin id) = pure (.type "method_descriptor")) (hm : MtR X id r) (ho : PE X o to) (ha : PA X (e :: es) t)
    (hbase : attributeBase o name X.env (eval o X.env) = eval o X.env := by rfl)
    (hfew : ((backTo cpos (starEach (e :: es) X.env)).all (fun x => !x.1) && (backToKw cpos (keywordEach [] X.env)).all (fun x => x.1.isSome)
      && decide ((e :: es).length + ([] : List Keyword).length + (if ([] : List Keyword).isEmpty then 0 else 1) < 30)) = true := by rfl)
    (hline : (apos.endLine == cpos.line) = true := by rfl) (hs : starEach (e :: es) X.env = (false, eval e X.env) :: starEach es X.env := by rfl) (hplain : (backTo cpos (starEach es X.env)).any (·.1) = false := by rfl) :
    PE X (.Call (.Attribute o name apos) (e :: es) [] cpos) (tBM X.K T r to t) := by
  intro pins s σ H Q I h
  refine wpAny_Call_method_late hbase hfew hline rfl (thn (ho pins s σ H _ I h) fun v s1 ⟨x, H1, I1, r1, ty, q1⟩ => ?_)
  obtain ⟨h1, h2⟩ := tyV_is I1 r1 ty
  refine ⟨T, id, pa, slot, hty, h1, h2, ?_⟩
  have hA := ha cpos pins s1 σ H1 _ I1 q1
  rw [hs] at hA ⊢
  refine Calls.callWith_builtin (by show (false || (backTo cpos (starEach es X.env)).any (·.1)) = false; rw [hplain] <;> rfl) (Calls.evalArgs_plain ?_)
  exact thn hA fun us s2 ⟨vs, H2, I2, r2, q2⟩ => hm pins s2 σ H2 x vs v us Q I2 r1 r2 q2
/- xs.append(e), list.index on a module's tuple .. are MtR facts of 06m -/
end
end L2

namespace L2
open PySem PySem.Spec PyProof.Rows

def MtM (X : Cx) (id : String) (r : V → List V → Hp → VK → Prop) : Prop :=
  ∀ (pins : List (Addr × Obj)) (s : Shared) (σ : St) (H : Hp) (x : V) (xs : List V) (v : Value) (us : List Value) (Q : VK), Inv X pins σ H s → RelV x v → Vals xs us → r x xs H Q →
    wpAny (model X.prog X.w) X.A (call (.builtin id) (v :: us)) (EP X pins σ Q) X.xe s

theorem Vals.one : ∀ {x : V} {us : List Value}, Vals [x] us → ∃ u, us = [u] ∧ RelV x u
  | _, _, .cons r .nil => ⟨_, rfl, r⟩
theorem Vals.zero : ∀ {us : List Value}, Vals [] us → us = []
  | _, .nil => rfl
theorem Vals.dropLast {xs : List V} {us : List Value} (h : Vals xs us) : Vals xs.dropLast us.dropLast := by
  induction h with
  | nil => exact .nil
  | cons r t ih =>
    cases t with
    | nil => exact .nil
    | cons q t' => exact .cons r ih
theorem Vals.eraseIdx : ∀ {xs : List V} {us : List Value} (i : Nat), Vals xs us → Vals (xs.eraseIdx i) (us.eraseIdx i)
  | _, _, _, .nil => .nil
  | _, _, 0, .cons _ t => t
  | _, _, i + 1, .cons r t => .cons r (Vals.eraseIdx i t)
theorem erase_last {α : Type} (l : List α) : l.eraseIdx (l.length - 1) = l.dropLast := by
  induction l with
  | nil => rfl
  | cons a r ih =>
    cases r with
    | nil => rfl
    | cons b r =>
      have e : (a :: b :: r).length - 1 = ((b :: r).length - 1) + 1 := by
        have h1 : (a :: b :: r).length = r.length + 2 := rfl
        have h2 : (b :: r).length = r.length + 1 := rfl
        omega
      rw [e, List.eraseIdx_cons_succ, ih]
      all_goals rfl
section
variable {X : Cx} {pins : List (Addr × Obj)} {σ : St} {H : Hp} {s : Shared} {l b : Addr} {xs ys zs : List V}

theorem Inv.lset {its its' : List Value} {n : Nat} {f : Array Value → Array Value} {t' : Nat} (I : Inv X pins σ H s) (hH : H l = some (.lst xs))
    (e : s.heap.get? l = some { cls := .type "list", data := .seq its.toArray n }) (hf : f its.toArray = its'.toArray) (hv : Vals ys its') (hz : ys.length ≤ sizeLine) :
    Inv X pins σ (upd H l (.lst ys)) { s with heap := s.heap.update l (Obj.mapSeq f), toks := t' } := by
  have q := PySem.IsL.update e f
  rw [hf] at q
  refine I.write (x := l) (e := l) (by rw [hH]; exact trivial) (.inl rfl) (fun b' u hb hu => (Heap.get?_update_other s.heap (Obj.mapSeq f) (Ne.symm hb)).trans hu) ⟨_, q⟩ ?_
  exact ⟨hz, its', _, hv, q⟩
theorem Inv.lnew {its : List Value} {t' : Nat} (I : Inv X pins σ H s) (hv : Vals ys its) (hz : ys.length ≤ sizeLine) :
    Inv X pins σ (upd H s.heap.objs.size (.lst ys)) { s with heap := s.heap.push { cls := .type "list", data := .seq its.toArray }, toks := t' } :=
  I.laid (fun _ _ q => Heap.get?_push_of_some _ q) (Nat.le_refl _) ⟨hz, its, 0, hv, Heap.get?_push_size _ rfl⟩
theorem Inv.fresh (I : Inv X pins σ H s) : H s.heap.objs.size = none := I.hok.fresh (Nat.le_refl _)
theorem Inv.lstM (I : Inv X pins σ H s) (hH : H l = some (.lst xs)) : xs.length ≤ sizeLine ∧ ∃ (its : List Value) (n : Nat), Vals xs its ∧ xs.length = its.length ∧ s.heap.get? l = some { cls := .type "list", data := .seq its.toArray n } := by
  obtain ⟨z, its, n, r, e⟩ := I.hok l _ hH
  exact ⟨z, its, n, r, r.length, e⟩

theorem notLongL {n : Nat} (h : n ≤ sizeLine) : Builtin.List.listTooLong n = false := by
  unfold Builtin.List.listTooLong
  exact decide_eq_false (by omega)
end

section
variable {X : Cx}

def rAppend : V → List V → Hp → VK → Prop := fun x vs H Q => ∃ l xs y, x = .ref l ∧ vs = [y] ∧ H l = some (.lst xs) ∧ xs.length < sizeLine ∧ Q .non (upd H l (.lst (xs ++ [y])))
theorem mt_append : MtM X "list.append" rAppend := by
  intro pins s σ H x vs v us Q I rx rv h
  obtain ⟨l, xs, y, rfl, rfl, hH, hz, q⟩ := h
  cases rx
  obtain ⟨u, rfl, ru⟩ := rv.one
  obtain ⟨z, its, n, r, hl, e⟩ := I.lstM hH
  refine call_meets F.slot_list_append ⟨_, e, rfl⟩ F.entry_list_append (F.args_list_append_2 _ _) (PySem.list_append l its.toArray n u (by rw [List.size_toArray]; omega)) ⟨e, ?_⟩
  refine ⟨.non, _, I.lset (its' := its ++ [u]) hH e (by simp) (r.append (.cons ru .nil)) ?_, rfl, q⟩
  rw [List.length_append, List.length_singleton]
  omega

def rExtend : V → List V → Hp → VK → Prop := fun x vs H Q => ∃ l b xs zs, x = .ref l ∧ vs = [.ref b] ∧ H l = some (.lst xs) ∧ H b = some (.lst zs) ∧ xs.length + zs.length ≤ sizeLine ∧ Q .non (upd H l (.lst (xs ++ zs)))
theorem mt_extend : MtM X "list.extend" rExtend := by
  intro pins s σ H x vs v us Q I rx rv h
  obtain ⟨l, b, xs, zs, rfl, rfl, hH, hB, hz, q⟩ := h
  cases rx
  obtain ⟨u, rfl, ru⟩ := rv.one
  cases ru
  obtain ⟨z, its, n, r, hl, e⟩ := I.lstM hH
  obtain ⟨z2, its2, n2, r2, hl2, e2⟩ := I.lstM hB
  have hsz : its.toArray.size + its2.toArray.size ≤ sizeLine := by rw [List.size_toArray, List.size_toArray]; omega
  have hlong : ¬ (!its.toArray.isEmpty && Builtin.List.listTooLong (its.toArray.size + its2.toArray.size)) = true := by
    rw [notLongL hsz, Bool.and_false]
    exact Bool.false_ne_true
  refine call_meets F.slot_list_extend ⟨_, e, rfl⟩ F.entry_list_extend (F.args_list_extend_2 _ _)
    (AutoSeq1.list_extend_list_list_0 l its.toArray n b its2.toArray n2 hlong (by rw [List.size_toArray]; omega) (by omega)) ⟨e, e2, ?_⟩
  refine ⟨.non, _, I.lset (its' := its ++ its2) hH e (by simp) (r.append r2) ?_, rfl, q⟩
  rw [List.length_append]
  omega

def rPop : V → List V → Hp → VK → Prop := fun x vs H Q => ∃ l xs y, x = .ref l ∧ vs = [] ∧ H l = some (.lst xs) ∧ xs[xs.length - 1]? = some y ∧ Q y (upd H l (.lst xs.dropLast))
theorem mt_pop : MtM X "list.pop" rPop := by
  intro pins s σ H x vs v us Q I rx rv h
  obtain ⟨l, xs, y, rfl, rfl, hH, hy, q⟩ := h
  cases rx
  have hus := rv.zero
  subst hus
  obtain ⟨z, its, n, r, hl, e⟩ := I.lstM hH
  obtain ⟨u, hu, ru⟩ := r.get hy
  have hy' : its.toArray[its.toArray.size - 1]? = some u := by
    show its.toArray[its.length - 1]? = some u
    rw [← Array.getElem?_toList, ← hl]
    exact hu
  refine call_meets F.slot_list_pop ⟨_, e, rfl⟩ F.entry_list_pop (F.args_list_pop_1 _) (MeetsSeq.list_pop_last l its.toArray n u hy' (by rw [List.size_toArray]; omega)) ⟨e, ?_⟩
  refine ⟨y, _, I.lset (its' := its.dropLast) hH e ?_ r.dropLast ?_, ru, q⟩
  · show its.toArray.eraseIdxIfInBounds (its.toArray.size - 1) = its.dropLast.toArray
    rw [List.size_toArray, List.eraseIdxIfInBounds_toArray, erase_last]
  · rw [List.length_dropLast]
    omega

def rCat : R2 := fun x y H Q => ∃ l b xs zs, x = .ref l ∧ y = .ref b ∧ H l = some (.lst xs) ∧ H b = some (.lst zs) ∧ xs.length + zs.length ≤ sizeLine ∧ ∀ p, H p = none → Q (.ref p) (upd H p (.lst (xs ++ zs)))
theorem op_cat : OpR X (binaryOp .Add) rCat := by
  intro pins s σ H x y v u Q I rx ry h
  obtain ⟨l, b, xs, zs, rfl, rfl, hH, hB, hz, q⟩ := h
  cases rx
  cases ry
  obtain ⟨z, its, n, r, hl, e⟩ := I.lstM hH
  obtain ⟨z2, its2, n2, r2, hl2, e2⟩ := I.lstM hB
  refine PySem.P.add_list e e2 ?_ (by rw [List.size_toArray, List.size_toArray]; omega)
  have ea : its.toArray ++ its2.toArray = (its ++ its2).toArray := by simp
  rw [ea]
  exact ⟨.ref _, _, I.lnew (t' := s.toks) (r.append r2) (by rw [List.length_append]; omega), rfl, q _ I.fresh⟩
end

section
variable {prog : Program} {w : World} {A : Around} {E : Value → Shared → Prop} {s : Shared}
end

section
variable {X : Cx}
end
end L2

namespace L2
open PySem PySem.Spec PyProof.Rows

theorem Vals.ints : ∀ {ns : List Int} {us : List Value}, Vals (ns.map V.int) us → IntsAre us ns
  | [], us, h => by
    rw [List.map_nil] at h
    cases h
    exact IntsAre.nil
  | n :: ns, us, h => by
    rw [List.map_cons] at h
    cases h with
    | cons r t =>
      obtain ⟨k, rfl⟩ := r
      exact IntsAre.cons n k (Vals.ints t)
theorem Vals.strs : ∀ {xs : List Str} {us : List Value}, Vals (xs.map V.str) us → StrsAre us xs
  | [], us, h => by
    rw [List.map_nil] at h
    cases h
    exact StrsAre.nil
  | x :: xs, us, h => by
    rw [List.map_cons] at h
    cases h with
    | cons r t =>
      obtain ⟨k, rfl⟩ := r
      exact StrsAre.cons x k (Vals.strs t)
theorem Vals.ref1 {a : Addr} {us : List Value} (r : Vals [V.ref a] us) : us = [Value.ref a] := by
  cases r with
  | cons r t =>
    cases t
    cases r
    rfl
section
variable {prog : Program} {w : World} {A : Around} {E : Value → Shared → Prop} {s : Shared} {l : Addr} {its : List Value} {ns : List Int} {Q : Value → Shared → Prop}
theorem sum_raw (hh : A.handled = none) (hl : s.heap.IsList l its.toArray) (hi : IntsAre its ns)
    (h : ∀ h' tk t', (∀ b o, s.heap.get? b = some o → h'.get? b = some o) → Q (.int ns.sum t') { s with heap := h', toks := tk }) : wpAny (model prog w) A (call (.builtin "sum") [.ref l]) Q E s := by
  obtain ⟨xs, e⟩ := hi.allInts.items
  have hn : numsOf (intItems xs).toList = ns := by rw [← e]; exact hi.numsOf
  rw [nums_intItems] at hn
  rw [e] at hl
  refine PySem.sum_intListG hh hl fun h' tk t' hk => ?_
  have := h h' tk t' hk
  rw [preSum_eq, List.take_of_length_le (by simp), hn]; exact this
theorem max_raw (hh : A.handled = none) (hl : s.heap.IsList l its.toArray) (hi : IntsAre its ns) (hne : 0 < ns.length)
    (h : ∀ h' tk M t', (∀ b o, s.heap.get? b = some o → h'.get? b = some o) → M ∈ ns → (∀ a, a ∈ ns → a ≤ M) → Q (.int M t') { s with heap := h', toks := tk }) : wpAny (model prog w) A (call (.builtin "max") [.ref l]) Q E s := by
  obtain ⟨xs, e⟩ := hi.allInts.items
  have hn : numsOf (intItems xs).toList = ns := by rw [← e]; exact hi.numsOf
  rw [nums_intItems] at hn
  subst hn
  rw [e] at hl
  have hsz : 0 < xs.size := by simpa using hne
  refine PySem.max_intList hh hl hsz fun v h' tk hv hk => ?_
  obtain ⟨t, rfl⟩ := intItems_at hv
  obtain ⟨h1, h2⟩ := argBest_gt (numAt xs) (xs.size - 1)
  refine h h' tk _ t hk ?_ fun a ha => ?_
  · rw [numAt_eq]; exact PySem.getD_mem (by rw [List.length_map, Array.length_toList]; omega)
  · obtain ⟨j, hj, rfl⟩ := mem_getD ha
    rw [List.length_map, Array.length_toList] at hj
    rw [← numAt_eq]; exact h2 j (by omega)
theorem min_raw (hh : A.handled = none) (hl : s.heap.IsList l its.toArray) (hi : IntsAre its ns) (hne : 0 < ns.length)
    (h : ∀ h' tk M t', (∀ b o, s.heap.get? b = some o → h'.get? b = some o) → M ∈ ns → (∀ a, a ∈ ns → M ≤ a) → Q (.int M t') { s with heap := h', toks := tk }) : wpAny (model prog w) A (call (.builtin "min") [.ref l]) Q E s := by
  obtain ⟨xs, e⟩ := hi.allInts.items
  have hn : numsOf (intItems xs).toList = ns := by rw [← e]; exact hi.numsOf
  rw [nums_intItems] at hn
  subst hn
  rw [e] at hl
  have hsz : 0 < xs.size := by simpa using hne
  refine PySem.min_intList hh hl hsz fun v h' tk hv hk => ?_
  obtain ⟨t, rfl⟩ := intItems_at hv
  obtain ⟨h1, h2⟩ := argBest_lt (numAt xs) (xs.size - 1)
  refine h h' tk _ t hk ?_ fun a ha => ?_
  · rw [numAt_eq]; exact PySem.getD_mem (by rw [List.length_map, Array.length_toList]; omega)
  · obtain ⟨j, hj, rfl⟩ := mem_getD ha
    rw [List.length_map, Array.length_toList] at hj
    rw [← numAt_eq]; exact h2 j (by omega)
end

section
variable {X : Cx}
/-- sum(xs) of a list of ints -/
def rSum (K : PySem.W.Frag) : List V → Hp → VK → Prop := fun vs H Q => ∃ (a : Addr) (ns : List Int), vs = [V.ref a] ∧ SqL K H a (ns.map V.int) ∧ Q (.int ns.sum) H
/-- max(xs), min(xs) of a list of ints -/
def rMax (K : PySem.W.Frag) : List V → Hp → VK → Prop := fun vs H Q => ∃ (a : Addr) (ns : List Int), vs = [V.ref a] ∧ SqL K H a (ns.map V.int) ∧ 0 < ns.length ∧ ∀ m, m ∈ ns → (∀ y, y ∈ ns → y ≤ m) → Q (.int m) H
def rMin (K : PySem.W.Frag) : List V → Hp → VK → Prop := fun vs H Q => ∃ (a : Addr) (ns : List Int), vs = [V.ref a] ∧ SqL K H a (ns.map V.int) ∧ 0 < ns.length ∧ ∀ m, m ∈ ns → (∀ y, y ∈ ns → m ≤ y) → Q (.int m) H
theorem cr_sum (hc : X.calm = true) : CallR X (.builtin "sum") (rSum X.K) := by
  intro pins s σ H vs us Q I r h
  obtain ⟨a, ns, rfl, hs, q⟩ := h
  obtain ⟨its, rv, hl, _⟩ := I.list hs
  rw [Vals.ref1 r]
  exact sum_raw (I.ok.hd hc) hl.isList rv.ints fun h' tk t' hk => ⟨.int _, H, I.kept hk, ⟨_, rfl⟩, q⟩
theorem cr_max (hc : X.calm = true) : CallR X (.builtin "max") (rMax X.K) := by
  intro pins s σ H vs us Q I r h
  obtain ⟨a, ns, rfl, hs, hne, q⟩ := h
  obtain ⟨its, rv, hl, _⟩ := I.list hs
  rw [Vals.ref1 r]
  exact max_raw (I.ok.hd hc) hl.isList rv.ints hne fun h' tk m t' hk h1 h2 => ⟨.int _, H, I.kept hk, ⟨_, rfl⟩, q m h1 h2⟩
theorem cr_min (hc : X.calm = true) : CallR X (.builtin "min") (rMin X.K) := by
  intro pins s σ H vs us Q I r h
  obtain ⟨a, ns, rfl, hs, hne, q⟩ := h
  obtain ⟨its, rv, hl, _⟩ := I.list hs
  rw [Vals.ref1 r]
  exact min_raw (I.ok.hd hc) hl.isList rv.ints hne fun h' tk m t' hk h1 h2 => ⟨.int _, H, I.kept hk, ⟨_, rfl⟩, q m h1 h2⟩

end

section
variable {X : Cx}
def rIndex (K : PySem.W.Frag) : V → List V → Hp → VK → Prop := fun x xs H Q => ∃ (a : Addr) (ys : List V) (y : V) (j : Nat) (z : V), x = V.ref a ∧ xs = [y] ∧ SqL K H a ys ∧ flatV y = true ∧ ys.all flatV = true ∧ ys[j]? = some z ∧ eqV z y = true ∧
  (∀ (m : Nat) (z' : V), m < j → ys[m]? = some z' → eqV z' y = false) ∧ Q (.int (j : Nat)) H
theorem flat_at {ys : List V} (f : ys.all flatV = true) {j : Nat} {z : V} (h : ys[j]? = some z) : flatV z = true := List.all_eq_true.mp f z (List.mem_of_getElem? h)
theorem mt_index : MtR X "list.index" (rIndex X.K) := by
  intro pins s σ H x xs v us Q I rx rxs h
  obtain ⟨a, ys, y, j, z, rfl, rfl, hs, fy, fys, hz, hzj, hno, q⟩ := h
  cases rx
  cases rxs with
  | cons ry rt =>
    rename_i uy ut
    cases rt
    obtain ⟨its, rv, ⟨⟨cls, dd, data, sl⟩, n, ho, hc, hdn, hd⟩, hlen⟩ := I.list hs
    simp only at hc hd
    subst hc hd
    obtain ⟨u, hu, ru⟩ := rv.get hz
    obtain ⟨hjl, hje⟩ := List.getElem?_eq_some_iff.mp hu
    have hvl := rv.length
    have hj : j < its.toArray.size := by simpa using hjl
    have hsl := sizeLine_eq
    refine call_meets PySem.F.slot_list_index ⟨_, ho, rfl⟩ PySem.F.entry_list_index (PySem.F.args_list_index_2 _ _)
      (SeqAt.list_indexAt a its.toArray n dd sl uy (eqU y) j hj (by omega) ?_ ?_) ⟨ho, fun u' hu' => mem_eqAt ry fy rv fys u' (by simpa using hu'), ?_⟩
    · have e1 : its.toArray[j] = u := by simpa using hje
      rw [e1, eqU_of ru (flat_at fys hz)]
      exact hzj
    · intro m hm hmj
      have hml : m < its.length := by simpa using hm
      have hmy : m < ys.length := by omega
      have hy' : ys[m]? = some ys[m] := List.getElem?_eq_getElem hmy
      obtain ⟨u2, hu2, ru2⟩ := rv.get hy'
      obtain ⟨_, hme⟩ := List.getElem?_eq_some_iff.mp hu2
      have e1 : its.toArray[m] = u2 := by simpa using hme
      rw [e1, eqU_of ru2 (flat_at fys hy')]
      exact hno m _ hmj hy'
    · exact ⟨.int (j : Nat), H, I.tok _, ⟨_, rfl⟩, q⟩
end

section
variable {X : Cx}
end

section
variable {X : Cx}
end

mutual
inductive Dp (K : PySem.W.Frag) (H : Hp) : V → PyData → Prop
  | non : Dp K H .non .none
  | bl (b : Bool) : Dp K H (.bl b) (.bool b)
  | int (i : Int) : Dp K H (.int i) (.int i)
  | str (x : Str) : Dp K H (.str x) (.str x)
  | lst {a : Addr} {xs : List V} {ds : List PyData} : SqL K H a xs → DpAll K H xs ds → Dp K H (.ref a) (.list ds)
  | tup {a : Addr} {xs : List V} {ds : List PyData} : SqT K H a xs → DpAll K H xs ds → Dp K H (.ref a) (.tuple ds)
inductive DpAll (K : PySem.W.Frag) (H : Hp) : List V → List PyData → Prop
  | nil : DpAll K H [] []
  | cons {v : V} {vs : List V} {d : PyData} {ds : List PyData} : Dp K H v d → DpAll K H vs ds → DpAll K H (v :: vs) (d :: ds)
end
section
variable {X : Cx} {pins : List (Addr × Obj)} {σ : St} {H : Hp} {s : Shared}
mutual
theorem Dp.reads (I : Inv X pins σ H s) : ∀ (d : PyData) (v : V) (u : Value), Dp X.K H v d → RelV v u → ∃ as, Reads s.heap u d as
  | .none, _, _, h, r => by
    cases h
    cases r
    exact ⟨_, Reads.none⟩
  | .bool b, _, _, h, r => by
    cases h
    cases r
    exact ⟨_, Reads.bool b⟩
  | .int i, _, _, h, r => by
    cases h
    obtain ⟨t, rfl⟩ := r
    exact ⟨_, Reads.int i t⟩
  | .str x, _, _, h, r => by
    cases h
    obtain ⟨t, rfl⟩ := r
    exact ⟨_, Reads.str x t⟩
  | .list ds, _, _, h, r => by
    cases h with
    | lst hs ha =>
      cases r
      obtain ⟨its, rv, ⟨o, n, ho, hc, _, hd⟩, _⟩ := I.list hs
      obtain ⟨as, hr⟩ := Dp.readsAll I ds _ its ha rv
      exact ⟨_, Reads.list ho hc hd hr⟩
  | .tuple ds, _, _, h, r => by
    cases h with
    | tup hs ha =>
      cases r
      obtain ⟨its, rv, ⟨o, ho, hc, n, hd⟩, _⟩ := I.tuple hs
      obtain ⟨as, hr⟩ := Dp.readsAll I ds _ its ha rv
      exact ⟨_, Reads.tuple ho hc hd hr⟩
  | .dict _, _, _, h, _ => by cases h
theorem Dp.readsAll (I : Inv X pins σ H s) : ∀ (ds : List PyData) (vs : List V) (us : List Value), DpAll X.K H vs ds → Vals vs us → ∃ as, ReadsAll s.heap us ds as
  | [], _, _, h, r => by
    cases h
    cases r
    exact ⟨_, ReadsAll.nil⟩
  | d :: ds, _, _, h, r => by
    cases h with
    | cons h1 h2 =>
      cases r with
      | cons r1 r2 =>
        obtain ⟨as, q1⟩ := Dp.reads I d _ _ h1 r1
        obtain ⟨bs, q2⟩ := Dp.readsAll I ds _ _ h2 r2
        exact ⟨_, ReadsAll.cons q1 q2⟩
end
end
section
variable {X : Cx}
end
end L2

namespace L2
open PySem PySem.Spec PyProof.Rows
abbrev CellAt (h : Heap) (c : Addr) (v : Option Value) : Prop := h.IsCell c v
def relS (scope sc : Scope) : Scope :=
  { scope with names := scope.names.map fun (n, k) => if (k == .free && sc.kind == .function && sc.names.lookup n == some .cell) then (n, .cell) else (n, k) }

def cloFrom (cells : List (Str × Addr)) : List (Str × NameKind) → List (Str × Addr) → List (Str × Addr)
  | [], acc => acc
  | (n, k) :: r, acc => if k == .free then cloFrom cells r ((n, (cells.lookup n).getD 0) :: acc) else cloFrom cells r acc

theorem closure_loop (env : Env) (f : Str × NameKind → List (Str × Addr) → Sem (ForInStep (List (Str × Addr))))
    (hf : ∀ n k c, f (n, k) c = if k == .free then (do let a ← cellOf env n; pure (.yield ((n, a) :: c))) else pure (.yield c)) :
    ∀ (names : List (Str × NameKind)) (acc : List (Str × Addr)), (∀ y ∈ names, y.2 = .free → ∃ c, env.cells.lookup y.1 = some c) → forIn names acc f = pure (cloFrom env.cells names acc)
  | [], acc, _ => by rw [List.forIn_nil]; rfl
  | (n, k) :: r, acc, h => by
    rw [List.forIn_cons, hf]
    have ih := fun acc => closure_loop env f hf r acc fun y hy => h y (List.mem_cons_of_mem _ hy)
    unfold cloFrom
    by_cases hk : (k == NameKind.free) = true
    · rw [if_pos hk, if_pos hk]
      obtain ⟨c, hc⟩ := h (n, k) List.mem_cons_self (by simpa using hk)
      have e : cellOf env n = pure c := by unfold cellOf; rw [hc]
      rw [e]
      have e2 : (env.cells.lookup n).getD 0 = c := by rw [hc]; rfl
      rw [e2]
      exact ih _
    · rw [if_neg hk, if_neg hk]
      exact ih _
theorem closure_ok {scope : Scope} {env : Env} (h : ∀ y ∈ scope.names, y.2 = .free → ∃ c, env.cells.lookup y.1 = some c) : closureFor scope env = pure (cloFrom env.cells scope.names []) := by
  simp only [closureFor]
  rw [closure_loop env _ (fun n k c => rfl) scope.names [] h]
  rfl

theorem mem_lookup {α : Type} : ∀ {l : List (Str × α)} {n : Str} {c : α}, (n, c) ∈ l → ∃ c', l.lookup n = some c'
  | (k, v) :: r, n, c, h => by
    rw [List.lookup_cons]
    cases hb : n == k with
    | true => exact ⟨_, rfl⟩
    | false =>
      rcases List.mem_cons.mp h with e | h
      · cases e; simp at hb
      · exact mem_lookup h

theorem cloFrom_mem {cells : List (Str × Addr)} : ∀ {names : List (Str × NameKind)} {acc : List (Str × Addr)} {n : Str} {c : Addr}, (n, c) ∈ cloFrom cells names acc → (n, c) ∈ acc ∨ ((n, .free) ∈ names ∧ c = (cells.lookup n).getD 0)
  | [], _, _, _, h => .inl h
  | (m, k) :: r, acc, n, c, h => by
    unfold cloFrom at h
    split at h
    · rename_i hk
      have hk : k = .free := by simpa using hk
      rcases cloFrom_mem h with h | ⟨h1, h2⟩
      · rcases List.mem_cons.mp h with e | h
        · cases e; exact .inr ⟨hk ▸ List.mem_cons_self, rfl⟩
        · exact .inl h
      · exact .inr ⟨List.mem_cons_of_mem _ h1, h2⟩
    · rcases cloFrom_mem h with h | ⟨h1, h2⟩
      · exact .inl h
      · exact .inr ⟨List.mem_cons_of_mem _ h1, h2⟩
theorem cloFrom_acc {cells : List (Str × Addr)} : ∀ {names : List (Str × NameKind)} {acc : List (Str × Addr)} {p : Str × Addr}, p ∈ acc → p ∈ cloFrom cells names acc
  | [], _, _, h => h
  | (m, k) :: r, acc, p, h => by
    unfold cloFrom
    split
    · exact cloFrom_acc (List.mem_cons_of_mem _ h)
    · exact cloFrom_acc h
theorem cloFrom_has {cells : List (Str × Addr)} : ∀ {names : List (Str × NameKind)} {acc : List (Str × Addr)} {n : Str}, (n, .free) ∈ names → (n, (cells.lookup n).getD 0) ∈ cloFrom cells names acc
  | (m, k) :: r, acc, n, h => by
    unfold cloFrom
    rcases List.mem_cons.mp h with e | h
    · cases e
      exact cloFrom_acc List.mem_cons_self
    · split
      · exact cloFrom_has h
      · exact cloFrom_has h

theorem cells_mem : ∀ {names : List (Str × NameKind)} {h : Heap} {acc : List (Str × Addr)} {x : Str} {c : Addr}, (x, c) ∈ cellsFrom h.objs.size names acc →
    (x, c) ∈ acc ∨ ((x, .cell) ∈ names ∧ h.objs.size ≤ c ∧ CellAt (pushCells h names) c none)
  | [], _, _, _, _, h => .inl h
  | (n, k) :: r, h, acc, x, c, hm => by
    unfold cellsFrom at hm
    unfold pushCells
    split at hm
    · rename_i hk
      rw [if_pos hk]
      have hk : k = .cell := by simpa using hk
      rw [← Heap.size_push h { cls := .type "cell", data := .cell none }] at hm
      rcases cells_mem hm with hm | ⟨h1, h2, h3⟩
      · rcases List.mem_cons.mp hm with e | hm
        · cases e
          exact .inr ⟨hk ▸ List.mem_cons_self, Nat.le_refl _, _, pushCells_keeps r _ _ _ (Heap.get?_push_size _ rfl), rfl⟩
        · exact .inl hm
      · rw [Heap.size_push] at h2
        exact .inr ⟨List.mem_cons_of_mem _ h1, Nat.le_of_succ_le h2, h3⟩
    · rename_i hk
      rw [if_neg hk]
      rcases cells_mem hm with hm | ⟨h1, h2, h3⟩
      · exact .inl hm
      · exact .inr ⟨List.mem_cons_of_mem _ h1, h2, h3⟩
theorem cells_acc : ∀ {names : List (Str × NameKind)} {n : Nat} {acc : List (Str × Addr)} {p : Str × Addr}, p ∈ acc → p ∈ cellsFrom n names acc
  | [], _, _, _, h => h
  | (m, k) :: r, n, acc, p, h => by
    unfold cellsFrom
    split
    · exact cells_acc (List.mem_cons_of_mem _ h)
    · exact cells_acc h
theorem cells_has : ∀ {names : List (Str × NameKind)} {n : Nat} {acc : List (Str × Addr)} {x : Str}, (x, .cell) ∈ names → ∃ c, (x, c) ∈ cellsFrom n names acc
  | (m, k) :: r, n, acc, x, h => by
    unfold cellsFrom
    rcases List.mem_cons.mp h with e | h
    · cases e
      exact ⟨n, cells_acc List.mem_cons_self⟩
    · split
      · exact cells_has h
      · exact cells_has h
theorem cells_inj : ∀ {names : List (Str × NameKind)} {h : Heap} {acc : List (Str × Addr)} {x y : Str} {c : Addr}, (∀ p ∈ acc, p.2 < h.objs.size) → (∀ x y c, (x, c) ∈ acc → (y, c) ∈ acc → x = y) →
    (x, c) ∈ cellsFrom h.objs.size names acc → (y, c) ∈ cellsFrom h.objs.size names acc → x = y
  | [], _, _, _, _, _, _, hi, h1, h2 => hi _ _ _ h1 h2
  | (n, k) :: r, h, acc, x, y, c, hl, hi, h1, h2 => by
    unfold cellsFrom at h1 h2
    split at h1
    · rename_i hk
      rw [if_pos hk] at h2
      rw [← Heap.size_push h { cls := .type "cell", data := .cell none }] at h1 h2
      refine cells_inj (h := h.push _) (fun p hp => ?_) (fun x y c a b => ?_) h1 h2
      · rw [Heap.size_push]
        rcases List.mem_cons.mp hp with rfl | hp
        · exact Nat.lt_succ_self _
        · exact Nat.lt_succ_of_lt (hl p hp)
      · rcases List.mem_cons.mp a with e | a <;> rcases List.mem_cons.mp b with e' | b
        · cases e; cases e'; rfl
        · cases e; exact absurd (hl _ b) (Nat.lt_irrefl _)
        · cases e'; exact absurd (hl _ a) (Nat.lt_irrefl _)
        · exact hi _ _ _ a b
    · rename_i hk
      rw [if_neg hk] at h2
      exact cells_inj hl hi h1 h2

theorem newEnv_comp {M : Model} {A : Around} {E : Value → Shared → Prop} {s : Shared} {scope : Scope} {globals : Addr} {closure : List (Str × Addr)} {qual : Str} {func : Option Addr} {code : Value} {around : Env} {builtins : Addr} {Q : Env → Shared → Prop}
    (h : Q (newEnv scope s.heap.objs.size globals (cellsFrom (s.heap.objs.size + 1) scope.names closure) qual func code (some around) builtins)
      { s with heap := pushCells (s.heap.push { cls := .type "dict", data := .dict #[] }) scope.names }) :
    wpAny M A (newFunctionEnv scope globals closure [] qual func code (some around) builtins) Q E s := by
  simp only [newFunctionEnv, Option.isSome_some, if_true]
  refine wpAny_bind (wpAny_alloc ?_)
  refine wpAny_bind (wpAny_layCells _ (fun n k c => rfl) scope.names closure _ _ ?_)
  rw [show ({ s with heap := s.heap.push { cls := .type "dict", data := .dict #[] } } : Shared).heap.objs.size = s.heap.objs.size + 1 from Heap.size_push ..]
  rw [List.forIn_nil]
  exact wpAny_bind (wpAny_pure (wpAny_pure h))

/-- every name of the written scope, in the scope that runs -/
theorem lookup_relS {sc : Scope} : ∀ {names : List (Str × NameKind)} {x : Str} {k : NameKind},
    (names.map fun (n, k) => if (k == NameKind.free && sc.kind == .function && sc.names.lookup n == some .cell) then (n, NameKind.cell) else (n, k)).lookup x = some k →
    ∃ k', names.lookup x = some k' ∧ (k = k' ∨ (k' = .free ∧ k = .cell))
  | [], _, _, h => by simp at h
  | (n, k₀) :: r, x, k, h => by
    have ih := @lookup_relS sc r x k
    have h' : List.lookup x ((if (k₀ == NameKind.free && sc.kind == .function && sc.names.lookup n == some .cell) = true then (n, NameKind.cell) else (n, k₀)) :: (r.map _)) = some k := h
    cases hx : x == n with
    | true =>
      simp only [List.lookup_cons, hx]
      by_cases hc : (k₀ == NameKind.free && sc.kind == .function && sc.names.lookup n == some .cell) = true
      · rw [if_pos hc] at h'
        simp only [List.lookup_cons, hx] at h'
        cases h'
        simp only [Bool.and_eq_true, beq_iff_eq] at hc
        exact ⟨k₀, rfl, .inr ⟨hc.1.1, rfl⟩⟩
      · rw [if_neg hc] at h'
        simp only [List.lookup_cons, hx] at h'
        cases h'
        exact ⟨_, rfl, .inl rfl⟩
    | false =>
      simp only [List.lookup_cons, hx]
      by_cases hc : (k₀ == NameKind.free && sc.kind == .function && sc.names.lookup n == some .cell) = true
      · rw [if_pos hc] at h'
        simp only [List.lookup_cons, hx] at h'
        exact ih h'
      · rw [if_neg hc] at h'
        simp only [List.lookup_cons, hx] at h'
        exact ih h'
/-- the names of a comprehension's block: its own (with their places in N), or captured -/
structure BlkOk (N : List Str) (sc scope : Scope) (own : List (Str × Nat)) : Prop where
  kind : scope.kind = .function
  uniq : ∀ y ∈ scope.names, scope.names.lookup y.1 = some y.2
  ix : ∀ p ∈ own, N[p.2]? = some p.1
  free : ∀ y ∈ scope.names, y.2 = .free → sc.names.lookup y.1 = some .cell ∨ sc.names.lookup y.1 = some .free
  own : ∀ y ∈ scope.names, y.2 = .local ∨ y.2 = .cell → y.1 ∈ own.map (·.1) ∨ y.1 ∉ N
/-- the slots of the block's own names forgotten -/
def wipe (σ : St) : List Nat → St
  | [] => σ
  | v :: vs => (wipe σ vs).set v none
theorem wipe_length (σ : St) : ∀ vs : List Nat, (wipe σ vs).length = σ.length
  | [] => rfl
  | v :: vs => by unfold wipe; rw [List.length_set, wipe_length σ vs]
theorem wipe_some {σ : St} {i : Nat} {x : V} : ∀ {vs : List Nat}, (wipe σ vs)[i]? = some (some x) → σ[i]? = some (some x) ∧ i ∉ vs
  | [], h => ⟨h, by simp⟩
  | v :: vs, h => by
    unfold wipe at h
    by_cases hi : v = i
    · subst hi
      by_cases hv : v < (wipe σ vs).length
      · rw [List.getElem?_set_self hv] at h; cases h
      · rw [List.getElem?_eq_none (by simpa using hv)] at h; cases h
    · rw [List.getElem?_set_ne hi] at h
      obtain ⟨h1, h2⟩ := wipe_some h
      exact ⟨h1, by simp only [List.mem_cons, not_or]; exact ⟨fun e => hi e.symm, h2⟩⟩

/-- the context of a block that starts at s, its iterator's objects at fp -/
abbrev Cx.blk (X : Cx) (s : Shared) (H : Hp) (scope : Scope) (cenv : Env) (fp : List Addr) : Cx := { X with s_0 := s, H_0 := H, env := cenv, outer := X.stack, ex := fp, fn := fun x => scope.names.lookup x == some .cell, pn := [], xe := fun _ _ => False }
section
variable {X : Cx} {pins : List (Addr × Obj)} {σ : St} {H : Hp} {s : Shared}
theorem block_start {scope : Scope} {own : List (Str × Nat)} {fp : List Addr} (I : Inv X pins σ H s) (ok : BlkOk X.N X.env.scope scope own) (hN : X.N.Nodup) (hfp : ∀ b ∈ fp, FpOk X pins H b ∧ b < s.heap.objs.size) :
    Inv (X.blk s H scope (compEnvC scope (cellsFrom (s.heap.objs.size + 1) scope.names (cloFrom X.env.cells scope.names [])) s.heap.objs.size X.env) fp) [] (wipe σ (own.map (·.2))) H { s with heap := pushCells (s.heap.push { cls := .type "dict", data := .dict #[] }) scope.names } := by
  have hfree : ∀ y ∈ scope.names, y.2 = .free → ∃ c, X.env.cells.lookup y.1 = some c := fun y hy e => by
    rcases ok.free y hy e with k | k
    · exact I.ok.has _ (.inl k)
    · exact I.ok.has _ (.inr k)
  generalize hcenv : compEnvC scope (cellsFrom (s.heap.objs.size + 1) scope.names (cloFrom X.env.cells scope.names [])) s.heap.objs.size X.env = cenv
  have kp : ∀ b o, s.heap.get? b = some o → (pushCells (s.heap.push { cls := .type "dict", data := .dict #[] }) scope.names).get? b = some o := fun b o e => pushCells_keeps _ _ _ _ (Heap.get?_push_of_some _ e)
  have hL : cenv.locals = s.heap.objs.size := by rw [← hcenv]; rfl
  have hcl : cenv.cells = cellsFrom (s.heap.objs.size + 1) scope.names (cloFrom X.env.cells scope.names []) := by rw [← hcenv]; rfl
  have hsc : cenv.scope = relS scope X.env.scope := by rw [← hcenv]; rfl
  rw [← Heap.size_push s.heap { cls := .type "dict", data := .dict #[] }] at hcl
  have cm : ∀ {y c}, (y, c) ∈ cloFrom X.env.cells scope.names [] → X.env.cells.lookup y = some c ∧ c < s.heap.objs.size := fun {y c} hm => by
    rcases cloFrom_mem hm with hm | ⟨h1, rfl⟩
    · cases hm
    · obtain ⟨c, hc⟩ := hfree _ h1 rfl
      rw [hc]
      obtain ⟨w, z⟩ := I.cell _ _ hc
      exact ⟨rfl, z.lt⟩
  have mem : ∀ {y c}, cenv.cells.lookup y = some c → (X.env.cells.lookup y = some c ∧ c < s.heap.objs.size) ∨ (s.heap.objs.size + 1 ≤ c ∧ CellAt (pushCells (s.heap.push { cls := .type "dict", data := .dict #[] }) scope.names) c none) := fun {y c} e => by
    rw [hcl] at e
    rcases cells_mem (PySem.mem_of_lookup e) with hm | ⟨_, h2, h3⟩
    · exact .inl (cm hm)
    · rw [Heap.size_push] at h2; exact .inr ⟨h2, h3⟩
  have look : ∀ {y}, scope.names.lookup y = some .free → ∃ c, cenv.cells.lookup y = some c ∧ X.env.cells.lookup y = some c := fun {y} hl => by
    have hy : (y, NameKind.free) ∈ scope.names := PySem.mem_of_lookup hl
    obtain ⟨c', e'⟩ := mem_lookup (cells_acc (names := scope.names) (n := (s.heap.push { cls := .type "dict", data := .dict #[] }).objs.size) (cloFrom_has (cells := X.env.cells) (acc := []) hy))
    rw [← hcl] at e'
    refine ⟨c', e', ?_⟩
    rw [hcl] at e'
    rcases cells_mem (PySem.mem_of_lookup e') with hm | ⟨h1, _, _⟩
    · exact (cm hm).1
    · have := ok.uniq _ h1
      rw [hl] at this; cases this
  have okB : (X.blk s H scope cenv fp).Ok := by
    refine ⟨I.ok.mod, by show cenv.scope.kind = _; rw [hsc]; exact ok.kind, by show cenv.globals = _; rw [← hcenv]; exact I.ok.glob, by show cenv.builtins = _; rw [← hcenv]; exact I.ok.blt, by show s.heap.objs.size ≤ cenv.locals; rw [hL]; exact Nat.le_refl _,
      fun y z c e1 e2 => ?_, fun y hy => ?_, fun y c z e => ?_, I.ok.hd, I.ok.frames, .inl rfl, fun b hb => ⟨?_, fun y c e z => ?_⟩, I.bs, Nat.le_trans I.ok.bsz I.sz, fun b o e hb => ?_, fun b hb z => ?_, I.stack, I.stkFree⟩
    · have e1 : cenv.cells.lookup y = some c := e1
      have e2 : cenv.cells.lookup z = some c := e2
      rw [hcl] at e1 e2
      refine cells_inj (fun p hp => ?_) (fun y z c a b => I.ok.inj y z c (cm a).1 (cm b).1) (PySem.mem_of_lookup e1) (PySem.mem_of_lookup e2)
      rw [Heap.size_push]
      exact Nat.lt_succ_of_lt (cm (y := p.1) (c := p.2) hp).2
    · show ∃ c, cenv.cells.lookup y = some c
      have key : ∀ k, cenv.kindOf y = some k → (k = .cell ∨ k = .free) → ∃ c, cenv.cells.lookup y = some c := fun k hk hk' => by
        unfold Env.kindOf at hk
        rw [hsc] at hk
        obtain ⟨k', e, r⟩ := lookup_relS hk
        have : k' = .cell ∨ k' = .free := by
          rcases r with rfl | ⟨rfl, _⟩
          · exact hk'
          · exact .inr rfl
        rcases this with rfl | rfl
        · obtain ⟨c, hm⟩ := cells_has (n := (s.heap.push { cls := .type "dict", data := .dict #[] }).objs.size) (acc := cloFrom X.env.cells scope.names []) (PySem.mem_of_lookup e)
          obtain ⟨c', e'⟩ := mem_lookup hm
          exact ⟨c', by rw [hcl]; exact e'⟩
        · obtain ⟨c, h1, _⟩ := look e
          exact ⟨c, h1⟩
      rcases hy with hy | hy
      · exact key _ hy (.inl rfl)
      · exact key _ hy (.inr rfl)
    · have z : (scope.names.lookup y == some NameKind.cell) = true := z
      have z : scope.names.lookup y = some .cell := by simpa using z
      have e : cenv.cells.lookup y = some c := e
      rw [hcl] at e
      rcases cells_mem (PySem.mem_of_lookup e) with hm | ⟨_, h2, _⟩
      · rcases cloFrom_mem hm with hm | ⟨h1, _⟩
        · cases hm
        · have q := ok.uniq _ h1
          rw [z] at q; cases q
      · rw [Heap.size_push] at h2
        exact Nat.le_of_succ_le h2
    · show b ≠ cenv.locals
      rw [hL]; exact Nat.ne_of_lt (hfp b hb).2
    · have e : cenv.cells.lookup y = some c := e
      rcases mem e with ⟨h1, _⟩ | ⟨h1, _⟩
      · exact (hfp b hb).1.2.2.2.2.1 y c h1 z
      · have h2 : s.heap.objs.size + 1 ≤ b := by rw [← z]; exact h1
        exact absurd (Nat.lt_of_lt_of_le (hfp b hb).2 (Nat.le_of_succ_le h2)) (Nat.lt_irrefl _)
    · rcases (hfp b hb).1.2.2.2.1 with z | z
      · exact I.ok.noex b o e z
      · exact absurd (Nat.lt_of_lt_of_le (Heap.lt_size e) (Nat.le_trans I.ok.bsz z)) (Nat.lt_irrefl _)
    · rcases List.mem_cons.mp (I.stkSub b z) with z | z
      · exact (hfp b hb).1.2.1 z
      · exact (hfp b hb).1.2.2.1 z
  refine ⟨okB, rfl, I.bare, Un.kept kp, ⟨fun _ => none, ?_, fun i y av e1 e2 e3 => ?_⟩, fun y c e => ?_, ?_, fun y c e => ?_, fun p hp => ?_, I.hok.kept kp, by rw [wipe_length]; exact I.len⟩
  · show Heap.Ns _ cenv.locals _
    rw [hL]
    exact Heap.Ns.keeps (Heap.Ns.new ..) fun b o e => pushCells_keeps _ _ _ _ e
  · obtain ⟨e2, hne⟩ := wipe_some e2
    have hfr : scope.names.lookup y = some .free ∧ (cenv.kindOf y = some .cell ∨ cenv.kindOf y = some .free) := by
      have key : ∀ k, cenv.scope.names.lookup y = some k → k = .local ∨ k = .cell ∨ k = .free → scope.names.lookup y = some .free ∧ (cenv.kindOf y = some .cell ∨ cenv.kindOf y = some .free) := fun k hk hk' => by
        have hk0 := hk
        rw [hsc] at hk
        obtain ⟨k', e, r⟩ := lookup_relS hk
        have no : ¬ (k' = .local ∨ k' = .cell) := fun hh => by
          rcases ok.own _ (PySem.mem_of_lookup e) hh with e' | e'
          · obtain ⟨p, hp, hpy⟩ := List.mem_map.mp e'
            have e3 := ok.ix p hp
            have : p.1 = y := hpy
            rw [this] at e3
            exact hne (List.mem_map.mpr ⟨p, hp, nodup_ix hN e3 e1⟩)
          · exact e' (List.mem_of_getElem? e1)
        rcases r with rfl | ⟨rfl, rfl⟩
        · rcases hk' with rfl | rfl | rfl
          · exact absurd (.inl rfl) no
          · exact absurd (.inr rfl) no
          · exact ⟨e, .inr hk0⟩
        · exact ⟨e, .inl hk0⟩
      have e3 : Vis cenv.scope y := e3
      rcases e3 with e3 | e3 | e3
      · exact key _ e3 (.inl rfl)
      · exact key _ e3 (.inr (.inl rfl))
      · exact key _ e3 (.inr (.inr rfl))
    obtain ⟨m, hn, hl⟩ := I.loc
    have hvis : Vis X.env.scope y := (ok.free _ (PySem.mem_of_lookup hfr.1) rfl).elim (fun k => .inr (.inl k)) (fun k => .inr (.inr k))
    obtain ⟨w, r, q⟩ := hl i y av e1 e2 hvis
    refine ⟨w, r, .inr ⟨hfr.2, ?_⟩⟩
    obtain ⟨c, h1, h2⟩ := look hfr.1
    rcases q with ⟨k, _⟩ | ⟨_, c', e', z⟩
    · have k : X.env.scope.names.lookup y = some .local := k
      rcases ok.free _ (PySem.mem_of_lookup hfr.1) rfl with k' | k' <;> rw [show X.env.scope.names.lookup y = _ from k'] at k <;> cases k
    · rw [h2] at e'; cases e'
      exact ⟨c, h1, z.keeps kp⟩
  · have e : cenv.cells.lookup y = some c := e
    rcases mem e with ⟨h1, _⟩ | ⟨_, z⟩
    · obtain ⟨w, z⟩ := I.cell y c h1
      exact ⟨w, z.keeps kp⟩
    · exact ⟨_, z⟩
  · show H cenv.locals = none
    rw [hL]; exact I.hok.fresh (Nat.le_refl _)
  · have e : cenv.cells.lookup y = some c := e
    rcases mem e with ⟨h1, _⟩ | ⟨h1, _⟩
    · exact I.freeC y c h1
    · exact I.hok.fresh (Nat.le_of_succ_le h1)
  · exact absurd (show p ∈ ([] : List (Addr × Obj)) ++ [] from hp) (by simp)

/-- an item appended to a tracked list -/
theorem app_ok {E : Value → Shared → Prop} {D : Addr} {xs : List V} {y : V} {v : Value} {Q : Value → Shared → Prop} (I : Inv X pins σ H s) (hD : H D = some (.lst xs)) (hz : xs.length < sizeLine) (r : RelV y v)
    (h : ∀ s', Inv X pins σ (upd H D (.lst (xs ++ [y]))) s' → Q .none s') : wpAny (model X.prog X.w) X.A (call (.builtin "list.append") [.ref D, v]) Q E s := by
  obtain ⟨hz', its, n, ri, e⟩ := I.hok D _ hD
  have hl := ri.length
  refine append_at (hsz := by rw [List.size_toArray]; omega) e fun h' sb ho' => ?_
  refine h { s with heap := h' } (I.write (t' := s.toks) (by rw [hD]; trivial) (.inl rfl) (fun b u hb q => (sb.2 b hb).trans q) ⟨_, ho'⟩ ⟨by rw [List.length_append]; exact hz, its ++ [v], n + 1, ri.append (.cons r .nil), ?_⟩)
  rw [ho']
  simp

/-- a clause's tests -/
def PTs (X : Cx) (ifs : List Expr) (t : TT) : Prop :=
  ∀ (pins : List (Addr × Obj)) (s : Shared) (σ : St) (H : Hp) (Q : Bool → Hp → Prop), Inv X pins σ H s → t σ H Q →
    wpAny (model X.prog X.w) X.A (forIn ifs true fun c r => if r = true then do let ok ← isTrue c X.env (eval c X.env); pure (ForInStep.yield ok) else pure (ForInStep.yield r)) (TP X pins σ Q) X.xe s
def tYes : TT := fun _ H Q => Q true H
theorem pts_nil : PTs X [] tYes := fun _ _ _ H _ I h => wpAny_tests_nil ⟨H, I, h⟩
theorem pts_one {c : Expr} {t : TT} (h : PT X c t) : PTs X [c] t := fun pins s σ H Q I hw => wpAny_tests_one (h pins s σ H Q I hw)
end

theorem thnF {α : Type} {t : Sem α} {Q Q' : α → Shared → Prop} {M : Model} {A : Around} {E : Value → Shared → Prop} {s : Shared} (h : wpAny M A t Q (fun _ _ => False) s) (hQ : ∀ a s, Q a s → Q' a s) : wpAny M A t Q' E s := wpAny_mono h hQ fun _ _ z => False.elim z

/-- the loop of a list comprehension's block, the target of any form (codeAny_compLoop_tests asks a target that no tuple goes to; statement and proof follow it, PyProof/CompMap.lean:41-61, with the step letOwnedTupleGo kept) -/
theorem compLoop_any {prog : Program} {w : World} {A : Around} {R : Result → Shared → Prop} {s : Shared} {elt target iter : Expr} {ifs : List Expr} {scope : Scope} {pos : Pos} {it acc : Value} {env : Env} (I : Nat → Shared → Prop)
    (turn : ∀ n s, I n s → wpAny (model prog w) A (pyNext it) (fun r s₁ => match r with
      | none => R (.ok .next) s₁
      | some v => wpAny (model prog w) A (letOwnedTupleGo target it v) (fun _ s₁' => wpAny (model prog w) A (assign target env v) (fun _ s₂ =>
          wpAny (model prog w) A (forIn ifs true fun c r => if r = true then do let ok ← isTrue c env (eval c env); pure (ForInStep.yield ok) else pure (ForInStep.yield r)) (fun ok s₃ =>
            if ok = true then wpAny (model prog w) A (eval elt env) (fun x s₄ =>
              wpAny (model prog w) A (call (.builtin "list.append") [acc, x]) (fun _ s₅ => ∃ m, m < n ∧ I m s₅) (notedBy (model prog w) A env fun e s' => R (.error e) s') s₄) (notedBy (model prog w) A env fun e s' => R (.error e) s') s₃
            else ∃ m, m < n ∧ I m s₃) (notedBy (model prog w) A env fun e s' => R (.error e) s') s₂) (notedBy (model prog w) A env fun e s' => R (.error e) s') s₁') (notedBy (model prog w) A env fun e s' => R (.error e) s') s₁) (notedBy (model prog w) A env fun e s' => R (.error e) s') s)
    (n : Nat) (h : I n s) :
    codeAny (model prog w) A (.compLoop (.ListComp elt [⟨target, iter, ifs, 0⟩] scope pos) 0 it acc env) R s := by
  refine codeAny_loop rfl I (fun n s hI => ?_) n h
  show wpAny _ A ((compTurn (.ListComp elt [⟨target, iter, ifs, 0⟩] scope pos) 0 it acc env).onRaise (fun x => do noteFrame x env; theTreesLotGoes x)) _ _ s
  refine wpAny_noted ?_
  rw [compTurn_list]
  refine wpAny_bind (wpAny_standAt (wpAny_bind (wpAny_mono (turn n s hI) (fun r s₁ h₁ => ?_) fun _ _ h' => h')))
  cases r with
  | none => exact wpAny_pure h₁
  | some v =>
    refine wpAny_bind (wpAny_mono h₁ (fun _ s₁' h₁' => ?_) fun _ _ h' => h')
    refine wpAny_bind (wpAny_mono h₁' (fun _ s₂ h₂ => wpAny_bind (wpAny_mono h₂ (fun ok s₃ h₃ => ?_) fun _ _ h' => h')) fun _ _ h' => h')
    cases ok with
    | false => exact wpAny_pure ⟨rfl, h₃⟩
    | true =>
      exact wpAny_bind (wpAny_bind (wpAny_mono h₃ (fun x s₄ h₄ => wpAny_bind (wpAny_mono h₄ (fun _ s₅ h₅ => wpAny_pure (wpAny_pure ⟨rfl, h₅⟩)) fun _ _ h' => h')) fun _ _ h' => h'))

section
variable {X : Cx}
/-- [elt for target in iter if ..]: D the new list; W by the turn and a measure, Nx what a turn is to reach -/
def tLc (wi : TI) (g : TG) (tt : TT) (te : TE) (vs : List Nat) : TE := fun σ H Q => wi σ H fun J H1 => ∀ D, H1 D = none → ∃ W : Nat → Nat → Hp → Prop, (∃ m, W 0 m (upd H1 D (.lst []))) ∧ ∀ i m H, W i m H →
  (J.stop i H ∧ Q (.ref D) H) ∨ (J.go i H ∧ ∃ Nx : Hp → Prop, (∀ H', Nx H' → ∃ m', m' < m ∧ W (i + 1) m' H') ∧ ∀ x H', J.yld i H x H' → g x (wipe σ vs) H' fun σ2 H2 => wipe σ2 vs = wipe σ vs ∧ tt σ2 H2 fun b H3 =>
    if b = true then te σ2 H3 fun y H4 => ∃ acc, H4 D = some (.lst acc) ∧ acc.length < sizeLine ∧ Nx (upd H4 D (.lst (acc ++ [y]))) else Nx H3)
theorem lc_core {pins : List (Addr × Obj)} {s : Shared} {σ : St} {H : Hp} {Q : VK} {elt tg iter : Expr} {ifs : List Expr} {scope : Scope} {own : List (Str × Nat)} {pos pos' : Pos} {wi : TI} {g : TG} {tt : TT} {te : TE} {use : Option (Value → Sem Unit)} {Qf : Value → Shared → Prop}
    (hc : X.calm = true) (hN : X.N.Nodup) (I : Inv X pins σ H s) (hi : PI X tg iter wi) (ok : BlkOk X.N X.env.scope scope own)
    (hg : ∀ (s : Shared) (H : Hp) (C : Addr) (cl : List (Str × Addr)) (fp : List Addr), PG (X.blk s H scope (compEnvC scope cl C X.env) fp) tg g) (ht : ∀ (s : Shared) (H : Hp) (C : Addr) (cl : List (Str × Addr)) (fp : List Addr), PTs (X.blk s H scope (compEnvC scope cl C X.env) fp) ifs tt)
    (he : ∀ (s : Shared) (H : Hp) (C : Addr) (cl : List (Str × Addr)) (fp : List Addr), PE (X.blk s H scope (compEnvC scope cl C X.env) fp) elt te) (hs : ∀ x, foldedSetIterable iter X.env x = pure x)
    (h : tLc wi g tt te (own.map (·.2)) σ H Q)
    (hRR : ∀ D C s' m H', Inv X pins σ H' s' → Q (.ref D) H' → s'.heap.Ns C m → FpOk X pins H' C → compPost (model X.prog X.w) X.A X.xe use Qf (.ref D) C (.ok .next) s') :
    wpAny (model X.prog X.w) X.A (comprehension (.ListComp elt [⟨tg, iter, ifs, 0⟩] scope pos) scope X.env pos' (newList []) false (eval iter X.env) use) Qf X.xe s := by
  have hfree : ∀ y ∈ scope.names, y.2 = .free → ∃ c, X.env.cells.lookup y.1 = some c := fun y hy e => by
    rcases ok.free y hy e with k | k
    · exact I.ok.has _ (.inl k)
    · exact I.ok.has _ (.inr k)
  refine wpAny_comprehension_free (use := use) rfl hs (closure_ok hfree) ok.kind (fun y hy e => by rw [ok.uniq y hy, e])
    (thn (hi pins s σ H _ I h) fun xv s1 hx => thn hx fun itv s2 h2 => ?_)
  obtain ⟨it, fp, tn, J, H2, e, I2, T, st2, f2, q⟩ := h2
  subst e
  refine wpAny_newObj_type (newEnv_comp ?_) (by show 0 ≤ sizeLine; decide)
  generalize hD : s2.heap.objs.size = D
  have hDn : H2 D = none := I2.hok.fresh (Nat.le_of_eq hD)
  obtain ⟨W, ⟨m0, w0⟩, turn⟩ := q D hDn
  -- the new list
  generalize hs3 : ({ s2 with heap := s2.heap.push { cls := .type "list", data := .seq ([] : List Value).toArray } } : Shared) = s3
  have I3 : Inv X pins σ (upd H2 D (.lst [])) s3 := by
    rw [← hs3]
    refine I2.laid (t' := s2.toks) (fun b o e => Heap.get?_push_of_some _ e) (Nat.le_of_eq hD) ⟨Nat.zero_le _, [], 0, .nil, ?_⟩
    rw [← hD]
    exact Heap.get?_push_size _ rfl
  have h3 : s3.heap = s2.heap.push { cls := .type "list", data := .seq ([] : List Value).toArray } := by rw [← hs3]
  have sz : ∀ b ∈ fp, b < s2.heap.objs.size := fun b hb => by
    obtain ⟨o, e, _⟩ := T.obj _ _ st2 b hb
    exact Heap.lt_size e
  have f3 : ∀ b ∈ fp, FpOk X pins (upd H2 D (.lst [])) b ∧ b < s3.heap.objs.size := fun b hb => by
    have hlt := sz b hb
    refine ⟨⟨?_, (f2 b hb).2⟩, by rw [h3, Heap.size_push]; exact Nat.lt_succ_of_lt hlt⟩
    rw [upd_ne (by rw [← hD]; exact Nat.ne_of_lt hlt)]
    exact (f2 b hb).1
  have st3 : tn 0 s3.heap := T.keep _ _ _ st2 fun b _ o e => by rw [h3]; exact Heap.get?_push_of_some _ e
  have I4 := block_start I3 ok hN f3
  have pg := hg s3 (upd H2 D (.lst [])) s3.heap.objs.size (cellsFrom (s3.heap.objs.size + 1) scope.names (cloFrom X.env.cells scope.names [])) fp
  have pt := ht s3 (upd H2 D (.lst [])) s3.heap.objs.size (cellsFrom (s3.heap.objs.size + 1) scope.names (cloFrom X.env.cells scope.names [])) fp
  have pe := he s3 (upd H2 D (.lst [])) s3.heap.objs.size (cellsFrom (s3.heap.objs.size + 1) scope.names (cloFrom X.env.cells scope.names [])) fp
  show codeAny _ _ (.compStart (.ListComp elt [⟨tg, iter, ifs, 0⟩] scope pos) 0 (.ref it) (.ref D) (compEnvC scope (cellsFrom (s3.heap.objs.size + 1) scope.names (cloFrom X.env.cells scope.names [])) s3.heap.objs.size X.env)) (compPost (model X.prog X.w) X.A X.xe use Qf (.ref D) s3.heap.objs.size) { s3 with heap := pushCells (s3.heap.push { cls := .type "dict", data := .dict #[] }) scope.names }
  have nfp : ∀ b ∈ fp, (upd H2 D (.lst [])) b = none := fun b hb => (f3 b hb).1.1
  generalize hce : compEnvC scope (cellsFrom (s3.heap.objs.size + 1) scope.names (cloFrom X.env.cells scope.names [])) s3.heap.objs.size X.env = ce at I4 pg pt pe ⊢
  have cL : ce.locals = s3.heap.objs.size := by subst hce; rfl
  generalize hH3 : upd H2 D (.lst []) = H3 at I3 I4 pg pt pe w0 nfp f3
  generalize hs4 : ({ s3 with heap := pushCells (s3.heap.push { cls := .type "dict", data := .dict #[] }) scope.names } : Shared) = s4 at I4 ⊢
  have st4 : tn 0 s4.heap := T.keep _ _ _ st3 fun b _ o e => by rw [← hs4]; exact pushCells_keeps _ _ _ _ (Heap.get?_push_of_some _ e)
  have stat : ∀ {σ' : St} {H' : Hp} {s' : Shared}, Inv (X.blk s3 H3 scope ce fp) [] σ' H' s' → (∀ b ∈ fp, H' b = none) → ∀ b ∈ fp, FpOk (X.blk s3 H3 scope ce fp) [] H' b := fun {σ' H' s'} I' hn b hb =>
    ⟨hn b hb, (I'.ok.exf b hb).1, I'.ok.exfs b hb, .inl hb, fun x c e => (I'.ok.exf b hb).2 x c e, fun p hp => absurd (show p ∈ ([] : List (Addr × Obj)) ++ [] from hp) (by simp)⟩
  have loop : codeAny (model X.prog X.w) X.A (.compLoop (.ListComp elt [⟨tg, iter, ifs, 0⟩] scope pos) 0 (.ref it) (.ref D) ce) (compPost (model X.prog X.w) X.A X.xe use Qf (.ref D) s3.heap.objs.size) s4 := by
    refine compLoop_any (fun n s' => ∃ i H', Inv (X.blk s3 H3 scope ce fp) [] (wipe σ (own.map (·.2))) H' s' ∧ tn i s'.heap ∧ (∀ b ∈ fp, H' b = none) ∧ W i n H') ?_ m0 ⟨0, H3, I4, st4, nfp, w0⟩
    rintro n s5 ⟨i, H5, I5, st5, n5, w5⟩
    rcases turn i n H5 w5 with ⟨stop, qq⟩ | ⟨go, Nx, hNx, step⟩
    · have td := T.done (X.blk s3 H3 scope ce fp) rfl rfl rfl hc i [] s5 _ H5 (fun _ _ => False) I5 (stat I5 n5) st5 stop
      refine thnF td fun r s6 ⟨hr, I6⟩ => ?_
      subst hr
      -- back in the def's context
      have I7 : Inv X pins σ H5 s6 := I3.call' (ch := fp) I6.os I6.base I6.hok I6.bare fun b hb => ⟨(f3 b hb).1.2.2.2.1, (f3 b hb).1.2.1, (f3 b hb).1.2.2.2.2.1, (f3 b hb).1.2.2.2.2.2⟩
      have nC : H5 s3.heap.objs.size = none := by
        have z : H5 ce.locals = none := I6.free
        rw [cL] at z
        exact z
      obtain ⟨m, hn, _⟩ := I6.loc
      have hn : s6.heap.Ns ce.locals m := hn
      rw [cL] at hn
      exact hRR D s3.heap.objs.size s6 m H5 I7 qq hn (I3.fpOk (Nat.le_refl _) nC)
    · have ti := T.item (X.blk s3 H3 scope ce fp) rfl rfl rfl hc i [] s5 _ H5 (fun _ _ => False) I5 (stat I5 n5) st5 go
      refine thnF ti fun r s6 ⟨u, hr, h6⟩ => ?_
      subst hr
      refine thnF h6 fun _ s7 ⟨x, H7, I7, r7, y7, st7, n7⟩ => ?_
      have I7' := I7.pinned (stat I7 n7) (T.obj _ _ st7)
      refine thnF (pg _ s7 _ H7 x u _ I7' r7 (step x H7 y7)) fun _ s8 ⟨σ8, H8, I8, hw8, q8⟩ => ?_
      refine thnF (pt _ s8 σ8 H8 _ I8 q8) fun b s9 ⟨H9, I9, q9⟩ => ?_
      -- the turn's end
      have fin : ∀ {s' : Shared} {H' : Hp}, Inv (X.blk s3 H3 scope ce fp) ([] ++ pinsAt fp s7.heap) σ8 H' s' → Nx H' → ∃ m, m < n ∧ ∃ i H', Inv (X.blk s3 H3 scope ce fp) [] (wipe σ (own.map (·.2))) H' s' ∧ tn i s'.heap ∧ (∀ b ∈ fp, H' b = none) ∧ W i m H' := fun {s' H'} I' nx => by
        obtain ⟨m', hm, w'⟩ := hNx H' nx
        have pin' : ∀ b ∈ fp, ∀ o, s7.heap.get? b = some o → s'.heap.get? b = some o ∧ H' b = none := fun b hb o e =>
          let z := I'.pin (b, o) (List.mem_append_right _ (List.mem_append_right _ (mem_pinsAt hb e)))
          ⟨z.1, z.2.1⟩
        have hl : (wipe σ (own.map (·.2))).length = σ8.length := by rw [← hw8, wipe_length]
        refine ⟨m', hm, i + 1, H', (I'.unpinned (pins := [])).weak hl (fun j v e => ?_), T.keep _ _ _ st7 fun b hb o e => (pin' b hb o e).1, fun b hb => ?_, w'⟩
        · rw [← hw8] at e
          exact (wipe_some e).1
        · obtain ⟨o, e, _⟩ := T.obj _ _ st7 b hb
          exact (pin' b hb o e).2
      cases b with
      | false =>
        simp only [Bool.false_eq_true, if_false] at q9 ⊢
        exact fin I9 q9
      | true =>
        simp only [if_true] at q9 ⊢
        refine thnF (pe _ s9 σ8 H9 _ I9 q9) fun z s10 ⟨yv, H10, I10, r10, acc, hD10, hz10, nx⟩ => ?_
        exact app_ok (X := X.blk s3 H3 scope ce fp) I10 hD10 hz10 r10 fun s11 I11 => fin I11 nx
  exact codeAny_compStart_list loop (T.self X.A 0 _ _ _ st4 loop)
/-- as a value -/
theorem pe_lc {elt tg iter : Expr} {ifs : List Expr} {scope : Scope} {own : List (Str × Nat)} {pos : Pos} {wi : TI} {g : TG} {tt : TT} {te : TE} (hc : X.calm = true) (hN : X.N.Nodup) (hi : PI X tg iter wi) (ok : BlkOk X.N X.env.scope scope own)
    (hg : ∀ (s : Shared) (H : Hp) (C : Addr) (cl : List (Str × Addr)) (fp : List Addr), PG (X.blk s H scope (compEnvC scope cl C X.env) fp) tg g) (ht : ∀ (s : Shared) (H : Hp) (C : Addr) (cl : List (Str × Addr)) (fp : List Addr), PTs (X.blk s H scope (compEnvC scope cl C X.env) fp) ifs tt)
    (he : ∀ (s : Shared) (H : Hp) (C : Addr) (cl : List (Str × Addr)) (fp : List Addr), PE (X.blk s H scope (compEnvC scope cl C X.env) fp) elt te) (hs : ∀ x, foldedSetIterable iter X.env x = pure x := by intro _; rfl) :
    PE X (.ListComp elt [⟨tg, iter, ifs, 0⟩] scope pos) (tLc wi g tt te (own.map (·.2))) := by
  intro pins s σ H Q I h
  rw [eval_ListComp]
  refine lc_core hc hN I hi ok hg ht he hs h fun D C s' m H' I' q hn f => ⟨m, hn, fun h'' sb => ?_⟩
  obtain ⟨f0, f1, f2, f3, f4, f5⟩ := f
  exact ⟨.ref D, H', I'.turned (t' := s'.toks) (fun b o hb e => (sb.2 b hb).trans e) f0 f1 f3 f4 f5, rfl, q⟩
/-- name = [..] on one line, the name a local -/
theorem ps_setLc {i : Nat} {y : Str} {py : Pos} {elt tg iter : Expr} {ifs : List Expr} {scope : Scope} {own : List (Str × Nat)} {pos spos : Pos} {wi : TI} {g : TG} {tt : TT} {te : TE} (hc : X.calm = true) (hN : X.N.Nodup) (hy : X.N[i]? = some y) (hyl : X.env.scope.names.lookup y = some .local)
    (hsw : swapsWith (.ListComp elt [⟨tg, iter, ifs, 0⟩] scope pos) (some (.Name y py)) spos.line X.env = pure true) (hi : PI X tg iter wi) (ok : BlkOk X.N X.env.scope scope own)
    (hg : ∀ (s : Shared) (H : Hp) (C : Addr) (cl : List (Str × Addr)) (fp : List Addr), PG (X.blk s H scope (compEnvC scope cl C X.env) fp) tg g) (ht : ∀ (s : Shared) (H : Hp) (C : Addr) (cl : List (Str × Addr)) (fp : List Addr), PTs (X.blk s H scope (compEnvC scope cl C X.env) fp) ifs tt)
    (he : ∀ (s : Shared) (H : Hp) (C : Addr) (cl : List (Str × Addr)) (fp : List Addr), PE (X.blk s H scope (compEnvC scope cl C X.env) fp) elt te) (hs : ∀ x, foldedSetIterable iter X.env x = pure x := by intro _; rfl) :
    PS X (.Assign [.Name y py] (.ListComp elt [⟨tg, iter, ifs, 0⟩] scope pos) spos) (tAsg (tLc wi g tt te (own.map (·.2))) (gName i)) := by
  intro pins s σ H D I h
  rw [exec_Assign_Name_used _ _ _ _ hsw]
  refine wpAny_bind (wpAny_standAt (wpAny_bind ?_))
  show wpAny _ X.A (do let _ ← comprehension (.ListComp elt [⟨tg, iter, ifs, 0⟩] scope pos) scope X.env (firstIterPos [⟨tg, iter, ifs, 0⟩] pos) (newList []) false (eval iter X.env) (some (assign (.Name y py) X.env))) _ _ s
  have h : tLc wi g tt te (own.map (·.2)) σ H (fun x H1 => gName i x σ H1 D.nx) := h
  refine wpAny_bind (thn (lc_core (Qf := fun _ s' => SP X pins D .next s') hc hN I hi ok hg ht he hs h fun L C s' m H' I' q hn f => ?_) fun _ s' hq => wpAny_pure (wpAny_pure hq))
  show wpAny _ _ (assign (.Name y py) X.env (.ref L)) _ _ _
  refine wpAny_assign_Name (store_ok2 (v := V.ref L) I' hN hy (.inl hyl) rfl (fun s2 I2 ⟨a, sb, ha⟩ => ?_) (.inr hyl))
  obtain ⟨f0, f1, f2, f3, f4, f5⟩ := f
  have haC : C ≠ a := by
    rcases ha with z | z
    · rw [z]; exact f1
    · exact fun e => f4 y a z e.symm
  refine ⟨m, hn.sameBut sb haC, fun h3 sb3 => ?_⟩
  exact ⟨_, H', I2.turned (t' := s2.toks) (fun b o hb e => (sb3.2 b hb).trans e) f0 f1 f3 f4 f5, q⟩
end

/-- over a list that the block leaves as it is -/
theorem lc_list {K : PySem.W.Frag} {a : Addr} {xs : List V} {g : TG} {tt : TT} {te : TE} {vs : List Nat} {σ : St} {H1 : Hp} {D : Addr} {Qd : Hp → Prop} (Pv : Nat → Hp → Prop) (h0 : Pv 0 (upd H1 D (.lst []))) (hl : ∀ i H, i ≤ xs.length → Pv i H → SqL K H a xs)
    (hs : ∀ i x H, xs[i]? = some x → Pv i H → g x (wipe σ vs) H fun σ2 H2 => wipe σ2 vs = wipe σ vs ∧ tt σ2 H2 fun b H3 =>
      if b = true then te σ2 H3 fun y H4 => ∃ acc, H4 D = some (.lst acc) ∧ acc.length < sizeLine ∧ Pv (i + 1) (upd H4 D (.lst (acc ++ [y]))) else Pv (i + 1) H3) (hd : ∀ H, Pv xs.length H → Qd H) :
    ∃ W : Nat → Nat → Hp → Prop, (∃ m, W 0 m (upd H1 D (.lst []))) ∧ ∀ i m H, W i m H →
      ((Itl K a).stop i H ∧ Qd H) ∨ ((Itl K a).go i H ∧ ∃ Nx : Hp → Prop, (∀ H', Nx H' → ∃ m', m' < m ∧ W (i + 1) m' H') ∧ ∀ x H', (Itl K a).yld i H x H' → g x (wipe σ vs) H' fun σ2 H2 => wipe σ2 vs = wipe σ vs ∧ tt σ2 H2 fun b H3 =>
        if b = true then te σ2 H3 fun y H4 => ∃ acc, H4 D = some (.lst acc) ∧ acc.length < sizeLine ∧ Nx (upd H4 D (.lst (acc ++ [y]))) else Nx H3) := by
  refine ⟨fun i m H => m = xs.length - i ∧ i ≤ xs.length ∧ Pv i H, ⟨xs.length, by simp, Nat.zero_le _, h0⟩, ?_⟩
  rintro i m H ⟨rfl, hi, p⟩
  have q := hl i H hi p
  by_cases hlt : i < xs.length
  · refine .inr ⟨⟨xs, xs[i], q, by simp [hlt]⟩, Pv (i + 1), fun H' p' => ⟨xs.length - (i + 1), by omega, rfl, hlt, p'⟩, fun x H' y => ?_⟩
    obtain ⟨e, y⟩ := y
    subst e
    exact hs i x _ (y xs q) p
  · have e : i = xs.length := by omega
    subst e
    exact .inl ⟨⟨xs, q, Nat.le_refl _⟩, hd H p⟩
def blkC (N : List Str) (sc scope : Scope) (own : List (Str × Nat)) : Bool :=
  (match scope.kind with | .function => true | _ => false) && (scope.names.all fun y => decide (scope.names.lookup y.1 = some y.2)) && (own.all fun p => decide (N[p.2]? = some p.1)) &&
    (scope.names.all fun y => match y.2 with
      | .free => (match sc.names.lookup y.1 with | some .cell => true | some .free => true | _ => false)
      | .local => decide (y.1 ∈ own.map (·.1)) || decide (y.1 ∉ N)
      | .cell => decide (y.1 ∈ own.map (·.1)) || decide (y.1 ∉ N)
      | _ => true)
theorem blkOk_by {N : List Str} {sc scope : Scope} {own : List (Str × Nat)} (h : blkC N sc scope own = true) : BlkOk N sc scope own := by
  unfold blkC at h
  simp only [Bool.and_eq_true, List.all_eq_true, decide_eq_true_eq] at h
  obtain ⟨⟨⟨h1, h2⟩, h3⟩, h4⟩ := h
  refine ⟨?_, h2, h3, fun y hy e => ?_, fun y hy e => ?_⟩
  · split at h1
    · assumption
    · cases h1
  · have q := h4 y hy
    simp only [e] at q
    split at q <;> first | exact .inl (by assumption) | exact .inr (by assumption) | cases q
  · have q := h4 y hy
    rcases e with e | e <;> (simp only [e, Bool.or_eq_true, decide_eq_true_eq] at q; exact q)
end L2

namespace L2
open PySem PySem.Spec PyProof.Rows

section
variable {κ : Type} [DecidableEq κ]
def valV (kvs : List (κ × V)) (k : κ) : Option V := (kvs.find? fun kv => decide (kv.1 = k)).map (·.2)
/-- in its place, or at the end -/
def putK (kvs : List (κ × V)) (k : κ) (v : V) : List (κ × V) :=
  if (kvs.any fun kv => decide (kv.1 = k)) = true then kvs.map (fun kv => if kv.1 = k then (kv.1, v) else kv) else kvs ++ [(k, v)]
def dropK (kvs : List (κ × V)) (k : κ) : List (κ × V) := kvs.filter fun kv => decide (kv.1 ≠ k)

theorem valV_pos {p : κ × V} {r : List (κ × V)} {k : κ} (e : p.1 = k) : valV (p :: r) k = some p.2 := by simp [valV, List.find?_cons, e]
theorem valV_neg {p : κ × V} {r : List (κ × V)} {k : κ} (e : ¬ p.1 = k) : valV (p :: r) k = valV r k := by simp [valV, List.find?_cons, e]
theorem RelO.getD {o : Option V} {u : Option Value} {d : V} {d' : Value} (r : RelO o u) (rd : RelV d d') : RelV (o.getD d) (u.getD d') := by
  cases o with
  | none => cases u with
    | none => exact rd
    | some _ => exact (show False from r).elim
  | some _ => cases u with
    | none => exact (show False from r).elim
    | some _ => exact r

/-- raw tables of the same keys -/
theorem KV.val {kvs : List (κ × V)} {vs : List (κ × Value)} (r : KV kvs vs) (k : κ) : RelO (valV kvs k) (valueAt vs k) := by
  unfold KV at r
  induction r with
  | nil => exact True.intro
  | @cons p q ps qs h t ih =>
    obtain ⟨h1, h2⟩ := h
    by_cases e : p.1 = k
    · have e' : q.1 = k := h1.symm.trans e
      have b : valueAt (q :: qs) k = some q.2 := by simp [valueAt, List.find?_cons, e']
      rw [valV_pos e, b]; exact h2
    · have e' : ¬ q.1 = k := fun z => e (h1.trans z)
      have b : valueAt (q :: qs) k = valueAt qs k := by simp [valueAt, List.find?_cons, e']
      rw [valV_neg e, b]; exact ih
theorem KV.any {kvs : List (κ × V)} {vs : List (κ × Value)} (r : KV kvs vs) (k : κ) : (kvs.any fun kv => decide (kv.1 = k)) = vs.any fun kv => decide (kv.1 = k) := by
  unfold KV at r
  induction r with
  | nil => rfl
  | cons h t ih => rw [List.any_cons, List.any_cons, ih, h.1]
theorem KV.drop {kvs : List (κ × V)} {vs : List (κ × Value)} (r : KV kvs vs) (k : κ) : KV (dropK kvs k) (without vs k) := by
  unfold KV at r ⊢
  unfold dropK without
  induction r with
  | nil => exact .nil
  | @cons p q ps qs h t ih =>
    obtain ⟨h1, h2⟩ := h
    rw [List.filter_cons, List.filter_cons]
    by_cases e : p.1 = k
    · have a : ¬ decide (p.1 ≠ k) = true := by simp [e]
      have b : ¬ decide (q.1 ≠ k) = true := by simp [h1.symm.trans e]
      rw [if_neg a, if_neg b]; exact ih
    · have e' : ¬ q.1 = k := fun z => e (h1.trans z)
      have a : decide (p.1 ≠ k) = true := by simp [e]
      have b : decide (q.1 ≠ k) = true := by simp [e']
      rw [if_pos a, if_pos b]; exact .cons ⟨h1, h2⟩ ih
theorem KV.length {kvs : List (κ × V)} {vs : List (κ × Value)} (r : KV kvs vs) : kvs.length = vs.length := Paired.length r
end


/-- raw entries of a dict with tuple keys -/
abbrev KT (H : Hp) : List (List Key × V) → List (List Key × Addr × Value) → Prop := Paired fun p q => p.1 = q.1 ∧ H q.2.1 = some (.tup (p.1.map kV)) ∧ RelV p.2 q.2.2
theorem KT.val {H : Hp} {kvs : List (List Key × V)} {xs : List (List Key × Addr × Value)} (r : KT H kvs xs) (k : List Key) : RelO (valV kvs k) ((atKey xs k).map (·.2)) := by
  induction r with
  | nil => exact True.intro
  | @cons p q ps qs h t ih =>
    obtain ⟨h1, _, h2⟩ := h
    by_cases e : p.1 = k
    · have e' : q.1 = k := h1.symm.trans e
      have b : atKey (q :: qs) k = some q.2 := by simp [atKey, List.find?_cons, e']
      rw [valV_pos e, b]; exact h2
    · have e' : ¬ q.1 = k := fun z => e (h1.trans z)
      have b : atKey (q :: qs) k = atKey qs k := by simp [atKey, List.find?_cons, e']
      rw [valV_neg e, b]; exact ih
theorem KT.keeps {H H' : Hp} {kvs : List (List Key × V)} {xs : List (List Key × Addr × Value)} (r : KT H kvs xs) (ht : ∀ b ys, H b = some (.tup ys) → H' b = some (.tup ys)) : KT H' kvs xs :=
  Paired.mapP r fun _ _ z => ⟨z.1, ht _ _ z.2.1, z.2.2⟩

section
variable {P : Program} {w : World} {H : Hp} {h : Heap} {a : Addr}
end

/-- what the dict at a holds at the key y -/
def DGet (H : Hp) (a : Addr) (y : V) (r : Option V) : Prop :=
  (∃ kvs k, Rd H a (.dK kvs) ∧ y = kV k ∧ r = valV kvs k) ∨ ∃ kvs k b, Rd H a (.dT kvs) ∧ y = .ref b ∧ H b = some (.tup (k.map kV)) ∧ r = valV kvs k
/-- the heap behind a[y] = v -/
def DPut (H : Hp) (a : Addr) (y v : V) (H' : Hp) : Prop :=
  (∃ kvs k, H a = some (.dK kvs) ∧ y = kV k ∧ kvs.length < sizeLine ∧ H' = upd H a (.dK (putK kvs k v))) ∨
  ∃ kvs k b, H a = some (.dT kvs) ∧ y = .ref b ∧ H b = some (.tup (k.map kV)) ∧ kvs.length < sizeLine ∧ H' = upd H a (.dT (putK kvs k v))
theorem DGet.k {H : Hp} {a : Addr} {kvs : List (Key × V)} {k : Key} (e : H a = some (.dK kvs)) : DGet H a (kV k) (valV kvs k) := .inl ⟨kvs, k, .inl e, rfl, rfl⟩
theorem DGet.t {H : Hp} {a b : Addr} {kvs : List (List Key × V)} {k : List Key} (e : H a = some (.dT kvs)) (eb : H b = some (.tup (k.map kV))) : DGet H a (.ref b) (valV kvs k) := .inr ⟨kvs, k, b, .inl e, rfl, eb, rfl⟩
theorem DPut.k {H : Hp} {a : Addr} {kvs : List (Key × V)} {k : Key} {v : V} (e : H a = some (.dK kvs)) (hl : kvs.length < sizeLine) : DPut H a (kV k) v (upd H a (.dK (putK kvs k v))) := .inl ⟨kvs, k, e, rfl, hl, rfl⟩
theorem DPut.t {H : Hp} {a b : Addr} {kvs : List (List Key × V)} {k : List Key} {v : V} (e : H a = some (.dT kvs)) (eb : H b = some (.tup (k.map kV))) (hl : kvs.length < sizeLine) :
    DPut H a (.ref b) v (upd H a (.dT (putK kvs k v))) := .inr ⟨kvs, k, b, e, rfl, eb, hl, rfl⟩


section
variable {X : Cx} {pins : List (Addr × Obj)} {σ : St} {H : Hp} {s : Shared} {a : Addr} {y v : V} {u r : Value} {o : Option V} {A : Around} {E : Value → Shared → Prop}

end

section
variable {X : Cx} {pins : List (Addr × Obj)} {σ : St} {H : Hp} {s : Shared} {a : Addr} {kvs : List (Key × V)} {k : Key} {u : Value} {A : Around} {E : Value → Shared → Prop}
end


section
variable {X : Cx} {o i e value : Expr} {pos pos' tpos : Pos} {td ty tv : TE}
end


section
variable {X : Cx} {pos : Pos}
end

/-- a method call o.m(e) of a built-in, with one argument: what must be seen of the text -/
structure M1 (X : Cx) (o : Expr) (m : Str) (apos : Pos) (e : Expr) (cpos : Pos) : Prop where
  base : attributeBase o m X.env (eval o X.env) = eval o X.env
  few : ((backTo cpos (starEach [e] X.env)).all (fun x => !x.1) && (backToKw cpos (keywordEach [] X.env)).all (fun x => x.1.isSome)
    && decide (([e] : List Expr).length + ([] : List Keyword).length + (if ([] : List Keyword).isEmpty then 0 else 1) < 30)) = true
  line : (apos.endLine == cpos.line) = true
  trees : backTo cpos (starEach [e] X.env) = [(false, eval e X.env)]
structure M2 (X : Cx) (o : Expr) (m : Str) (apos : Pos) (e f : Expr) (cpos : Pos) : Prop where
  base : attributeBase o m X.env (eval o X.env) = eval o X.env
  few : ((backTo cpos (starEach [e, f] X.env)).all (fun x => !x.1) && (backToKw cpos (keywordEach [] X.env)).all (fun x => x.1.isSome)
    && decide (([e, f] : List Expr).length + ([] : List Keyword).length + (if ([] : List Keyword).isEmpty then 0 else 1) < 30)) = true
  line : (apos.endLine == cpos.line) = true
  trees : backTo cpos (starEach [e, f] X.env) = [(false, eval e X.env), (false, eval f X.env)]

section
variable {X : Cx} {pins : List (Addr × Obj)} {σ : St} {H : Hp} {s : Shared} {a : Addr} {y d : V} {u r : Value} {o : Option V} {A : Around} {E : Value → Shared → Prop}
end

section
variable {X : Cx} {o e f : Expr} {apos cpos : Pos} {td ty tx : TE}
end

section
variable {X : Cx} {pins : List (Addr × Obj)} {σ : St} {H : Hp} {s : Shared} {a : Addr} {kvs : List (Key × V)} {A : Around} {E : Value → Shared → Prop}
end


section
variable {X : Cx} {pins : List (Addr × Obj)} {σ : St} {H : Hp} {s : Shared} {a : Addr} {y : V} {u : Value} {A : Around} {E : Value → Shared → Prop}
end
end L2

namespace L2
open PySem PySem.Spec PyProof.Rows

section
variable {X : Cx} {pins : List (Addr × Obj)} {σ : St} {H : Hp} {s : Shared} {h' : Heap}
/-- .. and one new object is laid -/
theorem Inv.turnedNew {t' : Nat} {ch : List Addr} {T : Addr} {ob : HO} (I : Inv X pins σ H s) (k : ∀ b o, b ∉ ch → s.heap.get? b = some o → h'.get? b = some o) (hf : ∀ b ∈ ch, FpOk X pins H b) (hT : s.heap.objs.size ≤ T)
    (new : ObjOk X.prog X.w (upd H T ob) h' T ob) : Inv X pins σ (upd H T ob) { s with heap := h', toks := t' } := by
  have hn : H T = none := I.hok.fresh hT
  have nit : ∀ b u, H b = some u → b ∉ ch := fun b u e z => by
    have q := (hf b z).1
    rw [q] at e; cases e
  refine I.step (g' := s.gens) (d' := s.drawn) (ch := ch) (fun b hb => ⟨(hf b hb).2.2.2.1, (hf b hb).2.1, (hf b hb).2.2.2.2.1, (hf b hb).2.2.2.2.2⟩) (fun b o _ _ hc e _ => k b o hc e) (fun b o _ _ hc e _ => ⟨o.slots, k b o hc e⟩)
    (fun b o _ e n => ?_) (fun b o hc e => ⟨o, k b o hc e⟩) (fun b xs e => ?_) (fun b o u e => ?_) (fun b ps e => ⟨#[], ?_⟩) (fun m hm => ?_) (fun b u e => ?_) I.bare
  · rw [upd_ne (Nat.ne_of_lt (Nat.lt_of_lt_of_le (Heap.lt_size e) hT))]; exact n
  · rw [upd_ne (ne_of_none e hn)]; exact e
  · rw [upd_ne (ne_of_none e hn)]; exact e
  · rw [upd_ne (ne_of_none e hn), e]; simp
  · obtain ⟨o, es, ep, ho, r⟩ := hm
    exact ⟨o, es, ep, k _ o (fun z => (hf _ z).2.1 rfl) ho, r⟩
  · by_cases hb : b = T
    · subst hb
      rw [upd_same] at e
      cases e
      exact new
    · rw [upd_ne hb] at e
      refine (I.hok b u e).stay (fun c v hc q => k c v ?_ q) (fun c q => by rw [upd_ne (ne_of_none q hn)]; exact q) fun c xs q => by rw [upd_ne (ne_of_none q hn)]; exact q
      rcases hc with z | z
      · rw [z]; exact nit b u e
      · exact nit c _ z

end
section
variable {X : Cx}
theorem pi_one {tg : Expr} {pins : List (Addr × Obj)} {σ : St} {H : Hp} {s : Shared} {R : It → Hp → Prop} {J : It} {tn : Nat → Heap → Prop} {tk : Nat} (I : Inv X pins σ H s) (o : Obj)
    (T : Turn X.prog X.w X.K tg J [s.heap.objs.size] s.heap.objs.size tn) (st : tn 0 (s.heap.push o)) (q : R J H) : PIE X pins σ tg R (.ref s.heap.objs.size) { s with heap := s.heap.push o, toks := tk } := by
  refine ⟨s.heap.objs.size, [s.heap.objs.size], tn, J, H, rfl, I.kept fun b ob e => Heap.get?_push_of_some _ e, T, st, fun b hb => ?_, q⟩
  have e : b = s.heap.objs.size := by simpa using hb
  subst e
  exact I.fpOk (Nat.le_refl _) (I.hok.fresh (Nat.le_refl _))
end

/-- lo, lo + c, .. (n of them) -/
def Itc (lo c : Int) (n : Nat) : It := ⟨fun i _ => i < n, fun i H x H' => H' = H ∧ x = .int (lo + (i : Nat) * c), fun i _ => n ≤ i⟩
theorem turn_rangeC {P : Program} {w : World} {K : PySem.W.Frag} {tg : Expr} (it : Addr) (lo c : Int) (n : Nat) : Turn P w K tg (Itc lo c n) [it] it (fun i h => IsRangeIter h it (lo + (i : Nat) * c) ((n : Int) - (i : Nat)) c) where
  mem := by simp
  obj := fun i h st b hb => by
    have e : b = it := by simpa using hb
    subst e
    exact ⟨_, st, fun v z => nomatch z⟩
  keep := fun i h h' st k => k it (by simp) _ st
  item := by
    intro X hP hw hK hc i pins s σ H E I hf st hg
    subst hP hw hK
    obtain ⟨f0, f1, f2, f3, f4, f5⟩ := hf it (by simp)
    have W := Walks.range (prog := X.prog) (w := X.w) (I.ok.hd hc) it lo c n
    refine W.item i s _ _ hg st fun v h' tk hv st' kk => ?_
    obtain ⟨t, rfl⟩ := hv
    have I1 : Inv X pins σ H { s with heap := h', toks := tk } := I.turned (fun b o hb e => kk b o (by simpa using hb) e) f0 f1 f3 f4 f5
    exact ⟨_, rfl, go_of (s := { s with heap := h', toks := tk }) (n := "range_iterator") st' rfl rfl (by decide) ⟨.int (lo + (i : Nat) * c), H, I1, ⟨t, rfl⟩, ⟨rfl, rfl⟩, st', fun b hb => (hf b hb).1⟩⟩
  done := by
    intro X hP hw hK hc i pins s σ H E I hf st hg
    subst hP hw hK
    obtain ⟨f0, f1, f2, f3, f4, f5⟩ := hf it (by simp)
    exact wpAny_pyNext_range_end (I.ok.hd hc) st (by have : n ≤ i := hg; omega) fun h' eb => ⟨rfl, I.turned (t' := s.toks) (fun b o hb e => eb b o hb e) f0 f1 f3 f4 f5⟩
  self := fun A i s Q E st h => wpAny_pyIter_rangeiter st h
/-- range(i, j, c): small bounds, n items -/
def RgC (i j c : Int) (n : Nat) : Prop := c ≠ 0 ∧ c.natAbs < 1073741824 ∧ Builtin.Range.small i j c = true ∧ Builtin.Range.rangeSize i j c = n
theorem RgC.neg {i j : Int} (ha : -(2 ^ 62) ≤ i) (ha' : i < 2 ^ 62) (hb : -(2 ^ 62) ≤ j) (hb' : j < 2 ^ 62) : RgC i j (-1) (i - j).toNat :=
  ⟨by decide, by decide, PySem.W.small_down ha ha' hb hb', PySem.W.rangeSize_downNat i j⟩
def iRng3 (ta : TA) : TI := fun σ H R => ta σ H fun vs H1 => ∃ (i j c : Int) (n : Nat), vs = [.int i, .int j, .int c] ∧ RgC i j c n ∧ R (Itc i c n) H1
section
variable {X : Cx} {tg : Expr}
theorem pi_range3 {a b c : Expr} {ta : TA} {p pos : Pos} (hg : Gl X "range") (hm : X.mg "range" = none) (ha : PA X [a, b, c] ta)
    (hs : starEach [a, b, c] X.env = (false, eval a X.env) :: starEach [b, c] X.env := by rfl) (hpl : (backTo pos (starEach [b, c] X.env)).any (·.1) = false := by rfl) :
    PI X tg (.Call (.Name "range" p) [a, b, c] [] pos) (iRng3 ta) := by
  intro pins s σ H R I h
  refine Call_ (ld_blt I hg hm boot_range (PyProof.Rows.callWith_type1 (thn (ha pos pins s σ H _ I h) fun us s1 ⟨vs, H1, I1, r1, q1⟩ => ?_) hs hpl))
  obtain ⟨i, j, k, n, e, ⟨c0, c1, c2, c3⟩, q⟩ := q1
  subst e
  cases r1 with
  | cons r rr =>
    cases rr with
    | cons r' rr =>
      cases rr with
      | cons r'' rr =>
        cases rr
        obtain ⟨t, rfl⟩ := r
        obtain ⟨t', rfl⟩ := r'
        obtain ⟨t'', rfl⟩ := r''
        refine call_range_3 c0 ?_ (.inl (PyProof.noPylong_small c1))
        refine wpAny_pyIter_range (IsRange.new ..) c2 ?_
        have I2 : Inv X pins σ H1 { s1 with heap := s1.heap.push { cls := .type "range", data := .fields #[.int i t, .int j t', .int k t''] } } := I1.kept (t' := s1.toks) fun b o e => Heap.get?_push_of_some _ e
        refine pi_one (tk := s1.toks) I2 _ (turn_rangeC _ i k n) ?_ q
        have e1 : i + ((0 : Nat) : Int) * k = i := by simp
        have e2 : (n : Int) - ((0 : Nat) : Int) = Builtin.Range.rangeSize i j k := by rw [c3]; simp
        show IsRangeIter _ _ (i + ((0 : Nat) : Int) * k) ((n : Int) - ((0 : Nat) : Int)) k
        rw [e1, e2]
        exact Heap.get?_push_size _ rfl
end
/-- the turns of a step range, for the for loop -/
theorem for_rangeC {lo c : Int} {n : Nat} {g : TG} {tb : TS} {D : Ends} {σ : St} {H : Hp} (Pv : Nat → St → Hp → Prop) (h0 : Pv 0 σ H)
    (hs : ∀ i σ H, i < n → Pv i σ H → g (.int (lo + (i : Nat) * c)) σ H fun σ2 H2 => tb { D with nx := Pv (i + 1), ct := Pv (i + 1), bk := D.nx } σ2 H2) (hd : ∀ σ H, Pv n σ H → D.nx σ H) :
    ∃ W : Nat → Nat → St → Hp → Prop, (∃ m, W 0 m σ H) ∧ ∀ i m σ H, W i m σ H →
      ((Itc lo c n).stop i H ∧ D.nx σ H) ∨ ((Itc lo c n).go i H ∧ ∃ N : St → Hp → Prop, (∀ σ' H', N σ' H' → ∃ m', m' < m ∧ W (i + 1) m' σ' H') ∧ ∀ x H', (Itc lo c n).yld i H x H' → g x σ H' fun σ2 H2 => tb { D with nx := N, ct := N, bk := D.nx } σ2 H2) := by
  refine ⟨fun i m σ H => m = n - i ∧ i ≤ n ∧ Pv i σ H, ⟨n, by simp, Nat.zero_le _, h0⟩, ?_⟩
  rintro i m σ H ⟨rfl, hi, p⟩
  by_cases hlt : i < n
  · refine .inr ⟨hlt, Pv (i + 1), fun σ' H' p' => ⟨n - (i + 1), by omega, rfl, hlt, p'⟩, fun x H' y => ?_⟩
    obtain ⟨e, y⟩ := y
    subst e y
    exact hs i σ _ hlt p
  · have e : i = n := by omega
    subst e
    exact .inl ⟨Nat.le_refl _, hd σ H p⟩

section
variable {X : Cx} {tg : Expr}
end

section
variable {prog : Program} {w : World} {A : Around} {E : Value → Shared → Prop} {s : Shared}
end

section
variable {X : Cx} {pins : List (Addr × Obj)} {σ : St} {H : Hp} {s : Shared} {d : Addr} {o : Obj}
end

section
variable {P : Program} {w : World} {K : PySem.W.Frag} {tg : Expr} {d : Addr} {o : Obj} {es : Array DictEntry} {ep : Nat}
end

section
variable {X : Cx} {tg e : Expr} {td : TE} {apos cpos : Pos}
end

/-- the list at a as it stands at each turn, each item in a new pair -/
def Ite (K : PySem.W.Frag) (a : Addr) : It :=
  ⟨fun i H => ∃ (xs : List V) (x : V), SqL K H a xs ∧ xs[i]? = some x, fun i H v H' => ∃ T x, v = .ref T ∧ H T = none ∧ H' = upd H T (.tup [.int (i : Nat), x]) ∧ ∀ xs, SqL K H a xs → xs[i]? = some x, fun i H => ∃ xs : List V, SqL K H a xs ∧ xs.length ≤ i⟩
theorem turn_enum {P : Program} {w : World} {K : PySem.W.Frag} {elts : List Expr} {kk : Nat} {tpos : Pos} (a e it : Addr) :
    Turn P w K (.Tuple elts kk tpos) (Ite K a) [e, it] e (fun i h => (∃ old, IsEnum h e it ((i : Nat) : Int) old) ∧ h.IsListIter it a i ∧ e ≠ it) where
  mem := by simp
  obj := fun i h st b hb => by
    obtain ⟨⟨old, he⟩, ⟨o, ho, hc, hd⟩, _⟩ := st
    have e' : b = e ∨ b = it := by simpa using hb
    rcases e' with z | z
    · rw [z]; exact ⟨_, he, fun v q => nomatch q⟩
    · rw [z]; exact ⟨o, ho, fun v q => by rw [hd] at q; cases q⟩
  keep := fun i h h' st k => let ⟨⟨old, he⟩, hi, hne⟩ := st; ⟨⟨old, k e (by simp) _ he⟩, hi.at fun o q => k it (by simp) o q, hne⟩
  item := by
    intro X hP hw hK hc i pins s σ H E I hf st hg
    subst hP hw hK
    obtain ⟨⟨old, he⟩, hit, hne⟩ := st
    obtain ⟨xs, x, hq, hx⟩ := hg
    obtain ⟨its, rv, p, hz⟩ := I.list hq
    obtain ⟨u, hu, ru⟩ := rv.get hx
    have hel : e < s.heap.objs.size := Heap.lt_size he
    have hil : it < s.heap.objs.size := by obtain ⟨_, q, _⟩ := hit; exact Heap.lt_size q
    refine wpAny_pyNext_enum_item he hit p.isList (x := u) (by simpa using hu) hne fun h' ho hit' hT hsz hk => ?_
    refine ⟨_, rfl, wpAny_letOwnedTupleGo_enum (s := { s with heap := h', toks := s.toks + 1 }) ho fun h'' he' sb => ?_⟩
    have hT2 : h''.get? s.heap.objs.size = some { cls := .type "tuple", data := .seq #[.int i s.toks, u] } := (sb.2 _ (Nat.ne_of_gt hel)).trans hT
    have new : ObjOk X.prog X.w (upd H s.heap.objs.size (.tup [.int (i : Nat), x])) h'' s.heap.objs.size (.tup [.int (i : Nat), x]) :=
      ⟨by show 2 ≤ sizeLine; decide, [.int i s.toks, u], .cons ⟨_, rfl⟩ (.cons ru .nil), ⟨_, hT2, rfl, _, rfl⟩⟩
    have I1 : Inv X pins σ (upd H s.heap.objs.size (.tup [.int (i : Nat), x])) { s with heap := h'', toks := s.toks + 1 } :=
      I.turnedNew (ch := [e, it]) (fun b ob hb q => (sb.2 b (fun z => hb (by simp [z]))).trans (hk b ob (fun z => hb (by simp [z])) (fun z => hb (by simp [z])) q)) hf (Nat.le_refl _) new
    refine ⟨.ref s.heap.objs.size, _, I1, rfl, ⟨_, x, rfl, I.hok.fresh (Nat.le_refl _), rfl, fun ys hy => by rw [I.list_inj hy hq]; exact hx⟩, ⟨⟨u, ?_⟩, hit'.at fun o q => (sb.2 it (Ne.symm hne)).trans q, hne⟩, fun b hb => ?_⟩
    · have e1 : ((i + 1 : Nat) : Int) = (i : Int) + 1 := by omega
      rw [e1]; exact he'
    · have hb' : b < s.heap.objs.size := by
        have e' : b = e ∨ b = it := by simpa using hb
        rcases e' with z | z
        · rw [z]; exact hel
        · rw [z]; exact hil
      rw [upd_ne (Nat.ne_of_lt hb')]
      exact (hf b hb).1
  done := by
    intro X hP hw hK hc i pins s σ H E I hf st hg
    subst hP hw hK
    obtain ⟨⟨old, he⟩, hit, hne⟩ := st
    obtain ⟨xs, hq, hx⟩ := hg
    obtain ⟨its, rv, p, hz⟩ := I.list hq
    obtain ⟨f0, f1, f2, f3, f4, f5⟩ := hf it (by simp)
    have hl := rv.length
    exact wpAny_pyNext_enum_end (I.ok.hd hc) he hit p.isList (by simp; omega) fun h' eb => ⟨rfl, I.turned (t' := s.toks) (fun b o hb q => eb b o hb q) f0 f1 f3 f4 f5⟩
  self := fun A i s Q E st h => let ⟨⟨_, he⟩, _⟩ := st; wpAny_pyIter_enum he h
def iEnum (K : PySem.W.Frag) (ta : TA) : TI := fun σ H R => ta σ H fun vs H1 => ∃ a xs, vs = [.ref a] ∧ SqL K H1 a xs ∧ R (Ite K a) H1
theorem pi_enum {X : Cx} {e : Expr} {ta : TA} {p pos tpos : Pos} {elts : List Expr} {kk : Nat} (hg : Gl X "enumerate") (hm : X.mg "enumerate" = none) (ha : PA X [e] ta) (hs : starEach [e] X.env = [(false, eval e X.env)] := by rfl) :
    PI X (.Tuple elts kk tpos) (.Call (.Name "enumerate" p) [e] [] pos) (iEnum X.K ta) := by
  intro pins s σ H R I h
  refine Call_ (ld_blt I hg hm boot_enumerate (PyProof.Rows.callWith_type1 (thn (ha pos pins s σ H _ I h) fun us s1 ⟨vs, H1, I1, r1, q1⟩ => ?_) hs rfl))
  obtain ⟨a, xs, ex, hq, q⟩ := q1
  subst ex
  cases r1 with
  | cons r rr =>
    cases rr
    cases r
    obtain ⟨its, rv, p', hz⟩ := I1.list hq
    refine call_enumerate_list p'.isList fun h' he hit hsz hk => wpAny_pyIter_enum he ?_
    have I2 : Inv X pins σ H1 { s1 with heap := h' } := I1.kept (t' := s1.toks) hk
    refine ⟨s1.heap.objs.size + 1, [s1.heap.objs.size + 1, s1.heap.objs.size], _, _, H1, rfl, I2, turn_enum a (s1.heap.objs.size + 1) s1.heap.objs.size, ⟨⟨.none, he⟩, hit, Nat.succ_ne_self _⟩, fun b hb => ?_, q⟩
    have e' : b = s1.heap.objs.size + 1 ∨ b = s1.heap.objs.size := by simpa using hb
    have hle : s1.heap.objs.size ≤ b := by
      rcases e' with z | z
      · rw [z]; exact Nat.le_add_right _ _
      · rw [z]; exact Nat.le_refl _
    exact I1.fpOk hle (I1.hok.fresh hle)
end L2

namespace Att
open PySem PySem.W PySem.Calls PyProof.Rows

section
variable {prog : Program} {w : World} {A : Around} {E : Value → Shared → Prop} {s : Shared} {K : Frag}

end
end Att

namespace L2
open PySem PySem.Spec PyProof.Rows

end L2

namespace L2
open PySem PySem.Spec PyProof.Rows

end L2

/- THE LAST THEOREM (shape; LID, My.* are yours):
   My.Adr: a structure of the addresses that your layer names (classes, functions); My.Txt K t: a structure (Prop) of the equations over K;
   My.txt_mk : {K} {implicit addresses ..} (e1 : nsIn K mainGlobals "law" = some (some (.ref f))) (e2 : K.lookup f = some ⟨oc, od, .func (fnOf "law" "law" params body scope dV kV doc pm an cdv ct), sl⟩) (e3 : codeIn K cdv "law" = true) .. : ∃ t, My.Txt K t

set_option maxRecDepth 100000 in
set_option maxHeartbeats 0 in
theorem PySem.Challenge.cw_LID_holds : PySem.Challenge.rw_LID.Holds := by
  w_on; o_law; k_head; (case hw => w_witness2)
  k_fill
  refine L2.walk_of (l := PySem.Challenge.rw_LID) (n := 63) (k := 40) (x := "script") (CX := fun w => ..) (sp := fun _ => My.sp_law) rfl (by decide) rfl ⟨rfl, by decide, by decide⟩ (fun w h Y => PySem.W.kIn_of Y) ?F ?S ?C
  case F =>
    intro w mg fa h KX G hmg
    have T : ∃ t, My.Txt (L2.KOf KX) t := by
      dsimp only [L2.KOf]                          -- K must stand as «<heap const> w.params» for k_is
      refine' My.txt_mk ?e1 ?e2 ?e3 ..
      (case e1 => PySem.W.k_is)                    -- in the order: a name -> its address -> its object -> its parts
      (case e2 => PySem.W.k_is)
      ..
    obtain ⟨t, T⟩ := T
    have e0 := hmg.symm.trans (PySem.W.mg_of KX G T.law)
    cases e0                                       -- fa is the law's own address
    exact ⟨_, fun s u => .of_eq rfl, fun base kb nb => My.law_fn T kb nb⟩     -- if «.of_eq rfl» comes too early: refine' ⟨_, ?b, fun base kb nb => My.law_fn T kb nb⟩; exact fun s u => .of_eq rfl
  case S => exact fun w H a ns hl hO hS => ..
  case C => exact ..
(the tactic k_is has no namespace: write k_is) -/

namespace L2
open PySem PySem.Spec PyProof.Rows

/-- the j-th statement of a class's body -/
def inClass (s : Stmt) (j : Nat) : Stmt := match s with
  | .ClassDef _ _ _ body _ _ _ _ _ _ _ => body.getD j (.Pass ⟨0, 0, 0, 0⟩)
  | _ => .Pass ⟨0, 0, 0, 0⟩
def defArgs (s : Stmt) : Arguments := match s with
  | .FunctionDef _ a _ _ _ _ _ _ _ _ => a
  | _ => { posonlyargs := [], args := [], vararg := none, kwonlyargs := [], kw_defaults := [], kwarg := none, defaults := [] }
def defBody (s : Stmt) : List Stmt := match s with
  | .FunctionDef _ _ b _ _ _ _ _ _ _ => b
  | _ => []
def defScope (s : Stmt) : Scope := match s with
  | .FunctionDef _ _ _ _ _ _ sc _ _ _ => sc
  | _ => { kind := .function, names := [], isGenerator := false, isCoroutine := false }

abbrev CX0 : CXT := fun _ _ _ _ _ _ => False
abbrev E0 : XK := fun _ _ _ => False
theorem pass0 {X : Cx} : Passes CX0 X E0 := fun _ _ _ _ _ _ _ h => h.elim

structure Fun (K : PySem.W.Frag) (x qual : Str) (st : Stmt) (f : Addr) (fd : FuncData) : Prop where
  ex : ∃ (oc : Value) (od : Option Addr) (kV doc pm : Value) (an : Option Addr) (cdv ct : Value) (osl : Array (Option Value)),
    fd = PySem.W.fnOf x qual (defArgs st) (defBody st) (defScope st) .none kV doc pm an cdv ct ∧ K.lookup f = some ⟨oc, od, .func fd, osl⟩ ∧ PySem.W.codeIn K cdv qual = true
  kp : PySem.W.keepIn K (.ref f) = true
section
variable {P : Program} {w : World} {K : PySem.W.Frag} {mg : Str → Option Value} {base : Heap}
/-- THE RULE for a def: its body as a term of rules, and the reading of that term -/
theorem Fun.ok {x qual : Str} {st : Stmt} {f : Addr} {fd : FuncData} {N ps : List Str} {k : Nat} {sp : Sp} (F : Fun K x qual st f fd) (S : FnScope N ps (defScope st)) (len : ∀ vs H Q E, sp vs H Q E → vs.length = ps.length)
    (hbody : ∀ (cdv : Value) (A : Around) (outer : List Env) (s : Shared) (H : Hp) (vs : List V) (Q : VK) (E : XK), Room k (A.deeper (envOfC qual (defScope st) s.heap.objs.size f cdv)) → sp vs H Q E →
      ∃ t, PSs (cxOf CX0 P w K mg base N qual (defScope st) f cdv A outer s H E).nox (defBody st) t ∧ t { nx := fun _ H' => Q .non H', rt := Q } (start N vs) H) : FnOk P w K mg base CX0 (k + 1) f fd ps sp := by
  obtain ⟨oc, od, kV, doc, pm, an, cdv, ct, osl, rfl, lk, hcd⟩ := F.ex
  refine fn_of lk hcd S len fun A outer s H vs Q E hr hsp => ?_
  obtain ⟨t, h, q⟩ := hbody cdv A outer s H vs Q E hr hsp
  exact ⟨t, h.nox, q⟩
/-- how its arguments bind (no defaults): h is «fun _ _ _ _ _ _ us hl => match us, hl with | [_, _], _ => rfl», one _ a parameter -/
theorem Fun.binds {x qual : Str} {st : Stmt} {f : Addr} {fd : FuncData} {ps : List Str} (F : Fun K x qual st f fd)
    (h : ∀ (kV doc pm : Value) (an : Option Addr) (cdv ct : Value) (us : List Value), us.length = ps.length → bindArgs (PySem.W.fnOf x qual (defArgs st) (defBody st) (defScope st) .none kV doc pm an cdv ct) ⟨us, []⟩ = pure (ps.zip us)) : Binds K fd ps [] := by
  obtain ⟨oc, od, kV, doc, pm, an, cdv, ct, osl, rfl, lk, hcd⟩ := F.ex
  exact .all (h kV doc pm an cdv ct)
theorem fun_mk {x qual : Str} {st : Stmt} {f : Addr} {oc : Value} {od an : Option Addr} {osl : Array (Option Value)} {kV doc pm cdv ct : Value} (l : K.lookup f = some ⟨oc, od, .func (PySem.W.fnOf x qual (defArgs st) (defBody st) (defScope st) .none kV doc pm an cdv ct), osl⟩)
    (c : PySem.W.codeIn K cdv qual = true) (k : PySem.W.keepIn K (.ref f) = true) : Fun K x qual st f (PySem.W.fnOf x qual (defArgs st) (defBody st) (defScope st) .none kV doc pm an cdv ct) := ⟨⟨oc, od, kV, doc, pm, an, cdv, ct, osl, rfl, l, c⟩, k⟩
end
theorem small1000 {n : Nat} (h : n ≤ 1000) : n < sizeLine := Nat.lt_of_le_of_lt h (by decide)

section
variable {X : Cx}
theorem pv (i : Nat) {x : Str} {pos : Pos} (hN : X.N[i]? = some x := by rfl) (hv : Vis X.env.scope x := by first | exact Or.inl rfl | exact Or.inr (Or.inl rfl) | exact Or.inr (Or.inr rfl)) (hd : (x == ("__debug__" : Str)) = false := by decide)
    (hcd : (x == ("__classdict__" : Str)) = false := by decide) : PE X (.Name x pos) (tVar i) := pe_var hN hv hd hcd
end

theorem iteF {A B : Prop} (h : B) : if false = true then A else B := by
  rw [if_neg Bool.false_ne_true]
  exact h
theorem iteT {A B : Prop} (h : A) : if true = true then A else B := by
  rw [if_pos rfl]
  exact h
/-- all that was tracked is as it was -/
def Same (H H' : Hp) : Prop := ∀ b o, H b = some o → H' b = some o
theorem Same.refl (H : Hp) : Same H H := fun _ _ h => h
theorem Same.trans {H H1 H2 : Hp} (a : Same H H1) (b : Same H1 H2) : Same H H2 := fun c o h => b c o (a c o h)
theorem Same.free {H H' : Hp} (e : Same H H') {l : Addr} (h : H' l = Option.none) : H l = Option.none := by
  cases q : H l with
  | none => rfl
  | some o =>
    rw [e l o q] at h
    cases h
theorem Same.seq {K : PySem.W.Frag} {H H' : Hp} {a : Addr} {xs : List V} (e : Same H H') (h : SqL K H a xs) : SqL K H' a xs := by
  rcases h with (h | ⟨o, h⟩) | h
  · exact .inl (.inl (e _ _ h))
  · exact .inl (.inr ⟨o, e _ _ h⟩)
  · exact .inr h

section
variable {κ : Type} [DecidableEq κ]
end
theorem at_of {xs : List V} {z : Int} {j : Nat} {v : V} (e : z = (j : Int)) (h : xs[j]? = some v) : atI xs z = some v := by
  rw [e]
  exact atI_nat h
theorem nd_ix {α : Type} {l : List α} (hN : l.Nodup) {i j : Nat} {x : α} (a : l[i]? = some x) (b : l[j]? = some x) : i = j := by
  obtain ⟨h1, e1⟩ := List.getElem?_eq_some_iff.mp a
  obtain ⟨h2, e2⟩ := List.getElem?_eq_some_iff.mp b
  exact (List.getElem_inj hN).mp (e1.trans e2.symm)
/-- a new instance and its __init__ leave all that was tracked as it was -/
theorem Same.made {H H1 : Hp} {x dx C : Addr} (nx : H x = Option.none) (nd : H dx = Option.none) (k : ∀ b o, (upd (upd H dx (.own x)) x (.ins C dx [])) b = some o → b ≠ x → H1 b = some o) : Same H H1 := fun b o e =>
  k b o (by rw [upd_ne (ne_of_none e nx), upd_ne (ne_of_none e nd)]; exact e) (ne_of_none e nx)
end L2

section
set_option Elab.async false
set_option linter.all false
set_option maxRecDepth 100000
set_option maxHeartbeats 2000000
namespace L2
open PySem PySem.Spec PyProof.Rows
open PySem.W (WData Codec OpenSpec Well WellAll ReadsW ReadsAllW)
mutual
/-- x stands for the datum d, lists and tuples all the way -/
inductive Dw (K : PySem.W.Frag) (H : Hp) : V → WData → Prop
  | non : Dw K H .non .none
  | bl (b : Bool) : Dw K H (.bl b) (.bool b)
  | int (i : Int) : Dw K H (.int i) (.int i)
  | str (x : Str) : Dw K H (.str x) (.str x)
  | byt (b : Array UInt8) : Dw K H (.byt b) (.bytes b.toList)
  | lst {a : Addr} {xs : List V} {ds : List WData} : SqL K H a xs → DwAll K H xs ds → Dw K H (.ref a) (.list ds)
  | tup {a : Addr} {xs : List V} {ds : List WData} : SqT K H a xs → DwAll K H xs ds → Dw K H (.ref a) (.tuple ds)
inductive DwAll (K : PySem.W.Frag) (H : Hp) : List V → List WData → Prop
  | nil : DwAll K H [] []
  | cons {v : V} {vs : List V} {d : WData} {ds : List WData} : Dw K H v d → DwAll K H vs ds → DwAll K H (v :: vs) (d :: ds)
end
theorem dw_ints {K : PySem.W.Frag} {H : Hp} : ∀ ns : List Int, DwAll K H (ns.map V.int) (ns.map WData.int)
  | [] => .nil
  | n :: r => .cons (.int n) (dw_ints r)
theorem ints_dw {K : PySem.W.Frag} {H : Hp} : ∀ (ns : List Int) (xs : List V), DwAll K H xs (ns.map WData.int) → xs = ns.map V.int
  | [], xs, h => by
    cases h
    rfl
  | n :: r, xs, h => by
    cases h with
    | cons h1 h2 =>
      cases h1
      rw [ints_dw r _ h2] <;> rfl
section
variable {P : Program} {w : World} {K : PySem.W.Frag} {H : Hp} {h : Heap} {R : PySem.W.WRecords} {cl : Str → Option Addr}
theorem sqL_at {a : Addr} {xs : List V} (hok : HOk P w H h) (KX : K.In h) (q : SqL K H a xs) : ∃ (its : List Value) (o : Obj) (n : Nat), Vals xs its ∧ h.get? a = some o ∧ o.cls = .type "list" ∧ o.data = .seq its.toArray n := by
  rcases q with q | ⟨o, its, n, e, hc, _, hd, _, hv⟩
  · obtain ⟨_, its, n, hv, e⟩ := (show ObjOk P w H h a (.lst xs) from q.ok hok)
    exact ⟨its, _, n, hv, e, rfl, rfl⟩
  · exact ⟨its.toList, o, n, hv, KX _ _ e, hc, by simp [hd]⟩
theorem sqT_at {a : Addr} {xs : List V} (hok : HOk P w H h) (KX : K.In h) (q : SqT K H a xs) : ∃ (its : List Value) (o : Obj) (n : Nat), Vals xs its ∧ h.get? a = some o ∧ o.cls = .type "tuple" ∧ o.data = .seq its.toArray n := by
  rcases q with q | ⟨o, its, n, e, hc, hd, _, hv⟩
  · obtain ⟨_, its, hv, o, e, hc, n, hd⟩ := (show ObjOk P w H h a (.tup xs) from q.ok hok)
    exact ⟨its, o, n, hv, e, hc, hd⟩
  · exact ⟨its.toList, o, n, hv, KX _ _ e, hc, by simp [hd]⟩
mutual
theorem Dw.reads (hok : HOk P w H h) (KX : K.In h) : ∀ (d : WData) (v : V) (u : Value), Dw K H v d → RelV v u → ∃ as, ReadsW R cl h u d as
  | .none, _, _, x, r => by
    cases x
    cases r
    exact ⟨_, ReadsW.none⟩
  | .bool b, _, _, x, r => by
    cases x
    cases r
    exact ⟨_, ReadsW.bool b⟩
  | .int i, _, _, x, r => by
    cases x
    obtain ⟨t, rfl⟩ := r
    exact ⟨_, ReadsW.int i t⟩
  | .str s, _, _, x, r => by
    cases x
    obtain ⟨t, rfl⟩ := r
    exact ⟨_, ReadsW.str s t⟩
  | .bytes b, _, _, x, r => by
    cases x
    obtain ⟨t, rfl⟩ := r
    exact ⟨_, ReadsW.bytes _ t⟩
  | .list ds, _, _, x, r => by
    cases x with
    | lst hs ha =>
      cases r
      obtain ⟨its, o, n, rv, ho, hc, hd⟩ := sqL_at hok KX hs
      obtain ⟨as, hr⟩ := Dw.readsAll hok KX ds _ its ha rv
      exact ⟨_, ReadsW.list ho hc hd hr⟩
  | .tuple ds, _, _, x, r => by
    cases x with
    | tup hs ha =>
      cases r
      obtain ⟨its, o, n, rv, ho, hc, hd⟩ := sqT_at hok KX hs
      obtain ⟨as, hr⟩ := Dw.readsAll hok KX ds _ its ha rv
      exact ⟨_, ReadsW.tuple ho hc hd hr⟩
  | .float _, _, _, x, _ => by cases x
  | .dict _, _, _, x, _ => by cases x
  | .bytearray _, _, _, x, _ => by cases x
  | .set _, _, _, x, _ => by cases x
  | .frozenset _, _, _, x, _ => by cases x
  | .obj _ _, _, _, x, _ => by cases x
theorem Dw.readsAll (hok : HOk P w H h) (KX : K.In h) : ∀ (ds : List WData) (vs : List V) (us : List Value), DwAll K H vs ds → Vals vs us → ∃ as, ReadsAllW R cl h us ds as
  | [], _, _, x, r => by
    cases x
    cases r
    exact ⟨_, ReadsAllW.nil⟩
  | d :: ds, _, _, x, r => by
    cases x with
    | cons h1 h2 =>
      cases r with
      | cons r1 r2 =>
        obtain ⟨as, q1⟩ := Dw.reads hok KX d _ _ h1 r1
        obtain ⟨bs, q2⟩ := Dw.readsAll hok KX ds _ _ h2 r2
        exact ⟨_, ReadsAllW.cons q1 q2⟩
end
end
mutual
/-- data that a codec tells -/
def plW : WData → Bool
  | .none => true
  | .bool _ => true
  | .int _ => true
  | .str _ => true
  | .bytes _ => true
  | .list xs => plWs xs
  | .tuple xs => plWs xs
  | _ => false
def plWs : List WData → Bool
  | [] => true
  | x :: r => plW x && plWs r
end
theorem plWs_map {α : Type} {f : α → WData} (h : ∀ a, plW (f a) = true) : ∀ l : List α, plWs (l.map f) = true
  | [] => rfl
  | x :: r => by
    show (plW (f x) && plWs (r.map f)) = true
    rw [h x, plWs_map h r] <;> rfl
theorem pl_enc : ∀ (c : Codec) (a : c.denote), plW (c.enc a) = true
  | .unit, _ => rfl
  | .bool, _ => rfl
  | .int _ _, _ => rfl
  | .nat _ _, _ => rfl
  | .u8, _ => rfl
  | .bytes _ _, _ => rfl
  | .text _ _ _ _, _ => rfl
  | .list _ _ c, a => plWs_map (fun x => pl_enc c x) a
  | .pair c d, a => by
    show (plW (c.enc a.1) && (plW (d.enc a.2) && true)) = true
    rw [pl_enc c a.1, pl_enc d a.2] <;> rfl
  | .triple c d e, a => by
    show (plW (c.enc a.1) && (plW (d.enc a.2.1) && (plW (e.enc a.2.2) && true))) = true
    rw [pl_enc c a.1, pl_enc d a.2.1, pl_enc e a.2.2] <;> rfl
  | .option c, none => rfl
  | .option c, some x => pl_enc c x
theorem pl_encAll : ∀ (cs : List Codec) (a : Codec.denoteAll cs), plWs (Codec.encAll cs a) = true
  | [], _ => rfl
  | c :: cs, a => by
    show (plW (c.enc a.1) && plWs (Codec.encAll cs a.2)) = true
    rw [pl_enc c a.1, pl_encAll cs a.2] <;> rfl
theorem weight_mem : ∀ {xs : List WData} {d : WData}, d ∈ xs → d.weight ≤ WData.weightAll xs
  | [], d, h => absurd h (by simp)
  | x :: r, d, h => by
    show d.weight ≤ x.weight + 1 + WData.weightAll r
    rcases List.mem_cons.mp h with e | m
    · rw [e]
      omega
    · have z := weight_mem m
      omega
def toV : Value → V
  | .none => .non
  | .bool b => .bl b
  | .int i _ => .int i
  | .str x _ => .str x
  | .bytes b _ => .byt b
  | .ref a => .ref a
  | _ => .non
/-- a value of the arguments, its objects among A -/
def OkU (A : List Addr) : Value → Prop
  | .none => True
  | .bool _ => True
  | .int _ _ => True
  | .str _ _ => True
  | .bytes _ _ => True
  | .ref a => a ∈ A
  | _ => False
theorem OkU.mono {A B : List Addr} (h : ∀ a ∈ A, a ∈ B) : ∀ {u : Value}, OkU A u → OkU B u := fun {u} x => by
  cases u with
  | ref a => exact h a x
  | none => trivial
  | bool b => trivial
  | int i t => trivial
  | str s t => trivial
  | bytes b t => trivial
  | _ => exact False.elim x
theorem relV_toV {A : List Addr} {u : Value} (x : OkU A u) : RelV (toV u) u := by
  cases u with
  | ref a => rfl
  | none => rfl
  | bool b => rfl
  | int i t => exact ⟨t, rfl⟩
  | str s t => exact ⟨t, rfl⟩
  | bytes b t => exact ⟨t, rfl⟩
  | _ => exact False.elim x
theorem vals_toV {A : List Addr} : ∀ {vs : List Value}, (∀ u ∈ vs, OkU A u) → Vals (vs.map toV) vs
  | [], _ => .nil
  | u :: r, h => .cons (relV_toV (h u (List.mem_cons_self ..))) (vals_toV fun x hx => h x (List.mem_cons_of_mem _ hx))
/-- an object of the arguments -/
def ArgOb (h : Heap) (A : List Addr) (a : Addr) : Prop := ∃ vs : List Value, vs.length ≤ sizeLine ∧ (∀ u ∈ vs, OkU A u) ∧
  (h.get? a = some { cls := .type "list", data := .seq vs.toArray } ∨ h.get? a = some { cls := .type "tuple", data := .seq vs.toArray })
theorem ArgOb.mono {h : Heap} {A B : List Addr} {a : Addr} (k : ∀ a ∈ A, a ∈ B) (x : ArgOb h A a) : ArgOb h B a := by
  obtain ⟨vs, h1, h2, h3⟩ := x
  exact ⟨vs, h1, fun u hu => (h2 u hu).mono k, h3⟩
theorem wellAll_len {P : Params} {h : Heap} : ∀ {vs : List Value} {ds : List WData}, WellAll P h vs ds → vs.length = ds.length
  | _, _, .nil => rfl
  | _, _, .cons _ b => by
    show _ + 1 = _ + 1
    rw [wellAll_len b]
theorem well_list {P : Params} {h : Heap} {v : Value} {ds : List WData} (x : Well P h v (.list ds)) : ∃ (a : Addr) (vs : List Value), v = .ref a ∧ h.get? a = some { cls := .type "list", data := .seq vs.toArray } ∧ WellAll P h vs ds := by
  cases x with
  | list ho hall => exact ⟨_, _, rfl, ho, hall⟩
theorem well_tuple {P : Params} {h : Heap} {v : Value} {ds : List WData} (x : Well P h v (.tuple ds)) : ∃ (a : Addr) (vs : List Value), v = .ref a ∧ h.get? a = some { cls := .type "tuple", data := .seq vs.toArray } ∧ WellAll P h vs ds := by
  cases x with
  | tuple ho hall => exact ⟨_, _, rfl, ho, hall⟩
theorem well_cons {P : Params} {h : Heap} {us : List Value} {d : WData} {ds : List WData} (x : WellAll P h us (d :: ds)) : ∃ (v : Value) (vs : List Value), us = v :: vs ∧ Well P h v d ∧ WellAll P h vs ds := by
  cases x with
  | cons a b => exact ⟨_, _, rfl, a, b⟩
theorem line_of {n : Nat} (h : n ≤ 1048576) : n ≤ sizeLine := Nat.le_trans h (by decide)
section
variable {P : Params} {h : Heap}
mutual
theorem area_one : ∀ (d : WData) (v : Value), Well P h v d → plW d = true → d.weight ≤ 1048576 → ∃ A : List Addr, OkU A v ∧ ∀ a ∈ A, ArgOb h A a
  | .none, _, x, _, _ => by
    cases x
    exact ⟨[], trivial, fun a m => absurd m (by simp)⟩
  | .bool b, _, x, _, _ => by
    cases x
    exact ⟨[], trivial, fun a m => absurd m (by simp)⟩
  | .int i, _, x, _, _ => by
    cases x
    exact ⟨[], trivial, fun a m => absurd m (by simp)⟩
  | .str s, _, x, _, _ => by
    cases x
    exact ⟨[], trivial, fun a m => absurd m (by simp)⟩
  | .bytes b, _, x, _, _ => by
    cases x
    exact ⟨[], trivial, fun a m => absurd m (by simp)⟩
  | .list ds, _, x, p, z => by
    obtain ⟨a, vs, rfl, ho, hall⟩ := well_list x
    have z2 : WData.weightAll ds ≤ 1048576 := z
    obtain ⟨A, h1, h2⟩ := area_all ds _ hall p fun d hd => Nat.le_trans (weight_mem hd) z2
    have k : ∀ b ∈ A, b ∈ a :: A := fun b hb => List.mem_cons_of_mem _ hb
    refine ⟨a :: A, List.mem_cons_self .., fun b hb => ?_⟩
    rcases List.mem_cons.mp hb with e | m
    · rw [e]
      exact ⟨vs, line_of (by rw [wellAll_len hall]; exact Nat.le_trans (PySem.W.length_le_weightAllW ds) z2), fun u hu => (h1 u hu).mono k, .inl ho⟩
    · exact (h2 b m).mono k
  | .tuple ds, _, x, p, z => by
    obtain ⟨a, vs, rfl, ho, hall⟩ := well_tuple x
    have z2 : WData.weightAll ds ≤ 1048576 := z
    obtain ⟨A, h1, h2⟩ := area_all ds _ hall p fun d hd => Nat.le_trans (weight_mem hd) z2
    have k : ∀ b ∈ A, b ∈ a :: A := fun b hb => List.mem_cons_of_mem _ hb
    refine ⟨a :: A, List.mem_cons_self .., fun b hb => ?_⟩
    rcases List.mem_cons.mp hb with e | m
    · rw [e]
      exact ⟨vs, line_of (by rw [wellAll_len hall]; exact Nat.le_trans (PySem.W.length_le_weightAllW ds) z2), fun u hu => (h1 u hu).mono k, .inr ho⟩
    · exact (h2 b m).mono k
  | .float _, _, _, p, _ => Bool.noConfusion (show false = true from p)
  | .dict _, _, _, p, _ => Bool.noConfusion (show false = true from p)
  | .bytearray _, _, _, p, _ => Bool.noConfusion (show false = true from p)
  | .set _, _, _, p, _ => Bool.noConfusion (show false = true from p)
  | .frozenset _, _, _, p, _ => Bool.noConfusion (show false = true from p)
  | .obj _ _, _, _, p, _ => Bool.noConfusion (show false = true from p)
theorem area_all : ∀ (ds : List WData) (vs : List Value), WellAll P h vs ds → plWs ds = true → (∀ d ∈ ds, d.weight ≤ 1048576) → ∃ A : List Addr, (∀ u ∈ vs, OkU A u) ∧ ∀ a ∈ A, ArgOb h A a
  | [], _, x, _, _ => by
    cases x
    exact ⟨[], fun u m => absurd m (by simp), fun a m => absurd m (by simp)⟩
  | d :: ds, _, x, p, z => by
    obtain ⟨v, vs, rfl, x1, x2⟩ := well_cons x
    have q : plW d = true ∧ plWs ds = true := Bool.and_eq_true_iff.mp p
    obtain ⟨A, a1, a2⟩ := area_one d v x1 q.1 (z d (List.mem_cons_self ..))
    obtain ⟨B, b1, b2⟩ := area_all ds vs x2 q.2 fun e he => z e (List.mem_cons_of_mem _ he)
    have kA : ∀ b ∈ A, b ∈ A ++ B := fun b hb => List.mem_append.mpr (.inl hb)
    have kB : ∀ b ∈ B, b ∈ A ++ B := fun b hb => List.mem_append.mpr (.inr hb)
    refine ⟨A ++ B, fun u hu => ?_, fun b hb => ?_⟩
    · rcases List.mem_cons.mp hu with e | m
      · rw [e]
        exact a1.mono kA
      · exact (b1 u m).mono kB
    · rcases List.mem_append.mp hb with m | m
      · exact (a2 b m).mono kA
      · exact (b2 b m).mono kB
end
end
/-- what is tracked of an argument's object -/
def hoOf (o : Obj) : Option HO := match o.data with
  | .seq vs _ => if (o.cls == Value.type "list") = true then some (.frz o (.lst (vs.toList.map toV))) else some (.frz o (.tup (vs.toList.map toV)))
  | _ => none
def argH (K : PySem.W.Frag) (h : Heap) (A : List Addr) : Hp := fun b => if b ∈ A then (if (K.lookup b).isNone = true then (h.get? b).bind hoOf else none) else none
/-- nothing is tracked but what is known to the object -/
def OnlyF (H : Hp) : Prop := ∀ b, H b = none ∨ ∃ o u, H b = some (.frz o u)
theorem hoOf_lst (vs : List Value) : hoOf { cls := .type "list", data := .seq vs.toArray } = some (.frz { cls := .type "list", data := .seq vs.toArray } (.lst (vs.map toV))) := by
  show (if (Value.type "list" == Value.type "list") = true then some (HO.frz { cls := .type "list", data := .seq vs.toArray } (.lst (vs.toArray.toList.map toV))) else some (HO.frz { cls := .type "list", data := .seq vs.toArray } (.tup (vs.toArray.toList.map toV)))) = _
  rw [if_pos (beq_self_eq_true _)]
theorem hoOf_tup (vs : List Value) : hoOf { cls := .type "tuple", data := .seq vs.toArray } = some (.frz { cls := .type "tuple", data := .seq vs.toArray } (.tup (vs.map toV))) := by
  show (if (Value.type "tuple" == Value.type "list") = true then some (HO.frz { cls := .type "tuple", data := .seq vs.toArray } (.lst (vs.toArray.toList.map toV))) else some (HO.frz { cls := .type "tuple", data := .seq vs.toArray } (.tup (vs.toArray.toList.map toV)))) = _
  rw [if_neg (by decide)]
section
variable {P : Program} {w : World} {K : PySem.W.Frag} {h : Heap} {A : List Addr}
theorem argH_at {b : Addr} {o : Obj} (hb : b ∈ A) (hk : K.lookup b = none) (e : h.get? b = some o) : argH K h A b = hoOf o := by
  unfold argH
  rw [if_pos hb, hk, if_pos (show (none : Option Obj).isNone = true from rfl), e] <;> rfl
theorem of_argH {b : Addr} {u : HO} (q : argH K h A b = some u) : b ∈ A ∧ K.lookup b = none := by
  unfold argH at q
  by_cases hb : b ∈ A
  · rw [if_pos hb] at q
    cases hk : K.lookup b with
    | none => exact ⟨hb, rfl⟩
    | some o =>
      rw [hk, if_neg (by simp)] at q
      cases q
  · rw [if_neg hb] at q
    cases q
/-- what stands tracked -/
theorem argH_is (ar : ∀ a ∈ A, ArgOb h A a) {b : Addr} {u : HO} (q : argH K h A b = some u) : K.lookup b = none ∧ ∃ vs : List Value, vs.length ≤ sizeLine ∧ (∀ u ∈ vs, OkU A u) ∧
    ((h.get? b = some { cls := .type "list", data := .seq vs.toArray } ∧ u = .frz { cls := .type "list", data := .seq vs.toArray } (.lst (vs.map toV))) ∨
     (h.get? b = some { cls := .type "tuple", data := .seq vs.toArray } ∧ u = .frz { cls := .type "tuple", data := .seq vs.toArray } (.tup (vs.map toV)))) := by
  obtain ⟨hb, hk⟩ := of_argH q
  obtain ⟨vs, h1, h2, h3⟩ := ar b hb
  refine ⟨hk, vs, h1, h2, ?_⟩
  rcases h3 with e | e
  · rw [argH_at hb hk e, hoOf_lst] at q
    exact .inl ⟨e, (Option.some.inj q).symm⟩
  · rw [argH_at hb hk e, hoOf_tup] at q
    exact .inr ⟨e, (Option.some.inj q).symm⟩
theorem argH_only (ar : ∀ a ∈ A, ArgOb h A a) : OnlyF (argH K h A) := fun b => by
  cases q : argH K h A b with
  | none => exact .inl rfl
  | some u =>
    obtain ⟨_, vs, _, _, ⟨_, e⟩ | ⟨_, e⟩⟩ := argH_is ar q
    · exact .inr ⟨_, _, by rw [e]⟩
    · exact .inr ⟨_, _, by rw [e]⟩
theorem argH_ok (ar : ∀ a ∈ A, ArgOb h A a) : HOk P w (argH K h A) h := fun b u q => by
  obtain ⟨_, vs, h1, h2, ⟨e, rfl⟩ | ⟨e, rfl⟩⟩ := argH_is ar q
  · exact ⟨e, by rw [List.length_map]; exact h1, vs, _, vals_toV h2, e⟩
  · exact ⟨e, by rw [List.length_map]; exact h1, vs, vals_toV h2, _, e, rfl, _, rfl⟩
theorem seq_inj {c c' : Value} {vs us : List Value} (e : (some { cls := c, data := .seq vs.toArray } : Option Obj) = some { cls := c', data := .seq us.toArray }) : c = c' ∧ vs = us := by
  have e1 := Option.some.inj e
  have e2 : c = c' := congrArg Obj.cls e1
  have e3 : Data.seq vs.toArray = Data.seq us.toArray := congrArg Obj.data e1
  injection e3 with e4
  refine ⟨e2, ?_⟩
  have e5 := congrArg Array.toList e4
  simpa using e5
/-- a list argument -/
theorem argL (KX : K.In h) (ar : ∀ a ∈ A, ArgOb h A a) {a : Addr} {vs : List Value} (ha : a ∈ A) (e : h.get? a = some { cls := .type "list", data := .seq vs.toArray }) : (∀ u ∈ vs, OkU A u) ∧ SqL K (argH K h A) a (vs.map toV) := by
  obtain ⟨us, h1, h2, h3⟩ := ar a ha
  have hu : us = vs := by
    rcases h3 with q | q
    · rw [e] at q
      exact (seq_inj q).2.symm
    · rw [e] at q
      exact absurd (Value.type.inj (seq_inj q).1) (by decide)
  subst hu
  refine ⟨h2, ?_⟩
  cases hk : K.lookup a with
  | none => exact .inl (.inr ⟨_, by rw [argH_at ha hk e, hoOf_lst]⟩)
  | some o =>
    have e2 := KX a o hk
    rw [e] at e2
    obtain rfl := Option.some.inj e2
    exact .inr ⟨_, us.toArray, _, hk, rfl, rfl, rfl, by rw [List.size_toArray]; exact h1, by simpa using vals_toV h2⟩
theorem argT (KX : K.In h) (ar : ∀ a ∈ A, ArgOb h A a) {a : Addr} {vs : List Value} (ha : a ∈ A) (e : h.get? a = some { cls := .type "tuple", data := .seq vs.toArray }) : (∀ u ∈ vs, OkU A u) ∧ SqT K (argH K h A) a (vs.map toV) := by
  obtain ⟨us, h1, h2, h3⟩ := ar a ha
  have hu : us = vs := by
    rcases h3 with q | q
    · rw [e] at q
      exact absurd (Value.type.inj (seq_inj q).1) (by decide)
    · rw [e] at q
      exact (seq_inj q).2.symm
  subst hu
  refine ⟨h2, ?_⟩
  cases hk : K.lookup a with
  | none => exact .inl (.inr ⟨_, by rw [argH_at ha hk e, hoOf_tup]⟩)
  | some o =>
    have e2 := KX a o hk
    rw [e] at e2
    obtain rfl := Option.some.inj e2
    exact .inr ⟨_, us.toArray, _, hk, rfl, rfl, by rw [List.size_toArray]; exact h1, by simpa using vals_toV h2⟩
mutual
theorem dw_one {Pm : Params} (KX : K.In h) (ar : ∀ a ∈ A, ArgOb h A a) : ∀ (d : WData) (v : Value), Well Pm h v d → plW d = true → OkU A v → Dw K (argH K h A) (toV v) d
  | .none, _, x, _, _ => by
    cases x
    exact .non
  | .bool b, _, x, _, _ => by
    cases x
    exact .bl b
  | .int i, _, x, _, _ => by
    cases x
    exact .int i
  | .str s, _, x, _, _ => by
    cases x
    exact .str s
  | .bytes b, _, x, _, _ => by
    cases x
    have z := Dw.byt (K := K) (H := argH K h A) b.toArray
    exact z
  | .list ds, _, x, p, hu => by
    obtain ⟨a, vs, rfl, ho, hall⟩ := well_list x
    obtain ⟨h2, hs⟩ := argL KX ar hu ho
    exact .lst hs (dw_all KX ar ds _ hall p h2)
  | .tuple ds, _, x, p, hu => by
    obtain ⟨a, vs, rfl, ho, hall⟩ := well_tuple x
    obtain ⟨h2, hs⟩ := argT KX ar hu ho
    exact .tup hs (dw_all KX ar ds _ hall p h2)
  | .float _, _, _, p, _ => Bool.noConfusion (show false = true from p)
  | .dict _, _, _, p, _ => Bool.noConfusion (show false = true from p)
  | .bytearray _, _, _, p, _ => Bool.noConfusion (show false = true from p)
  | .set _, _, _, p, _ => Bool.noConfusion (show false = true from p)
  | .frozenset _, _, _, p, _ => Bool.noConfusion (show false = true from p)
  | .obj _ _, _, _, p, _ => Bool.noConfusion (show false = true from p)
theorem dw_all {Pm : Params} (KX : K.In h) (ar : ∀ a ∈ A, ArgOb h A a) : ∀ (ds : List WData) (vs : List Value), WellAll Pm h vs ds → plWs ds = true → (∀ u ∈ vs, OkU A u) → DwAll K (argH K h A) (vs.map toV) ds
  | [], _, x, _, _ => by
    cases x
    exact .nil
  | d :: ds, _, x, p, hu => by
    obtain ⟨v, vs, rfl, x1, x2⟩ := well_cons x
    have q : plW d = true ∧ plWs ds = true := Bool.and_eq_true_iff.mp p
    exact .cons (dw_one KX ar d v x1 q.1 (hu _ (List.mem_cons_self ..))) (dw_all KX ar ds vs x2 q.2 fun u m => hu u (List.mem_cons_of_mem _ m))
end
end
theorem spec_call {P : Program} {w : World} {K : PySem.W.Frag} {mg mb : Str → Option Value} {CX : CXT} {k : Nat} {fa : Addr} {fd : FuncData} {ps : List Str} {sp : Sp} {s₁ : Shared} {vals : List Value} {ds : List WData} {R : PySem.W.WRecords} {cl : Str → Option Addr} {d0 : WData}
    (KX : K.In s₁.heap) (hns : s₁.heap.Ns mainGlobals mg) (hb : s₁.heap.Ns builtinsNs mb) (hbb : ∀ x : Str, x ≠ "__name__" → mb x = bootBuiltins x) (hlim : s₁.heap.NoLimit) (hg : s₁.gens = #[])
    (hwl : WellAll w.params s₁.heap vals ds) (hpl : plWs ds = true) (hwt : ∀ d ∈ ds, d.weight ≤ 1048576) (hr : Room k callerA)
    (F : ∀ base : Heap, K.In base → base.Ns mainGlobals mg → FnOk P w K mg base CX k fa fd ps sp) (hbind : ∀ (s : Shared) (us : List Value), us.length = ps.length → BindsTo s fd ⟨us, []⟩ (ps.zip us)) (hlen : ds.length = ps.length)
    (hsp : ∀ (H : Hp) (xs : List V), OnlyF H → DwAll K H xs ds → sp xs H (fun v H' => Dw K H' v d0) fun _ _ _ => False)
    (hCX : ∀ H e s', CX [] H s₁ (fun _ _ _ => False) e s' → False) :
    codeAny (model P w) callerA (.call (.ref fa) ⟨vals, []⟩) (fun r s' => ∃ u as, r = .ok (.ret u) ∧ ReadsW R cl s'.heap u d0 as ∧ OldK s₁.heap s'.heap ∧ s'.os = s₁.os ∧ AllBare s'.gens) s₁ := by
  obtain ⟨A, ho, ar⟩ := area_all ds vals hwl hpl hwt
  have hO : OnlyF (argH K s₁.heap A) := argH_only ar
  have hok : HOk P w (argH K s₁.heap A) s₁.heap := argH_ok ar
  have hS := dw_all KX ar ds vals hwl hpl ho
  have hV := vals_toV ho
  have hK : ∀ b u, argH K s₁.heap A b = some u → K.lookup b = none := fun b u q => (argH_is ar q).1
  have noA : ∀ {b : Addr} {o : Obj} {es : Array DictEntry} {ep : Nat}, s₁.heap.get? b = some o → o.data = .dict es ep → argH K s₁.heap A b = none := fun {b o es ep} e d => by
    cases q : argH K s₁.heap A b with
    | none => rfl
    | some u =>
      obtain ⟨_, vs, _, _, ⟨e2, _⟩ | ⟨e2, _⟩⟩ := argH_is ar q
      · rw [e2] at e
        cases e
        have d' : Data.seq vs.toArray _ = Data.dict es ep := d
        cases d'
      · rw [e2] at e
        cases e
        have d' : Data.seq vs.toArray _ = Data.dict es ep := d
        cases d'
  generalize argH K s₁.heap A = H at hO hok hS hK noA
  have base_of : ∀ {b : Addr} {o : Obj}, s₁.heap.get? b = some o → H b = none → (hidT s₁.heap H).get? b = some o := fun e n => hidT_get e n
  have nsK : ∀ {b : Addr} {m : Str → Option Value}, s₁.heap.Ns b m → (hidT s₁.heap H).Ns b m := fun {b m} ⟨o, es, ep, e, d, r⟩ => ⟨o, es, ep, base_of e (noA e d), d, r⟩
  have nK : ∀ b o, K.lookup b = some o → H b = none := fun b o e => by
    cases q : H b with
    | none => rfl
    | some u =>
      rw [hK b u q] at e
      cases e
  have hKb : K.In (hidT s₁.heap H) := fun b o e => base_of (KX b o e) (nK b o e)
  have hM : Mod K mg (hidT s₁.heap H) := ⟨hKb, nsK hns, ⟨mb, nsK hb, hbb⟩, let ⟨mc, h1, h2⟩ := hlim; ⟨mc, nsK h1, h2⟩⟩
  have e0 : Env0 P w K mg (hidT s₁.heap H) callerA [] s₁ H := ⟨rfl, hM, fun b o e => of_hidT e, Nat.le_of_eq (hidT_size _ _), trivial, fun b hb => absurd (show b ∈ ([] : List Addr) from hb) (by simp), hok, .of_eq hg⟩
  have hl : vals.length = ps.length := by rw [wellAll_len hwl]; exact hlen
  refine codeAny_mono ((F _ hKb (nsK hns)).run callerA [] s₁ H ⟨vals, []⟩ vals (vals.map toV) _ _ hr e0 (hbind s₁ vals hl) hV (hsp H _ hO hS)) fun r s' x => ?_
  cases r with
  | error e => exact (hCX H e s' x).elim
  | ok fl =>
    cases fl with
    | next => exact False.elim x
    | brk => exact False.elim x
    | cont => exact False.elim x
    | ret u =>
      obtain ⟨v, H', os, bare, un, hok', r', q⟩ := x
      have kept : ∀ b o, s₁.heap.get? b = some o → s'.heap.get? b = some o := fun b o e => by
        cases q2 : H b with
        | none => exact un.keep b o e q2 (by intro z; exact absurd (show b ∈ ([] : List Addr) from z) (by simp)) (by simp)
        | some u2 =>
          rcases hO b with z | ⟨ob, u3, z⟩
          · rw [q2] at z
            cases z
          · have z2 := un.frzs b ob _ z
            obtain ⟨e1, _⟩ := hok b _ z
            obtain ⟨e2, _⟩ := hok' b _ z2
            rw [e] at e1
            cases e1
            exact e2
      have KX' : K.In s'.heap := fun b o e => kept b o (KX b o e)
      obtain ⟨as, hrd⟩ := Dw.reads (R := R) (cl := cl) hok' KX' d0 v u q r'
      exact ⟨u, as, rfl, hrd, OldK.of_keep kept, os, bare⟩
theorem layable_weight {ds : List WData} (h : WData.layableAll ds = true) : ∀ d ∈ ds, d.weight ≤ 1048576 := fun d hd =>
  (PySem.W.layableW_iff.mp (List.all_eq_true.mp h d hd)).2.2
theorem encAll_len : ∀ (cs : List Codec) (a : Codec.denoteAll cs), (Codec.encAll cs a).length = cs.length
  | [], _ => rfl
  | c :: cs, a => by
    show (Codec.encAll cs a.2).length + 1 = cs.length + 1
    rw [encAll_len cs a.2]
/-- the goal that k_headS leaves (case hc), from the promise of the row's def: whatever the arguments that the codecs let and the row asks for, the def gives what stands for enc (f ..) -/
theorem walk_spec {r : OpenSpec} {k : Nat} {q : Program} {loose : List Str} {XP : (Str → Option Value) → Heap → Prop} {YP : World → Heap → Prop} {d : DefRec} {K : Params → PySem.W.Frag} {CX : World → CXT} {ps : List Str} {sp : World → Sp}
    (hwell : r.wellSaid = true) (hdf : d.params.defaults = []) (hlen : r.args.length = ps.length) (hr : Room k callerA)
    (hY : ∀ (w : World) (h : Heap), YP w h → (K w.params).In h)
    (F : ∀ (w : World) (mg : Str → Option Value) (fa : Addr) (h : Heap), YP w h → (K w.params).In h → h.Ns mainGlobals mg → mg d.name = some (.ref fa) →
      ∃ fd : FuncData, (∀ (s : Shared) (us : List Value), us.length = ps.length → BindsTo s fd ⟨us, []⟩ (ps.zip us)) ∧
        ∀ base : Heap, (K w.params).In base → base.Ns mainGlobals mg → FnOk r.prog w (K w.params) mg base (CX w) k fa fd ps (sp w))
    (hsp : ∀ (w : World) (H : Hp) (xs : List V) (a : Codec.denoteAll r.args), OnlyF H → Codec.withinAll r.args a = true → Codec.app r.args r.asked a = true → DwAll (K w.params) H xs (Codec.encAll r.args a) →
      sp w xs H (fun v H' => Dw (K w.params) H' v (r.ret.enc (Codec.app r.args r.f a))) fun _ _ _ => False)
    (hCX : ∀ (w : World) (H : Hp) (s : Shared) (e : Value) (s' : Shared), CX w [] H s (fun _ _ _ => False) e s' → False) :
    PySem.W.WalkOS q loose XP YP r d [] (fun f vs => PySem.call f vs) := by
  intro w s_0 s₁ mg mb G Y fa o pm cd doc dV kV ho hd hcd hD hmg hg args vals as hpre hlay hrd hwl hlo
  obtain ⟨a, e1, e2⟩ := PySem.W.os_pre_some hpre
  obtain ⟨e3, hwi⟩ := Codec.encAll_of_decAll r.args args a e1
  subst e3
  have KX := hY w _ Y
  obtain ⟨fd, hb, hF⟩ := F w mg fa _ Y KX G.T.g hmg
  refine PySem.W.enter_call (codeAny_mono (spec_call (R := []) (cl := classAt s_0.heap) (d0 := r.ret.enc (Codec.app r.args r.f a)) KX G.T.g G.T.b G.T.builtins G.T.nolimit hg hwl (pl_encAll _ _) (layable_weight hlay) hr hF hb (by rw [encAll_len]; exact hlen)
    (fun H xs hO hS => hsp w H xs a hO hwi e2 hS) fun H e s' => hCX w H s₁ e s') fun r' s' hq => ?_)
  obtain ⟨u, as', rfl, h1, h2, h3, h4⟩ := hq
  exact ⟨.inl ⟨u, _, as', rfl, fun _ => rfl, h1, (OpenSpec.post_iff hwell hwi _ _).mpr rfl, fun z => Bool.noConfusion (show false = true from z)⟩, h2, h3, h4⟩
/-- the same where the promise hangs on the written part alone -/
theorem walk_specK {r : OpenSpec} {k : Nat} {q : Program} {loose : List Str} {XP : (Str → Option Value) → Heap → Prop} {YP : World → Heap → Prop} {d : DefRec} {K : Params → PySem.W.Frag} {CX : CXT} {ps : List Str} {sp : PySem.W.Frag → Sp}
    (hwell : r.wellSaid = true) (hdf : d.params.defaults = []) (hlen : r.args.length = ps.length) (hr : Room k callerA)
    (hY : ∀ (w : World) (h : Heap), YP w h → (K w.params).In h)
    (F : ∀ (w : World) (mg : Str → Option Value) (fa : Addr) (h : Heap), YP w h → (K w.params).In h → h.Ns mainGlobals mg → mg d.name = some (.ref fa) →
      ∃ fd : FuncData, (∀ (s : Shared) (us : List Value), us.length = ps.length → BindsTo s fd ⟨us, []⟩ (ps.zip us)) ∧
        ∀ base : Heap, (K w.params).In base → base.Ns mainGlobals mg → FnOk r.prog w (K w.params) mg base CX k fa fd ps (sp (K w.params)))
    (hsp : ∀ (K : PySem.W.Frag) (H : Hp) (xs : List V) (a : Codec.denoteAll r.args), OnlyF H → Codec.withinAll r.args a = true → Codec.app r.args r.asked a = true → DwAll K H xs (Codec.encAll r.args a) →
      sp K xs H (fun v H' => Dw K H' v (r.ret.enc (Codec.app r.args r.f a))) fun _ _ _ => False)
    (hCX : ∀ (H : Hp) (s : Shared) (e : Value) (s' : Shared), CX [] H s (fun _ _ _ => False) e s' → False) :
    PySem.W.WalkOS q loose XP YP r d [] (fun f vs => PySem.call f vs) :=
  walk_spec (K := K) (CX := fun _ => CX) (sp := fun w => sp (K w.params)) hwell hdf hlen hr hY F (fun w H xs a h1 h2 h3 h4 => hsp (K w.params) H xs a h1 h2 h3 h4) fun _ H s e s' => hCX H s e s'
end L2
-- rests on (row put in by the clerk, for the bench that shows a file only what it spells): KE.SpHead KE.OsShapes
end

set_option Elab.async false
set_option linter.all false
set_option maxRecDepth 100000
set_option maxHeartbeats 2000000
namespace Sp
open PySem PySem.Spec PyProof.Rows L2
open PySem.W (Codec)
def top (i : Nat) : Stmt := PySem.Challenge.pw_sandpipe_s01_answers.main.body.getD i (.Pass ⟨0, 0, 0, 0⟩)
abbrev s_is_speed : Stmt := top 8
abbrev s_is_grain : Stmt := top 9
abbrev s_is_mix : Stmt := top 10
abbrev s_is_width : Stmt := top 11
abbrev s_is_piece : Stmt := top 12
abbrev s_lost : Stmt := top 19
abbrev s_lifted : Stmt := top 20
abbrev s_given : Stmt := top 21
abbrev s_settling_speed : Stmt := top 22
abbrev s_given_at_joint : Stmt := top 23
abbrev s_joint_pressures : Stmt := top 24
abbrev s_settling_pieces : Stmt := top 25
abbrev s_hindrance : Stmt := top 26
abbrev s_goes_at : Stmt := top 27
abbrev s_litres : Stmt := top 28
abbrev s_loses : Stmt := top 38
abbrev s_settles : Stmt := top 39
abbrev s_gives : Stmt := top 40
abbrev s_pressures : Stmt := top 41
abbrev s_goes : Stmt := top 42
abbrev s_slowest : Stmt := top 43
abbrev s_fastest : Stmt := top 44
abbrev s_why : Stmt := top 45
abbrev s_blocks : Stmt := top 46
abbrev s_least : Stmt := top 47
abbrev s_most : Stmt := top 48
abbrev s_spare : Stmt := top 49
abbrev s_flow : Stmt := top 50
abbrev s_look : Stmt := top 51
abbrev s_state : Stmt := top 52
abbrev s_Piece__init__ : Stmt := inClass (top 54) 0
abbrev s_Pump__init__ : Stmt := inClass (top 55) 0
abbrev s_Pipe__init__ : Stmt := inClass (top 56) 0
abbrev s_copied : Stmt := top 57
abbrev s_begin : Stmt := top 59
abbrev s_add_piece : Stmt := top 60
abbrev s_add_pump : Stmt := top 61
abbrev s_switch_pump : Stmt := top 62
abbrev s_change_mix : Stmt := top 63
abbrev s_change_grain : Stmt := top 64
abbrev s_cut_piece : Stmt := top 65
abbrev s_with_choice : Stmt := top 67
abbrev s_choice_count : Stmt := top 68
abbrev s_running_count : Stmt := top 69
abbrev s_fewest : Stmt := top 70
abbrev s_richest : Stmt := top 71
abbrev s_goes_with : Stmt := top 72
abbrev s_longest_that_goes : Stmt := top 73
abbrev s_farther : Stmt := top 74
abbrev s_answer_change : Stmt := top 80
abbrev s_answer_measure : Stmt := top 81
abbrev s_answer_by_speed : Stmt := top 82
abbrev s_answer_rest : Stmt := top 83
abbrev s_answer_call : Stmt := top 84
abbrev s_answers : Stmt := top 85
theorem sc_is_speed : FnScope ["speed"] ["speed"] (defScope s_is_speed) := ⟨rfl, rfl, rfl, by decide +kernel, rfl, by decide +kernel, by decide +kernel⟩
theorem sc_is_grain : FnScope ["grain"] ["grain"] (defScope s_is_grain) := ⟨rfl, rfl, rfl, by decide +kernel, rfl, by decide +kernel, by decide +kernel⟩
theorem sc_is_mix : FnScope ["mix"] ["mix"] (defScope s_is_mix) := ⟨rfl, rfl, rfl, by decide +kernel, rfl, by decide +kernel, by decide +kernel⟩
theorem sc_is_width : FnScope ["wide"] ["wide"] (defScope s_is_width) := ⟨rfl, rfl, rfl, by decide +kernel, rfl, by decide +kernel, by decide +kernel⟩
theorem sc_is_piece : FnScope ["long", "rise", "wide"] ["long", "rise", "wide"] (defScope s_is_piece) := ⟨rfl, rfl, rfl, by decide +kernel, rfl, by decide +kernel, by decide +kernel⟩
theorem sc_lost : FnScope ["pipe", "piece", "speed", "resistance", "divisor"] ["pipe", "piece", "speed"] (defScope s_lost) := ⟨rfl, rfl, rfl, by decide +kernel, rfl, by decide +kernel, by decide +kernel⟩
theorem sc_lifted : FnScope ["pipe", "piece"] ["pipe", "piece"] (defScope s_lifted) := ⟨rfl, rfl, rfl, by decide +kernel, rfl, by decide +kernel, by decide +kernel⟩
theorem sc_given : FnScope ["pump", "speed"] ["pump", "speed"] (defScope s_given) := ⟨rfl, rfl, rfl, by decide +kernel, rfl, by decide +kernel, by decide +kernel⟩
theorem sc_settling_speed : FnScope ["pipe", "piece"] ["pipe", "piece"] (defScope s_settling_speed) := ⟨rfl, rfl, rfl, by decide +kernel, rfl, by decide +kernel, by decide +kernel⟩
theorem sc_given_at_joint : FnScope ["pipe", "joint", "speed", "pump"] ["pipe", "joint", "speed"] (defScope s_given_at_joint) := ⟨rfl, rfl, rfl, by decide +kernel, rfl, by decide +kernel, by decide +kernel⟩
theorem sc_joint_pressures : FnScope ["pipe", "speed", "found", "pressure", "joint", "piece"] ["pipe", "speed"] (defScope s_joint_pressures) := ⟨rfl, rfl, rfl, by decide +kernel, rfl, by decide +kernel, by decide +kernel⟩
theorem sc_settling_pieces : FnScope ["pipe", "speed", "number", "piece"] ["pipe", "speed"] (defScope s_settling_pieces) := ⟨rfl, rfl, rfl, by decide +kernel, rfl, by decide +kernel, by decide +kernel⟩
theorem sc_hindrance : FnScope ["pipe", "speed", "settling", "found", "end", "joint"] ["pipe", "speed"] (defScope s_hindrance) := ⟨rfl, rfl, rfl, by decide +kernel, rfl, by decide +kernel, by decide +kernel⟩
theorem sc_goes_at : FnScope ["pipe", "speed"] ["pipe", "speed"] (defScope s_goes_at) := ⟨rfl, rfl, rfl, by decide +kernel, rfl, by decide +kernel, by decide +kernel⟩
theorem sc_litres : FnScope ["pipe", "speed", "narrowest", "piece"] ["pipe", "speed"] (defScope s_litres) := ⟨rfl, rfl, rfl, by decide +kernel, rfl, by decide +kernel, by decide +kernel⟩
theorem sc_loses : FnScope ["pipe", "number", "speed", "piece"] ["pipe", "number", "speed"] (defScope s_loses) := ⟨rfl, rfl, rfl, by decide +kernel, rfl, by decide +kernel, by decide +kernel⟩
theorem sc_settles : FnScope ["pipe", "number"] ["pipe", "number"] (defScope s_settles) := ⟨rfl, rfl, rfl, by decide +kernel, rfl, by decide +kernel, by decide +kernel⟩
theorem sc_gives : FnScope ["pipe", "number", "speed"] ["pipe", "number", "speed"] (defScope s_gives) := ⟨rfl, rfl, rfl, by decide +kernel, rfl, by decide +kernel, by decide +kernel⟩
theorem sc_pressures : FnScope ["pipe", "speed", "found"] ["pipe", "speed"] (defScope s_pressures) := ⟨rfl, rfl, rfl, by decide +kernel, rfl, by decide +kernel, by decide +kernel⟩
theorem sc_goes : FnScope ["pipe", "speed"] ["pipe", "speed"] (defScope s_goes) := ⟨rfl, rfl, rfl, by decide +kernel, rfl, by decide +kernel, by decide +kernel⟩
theorem sc_slowest : FnScope ["pipe", "speed"] ["pipe"] (defScope s_slowest) := ⟨rfl, rfl, rfl, by decide +kernel, rfl, by decide +kernel, by decide +kernel⟩
theorem sc_fastest : FnScope ["pipe", "speed"] ["pipe"] (defScope s_fastest) := ⟨rfl, rfl, rfl, by decide +kernel, rfl, by decide +kernel, by decide +kernel⟩
theorem sc_why : FnScope ["pipe", "speed"] ["pipe", "speed"] (defScope s_why) := ⟨rfl, rfl, rfl, by decide +kernel, rfl, by decide +kernel, by decide +kernel⟩
theorem sc_blocks : FnScope ["pipe", "speed", "found"] ["pipe", "speed"] (defScope s_blocks) := ⟨rfl, rfl, rfl, by decide +kernel, rfl, by decide +kernel, by decide +kernel⟩
theorem sc_least : FnScope ["pipe", "speed", "found", "pressure"] ["pipe", "speed"] (defScope s_least) := ⟨rfl, rfl, rfl, by decide +kernel, rfl, by decide +kernel, by decide +kernel⟩
theorem sc_most : FnScope ["pipe", "speed", "found", "pressure"] ["pipe", "speed"] (defScope s_most) := ⟨rfl, rfl, rfl, by decide +kernel, rfl, by decide +kernel, by decide +kernel⟩
theorem sc_spare : FnScope ["pipe", "speed"] ["pipe", "speed"] (defScope s_spare) := ⟨rfl, rfl, rfl, by decide +kernel, rfl, by decide +kernel, by decide +kernel⟩
theorem sc_flow : FnScope ["pipe", "speed", "whole"] ["pipe", "speed"] (defScope s_flow) := ⟨rfl, rfl, rfl, by decide +kernel, rfl, by decide +kernel, by decide +kernel⟩
theorem sc_look : FnScope ["pipe", "number", "piece", "pumps", "place", "pump"] ["pipe", "number"] (defScope s_look) := ⟨rfl, rfl, rfl, by decide +kernel, rfl, by decide +kernel, by decide +kernel⟩
theorem sc_state : FnScope ["pipe", "metres", "piece"] ["pipe"] (defScope s_state) := ⟨rfl, rfl, rfl, by decide +kernel, rfl, by decide +kernel, by decide +kernel⟩
theorem sc_Piece__init__ : FnScope ["self", "long", "rise", "wide"] ["self", "long", "rise", "wide"] (defScope s_Piece__init__) := ⟨rfl, rfl, rfl, by decide +kernel, rfl, by decide +kernel, by decide +kernel⟩
theorem sc_Pump__init__ : FnScope ["self", "at", "adds", "runs"] ["self", "at", "adds", "runs"] (defScope s_Pump__init__) := ⟨rfl, rfl, rfl, by decide +kernel, rfl, by decide +kernel, by decide +kernel⟩
theorem sc_Pipe__init__ : FnScope ["self"] ["self"] (defScope s_Pipe__init__) := ⟨rfl, rfl, rfl, by decide +kernel, rfl, by decide +kernel, by decide +kernel⟩
theorem sc_copied : FnScope ["pipe", "other"] ["pipe"] (defScope s_copied) := ⟨rfl, rfl, rfl, by decide +kernel, rfl, by decide +kernel, by decide +kernel⟩
theorem sc_begin : FnScope ["pipe", "grain", "mix", "low", "high"] ["pipe", "grain", "mix", "low", "high"] (defScope s_begin) := ⟨rfl, rfl, rfl, by decide +kernel, rfl, by decide +kernel, by decide +kernel⟩
theorem sc_add_piece : FnScope ["pipe", "long", "rise", "wide", "number"] ["pipe", "long", "rise", "wide"] (defScope s_add_piece) := ⟨rfl, rfl, rfl, by decide +kernel, rfl, by decide +kernel, by decide +kernel⟩
theorem sc_add_pump : FnScope ["pipe", "at", "adds", "number"] ["pipe", "at", "adds"] (defScope s_add_pump) := ⟨rfl, rfl, rfl, by decide +kernel, rfl, by decide +kernel, by decide +kernel⟩
theorem sc_switch_pump : FnScope ["pipe", "number", "runs", "pump"] ["pipe", "number", "runs"] (defScope s_switch_pump) := ⟨rfl, rfl, rfl, by decide +kernel, rfl, by decide +kernel, by decide +kernel⟩
theorem sc_change_mix : FnScope ["pipe", "mix", "before"] ["pipe", "mix"] (defScope s_change_mix) := ⟨rfl, rfl, rfl, by decide +kernel, rfl, by decide +kernel, by decide +kernel⟩
theorem sc_change_grain : FnScope ["pipe", "grain", "before"] ["pipe", "grain"] (defScope s_change_grain) := ⟨rfl, rfl, rfl, by decide +kernel, rfl, by decide +kernel, by decide +kernel⟩
theorem sc_cut_piece : FnScope ["pipe", "last", "pump"] ["pipe"] (defScope s_cut_piece) := ⟨rfl, rfl, rfl, by decide +kernel, rfl, by decide +kernel, by decide +kernel⟩
theorem sc_with_choice : FnScope ["pipe", "choice", "pumps", "bits", "pump", "other"] ["pipe", "choice"] (defScope s_with_choice) := ⟨rfl, rfl, rfl, by decide +kernel, rfl, by decide +kernel, by decide +kernel⟩
theorem sc_choice_count : FnScope ["pipe", "count", "pump"] ["pipe"] (defScope s_choice_count) := ⟨rfl, rfl, rfl, by decide +kernel, rfl, by decide +kernel, by decide +kernel⟩
theorem sc_running_count : FnScope ["pipe", "pump"] ["pipe"] (defScope s_running_count) := ⟨rfl, rfl, rfl, by decide +kernel, rfl, by decide +kernel, by decide +kernel⟩
theorem sc_fewest : FnScope ["pipe", "speed", "best", "best_count", "choice", "tried", "count"] ["pipe", "speed"] (defScope s_fewest) := ⟨rfl, rfl, rfl, by decide +kernel, rfl, by decide +kernel, by decide +kernel⟩
theorem sc_richest : FnScope ["pipe", "speed", "tried", "mix"] ["pipe", "speed"] (defScope s_richest) := ⟨rfl, rfl, rfl, by decide +kernel, rfl, by decide +kernel, by decide +kernel⟩
theorem sc_goes_with : FnScope ["pipe", "speed", "long", "wide", "tried"] ["pipe", "speed", "long", "wide"] (defScope s_goes_with) := ⟨rfl, rfl, rfl, by decide +kernel, rfl, by decide +kernel, by decide +kernel⟩
theorem sc_longest_that_goes : FnScope ["pipe", "speed", "wide", "good", "bad", "middle"] ["pipe", "speed", "wide"] (defScope s_longest_that_goes) := ⟨rfl, rfl, rfl, by decide +kernel, rfl, by decide +kernel, by decide +kernel⟩
theorem sc_farther : FnScope ["pipe", "speed", "wide"] ["pipe", "speed", "wide"] (defScope s_farther) := ⟨rfl, rfl, rfl, by decide +kernel, rfl, by decide +kernel, by decide +kernel⟩
theorem sc_answer_change : FnScope ["pipe", "number", "told"] ["pipe", "number", "told"] (defScope s_answer_change) := ⟨rfl, rfl, rfl, by decide +kernel, rfl, by decide +kernel, by decide +kernel⟩
theorem sc_answer_measure : FnScope ["pipe", "number", "told"] ["pipe", "number", "told"] (defScope s_answer_measure) := ⟨rfl, rfl, rfl, by decide +kernel, rfl, by decide +kernel, by decide +kernel⟩
theorem sc_answer_by_speed : FnScope ["pipe", "number", "speed"] ["pipe", "number", "speed"] (defScope s_answer_by_speed) := ⟨rfl, rfl, rfl, by decide +kernel, rfl, by decide +kernel, by decide +kernel⟩
theorem sc_answer_rest : FnScope ["pipe", "number", "told"] ["pipe", "number", "told"] (defScope s_answer_rest) := ⟨rfl, rfl, rfl, by decide +kernel, rfl, by decide +kernel, by decide +kernel⟩
theorem sc_answer_call : FnScope ["pipe", "number", "told"] ["pipe", "number", "told"] (defScope s_answer_call) := ⟨rfl, rfl, rfl, by decide +kernel, rfl, by decide +kernel, by decide +kernel⟩
theorem sc_answers : FnScope ["calls", "pipe", "found", "place", "number", "behind", "answer"] ["calls"] (defScope s_answers) := ⟨rfl, rfl, rfl, by decide +kernel, rfl, by decide +kernel, by decide +kernel⟩
structure Ad where
  c_Piece : Addr
  c_Pump : Addr
  c_Pipe : Addr
  f_is_speed : Addr
  d_is_speed : FuncData
  f_is_grain : Addr
  d_is_grain : FuncData
  f_is_mix : Addr
  d_is_mix : FuncData
  f_is_width : Addr
  d_is_width : FuncData
  f_is_piece : Addr
  d_is_piece : FuncData
  f_lost : Addr
  d_lost : FuncData
  f_lifted : Addr
  d_lifted : FuncData
  f_given : Addr
  d_given : FuncData
  f_settling_speed : Addr
  d_settling_speed : FuncData
  f_given_at_joint : Addr
  d_given_at_joint : FuncData
  f_joint_pressures : Addr
  d_joint_pressures : FuncData
  f_settling_pieces : Addr
  d_settling_pieces : FuncData
  f_hindrance : Addr
  d_hindrance : FuncData
  f_goes_at : Addr
  d_goes_at : FuncData
  f_litres : Addr
  d_litres : FuncData
  f_loses : Addr
  d_loses : FuncData
  f_settles : Addr
  d_settles : FuncData
  f_gives : Addr
  d_gives : FuncData
  f_pressures : Addr
  d_pressures : FuncData
  f_goes : Addr
  d_goes : FuncData
  f_slowest : Addr
  d_slowest : FuncData
  f_fastest : Addr
  d_fastest : FuncData
  f_why : Addr
  d_why : FuncData
  f_blocks : Addr
  d_blocks : FuncData
  f_least : Addr
  d_least : FuncData
  f_most : Addr
  d_most : FuncData
  f_spare : Addr
  d_spare : FuncData
  f_flow : Addr
  d_flow : FuncData
  f_look : Addr
  d_look : FuncData
  f_state : Addr
  d_state : FuncData
  f_Piece__init__ : Addr
  d_Piece__init__ : FuncData
  f_Pump__init__ : Addr
  d_Pump__init__ : FuncData
  f_Pipe__init__ : Addr
  d_Pipe__init__ : FuncData
  f_copied : Addr
  d_copied : FuncData
  f_begin : Addr
  d_begin : FuncData
  f_add_piece : Addr
  d_add_piece : FuncData
  f_add_pump : Addr
  d_add_pump : FuncData
  f_switch_pump : Addr
  d_switch_pump : FuncData
  f_change_mix : Addr
  d_change_mix : FuncData
  f_change_grain : Addr
  d_change_grain : FuncData
  f_cut_piece : Addr
  d_cut_piece : FuncData
  f_with_choice : Addr
  d_with_choice : FuncData
  f_choice_count : Addr
  d_choice_count : FuncData
  f_running_count : Addr
  d_running_count : FuncData
  f_fewest : Addr
  d_fewest : FuncData
  f_richest : Addr
  d_richest : FuncData
  f_goes_with : Addr
  d_goes_with : FuncData
  f_longest_that_goes : Addr
  d_longest_that_goes : FuncData
  f_farther : Addr
  d_farther : FuncData
  f_answer_change : Addr
  d_answer_change : FuncData
  f_answer_measure : Addr
  d_answer_measure : FuncData
  f_answer_by_speed : Addr
  d_answer_by_speed : FuncData
  f_answer_rest : Addr
  d_answer_rest : FuncData
  f_answer_call : Addr
  d_answer_call : FuncData
  f_answers : Addr
  d_answers : FuncData
  t_ARGUMENT_COUNTS : Addr
structure Txt (K : PySem.W.Frag) (mg : Str → Option Value) (A : Ad) : Prop where
  cl_Piece : Cls K A.c_Piece
  m_Piece : mg "Piece" = some (.ref A.c_Piece)
  mk_Piece : Mk K A.c_Piece A.f_Piece__init__
  n_Piece_long : NoAttr K A.c_Piece "long"
  n_Piece_rise : NoAttr K A.c_Piece "rise"
  n_Piece_wide : NoAttr K A.c_Piece "wide"
  cl_Pump : Cls K A.c_Pump
  m_Pump : mg "Pump" = some (.ref A.c_Pump)
  mk_Pump : Mk K A.c_Pump A.f_Pump__init__
  n_Pump_at : NoAttr K A.c_Pump "at"
  n_Pump_adds : NoAttr K A.c_Pump "adds"
  n_Pump_runs : NoAttr K A.c_Pump "runs"
  cl_Pipe : Cls K A.c_Pipe
  m_Pipe : mg "Pipe" = some (.ref A.c_Pipe)
  mk_Pipe : Mk K A.c_Pipe A.f_Pipe__init__
  n_Pipe_begun : NoAttr K A.c_Pipe "begun"
  n_Pipe_grain : NoAttr K A.c_Pipe "grain"
  n_Pipe_mix : NoAttr K A.c_Pipe "mix"
  n_Pipe_low : NoAttr K A.c_Pipe "low"
  n_Pipe_high : NoAttr K A.c_Pipe "high"
  n_Pipe_pieces : NoAttr K A.c_Pipe "pieces"
  n_Pipe_pumps : NoAttr K A.c_Pipe "pumps"
  F_is_speed : Fun K "is_speed" "is_speed" s_is_speed A.f_is_speed A.d_is_speed
  b_is_speed : Binds K A.d_is_speed ["speed"] []
  m_is_speed : mg "is_speed" = some (.ref A.f_is_speed)
  F_is_grain : Fun K "is_grain" "is_grain" s_is_grain A.f_is_grain A.d_is_grain
  b_is_grain : Binds K A.d_is_grain ["grain"] []
  m_is_grain : mg "is_grain" = some (.ref A.f_is_grain)
  F_is_mix : Fun K "is_mix" "is_mix" s_is_mix A.f_is_mix A.d_is_mix
  b_is_mix : Binds K A.d_is_mix ["mix"] []
  m_is_mix : mg "is_mix" = some (.ref A.f_is_mix)
  F_is_width : Fun K "is_width" "is_width" s_is_width A.f_is_width A.d_is_width
  b_is_width : Binds K A.d_is_width ["wide"] []
  m_is_width : mg "is_width" = some (.ref A.f_is_width)
  F_is_piece : Fun K "is_piece" "is_piece" s_is_piece A.f_is_piece A.d_is_piece
  b_is_piece : Binds K A.d_is_piece ["long", "rise", "wide"] []
  m_is_piece : mg "is_piece" = some (.ref A.f_is_piece)
  F_lost : Fun K "lost" "lost" s_lost A.f_lost A.d_lost
  b_lost : Binds K A.d_lost ["pipe", "piece", "speed"] []
  m_lost : mg "lost" = some (.ref A.f_lost)
  F_lifted : Fun K "lifted" "lifted" s_lifted A.f_lifted A.d_lifted
  b_lifted : Binds K A.d_lifted ["pipe", "piece"] []
  m_lifted : mg "lifted" = some (.ref A.f_lifted)
  F_given : Fun K "given" "given" s_given A.f_given A.d_given
  b_given : Binds K A.d_given ["pump", "speed"] []
  m_given : mg "given" = some (.ref A.f_given)
  F_settling_speed : Fun K "settling_speed" "settling_speed" s_settling_speed A.f_settling_speed A.d_settling_speed
  b_settling_speed : Binds K A.d_settling_speed ["pipe", "piece"] []
  m_settling_speed : mg "settling_speed" = some (.ref A.f_settling_speed)
  F_given_at_joint : Fun K "given_at_joint" "given_at_joint" s_given_at_joint A.f_given_at_joint A.d_given_at_joint
  b_given_at_joint : Binds K A.d_given_at_joint ["pipe", "joint", "speed"] []
  m_given_at_joint : mg "given_at_joint" = some (.ref A.f_given_at_joint)
  F_joint_pressures : Fun K "joint_pressures" "joint_pressures" s_joint_pressures A.f_joint_pressures A.d_joint_pressures
  b_joint_pressures : Binds K A.d_joint_pressures ["pipe", "speed"] []
  m_joint_pressures : mg "joint_pressures" = some (.ref A.f_joint_pressures)
  F_settling_pieces : Fun K "settling_pieces" "settling_pieces" s_settling_pieces A.f_settling_pieces A.d_settling_pieces
  b_settling_pieces : Binds K A.d_settling_pieces ["pipe", "speed"] []
  m_settling_pieces : mg "settling_pieces" = some (.ref A.f_settling_pieces)
  F_hindrance : Fun K "hindrance" "hindrance" s_hindrance A.f_hindrance A.d_hindrance
  b_hindrance : Binds K A.d_hindrance ["pipe", "speed"] []
  m_hindrance : mg "hindrance" = some (.ref A.f_hindrance)
  F_goes_at : Fun K "goes_at" "goes_at" s_goes_at A.f_goes_at A.d_goes_at
  b_goes_at : Binds K A.d_goes_at ["pipe", "speed"] []
  m_goes_at : mg "goes_at" = some (.ref A.f_goes_at)
  F_litres : Fun K "litres" "litres" s_litres A.f_litres A.d_litres
  b_litres : Binds K A.d_litres ["pipe", "speed"] []
  m_litres : mg "litres" = some (.ref A.f_litres)
  F_loses : Fun K "loses" "loses" s_loses A.f_loses A.d_loses
  b_loses : Binds K A.d_loses ["pipe", "number", "speed"] []
  m_loses : mg "loses" = some (.ref A.f_loses)
  F_settles : Fun K "settles" "settles" s_settles A.f_settles A.d_settles
  b_settles : Binds K A.d_settles ["pipe", "number"] []
  m_settles : mg "settles" = some (.ref A.f_settles)
  F_gives : Fun K "gives" "gives" s_gives A.f_gives A.d_gives
  b_gives : Binds K A.d_gives ["pipe", "number", "speed"] []
  m_gives : mg "gives" = some (.ref A.f_gives)
  F_pressures : Fun K "pressures" "pressures" s_pressures A.f_pressures A.d_pressures
  b_pressures : Binds K A.d_pressures ["pipe", "speed"] []
  m_pressures : mg "pressures" = some (.ref A.f_pressures)
  F_goes : Fun K "goes" "goes" s_goes A.f_goes A.d_goes
  b_goes : Binds K A.d_goes ["pipe", "speed"] []
  m_goes : mg "goes" = some (.ref A.f_goes)
  F_slowest : Fun K "slowest" "slowest" s_slowest A.f_slowest A.d_slowest
  b_slowest : Binds K A.d_slowest ["pipe"] []
  m_slowest : mg "slowest" = some (.ref A.f_slowest)
  F_fastest : Fun K "fastest" "fastest" s_fastest A.f_fastest A.d_fastest
  b_fastest : Binds K A.d_fastest ["pipe"] []
  m_fastest : mg "fastest" = some (.ref A.f_fastest)
  F_why : Fun K "why" "why" s_why A.f_why A.d_why
  b_why : Binds K A.d_why ["pipe", "speed"] []
  m_why : mg "why" = some (.ref A.f_why)
  F_blocks : Fun K "blocks" "blocks" s_blocks A.f_blocks A.d_blocks
  b_blocks : Binds K A.d_blocks ["pipe", "speed"] []
  m_blocks : mg "blocks" = some (.ref A.f_blocks)
  F_least : Fun K "least" "least" s_least A.f_least A.d_least
  b_least : Binds K A.d_least ["pipe", "speed"] []
  m_least : mg "least" = some (.ref A.f_least)
  F_most : Fun K "most" "most" s_most A.f_most A.d_most
  b_most : Binds K A.d_most ["pipe", "speed"] []
  m_most : mg "most" = some (.ref A.f_most)
  F_spare : Fun K "spare" "spare" s_spare A.f_spare A.d_spare
  b_spare : Binds K A.d_spare ["pipe", "speed"] []
  m_spare : mg "spare" = some (.ref A.f_spare)
  F_flow : Fun K "flow" "flow" s_flow A.f_flow A.d_flow
  b_flow : Binds K A.d_flow ["pipe", "speed"] []
  m_flow : mg "flow" = some (.ref A.f_flow)
  F_look : Fun K "look" "look" s_look A.f_look A.d_look
  b_look : Binds K A.d_look ["pipe", "number"] []
  m_look : mg "look" = some (.ref A.f_look)
  F_state : Fun K "state" "state" s_state A.f_state A.d_state
  b_state : Binds K A.d_state ["pipe"] []
  m_state : mg "state" = some (.ref A.f_state)
  F_Piece__init__ : Fun K "__init__" "Piece.__init__" s_Piece__init__ A.f_Piece__init__ A.d_Piece__init__
  b_Piece__init__ : Binds K A.d_Piece__init__ ["self", "long", "rise", "wide"] []
  F_Pump__init__ : Fun K "__init__" "Pump.__init__" s_Pump__init__ A.f_Pump__init__ A.d_Pump__init__
  b_Pump__init__ : Binds K A.d_Pump__init__ ["self", "at", "adds", "runs"] []
  F_Pipe__init__ : Fun K "__init__" "Pipe.__init__" s_Pipe__init__ A.f_Pipe__init__ A.d_Pipe__init__
  b_Pipe__init__ : Binds K A.d_Pipe__init__ ["self"] []
  F_copied : Fun K "copied" "copied" s_copied A.f_copied A.d_copied
  b_copied : Binds K A.d_copied ["pipe"] []
  m_copied : mg "copied" = some (.ref A.f_copied)
  F_begin : Fun K "begin" "begin" s_begin A.f_begin A.d_begin
  b_begin : Binds K A.d_begin ["pipe", "grain", "mix", "low", "high"] []
  m_begin : mg "begin" = some (.ref A.f_begin)
  F_add_piece : Fun K "add_piece" "add_piece" s_add_piece A.f_add_piece A.d_add_piece
  b_add_piece : Binds K A.d_add_piece ["pipe", "long", "rise", "wide"] []
  m_add_piece : mg "add_piece" = some (.ref A.f_add_piece)
  F_add_pump : Fun K "add_pump" "add_pump" s_add_pump A.f_add_pump A.d_add_pump
  b_add_pump : Binds K A.d_add_pump ["pipe", "at", "adds"] []
  m_add_pump : mg "add_pump" = some (.ref A.f_add_pump)
  F_switch_pump : Fun K "switch_pump" "switch_pump" s_switch_pump A.f_switch_pump A.d_switch_pump
  b_switch_pump : Binds K A.d_switch_pump ["pipe", "number", "runs"] []
  m_switch_pump : mg "switch_pump" = some (.ref A.f_switch_pump)
  F_change_mix : Fun K "change_mix" "change_mix" s_change_mix A.f_change_mix A.d_change_mix
  b_change_mix : Binds K A.d_change_mix ["pipe", "mix"] []
  m_change_mix : mg "change_mix" = some (.ref A.f_change_mix)
  F_change_grain : Fun K "change_grain" "change_grain" s_change_grain A.f_change_grain A.d_change_grain
  b_change_grain : Binds K A.d_change_grain ["pipe", "grain"] []
  m_change_grain : mg "change_grain" = some (.ref A.f_change_grain)
  F_cut_piece : Fun K "cut_piece" "cut_piece" s_cut_piece A.f_cut_piece A.d_cut_piece
  b_cut_piece : Binds K A.d_cut_piece ["pipe"] []
  m_cut_piece : mg "cut_piece" = some (.ref A.f_cut_piece)
  F_with_choice : Fun K "with_choice" "with_choice" s_with_choice A.f_with_choice A.d_with_choice
  b_with_choice : Binds K A.d_with_choice ["pipe", "choice"] []
  m_with_choice : mg "with_choice" = some (.ref A.f_with_choice)
  F_choice_count : Fun K "choice_count" "choice_count" s_choice_count A.f_choice_count A.d_choice_count
  b_choice_count : Binds K A.d_choice_count ["pipe"] []
  m_choice_count : mg "choice_count" = some (.ref A.f_choice_count)
  F_running_count : Fun K "running_count" "running_count" s_running_count A.f_running_count A.d_running_count
  b_running_count : Binds K A.d_running_count ["pipe"] []
  m_running_count : mg "running_count" = some (.ref A.f_running_count)
  F_fewest : Fun K "fewest" "fewest" s_fewest A.f_fewest A.d_fewest
  b_fewest : Binds K A.d_fewest ["pipe", "speed"] []
  m_fewest : mg "fewest" = some (.ref A.f_fewest)
  F_richest : Fun K "richest" "richest" s_richest A.f_richest A.d_richest
  b_richest : Binds K A.d_richest ["pipe", "speed"] []
  m_richest : mg "richest" = some (.ref A.f_richest)
  F_goes_with : Fun K "goes_with" "goes_with" s_goes_with A.f_goes_with A.d_goes_with
  b_goes_with : Binds K A.d_goes_with ["pipe", "speed", "long", "wide"] []
  m_goes_with : mg "goes_with" = some (.ref A.f_goes_with)
  F_longest_that_goes : Fun K "longest_that_goes" "longest_that_goes" s_longest_that_goes A.f_longest_that_goes A.d_longest_that_goes
  b_longest_that_goes : Binds K A.d_longest_that_goes ["pipe", "speed", "wide"] []
  m_longest_that_goes : mg "longest_that_goes" = some (.ref A.f_longest_that_goes)
  F_farther : Fun K "farther" "farther" s_farther A.f_farther A.d_farther
  b_farther : Binds K A.d_farther ["pipe", "speed", "wide"] []
  m_farther : mg "farther" = some (.ref A.f_farther)
  F_answer_change : Fun K "answer_change" "answer_change" s_answer_change A.f_answer_change A.d_answer_change
  b_answer_change : Binds K A.d_answer_change ["pipe", "number", "told"] []
  m_answer_change : mg "answer_change" = some (.ref A.f_answer_change)
  F_answer_measure : Fun K "answer_measure" "answer_measure" s_answer_measure A.f_answer_measure A.d_answer_measure
  b_answer_measure : Binds K A.d_answer_measure ["pipe", "number", "told"] []
  m_answer_measure : mg "answer_measure" = some (.ref A.f_answer_measure)
  F_answer_by_speed : Fun K "answer_by_speed" "answer_by_speed" s_answer_by_speed A.f_answer_by_speed A.d_answer_by_speed
  b_answer_by_speed : Binds K A.d_answer_by_speed ["pipe", "number", "speed"] []
  m_answer_by_speed : mg "answer_by_speed" = some (.ref A.f_answer_by_speed)
  F_answer_rest : Fun K "answer_rest" "answer_rest" s_answer_rest A.f_answer_rest A.d_answer_rest
  b_answer_rest : Binds K A.d_answer_rest ["pipe", "number", "told"] []
  m_answer_rest : mg "answer_rest" = some (.ref A.f_answer_rest)
  F_answer_call : Fun K "answer_call" "answer_call" s_answer_call A.f_answer_call A.d_answer_call
  b_answer_call : Binds K A.d_answer_call ["pipe", "number", "told"] []
  m_answer_call : mg "answer_call" = some (.ref A.f_answer_call)
  F_answers : Fun K "answers" "answers" s_answers A.f_answers A.d_answers
  b_answers : Binds K A.d_answers ["calls"] []
  m_answers : mg "answers" = some (.ref A.f_answers)
  g_LEAST_SPEED : ∃ u, mg "LEAST_SPEED" = some u ∧ RelV (.int (1)) u
  g_MOST_SPEED : ∃ u, mg "MOST_SPEED" = some u ∧ RelV (.int (99)) u
  g_MOST_MIX : ∃ u, mg "MOST_MIX" = some u ∧ RelV (.int (40)) u
  g_SHORTEST : ∃ u, mg "SHORTEST" = some u ∧ RelV (.int (1)) u
  g_LONGEST : ∃ u, mg "LONGEST" = some u ∧ RelV (.int (3000)) u
  g_MOST_PIECES : ∃ u, mg "MOST_PIECES" = some u ∧ RelV (.int (8)) u
  g_MOST_PUMPS : ∃ u, mg "MOST_PUMPS" = some u ∧ RelV (.int (6)) u
  g_NOTHING : ∃ u, mg "NOTHING" = some u ∧ RelV (.int (0)) u
  g_SETTLES : ∃ u, mg "SETTLES" = some u ∧ RelV (.int (1)) u
  g_TOO_LITTLE : ∃ u, mg "TOO_LITTLE" = some u ∧ RelV (.int (2)) u
  g_TOO_MUCH : ∃ u, mg "TOO_MUCH" = some u ∧ RelV (.int (3)) u
  g_END_BELOW_0 : ∃ u, mg "END_BELOW_0" = some u ∧ RelV (.int (4)) u
  g_NO_SUCH : ∃ u, mg "NO_SUCH" = some u ∧ RelV (.int (-2)) u
  g_NONE_THERE : ∃ u, mg "NONE_THERE" = some u ∧ RelV (.int (-6)) u
  g_NOT_BEGUN : ∃ u, mg "NOT_BEGUN" = some u ∧ RelV (.int (-11)) u
  g_PUMP_THERE : ∃ u, mg "PUMP_THERE" = some u ∧ RelV (.int (-16)) u
  g_ALREADY : ∃ u, mg "ALREADY" = some u ∧ RelV (.int (-17)) u
  g_OUT_OF_RANGE : ∃ u, mg "OUT_OF_RANGE" = some u ∧ RelV (.int (-22)) u
  g_TOO_MANY : ∃ u, mg "TOO_MANY" = some u ∧ RelV (.int (-28)) u
  g_DOES_NOT_GO : ∃ u, mg "DOES_NOT_GO" = some u ∧ RelV (.int (-33)) u
  g_LAST_CHANGE : ∃ u, mg "LAST_CHANGE" = some u ∧ RelV (.int (6)) u
  g_LAST_MEASURE : ∃ u, mg "LAST_MEASURE" = some u ∧ RelV (.int (13)) u
  g_LAST_BY_SPEED : ∃ u, mg "LAST_BY_SPEED" = some u ∧ RelV (.int (20)) u
  g_ARGUMENT_COUNTS : mg "ARGUMENT_COUNTS" = some (.ref A.t_ARGUMENT_COUNTS)
  v_ARGUMENT_COUNTS : ∀ H, SqT K H A.t_ARGUMENT_COUNTS (([4, 3, 2, 2, 1, 1, 0, 2, 1, 2, 1, 1, 0, 0, 1, 1, 1, 1, 1, 1, 1, 2, 1, 1, 0] : List Int).map V.int)
  nb_enumerate : mg "enumerate" = none
  nb_len : mg "len" = none
  nb_list : mg "list" = none
  nb_max : mg "max" = none
  nb_min : mg "min" = none
  nb_range : mg "range" = none
  nb_sum : mg "sum" = none
end Sp

set_option Elab.async false
set_option linter.all false
set_option maxRecDepth 100000
set_option maxHeartbeats 2000000
namespace Sp
open PySem PySem.Spec PyProof.Rows L2
section
variable {σ : L2.St} {H : Hp} {Q : VK} {D : Ends} {K : PySem.W.Frag}
theorem rd_var {i : Nat} {v : V} (h : σ[i]? = some (some v)) (q : Q v H) : tVar i σ H Q := ⟨v, h, q⟩
theorem rd_c {v : V} (q : Q v H) : tC v σ H Q := q
theorem rd_op {r : R2} {ta tb : TE} (q : ta σ H fun x H1 => tb σ H1 fun y H2 => r x y H2 Q) : tOp r ta tb σ H Q := q
theorem rd_i0 {g : Int → Int → V} {i j : Int} (q : Q (g i j) H) : rI0 g (.int i) (.int j) H Q := ⟨i, j, rfl, rfl, q⟩
theorem rd_eqI {i j : Int} (q : Q (.bl (decide (i = j))) H) : rEq (.int i) (.int j) H Q := by
  refine ⟨rfl, ?_⟩
  have e : decide (V.int i = V.int j) = decide (i = j) := by
    by_cases h : i = j
    · subst h
      simp
    · have h' : ¬ V.int i = V.int j := fun z => h (V.int.inj z)
      rw [decide_eq_false h, decide_eq_false h']
  rw [e]
  exact q
theorem rd_neI {i j : Int} (q : Q (.bl (!decide (i = j))) H) : rNe (.int i) (.int j) H Q := by
  refine ⟨rfl, ?_⟩
  have e : decide (V.int i = V.int j) = decide (i = j) := by
    by_cases h : i = j
    · subst h
      simp
    · have h' : ¬ V.int i = V.int j := fun z => h (V.int.inj z)
      rw [decide_eq_false h, decide_eq_false h']
  rw [e]
  exact q
theorem rd_seq {t u : TS} (q : t { D with nx := u D } σ H) : tSeq t u D σ H := q
theorem rd_next (q : D.nx σ H) : tNext D σ H := q
theorem rd_asg {te : TE} {g : TG} (q : te σ H fun x H1 => g x σ H1 D.nx) : tAsg te g D σ H := q
theorem rd_gname {i : Nat} {v : V} {R : L2.St → Hp → Prop} (q : R (σ.set i (some v)) H) : gName i v σ H R := q
theorem rd_ret {te : TE} (q : te σ H D.rt) : tRet te D σ H := q
theorem rd_drop {te : TE} (q : te σ H fun _ H1 => D.nx σ H1) : tDrop te D σ H := q
theorem rd_ifS {c : TT} {t u : TS} (q : c σ H fun b H1 => if b = true then t D σ H1 else u D σ H1) : tIfS c t u D σ H := q
theorem rd_if {c : TT} {ta tb : TE} (q : c σ H fun b H1 => if b = true then ta σ H1 Q else tb σ H1 Q) : tIf c ta tb σ H Q := q
section
variable {R : Bool → Hp → Prop}
theorem rd_test {t : TE} (q : t σ H fun x H' => ∃ k, x = .bl k ∧ R k H') : tTest t σ H R := q
theorem rd_tB {t : TE} (q : t σ H fun x H' => ∃ k, x = .bl k ∧ R k H') : tB t σ H R := q
theorem rd_and {t u : TT} (q : t σ H fun c H1 => if c = true then u σ H1 R else R false H1) : tAnd t u σ H R := q
theorem rd_or {t u : TT} (q : t σ H fun c H1 => if c = true then R true H1 else u σ H1 R) : tOr t u σ H R := q
theorem rd_not {t : TT} (q : t σ H fun c H1 => R (!c) H1) : tNot t σ H R := q
end
theorem rd_chain {r r' : R2} {ta tb tc : TE} (q : ta σ H fun x H1 => tb σ H1 fun y H2 => r x y H2 fun z H3 => ∃ k, z = .bl k ∧ (if k = true then tc σ H3 fun w' H4 => r' y w' H4 Q else Q (.bl false) H3)) : tChain r r' ta tb tc σ H Q := q
theorem rd_andV {ta tb : TE} (q : ta σ H fun x H1 => ∃ c, x = .bl c ∧ if c = true then tb σ H1 Q else Q (.bl false) H1) : tAndV ta tb σ H Q := q
theorem rd_orV {ta tb : TE} (q : ta σ H fun x H1 => ∃ c, x = .bl c ∧ if c = true then Q (.bl true) H1 else tb σ H1 Q) : tOrV ta tb σ H Q := q
theorem rd_notV {ta : TE} (q : ta σ H fun x H1 => ∃ c, x = .bl c ∧ Q (.bl (!c)) H1) : tNotV ta σ H Q := q
theorem rd_isblX {b : Bool} {R : Bool → Prop} (q : R b) : ∃ k, V.bl b = .bl k ∧ R k := ⟨b, rfl, q⟩
theorem rd_nil {R : List V → Hp → Prop} (q : R [] H) : tNil σ H R := q
theorem rd_cons {ta : TE} {tr : TA} {R : List V → Hp → Prop} (q : ta σ H fun x H1 => tr σ H1 fun xs H2 => R (x :: xs) H2) : tCons ta tr σ H R := q
theorem rd_call {sp : Sp} {dvs : List V} {E : XK} {t : TA} (q : t σ H fun vs H1 => sp (vs ++ dvs) H1 Q E) : tCall sp dvs E t σ H Q := q
theorem rd_callB {r : List V → Hp → VK → Prop} {t : TA} (q : t σ H fun vs H1 => r vs H1 Q) : tCB r t σ H Q := q
theorem rd_lst {t : TA} (q : t σ H fun xs H1 => xs.length ≤ sizeLine ∧ ∀ p, H1 p = none → Q (.ref p) (upd H1 p (.lst xs))) : tLst t σ H Q := q
/-- a new list of a few items -/
theorem rd_new {xs : List V} {R : Addr → Prop} (h : xs.length ≤ 1000) (q : ∀ p, H p = none → R p) : xs.length ≤ sizeLine ∧ ∀ p, H p = none → R p := ⟨Nat.le_of_lt (small1000 h), q⟩
theorem rd_ite {c : Prop} [Decidable c] {A B : Prop} (h1 : c → A) (h2 : ¬ c → B) : if decide c = true then A else B := by
  by_cases h : c
  · rw [if_pos (decide_eq_true h)]
    exact h1 h
  · rw [if_neg (by rw [decide_eq_false h]; exact Bool.false_ne_true)]
    exact h2 h
theorem rd_iteN {c : Prop} [Decidable c] {A B : Prop} (h1 : c → B) (h2 : ¬ c → A) : if (!decide c) = true then A else B := by
  by_cases h : c
  · rw [if_neg (by rw [decide_eq_true h]; decide)]
    exact h1 h
  · rw [if_pos (by rw [decide_eq_false h]; decide)]
    exact h2 h
theorem rd_iteX {c : Prop} [Decidable c] {A B : Prop} (h2 : ¬ c → B) (h1 : c → A) : if decide c = true then A else B := rd_ite h1 h2
theorem rd_iteNX {c : Prop} [Decidable c] {A B : Prop} (h2 : ¬ c → A) (h1 : c → B) : if (!decide c) = true then A else B := rd_iteN h1 h2
theorem rd_iteDT {c : Prop} [Decidable c] {A B : Prop} (h : c) (q : A) : if decide c = true then A else B := rd_ite (fun _ => q) (fun z => absurd h z)
theorem rd_iteDF {c : Prop} [Decidable c] {A B : Prop} (h : ¬ c) (q : B) : if decide c = true then A else B := rd_ite (fun z => absurd z h) (fun _ => q)
theorem rd_iteB {b : Bool} {A B : Prop} (h1 : b = true → A) (h2 : b = false → B) : if b = true then A else B := by
  cases b with
  | true => exact iteT (h1 rfl)
  | false => exact iteF (h2 rfl)
/-- an attribute's value -/
def rdF (K : PySem.W.Frag) (f : Str) : V → Hp → VK → Prop := fun x H1 Q => ∃ a C dx fs v, x = .ref a ∧ H1 a = some (.ins C dx fs) ∧ Cls K C ∧ NoAttr K C f ∧ fs.lookup f = some v ∧ Q v H1
theorem rd_fld {ta : TE} {f : Str} (q : ta σ H fun x H1 => rdF K f x H1 Q) : tFld K ta f σ H Q := q
def rLen (K : PySem.W.Frag) : List V → Hp → VK → Prop := fun xs H Q => ∃ p ys, xs = [.ref p] ∧ (SqL K H p ys ∨ SqT K H p ys) ∧ Q (.int ys.length) H
theorem rd_callLen {t : TA} (q : t σ H fun vs H1 => rLen K vs H1 Q) : tCB (fun xs H Q => ∃ p ys, xs = [.ref p] ∧ (SqL K H p ys ∨ SqT K H p ys) ∧ Q (.int ys.length) H) t σ H Q := q
theorem rd_len {p : Addr} {ys : List V} (h : SqL K H p ys) (q : Q (.int ys.length) H) : rLen K [.ref p] H Q := ⟨p, ys, rfl, .inl h, q⟩
theorem rd_append {l : Addr} {xs : List V} {y : V} (h : H l = some (.lst xs)) (hz : xs.length < sizeLine) (q : Q .non (upd H l (.lst (xs ++ [y])))) : rAppend (.ref l) [y] H Q := ⟨l, xs, y, rfl, rfl, h, hz, q⟩
theorem rd_bm {r : V → List V → Hp → VK → Prop} {to : TE} {t : TA} {T : String} (q : to σ H fun x H1 => tyV K T x H1 ∧ t σ H1 fun xs H2 => r x xs H2 Q) : tBM K T r to t σ H Q := q
theorem rd_bm0 {r : V → List V → Hp → VK → Prop} {to : TE} {T : String} (q : to σ H fun x H1 => tyV K T x H1 ∧ r x [] H1 Q) : tBM0 K T r to σ H Q := q
theorem rd_tyL {l : Addr} {xs : List V} {R : Prop} (h : H l = some (.lst xs)) (q : R) : tyV K "list" (.ref l) H ∧ R := ⟨.inl ⟨rfl, xs, SqL.of h⟩, q⟩
/-- enumerate over a list that the body leaves as it is -/
theorem for_enum {a : Addr} {xs : List V} {g : TG} {tb : TS} (Pv : Nat → L2.St → Hp → Prop) (h0 : Pv 0 σ H) (hl : ∀ i σ H, i ≤ xs.length → Pv i σ H → SqL K H a xs)
    (hs : ∀ i x σ H T, xs[i]? = some x → Pv i σ H → H T = none → g (.ref T) σ (upd H T (.tup [.int (i : Nat), x])) fun σ2 H2 => tb { D with nx := Pv (i + 1), ct := Pv (i + 1), bk := D.nx } σ2 H2) (hd : ∀ σ H, Pv xs.length σ H → D.nx σ H) :
    ∃ W : Nat → Nat → L2.St → Hp → Prop, (∃ m, W 0 m σ H) ∧ ∀ i m σ H, W i m σ H →
      ((Ite K a).stop i H ∧ D.nx σ H) ∨ ((Ite K a).go i H ∧ ∃ N : L2.St → Hp → Prop, (∀ σ' H', N σ' H' → ∃ m', m' < m ∧ W (i + 1) m' σ' H') ∧ ∀ x H', (Ite K a).yld i H x H' → g x σ H' fun σ2 H2 => tb { D with nx := N, ct := N, bk := D.nx } σ2 H2) := by
  refine ⟨fun i m σ H => m = xs.length - i ∧ i ≤ xs.length ∧ Pv i σ H, ⟨xs.length, by simp, Nat.zero_le _, h0⟩, ?_⟩
  rintro i m σ H ⟨rfl, hi, p⟩
  have q := hl i σ H hi p
  by_cases hlt : i < xs.length
  · refine .inr ⟨⟨xs, xs[i], q, by simp [hlt]⟩, Pv (i + 1), fun σ' H' p' => ⟨xs.length - (i + 1), by omega, rfl, hlt, p'⟩, fun v H' y => ?_⟩
    obtain ⟨T, x, e1, e2, e3, y⟩ := y
    subst e1 e3
    exact hs i x σ _ T (y xs q) p e2
  · have e : i = xs.length := by omega
    subst e
    exact .inl ⟨⟨xs, q, Nat.le_refl _⟩, hd σ H p⟩
/-- (a, b) = the pair -/
theorem rd_pair {i j : Nat} {T : Addr} {x y : V} {R : L2.St → Hp → Prop} (h : H T = some (.tup [x, y])) (q : R ((σ.set i (some x)).set j (some y)) H) : gTup K 2 (gCons (gName i) (gCons (gName j) gNil)) (.ref T) σ H R :=
  ⟨T, [x, y], rfl, SqT.of h, rfl, x, [y], rfl, y, [], rfl, rfl, q⟩
end
theorem Same.upd {H : Hp} {p : Addr} {o : HO} (h : H p = none) : Same H (L2.upd H p o) := fun b o' e => by
  rw [upd_ne (ne_of_none e h)]
  exact e
def rdS (K : PySem.W.Frag) (f : Str) (y : V) : V → Hp → (Hp → Prop) → Prop := fun x H2 R => ∃ a C dx fs, x = .ref a ∧ H2 a = some (.ins C dx fs) ∧ Cls K C ∧ NoAttr K C f ∧ fs.length < 1000 ∧ R (L2.upd H2 a (.ins C dx (putF f y fs)))
theorem rd_sfld {σ : L2.St} {H : Hp} {D : Ends} {K : PySem.W.Frag} {ta tv : TE} {f : Str} (q : tv σ H fun y H1 => ta σ H1 fun x H2 => rdS K f y x H2 (D.nx σ)) : sFld K ta tv f D σ H := q
theorem st_to {H : Hp} {K : PySem.W.Frag} {f : Str} {y : V} {p C dx : Addr} {fs fs' : List (Str × V)} {R : Hp → Prop} (h : H p = some (.ins C dx fs)) (cl : Cls K C) (na : NoAttr K C f) (hl : fs.length < 1000) (e : putF f y fs = fs') (q : R (L2.upd H p (.ins C dx fs'))) : rdS K f y (.ref p) H R :=
  ⟨p, C, dx, fs, rfl, h, cl, na, hl, by rw [e]; exact q⟩
theorem rd_un {σ : L2.St} {H : Hp} {Q : VK} {r : V → Hp → VK → Prop} {ta : TE} (q : ta σ H fun x H1 => r x H1 Q) : tUn r ta σ H Q := q
theorem rd_u {H : Hp} {Q : VK} {g : Int → V} {i : Int} (q : Q (g i) H) : rU g (.int i) H Q := ⟨i, rfl, q⟩
theorem rd_make {σ : L2.St} {H : Hp} {Q : VK} {C : Addr} {sp : Sp} {dvs : List V} {E : XK} {t : TA} (q : t σ H fun vs H1 => ∀ x dx, H1 x = none → H1 dx = none → dx ≠ x →
  sp (.ref x :: (vs ++ dvs)) (L2.upd (L2.upd H1 dx (.own x)) x (.ins C dx [])) (fun v H2 => v = .non ∧ Q (.ref x) H2) E) : tMake C sp dvs E t σ H Q := q
theorem rd_while {σ : L2.St} {H : Hp} {D : Ends} {c : TT} {tb : TS} (W : Nat → L2.St → Hp → Prop) (h0 : ∃ m, W m σ H) (hs : ∀ m σ H, W m σ H → c σ H fun b H1 => if b = true then ∃ N : L2.St → Hp → Prop, (∀ σ' H', N σ' H' → ∃ m', m' < m ∧ W m' σ' H') ∧ tb { D with nx := N, ct := N, bk := D.nx } σ H1 else D.nx σ H1) : tWhile c tb D σ H := ⟨W, h0, hs⟩
theorem rd_extend {H : Hp} {Q : VK} {l b : Addr} {xs zs : List V} (h : H l = some (.lst xs)) (hb : H b = some (.lst zs)) (hz : xs.length + zs.length ≤ sizeLine) (q : Q .non (L2.upd H l (.lst (xs ++ zs)))) : rExtend (.ref l) [.ref b] H Q := ⟨l, b, xs, zs, rfl, rfl, h, hb, hz, q⟩
theorem rd_pop {H : Hp} {Q : VK} {l : Addr} {xs : List V} {y : V} (h : H l = some (.lst xs)) (e : xs[xs.length - 1]? = some y) (q : Q y (L2.upd H l (.lst xs.dropLast))) : rPop (.ref l) [] H Q := ⟨l, xs, y, rfl, rfl, h, e, q⟩
theorem mul_rN {i j : Int} (h1 : -18446744073709551616 < j) (h2 : j < 18446744073709551616) : CMul i j := .inr ⟨h1, h2⟩
theorem mul_lN {i j : Int} (h1 : -18446744073709551616 < i) (h2 : i < 18446744073709551616) : CMul i j := .inl ⟨h1, h2⟩
theorem rd_mul {H : Hp} {Q : VK} {g : Int → Int → V} {i j : Int} (c : CMul i j) (q : Q (g i j) H) : rI CMul g (.int i) (.int j) H Q := ⟨i, j, rfl, rfl, c, q⟩
theorem rd_fdiv {H : Hp} {Q : VK} {g : Int → Int → V} {i j : Int} (c : 0 < j) (c2 : j < 1073741824) (q : Q (g i j) H) : rI CDiv g (.int i) (.int j) H Q := ⟨i, j, rfl, rfl, ⟨c, c2⟩, q⟩
section
variable {σ : L2.St} {H : Hp} {Q : VK} {D : Ends} {K : PySem.W.Frag}
theorem rd_lc {wi : TI} {g : TG} {tt : TT} {te : TE} {vs : List Nat} (q : wi σ H fun J H1 => ∀ D, H1 D = none → ∃ W : Nat → Nat → Hp → Prop, (∃ m, W 0 m (L2.upd H1 D (.lst []))) ∧ ∀ i m H, W i m H →
  (J.stop i H ∧ Q (.ref D) H) ∨ (J.go i H ∧ ∃ Nx : Hp → Prop, (∀ H', Nx H' → ∃ m', m' < m ∧ W (i + 1) m' H') ∧ ∀ x H', J.yld i H x H' → g x (wipe σ vs) H' fun σ2 H2 => wipe σ2 vs = wipe σ vs ∧ tt σ2 H2 fun b H3 =>
    if b = true then te σ2 H3 fun y H4 => ∃ acc, H4 D = some (.lst acc) ∧ acc.length < sizeLine ∧ Nx (L2.upd H4 D (.lst (acc ++ [y]))) else Nx H3)) : tLc wi g tt te vs σ H Q := q
theorem rd_for {wi : TI} {g : TG} {tb : TS} (q : wi σ H fun J H1 => ∃ W : Nat → Nat → L2.St → Hp → Prop, (∃ m, W 0 m σ H1) ∧ ∀ i m σ H, W i m σ H →
  (J.stop i H ∧ D.nx σ H) ∨ (J.go i H ∧ ∃ N : L2.St → Hp → Prop, (∀ σ' H', N σ' H' → ∃ m', m' < m ∧ W (i + 1) m' σ' H') ∧ ∀ x H', J.yld i H x H' → g x σ H' fun σ2 H2 => tb { D with nx := N, ct := N, bk := D.nx } σ2 H2)) : tFor wi g tb D σ H := q
theorem rd_ilist {tl : TE} {R : It → Hp → Prop} (q : tl σ H fun x H1 => ∃ a, x = .ref a ∧ (∃ xs, SqL K H1 a xs) ∧ R (Itl K a) H1) : iList K tl σ H R := q
theorem rd_ienum {ta : TA} {R : It → Hp → Prop} (q : ta σ H fun vs H1 => ∃ a xs, vs = [.ref a] ∧ SqL K H1 a xs ∧ R (Ite K a) H1) : iEnum K ta σ H R := q
theorem rd_irng2 {ta : TA} {R : It → Hp → Prop} (q : ta σ H fun vs H1 => ∃ i j : Int, vs = [.int i, .int j] ∧ (-(2 ^ 62) ≤ i ∧ i < 2 ^ 62 ∧ -(2 ^ 62) ≤ j ∧ j < 2 ^ 62) ∧ R (Itr i (j - i).toNat) H1) : iRng2 ta σ H R := q
theorem rd_sl {r : V → Option Int → Option Int → Hp → VK → Prop} {te : TE} {tl th : TO} (q : te σ H fun x H1 => tl σ H1 fun l H2 => th σ H2 fun u H3 => r x l u H3 Q) : tSl r te tl th σ H Q := q
theorem rd_nopart {R : Option Int → Hp → Prop} (q : R none H) : tNoPart σ H R := q
theorem rd_part {t : TE} {R : Option Int → Hp → Prop} (q : t σ H fun x H1 => ∃ i, x = .int i ∧ R (some i) H1) : tPart t σ H R := q
theorem rd_isint {i : Int} {R : Int → Prop} (q : R i) : ∃ k, V.int i = .int k ∧ R k := ⟨i, rfl, q⟩
theorem rd_ixL {p : Addr} {xs : List V} {i : Int} {v : V} (h : SqL K H p xs) (e : atI xs i = some v) (q : Q v H) : rIxL K (.ref p) (.int i) H Q := ⟨p, xs, i, v, rfl, rfl, h, e, q⟩
theorem rd_ixT {p : Addr} {xs : List V} {i : Int} {v : V} (h : SqT K H p xs) (e : atI xs i = some v) (q : Q v H) : rIxT K (.ref p) (.int i) H Q := ⟨p, xs, i, v, rfl, rfl, h, e, q⟩
theorem rd_slL {p : Addr} {xs : List V} {lo hi : Option Int} (h : SqL K H p xs) (q : ∀ r, H r = none → Q (.ref r) (L2.upd H r (.lst (cutV xs lo hi)))) : rSlL K (.ref p) lo hi H Q := ⟨p, xs, rfl, h, q⟩
theorem rd_sum {p : Addr} {ns : List Int} (h : SqL K H p (ns.map V.int)) (q : Q (.int ns.sum) H) : rSum K [.ref p] H Q := ⟨p, ns, rfl, h, q⟩
theorem rd_cat {l b : Addr} {xs zs : List V} (h1 : H l = some (.lst xs)) (h2 : H b = some (.lst zs)) (hz : xs.length + zs.length ≤ sizeLine) (q : ∀ p, H p = none → Q (.ref p) (L2.upd H p (.lst (xs ++ zs)))) : rCat (.ref l) (.ref b) H Q := ⟨l, b, xs, zs, rfl, rfl, h1, h2, hz, q⟩
end
theorem cut_fromto {xs : List V} {m n : Nat} (h1 : m ≤ n) (h : n ≤ xs.length) : cutV xs (some (m : Int)) (some (n : Int)) = (xs.drop m).take (n - m) := by
  unfold cutV
  rw [HT.sIx_nat, HT.sIx_nat, Nat.min_eq_left h, Nat.min_eq_left (Nat.le_trans h1 h)]
theorem take_snoc {α : Type} : ∀ {l : List α} {i : Nat} {x : α}, l[i]? = some x → l.take (i + 1) = l.take i ++ [x]
  | [], i, x, h => by simp at h
  | a :: l, 0, x, h => by
    have e : a = x := Option.some.inj h
    subst e
    rfl
  | a :: l, i + 1, x, h => by
    have ih := take_snoc (l := l) (i := i) (x := x) h
    show a :: l.take (i + 1) = a :: l.take i ++ [x]
    rw [ih]
    rfl
theorem drop_at {α : Type} : ∀ {l : List α} {i : Nat} {x : α}, l[i]? = some x → l.drop i = x :: l.drop (i + 1)
  | [], i, x, h => by simp at h
  | a :: l, 0, x, h => by
    have e : a = x := Option.some.inj h
    subst e
    rfl
  | a :: l, i + 1, x, h => drop_at (l := l) (i := i) (x := x) h
theorem get_ref {l : List Addr} {i : Nat} {y : V} (h : (l.map V.ref)[i]? = some y) : ∃ q, l[i]? = some q ∧ y = .ref q := by
  rw [List.getElem?_map] at h
  cases e : l[i]? with
  | none =>
    rw [e] at h
    cases h
  | some q =>
    rw [e] at h
    exact ⟨q, rfl, (Option.some.inj h).symm⟩
theorem get_int {l : List Int} {i : Nat} {y : V} (h : (l.map V.int)[i]? = some y) : ∃ q, l[i]? = some q ∧ y = .int q := by
  rw [List.getElem?_map] at h
  cases e : l[i]? with
  | none =>
    rw [e] at h
    cases h
  | some q =>
    rw [e] at h
    exact ⟨q, rfl, (Option.some.inj h).symm⟩
theorem sum_cast : ∀ l : List Nat, (l.map fun x => ((x : Nat) : Int)).sum = ((l.sum : Nat) : Int)
  | [] => rfl
  | a :: l => by
    rw [List.map_cons, List.sum_cons, List.sum_cons, sum_cast l]
    omega
theorem rd_yes {σ : L2.St} {H : Hp} {R : Bool → Hp → Prop} (q : R true H) : tYes σ H R := q
theorem rd_irng1 {σ : L2.St} {H : Hp} {ta : TA} {R : It → Hp → Prop} (q : ta σ H fun vs H1 => ∃ j : Int, vs = [.int j] ∧ -(2 ^ 62) ≤ j ∧ j < 2 ^ 62 ∧ R (Itr 0 j.toNat) H1) : iRng1 ta σ H R := q
theorem rd_irng3 {σ : L2.St} {H : Hp} {ta : TA} {R : It → Hp → Prop} (q : ta σ H fun vs H1 => ∃ (i j c : Int) (n : Nat), vs = [.int i, .int j, .int c] ∧ RgC i j c n ∧ R (Itc i c n) H1) : iRng3 ta σ H R := q
theorem rd_mod {H : Hp} {Q : VK} {g : Int → Int → V} {i j : Int} (c : 0 < j) (q : Q (g i j) H) : rI (fun _ j => 0 < j) g (.int i) (.int j) H Q := ⟨i, j, rfl, rfl, c, q⟩
theorem rd_min {H : Hp} {Q : VK} {K : PySem.W.Frag} {p : Addr} {ns : List Int} (h : SqL K H p (ns.map V.int)) (hl : 0 < ns.length) (q : ∀ m, m ∈ ns → (∀ y, y ∈ ns → m ≤ y) → Q (.int m) H) : rMin K [.ref p] H Q := ⟨p, ns, rfl, h, hl, q⟩
theorem rd_max {H : Hp} {Q : VK} {K : PySem.W.Frag} {p : Addr} {ns : List Int} (h : SqL K H p (ns.map V.int)) (hl : 0 < ns.length) (q : ∀ m, m ∈ ns → (∀ y, y ∈ ns → y ≤ m) → Q (.int m) H) : rMax K [.ref p] H Q := ⟨p, ns, rfl, h, hl, q⟩
theorem flat_ints : ∀ ns : List Int, (ns.map V.int).all flatV = true
  | [] => rfl
  | _ :: ns => by
    rw [List.map_cons, List.all_cons, flat_ints ns]
    rfl
theorem rd_index {H : Hp} {Q : VK} {K : PySem.W.Frag} {p : Addr} {ns : List Int} {y : Int} {j : Nat} (h : SqL K H p (ns.map V.int)) (hj : ns[j]? = some y) (hf : ∀ m z, m < j → ns[m]? = some z → z ≠ y) (q : Q (.int (j : Nat)) H) : rIndex K (.ref p) [.int y] H Q :=
  ⟨p, _, _, j, .int y, rfl, rfl, h, rfl, flat_ints ns, by rw [List.getElem?_map, hj]; rfl, by show (y == y) = true; simp, fun m z' hm hz => by
    obtain ⟨z, hz2, rfl⟩ := get_int hz
    have := hf m z hm hz2
    show (z == y) = false
    simpa using this, q⟩
def rListOf (K : PySem.W.Frag) : List V → Hp → VK → Prop := fun xs H Q => ∃ p ys, xs = [.ref p] ∧ (SqL K H p ys ∨ SqT K H p ys) ∧ ∀ l, H l = none → Q (.ref l) (L2.upd H l (.lst ys))
theorem rd_listof {H : Hp} {Q : VK} {K : PySem.W.Frag} {p : Addr} {ys : List V} (h : SqL K H p ys) (q : ∀ l, H l = none → Q (.ref l) (L2.upd H l (.lst ys))) : rListOf K [.ref p] H Q := ⟨p, ys, rfl, .inl h, q⟩
/-- a comprehension over enumerate, over a list that stays -/
theorem lc_enum {K : PySem.W.Frag} {a : Addr} {xs : List V} {g : TG} {tt : TT} {te : TE} {vs : List Nat} {σ : L2.St} {H1 : Hp} {D : Addr} {Qd : Hp → Prop} (Pv : Nat → Hp → Prop) (h0 : Pv 0 (L2.upd H1 D (.lst []))) (hl : ∀ i H, i ≤ xs.length → Pv i H → SqL K H a xs)
    (hs : ∀ i x H T, xs[i]? = some x → Pv i H → H T = none → g (.ref T) (wipe σ vs) (L2.upd H T (.tup [.int (i : Nat), x])) fun σ2 H2 => wipe σ2 vs = wipe σ vs ∧ tt σ2 H2 fun b H3 =>
      if b = true then te σ2 H3 fun y H4 => ∃ acc, H4 D = some (.lst acc) ∧ acc.length < sizeLine ∧ Pv (i + 1) (L2.upd H4 D (.lst (acc ++ [y]))) else Pv (i + 1) H3) (hd : ∀ H, Pv xs.length H → Qd H) :
    ∃ W : Nat → Nat → Hp → Prop, (∃ m, W 0 m (L2.upd H1 D (.lst []))) ∧ ∀ i m H, W i m H →
      ((Ite K a).stop i H ∧ Qd H) ∨ ((Ite K a).go i H ∧ ∃ Nx : Hp → Prop, (∀ H', Nx H' → ∃ m', m' < m ∧ W (i + 1) m' H') ∧ ∀ x H', (Ite K a).yld i H x H' → g x (wipe σ vs) H' fun σ2 H2 => wipe σ2 vs = wipe σ vs ∧ tt σ2 H2 fun b H3 =>
        if b = true then te σ2 H3 fun y H4 => ∃ acc, H4 D = some (.lst acc) ∧ acc.length < sizeLine ∧ Nx (L2.upd H4 D (.lst (acc ++ [y]))) else Nx H3) := by
  refine ⟨fun i m H => m = xs.length - i ∧ i ≤ xs.length ∧ Pv i H, ⟨xs.length, by simp, Nat.zero_le _, h0⟩, ?_⟩
  rintro i m H ⟨rfl, hi, p⟩
  have q := hl i H hi p
  by_cases hlt : i < xs.length
  · refine .inr ⟨⟨xs, xs[i], q, by simp [hlt]⟩, Pv (i + 1), fun H' p' => ⟨xs.length - (i + 1), by omega, rfl, hlt, p'⟩, fun v H' y => ?_⟩
    obtain ⟨T, x, e1, e2, e3, y⟩ := y
    subst e1 e3
    exact hs i x _ T (y xs q) p e2
  · have e : i = xs.length := by omega
    subst e
    exact .inl ⟨⟨xs, q, Nat.le_refl _⟩, hd H p⟩
section
variable {X : Cx} {e o value : PySem.Expr} {es : List PySem.Expr} {f : Str} {pos pos' apos cpos : Pos} {ta tv to : TE} {tg : PySem.Expr} {t : TA}
theorem pe_fldK (K : PySem.W.Frag) (hK : X.K = K) (he : PE X e ta) (hb : attributeBase e f X.env (eval e X.env) = eval e X.env) : PE X (.Attribute e f pos) (tFld K ta f) := by
  subst hK
  exact pe_fld he hb
theorem ps_fldK (K : PySem.W.Frag) (hK : X.K = K) (ha : PE X o ta) (hv : PE X value tv) (hs : swapsWith value (some (.Attribute o f pos')) pos.line X.env = pure false) : PS X (.Assign [.Attribute o f pos'] value pos) (sFld K ta tv f) := by
  subst hK
  exact ps_fld ha hv hs
theorem pi_listK (K : PySem.W.Frag) (hK : X.K = K) (he : PE X e ta) : PI X tg e (iList K ta) := by
  subst hK
  exact pi_list he
theorem pi_enumK (K : PySem.W.Frag) (hK : X.K = K) {p tpos : Pos} {elts : List PySem.Expr} {kk : Nat} (hg : Gl X "enumerate") (hm : X.mg "enumerate" = none) (ha : PA X [e] t) (hs : starEach [e] X.env = [(false, eval e X.env)] := by rfl) :
    PI X (.Tuple elts kk tpos) (.Call (.Name "enumerate" p) [e] [] pos) (iEnum K t) := by
  subst hK
  exact pi_enum hg hm ha hs
theorem ix_listK (K : PySem.W.Frag) (hK : X.K = K) : IxR X (rIxL K) := by
  subst hK
  exact ix_list
theorem ix_tupK (K : PySem.W.Frag) (hK : X.K = K) : IxR X (rIxT K) := by
  subst hK
  exact ix_tup
theorem sl_listK (K : PySem.W.Frag) (hK : X.K = K) : SlR X (rSlL K) := by
  subst hK
  exact sl_list
theorem cr_sumK (K : PySem.W.Frag) (hK : X.K = K) (hc : X.calm = true) : CallR X (.builtin "sum") (rSum K) := by
  subst hK
  exact cr_sum hc
theorem cr_minK (K : PySem.W.Frag) (hK : X.K = K) (hc : X.calm = true) : CallR X (.builtin "min") (rMin K) := by
  subst hK
  exact cr_min hc
theorem cr_maxK (K : PySem.W.Frag) (hK : X.K = K) (hc : X.calm = true) : CallR X (.builtin "max") (rMax K) := by
  subst hK
  exact cr_max hc
theorem call_list_ofK (K : PySem.W.Frag) (hK : X.K = K) : CallR X (.type "list") (rListOf K) := by
  subst hK
  exact call_list_of
theorem mt_indexK (K : PySem.W.Frag) (hK : X.K = K) : MtR X "list.index" (rIndex K) := by
  subst hK
  exact mt_index
theorem call_lenK (K : PySem.W.Frag) (hK : X.K = K) : CallR X (.builtin "len") (rLen K) := by
  subst hK
  exact call_len_seq
theorem pg_tupK (K : PySem.W.Frag) (hK : X.K = K) {es : List PySem.Expr} {k : Nat} {t : TGs} {n : Nat} (hc : X.calm = true) (h : PGs X es t)
    (hn : (assignEach es X.env).length = n := by rfl) (hst : (assignEach es X.env).findIdx? (·.1) = none := by rfl) : PG X (.Tuple es k pos) (gTup K n t) := by
  subst hK
  exact pg_tup hc h hn hst
section
variable {T id : String} {name : Str} {r : V → List V → Hp → VK → Prop}
theorem pe_bm0K (K : PySem.W.Frag) (hK : X.K = K) (pa : PlainAttrs T) (slot : Slot T name id) (hty : typeOf (.builtin id) = pure (.type "method_descriptor")) (hm : MtR X id r) (ho : PE X o to)
    (hbase : attributeBase o name X.env (eval o X.env) = eval o X.env := by rfl) (hline : (apos.endLine == cpos.line) = true := by rfl) : PE X (.Call (.Attribute o name apos) [] [] cpos) (tBM0 K T r to) := by
  subst hK
  exact pe_bm0 pa slot hty hm ho hbase hline
theorem pe_bmK (K : PySem.W.Frag) (hK : X.K = K) (pa : PlainAttrs T) (slot : Slot T name id) (hty : typeOf (.builtin id) = pure (.type "method_descriptor")) (hm : MtR X id r) (ho : PE X o to) (ha : PA X (e :: es) t)
    (hbase : attributeBase o name X.env (eval o X.env) = eval o X.env := by rfl)
    (hfew : ((backTo cpos (starEach (e :: es) X.env)).all (fun x => !x.1) && (backToKw cpos (keywordEach [] X.env)).all (fun x => x.1.isSome)
      && decide ((e :: es).length + ([] : List Keyword).length + (if ([] : List Keyword).isEmpty then 0 else 1) < 30)) = true := by rfl)
    (hline : (apos.endLine == cpos.line) = true := by rfl) (hs : starEach (e :: es) X.env = (false, eval e X.env) :: starEach es X.env := by rfl) (hplain : (backTo cpos (starEach es X.env)).any (·.1) = false := by rfl) :
    PE X (.Call (.Attribute o name apos) (e :: es) [] cpos) (tBM K T r to t) := by
  subst hK
  exact pe_bm pa slot hty hm ho ha hbase hfew hline hs hplain
end
end
end Sp

set_option Elab.async false
set_option linter.all false
set_option maxRecDepth 100000
set_option maxHeartbeats 2000000
namespace Sp
open PySem PySem.Spec PyProof.Rows L2
def pieceF (x : Kv335.Piece) : List (Str × V) := [("long", .int x.long), ("rise", .int x.rise), ("wide", .int x.wide)]
def runsI (x : Kv335.Pump) : Int := if x.on_ then 1 else 0
def pumpF (x : Kv335.Pump) : List (Str × V) := [("at", .int x.at_), ("adds", .int x.adds), ("runs", .int (runsI x))]
def pipeG (b : Bool) (g m lo hi : Int) (l k : Addr) : List (Str × V) := [("begun", .bl b), ("grain", .int g), ("mix", .int m), ("low", .int lo), ("high", .int hi), ("pieces", .ref l), ("pumps", .ref k)]
def pipeF (b : Bool) (a : Kv335.Abs) (l k : Addr) : List (Str × V) := pipeG b a.grain a.mix a.low a.high l k
def PieceAt (A : Ad) (H : Hp) (p : Addr) (x : Kv335.Piece) : Prop := ∃ dx, H p = some (.ins A.c_Piece dx (pieceF x))
def PumpAt (A : Ad) (H : Hp) (p : Addr) (x : Kv335.Pump) : Prop := ∃ dx, H p = some (.ins A.c_Pump dx (pumpF x))
/-- the pipe's object at p, its lists at l and k, the pieces at ps, the pumps at qs -/
structure PipeOn (A : Ad) (H : Hp) (p dx l k : Addr) (ps qs : List Addr) (b : Bool) (a : Kv335.Abs) : Prop where
  ob : H p = some (.ins A.c_Pipe dx (pipeF b a l k))
  lp : H l = some (.lst (ps.map V.ref))
  lq : H k = some (.lst (qs.map V.ref))
  ne : l ≠ k
  ndp : ps.Nodup
  ndq : qs.Nodup
  plen : ps.length = a.pieces.length
  qlen : qs.length = a.pumps.length
  pat : ∀ (j : Nat) (q : Addr) (x : Kv335.Piece), ps[j]? = some q → a.pieces[j]? = some x → PieceAt A H q x
  qat : ∀ (j : Nat) (q : Addr) (x : Kv335.Pump), qs[j]? = some q → a.pumps[j]? = some x → PumpAt A H q x
/-- F: all addresses that are the pipe's own -/
def PipeAt (A : Ad) (H : Hp) (p : Addr) (F : List Addr) (b : Bool) (a : Kv335.Abs) : Prop := ∃ dx l k ps qs, PipeOn A H p dx l k ps qs b a ∧ F = p :: l :: k :: (ps ++ qs)
structure PieceOk (x : Kv335.Piece) : Prop where
  long : 1 ≤ x.long ∧ x.long ≤ 3000
  rise : -300 ≤ x.rise ∧ x.rise ≤ 300
  wide : 100 ≤ x.wide ∧ x.wide ≤ 1200
structure PumpOk (x : Kv335.Pump) : Prop where
  adds : 1 ≤ x.adds ∧ x.adds ≤ 1000
structure Good (a : Kv335.Abs) : Prop where
  np : a.pieces.length ≤ 8
  nq : a.pumps.length ≤ 6
  pc : ∀ x, x ∈ a.pieces → PieceOk x
  pu : ∀ x, x ∈ a.pumps → PumpOk x
  gr : 1 ≤ a.grain ∧ a.grain ≤ 9
  mx : a.mix ≤ 40
  lo : -100 ≤ a.low ∧ a.low ≤ 0
  hi : 1 ≤ a.high ∧ a.high ≤ 3000
theorem PieceAt.mono {A : Ad} {H H' : Hp} {p : Addr} {x : Kv335.Piece} (h : PieceAt A H p x) (s : Same H H') : PieceAt A H' p x := let ⟨dx, e⟩ := h; ⟨dx, s _ _ e⟩
theorem PumpAt.mono {A : Ad} {H H' : Hp} {p : Addr} {x : Kv335.Pump} (h : PumpAt A H p x) (s : Same H H') : PumpAt A H' p x := let ⟨dx, e⟩ := h; ⟨dx, s _ _ e⟩
theorem PipeOn.mono {A : Ad} {H H' : Hp} {p dx l k : Addr} {ps qs : List Addr} {b : Bool} {a : Kv335.Abs} (h : PipeOn A H p dx l k ps qs b a) (s : Same H H') : PipeOn A H' p dx l k ps qs b a :=
  ⟨s _ _ h.ob, s _ _ h.lp, s _ _ h.lq, h.ne, h.ndp, h.ndq, h.plen, h.qlen, fun j q x e1 e2 => (h.pat j q x e1 e2).mono s, fun j q x e1 e2 => (h.qat j q x e1 e2).mono s⟩
theorem PipeAt.mono {A : Ad} {H H' : Hp} {p : Addr} {F : List Addr} {b : Bool} {a : Kv335.Abs} (h : PipeAt A H p F b a) (s : Same H H') : PipeAt A H' p F b a := by
  obtain ⟨dx, l, k, ps, qs, h, e⟩ := h
  exact ⟨dx, l, k, ps, qs, h.mono s, e⟩
theorem PipeOn.at {A : Ad} {H : Hp} {p dx l k : Addr} {ps qs : List Addr} {b : Bool} {a : Kv335.Abs} (h : PipeOn A H p dx l k ps qs b a) : PipeAt A H p (p :: l :: k :: (ps ++ qs)) b a := ⟨dx, l, k, ps, qs, h, rfl⟩
/-- the piece at a place -/
theorem PipeOn.piece {A : Ad} {H : Hp} {p dx l k : Addr} {ps qs : List Addr} {b : Bool} {a : Kv335.Abs} (h : PipeOn A H p dx l k ps qs b a) {j : Nat} {q : Addr} (e : ps[j]? = some q) : ∃ x, a.pieces[j]? = some x ∧ PieceAt A H q x := by
  have hj : j < a.pieces.length := by
    have := (List.getElem?_eq_some_iff.mp e).1
    rw [← h.plen]
    exact this
  exact ⟨_, List.getElem?_eq_getElem hj, h.pat j q _ e (List.getElem?_eq_getElem hj)⟩
theorem PipeOn.pump {A : Ad} {H : Hp} {p dx l k : Addr} {ps qs : List Addr} {b : Bool} {a : Kv335.Abs} (h : PipeOn A H p dx l k ps qs b a) {j : Nat} {q : Addr} (e : qs[j]? = some q) : ∃ x, a.pumps[j]? = some x ∧ PumpAt A H q x := by
  have hj : j < a.pumps.length := by
    have := (List.getElem?_eq_some_iff.mp e).1
    rw [← h.qlen]
    exact this
  exact ⟨_, List.getElem?_eq_getElem hj, h.qat j q _ e (List.getElem?_eq_getElem hj)⟩
section
variable {K : PySem.W.Frag} {mg : Str → Option Value} {A : Ad} {H : Hp} {Q : VK}
theorem lk0 {f : Str} {v : V} {r : List (Str × V)} : List.lookup f ((f, v) :: r) = some v := by
  rw [List.lookup_cons, beq_self_eq_true]
theorem lk1 {f g : Str} {v w : V} {r : List (Str × V)} (h : (f == g) = false) (q : List.lookup f r = some w) : List.lookup f ((g, v) :: r) = some w := by
  rw [List.lookup_cons, h]
  exact q
section
variable {q : Addr} {x : Kv335.Piece}
theorem rd_piece_long (T : Txt K mg A) (h : PieceAt A H q x) (k : Q (.int x.long) H) : rdF K "long" (.ref q) H Q := by
  obtain ⟨dx, h⟩ := h
  exact ⟨q, _, dx, _, _, rfl, h, T.cl_Piece, T.n_Piece_long, lk0, k⟩
theorem rd_piece_rise (T : Txt K mg A) (h : PieceAt A H q x) (k : Q (.int x.rise) H) : rdF K "rise" (.ref q) H Q := by
  obtain ⟨dx, h⟩ := h
  exact ⟨q, _, dx, _, _, rfl, h, T.cl_Piece, T.n_Piece_rise, lk1 (by decide +kernel) lk0, k⟩
theorem rd_piece_wide (T : Txt K mg A) (h : PieceAt A H q x) (k : Q (.int x.wide) H) : rdF K "wide" (.ref q) H Q := by
  obtain ⟨dx, h⟩ := h
  exact ⟨q, _, dx, _, _, rfl, h, T.cl_Piece, T.n_Piece_wide, lk1 (by decide +kernel) (lk1 (by decide +kernel) lk0), k⟩
end
section
variable {q : Addr} {x : Kv335.Pump}
theorem rd_pump_at (T : Txt K mg A) (h : PumpAt A H q x) (k : Q (.int x.at_) H) : rdF K "at" (.ref q) H Q := by
  obtain ⟨dx, h⟩ := h
  exact ⟨q, _, dx, _, _, rfl, h, T.cl_Pump, T.n_Pump_at, lk0, k⟩
theorem rd_pump_adds (T : Txt K mg A) (h : PumpAt A H q x) (k : Q (.int x.adds) H) : rdF K "adds" (.ref q) H Q := by
  obtain ⟨dx, h⟩ := h
  exact ⟨q, _, dx, _, _, rfl, h, T.cl_Pump, T.n_Pump_adds, lk1 (by decide +kernel) lk0, k⟩
theorem rd_pump_runs (T : Txt K mg A) (h : PumpAt A H q x) (k : Q (.int (runsI x)) H) : rdF K "runs" (.ref q) H Q := by
  obtain ⟨dx, h⟩ := h
  exact ⟨q, _, dx, _, _, rfl, h, T.cl_Pump, T.n_Pump_runs, lk1 (by decide +kernel) (lk1 (by decide +kernel) lk0), k⟩
end
section
variable {p dx l c : Addr} {ps qs : List Addr} {b : Bool} {a : Kv335.Abs}
theorem rd_pipe_begun (T : Txt K mg A) (h : PipeOn A H p dx l c ps qs b a) (k : Q (.bl b) H) : rdF K "begun" (.ref p) H Q :=
  ⟨p, _, dx, _, _, rfl, h.ob, T.cl_Pipe, T.n_Pipe_begun, lk0, k⟩
theorem rd_pipe_grain (T : Txt K mg A) (h : PipeOn A H p dx l c ps qs b a) (k : Q (.int a.grain) H) : rdF K "grain" (.ref p) H Q :=
  ⟨p, _, dx, _, _, rfl, h.ob, T.cl_Pipe, T.n_Pipe_grain, lk1 (by decide +kernel) lk0, k⟩
theorem rd_pipe_mix (T : Txt K mg A) (h : PipeOn A H p dx l c ps qs b a) (k : Q (.int a.mix) H) : rdF K "mix" (.ref p) H Q :=
  ⟨p, _, dx, _, _, rfl, h.ob, T.cl_Pipe, T.n_Pipe_mix, lk1 (by decide +kernel) (lk1 (by decide +kernel) lk0), k⟩
theorem rd_pipe_low (T : Txt K mg A) (h : PipeOn A H p dx l c ps qs b a) (k : Q (.int a.low) H) : rdF K "low" (.ref p) H Q :=
  ⟨p, _, dx, _, _, rfl, h.ob, T.cl_Pipe, T.n_Pipe_low, lk1 (by decide +kernel) (lk1 (by decide +kernel) (lk1 (by decide +kernel) lk0)), k⟩
theorem rd_pipe_high (T : Txt K mg A) (h : PipeOn A H p dx l c ps qs b a) (k : Q (.int a.high) H) : rdF K "high" (.ref p) H Q :=
  ⟨p, _, dx, _, _, rfl, h.ob, T.cl_Pipe, T.n_Pipe_high, lk1 (by decide +kernel) (lk1 (by decide +kernel) (lk1 (by decide +kernel) (lk1 (by decide +kernel) lk0))), k⟩
theorem rd_pipe_pieces (T : Txt K mg A) (h : PipeOn A H p dx l c ps qs b a) (k : Q (.ref l) H) : rdF K "pieces" (.ref p) H Q :=
  ⟨p, _, dx, _, _, rfl, h.ob, T.cl_Pipe, T.n_Pipe_pieces, lk1 (by decide +kernel) (lk1 (by decide +kernel) (lk1 (by decide +kernel) (lk1 (by decide +kernel) (lk1 (by decide +kernel) lk0)))), k⟩
theorem rd_pipe_pumps (T : Txt K mg A) (h : PipeOn A H p dx l c ps qs b a) (k : Q (.ref c) H) : rdF K "pumps" (.ref p) H Q :=
  ⟨p, _, dx, _, _, rfl, h.ob, T.cl_Pipe, T.n_Pipe_pumps, lk1 (by decide +kernel) (lk1 (by decide +kernel) (lk1 (by decide +kernel) (lk1 (by decide +kernel) (lk1 (by decide +kernel) (lk1 (by decide +kernel) lk0))))), k⟩
end
end
theorem loses_eq {a : Kv335.Abs} {x : Kv335.Piece} {v : Nat} (hw : 0 < x.wide) : ((x.long : Int) * v * v * (100 + a.mix) * (10 + a.grain) + 4000 * x.wide - 1) / (4000 * x.wide) = ((a.loses x v : Nat) : Int) := by
  unfold Kv335.Abs.loses
  have e1 : x.wide * 4000 = 4000 * x.wide := Nat.mul_comm _ _
  have e2 : ((x.long : Int) * v * v * (100 + a.mix) * (10 + a.grain) + 4000 * x.wide - 1) = ((x.long * v * v * (100 + a.mix) * (10 + a.grain) + (x.wide * 4000 - 1) : Nat) : Int) := by
    have h : 1 ≤ x.wide * 4000 := by omega
    rw [Int.natCast_add, Int.ofNat_sub h]
    push_cast
    omega
  rw [e2]
  simp only [Int.natCast_ediv]
  rw [e1]
  push_cast
  rfl
theorem lifts_eq {a : Kv335.Abs} {x : Kv335.Piece} : x.rise * (100 + 2 * (a.mix : Int)) / 100 = a.lifts x := by
  unfold Kv335.Abs.lifts
  push_cast
  rfl
theorem gives_le {x : Kv335.Pump} {v : Nat} (hv : v ≤ 99) : x.adds * v * v / 10000 ≤ x.adds := by
  have h1 : v * v ≤ 10000 := Nat.le_trans (Nat.mul_le_mul hv hv) (by decide)
  have h2 : x.adds * v * v ≤ x.adds * 10000 := by
    rw [Nat.mul_assoc]
    exact Nat.mul_le_mul (Nat.le_refl _) h1
  exact Nat.div_le_of_le_mul (by rw [Nat.mul_comm 10000]; exact h2)
theorem gives_eq {x : Kv335.Pump} {v : Nat} (hv : v ≤ 99) (h : x.on_ = true) : (x.adds : Int) - x.adds * v * v / 10000 = ((x.gives v : Nat) : Int) := by
  unfold Kv335.Pump.gives
  rw [if_pos h, Int.ofNat_sub (gives_le hv)]
  push_cast
  rfl
theorem settles_eq {a : Kv335.Abs} {x : Kv335.Piece} : 5 + 2 * (a.grain : Int) + x.wide / 50 + a.mix / 10 = ((a.settles x : Nat) : Int) := by
  unfold Kv335.Abs.settles
  push_cast
  rfl
end Sp

set_option Elab.async false
set_option linter.all false
set_option maxRecDepth 100000
set_option maxHeartbeats 2000000
namespace Sp
open PySem PySem.Spec PyProof.Rows L2
local macro_rules | `(tactic| walk_at "s1") => `(tactic| first
  | with_reducible refine rd_seq ?_
  | with_reducible refine rd_asg ?_
  | with_reducible refine rd_gname ?_
  | ((with_reducible apply rd_var); exact rfl)
  | with_reducible refine rd_c ?_
  | with_reducible refine rd_op ?_
  | with_reducible refine rd_i0 ?_
  | with_reducible refine rd_eqI ?_
  | ((with_reducible refine rd_mul ?_ ?_); first | exact mul_rN (by omega) (by omega) | exact mul_lN (by omega) (by omega))
  | ((with_reducible refine rd_fdiv ?_ ?_ ?_); (focus (first | decide | omega)); (focus (first | decide | omega)))
  | with_reducible refine rd_fld ?_
  | with_reducible refine rd_ret ?_
  | with_reducible refine rd_drop ?_
  | with_reducible refine rd_ifS ?_
  | with_reducible refine rd_if ?_
  | with_reducible refine rd_test ?_
  | with_reducible refine rd_tB ?_
  | with_reducible refine rd_and ?_
  | with_reducible refine rd_or ?_
  | with_reducible refine rd_not ?_
  | with_reducible refine rd_chain ?_
  | with_reducible refine rd_andV ?_
  | with_reducible refine rd_orV ?_
  | with_reducible refine rd_notV ?_
  | with_reducible refine rd_isblX ?_
  | with_reducible refine rd_nil ?_
  | with_reducible refine rd_cons ?_
  | with_reducible refine rd_call ?_
  | with_reducible refine rd_callLen ?_
  | with_reducible refine rd_callB ?_
  | with_reducible refine rd_lst ?_
  | with_reducible refine rd_next ?_
  | with_reducible refine rd_sfld ?_
  | with_reducible refine rd_un ?_
  | with_reducible refine rd_u ?_
  | with_reducible refine rd_make ?_
  | with_reducible refine rd_for ?_
  | with_reducible refine rd_ilist ?_
  | with_reducible refine rd_ienum ?_
  | with_reducible refine rd_irng2 ?_
  | with_reducible refine rd_irng1 ?_
  | with_reducible refine rd_yes ?_
  | with_reducible refine rd_irng3 ?_
  | ((with_reducible refine rd_mod ?_ ?_); (focus decide))
  | with_reducible refine rd_lc ?_
  | with_reducible refine rd_sl ?_
  | with_reducible refine rd_nopart ?_
  | with_reducible refine rd_part ?_
  | with_reducible refine rd_isint ?_
  | with_reducible refine rd_neI ?_
  | with_reducible refine rd_bm ?_
  | with_reducible refine rd_bm0 ?_
  | with_reducible refine iteT ?_
  | ((with_reducible refine rd_iteDT ?_ ?_); (focus decide))
  | ((with_reducible refine rd_iteDF ?_ ?_); (focus decide))
  | ((with_reducible apply rd_ixL); (focus exact SqL.of (by assumption)); (focus exact rfl))
  | with_reducible refine iteF ?_
  | ((with_reducible apply rd_piece_long); assumption; assumption)
  | ((with_reducible apply rd_piece_rise); assumption; assumption)
  | ((with_reducible apply rd_piece_wide); assumption; assumption)
  | ((with_reducible apply rd_pump_at); assumption; assumption)
  | ((with_reducible apply rd_pump_adds); assumption; assumption)
  | ((with_reducible apply rd_pump_runs); assumption; assumption)
  | ((with_reducible apply rd_pipe_begun); assumption; assumption)
  | ((with_reducible apply rd_pipe_grain); assumption; assumption)
  | ((with_reducible apply rd_pipe_mix); assumption; assumption)
  | ((with_reducible apply rd_pipe_low); assumption; assumption)
  | ((with_reducible apply rd_pipe_high); assumption; assumption)
  | ((with_reducible apply rd_pipe_pieces); assumption; assumption)
  | ((with_reducible apply rd_pipe_pumps); assumption; assumption))
local macro_rules | `(tactic| walk_at "rd") => `(tactic| repeat walk_at "s1")
def sp_lost (K : PySem.W.Frag) (A : Ad) : Sp := fun vs H Q _ => ∃ (p q : Addr) (F : List Addr) (b : Bool) (a : Kv335.Abs) (x : Kv335.Piece) (v : Nat), vs = [.ref p, .ref q, .int v] ∧ PipeAt A H p F b a ∧ PieceAt A H q x ∧ PieceOk x ∧ a.mix ≤ 40 ∧ a.grain ≤ 9 ∧ v ≤ 99 ∧ Q (.int (a.loses x v : Nat)) H
def sp_lifted (K : PySem.W.Frag) (A : Ad) : Sp := fun vs H Q _ => ∃ (p q : Addr) (F : List Addr) (b : Bool) (a : Kv335.Abs) (x : Kv335.Piece), vs = [.ref p, .ref q] ∧ PipeAt A H p F b a ∧ PieceAt A H q x ∧ PieceOk x ∧ a.mix ≤ 40 ∧ Q (.int (a.lifts x)) H
def sp_given (K : PySem.W.Frag) (A : Ad) : Sp := fun vs H Q _ => ∃ (q : Addr) (x : Kv335.Pump) (v : Nat), vs = [.ref q, .int v] ∧ PumpAt A H q x ∧ v ≤ 99 ∧ Q (.int (x.gives v : Nat)) H
def sp_settling_speed (K : PySem.W.Frag) (A : Ad) : Sp := fun vs H Q _ => ∃ (p q : Addr) (F : List Addr) (b : Bool) (a : Kv335.Abs) (x : Kv335.Piece), vs = [.ref p, .ref q] ∧ PipeAt A H p F b a ∧ PieceAt A H q x ∧ a.grain ≤ 9 ∧ Q (.int (a.settles x : Nat)) H
section
variable {P : Program} {w : World} {K : PySem.W.Frag} {mg : Str → Option Value} {base : Heap} {A : Ad}
theorem ok_lost (T : Txt K mg A) : FnOk P w K mg base CX0 1 A.f_lost A.d_lost ["pipe", "piece", "speed"] (sp_lost K A) := by
  refine T.F_lost.ok sc_lost (fun vs H Q E h => ?_) (fun cdv Ar outer s H vs Q E hr h => ?_)
  · obtain ⟨p, q, F, b, a, x, v, rfl, _⟩ := h
    rfl
  · obtain ⟨p, q, F, b, a, x, v, rfl, hp, hq, hx, hm, hg, hv, k⟩ := h
    obtain ⟨dx, l, c, ps, qs, hp, rfl⟩ := hp
    have hw := hx.wide
    refine ⟨_, (pss_cons (ps_set (i := 3) sc_lost.nd rfl (Or.inl rfl) (pe_op op_mul (pe_op op_mul (pe_op op_mul (pe_op op_mul (pe_fldK K rfl (pv 1) rfl) (pv 2)) (pv 2)) (pe_op op_add pe_int (pe_fldK K rfl (pv 0) rfl))) (pe_op op_add pe_int (pe_fldK K rfl (pv 0) rfl))))
      (pss_cons (ps_set (i := 4) sc_lost.nd rfl (Or.inl rfl) (pe_op op_mul pe_int (pe_fldK K rfl (pv 1) rfl)))
      (pss_one (ps_ret (pe_op op_fdiv (pe_op op_sub (pe_op op_add (pv 3) (pv 4)) pe_int) (pv 4)))))), ?_⟩
    walk_at "rd"
    show Q _ H
    rw [loses_eq (by omega)]
    exact k
theorem ok_lifted (T : Txt K mg A) : FnOk P w K mg base CX0 1 A.f_lifted A.d_lifted ["pipe", "piece"] (sp_lifted K A) := by
  refine T.F_lifted.ok sc_lifted (fun vs H Q E h => ?_) (fun cdv Ar outer s H vs Q E hr h => ?_)
  · obtain ⟨p, q, F, b, a, x, rfl, _⟩ := h
    rfl
  · obtain ⟨p, q, F, b, a, x, rfl, hp, hq, hx, hm, k⟩ := h
    obtain ⟨dx, l, c, ps, qs, hp, rfl⟩ := hp
    refine ⟨_, (pss_one (ps_ret (pe_op op_fdiv (pe_op op_mul (pe_fldK K rfl (pv 1) rfl) (pe_op op_add pe_int (pe_op op_mul pe_int (pe_fldK K rfl (pv 0) rfl)))) pe_int))), ?_⟩
    walk_at "rd"
    show Q _ H
    rw [lifts_eq]
    exact k
theorem ok_given (T : Txt K mg A) : FnOk P w K mg base CX0 1 A.f_given A.d_given ["pump", "speed"] (sp_given K A) := by
  refine T.F_given.ok sc_given (fun vs H Q E h => ?_) (fun cdv Ar outer s H vs Q E hr h => ?_)
  · obtain ⟨q, x, v, rfl, _⟩ := h
    rfl
  · obtain ⟨q, x, v, rfl, hq, hv, k⟩ := h
    refine ⟨_, (pss_cons (ps_if (pt_cmpR op_eq (pe_fldK K rfl (pv 0) rfl) pe_int (nomark _)) (pss_one (ps_ret pe_int)) pss_nil)
      (pss_one (ps_ret (pe_op op_sub (pe_fldK K rfl (pv 0) rfl) (pe_op op_fdiv (pe_op op_mul (pe_op op_mul (pe_fldK K rfl (pv 0) rfl) (pv 1)) (pv 1)) pe_int))))), ?_⟩
    walk_at "rd"
    refine rd_ite (fun h => ?_) (fun h => ?_)
    · walk_at "rd"
      show Q _ H
      have e : x.on_ = false := by
        unfold runsI at h
        cases e : x.on_ with
        | false => rfl
        | true =>
          rw [e] at h
          exact absurd h (by decide)
      have e2 : ((x.gives v : Nat) : Int) = 0 := by
        unfold Kv335.Pump.gives
        rw [e]
        rfl
      rw [e2] at k
      exact k
    · walk_at "rd"
      show Q _ H
      have e : x.on_ = true := by
        unfold runsI at h
        cases e : x.on_ with
        | true => rfl
        | false =>
          rw [e] at h
          exact absurd rfl h
      rw [gives_eq hv e]
      exact k
theorem ok_settling_speed (T : Txt K mg A) : FnOk P w K mg base CX0 1 A.f_settling_speed A.d_settling_speed ["pipe", "piece"] (sp_settling_speed K A) := by
  refine T.F_settling_speed.ok sc_settling_speed (fun vs H Q E h => ?_) (fun cdv Ar outer s H vs Q E hr h => ?_)
  · obtain ⟨p, q, F, b, a, x, rfl, _⟩ := h
    rfl
  · obtain ⟨p, q, F, b, a, x, rfl, hp, hq, hg, k⟩ := h
    obtain ⟨dx, l, c, ps, qs, hp, rfl⟩ := hp
    refine ⟨_, (pss_one (ps_ret (pe_op op_add (pe_op op_add (pe_op op_add pe_int (pe_op op_mul pe_int (pe_fldK K rfl (pv 0) rfl))) (pe_op op_fdiv (pe_fldK K rfl (pv 1) rfl) pe_int)) (pe_op op_fdiv (pe_fldK K rfl (pv 0) rfl) pe_int)))), ?_⟩
    walk_at "rd"
    show Q _ H
    rw [settles_eq]
    exact k
end
end Sp

set_option Elab.async false
set_option linter.all false
set_option maxRecDepth 100000
set_option maxHeartbeats 2000000
namespace Sp
open PySem PySem.Spec PyProof.Rows L2
local macro_rules | `(tactic| walk_at "s1") => `(tactic| first
  | with_reducible refine rd_seq ?_
  | with_reducible refine rd_asg ?_
  | with_reducible refine rd_gname ?_
  | ((with_reducible apply rd_var); exact rfl)
  | with_reducible refine rd_c ?_
  | with_reducible refine rd_op ?_
  | with_reducible refine rd_i0 ?_
  | with_reducible refine rd_eqI ?_
  | ((with_reducible refine rd_mul ?_ ?_); first | exact mul_rN (by omega) (by omega) | exact mul_lN (by omega) (by omega))
  | ((with_reducible refine rd_fdiv ?_ ?_ ?_); (focus (first | decide | omega)); (focus (first | decide | omega)))
  | with_reducible refine rd_fld ?_
  | with_reducible refine rd_ret ?_
  | with_reducible refine rd_drop ?_
  | with_reducible refine rd_ifS ?_
  | with_reducible refine rd_if ?_
  | with_reducible refine rd_test ?_
  | with_reducible refine rd_tB ?_
  | with_reducible refine rd_and ?_
  | with_reducible refine rd_or ?_
  | with_reducible refine rd_not ?_
  | with_reducible refine rd_chain ?_
  | with_reducible refine rd_andV ?_
  | with_reducible refine rd_orV ?_
  | with_reducible refine rd_notV ?_
  | with_reducible refine rd_isblX ?_
  | with_reducible refine rd_nil ?_
  | with_reducible refine rd_cons ?_
  | with_reducible refine rd_call ?_
  | with_reducible refine rd_callLen ?_
  | with_reducible refine rd_callB ?_
  | with_reducible refine rd_lst ?_
  | with_reducible refine rd_next ?_
  | with_reducible refine rd_sfld ?_
  | with_reducible refine rd_un ?_
  | with_reducible refine rd_u ?_
  | with_reducible refine rd_make ?_
  | with_reducible refine rd_for ?_
  | with_reducible refine rd_ilist ?_
  | with_reducible refine rd_ienum ?_
  | with_reducible refine rd_irng2 ?_
  | with_reducible refine rd_irng1 ?_
  | with_reducible refine rd_yes ?_
  | with_reducible refine rd_irng3 ?_
  | ((with_reducible refine rd_mod ?_ ?_); (focus decide))
  | with_reducible refine rd_lc ?_
  | with_reducible refine rd_sl ?_
  | with_reducible refine rd_nopart ?_
  | with_reducible refine rd_part ?_
  | with_reducible refine rd_isint ?_
  | with_reducible refine rd_neI ?_
  | with_reducible refine rd_bm ?_
  | with_reducible refine rd_bm0 ?_
  | with_reducible refine iteT ?_
  | ((with_reducible refine rd_iteDT ?_ ?_); (focus decide))
  | ((with_reducible refine rd_iteDF ?_ ?_); (focus decide))
  | ((with_reducible apply rd_ixL); (focus exact SqL.of (by assumption)); (focus exact rfl))
  | with_reducible refine iteF ?_
  | ((with_reducible apply rd_piece_long); assumption; assumption)
  | ((with_reducible apply rd_piece_rise); assumption; assumption)
  | ((with_reducible apply rd_piece_wide); assumption; assumption)
  | ((with_reducible apply rd_pump_at); assumption; assumption)
  | ((with_reducible apply rd_pump_adds); assumption; assumption)
  | ((with_reducible apply rd_pump_runs); assumption; assumption)
  | ((with_reducible apply rd_pipe_begun); assumption; assumption)
  | ((with_reducible apply rd_pipe_grain); assumption; assumption)
  | ((with_reducible apply rd_pipe_mix); assumption; assumption)
  | ((with_reducible apply rd_pipe_low); assumption; assumption)
  | ((with_reducible apply rd_pipe_high); assumption; assumption)
  | ((with_reducible apply rd_pipe_pieces); assumption; assumption)
  | ((with_reducible apply rd_pipe_pumps); assumption; assumption))
local macro_rules | `(tactic| walk_at "rd") => `(tactic| repeat walk_at "s1")
def sp_given_at_joint (K : PySem.W.Frag) (A : Ad) : Sp := fun vs H Q _ => ∃ (p : Addr) (F : List Addr) (b : Bool) (a : Kv335.Abs) (i v : Nat), vs = [.ref p, .int i, .int v] ∧ PipeAt A H p F b a ∧ a.pumps.length ≤ 6 ∧ v ≤ 99 ∧ ∀ H', Same H H' → Q (.int (a.given i v : Nat)) H'
def sp_joint_pressures (K : PySem.W.Frag) (A : Ad) : Sp := fun vs H Q _ => ∃ (p : Addr) (F : List Addr) (b : Bool) (a : Kv335.Abs) (v : Nat), vs = [.ref p, .int v] ∧ PipeAt A H p F b a ∧ Good a ∧ v ≤ 99 ∧ ∀ H' r, Same H H' → H r = none → H' r = some (.lst ((a.pressures v).map V.int)) → Q (.ref r) H'
theorem along_len (a : Kv335.Abs) (v : Nat) : ∀ (l : List Kv335.Piece) (i : Nat) (p : Int), (a.along v i l p).length = l.length + 1
  | [], _, _ => rfl
  | x :: l, i, p => by
    show ((_ : Int) :: a.along v (i + 1) l _).length = _
    rw [List.length_cons, along_len a v l]
    rfl
theorem pressures_len (a : Kv335.Abs) (v : Nat) : (a.pressures v).length = a.pieces.length + 1 := along_len a v _ _ _
theorem given_step {l : List Kv335.Pump} {i j v : Nat} {x : Kv335.Pump} (h : l[j]? = some x) :
    ((l.take (j + 1)).filter fun x => x.at_ == i).map (fun x => V.int ((x.gives v : Nat) : Int)) = ((l.take j).filter fun x => x.at_ == i).map (fun x => V.int ((x.gives v : Nat) : Int)) ++ (if x.at_ = i then [V.int ((x.gives v : Nat) : Int)] else []) := by
  rw [take_snoc h, List.filter_append, List.map_append]
  congr 1
  by_cases e : x.at_ = i
  · rw [if_pos e]
    simp [e]
  · rw [if_neg e]
    simp [e]
section
variable {P : Program} {w : World} {K : PySem.W.Frag} {mg : Str → Option Value} {base : Heap} {A : Ad}
theorem ok_given_at_joint (T : Txt K mg A) : FnOk P w K mg base CX0 2 A.f_given_at_joint A.d_given_at_joint ["pipe", "joint", "speed"] (sp_given_at_joint K A) := by
  have G_given : FnOk P w K mg base CX0 1 A.f_given A.d_given ["pump", "speed"] (sp_given K A) := ok_given T
  refine T.F_given_at_joint.ok sc_given_at_joint (fun vs H Q E h => ?_) (fun cdv Ar outer s H vs Q E hr h => ?_)
  · obtain ⟨p, F, b, a, i, v, rfl, _⟩ := h
    rfl
  · obtain ⟨p, F, b, a, i, v, rfl, hp, hn, hv, k⟩ := h
    obtain ⟨dx, l, c, ps, qs, hp, rfl⟩ := hp
    refine ⟨_, (pss_one (ps_ret (pe_callB (cr_sumK K rfl rfl) (by rfl) T.nb_sum (by decide +kernel) (pa_cons (pe_lc rfl sc_given_at_joint.nd (pi_listK K rfl (pe_fldK K rfl (pv 0) rfl)) (blkOk_by (N := ["pipe", "joint", "speed", "pump"]) (sc := defScope s_given_at_joint) (own := [("pump", 3)]) (by decide +kernel)) (fun _ _ _ _ _ => (pg_name (i := 3) sc_given_at_joint.nd rfl (Or.inl rfl))) (fun _ _ _ _ _ => (pts_one (pt_cmpR op_eq (pe_fldK K rfl (pv 3) rfl) (pv 1) (nomark _)))) (fun _ _ _ _ _ => (pe_call G_given (hr.mono (by decide)) rfl T.m_given T.F_given.kp T.b_given .nil pass0 (pa_cons (pv 3) (pa_cons (pv 2) pa_nil))))) pa_nil)))), ?_⟩
    walk_at "rd"
    refine ⟨_, rfl, ⟨_, SqL.of hp.lq⟩, fun D hD => ?_⟩
    have s0 : Same H (upd H D (.lst [])) := Same.upd hD
    refine lc_list (K := K) (a := c) (xs := qs.map V.ref) (fun j H' => Same H H' ∧ H' D = some (.lst (((a.pumps.take j).filter fun x => x.at_ == i).map fun x => V.int ((x.gives v : Nat) : Int))))
      ⟨s0, upd_same⟩ (fun j H' _ h => SqL.of (h.1 _ _ hp.lq)) ?_ ?_
    · rintro j y H' hj ⟨s1, hD1⟩
      obtain ⟨q, hq, rfl⟩ := get_ref hj
      obtain ⟨x, hx, hxa⟩ := hp.pump hq
      have hxa := hxa.mono s1
      refine rd_gname ⟨rfl, ?_⟩
      walk_at "rd"
      have up : ∀ z, Same H (upd H' D z) := fun z b o e => by
        rw [upd_ne (ne_of_none e hD)]
        exact s1 b o e
      have e1 := given_step (i := i) (v := v) hx
      refine rd_ite (fun h => ?_) (fun h => ?_)
      · have h' : x.at_ = i := by omega
        rw [if_pos h'] at e1
        walk_at "rd"
        refine ⟨q, x, v, rfl, hxa, hv, _, hD1, ?_, up _, ?_⟩
        · rw [List.length_map]
          refine small1000 (Nat.le_trans (List.length_filter_le _ _) ?_)
          rw [List.length_take]
          omega
        · rw [upd_same, e1]
      · have h' : ¬ x.at_ = i := by omega
        rw [if_neg h', List.append_nil] at e1
        exact ⟨s1, by rw [e1]; exact hD1⟩
    · rintro H' ⟨s1, hD1⟩
      have e2 : a.pumps.take (qs.map V.ref).length = a.pumps := by
        rw [List.length_map, hp.qlen]
        exact List.take_length
      rw [e2] at hD1
      walk_at "rd"
      refine rd_sum (ns := ((a.pumps.filter fun x => x.at_ == i).map fun x => ((x.gives v : Nat) : Int))) ?_ ?_
      · rw [List.map_map]
        exact SqL.of hD1
      · have e3 : ((a.pumps.filter fun x => x.at_ == i).map fun x => ((x.gives v : Nat) : Int)).sum = ((a.given i v : Nat) : Int) := by
          unfold Kv335.Abs.given
          rw [← sum_cast, List.map_map]
          rfl
        rw [e3]
        exact k H' s1
theorem ok_joint_pressures (T : Txt K mg A) : FnOk P w K mg base CX0 3 A.f_joint_pressures A.d_joint_pressures ["pipe", "speed"] (sp_joint_pressures K A) := by
  have G_given_at_joint : FnOk P w K mg base CX0 2 A.f_given_at_joint A.d_given_at_joint ["pipe", "joint", "speed"] (sp_given_at_joint K A) := ok_given_at_joint T
  have G_lifted : FnOk P w K mg base CX0 1 A.f_lifted A.d_lifted ["pipe", "piece"] (sp_lifted K A) := ok_lifted T
  have G_lost : FnOk P w K mg base CX0 1 A.f_lost A.d_lost ["pipe", "piece", "speed"] (sp_lost K A) := ok_lost T
  refine T.F_joint_pressures.ok sc_joint_pressures (fun vs H Q E h => ?_) (fun cdv Ar outer s H vs Q E hr h => ?_)
  · obtain ⟨p, F, b, a, v, rfl, _⟩ := h
    rfl
  · obtain ⟨p, F, b, a, v, rfl, hp, hG, hv, k⟩ := h
    have hpA := hp
    obtain ⟨dx, l, c, ps, qs, hp, rfl⟩ := hp
    refine ⟨_, (pss_cons (ps_set (i := 2) sc_joint_pressures.nd rfl (Or.inl rfl) (pe_lst pa_nil))
      (pss_cons (ps_set (i := 3) sc_joint_pressures.nd rfl (Or.inl rfl) pe_int)
      (pss_cons (ps_for PassesOwn.never rfl (pi_enumK K rfl rfl T.nb_enumerate (pa_cons (pe_fldK K rfl (pv 0) rfl) pa_nil)) (pg_tupK K rfl (n := 2) rfl (pgs_cons (pg_name (i := 4) sc_joint_pressures.nd rfl (Or.inl rfl)) (pgs_cons (pg_name (i := 5) sc_joint_pressures.nd rfl (Or.inl rfl)) pgs_nil))) (pss_cons (ps_set (i := 3) sc_joint_pressures.nd rfl (Or.inl rfl) (pe_op op_add (pv 3) (pe_call G_given_at_joint (hr.mono (by decide)) rfl T.m_given_at_joint T.F_given_at_joint.kp T.b_given_at_joint .nil pass0 (pa_cons (pv 0) (pa_cons (pv 4) (pa_cons (pv 1) pa_nil))))))
      (pss_cons (ps_expr (pe_bmK K rfl PySem.F.plainAttrs_list PySem.F.slot_list_append PySem.F.type_list_append mt_append (pv 2) (pa_cons (pv 3) pa_nil)))
      (pss_one (ps_set (i := 3) sc_joint_pressures.nd rfl (Or.inl rfl) (pe_op op_sub (pe_op op_sub (pv 3) (pe_call G_lost (hr.mono (by decide)) rfl T.m_lost T.F_lost.kp T.b_lost .nil pass0 (pa_cons (pv 0) (pa_cons (pv 5) (pa_cons (pv 1) pa_nil))))) (pe_call G_lifted (hr.mono (by decide)) rfl T.m_lifted T.F_lifted.kp T.b_lifted .nil pass0 (pa_cons (pv 0) (pa_cons (pv 5) pa_nil)))))))))
      (pss_cons (ps_expr (pe_bmK K rfl PySem.F.plainAttrs_list PySem.F.slot_list_append PySem.F.type_list_append mt_append (pv 2) (pa_cons (pv 3) pa_nil)))
      (pss_one (ps_ret (pv 2))))))), ?_⟩
    walk_at "rd"
    refine rd_new (by simp) fun r hr0 => ?_
    walk_at "rd"
    have s0 : Same H (upd H r (.lst [])) := Same.upd hr0
    have hp0 := hp.mono s0
    walk_at "rd"
    refine ⟨_, _, rfl, SqL.of hp0.lp, for_enum (K := K) (a := l) (xs := ps.map V.ref) (fun i σ H' => ∃ (L : List Int) (Pr : Int) (v4 v5 : Option V), σ = [some (.ref p), some (.int v), some (.ref r), some (.int Pr), v4, v5] ∧ Same H H' ∧ H' r = some (.lst (L.map V.int)) ∧ L.length = i ∧
      L ++ a.along v i (a.pieces.drop i) Pr = a.pressures v) ⟨[], 0, none, none, rfl, s0, upd_same, rfl, rfl⟩ (fun i σ H' _ ⟨_, _, _, _, _, s1, _⟩ => SqL.of (s1 _ _ hp.lp)) ?_ ?_⟩
    · rintro i y σ H' Tp hy ⟨L, Pr, v4, v5, rfl, s1, hr1, hL, e1⟩ hT
      obtain ⟨q, hq, rfl⟩ := get_ref hy
      obtain ⟨x, hx, hxa⟩ := hp.piece hq
      have hi : i < 8 := by
        have := (List.getElem?_eq_some_iff.mp hq).1
        have := hp.plen
        have := hG.np
        omega
      have s2 : Same H' (upd H' Tp (.tup [.int (i : Nat), .ref q])) := Same.upd hT
      refine rd_pair upd_same ?_
      walk_at "rd"
      refine ⟨p, _, b, a, i, v, rfl, hpA.mono (s1.trans s2), hG.nq, hv, fun H3 s3 => ?_⟩
      walk_at "rd"
      have s13 : Same H H3 := (s1.trans s2).trans s3
      have hr3 := s3 _ _ (s2 _ _ hr1)
      refine rd_tyL hr3 ?_
      walk_at "rd"
      refine rd_append hr3 ?_ ?_
      · rw [List.length_map, hL]
        exact small1000 (by omega)
      have s4 : Same H (upd H3 r (.lst (L.map V.int ++ [V.int (Pr + ((a.given i v : Nat) : Int))]))) := fun b o e => by
        rw [upd_ne (ne_of_none e hr0)]
        exact s13 b o e
      have hp4 := hpA.mono s4
      have hx4 := hxa.mono s4
      walk_at "rd"
      refine ⟨p, q, _, b, a, x, v, rfl, hp4, hx4, hG.pc x (List.mem_of_getElem? hx), hG.mx, hG.gr.2, hv, ?_⟩
      walk_at "rd"
      refine ⟨p, q, _, b, a, x, rfl, hp4, hx4, hG.pc x (List.mem_of_getElem? hx), hG.mx, ?_⟩
      walk_at "rd"
      refine ⟨L ++ [Pr + ((a.given i v : Nat) : Int)], _, _, _, rfl, s4, ?_, ?_, ?_⟩
      · rw [upd_same, List.map_append]
        rfl
      · rw [List.length_append, hL]
        rfl
      · rw [← e1, drop_at hx, List.append_assoc]
        rfl
    · rintro σ H' ⟨L, Pr, v4, v5, rfl, s1, hr1, hL, e1⟩
      rw [List.length_map, hp.plen] at hL e1
      rw [List.drop_length] at e1
      walk_at "rd"
      refine rd_tyL hr1 ?_
      walk_at "rd"
      refine rd_append hr1 ?_ ?_
      · rw [List.length_map, hL]
        have := hG.np
        exact small1000 (by omega)
      walk_at "rd"
      refine k _ r ?_ hr0 ?_
      · intro b o e
        rw [upd_ne (ne_of_none e hr0)]
        exact s1 b o e
      · rw [upd_same, ← e1, List.map_append]
        rfl
end
end Sp

set_option Elab.async false
set_option linter.all false
set_option maxRecDepth 100000
set_option maxHeartbeats 2000000
namespace Sp
open PySem PySem.Spec PyProof.Rows L2
local macro_rules | `(tactic| walk_at "s1") => `(tactic| first
  | with_reducible refine rd_seq ?_
  | with_reducible refine rd_asg ?_
  | with_reducible refine rd_gname ?_
  | ((with_reducible apply rd_var); exact rfl)
  | with_reducible refine rd_c ?_
  | with_reducible refine rd_op ?_
  | with_reducible refine rd_i0 ?_
  | with_reducible refine rd_eqI ?_
  | ((with_reducible refine rd_mul ?_ ?_); first | exact mul_rN (by omega) (by omega) | exact mul_lN (by omega) (by omega))
  | ((with_reducible refine rd_fdiv ?_ ?_ ?_); (focus (first | decide | omega)); (focus (first | decide | omega)))
  | with_reducible refine rd_fld ?_
  | with_reducible refine rd_ret ?_
  | with_reducible refine rd_drop ?_
  | with_reducible refine rd_ifS ?_
  | with_reducible refine rd_if ?_
  | with_reducible refine rd_test ?_
  | with_reducible refine rd_tB ?_
  | with_reducible refine rd_and ?_
  | with_reducible refine rd_or ?_
  | with_reducible refine rd_not ?_
  | with_reducible refine rd_chain ?_
  | with_reducible refine rd_andV ?_
  | with_reducible refine rd_orV ?_
  | with_reducible refine rd_notV ?_
  | with_reducible refine rd_isblX ?_
  | with_reducible refine rd_nil ?_
  | with_reducible refine rd_cons ?_
  | with_reducible refine rd_call ?_
  | with_reducible refine rd_callLen ?_
  | with_reducible refine rd_callB ?_
  | with_reducible refine rd_lst ?_
  | with_reducible refine rd_next ?_
  | with_reducible refine rd_sfld ?_
  | with_reducible refine rd_un ?_
  | with_reducible refine rd_u ?_
  | with_reducible refine rd_make ?_
  | with_reducible refine rd_for ?_
  | with_reducible refine rd_ilist ?_
  | with_reducible refine rd_ienum ?_
  | with_reducible refine rd_irng2 ?_
  | with_reducible refine rd_irng1 ?_
  | with_reducible refine rd_yes ?_
  | with_reducible refine rd_irng3 ?_
  | ((with_reducible refine rd_mod ?_ ?_); (focus decide))
  | with_reducible refine rd_lc ?_
  | with_reducible refine rd_sl ?_
  | with_reducible refine rd_nopart ?_
  | with_reducible refine rd_part ?_
  | with_reducible refine rd_isint ?_
  | with_reducible refine rd_neI ?_
  | with_reducible refine rd_bm ?_
  | with_reducible refine rd_bm0 ?_
  | with_reducible refine iteT ?_
  | ((with_reducible refine rd_iteDT ?_ ?_); (focus decide))
  | ((with_reducible refine rd_iteDF ?_ ?_); (focus decide))
  | ((with_reducible apply rd_ixL); (focus exact SqL.of (by assumption)); (focus exact rfl))
  | with_reducible refine iteF ?_
  | ((with_reducible apply rd_piece_long); assumption; assumption)
  | ((with_reducible apply rd_piece_rise); assumption; assumption)
  | ((with_reducible apply rd_piece_wide); assumption; assumption)
  | ((with_reducible apply rd_pump_at); assumption; assumption)
  | ((with_reducible apply rd_pump_adds); assumption; assumption)
  | ((with_reducible apply rd_pump_runs); assumption; assumption)
  | ((with_reducible apply rd_pipe_begun); assumption; assumption)
  | ((with_reducible apply rd_pipe_grain); assumption; assumption)
  | ((with_reducible apply rd_pipe_mix); assumption; assumption)
  | ((with_reducible apply rd_pipe_low); assumption; assumption)
  | ((with_reducible apply rd_pipe_high); assumption; assumption)
  | ((with_reducible apply rd_pipe_pieces); assumption; assumption)
  | ((with_reducible apply rd_pipe_pumps); assumption; assumption))
local macro_rules | `(tactic| walk_at "rd") => `(tactic| repeat walk_at "s1")
/-- an answer: a new list, all that was there stays -/
def Ret (H : Hp) (Q : VK) (ans : List Int) : Prop := ∀ H' r, Same H H' → H r = none → H' r = some (.lst (ans.map V.int)) → Q (.ref r) H'
def rowOf (a : Kv335.Abs) (c : Kv335.Call) : List Int := Kv335Neutral.row (a.does c).2
def blk (a : Kv335.Abs) (v i : Nat) : Bool := decide (v ≤ a.settles (a.piece i))
def blockL (a : Kv335.Abs) (v : Nat) : List Nat := (List.range a.pieces.length).filter (blk a v)
def whyL (a : Kv335.Abs) (v : Nat) : List Int := [(((a.why v).1 : Nat) : Int), (((a.why v).2 : Nat) : Int)]
def sp_settling_pieces (K : PySem.W.Frag) (A : Ad) : Sp := fun vs H Q _ => ∃ (p : Addr) (F : List Addr) (b : Bool) (a : Kv335.Abs) (v : Nat), vs = [.ref p, .int v] ∧ PipeAt A H p F b a ∧ Good a ∧ Ret H Q (Kv335.ints (blockL a v))
def sp_hindrance (K : PySem.W.Frag) (A : Ad) : Sp := fun vs H Q _ => ∃ (p : Addr) (F : List Addr) (b : Bool) (a : Kv335.Abs) (v : Nat), vs = [.ref p, .int v] ∧ PipeAt A H p F b a ∧ Good a ∧ v ≤ 99 ∧ Ret H Q (whyL a v)
def sp_goes_at (K : PySem.W.Frag) (A : Ad) : Sp := fun vs H Q _ => ∃ (p : Addr) (F : List Addr) (b : Bool) (a : Kv335.Abs) (v : Nat), vs = [.ref p, .int v] ∧ PipeAt A H p F b a ∧ Good a ∧ v ≤ 99 ∧ ∀ H', Same H H' → Q (.bl (a.goes v)) H'
def sp_litres (K : PySem.W.Frag) (A : Ad) : Sp := fun vs H Q _ => ∃ (p : Addr) (F : List Addr) (b : Bool) (a : Kv335.Abs) (v : Nat), vs = [.ref p, .int v] ∧ PipeAt A H p F b a ∧ Good a ∧ v ≤ 99 ∧ a.pieces ≠ [] ∧ ∀ H', Same H H' → Q (.int (a.flow v : Nat)) H'
theorem piece_at {a : Kv335.Abs} {i : Nat} {x : Kv335.Piece} (h : a.pieces[i]? = some x) : a.piece i = x := by
  unfold Kv335.Abs.piece
  rw [List.getD_eq_getElem?_getD, h]
  rfl
/-- the new list is handed back -/
theorem Ret.new {H H1 : Hp} {Q : VK} {ans ans' : List Int} (k : Ret H Q ans) (s : Same H H1) (e : ans = ans') : ∀ r, H1 r = none → Q (.ref r) (upd H1 r (.lst (ans'.map V.int))) := fun r hr =>
  k _ r (s.trans (Same.upd hr)) (s.free hr) (by rw [upd_same, e])
theorem Ret.say {H H1 : Hp} {Q : VK} {ans : List Int} {z : Int} (k : Ret H Q ans) (s : Same H H1) (e : ans = [z]) : ∀ r, H1 r = none → Q (.ref r) (upd H1 r (.lst [.int z])) := k.new (ans' := [z]) s e
theorem Ret.say2 {H H1 : Hp} {Q : VK} {ans : List Int} {z y : Int} (k : Ret H Q ans) (s : Same H H1) (e : ans = [z, y]) : ∀ r, H1 r = none → Q (.ref r) (upd H1 r (.lst [.int z, .int y])) := k.new (ans' := [z, y]) s e
theorem range_step {P : Nat → Bool} {i : Nat} : (List.range (i + 1)).filter P = (List.range i).filter P ++ (if P i = true then [i] else []) := by
  rw [List.range_succ, List.filter_append]
  congr 1
  cases h : P i <;> simp [h]
theorem ints_app {l m : List Nat} : Kv335.ints (l ++ m) = Kv335.ints l ++ Kv335.ints m := List.map_append
theorem find_range {P : Nat → Bool} {n i : Nat} (hi : i < n) (h : P i = true) (hn : ∀ j, j < i → P j = false) : (List.range n).find? P = some i := by
  rw [List.find?_eq_some_iff_getElem]
  refine ⟨h, i, by simpa using hi, by simp, fun j hj => ?_⟩
  have := hn j hj
  simp [this]
theorem find_no {P : Nat → Bool} {n : Nat} (hn : ∀ j, j < n → P j = false) : (List.range n).find? P = none := by
  rw [List.find?_eq_none]
  intro j hj
  rw [hn j (List.mem_range.mp hj)]
  decide
theorem find_some {P : Nat → Bool} {n i : Nat} (h : (List.range n).find? P = some i) : i < n ∧ P i = true := ⟨List.mem_range.mp (List.mem_of_find?_eq_some h), List.find?_some h⟩
theorem find_none {P : Nat → Bool} {n : Nat} (h : (List.range n).find? P = none) : ∀ i, i < n → P i = false := fun i hi => by
  have := List.find?_eq_none.mp h i (List.mem_range.mpr hi)
  simpa using this
theorem getD_at {l : List Int} {i : Nat} (h : i < l.length) : l[i]? = some (l.getD i 0) := by
  rw [List.getD_eq_getElem?_getD, List.getElem?_eq_getElem h]
  rfl
section
variable {a : Kv335.Abs} {v : Nat}
theorem last_at : (a.pressures v)[a.pieces.length]? = some ((a.pressures v).getLastD 0) := by
  have hlen := pressures_len a v
  have e : (a.pressures v).length - 1 = a.pieces.length := by omega
  rw [← e, ← List.getLast?_eq_getElem?]
  cases q : a.pressures v with
  | nil =>
    rw [q] at hlen
    simp at hlen
  | cons z r => rfl
theorem why_cases (a : Kv335.Abs) (v : Nat) : (∃ i, i < a.pieces.length ∧ blk a v i = true ∧ a.why v = (1, i)) ∨ (∃ i, i < a.pieces.length ∧ (a.pressures v).getD i 0 < a.low ∧ a.why v = (2, i)) ∨ (∃ i, i < a.pieces.length ∧ a.high < (a.pressures v).getD i 0 ∧ a.why v = (3, i)) ∨
    ((a.pressures v).getLastD 0 < 0 ∧ a.why v = (4, a.pieces.length)) ∨ ((∀ i, i < a.pieces.length → blk a v i = false) ∧ (∀ i, i < a.pieces.length → ¬ (a.pressures v).getD i 0 < a.low) ∧ (∀ i, i < a.pieces.length → ¬ a.high < (a.pressures v).getD i 0) ∧ ¬ (a.pressures v).getLastD 0 < 0 ∧ a.why v = (0, 0)) := by
  cases h1 : (List.range a.pieces.length).find? fun i => decide (v ≤ a.settles (a.piece i)) with
  | some i =>
    obtain ⟨e1, e2⟩ := find_some h1
    exact .inl ⟨i, e1, e2, by simp only [Kv335.Abs.why, h1]⟩
  | none =>
    cases h2 : (List.range a.pieces.length).find? fun i => decide ((a.pressures v).getD i 0 < a.low) with
    | some i =>
      obtain ⟨e1, e2⟩ := find_some h2
      exact .inr (.inl ⟨i, e1, of_decide_eq_true e2, by simp only [Kv335.Abs.why, h1, h2]⟩)
    | none =>
      cases h3 : (List.range a.pieces.length).find? fun i => decide (a.high < (a.pressures v).getD i 0) with
      | some i =>
        obtain ⟨e1, e2⟩ := find_some h3
        exact .inr (.inr (.inl ⟨i, e1, of_decide_eq_true e2, by simp only [Kv335.Abs.why, h1, h2, h3]⟩))
      | none =>
        by_cases h4 : (a.pressures v).getLastD 0 < 0
        · exact .inr (.inr (.inr (.inl ⟨h4, by simp only [Kv335.Abs.why, h1, h2, h3]; rw [if_pos h4]⟩)))
        · exact .inr (.inr (.inr (.inr ⟨find_none h1, fun i hi => of_decide_eq_false (find_none h2 i hi), fun i hi => of_decide_eq_false (find_none h3 i hi), h4, by simp only [Kv335.Abs.why, h1, h2, h3]; rw [if_neg h4]⟩)))
theorem drop_at_of {l : List Int} {i : Nat} (h : i + 1 < l.length) : l.getD i 0 ∈ l.dropLast := by
  have e : l.dropLast[i]? = some (l.getD i 0) := by
    rw [List.dropLast_eq_take, List.getElem?_take, if_pos (by omega)]
    exact getD_at (by omega)
  exact List.mem_of_getElem? e
theorem mem_drop {l : List Int} {z : Int} (h : z ∈ l.dropLast) : ∃ i, i + 1 < l.length ∧ z = l.getD i 0 := by
  obtain ⟨i, e⟩ := List.mem_iff_getElem?.mp h
  rw [List.dropLast_eq_take, List.getElem?_take] at e
  by_cases hi : i < l.length - 1
  · rw [if_pos hi, getD_at (by omega)] at e
    exact ⟨i, by omega, (Option.some.inj e).symm⟩
  · rw [if_neg hi] at e
    cases e
theorem goes_why (a : Kv335.Abs) (v : Nat) : decide ((((a.why v).1 : Nat) : Int) = 0) = a.goes v := by
  have hlen := pressures_len a v
  rcases why_cases a v with ⟨i, hi, h, e⟩ | ⟨i, hi, h, e⟩ | ⟨i, hi, h, e⟩ | ⟨h, e⟩ | ⟨h1, h2, h3, h4, e⟩
  · have q : a.pieces.all (fun x => decide (a.settles x < v)) = false := by
      rw [List.all_eq_false]
      have hx := List.getElem?_eq_getElem hi
      have h := of_decide_eq_true h
      rw [piece_at hx] at h
      exact ⟨_, List.mem_of_getElem? hx, by simp; omega⟩
    rw [e]
    unfold Kv335.Abs.goes
    rw [q]
    rfl
  · have q : (a.pressures v).dropLast.all (fun p => decide (a.low ≤ p) && decide (p ≤ a.high)) = false := by
      rw [List.all_eq_false]
      exact ⟨_, drop_at_of (i := i) (by omega), by simp only [Bool.and_eq_true, decide_eq_true_eq]; omega⟩
    rw [e]
    unfold Kv335.Abs.goes
    rw [q]
    simp
  · have q : (a.pressures v).dropLast.all (fun p => decide (a.low ≤ p) && decide (p ≤ a.high)) = false := by
      rw [List.all_eq_false]
      exact ⟨_, drop_at_of (i := i) (by omega), by simp only [Bool.and_eq_true, decide_eq_true_eq]; omega⟩
    rw [e]
    unfold Kv335.Abs.goes
    rw [q]
    simp
  · rw [e]
    unfold Kv335.Abs.goes
    rw [decide_eq_false (show ¬ 0 ≤ (a.pressures v).getLastD 0 by omega)]
    simp
  · have q1 : a.pieces.all (fun x => decide (a.settles x < v)) = true := by
      rw [List.all_eq_true]
      intro x hx
      obtain ⟨i, hi⟩ := List.mem_iff_getElem?.mp hx
      have := of_decide_eq_false (h1 i (List.getElem?_eq_some_iff.mp hi).1)
      rw [piece_at hi] at this
      simp
      omega
    have q2 : (a.pressures v).dropLast.all (fun p => decide (a.low ≤ p) && decide (p ≤ a.high)) = true := by
      rw [List.all_eq_true]
      intro z hz
      obtain ⟨i, hi, rfl⟩ := mem_drop hz
      have := h2 i (by omega)
      have := h3 i (by omega)
      simp only [Bool.and_eq_true, decide_eq_true_eq]
      omega
    rw [e]
    unfold Kv335.Abs.goes
    rw [q1, q2, decide_eq_true (show 0 ≤ (a.pressures v).getLastD 0 by omega)]
    rfl
end
theorem min_fold {m : Nat} : ∀ (l : List Nat) (b : Nat), (m ∈ l ∨ m = b) → (∀ y, y ∈ l → m ≤ y) → m ≤ b → l.foldl min b = m
  | [], b, h, _, _ => by
    rcases h with h | h
    · cases h
    · exact h.symm
  | y :: l, b, h, hy, hb => by
    have h1 := hy y (by simp)
    refine min_fold l (min b y) ?_ (fun z hz => hy z (by simp [hz])) (by omega)
    rcases h with h | h
    · rcases List.mem_cons.mp h with h | h
      · exact .inr (by omega)
      · exact .inl h
    · exact .inr (by omega)
section
variable {P : Program} {w : World} {K : PySem.W.Frag} {mg : Str → Option Value} {base : Heap} {A : Ad}
theorem ok_settling_pieces (T : Txt K mg A) : FnOk P w K mg base CX0 2 A.f_settling_pieces A.d_settling_pieces ["pipe", "speed"] (sp_settling_pieces K A) := by
  have G_settling_speed : FnOk P w K mg base CX0 1 A.f_settling_speed A.d_settling_speed ["pipe", "piece"] (sp_settling_speed K A) := ok_settling_speed T
  refine T.F_settling_pieces.ok sc_settling_pieces (fun vs H Q E h => ?_) (fun cdv Ar outer s H vs Q E hr h => ?_)
  · obtain ⟨p, F, b, a, v, rfl, _⟩ := h
    rfl
  · obtain ⟨p, F, b, a, v, rfl, hp, hG, k⟩ := h
    have hpA := hp
    obtain ⟨dx, l, c, ps, qs, hp, rfl⟩ := hp
    refine ⟨_, (pss_one (ps_ret (pe_lc rfl sc_settling_pieces.nd (pi_enumK K rfl rfl T.nb_enumerate (pa_cons (pe_fldK K rfl (pv 0) rfl) pa_nil)) (blkOk_by (N := ["pipe", "speed", "number", "piece"]) (sc := defScope s_settling_pieces) (own := [("number", 2), ("piece", 3)]) (by decide +kernel)) (fun _ _ _ _ _ => (pg_tupK K rfl (n := 2) rfl (pgs_cons (pg_name (i := 2) sc_settling_pieces.nd rfl (Or.inl rfl)) (pgs_cons (pg_name (i := 3) sc_settling_pieces.nd rfl (Or.inl rfl)) pgs_nil)))) (fun _ _ _ _ _ => (pts_one (pt_cmpR op_le (pv 1) (pe_call G_settling_speed (hr.mono (by decide)) rfl T.m_settling_speed T.F_settling_speed.kp T.b_settling_speed .nil pass0 (pa_cons (pv 0) (pa_cons (pv 3) pa_nil))) (nomark _)))) (fun _ _ _ _ _ => (pv 2))))), ?_⟩
    walk_at "rd"
    refine ⟨_, _, rfl, SqL.of hp.lp, fun D hD => ?_⟩
    have s0 : Same H (upd H D (.lst [])) := Same.upd hD
    refine lc_enum (K := K) (a := l) (xs := ps.map V.ref) (fun j H' => Same H H' ∧ H' D = some (.lst ((Kv335.ints ((List.range j).filter (blk a v))).map V.int)))
      ⟨s0, upd_same⟩ (fun j H' _ h => SqL.of (h.1 _ _ hp.lp)) ?_ ?_
    · rintro j y H' Tp hy ⟨s1, hD1⟩ hT
      obtain ⟨q, hq, rfl⟩ := get_ref hy
      obtain ⟨x, hx, hxa⟩ := hp.piece hq
      have s2 : Same H' (upd H' Tp (.tup [.int (j : Nat), .ref q])) := Same.upd hT
      have hj8 : j < 8 := by
        have := (List.getElem?_eq_some_iff.mp hq).1
        have := hp.plen
        have := hG.np
        omega
      refine rd_pair upd_same ⟨rfl, ?_⟩
      walk_at "rd"
      refine ⟨p, q, _, b, a, x, rfl, hpA.mono (s1.trans s2), hxa.mono (s1.trans s2), hG.gr.2, ?_⟩
      have e1 := range_step (P := blk a v) (i := j)
      have eb : blk a v j = decide (v ≤ a.settles x) := by
        unfold blk
        rw [piece_at hx]
      walk_at "rd"
      refine rd_ite (fun h => ?_) (fun h => ?_)
      · rw [eb, if_pos (decide_eq_true (by omega))] at e1
        walk_at "rd"
        refine ⟨_, s2 _ _ hD1, ?_, ?_, ?_⟩
        · rw [List.length_map]
          refine small1000 ?_
          show ((List.filter _ _).map _).length ≤ _
          rw [List.length_map]
          refine Nat.le_trans (List.length_filter_le _ _) ?_
          rw [List.length_range]
          omega
        · intro b' o e
          rw [upd_ne (ne_of_none e hD)]
          exact (s1.trans s2) b' o e
        · rw [upd_same, e1, ints_app, List.map_append]
          rfl
      · rw [eb, if_neg (by rw [decide_eq_false (by omega)]; decide), List.append_nil] at e1
        exact ⟨s1.trans s2, by rw [e1]; exact s2 _ _ hD1⟩
    · rintro H' ⟨s1, hD1⟩
      rw [List.length_map, hp.plen] at hD1
      exact k H' D s1 hD hD1
theorem ok_hindrance (T : Txt K mg A) : FnOk P w K mg base CX0 4 A.f_hindrance A.d_hindrance ["pipe", "speed"] (sp_hindrance K A) := by
  have G_settling_pieces : FnOk P w K mg base CX0 2 A.f_settling_pieces A.d_settling_pieces ["pipe", "speed"] (sp_settling_pieces K A) := ok_settling_pieces T
  have G_joint_pressures : FnOk P w K mg base CX0 3 A.f_joint_pressures A.d_joint_pressures ["pipe", "speed"] (sp_joint_pressures K A) := ok_joint_pressures T
  refine T.F_hindrance.ok sc_hindrance (fun vs H Q E h => ?_) (fun cdv Ar outer s H vs Q E hr h => ?_)
  · obtain ⟨p, F, b, a, v, rfl, _⟩ := h
    rfl
  · obtain ⟨p, F, b, a, v, rfl, hp, hG, hv, k⟩ := h
    have hpA := hp
    obtain ⟨dx, l, c, ps, qs, hp, rfl⟩ := hp
    have hnp := hG.np
    refine ⟨_, (pss_cons (ps_set (i := 2) sc_hindrance.nd rfl (Or.inl rfl) (pe_call G_settling_pieces (hr.mono (by decide)) rfl T.m_settling_pieces T.F_settling_pieces.kp T.b_settling_pieces .nil pass0 (pa_cons (pv 0) (pa_cons (pv 1) pa_nil))))
      (pss_cons (ps_if (pt_cmpR op_gt (pe_callB (call_lenK K rfl) (by rfl) T.nb_len PySem.boot_len (pa_cons (pv 2) pa_nil)) pe_int (nomark _)) (pss_one (ps_ret (pe_lst (pa_cons (pe_glob (v := .int (1)) rfl T.g_SETTLES.choose_spec.1 T.g_SETTLES.choose_spec.2) (pa_cons (pe_ix (ix_listK K rfl) (pv 2) pe_int (fun _ _ => rfl)) pa_nil))))) pss_nil)
      (pss_cons (ps_set (i := 3) sc_hindrance.nd rfl (Or.inl rfl) (pe_call G_joint_pressures (hr.mono (by decide)) rfl T.m_joint_pressures T.F_joint_pressures.kp T.b_joint_pressures .nil pass0 (pa_cons (pv 0) (pa_cons (pv 1) pa_nil))))
      (pss_cons (ps_set (i := 4) sc_hindrance.nd rfl (Or.inl rfl) (pe_callB (call_lenK K rfl) (by rfl) T.nb_len PySem.boot_len (pa_cons (pe_fldK K rfl (pv 0) rfl) pa_nil)))
      (pss_cons (ps_for PassesOwn.never rfl (pi_range1 rfl T.nb_range (pa_cons (pv 4) pa_nil)) (pg_name (i := 5) sc_hindrance.nd rfl (Or.inl rfl)) (pss_one (ps_if (pt_cmpR op_lt (pe_ix (ix_listK K rfl) (pv 3) (pv 5) (fun _ _ => rfl)) (pe_fldK K rfl (pv 0) rfl) (nomark _)) (pss_one (ps_ret (pe_lst (pa_cons (pe_glob (v := .int (2)) rfl T.g_TOO_LITTLE.choose_spec.1 T.g_TOO_LITTLE.choose_spec.2) (pa_cons (pv 5) pa_nil))))) pss_nil)))
      (pss_cons (ps_for PassesOwn.never rfl (pi_range1 rfl T.nb_range (pa_cons (pv 4) pa_nil)) (pg_name (i := 5) sc_hindrance.nd rfl (Or.inl rfl)) (pss_one (ps_if (pt_cmpR op_gt (pe_ix (ix_listK K rfl) (pv 3) (pv 5) (fun _ _ => rfl)) (pe_fldK K rfl (pv 0) rfl) (nomark _)) (pss_one (ps_ret (pe_lst (pa_cons (pe_glob (v := .int (3)) rfl T.g_TOO_MUCH.choose_spec.1 T.g_TOO_MUCH.choose_spec.2) (pa_cons (pv 5) pa_nil))))) pss_nil)))
      (pss_cons (ps_if (pt_cmpR op_lt (pe_ix (ix_listK K rfl) (pv 3) (pv 4) (fun _ _ => rfl)) pe_int (nomark _)) (pss_one (ps_ret (pe_lst (pa_cons (pe_glob (v := .int (4)) rfl T.g_END_BELOW_0.choose_spec.1 T.g_END_BELOW_0.choose_spec.2) (pa_cons (pv 4) pa_nil))))) pss_nil)
      (pss_one (ps_ret (pe_lst (pa_cons (pe_glob (v := .int (0)) rfl T.g_NOTHING.choose_spec.1 T.g_NOTHING.choose_spec.2) (pa_cons pe_int pa_nil)))))))))))), ?_⟩
    walk_at "rd"
    refine ⟨p, _, b, a, v, rfl, hpA, hG, fun H1 r1 s1 hr1 hr1' => ?_⟩
    walk_at "rd"
    refine rd_len (SqL.of hr1') ?_
    walk_at "rd"
    refine rd_ite (fun h => ?_) (fun h => ?_)
    · cases e : blockL a v with
      | nil =>
        rw [e] at h
        exact absurd h (by decide)
      | cons i0 rest =>
        rw [e] at hr1'
        have e1 : (List.range a.pieces.length).find? (blk a v) = some i0 := by
          rw [← List.head?_filter]
          show (blockL a v).head? = _
          rw [e]
          rfl
        have e2 : a.why v = (1, i0) := by
          have e1 : ((List.range a.pieces.length).find? fun i => decide (v ≤ a.settles (a.piece i))) = some i0 := e1
          simp only [Kv335.Abs.why, e1]
        walk_at "rd"
        refine rd_ixL (v := .int ((i0 : Nat) : Int)) (SqL.of hr1') (at_of (j := 0) rfl rfl) ?_
        walk_at "rd"
        refine rd_new (by simp) (k.say2 s1 ?_)
        unfold whyL
        rw [e2]
        rfl
    have e1 : ((List.range a.pieces.length).find? fun i => decide (v ≤ a.settles (a.piece i))) = none := by
      show (List.range a.pieces.length).find? (blk a v) = none
      rw [← List.head?_filter]
      show (blockL a v).head? = none
      cases e : blockL a v with
      | nil => rfl
      | cons i0 rest =>
        rw [e] at h
        exact absurd (by simp [Kv335.ints]) h
    walk_at "rd"
    refine ⟨p, _, b, a, v, rfl, hpA.mono s1, hG, hv, fun H2 r2 s2 hr2 hr2' => ?_⟩
    have s12 := s1.trans s2
    have hp2 := hp.mono s12
    have hlen := pressures_len a v
    walk_at "rd"
    refine rd_len (SqL.of hp2.lp) ?_
    rw [List.length_map, hp.plen]
    walk_at "rd"
    refine ⟨_, rfl, by omega, by omega, for_range (lo := 0) (n := a.pieces.length) (fun i σ H' => ∃ v5 : Option V, σ = [some (.ref p), some (.int v), some (.ref r1), some (.ref r2), some (.int (a.pieces.length : Nat)), v5] ∧ H' = H2 ∧ ∀ j, j < i → decide ((a.pressures v).getD j 0 < a.low) = false)
      ⟨none, rfl, rfl, fun j hj => absurd hj (by omega)⟩ ?_ ?_⟩
    · rintro i σ H' hi ⟨v5, rfl, rfl, hno⟩
      walk_at "rd"
      refine rd_ixL (v := .int ((a.pressures v).getD i 0)) (SqL.of hr2') (at_of (j := i) (by omega) (by rw [List.getElem?_map, getD_at (by omega)]; rfl)) ?_
      walk_at "rd"
      refine rd_ite (fun h2 => ?_) (fun h2 => ?_)
      · have e2 := find_range (P := fun i => decide ((a.pressures v).getD i 0 < a.low)) hi (decide_eq_true h2) hno
        walk_at "rd"
        refine rd_new (by simp) (k.say2 s12 ?_)
        have e3 : a.why v = (2, i) := by simp only [Kv335.Abs.why, e1, e2]
        unfold whyL
        rw [e3]
        simp
      · walk_at "rd"
        refine ⟨_, rfl, rfl, fun j hj => ?_⟩
        by_cases hj2 : j < i
        · exact hno j hj2
        · have : j = i := by omega
          subst this
          exact decide_eq_false h2
    · rintro σ H' ⟨v5, rfl, rfl, hno⟩
      have e2 := find_no (P := fun i => decide ((a.pressures v).getD i 0 < a.low)) hno
      walk_at "rd"
      refine ⟨_, rfl, by omega, by omega, for_range (lo := 0) (n := a.pieces.length) (fun i σ H3 => ∃ v5 : Option V, σ = [some (.ref p), some (.int v), some (.ref r1), some (.ref r2), some (.int (a.pieces.length : Nat)), v5] ∧ H3 = H' ∧ ∀ j, j < i → decide (a.high < (a.pressures v).getD j 0) = false)
        ⟨v5, rfl, rfl, fun j hj => absurd hj (by omega)⟩ ?_ ?_⟩
      · rintro i σ H3 hi ⟨v5, rfl, rfl, hno⟩
        walk_at "rd"
        refine rd_ixL (v := .int ((a.pressures v).getD i 0)) (SqL.of hr2') (at_of (j := i) (by omega) (by rw [List.getElem?_map, getD_at (by omega)]; rfl)) ?_
        walk_at "rd"
        refine rd_ite (fun h2 => ?_) (fun h2 => ?_)
        · have e3 := find_range (P := fun i => decide (a.high < (a.pressures v).getD i 0)) hi (decide_eq_true h2) hno
          walk_at "rd"
          refine rd_new (by simp) (k.say2 s12 ?_)
          have e4 : a.why v = (3, i) := by simp only [Kv335.Abs.why, e1, e2, e3]
          unfold whyL
          rw [e4]
          simp
        · walk_at "rd"
          refine ⟨_, rfl, rfl, fun j hj => ?_⟩
          by_cases hj2 : j < i
          · exact hno j hj2
          · have : j = i := by omega
            subst this
            exact decide_eq_false h2
      · rintro σ H3 ⟨v5, rfl, rfl, hno⟩
        have e3 := find_no (P := fun i => decide (a.high < (a.pressures v).getD i 0)) hno
        walk_at "rd"
        refine rd_ixL (v := .int ((a.pressures v).getLastD 0)) (SqL.of hr2') (at_of (j := a.pieces.length) rfl (by rw [List.getElem?_map, last_at]; rfl)) ?_
        walk_at "rd"
        refine rd_ite (fun h2 => ?_) (fun h2 => ?_)
        · have e4 : a.why v = (4, a.pieces.length) := by
            simp only [Kv335.Abs.why, e1, e2, e3]
            rw [if_pos h2]
          walk_at "rd"
          refine rd_new (by simp) (k.say2 s12 ?_)
          unfold whyL
          rw [e4]
          rfl
        · have e4 : a.why v = (0, 0) := by
            simp only [Kv335.Abs.why, e1, e2, e3]
            rw [if_neg h2]
          walk_at "rd"
          refine rd_new (by simp) (k.say2 s12 ?_)
          unfold whyL
          rw [e4]
          rfl
theorem ok_goes_at (T : Txt K mg A) : FnOk P w K mg base CX0 5 A.f_goes_at A.d_goes_at ["pipe", "speed"] (sp_goes_at K A) := by
  have G_hindrance : FnOk P w K mg base CX0 4 A.f_hindrance A.d_hindrance ["pipe", "speed"] (sp_hindrance K A) := ok_hindrance T
  refine T.F_goes_at.ok sc_goes_at (fun vs H Q E h => ?_) (fun cdv Ar outer s H vs Q E hr h => ?_)
  · obtain ⟨p, F, b, a, v, rfl, _⟩ := h
    rfl
  · obtain ⟨p, F, b, a, v, rfl, hp, hG, hv, k⟩ := h
    refine ⟨_, (pss_one (ps_ret (pe_cmpR op_eq (pe_ix (ix_listK K rfl) (pe_call G_hindrance (hr.mono (by decide)) rfl T.m_hindrance T.F_hindrance.kp T.b_hindrance .nil pass0 (pa_cons (pv 0) (pa_cons (pv 1) pa_nil))) pe_int (fun _ _ => rfl)) (pe_glob (v := .int (0)) rfl T.g_NOTHING.choose_spec.1 T.g_NOTHING.choose_spec.2) (nomark _)))), ?_⟩
    walk_at "rd"
    refine ⟨p, _, b, a, v, rfl, hp, hG, hv, fun H1 r1 s1 hr1 hr1' => ?_⟩
    walk_at "rd"
    have k := k H1 s1
    rw [← goes_why] at k
    exact k
theorem ok_litres (T : Txt K mg A) : FnOk P w K mg base CX0 1 A.f_litres A.d_litres ["pipe", "speed"] (sp_litres K A) := by
  refine T.F_litres.ok sc_litres (fun vs H Q E h => ?_) (fun cdv Ar outer s H vs Q E hr h => ?_)
  · obtain ⟨p, F, b, a, v, rfl, _⟩ := h
    rfl
  · obtain ⟨p, F, b, a, v, rfl, hp, hG, hv, hne, k⟩ := h
    have hpA := hp
    obtain ⟨dx, l, c, ps, qs, hp, rfl⟩ := hp
    have hnp := hG.np
    refine ⟨_, (pss_cons (ps_set (i := 2) sc_litres.nd rfl (Or.inl rfl) (pe_callB (cr_minK K rfl rfl) (by rfl) T.nb_min (by decide +kernel) (pa_cons (pe_lc rfl sc_litres.nd (pi_listK K rfl (pe_fldK K rfl (pv 0) rfl)) (blkOk_by (N := ["pipe", "speed", "narrowest", "piece"]) (sc := defScope s_litres) (own := [("piece", 3)]) (by decide +kernel)) (fun _ _ _ _ _ => (pg_name (i := 3) sc_litres.nd rfl (Or.inl rfl))) (fun _ _ _ _ _ => pts_nil) (fun _ _ _ _ _ => (pe_fldK K rfl (pv 3) rfl))) pa_nil)))
      (pss_one (ps_ret (pe_op op_fdiv (pe_op op_mul (pe_op op_mul (pe_op op_mul (pv 2) (pv 2)) (pv 1)) pe_int) pe_int)))), ?_⟩
    walk_at "rd"
    refine ⟨_, rfl, ⟨_, SqL.of hp.lp⟩, fun D hD => ?_⟩
    have s0 : Same H (upd H D (.lst [])) := Same.upd hD
    refine lc_list (K := K) (a := l) (xs := ps.map V.ref) (fun j H' => Same H H' ∧ H' D = some (.lst ((a.pieces.take j).map fun x => V.int ((x.wide : Nat) : Int))))
      ⟨s0, upd_same⟩ (fun j H' _ h => SqL.of (h.1 _ _ hp.lp)) ?_ ?_
    · rintro j y H' hy ⟨s1, hD1⟩
      obtain ⟨q, hq, rfl⟩ := get_ref hy
      obtain ⟨x, hx, hxa⟩ := hp.piece hq
      have hxa := hxa.mono s1
      refine rd_gname ⟨rfl, ?_⟩
      walk_at "rd"
      refine ⟨_, hD1, ?_, ?_, ?_⟩
      · rw [List.length_map, List.length_take]
        exact small1000 (by omega)
      · intro b' o e
        rw [upd_ne (ne_of_none e hD)]
        exact s1 b' o e
      · rw [upd_same, take_snoc hx, List.map_append]
        rfl
    · rintro H' ⟨s1, hD1⟩
      rw [List.length_map, hp.plen, List.take_length] at hD1
      walk_at "rd"
      refine rd_min (ns := a.pieces.map fun x => ((x.wide : Nat) : Int)) ?_ ?_ fun m hm hall => ?_
      · rw [List.map_map]
        exact SqL.of hD1
      · rw [List.length_map]
        exact List.length_pos_iff.mpr hne
      · obtain ⟨x, hx, rfl⟩ := List.mem_map.mp hm
        have hw := (hG.pc x hx).wide
        have ef : (a.pieces.map Kv335.Piece.wide).foldl min 2000 = x.wide := by
          refine min_fold _ _ (.inl (List.mem_map.mpr ⟨x, hx, rfl⟩)) (fun y hy => ?_) (by omega)
          obtain ⟨z, hz, rfl⟩ := List.mem_map.mp hy
          have := hall _ (List.mem_map.mpr ⟨z, hz, rfl⟩)
          omega
        walk_at "rd"
        have e : ((x.wide : Nat) : Int) * ((x.wide : Nat) : Int) * (v : Int) * 3 / 40000 = ((a.flow v : Nat) : Int) := by
          unfold Kv335.Abs.flow
          rw [ef]
          simp only [Int.natCast_ediv, Int.natCast_mul]
          rfl
        show Q _ H'
        rw [e]
        exact k H' s1
end
end Sp

set_option Elab.async false
set_option linter.all false
set_option maxRecDepth 100000
set_option maxHeartbeats 2000000
namespace Sp
open PySem PySem.Spec PyProof.Rows L2
local macro_rules | `(tactic| walk_at "s1") => `(tactic| first
  | with_reducible refine rd_seq ?_
  | with_reducible refine rd_asg ?_
  | with_reducible refine rd_gname ?_
  | ((with_reducible apply rd_var); exact rfl)
  | with_reducible refine rd_c ?_
  | with_reducible refine rd_op ?_
  | with_reducible refine rd_i0 ?_
  | with_reducible refine rd_eqI ?_
  | ((with_reducible refine rd_mul ?_ ?_); first | exact mul_rN (by omega) (by omega) | exact mul_lN (by omega) (by omega))
  | ((with_reducible refine rd_fdiv ?_ ?_ ?_); (focus (first | decide | omega)); (focus (first | decide | omega)))
  | with_reducible refine rd_fld ?_
  | with_reducible refine rd_ret ?_
  | with_reducible refine rd_drop ?_
  | with_reducible refine rd_ifS ?_
  | with_reducible refine rd_if ?_
  | with_reducible refine rd_test ?_
  | with_reducible refine rd_tB ?_
  | with_reducible refine rd_and ?_
  | with_reducible refine rd_or ?_
  | with_reducible refine rd_not ?_
  | with_reducible refine rd_chain ?_
  | with_reducible refine rd_andV ?_
  | with_reducible refine rd_orV ?_
  | with_reducible refine rd_notV ?_
  | with_reducible refine rd_isblX ?_
  | with_reducible refine rd_nil ?_
  | with_reducible refine rd_cons ?_
  | with_reducible refine rd_call ?_
  | with_reducible refine rd_callLen ?_
  | with_reducible refine rd_callB ?_
  | with_reducible refine rd_lst ?_
  | with_reducible refine rd_next ?_
  | with_reducible refine rd_sfld ?_
  | with_reducible refine rd_un ?_
  | with_reducible refine rd_u ?_
  | with_reducible refine rd_make ?_
  | with_reducible refine rd_for ?_
  | with_reducible refine rd_ilist ?_
  | with_reducible refine rd_ienum ?_
  | with_reducible refine rd_irng2 ?_
  | with_reducible refine rd_irng1 ?_
  | with_reducible refine rd_yes ?_
  | with_reducible refine rd_irng3 ?_
  | ((with_reducible refine rd_mod ?_ ?_); (focus decide))
  | with_reducible refine rd_lc ?_
  | with_reducible refine rd_sl ?_
  | with_reducible refine rd_nopart ?_
  | with_reducible refine rd_part ?_
  | with_reducible refine rd_isint ?_
  | with_reducible refine rd_neI ?_
  | with_reducible refine rd_bm ?_
  | with_reducible refine rd_bm0 ?_
  | with_reducible refine iteT ?_
  | ((with_reducible refine rd_iteDT ?_ ?_); (focus decide))
  | ((with_reducible refine rd_iteDF ?_ ?_); (focus decide))
  | ((with_reducible apply rd_ixL); (focus exact SqL.of (by assumption)); (focus exact rfl))
  | with_reducible refine iteF ?_
  | ((with_reducible apply rd_piece_long); assumption; assumption)
  | ((with_reducible apply rd_piece_rise); assumption; assumption)
  | ((with_reducible apply rd_piece_wide); assumption; assumption)
  | ((with_reducible apply rd_pump_at); assumption; assumption)
  | ((with_reducible apply rd_pump_adds); assumption; assumption)
  | ((with_reducible apply rd_pump_runs); assumption; assumption)
  | ((with_reducible apply rd_pipe_begun); assumption; assumption)
  | ((with_reducible apply rd_pipe_grain); assumption; assumption)
  | ((with_reducible apply rd_pipe_mix); assumption; assumption)
  | ((with_reducible apply rd_pipe_low); assumption; assumption)
  | ((with_reducible apply rd_pipe_high); assumption; assumption)
  | ((with_reducible apply rd_pipe_pieces); assumption; assumption)
  | ((with_reducible apply rd_pipe_pumps); assumption; assumption))
local macro_rules | `(tactic| walk_at "rd") => `(tactic| repeat walk_at "s1")
def sp_is_speed (K : PySem.W.Frag) (A : Ad) : Sp := fun vs H Q _ => ∃ (v : Nat), vs = [.int v] ∧ Q (.bl (Kv335.okV v)) H
def sp_loses (K : PySem.W.Frag) (A : Ad) : Sp := fun vs H Q _ => ∃ (p : Addr) (F : List Addr) (b : Bool) (a : Kv335.Abs) (i v : Nat), vs = [.ref p, .int i, .int v] ∧ PipeAt A H p F b a ∧ Good a ∧ Ret H Q (rowOf a (.loses i v))
def sp_settles (K : PySem.W.Frag) (A : Ad) : Sp := fun vs H Q _ => ∃ (p : Addr) (F : List Addr) (b : Bool) (a : Kv335.Abs) (i : Nat), vs = [.ref p, .int i] ∧ PipeAt A H p F b a ∧ Good a ∧ Ret H Q (rowOf a (.settles i))
def sp_gives (K : PySem.W.Frag) (A : Ad) : Sp := fun vs H Q _ => ∃ (p : Addr) (F : List Addr) (b : Bool) (a : Kv335.Abs) (i v : Nat), vs = [.ref p, .int i, .int v] ∧ PipeAt A H p F b a ∧ Good a ∧ Ret H Q (rowOf a (.gives i v))
def sp_pressures (K : PySem.W.Frag) (A : Ad) : Sp := fun vs H Q _ => ∃ (p : Addr) (F : List Addr) (b : Bool) (a : Kv335.Abs) (v : Nat), vs = [.ref p, .int v] ∧ PipeAt A H p F b a ∧ Good a ∧ Ret H Q (rowOf a (.pressures v))
def sp_goes (K : PySem.W.Frag) (A : Ad) : Sp := fun vs H Q _ => ∃ (p : Addr) (F : List Addr) (b : Bool) (a : Kv335.Abs) (v : Nat), vs = [.ref p, .int v] ∧ PipeAt A H p F b a ∧ Good a ∧ Ret H Q (rowOf a (.goes v))
def sp_slowest (K : PySem.W.Frag) (A : Ad) : Sp := fun vs H Q _ => ∃ (p : Addr) (F : List Addr) (b : Bool) (a : Kv335.Abs), vs = [.ref p] ∧ PipeAt A H p F b a ∧ Good a ∧ Ret H Q (rowOf a .slowest)
theorem okV_le {v : Nat} (h : Kv335.okV v = true) : 1 ≤ v ∧ v ≤ 99 := by
  unfold Kv335.okV at h
  rw [Bool.and_eq_true] at h
  have h1 := of_decide_eq_true h.1
  have h2 : v < 100 := of_decide_eq_true h.2
  omega
theorem pump_at {a : Kv335.Abs} {i : Nat} {x : Kv335.Pump} (h : a.pumps[i]? = some x) : a.pump i = x := by
  unfold Kv335.Abs.pump
  rw [List.getD_eq_getElem?_getD, h]
  rfl
section
variable {P : Program} {w : World} {K : PySem.W.Frag} {mg : Str → Option Value} {base : Heap} {A : Ad}
theorem ok_is_speed (T : Txt K mg A) : FnOk P w K mg base CX0 1 A.f_is_speed A.d_is_speed ["speed"] (sp_is_speed K A) := by
  refine T.F_is_speed.ok sc_is_speed (fun vs H Q E h => ?_) (fun cdv Ar outer s H vs Q E hr h => ?_)
  · obtain ⟨v, rfl, _⟩ := h
    rfl
  · obtain ⟨v, rfl, k⟩ := h
    refine ⟨_, (pss_one (ps_ret (pe_chain op_le op_le (pe_glob (v := .int (1)) rfl T.g_LEAST_SPEED.choose_spec.1 T.g_LEAST_SPEED.choose_spec.2) (pv 0) (pe_glob (v := .int (99)) rfl T.g_MOST_SPEED.choose_spec.1 T.g_MOST_SPEED.choose_spec.2)))), ?_⟩
    walk_at "rd"
    refine rd_ite (fun h => ?_) (fun h => ?_)
    · walk_at "rd"
      show Q _ H
      have e : decide ((v : Int) ≤ 99) = Kv335.okV v := by
        unfold Kv335.okV
        have h1 : 1 ≤ v := by omega
        rw [decide_eq_true h1, Bool.true_and]
        exact decide_eq_decide.mpr (by unfold Kv335.FAST; omega)
      rw [e]
      exact k
    · walk_at "rd"
      show Q _ H
      have e : Kv335.okV v = false := by
        unfold Kv335.okV
        have h1 : ¬ 1 ≤ v := by omega
        rw [decide_eq_false h1, Bool.false_and]
      rw [e] at k
      exact k
theorem ok_loses (T : Txt K mg A) : FnOk P w K mg base CX0 2 A.f_loses A.d_loses ["pipe", "number", "speed"] (sp_loses K A) := by
  have G_is_speed : FnOk P w K mg base CX0 1 A.f_is_speed A.d_is_speed ["speed"] (sp_is_speed K A) := ok_is_speed T
  have G_lost : FnOk P w K mg base CX0 1 A.f_lost A.d_lost ["pipe", "piece", "speed"] (sp_lost K A) := ok_lost T
  have G_lifted : FnOk P w K mg base CX0 1 A.f_lifted A.d_lifted ["pipe", "piece"] (sp_lifted K A) := ok_lifted T
  refine T.F_loses.ok sc_loses (fun vs H Q E h => ?_) (fun cdv Ar outer s H vs Q E hr h => ?_)
  · obtain ⟨p, F, b, a, i, v, rfl, _⟩ := h
    rfl
  · obtain ⟨p, F, b, a, i, v, rfl, hp, hG, k⟩ := h
    have hpA := hp
    obtain ⟨dx, l, c, ps, qs, hp, rfl⟩ := hp
    have hlen : (ps.map V.ref).length = a.pieces.length := by rw [List.length_map, hp.plen]
    refine ⟨_, (pss_cons (ps_if (pt_cmpR op_ge (pv 1) (pe_callB (call_lenK K rfl) (by rfl) T.nb_len PySem.boot_len (pa_cons (pe_fldK K rfl (pv 0) rfl) pa_nil)) (nomark _)) (pss_one (ps_ret (pe_lst (pa_cons (pe_glob (v := .int (-2)) rfl T.g_NO_SUCH.choose_spec.1 T.g_NO_SUCH.choose_spec.2) pa_nil)))) pss_nil)
      (pss_cons (ps_if (pt_not (pt_val (pe_call G_is_speed (hr.mono (by decide)) rfl T.m_is_speed T.F_is_speed.kp T.b_is_speed .nil pass0 (pa_cons (pv 2) pa_nil)))) (pss_one (ps_ret (pe_lst (pa_cons (pe_glob (v := .int (-22)) rfl T.g_OUT_OF_RANGE.choose_spec.1 T.g_OUT_OF_RANGE.choose_spec.2) pa_nil)))) pss_nil)
      (pss_cons (ps_set (i := 3) sc_loses.nd rfl (Or.inl rfl) (pe_ix (ix_listK K rfl) (pe_fldK K rfl (pv 0) rfl) (pv 1) (fun _ _ => rfl)))
      (pss_one (ps_ret (pe_lst (pa_cons (pe_call G_lost (hr.mono (by decide)) rfl T.m_lost T.F_lost.kp T.b_lost .nil pass0 (pa_cons (pv 0) (pa_cons (pv 3) (pa_cons (pv 2) pa_nil)))) (pa_cons (pe_call G_lifted (hr.mono (by decide)) rfl T.m_lifted T.F_lifted.kp T.b_lifted .nil pass0 (pa_cons (pv 0) (pa_cons (pv 3) pa_nil))) pa_nil)))))))), ?_⟩
    walk_at "rd"
    refine rd_len (SqL.of hp.lp) ?_
    rw [hlen]
    walk_at "rd"
    refine rd_ite (fun h => ?_) (fun h => ?_)
    · walk_at "rd"
      refine rd_new (by simp) (k.say (Same.refl H) ?_)
      unfold rowOf
      simp only [Kv335.Abs.does]
      rw [if_pos (by omega)]
      rfl
    walk_at "rd"
    refine ⟨v, rfl, ?_⟩
    have hi : ¬ a.pieces.length ≤ i := by omega
    walk_at "rd"
    refine rd_iteB (fun h => ?_) (fun h => ?_)
    · rw [Bool.not_eq_true'] at h
      walk_at "rd"
      refine rd_new (by simp) (k.say (Same.refl H) ?_)
      unfold rowOf
      simp only [Kv335.Abs.does]
      rw [if_neg hi, if_pos h]
      rfl
    rw [Bool.not_eq_false'] at h
    obtain ⟨hv1, hv2⟩ := okV_le h
    have hi' : i < ps.length := by rw [hp.plen]; omega
    have hq := List.getElem?_eq_getElem hi'
    obtain ⟨x, hx, hxa⟩ := hp.piece hq
    walk_at "rd"
    refine rd_ixL (SqL.of hp.lp) (at_of (j := i) rfl (by rw [List.getElem?_map, hq]; rfl)) ?_
    walk_at "rd"
    refine ⟨p, _, _, b, a, x, v, rfl, hpA, hxa, hG.pc x (List.mem_of_getElem? hx), hG.mx, hG.gr.2, hv2, ?_⟩
    walk_at "rd"
    refine ⟨p, _, _, b, a, x, rfl, hpA, hxa, hG.pc x (List.mem_of_getElem? hx), hG.mx, ?_⟩
    walk_at "rd"
    refine rd_new (by simp) (k.say2 (Same.refl H) ?_)
    unfold rowOf
    simp only [Kv335.Abs.does]
    rw [if_neg hi, if_neg (by rw [h]; decide), piece_at hx]
    rfl
theorem ok_settles (T : Txt K mg A) : FnOk P w K mg base CX0 2 A.f_settles A.d_settles ["pipe", "number"] (sp_settles K A) := by
  have G_settling_speed : FnOk P w K mg base CX0 1 A.f_settling_speed A.d_settling_speed ["pipe", "piece"] (sp_settling_speed K A) := ok_settling_speed T
  refine T.F_settles.ok sc_settles (fun vs H Q E h => ?_) (fun cdv Ar outer s H vs Q E hr h => ?_)
  · obtain ⟨p, F, b, a, i, rfl, _⟩ := h
    rfl
  · obtain ⟨p, F, b, a, i, rfl, hp, hG, k⟩ := h
    have hpA := hp
    obtain ⟨dx, l, c, ps, qs, hp, rfl⟩ := hp
    have hlen : (ps.map V.ref).length = a.pieces.length := by rw [List.length_map, hp.plen]
    refine ⟨_, (pss_cons (ps_if (pt_cmpR op_ge (pv 1) (pe_callB (call_lenK K rfl) (by rfl) T.nb_len PySem.boot_len (pa_cons (pe_fldK K rfl (pv 0) rfl) pa_nil)) (nomark _)) (pss_one (ps_ret (pe_lst (pa_cons (pe_glob (v := .int (-2)) rfl T.g_NO_SUCH.choose_spec.1 T.g_NO_SUCH.choose_spec.2) pa_nil)))) pss_nil)
      (pss_one (ps_ret (pe_lst (pa_cons (pe_call G_settling_speed (hr.mono (by decide)) rfl T.m_settling_speed T.F_settling_speed.kp T.b_settling_speed .nil pass0 (pa_cons (pv 0) (pa_cons (pe_ix (ix_listK K rfl) (pe_fldK K rfl (pv 0) rfl) (pv 1) (fun _ _ => rfl)) pa_nil))) pa_nil))))), ?_⟩
    walk_at "rd"
    refine rd_len (SqL.of hp.lp) ?_
    rw [hlen]
    walk_at "rd"
    refine rd_ite (fun h => ?_) (fun h => ?_)
    · walk_at "rd"
      refine rd_new (by simp) (k.say (Same.refl H) ?_)
      unfold rowOf
      simp only [Kv335.Abs.does]
      rw [if_pos (by omega)]
      rfl
    have hi : ¬ a.pieces.length ≤ i := by omega
    have hi' : i < ps.length := by rw [hp.plen]; omega
    have hq := List.getElem?_eq_getElem hi'
    obtain ⟨x, hx, hxa⟩ := hp.piece hq
    walk_at "rd"
    refine rd_ixL (SqL.of hp.lp) (at_of (j := i) rfl (by rw [List.getElem?_map, hq]; rfl)) ?_
    walk_at "rd"
    refine ⟨p, _, _, b, a, x, rfl, hpA, hxa, hG.gr.2, ?_⟩
    walk_at "rd"
    refine rd_new (by simp) (k.say (Same.refl H) ?_)
    unfold rowOf
    simp only [Kv335.Abs.does]
    rw [if_neg hi, piece_at hx]
    rfl
theorem ok_gives (T : Txt K mg A) : FnOk P w K mg base CX0 2 A.f_gives A.d_gives ["pipe", "number", "speed"] (sp_gives K A) := by
  have G_is_speed : FnOk P w K mg base CX0 1 A.f_is_speed A.d_is_speed ["speed"] (sp_is_speed K A) := ok_is_speed T
  have G_given : FnOk P w K mg base CX0 1 A.f_given A.d_given ["pump", "speed"] (sp_given K A) := ok_given T
  refine T.F_gives.ok sc_gives (fun vs H Q E h => ?_) (fun cdv Ar outer s H vs Q E hr h => ?_)
  · obtain ⟨p, F, b, a, i, v, rfl, _⟩ := h
    rfl
  · obtain ⟨p, F, b, a, i, v, rfl, hp, hG, k⟩ := h
    have hpA := hp
    obtain ⟨dx, l, c, ps, qs, hp, rfl⟩ := hp
    have hlen : (qs.map V.ref).length = a.pumps.length := by rw [List.length_map, hp.qlen]
    refine ⟨_, (pss_cons (ps_if (pt_cmpR op_ge (pv 1) (pe_callB (call_lenK K rfl) (by rfl) T.nb_len PySem.boot_len (pa_cons (pe_fldK K rfl (pv 0) rfl) pa_nil)) (nomark _)) (pss_one (ps_ret (pe_lst (pa_cons (pe_glob (v := .int (-2)) rfl T.g_NO_SUCH.choose_spec.1 T.g_NO_SUCH.choose_spec.2) pa_nil)))) pss_nil)
      (pss_cons (ps_if (pt_not (pt_val (pe_call G_is_speed (hr.mono (by decide)) rfl T.m_is_speed T.F_is_speed.kp T.b_is_speed .nil pass0 (pa_cons (pv 2) pa_nil)))) (pss_one (ps_ret (pe_lst (pa_cons (pe_glob (v := .int (-22)) rfl T.g_OUT_OF_RANGE.choose_spec.1 T.g_OUT_OF_RANGE.choose_spec.2) pa_nil)))) pss_nil)
      (pss_one (ps_ret (pe_lst (pa_cons (pe_call G_given (hr.mono (by decide)) rfl T.m_given T.F_given.kp T.b_given .nil pass0 (pa_cons (pe_ix (ix_listK K rfl) (pe_fldK K rfl (pv 0) rfl) (pv 1) (fun _ _ => rfl)) (pa_cons (pv 2) pa_nil))) pa_nil)))))), ?_⟩
    walk_at "rd"
    refine rd_len (SqL.of hp.lq) ?_
    rw [hlen]
    walk_at "rd"
    refine rd_ite (fun h => ?_) (fun h => ?_)
    · walk_at "rd"
      refine rd_new (by simp) (k.say (Same.refl H) ?_)
      unfold rowOf
      simp only [Kv335.Abs.does]
      rw [if_pos (by omega)]
      rfl
    walk_at "rd"
    refine ⟨v, rfl, ?_⟩
    have hi : ¬ a.pumps.length ≤ i := by omega
    walk_at "rd"
    refine rd_iteB (fun h => ?_) (fun h => ?_)
    · rw [Bool.not_eq_true'] at h
      walk_at "rd"
      refine rd_new (by simp) (k.say (Same.refl H) ?_)
      unfold rowOf
      simp only [Kv335.Abs.does]
      rw [if_neg hi, if_pos h]
      rfl
    rw [Bool.not_eq_false'] at h
    obtain ⟨hv1, hv2⟩ := okV_le h
    have hi' : i < qs.length := by rw [hp.qlen]; omega
    have hq := List.getElem?_eq_getElem hi'
    obtain ⟨x, hx, hxa⟩ := hp.pump hq
    walk_at "rd"
    refine rd_ixL (SqL.of hp.lq) (at_of (j := i) rfl (by rw [List.getElem?_map, hq]; rfl)) ?_
    walk_at "rd"
    refine ⟨_, x, v, rfl, hxa, hv2, ?_⟩
    walk_at "rd"
    refine rd_new (by simp) (k.say (Same.refl H) ?_)
    unfold rowOf
    simp only [Kv335.Abs.does]
    rw [if_neg hi, if_neg (by rw [h]; decide), pump_at hx]
    rfl
theorem ok_pressures (T : Txt K mg A) : FnOk P w K mg base CX0 4 A.f_pressures A.d_pressures ["pipe", "speed"] (sp_pressures K A) := by
  have G_joint_pressures : FnOk P w K mg base CX0 3 A.f_joint_pressures A.d_joint_pressures ["pipe", "speed"] (sp_joint_pressures K A) := ok_joint_pressures T
  have G_is_speed : FnOk P w K mg base CX0 1 A.f_is_speed A.d_is_speed ["speed"] (sp_is_speed K A) := ok_is_speed T
  refine T.F_pressures.ok sc_pressures (fun vs H Q E h => ?_) (fun cdv Ar outer s H vs Q E hr h => ?_)
  · obtain ⟨p, F, b, a, v, rfl, _⟩ := h
    rfl
  · obtain ⟨p, F, b, a, v, rfl, hp, hG, k⟩ := h
    refine ⟨_, (pss_cons (ps_if (pt_not (pt_val (pe_call G_is_speed (hr.mono (by decide)) rfl T.m_is_speed T.F_is_speed.kp T.b_is_speed .nil pass0 (pa_cons (pv 1) pa_nil)))) (pss_one (ps_ret (pe_lst (pa_cons (pe_glob (v := .int (-22)) rfl T.g_OUT_OF_RANGE.choose_spec.1 T.g_OUT_OF_RANGE.choose_spec.2) pa_nil)))) pss_nil)
      (pss_cons (ps_set (i := 2) sc_pressures.nd rfl (Or.inl rfl) (pe_call G_joint_pressures (hr.mono (by decide)) rfl T.m_joint_pressures T.F_joint_pressures.kp T.b_joint_pressures .nil pass0 (pa_cons (pv 0) (pa_cons (pv 1) pa_nil))))
      (pss_one (ps_ret (pe_op op_cat (pe_lst (pa_cons (pe_callB (call_lenK K rfl) (by rfl) T.nb_len PySem.boot_len (pa_cons (pv 2) pa_nil)) pa_nil)) (pv 2)))))), ?_⟩
    walk_at "rd"
    refine ⟨v, rfl, ?_⟩
    walk_at "rd"
    refine rd_iteB (fun h => ?_) (fun h => ?_)
    · rw [Bool.not_eq_true'] at h
      walk_at "rd"
      refine rd_new (by simp) (k.say (Same.refl H) ?_)
      unfold rowOf
      simp only [Kv335.Abs.does]
      rw [if_pos h]
      rfl
    rw [Bool.not_eq_false'] at h
    obtain ⟨hv1, hv2⟩ := okV_le h
    walk_at "rd"
    refine ⟨p, _, b, a, v, rfl, hp, hG, hv2, fun H1 r s1 hr0 hr1 => ?_⟩
    walk_at "rd"
    refine rd_len (SqL.of hr1) ?_
    walk_at "rd"
    refine rd_new (by simp) fun r2 hr2 => ?_
    have s2 : Same H1 (upd H1 r2 (.lst [.int (((a.pressures v).map V.int).length : Nat)])) := Same.upd hr2
    walk_at "rd"
    have hlen := pressures_len a v
    have hnp := hG.np
    refine rd_cat upd_same (s2 _ _ hr1) ?_ ?_
    · rw [List.length_map]
      exact Nat.le_of_lt (small1000 (by simp; omega))
    · have q := k.new (H1 := upd H1 r2 (.lst [.int (((a.pressures v).map V.int).length : Nat)])) (ans' := ((((a.pressures v).map V.int).length : Nat) : Int) :: a.pressures v) (s1.trans s2) ?_
      · exact q
      · unfold rowOf
        simp only [Kv335.Abs.does]
        rw [if_neg (by rw [h]; decide), List.length_map]
        rfl
theorem ok_goes (T : Txt K mg A) : FnOk P w K mg base CX0 6 A.f_goes A.d_goes ["pipe", "speed"] (sp_goes K A) := by
  have G_is_speed : FnOk P w K mg base CX0 1 A.f_is_speed A.d_is_speed ["speed"] (sp_is_speed K A) := ok_is_speed T
  have G_goes_at : FnOk P w K mg base CX0 5 A.f_goes_at A.d_goes_at ["pipe", "speed"] (sp_goes_at K A) := ok_goes_at T
  refine T.F_goes.ok sc_goes (fun vs H Q E h => ?_) (fun cdv Ar outer s H vs Q E hr h => ?_)
  · obtain ⟨p, F, b, a, v, rfl, _⟩ := h
    rfl
  · obtain ⟨p, F, b, a, v, rfl, hp, hG, k⟩ := h
    refine ⟨_, (pss_cons (ps_if (pt_not (pt_val (pe_call G_is_speed (hr.mono (by decide)) rfl T.m_is_speed T.F_is_speed.kp T.b_is_speed .nil pass0 (pa_cons (pv 1) pa_nil)))) (pss_one (ps_ret (pe_lst (pa_cons (pe_glob (v := .int (-22)) rfl T.g_OUT_OF_RANGE.choose_spec.1 T.g_OUT_OF_RANGE.choose_spec.2) pa_nil)))) pss_nil)
      (pss_one (ps_ret (pe_lst (pa_cons (pe_ifExp (pt_val (pe_call G_goes_at (hr.mono (by decide)) rfl T.m_goes_at T.F_goes_at.kp T.b_goes_at .nil pass0 (pa_cons (pv 0) (pa_cons (pv 1) pa_nil)))) pe_int pe_int) pa_nil))))), ?_⟩
    walk_at "rd"
    refine ⟨v, rfl, ?_⟩
    walk_at "rd"
    refine rd_iteB (fun h => ?_) (fun h => ?_)
    · rw [Bool.not_eq_true'] at h
      walk_at "rd"
      refine rd_new (by simp) (k.say (Same.refl H) ?_)
      unfold rowOf
      simp only [Kv335.Abs.does]
      rw [if_pos h]
      rfl
    rw [Bool.not_eq_false'] at h
    obtain ⟨hv1, hv2⟩ := okV_le h
    walk_at "rd"
    refine ⟨p, _, b, a, v, rfl, hp, hG, hv2, fun H1 s1 => ?_⟩
    walk_at "rd"
    refine rd_iteB (fun h2 => ?_) (fun h2 => ?_)
    · walk_at "rd"
      refine rd_new (by simp) (k.say s1 ?_)
      unfold rowOf
      simp only [Kv335.Abs.does]
      rw [if_neg (by rw [h]; decide), if_pos h2]
      rfl
    · walk_at "rd"
      refine rd_new (by simp) (k.say s1 ?_)
      unfold rowOf
      simp only [Kv335.Abs.does]
      rw [if_neg (by rw [h]; decide), if_neg (by rw [h2]; decide)]
      rfl
theorem ok_slowest (T : Txt K mg A) : FnOk P w K mg base CX0 6 A.f_slowest A.d_slowest ["pipe"] (sp_slowest K A) := by
  have G_goes_at : FnOk P w K mg base CX0 5 A.f_goes_at A.d_goes_at ["pipe", "speed"] (sp_goes_at K A) := ok_goes_at T
  refine T.F_slowest.ok sc_slowest (fun vs H Q E h => ?_) (fun cdv Ar outer s H vs Q E hr h => ?_)
  · obtain ⟨p, F, b, a, rfl, _⟩ := h
    rfl
  · obtain ⟨p, F, b, a, rfl, hp, hG, k⟩ := h
    refine ⟨_, (pss_cons (ps_for PassesOwn.never rfl (pi_range2 rfl T.nb_range (pa_cons (pe_glob (v := .int (1)) rfl T.g_LEAST_SPEED.choose_spec.1 T.g_LEAST_SPEED.choose_spec.2) (pa_cons (pe_op op_add (pe_glob (v := .int (99)) rfl T.g_MOST_SPEED.choose_spec.1 T.g_MOST_SPEED.choose_spec.2) pe_int) pa_nil))) (pg_name (i := 1) sc_slowest.nd rfl (Or.inl rfl)) (pss_one (ps_if (pt_val (pe_call G_goes_at (hr.mono (by decide)) rfl T.m_goes_at T.F_goes_at.kp T.b_goes_at .nil pass0 (pa_cons (pv 0) (pa_cons (pv 1) pa_nil)))) (pss_one (ps_ret (pe_lst (pa_cons (pv 1) pa_nil)))) pss_nil)))
      (pss_one (ps_ret (pe_lst (pa_cons (pe_glob (v := .int (-33)) rfl T.g_DOES_NOT_GO.choose_spec.1 T.g_DOES_NOT_GO.choose_spec.2) pa_nil))))), ?_⟩
    walk_at "rd"
    refine ⟨_, _, rfl, (by decide), for_range (lo := 1) (n := 99) (fun i σ H' => ∃ v1 : Option V, σ = [some (.ref p), v1] ∧ Same H H' ∧ ∀ u, 1 ≤ u → u ≤ i → a.goes u = false)
      ⟨none, rfl, Same.refl H, fun u h1 h2 => absurd h2 (by omega)⟩ ?_ ?_⟩
    · rintro i σ H' hi ⟨v1, rfl, s1, hno⟩
      walk_at "rd"
      refine ⟨p, _, b, a, i + 1, ?_, hp.mono s1, hG, by omega, fun H2 s2 => ?_⟩
      · show [V.ref p, V.int (1 + (i : Int))] = [V.ref p, V.int ((i + 1 : Nat) : Int)]
        rw [show ((i + 1 : Nat) : Int) = 1 + (i : Int) by omega]
      walk_at "rd"
      refine rd_iteB (fun h => ?_) (fun h => ?_)
      · walk_at "rd"
        refine rd_new (by simp) (k.say (s1.trans s2) ?_)
        unfold rowOf
        have e : a.speeds.head? = some (i + 1) := by
          unfold Kv335.Abs.speeds
          rw [List.head?_filter, List.find?_eq_some_iff_getElem]
          refine ⟨h, i, by simp [Kv335.FAST]; omega, by simp; omega, fun j hj => ?_⟩
          have := hno (j + 1) (by omega) (by omega)
          simp [Nat.add_comm 1 j, this]
        simp only [Kv335.Abs.does]
        rw [e]
        show [((i + 1 : Nat) : Int)] = [1 + (i : Int)]
        rw [show ((i + 1 : Nat) : Int) = 1 + (i : Int) by omega]
      · walk_at "rd"
        refine ⟨_, rfl, s1.trans s2, fun u h1 h2 => ?_⟩
        by_cases hu : u ≤ i
        · exact hno u h1 hu
        · have : u = i + 1 := by omega
          rw [this]
          exact h
    · rintro σ H' ⟨v1, rfl, s1, hno⟩
      walk_at "rd"
      refine rd_new (by simp) (k.say s1 ?_)
      unfold rowOf
      have e : a.speeds.head? = none := by
        unfold Kv335.Abs.speeds
        rw [List.head?_filter, List.find?_eq_none]
        intro u hu
        obtain ⟨j, hj, e⟩ := List.mem_iff_getElem.mp hu
        simp [Kv335.FAST] at hj e
        rw [hno u (by omega) (by omega)]
        decide
      simp only [Kv335.Abs.does]
      rw [e]
      rfl
end
end Sp

set_option Elab.async false
set_option linter.all false
set_option maxRecDepth 100000
set_option maxHeartbeats 2000000
namespace Sp
open PySem PySem.Spec PyProof.Rows L2
local macro_rules | `(tactic| walk_at "s1") => `(tactic| first
  | with_reducible refine rd_seq ?_
  | with_reducible refine rd_asg ?_
  | with_reducible refine rd_gname ?_
  | ((with_reducible apply rd_var); exact rfl)
  | with_reducible refine rd_c ?_
  | with_reducible refine rd_op ?_
  | with_reducible refine rd_i0 ?_
  | with_reducible refine rd_eqI ?_
  | ((with_reducible refine rd_mul ?_ ?_); first | exact mul_rN (by omega) (by omega) | exact mul_lN (by omega) (by omega))
  | ((with_reducible refine rd_fdiv ?_ ?_ ?_); (focus (first | decide | omega)); (focus (first | decide | omega)))
  | with_reducible refine rd_fld ?_
  | with_reducible refine rd_ret ?_
  | with_reducible refine rd_drop ?_
  | with_reducible refine rd_ifS ?_
  | with_reducible refine rd_if ?_
  | with_reducible refine rd_test ?_
  | with_reducible refine rd_tB ?_
  | with_reducible refine rd_and ?_
  | with_reducible refine rd_or ?_
  | with_reducible refine rd_not ?_
  | with_reducible refine rd_chain ?_
  | with_reducible refine rd_andV ?_
  | with_reducible refine rd_orV ?_
  | with_reducible refine rd_notV ?_
  | with_reducible refine rd_isblX ?_
  | with_reducible refine rd_nil ?_
  | with_reducible refine rd_cons ?_
  | with_reducible refine rd_call ?_
  | with_reducible refine rd_callLen ?_
  | with_reducible refine rd_callB ?_
  | with_reducible refine rd_lst ?_
  | with_reducible refine rd_next ?_
  | with_reducible refine rd_sfld ?_
  | with_reducible refine rd_un ?_
  | with_reducible refine rd_u ?_
  | with_reducible refine rd_make ?_
  | with_reducible refine rd_for ?_
  | with_reducible refine rd_ilist ?_
  | with_reducible refine rd_ienum ?_
  | with_reducible refine rd_irng2 ?_
  | with_reducible refine rd_irng1 ?_
  | with_reducible refine rd_yes ?_
  | with_reducible refine rd_irng3 ?_
  | ((with_reducible refine rd_mod ?_ ?_); (focus decide))
  | with_reducible refine rd_lc ?_
  | with_reducible refine rd_sl ?_
  | with_reducible refine rd_nopart ?_
  | with_reducible refine rd_part ?_
  | with_reducible refine rd_isint ?_
  | with_reducible refine rd_neI ?_
  | with_reducible refine rd_bm ?_
  | with_reducible refine rd_bm0 ?_
  | with_reducible refine iteT ?_
  | ((with_reducible refine rd_iteDT ?_ ?_); (focus decide))
  | ((with_reducible refine rd_iteDF ?_ ?_); (focus decide))
  | ((with_reducible apply rd_ixL); (focus exact SqL.of (by assumption)); (focus exact rfl))
  | with_reducible refine iteF ?_
  | ((with_reducible apply rd_piece_long); assumption; assumption)
  | ((with_reducible apply rd_piece_rise); assumption; assumption)
  | ((with_reducible apply rd_piece_wide); assumption; assumption)
  | ((with_reducible apply rd_pump_at); assumption; assumption)
  | ((with_reducible apply rd_pump_adds); assumption; assumption)
  | ((with_reducible apply rd_pump_runs); assumption; assumption)
  | ((with_reducible apply rd_pipe_begun); assumption; assumption)
  | ((with_reducible apply rd_pipe_grain); assumption; assumption)
  | ((with_reducible apply rd_pipe_mix); assumption; assumption)
  | ((with_reducible apply rd_pipe_low); assumption; assumption)
  | ((with_reducible apply rd_pipe_high); assumption; assumption)
  | ((with_reducible apply rd_pipe_pieces); assumption; assumption)
  | ((with_reducible apply rd_pipe_pumps); assumption; assumption))
local macro_rules | `(tactic| walk_at "rd") => `(tactic| repeat walk_at "s1")
def sp_fastest (K : PySem.W.Frag) (A : Ad) : Sp := fun vs H Q _ => ∃ (p : Addr) (F : List Addr) (b : Bool) (a : Kv335.Abs), vs = [.ref p] ∧ PipeAt A H p F b a ∧ Good a ∧ Ret H Q (rowOf a .fastest)
def sp_why (K : PySem.W.Frag) (A : Ad) : Sp := fun vs H Q _ => ∃ (p : Addr) (F : List Addr) (b : Bool) (a : Kv335.Abs) (v : Nat), vs = [.ref p, .int v] ∧ PipeAt A H p F b a ∧ Good a ∧ Ret H Q (rowOf a (.why v))
def sp_blocks (K : PySem.W.Frag) (A : Ad) : Sp := fun vs H Q _ => ∃ (p : Addr) (F : List Addr) (b : Bool) (a : Kv335.Abs) (v : Nat), vs = [.ref p, .int v] ∧ PipeAt A H p F b a ∧ Good a ∧ Ret H Q (rowOf a (.blocks v))
def sp_least (K : PySem.W.Frag) (A : Ad) : Sp := fun vs H Q _ => ∃ (p : Addr) (F : List Addr) (b : Bool) (a : Kv335.Abs) (v : Nat), vs = [.ref p, .int v] ∧ PipeAt A H p F b a ∧ Good a ∧ Ret H Q (rowOf a (.least v))
def sp_most (K : PySem.W.Frag) (A : Ad) : Sp := fun vs H Q _ => ∃ (p : Addr) (F : List Addr) (b : Bool) (a : Kv335.Abs) (v : Nat), vs = [.ref p, .int v] ∧ PipeAt A H p F b a ∧ Good a ∧ Ret H Q (rowOf a (.most v))
def sp_spare (K : PySem.W.Frag) (A : Ad) : Sp := fun vs H Q _ => ∃ (p : Addr) (F : List Addr) (b : Bool) (a : Kv335.Abs) (v : Nat), vs = [.ref p, .int v] ∧ PipeAt A H p F b a ∧ Good a ∧ Ret H Q (rowOf a (.spare v))
def sp_flow (K : PySem.W.Frag) (A : Ad) : Sp := fun vs H Q _ => ∃ (p : Addr) (F : List Addr) (b : Bool) (a : Kv335.Abs) (v : Nat), vs = [.ref p, .int v] ∧ PipeAt A H p F b a ∧ Good a ∧ Ret H Q (rowOf a (.flow v))
def sp_look (K : PySem.W.Frag) (A : Ad) : Sp := fun vs H Q _ => ∃ (p : Addr) (F : List Addr) (b : Bool) (a : Kv335.Abs) (i : Nat), vs = [.ref p, .int i] ∧ PipeAt A H p F b a ∧ Good a ∧ Ret H Q (rowOf a (.look i))
def sp_state (K : PySem.W.Frag) (A : Ad) : Sp := fun vs H Q _ => ∃ (p : Addr) (F : List Addr) (b : Bool) (a : Kv335.Abs), vs = [.ref p] ∧ PipeAt A H p F b a ∧ Good a ∧ Ret H Q (rowOf a .state)
theorem last_range {P : Nat → Bool} {d u : Nat} : ∀ N, d ≤ u → u < N → P u = true → (∀ w, u < w → w < N → P w = false) → (((List.range N).drop d).filter P).getLast? = some u
  | 0, _, h, _, _ => absurd h (by omega)
  | N + 1, hd, hu, hP, hno => by
    rw [List.range_succ, List.drop_append_of_le_length (by rw [List.length_range]; omega), List.filter_append]
    by_cases e : u = N
    · subst e
      rw [show [u].filter P = [u] by simp [hP], List.getLast?_concat]
    · rw [show [N].filter P = [] by simp [hno N (by omega) (by omega)], List.append_nil]
      exact last_range N hd (by omega) hP fun w h1 h2 => hno w h1 (by omega)
theorem no_range {P : Nat → Bool} {d : Nat} : ∀ N, (∀ w, d ≤ w → w < N → P w = false) → ((List.range N).drop d).filter P = []
  | 0, _ => by simp
  | N + 1, hno => by
    by_cases e : d ≤ N
    · rw [List.range_succ, List.drop_append_of_le_length (by rw [List.length_range]; omega), List.filter_append, show [N].filter P = [] by simp [hno N (by omega) (by omega)], List.append_nil]
      exact no_range N fun w h1 h2 => hno w h1 (by omega)
    · rw [List.drop_eq_nil_of_le (by rw [List.length_range]; omega)]
      rfl
def amin (f : Nat → Int) (n : Nat) : Nat := (List.range n).foldl (fun b i => if f i < f b then i else b) 0
theorem amin_succ {f : Nat → Int} {n : Nat} : amin f (n + 1) = if f n < f (amin f n) then n else amin f n := by
  unfold amin
  rw [List.range_succ, List.foldl_append]
  rfl
theorem amin_ok (f : Nat → Int) : ∀ n, amin f (n + 1) < n + 1 ∧ (∀ i, i < n + 1 → f (amin f (n + 1)) ≤ f i) ∧ (∀ i, i < amin f (n + 1) → f (amin f (n + 1)) < f i)
  | 0 => by
    have e : amin f (0 + 1) = 0 := by
      rw [amin_succ]
      show (if f 0 < f 0 then 0 else 0) = 0
      split <;> rfl
    rw [e]
    refine ⟨by omega, fun i hi => ?_, fun i hi => absurd hi (by omega)⟩
    have : i = 0 := by omega
    subst this
    exact Int.le_refl _
  | n + 1 => by
    obtain ⟨h1, h2, h3⟩ := amin_ok f n
    rw [amin_succ (n := n + 1)]
    by_cases h : f (n + 1) < f (amin f (n + 1))
    · rw [if_pos h]
      refine ⟨by omega, fun i hi => ?_, fun i hi => ?_⟩
      · by_cases e : i = n + 1
        · subst e
          exact Int.le_refl _
        · have := h2 i (by omega)
          omega
      · have := h2 i hi
        omega
    · rw [if_neg h]
      refine ⟨by omega, fun i hi => ?_, h3⟩
      by_cases e : i = n + 1
      · subst e
        omega
      · exact h2 i (by omega)
theorem amax_eq {f : Nat → Int} {n : Nat} : (List.range n).foldl (fun b i => if f b < f i then i else b) 0 = amin (fun i => - f i) n := by
  unfold amin
  congr 1
  funext b i
  by_cases h : f b < f i
  · rw [if_pos h, if_pos (show - f i < - f b by omega)]
  · rw [if_neg h, if_neg (show ¬ - f i < - f b by omega)]
theorem mem_getD {l : List Int} {m : Int} (h : m ∈ l) : ∃ i, i < l.length ∧ l.getD i 0 = m := by
  obtain ⟨i, e⟩ := List.mem_iff_getElem?.mp h
  have hi := (List.getElem?_eq_some_iff.mp e).1
  rw [getD_at hi] at e
  exact ⟨i, hi, Option.some.inj e⟩
theorem getD_mem {l : List Int} {i : Nat} (h : i < l.length) : l.getD i 0 ∈ l := List.mem_of_getElem? (getD_at h)
section
variable {P : Program} {w : World} {K : PySem.W.Frag} {mg : Str → Option Value} {base : Heap} {A : Ad}
theorem ok_fastest (T : Txt K mg A) : FnOk P w K mg base CX0 6 A.f_fastest A.d_fastest ["pipe"] (sp_fastest K A) := by
  have G_goes_at : FnOk P w K mg base CX0 5 A.f_goes_at A.d_goes_at ["pipe", "speed"] (sp_goes_at K A) := ok_goes_at T
  refine T.F_fastest.ok sc_fastest (fun vs H Q E h => ?_) (fun cdv Ar outer s H vs Q E hr h => ?_)
  · obtain ⟨p, F, b, a, rfl, _⟩ := h
    rfl
  · obtain ⟨p, F, b, a, rfl, hp, hG, k⟩ := h
    refine ⟨_, (pss_cons (ps_for PassesOwn.never rfl (pi_range3 rfl T.nb_range (pa_cons (pe_glob (v := .int (99)) rfl T.g_MOST_SPEED.choose_spec.1 T.g_MOST_SPEED.choose_spec.2) (pa_cons (pe_op op_sub (pe_glob (v := .int (1)) rfl T.g_LEAST_SPEED.choose_spec.1 T.g_LEAST_SPEED.choose_spec.2) pe_int) (pa_cons (pe_un un_neg pe_int) pa_nil)))) (pg_name (i := 1) sc_fastest.nd rfl (Or.inl rfl)) (pss_one (ps_if (pt_val (pe_call G_goes_at (hr.mono (by decide)) rfl T.m_goes_at T.F_goes_at.kp T.b_goes_at .nil pass0 (pa_cons (pv 0) (pa_cons (pv 1) pa_nil)))) (pss_one (ps_ret (pe_lst (pa_cons (pv 1) pa_nil)))) pss_nil)))
      (pss_one (ps_ret (pe_lst (pa_cons (pe_glob (v := .int (-33)) rfl T.g_DOES_NOT_GO.choose_spec.1 T.g_DOES_NOT_GO.choose_spec.2) pa_nil))))), ?_⟩
    walk_at "rd"
    refine ⟨_, _, _, _, rfl, RgC.neg (by decide) (by decide) (by decide) (by decide), for_rangeC (lo := 99) (c := -1) (n := 99) (fun i σ H' => ∃ v1 : Option V, σ = [some (.ref p), v1] ∧ Same H H' ∧ ∀ u, 99 - i < u → u < 100 → a.goes u = false)
      ⟨none, rfl, Same.refl H, fun u h1 h2 => absurd h2 (by omega)⟩ ?_ ?_⟩
    · rintro i σ H' hi ⟨v1, rfl, s1, hno⟩
      have ei : ((99 - i : Nat) : Int) = 99 + (i : Int) * -1 := by omega
      walk_at "rd"
      refine ⟨p, _, b, a, 99 - i, ?_, hp.mono s1, hG, by omega, fun H2 s2 => ?_⟩
      · show [V.ref p, V.int (99 + (i : Int) * -1)] = [V.ref p, V.int ((99 - i : Nat) : Int)]
        rw [ei]
      walk_at "rd"
      refine rd_iteB (fun h => ?_) (fun h => ?_)
      · walk_at "rd"
        refine rd_new (by simp) (k.say (s1.trans s2) ?_)
        unfold rowOf
        have e : a.speeds.getLast? = some (99 - i) := by
          unfold Kv335.Abs.speeds
          exact last_range _ (by omega) (by show 99 - i < 100; omega) h fun w h1 h2 => hno w h1 h2
        simp only [Kv335.Abs.does]
        rw [e]
        show [((99 - i : Nat) : Int)] = [99 + (i : Int) * -1]
        rw [ei]
      · walk_at "rd"
        refine ⟨_, rfl, s1.trans s2, fun u h1 h2 => ?_⟩
        by_cases hu : 99 - i < u
        · exact hno u hu h2
        · have : u = 99 - i := by omega
          rw [this]
          exact h
    · rintro σ H' ⟨v1, rfl, s1, hno⟩
      walk_at "rd"
      refine rd_new (by simp) (k.say s1 ?_)
      unfold rowOf
      have e : a.speeds.getLast? = none := by
        unfold Kv335.Abs.speeds
        rw [no_range (d := 1) Kv335.FAST fun w h1 h2 => hno w (by omega) h2]
        rfl
      simp only [Kv335.Abs.does]
      rw [e]
      rfl
theorem ok_why (T : Txt K mg A) : FnOk P w K mg base CX0 5 A.f_why A.d_why ["pipe", "speed"] (sp_why K A) := by
  have G_hindrance : FnOk P w K mg base CX0 4 A.f_hindrance A.d_hindrance ["pipe", "speed"] (sp_hindrance K A) := ok_hindrance T
  have G_is_speed : FnOk P w K mg base CX0 1 A.f_is_speed A.d_is_speed ["speed"] (sp_is_speed K A) := ok_is_speed T
  refine T.F_why.ok sc_why (fun vs H Q E h => ?_) (fun cdv Ar outer s H vs Q E hr h => ?_)
  · obtain ⟨p, F, b, a, v, rfl, _⟩ := h
    rfl
  · obtain ⟨p, F, b, a, v, rfl, hp, hG, k⟩ := h
    refine ⟨_, (pss_cons (ps_if (pt_not (pt_val (pe_call G_is_speed (hr.mono (by decide)) rfl T.m_is_speed T.F_is_speed.kp T.b_is_speed .nil pass0 (pa_cons (pv 1) pa_nil)))) (pss_one (ps_ret (pe_lst (pa_cons (pe_glob (v := .int (-22)) rfl T.g_OUT_OF_RANGE.choose_spec.1 T.g_OUT_OF_RANGE.choose_spec.2) pa_nil)))) pss_nil)
      (pss_one (ps_ret (pe_call G_hindrance (hr.mono (by decide)) rfl T.m_hindrance T.F_hindrance.kp T.b_hindrance .nil pass0 (pa_cons (pv 0) (pa_cons (pv 1) pa_nil)))))), ?_⟩
    walk_at "rd"
    refine ⟨v, rfl, ?_⟩
    walk_at "rd"
    refine rd_iteB (fun h => ?_) (fun h => ?_)
    · rw [Bool.not_eq_true'] at h
      walk_at "rd"
      refine rd_new (by simp) (k.say (Same.refl H) ?_)
      unfold rowOf
      simp only [Kv335.Abs.does]
      rw [if_pos h]
      rfl
    rw [Bool.not_eq_false'] at h
    obtain ⟨hv1, hv2⟩ := okV_le h
    walk_at "rd"
    refine ⟨p, _, b, a, v, rfl, hp, hG, hv2, ?_⟩
    have e : rowOf a (.why v) = whyL a v := by
      unfold rowOf
      simp only [Kv335.Abs.does]
      rw [if_neg (by rw [h]; decide)]
      rfl
    rw [e] at k
    exact k
theorem ok_blocks (T : Txt K mg A) : FnOk P w K mg base CX0 3 A.f_blocks A.d_blocks ["pipe", "speed"] (sp_blocks K A) := by
  have G_settling_pieces : FnOk P w K mg base CX0 2 A.f_settling_pieces A.d_settling_pieces ["pipe", "speed"] (sp_settling_pieces K A) := ok_settling_pieces T
  have G_is_speed : FnOk P w K mg base CX0 1 A.f_is_speed A.d_is_speed ["speed"] (sp_is_speed K A) := ok_is_speed T
  refine T.F_blocks.ok sc_blocks (fun vs H Q E h => ?_) (fun cdv Ar outer s H vs Q E hr h => ?_)
  · obtain ⟨p, F, b, a, v, rfl, _⟩ := h
    rfl
  · obtain ⟨p, F, b, a, v, rfl, hp, hG, k⟩ := h
    refine ⟨_, (pss_cons (ps_if (pt_not (pt_val (pe_call G_is_speed (hr.mono (by decide)) rfl T.m_is_speed T.F_is_speed.kp T.b_is_speed .nil pass0 (pa_cons (pv 1) pa_nil)))) (pss_one (ps_ret (pe_lst (pa_cons (pe_glob (v := .int (-22)) rfl T.g_OUT_OF_RANGE.choose_spec.1 T.g_OUT_OF_RANGE.choose_spec.2) pa_nil)))) pss_nil)
      (pss_cons (ps_set (i := 2) sc_blocks.nd rfl (Or.inl rfl) (pe_call G_settling_pieces (hr.mono (by decide)) rfl T.m_settling_pieces T.F_settling_pieces.kp T.b_settling_pieces .nil pass0 (pa_cons (pv 0) (pa_cons (pv 1) pa_nil))))
      (pss_one (ps_ret (pe_op op_cat (pe_lst (pa_cons (pe_callB (call_lenK K rfl) (by rfl) T.nb_len PySem.boot_len (pa_cons (pv 2) pa_nil)) pa_nil)) (pv 2)))))), ?_⟩
    walk_at "rd"
    refine ⟨v, rfl, ?_⟩
    walk_at "rd"
    refine rd_iteB (fun h => ?_) (fun h => ?_)
    · rw [Bool.not_eq_true'] at h
      walk_at "rd"
      refine rd_new (by simp) (k.say (Same.refl H) ?_)
      unfold rowOf
      simp only [Kv335.Abs.does]
      rw [if_pos h]
      rfl
    rw [Bool.not_eq_false'] at h
    walk_at "rd"
    refine ⟨p, _, b, a, v, rfl, hp, hG, fun H1 r s1 hr0 hr1 => ?_⟩
    walk_at "rd"
    refine rd_len (SqL.of hr1) ?_
    walk_at "rd"
    refine rd_new (by simp) fun r2 hr2 => ?_
    have s2 : Same H1 (upd H1 r2 (.lst [.int (((Kv335.ints (blockL a v)).map V.int).length : Nat)])) := Same.upd hr2
    walk_at "rd"
    have hlen : (Kv335.ints (blockL a v)).length = (blockL a v).length := List.length_map ..
    have hle : (blockL a v).length ≤ 8 := by
      refine Nat.le_trans (List.length_filter_le _ _) ?_
      rw [List.length_range]
      exact hG.np
    refine rd_cat upd_same (s2 _ _ hr1) ?_ ?_
    · rw [List.length_map, hlen]
      exact Nat.le_of_lt (small1000 (by simp; omega))
    · have q := k.new (H1 := upd H1 r2 (.lst [.int (((Kv335.ints (blockL a v)).map V.int).length : Nat)])) (ans' := ((((Kv335.ints (blockL a v)).map V.int).length : Nat) : Int) :: Kv335.ints (blockL a v)) (s1.trans s2) ?_
      · exact q
      · unfold rowOf
        simp only [Kv335.Abs.does]
        rw [if_neg (by rw [h]; decide), List.length_map, hlen]
        rfl
theorem ok_least (T : Txt K mg A) : FnOk P w K mg base CX0 4 A.f_least A.d_least ["pipe", "speed"] (sp_least K A) := by
  have G_joint_pressures : FnOk P w K mg base CX0 3 A.f_joint_pressures A.d_joint_pressures ["pipe", "speed"] (sp_joint_pressures K A) := ok_joint_pressures T
  have G_is_speed : FnOk P w K mg base CX0 1 A.f_is_speed A.d_is_speed ["speed"] (sp_is_speed K A) := ok_is_speed T
  refine T.F_least.ok sc_least (fun vs H Q E h => ?_) (fun cdv Ar outer s H vs Q E hr h => ?_)
  · obtain ⟨p, F, b, a, v, rfl, _⟩ := h
    rfl
  · obtain ⟨p, F, b, a, v, rfl, hp, hG, k⟩ := h
    refine ⟨_, (pss_cons (ps_if (pt_not (pt_val (pe_call G_is_speed (hr.mono (by decide)) rfl T.m_is_speed T.F_is_speed.kp T.b_is_speed .nil pass0 (pa_cons (pv 1) pa_nil)))) (pss_one (ps_ret (pe_lst (pa_cons (pe_glob (v := .int (-22)) rfl T.g_OUT_OF_RANGE.choose_spec.1 T.g_OUT_OF_RANGE.choose_spec.2) pa_nil)))) pss_nil)
      (pss_cons (ps_set (i := 2) sc_least.nd rfl (Or.inl rfl) (pe_call G_joint_pressures (hr.mono (by decide)) rfl T.m_joint_pressures T.F_joint_pressures.kp T.b_joint_pressures .nil pass0 (pa_cons (pv 0) (pa_cons (pv 1) pa_nil))))
      (pss_cons (ps_set (i := 3) sc_least.nd rfl (Or.inl rfl) (pe_callB (cr_minK K rfl rfl) (by rfl) T.nb_min (by decide +kernel) (pa_cons (pv 2) pa_nil)))
      (pss_one (ps_ret (pe_lst (pa_cons (pe_bmK K rfl PySem.F.plainAttrs_list PySem.F.slot_list_index PySem.F.type_list_index (mt_indexK K rfl) (pv 2) (pa_cons (pv 3) pa_nil)) (pa_cons (pv 3) pa_nil)))))))), ?_⟩
    walk_at "rd"
    refine ⟨v, rfl, ?_⟩
    walk_at "rd"
    refine rd_iteB (fun h => ?_) (fun h => ?_)
    · rw [Bool.not_eq_true'] at h
      walk_at "rd"
      refine rd_new (by simp) (k.say (Same.refl H) ?_)
      unfold rowOf
      simp only [Kv335.Abs.does]
      rw [if_pos h]
      rfl
    rw [Bool.not_eq_false'] at h
    obtain ⟨hv1, hv2⟩ := okV_le h
    walk_at "rd"
    refine ⟨p, _, b, a, v, rfl, hp, hG, hv2, fun H1 r s1 hr0 hr1 => ?_⟩
    have hlen := pressures_len a v
    walk_at "rd"
    refine rd_min (SqL.of hr1) (by omega) fun m hm hall => ?_
    obtain ⟨j1, j2, j3⟩ := amin_ok (fun i => (a.pressures v).getD i 0) a.pieces.length
    rw [← hlen] at j1 j2 j3
    obtain ⟨i, hi, ei⟩ := mem_getD hm
    have em : (a.pressures v).getD (amin (fun i => (a.pressures v).getD i 0) (a.pressures v).length) 0 = m := by
      have q1 := j2 i hi
      have q2 := hall _ (getD_mem j1)
      show (a.pressures v).getD _ 0 = m
      have q1 : (a.pressures v).getD (amin (fun i => (a.pressures v).getD i 0) (a.pressures v).length) 0 ≤ (a.pressures v).getD i 0 := q1
      omega
    walk_at "rd"
    refine rd_tyL hr1 ?_
    walk_at "rd"
    refine rd_index (j := amin (fun i => (a.pressures v).getD i 0) (a.pressures v).length) (SqL.of hr1) ?_ ?_ ?_
    · rw [getD_at j1, em]
    · intro n z hn hz e
      have q := j3 n hn
      rw [getD_at (by omega)] at hz
      have hz := Option.some.inj hz
      have q : (a.pressures v).getD (amin (fun i => (a.pressures v).getD i 0) (a.pressures v).length) 0 < (a.pressures v).getD n 0 := q
      omega
    walk_at "rd"
    refine rd_new (by simp) (k.say2 s1 ?_)
    unfold rowOf
    simp only [Kv335.Abs.does]
    rw [if_neg (by rw [h]; decide), ← em]
    rfl
theorem ok_most (T : Txt K mg A) : FnOk P w K mg base CX0 4 A.f_most A.d_most ["pipe", "speed"] (sp_most K A) := by
  have G_joint_pressures : FnOk P w K mg base CX0 3 A.f_joint_pressures A.d_joint_pressures ["pipe", "speed"] (sp_joint_pressures K A) := ok_joint_pressures T
  have G_is_speed : FnOk P w K mg base CX0 1 A.f_is_speed A.d_is_speed ["speed"] (sp_is_speed K A) := ok_is_speed T
  refine T.F_most.ok sc_most (fun vs H Q E h => ?_) (fun cdv Ar outer s H vs Q E hr h => ?_)
  · obtain ⟨p, F, b, a, v, rfl, _⟩ := h
    rfl
  · obtain ⟨p, F, b, a, v, rfl, hp, hG, k⟩ := h
    refine ⟨_, (pss_cons (ps_if (pt_not (pt_val (pe_call G_is_speed (hr.mono (by decide)) rfl T.m_is_speed T.F_is_speed.kp T.b_is_speed .nil pass0 (pa_cons (pv 1) pa_nil)))) (pss_one (ps_ret (pe_lst (pa_cons (pe_glob (v := .int (-22)) rfl T.g_OUT_OF_RANGE.choose_spec.1 T.g_OUT_OF_RANGE.choose_spec.2) pa_nil)))) pss_nil)
      (pss_cons (ps_set (i := 2) sc_most.nd rfl (Or.inl rfl) (pe_call G_joint_pressures (hr.mono (by decide)) rfl T.m_joint_pressures T.F_joint_pressures.kp T.b_joint_pressures .nil pass0 (pa_cons (pv 0) (pa_cons (pv 1) pa_nil))))
      (pss_cons (ps_set (i := 3) sc_most.nd rfl (Or.inl rfl) (pe_callB (cr_maxK K rfl rfl) (by rfl) T.nb_max (by decide +kernel) (pa_cons (pv 2) pa_nil)))
      (pss_one (ps_ret (pe_lst (pa_cons (pe_bmK K rfl PySem.F.plainAttrs_list PySem.F.slot_list_index PySem.F.type_list_index (mt_indexK K rfl) (pv 2) (pa_cons (pv 3) pa_nil)) (pa_cons (pv 3) pa_nil)))))))), ?_⟩
    walk_at "rd"
    refine ⟨v, rfl, ?_⟩
    walk_at "rd"
    refine rd_iteB (fun h => ?_) (fun h => ?_)
    · rw [Bool.not_eq_true'] at h
      walk_at "rd"
      refine rd_new (by simp) (k.say (Same.refl H) ?_)
      unfold rowOf
      simp only [Kv335.Abs.does]
      rw [if_pos h]
      rfl
    rw [Bool.not_eq_false'] at h
    obtain ⟨hv1, hv2⟩ := okV_le h
    walk_at "rd"
    refine ⟨p, _, b, a, v, rfl, hp, hG, hv2, fun H1 r s1 hr0 hr1 => ?_⟩
    have hlen := pressures_len a v
    walk_at "rd"
    refine rd_max (SqL.of hr1) (by omega) fun m hm hall => ?_
    obtain ⟨j1, j2, j3⟩ := amin_ok (fun i => - (a.pressures v).getD i 0) a.pieces.length
    rw [← hlen] at j1 j2 j3
    obtain ⟨i, hi, ei⟩ := mem_getD hm
    have em : (a.pressures v).getD (amin (fun i => - (a.pressures v).getD i 0) (a.pressures v).length) 0 = m := by
      have q1 := j2 i hi
      have q2 := hall _ (getD_mem j1)
      show (a.pressures v).getD _ 0 = m
      have q1 : - (a.pressures v).getD (amin (fun i => - (a.pressures v).getD i 0) (a.pressures v).length) 0 ≤ - (a.pressures v).getD i 0 := q1
      omega
    walk_at "rd"
    refine rd_tyL hr1 ?_
    walk_at "rd"
    refine rd_index (j := amin (fun i => - (a.pressures v).getD i 0) (a.pressures v).length) (SqL.of hr1) ?_ ?_ ?_
    · rw [getD_at j1, em]
    · intro n z hn hz e
      have q := j3 n hn
      rw [getD_at (by omega)] at hz
      have hz := Option.some.inj hz
      have q : - (a.pressures v).getD (amin (fun i => - (a.pressures v).getD i 0) (a.pressures v).length) 0 < - (a.pressures v).getD n 0 := q
      omega
    walk_at "rd"
    refine rd_new (by simp) (k.say2 s1 ?_)
    unfold rowOf
    simp only [Kv335.Abs.does]
    rw [if_neg (by rw [h]; decide), ← em, amax_eq (f := fun i => (a.pressures v).getD i 0)]
    rfl
theorem ok_spare (T : Txt K mg A) : FnOk P w K mg base CX0 6 A.f_spare A.d_spare ["pipe", "speed"] (sp_spare K A) := by
  have G_is_speed : FnOk P w K mg base CX0 1 A.f_is_speed A.d_is_speed ["speed"] (sp_is_speed K A) := ok_is_speed T
  have G_goes_at : FnOk P w K mg base CX0 5 A.f_goes_at A.d_goes_at ["pipe", "speed"] (sp_goes_at K A) := ok_goes_at T
  have G_joint_pressures : FnOk P w K mg base CX0 3 A.f_joint_pressures A.d_joint_pressures ["pipe", "speed"] (sp_joint_pressures K A) := ok_joint_pressures T
  refine T.F_spare.ok sc_spare (fun vs H Q E h => ?_) (fun cdv Ar outer s H vs Q E hr h => ?_)
  · obtain ⟨p, F, b, a, v, rfl, _⟩ := h
    rfl
  · obtain ⟨p, F, b, a, v, rfl, hp, hG, k⟩ := h
    have hpA := hp
    obtain ⟨dx, l, c, ps, qs, hp, rfl⟩ := hp
    refine ⟨_, (pss_cons (ps_if (pt_not (pt_val (pe_call G_is_speed (hr.mono (by decide)) rfl T.m_is_speed T.F_is_speed.kp T.b_is_speed .nil pass0 (pa_cons (pv 1) pa_nil)))) (pss_one (ps_ret (pe_lst (pa_cons (pe_glob (v := .int (-22)) rfl T.g_OUT_OF_RANGE.choose_spec.1 T.g_OUT_OF_RANGE.choose_spec.2) pa_nil)))) pss_nil)
      (pss_cons (ps_if (pt_not (pt_val (pe_call G_goes_at (hr.mono (by decide)) rfl T.m_goes_at T.F_goes_at.kp T.b_goes_at .nil pass0 (pa_cons (pv 0) (pa_cons (pv 1) pa_nil))))) (pss_one (ps_ret (pe_lst (pa_cons (pe_glob (v := .int (-33)) rfl T.g_DOES_NOT_GO.choose_spec.1 T.g_DOES_NOT_GO.choose_spec.2) pa_nil)))) pss_nil)
      (pss_one (ps_ret (pe_lst (pa_cons pe_int (pa_cons (pe_ix (ix_listK K rfl) (pe_call G_joint_pressures (hr.mono (by decide)) rfl T.m_joint_pressures T.F_joint_pressures.kp T.b_joint_pressures .nil pass0 (pa_cons (pv 0) (pa_cons (pv 1) pa_nil))) (pe_callB (call_lenK K rfl) (by rfl) T.nb_len PySem.boot_len (pa_cons (pe_fldK K rfl (pv 0) rfl) pa_nil)) (fun _ _ => rfl)) pa_nil))))))), ?_⟩
    walk_at "rd"
    refine ⟨v, rfl, ?_⟩
    walk_at "rd"
    refine rd_iteB (fun h => ?_) (fun h => ?_)
    · rw [Bool.not_eq_true'] at h
      walk_at "rd"
      refine rd_new (by simp) (k.say (Same.refl H) ?_)
      unfold rowOf
      simp only [Kv335.Abs.does]
      rw [if_pos h]
      rfl
    rw [Bool.not_eq_false'] at h
    obtain ⟨hv1, hv2⟩ := okV_le h
    walk_at "rd"
    refine ⟨p, _, b, a, v, rfl, hpA, hG, hv2, fun H1 s1 => ?_⟩
    walk_at "rd"
    refine rd_iteB (fun h2 => ?_) (fun h2 => ?_)
    · rw [Bool.not_eq_true'] at h2
      walk_at "rd"
      refine rd_new (by simp) (k.say s1 ?_)
      unfold rowOf
      simp only [Kv335.Abs.does]
      rw [if_neg (by rw [h]; decide), if_pos h2]
      rfl
    rw [Bool.not_eq_false'] at h2
    walk_at "rd"
    refine ⟨p, _, b, a, v, rfl, hpA.mono s1, hG, hv2, fun H2 r s2 hr0 hr1 => ?_⟩
    have s12 := s1.trans s2
    have hp2 := hp.mono s12
    walk_at "rd"
    refine rd_len (SqL.of hp2.lp) ?_
    rw [List.length_map, hp.plen]
    walk_at "rd"
    refine rd_ixL (v := .int ((a.pressures v).getLastD 0)) (SqL.of hr1) (at_of (j := a.pieces.length) rfl (by rw [List.getElem?_map, last_at]; rfl)) ?_
    walk_at "rd"
    refine rd_new (by simp) (k.say2 s12 ?_)
    unfold rowOf
    simp only [Kv335.Abs.does]
    rw [if_neg (by rw [h]; decide), if_neg (by rw [h2]; decide)]
    rfl
theorem ok_flow (T : Txt K mg A) : FnOk P w K mg base CX0 2 A.f_flow A.d_flow ["pipe", "speed"] (sp_flow K A) := by
  have G_litres : FnOk P w K mg base CX0 1 A.f_litres A.d_litres ["pipe", "speed"] (sp_litres K A) := ok_litres T
  have G_is_speed : FnOk P w K mg base CX0 1 A.f_is_speed A.d_is_speed ["speed"] (sp_is_speed K A) := ok_is_speed T
  refine T.F_flow.ok sc_flow (fun vs H Q E h => ?_) (fun cdv Ar outer s H vs Q E hr h => ?_)
  · obtain ⟨p, F, b, a, v, rfl, _⟩ := h
    rfl
  · obtain ⟨p, F, b, a, v, rfl, hp, hG, k⟩ := h
    have hpA := hp
    obtain ⟨dx, l, c, ps, qs, hp, rfl⟩ := hp
    refine ⟨_, (pss_cons (ps_if (pt_not (pt_val (pe_call G_is_speed (hr.mono (by decide)) rfl T.m_is_speed T.F_is_speed.kp T.b_is_speed .nil pass0 (pa_cons (pv 1) pa_nil)))) (pss_one (ps_ret (pe_lst (pa_cons (pe_glob (v := .int (-22)) rfl T.g_OUT_OF_RANGE.choose_spec.1 T.g_OUT_OF_RANGE.choose_spec.2) pa_nil)))) pss_nil)
      (pss_cons (ps_if (pt_cmpR op_eq (pe_callB (call_lenK K rfl) (by rfl) T.nb_len PySem.boot_len (pa_cons (pe_fldK K rfl (pv 0) rfl) pa_nil)) pe_int (nomark _)) (pss_one (ps_ret (pe_lst (pa_cons (pe_glob (v := .int (-6)) rfl T.g_NONE_THERE.choose_spec.1 T.g_NONE_THERE.choose_spec.2) pa_nil)))) pss_nil)
      (pss_cons (ps_set (i := 2) sc_flow.nd rfl (Or.inl rfl) (pe_call G_litres (hr.mono (by decide)) rfl T.m_litres T.F_litres.kp T.b_litres .nil pass0 (pa_cons (pv 0) (pa_cons (pv 1) pa_nil))))
      (pss_one (ps_ret (pe_lst (pa_cons (pv 2) (pa_cons (pe_op op_fdiv (pe_op op_mul (pv 2) (pe_fldK K rfl (pv 0) rfl)) pe_int) pa_nil)))))))), ?_⟩
    walk_at "rd"
    refine ⟨v, rfl, ?_⟩
    walk_at "rd"
    refine rd_iteB (fun h => ?_) (fun h => ?_)
    · rw [Bool.not_eq_true'] at h
      walk_at "rd"
      refine rd_new (by simp) (k.say (Same.refl H) ?_)
      unfold rowOf
      simp only [Kv335.Abs.does]
      rw [if_pos h]
      rfl
    rw [Bool.not_eq_false'] at h
    obtain ⟨hv1, hv2⟩ := okV_le h
    walk_at "rd"
    refine rd_len (SqL.of hp.lp) ?_
    rw [List.length_map, hp.plen]
    walk_at "rd"
    refine rd_ite (fun h2 => ?_) (fun h2 => ?_)
    · have e : a.pieces = [] := List.length_eq_zero_iff.mp (by omega)
      walk_at "rd"
      refine rd_new (by simp) (k.say (Same.refl H) ?_)
      unfold rowOf
      simp only [Kv335.Abs.does]
      rw [if_neg (by rw [h]; decide), if_pos e]
      rfl
    have hne : a.pieces ≠ [] := fun e => h2 (by rw [e]; rfl)
    walk_at "rd"
    refine ⟨p, _, b, a, v, rfl, hpA, hG, hv2, hne, fun H1 s1 => ?_⟩
    have hp1 := hp.mono s1
    have hmx := hG.mx
    walk_at "rd"
    refine rd_new (by simp) (k.say2 s1 ?_)
    unfold rowOf
    simp only [Kv335.Abs.does]
    rw [if_neg (by rw [h]; decide), if_neg hne]
    rfl
theorem ok_look (T : Txt K mg A) : FnOk P w K mg base CX0 1 A.f_look A.d_look ["pipe", "number"] (sp_look K A) := by
  refine T.F_look.ok sc_look (fun vs H Q E h => ?_) (fun cdv Ar outer s H vs Q E hr h => ?_)
  · obtain ⟨p, F, b, a, i, rfl, _⟩ := h
    rfl
  · obtain ⟨p, F, b, a, i, rfl, hp, hG, k⟩ := h
    have hpA := hp
    obtain ⟨dx, l, c, ps, qs, hp, rfl⟩ := hp
    have hlen : (ps.map V.ref).length = a.pieces.length := by rw [List.length_map, hp.plen]
    refine ⟨_, (pss_cons (ps_if (pt_cmpR op_ge (pv 1) (pe_callB (call_lenK K rfl) (by rfl) T.nb_len PySem.boot_len (pa_cons (pe_fldK K rfl (pv 0) rfl) pa_nil)) (nomark _)) (pss_one (ps_ret (pe_lst (pa_cons (pe_glob (v := .int (-2)) rfl T.g_NO_SUCH.choose_spec.1 T.g_NO_SUCH.choose_spec.2) pa_nil)))) pss_nil)
      (pss_cons (ps_set (i := 2) sc_look.nd rfl (Or.inl rfl) (pe_ix (ix_listK K rfl) (pe_fldK K rfl (pv 0) rfl) (pv 1) (fun _ _ => rfl)))
      (pss_cons (ps_setLc (i := 3) rfl sc_look.nd rfl rfl rfl (pi_enumK K rfl rfl T.nb_enumerate (pa_cons (pe_fldK K rfl (pv 0) rfl) pa_nil)) (blkOk_by (N := ["pipe", "number", "piece", "pumps", "place", "pump"]) (sc := defScope s_look) (own := [("place", 4), ("pump", 5)]) (by decide +kernel)) (fun _ _ _ _ _ => (pg_tupK K rfl (n := 2) rfl (pgs_cons (pg_name (i := 4) sc_look.nd rfl (Or.inl rfl)) (pgs_cons (pg_name (i := 5) sc_look.nd rfl (Or.inl rfl)) pgs_nil)))) (fun _ _ _ _ _ => (pts_one (pt_cmpR op_eq (pe_fldK K rfl (pv 5) rfl) (pv 1) (nomark _)))) (fun _ _ _ _ _ => (pv 4)))
      (pss_one (ps_ret (pe_op op_cat (pe_lst (pa_cons (pe_fldK K rfl (pv 2) rfl) (pa_cons (pe_fldK K rfl (pv 2) rfl) (pa_cons (pe_fldK K rfl (pv 2) rfl) pa_nil)))) (pv 3))))))), ?_⟩
    walk_at "rd"
    refine rd_len (SqL.of hp.lp) ?_
    rw [hlen]
    walk_at "rd"
    refine rd_ite (fun h => ?_) (fun h => ?_)
    · walk_at "rd"
      refine rd_new (by simp) (k.say (Same.refl H) ?_)
      unfold rowOf
      simp only [Kv335.Abs.does]
      rw [if_pos (by omega)]
      rfl
    have hi : ¬ a.pieces.length ≤ i := by omega
    have hi' : i < ps.length := by rw [hp.plen]; omega
    have hq := List.getElem?_eq_getElem hi'
    obtain ⟨x, hx, hxa⟩ := hp.piece hq
    walk_at "rd"
    refine rd_ixL (SqL.of hp.lp) (at_of (j := i) rfl (by rw [List.getElem?_map, hq]; rfl)) ?_
    walk_at "rd"
    refine ⟨_, _, rfl, SqL.of hp.lq, fun D hD => ?_⟩
    have s0 : Same H (upd H D (.lst [])) := Same.upd hD
    refine lc_enum (K := K) (a := c) (xs := qs.map V.ref) (fun j H' => Same H H' ∧ H' D = some (.lst ((Kv335.ints ((List.range j).filter fun n => (a.pump n).at_ == i)).map V.int)))
      ⟨s0, upd_same⟩ (fun j H' _ h => SqL.of (h.1 _ _ hp.lq)) ?_ ?_
    · rintro j y H' Tp hy ⟨s1, hD1⟩ hT
      obtain ⟨q, hq, rfl⟩ := get_ref hy
      obtain ⟨z, hz, hza⟩ := hp.pump hq
      have s2 : Same H' (upd H' Tp (.tup [.int (j : Nat), .ref q])) := Same.upd hT
      have hza := hza.mono (s1.trans s2)
      have hj8 : j < 6 := by
        have := (List.getElem?_eq_some_iff.mp hq).1
        have := hp.qlen
        have := hG.nq
        omega
      refine rd_pair upd_same ⟨rfl, ?_⟩
      walk_at "rd"
      have e1 := range_step (P := fun n => (a.pump n).at_ == i) (i := j)
      have eb : ((a.pump j).at_ == i) = (z.at_ == i) := by rw [pump_at hz]
      refine rd_ite (fun h => ?_) (fun h => ?_)
      · have h' : z.at_ = i := by omega
        rw [show ((a.pump j).at_ == i) = true by rw [eb, h']; simp, if_pos rfl] at e1
        walk_at "rd"
        refine ⟨_, s2 _ _ hD1, ?_, ?_, ?_⟩
        · rw [List.length_map]
          refine small1000 ?_
          show ((List.filter _ _).map _).length ≤ _
          rw [List.length_map]
          refine Nat.le_trans (List.length_filter_le _ _) ?_
          rw [List.length_range]
          omega
        · intro b' o e
          rw [upd_ne (ne_of_none e hD)]
          exact (s1.trans s2) b' o e
        · rw [upd_same, e1, ints_app, List.map_append]
          rfl
      · have h' : ¬ z.at_ = i := by omega
        rw [show ((a.pump j).at_ == i) = false by rw [eb]; simpa using h', if_neg (by decide), List.append_nil] at e1
        exact ⟨s1.trans s2, by rw [e1]; exact s2 _ _ hD1⟩
    · rintro H' ⟨s1, hD1⟩
      rw [List.length_map, hp.qlen] at hD1
      have hxa := hxa.mono s1
      walk_at "rd"
      refine rd_new (by simp) fun r2 hr2 => ?_
      have s2 : Same H' (upd H' r2 (.lst [.int x.long, .int x.rise, .int x.wide])) := Same.upd hr2
      walk_at "rd"
      have hle : (Kv335.ints ((List.range a.pumps.length).filter fun n => (a.pump n).at_ == i)).length ≤ 6 := by
        show ((List.filter _ _).map _).length ≤ _
        rw [List.length_map]
        refine Nat.le_trans (List.length_filter_le _ _) ?_
        rw [List.length_range]
        exact hG.nq
      refine rd_cat upd_same (s2 _ _ hD1) ?_ ?_
      · rw [List.length_map]
        exact Nat.le_of_lt (small1000 (by simp; omega))
      · have q := k.new (H1 := upd H' r2 (.lst [.int x.long, .int x.rise, .int x.wide])) (ans' := (x.long : Int) :: x.rise :: (x.wide : Int) :: Kv335.ints ((List.range a.pumps.length).filter fun n => (a.pump n).at_ == i)) (s1.trans s2) ?_
        · exact q
        · unfold rowOf
          simp only [Kv335.Abs.does]
          rw [if_neg hi, piece_at hx]
          rfl
theorem ok_state (T : Txt K mg A) : FnOk P w K mg base CX0 1 A.f_state A.d_state ["pipe"] (sp_state K A) := by
  refine T.F_state.ok sc_state (fun vs H Q E h => ?_) (fun cdv Ar outer s H vs Q E hr h => ?_)
  · obtain ⟨p, F, b, a, rfl, _⟩ := h
    rfl
  · obtain ⟨p, F, b, a, rfl, hp, hG, k⟩ := h
    have hpA := hp
    obtain ⟨dx, l, c, ps, qs, hp, rfl⟩ := hp
    have hnp := hG.np
    refine ⟨_, (pss_cons (ps_set (i := 1) sc_state.nd rfl (Or.inl rfl) (pe_callB (cr_sumK K rfl rfl) (by rfl) T.nb_sum (by decide +kernel) (pa_cons (pe_lc rfl sc_state.nd (pi_listK K rfl (pe_fldK K rfl (pv 0) rfl)) (blkOk_by (N := ["pipe", "metres", "piece"]) (sc := defScope s_state) (own := [("piece", 2)]) (by decide +kernel)) (fun _ _ _ _ _ => (pg_name (i := 2) sc_state.nd rfl (Or.inl rfl))) (fun _ _ _ _ _ => pts_nil) (fun _ _ _ _ _ => (pe_fldK K rfl (pv 2) rfl))) pa_nil)))
      (pss_one (ps_ret (pe_lst (pa_cons pe_int (pa_cons (pe_callB (call_lenK K rfl) (by rfl) T.nb_len PySem.boot_len (pa_cons (pe_fldK K rfl (pv 0) rfl) pa_nil)) (pa_cons (pe_callB (call_lenK K rfl) (by rfl) T.nb_len PySem.boot_len (pa_cons (pe_fldK K rfl (pv 0) rfl) pa_nil)) (pa_cons (pe_fldK K rfl (pv 0) rfl) (pa_cons (pe_fldK K rfl (pv 0) rfl) (pa_cons (pe_fldK K rfl (pv 0) rfl) (pa_cons (pe_fldK K rfl (pv 0) rfl) (pa_cons (pv 1) pa_nil)))))))))))), ?_⟩
    walk_at "rd"
    refine ⟨_, rfl, ⟨_, SqL.of hp.lp⟩, fun D hD => ?_⟩
    have s0 : Same H (upd H D (.lst [])) := Same.upd hD
    refine lc_list (K := K) (a := l) (xs := ps.map V.ref) (fun j H' => Same H H' ∧ H' D = some (.lst ((a.pieces.take j).map fun x => V.int ((x.long : Nat) : Int))))
      ⟨s0, upd_same⟩ (fun j H' _ h => SqL.of (h.1 _ _ hp.lp)) ?_ ?_
    · rintro j y H' hy ⟨s1, hD1⟩
      obtain ⟨q, hq, rfl⟩ := get_ref hy
      obtain ⟨x, hx, hxa⟩ := hp.piece hq
      have hxa := hxa.mono s1
      refine rd_gname ⟨rfl, ?_⟩
      walk_at "rd"
      refine ⟨_, hD1, ?_, ?_, ?_⟩
      · rw [List.length_map, List.length_take]
        exact small1000 (by omega)
      · intro b' o e
        rw [upd_ne (ne_of_none e hD)]
        exact s1 b' o e
      · rw [upd_same, take_snoc hx, List.map_append]
        rfl
    · rintro H' ⟨s1, hD1⟩
      rw [List.length_map, hp.plen, List.take_length] at hD1
      walk_at "rd"
      refine rd_sum (ns := a.pieces.map fun x => ((x.long : Nat) : Int)) ?_ ?_
      · rw [List.map_map]
        exact SqL.of hD1
      have es : (a.pieces.map fun x => ((x.long : Nat) : Int)).sum = (((a.pieces.map Kv335.Piece.long).sum : Nat) : Int) := by
        rw [← sum_cast, List.map_map]
        rfl
      rw [es]
      have hp1 := hp.mono s1
      walk_at "rd"
      refine rd_len (SqL.of hp1.lp) ?_
      rw [List.length_map, hp.plen]
      walk_at "rd"
      refine rd_len (SqL.of hp1.lq) ?_
      rw [List.length_map, hp.qlen]
      walk_at "rd"
      refine rd_new (by simp) (k.new (ans' := [0, (a.pieces.length : Int), (a.pumps.length : Int), (a.grain : Int), (a.mix : Int), a.low, a.high, (((a.pieces.map Kv335.Piece.long).sum : Nat) : Int)]) s1 ?_)
      rfl
end
end Sp

set_option Elab.async false
set_option linter.all false
set_option maxRecDepth 100000
set_option maxHeartbeats 2000000
namespace Sp
open PySem PySem.Spec PyProof.Rows L2
def RepS (A : Ad) (H : Hp) (p : Addr) (F : List Addr) (s : Kv335.State) : Prop := match s with
  | none => ∃ a, PipeAt A H p F false a
  | some a => PipeAt A H p F true a ∧ Good a
theorem RepS.mono {A : Ad} {H H' : Hp} {p : Addr} {F : List Addr} {s : Kv335.State} (h : RepS A H p F s) (e : Same H H') : RepS A H' p F s := by
  cases s with
  | none =>
    obtain ⟨a, h⟩ := h
    exact ⟨a, h.mono e⟩
  | some a => exact ⟨h.1.mono e, h.2⟩
/-- behind a call: the state is s, the answer ans is a new list; what is not the pipe's own stays -/
def Step (A : Ad) (H : Hp) (p : Addr) (F : List Addr) (Q : VK) (s : Kv335.State) (ans : List Int) : Prop := ∀ (H' : Hp) (r : Addr) (F' : List Addr), RepS A H' p F' s → (∀ b, b ∈ F' → b ∈ F ∨ H b = none) → (∀ b o, H b = some o → b ∉ F → H' b = some o) →
  H r = none → H' r = some (.lst (ans.map V.int)) → Q (.ref r) H'
section
variable {A : Ad} {H H1 : Hp} {p : Addr} {F F1 : List Addr} {Q : VK} {s : Kv335.State} {ans : List Int} {z : Int}
theorem Step.ret (k : Step A H p F Q s ans) (h : RepS A H p F s) : Ret H Q ans := fun H' r e hr hr' => k H' r F (h.mono e) (fun _ z => .inl z) (fun b o z _ => e b o z) hr hr'
theorem Step.new (k : Step A H p F Q s ans) (h : RepS A H1 p F1 s) (hF : ∀ b, b ∈ F1 → b ∈ F ∨ H b = none) (fr : ∀ b o, H b = some o → b ∉ F → H1 b = some o) (hn : ∀ b, H1 b = none → H b = none) (e : ans = [z]) : ∀ r, H1 r = none → Q (.ref r) (upd H1 r (.lst [.int z])) := fun r hr =>
  k _ r F1 (h.mono (Same.upd hr)) hF (fun b o z hb => Same.upd hr b o (fr b o z hb)) (hn r hr) (by rw [upd_same, e]; rfl)
theorem Step.say (k : Step A H p F Q s ans) (h : RepS A H p F s) (e : ans = [z]) : ∀ r, H r = none → Q (.ref r) (upd H r (.lst [.int z])) := k.new h (fun _ z => .inl z) (fun _ _ z _ => z) (fun _ z => z) e
end
section
variable {A : Ad} {H H1 : Hp} {p dx l k : Addr} {ps qs : List Addr} {b : Bool} {a : Kv335.Abs}
theorem PipeOn.pl (h : PipeOn A H p dx l k ps qs b a) : l ≠ p := ne_of h.lp h.ob (by intro z; cases z)
theorem PipeOn.pk (h : PipeOn A H p dx l k ps qs b a) : k ≠ p := ne_of h.lq h.ob (by intro z; cases z)
theorem PipeOn.pcOf (h : PipeOn A H p dx l k ps qs b a) {q : Addr} (m : q ∈ ps) : ∃ x dq, H q = some (.ins A.c_Piece dq (pieceF x)) := by
  obtain ⟨j, hj⟩ := List.mem_iff_getElem?.mp m
  obtain ⟨x, _, dq, e⟩ := h.piece hj
  exact ⟨x, dq, e⟩
theorem PipeOn.puOf (h : PipeOn A H p dx l k ps qs b a) {q : Addr} (m : q ∈ qs) : ∃ x dq, H q = some (.ins A.c_Pump dq (pumpF x)) := by
  obtain ⟨j, hj⟩ := List.mem_iff_getElem?.mp m
  obtain ⟨x, _, dq, e⟩ := h.pump hj
  exact ⟨x, dq, e⟩
theorem ins_len {C C' d d' : Addr} {f f' : List (Str × V)} (h : f.length ≠ f'.length) : HO.ins C d f ≠ HO.ins C' d' f' := fun z => by
  have e := (HO.ins.inj z).2.2
  exact h (congrArg List.length e)
theorem pc_pu {C C' d d' : Addr} {x : Kv335.Piece} {y : Kv335.Pump} : HO.ins C d (pieceF x) ≠ HO.ins C' d' (pumpF y) := fun z => by
  have e := (HO.ins.inj z).2.2
  have e1 := congrArg (fun l => l.map (·.1)) e
  revert e1
  show ¬ (([("long" : Str), "rise", "wide"] : List Str) = ([("at" : Str), "adds", "runs"] : List Str))
  decide +kernel
theorem PipeOn.ps_p (h : PipeOn A H p dx l k ps qs b a) {q : Addr} (m : q ∈ ps) : q ≠ p := by
  obtain ⟨x, dq, e⟩ := h.pcOf m
  exact ne_of e h.ob (ins_len (by show 3 ≠ 7; decide))
theorem PipeOn.qs_p (h : PipeOn A H p dx l k ps qs b a) {q : Addr} (m : q ∈ qs) : q ≠ p := by
  obtain ⟨x, dq, e⟩ := h.puOf m
  exact ne_of e h.ob (ins_len (by show 3 ≠ 7; decide))
theorem PipeOn.ps_l (h : PipeOn A H p dx l k ps qs b a) {q : Addr} (m : q ∈ ps) : q ≠ l ∧ q ≠ k := by
  obtain ⟨x, dq, e⟩ := h.pcOf m
  exact ⟨ne_of e h.lp (by intro z; cases z), ne_of e h.lq (by intro z; cases z)⟩
theorem PipeOn.qs_l (h : PipeOn A H p dx l k ps qs b a) {q : Addr} (m : q ∈ qs) : q ≠ l ∧ q ≠ k := by
  obtain ⟨x, dq, e⟩ := h.puOf m
  exact ⟨ne_of e h.lp (by intro z; cases z), ne_of e h.lq (by intro z; cases z)⟩
theorem PipeOn.ps_qs (h : PipeOn A H p dx l k ps qs b a) {q q' : Addr} (m : q ∈ ps) (m' : q' ∈ qs) : q ≠ q' := by
  obtain ⟨x, dq, e⟩ := h.pcOf m
  obtain ⟨y, dq', e'⟩ := h.puOf m'
  exact ne_of e e' pc_pu
/-- all of the pipe's own is there -/
theorem PipeOn.isSome (h : PipeOn A H p dx l k ps qs b a) {q : Addr} (m : q ∈ p :: l :: k :: (ps ++ qs)) : H q ≠ none := by
  intro z
  rcases List.mem_cons.mp m with rfl | m
  · rw [h.ob] at z; cases z
  rcases List.mem_cons.mp m with rfl | m
  · rw [h.lp] at z; cases z
  rcases List.mem_cons.mp m with rfl | m
  · rw [h.lq] at z; cases z
  rcases List.mem_append.mp m with m | m
  · obtain ⟨x, dq, e⟩ := h.pcOf m
    rw [e] at z; cases z
  · obtain ⟨x, dq, e⟩ := h.puOf m
    rw [e] at z; cases z
/-- the pipe's own numbers -/
theorem PipeOn.num (h : PipeOn A H p dx l k ps qs b a) {b' : Bool} {a' : Kv335.Abs} (e1 : a'.pieces = a.pieces) (e2 : a'.pumps = a.pumps) : PipeOn A (upd H p (.ins A.c_Pipe dx (pipeF b' a' l k))) p dx l k ps qs b' a' :=
  ⟨upd_same, by rw [upd_ne h.pl]; exact h.lp, by rw [upd_ne h.pk]; exact h.lq, h.ne, h.ndp, h.ndq, by rw [e1]; exact h.plen, by rw [e2]; exact h.qlen,
    fun j q x i1 i2 => by
      rw [e1] at i2
      obtain ⟨dq, e⟩ := h.pat j q x i1 i2
      exact ⟨dq, by rw [upd_ne (h.ps_p (List.mem_of_getElem? i1))]; exact e⟩,
    fun j q x i1 i2 => by
      rw [e2] at i2
      obtain ⟨dq, e⟩ := h.qat j q x i1 i2
      exact ⟨dq, by rw [upd_ne (h.qs_p (List.mem_of_getElem? i1))]; exact e⟩⟩
theorem nd_snocA {l : List Addr} {x : Addr} (h : l.Nodup) (hx : x ∉ l) : (l ++ [x]).Nodup := by
  rw [List.nodup_append]
  refine ⟨h, by simp, ?_⟩
  intro a ha b hb e
  rw [List.mem_singleton] at hb
  subst hb
  subst e
  exact hx ha
theorem get_snoc {α : Type} {l : List α} {x y : α} {j : Nat} (h : (l ++ [x])[j]? = some y) : (j < l.length ∧ l[j]? = some y) ∨ (j = l.length ∧ y = x) := by
  by_cases hj : j < l.length
  · rw [List.getElem?_append_left hj] at h
    exact .inl ⟨hj, h⟩
  · have hj2 : j < (l ++ [x]).length := (List.getElem?_eq_some_iff.mp h).1
    rw [List.length_append, List.length_singleton] at hj2
    have e : j = l.length := by omega
    subst e
    rw [List.getElem?_append_right (Nat.le_refl _), Nat.sub_self] at h
    exact .inr ⟨rfl, (Option.some.inj h).symm⟩
/-- one more piece -/
theorem PipeOn.addPiece (h : PipeOn A H p dx l k ps qs b a) (s : Same H H1) {x : Addr} {pc : Kv335.Piece} (hx0 : H x = none) (hx : PieceAt A H1 x pc) :
    PipeOn A (upd H1 l (.lst ((ps ++ [x]).map V.ref))) p dx l k (ps ++ [x]) qs b { a with pieces := a.pieces ++ [pc] } := by
  have h1 := h.mono s
  have fresh : x ∉ ps := fun m => by
    obtain ⟨_, _, e⟩ := h.pcOf m
    rw [hx0] at e
    cases e
  obtain ⟨dq, hx⟩ := hx
  have hxl : x ≠ l := ne_of hx h1.lp (by intro z; cases z)
  refine ⟨by rw [upd_ne h.pl.symm]; exact h1.ob, upd_same, by rw [upd_ne h.ne.symm]; exact h1.lq, h.ne, nd_snocA h.ndp fresh, h.ndq, ?_, h.qlen, fun j q y i1 i2 => ?_, fun j q y i1 i2 => ?_⟩
  · show (ps ++ [x]).length = (a.pieces ++ [pc]).length
    rw [List.length_append, List.length_append, h.plen]
    rfl
  · rcases get_snoc i1 with ⟨j1, i1⟩ | ⟨j1, e1⟩
    · rcases get_snoc (l := a.pieces) i2 with ⟨j2, i2⟩ | ⟨j2, e2⟩
      · obtain ⟨d, e⟩ := h1.pat j q y i1 i2
        exact ⟨d, by rw [upd_ne (h1.ps_l (List.mem_of_getElem? i1)).1]; exact e⟩
      · rw [← h.plen] at j2
        omega
    · rcases get_snoc (l := a.pieces) i2 with ⟨j2, i2⟩ | ⟨j2, e2⟩
      · rw [← h.plen] at j2
        omega
      · rw [e1, e2]
        exact ⟨dq, by rw [upd_ne hxl]; exact hx⟩
  · obtain ⟨d, e⟩ := h1.qat j q y i1 i2
    exact ⟨d, by rw [upd_ne (h1.qs_l (List.mem_of_getElem? i1)).1]; exact e⟩
/-- one more pump -/
theorem PipeOn.addPump (h : PipeOn A H p dx l k ps qs b a) (s : Same H H1) {x : Addr} {pu : Kv335.Pump} (hx0 : H x = none) (hx : PumpAt A H1 x pu) :
    PipeOn A (upd H1 k (.lst ((qs ++ [x]).map V.ref))) p dx l k ps (qs ++ [x]) b { a with pumps := a.pumps ++ [pu] } := by
  have h1 := h.mono s
  have fresh : x ∉ qs := fun m => by
    obtain ⟨_, _, e⟩ := h.puOf m
    rw [hx0] at e
    cases e
  obtain ⟨dq, hx⟩ := hx
  have hxl : x ≠ k := ne_of hx h1.lq (by intro z; cases z)
  refine ⟨by rw [upd_ne h.pk.symm]; exact h1.ob, by rw [upd_ne h.ne]; exact h1.lp, upd_same, h.ne, h.ndp, nd_snocA h.ndq fresh, h.plen, ?_, fun j q y i1 i2 => ?_, fun j q y i1 i2 => ?_⟩
  · show (qs ++ [x]).length = (a.pumps ++ [pu]).length
    rw [List.length_append, List.length_append, h.qlen]
    rfl
  · obtain ⟨d, e⟩ := h1.pat j q y i1 i2
    exact ⟨d, by rw [upd_ne (h1.ps_l (List.mem_of_getElem? i1)).2]; exact e⟩
  · rcases get_snoc i1 with ⟨j1, i1⟩ | ⟨j1, e1⟩
    · rcases get_snoc (l := a.pumps) i2 with ⟨j2, i2⟩ | ⟨j2, e2⟩
      · obtain ⟨d, e⟩ := h1.qat j q y i1 i2
        exact ⟨d, by rw [upd_ne (h1.qs_l (List.mem_of_getElem? i1)).2]; exact e⟩
      · rw [← h.qlen] at j2
        omega
    · rcases get_snoc (l := a.pumps) i2 with ⟨j2, i2⟩ | ⟨j2, e2⟩
      · rw [← h.qlen] at j2
        omega
      · rw [e1, e2]
        exact ⟨dq, by rw [upd_ne hxl]; exact hx⟩
/-- a pump changed -/
theorem PipeOn.setPump (h : PipeOn A H p dx l k ps qs b a) {j : Nat} {q dq : Addr} {x : Kv335.Pump} (hq : qs[j]? = some q) (hx : H q = some (.ins A.c_Pump dq (pumpF x))) (x' : Kv335.Pump) :
    PipeOn A (upd H q (.ins A.c_Pump dq (pumpF x'))) p dx l k ps qs b { a with pumps := a.pumps.set j x' } := by
  have m := List.mem_of_getElem? hq
  refine ⟨by rw [upd_ne (h.qs_p m).symm]; exact h.ob, by rw [upd_ne (h.qs_l m).1.symm]; exact h.lp, by rw [upd_ne (h.qs_l m).2.symm]; exact h.lq, h.ne, h.ndp, h.ndq, h.plen, ?_, fun j' q' y i1 i2 => ?_, fun j' q' y i1 i2 => ?_⟩
  · show qs.length = (a.pumps.set j x').length
    rw [List.length_set]
    exact h.qlen
  · obtain ⟨d, e⟩ := h.pat j' q' y i1 i2
    exact ⟨d, by rw [upd_ne (h.ps_qs (List.mem_of_getElem? i1) m)]; exact e⟩
  · have i2 : (a.pumps.set j x')[j']? = Option.some y := i2
    by_cases hj : j = j'
    · subst hj
      have eq : q = q' := Option.some.inj (hq.symm.trans i1)
      subst eq
      have hl : j < a.pumps.length := by
        rw [← h.qlen]
        exact (List.getElem?_eq_some_iff.mp hq).1
      rw [List.getElem?_set_self hl] at i2
      have e := Option.some.inj i2
      subst e
      exact ⟨dq, upd_same⟩
    · rw [List.getElem?_set_ne hj] at i2
      obtain ⟨d, e⟩ := h.qat j' q' y i1 i2
      have n : q' ≠ q := fun z => hj (nd_ix h.ndq hq (by rw [← z]; exact i1))
      exact ⟨d, by rw [upd_ne n]; exact e⟩
theorem get_dropLast {α : Type} {l : List α} {y : α} {j : Nat} (h : l.dropLast[j]? = some y) : l[j]? = some y := by
  rw [List.dropLast_eq_take, List.getElem?_take] at h
  by_cases hj : j < l.length - 1
  · rw [if_pos hj] at h
    exact h
  · rw [if_neg hj] at h
    cases h
/-- the last piece taken off -/
theorem PipeOn.cut (h : PipeOn A H p dx l k ps qs b a) : PipeOn A (upd H l (.lst (ps.dropLast.map V.ref))) p dx l k ps.dropLast qs b { a with pieces := a.pieces.dropLast } := by
  refine ⟨by rw [upd_ne h.pl.symm]; exact h.ob, upd_same, by rw [upd_ne h.ne.symm]; exact h.lq, h.ne, h.ndp.sublist (List.dropLast_sublist _), h.ndq, ?_, h.qlen, fun j q y i1 i2 => ?_, fun j q y i1 i2 => ?_⟩
  · show ps.dropLast.length = a.pieces.dropLast.length
    rw [List.length_dropLast, List.length_dropLast, h.plen]
  · obtain ⟨d, e⟩ := h.pat j q y (get_dropLast i1) (get_dropLast (l := a.pieces) i2)
    exact ⟨d, by rw [upd_ne (h.ps_l (List.mem_of_getElem? (get_dropLast i1))).1]; exact e⟩
  · obtain ⟨d, e⟩ := h.qat j q y i1 i2
    exact ⟨d, by rw [upd_ne (h.qs_l (List.mem_of_getElem? i1)).1]; exact e⟩
/-- a pipe without pieces and pumps -/
theorem PipeOn.fresh {b : Bool} {a : Kv335.Abs} (h : H p = some (.ins A.c_Pipe dx (pipeF b a l k))) (hl : H l = some (.lst [])) (hk : H k = some (.lst [])) (n : l ≠ k) (e1 : a.pieces = []) (e2 : a.pumps = []) : PipeOn A H p dx l k [] [] b a :=
  ⟨h, hl, hk, n, List.nodup_nil, List.nodup_nil, by rw [e1]; rfl, by rw [e2]; rfl, fun j q x i1 _ => by simp at i1, fun j q x i1 _ => by simp at i1⟩
end
end Sp

set_option Elab.async false
set_option linter.all false
set_option maxRecDepth 100000
set_option maxHeartbeats 2000000
namespace Sp
open PySem PySem.Spec PyProof.Rows L2
local macro_rules | `(tactic| walk_at "s1") => `(tactic| first
  | with_reducible refine rd_seq ?_
  | with_reducible refine rd_asg ?_
  | with_reducible refine rd_gname ?_
  | ((with_reducible apply rd_var); exact rfl)
  | with_reducible refine rd_c ?_
  | with_reducible refine rd_op ?_
  | with_reducible refine rd_i0 ?_
  | with_reducible refine rd_eqI ?_
  | ((with_reducible refine rd_mul ?_ ?_); first | exact mul_rN (by omega) (by omega) | exact mul_lN (by omega) (by omega))
  | ((with_reducible refine rd_fdiv ?_ ?_ ?_); (focus (first | decide | omega)); (focus (first | decide | omega)))
  | with_reducible refine rd_fld ?_
  | with_reducible refine rd_ret ?_
  | with_reducible refine rd_drop ?_
  | with_reducible refine rd_ifS ?_
  | with_reducible refine rd_if ?_
  | with_reducible refine rd_test ?_
  | with_reducible refine rd_tB ?_
  | with_reducible refine rd_and ?_
  | with_reducible refine rd_or ?_
  | with_reducible refine rd_not ?_
  | with_reducible refine rd_chain ?_
  | with_reducible refine rd_andV ?_
  | with_reducible refine rd_orV ?_
  | with_reducible refine rd_notV ?_
  | with_reducible refine rd_isblX ?_
  | with_reducible refine rd_nil ?_
  | with_reducible refine rd_cons ?_
  | with_reducible refine rd_call ?_
  | with_reducible refine rd_callLen ?_
  | with_reducible refine rd_callB ?_
  | with_reducible refine rd_lst ?_
  | with_reducible refine rd_next ?_
  | with_reducible refine rd_sfld ?_
  | with_reducible refine rd_un ?_
  | with_reducible refine rd_u ?_
  | with_reducible refine rd_make ?_
  | with_reducible refine rd_for ?_
  | with_reducible refine rd_ilist ?_
  | with_reducible refine rd_ienum ?_
  | with_reducible refine rd_irng2 ?_
  | with_reducible refine rd_irng1 ?_
  | with_reducible refine rd_yes ?_
  | with_reducible refine rd_irng3 ?_
  | ((with_reducible refine rd_mod ?_ ?_); (focus decide))
  | with_reducible refine rd_lc ?_
  | with_reducible refine rd_sl ?_
  | with_reducible refine rd_nopart ?_
  | with_reducible refine rd_part ?_
  | with_reducible refine rd_isint ?_
  | with_reducible refine rd_neI ?_
  | with_reducible refine rd_bm ?_
  | with_reducible refine rd_bm0 ?_
  | with_reducible refine iteT ?_
  | ((with_reducible refine rd_iteDT ?_ ?_); (focus decide))
  | ((with_reducible refine rd_iteDF ?_ ?_); (focus decide))
  | ((with_reducible apply rd_ixL); (focus exact SqL.of (by assumption)); (focus exact rfl))
  | with_reducible refine iteF ?_
  | ((with_reducible apply rd_piece_long); assumption; assumption)
  | ((with_reducible apply rd_piece_rise); assumption; assumption)
  | ((with_reducible apply rd_piece_wide); assumption; assumption)
  | ((with_reducible apply rd_pump_at); assumption; assumption)
  | ((with_reducible apply rd_pump_adds); assumption; assumption)
  | ((with_reducible apply rd_pump_runs); assumption; assumption)
  | ((with_reducible apply rd_pipe_begun); assumption; assumption)
  | ((with_reducible apply rd_pipe_grain); assumption; assumption)
  | ((with_reducible apply rd_pipe_mix); assumption; assumption)
  | ((with_reducible apply rd_pipe_low); assumption; assumption)
  | ((with_reducible apply rd_pipe_high); assumption; assumption)
  | ((with_reducible apply rd_pipe_pieces); assumption; assumption)
  | ((with_reducible apply rd_pipe_pumps); assumption; assumption))
local macro_rules | `(tactic| walk_at "rd") => `(tactic| repeat walk_at "s1")
def grainOk (g : Nat) : Prop := 1 ≤ g ∧ g ≤ 9
instance {g : Nat} : Decidable (grainOk g) := inferInstanceAs (Decidable (1 ≤ g ∧ g ≤ 9))
def pieceOkN (n : Nat) (r : Int) (w : Nat) : Prop := (1 ≤ n ∧ n ≤ 3000) ∧ (-300 ≤ r ∧ r ≤ 300) ∧ (100 ≤ w ∧ w ≤ 1200)
instance {n w : Nat} {r : Int} : Decidable (pieceOkN n r w) := inferInstanceAs (Decidable ((1 ≤ n ∧ n ≤ 3000) ∧ (-300 ≤ r ∧ r ≤ 300) ∧ (100 ≤ w ∧ w ≤ 1200)))
def sp_is_grain (K : PySem.W.Frag) (A : Ad) : Sp := fun vs H Q _ => ∃ (g : Nat), vs = [.int g] ∧ Q (.bl (decide (grainOk g))) H
def sp_is_mix (K : PySem.W.Frag) (A : Ad) : Sp := fun vs H Q _ => ∃ (m : Nat), vs = [.int m] ∧ Q (.bl (decide (m ≤ 40))) H
def wideOk (w : Nat) : Prop := 100 ≤ w ∧ w ≤ 1200
instance {w : Nat} : Decidable (wideOk w) := inferInstanceAs (Decidable (100 ≤ w ∧ w ≤ 1200))
def sp_is_width (K : PySem.W.Frag) (A : Ad) : Sp := fun vs H Q _ => ∃ (w : Nat), vs = [.int w] ∧ Q (.bl (decide (wideOk w))) H
def sp_is_piece (K : PySem.W.Frag) (A : Ad) : Sp := fun vs H Q _ => ∃ (n : Nat) (r : Int) (w : Nat), vs = [.int n, .int r, .int w] ∧ Q (.bl (decide (pieceOkN n r w))) H
def sp_Piece__init__ (K : PySem.W.Frag) (A : Ad) : Sp := fun vs H Q _ => ∃ (p dx : Addr) (x : Kv335.Piece), vs = [.ref p, .int x.long, .int x.rise, .int x.wide] ∧ H p = some (.ins A.c_Piece dx []) ∧ ∀ H', H' p = some (.ins A.c_Piece dx (pieceF x)) → (∀ b, b ≠ p → H' b = H b) → Q .non H'
def sp_Pump__init__ (K : PySem.W.Frag) (A : Ad) : Sp := fun vs H Q _ => ∃ (p dx : Addr) (x : Kv335.Pump), vs = [.ref p, .int x.at_, .int x.adds, .int (runsI x)] ∧ H p = some (.ins A.c_Pump dx []) ∧ ∀ H', H' p = some (.ins A.c_Pump dx (pumpF x)) → (∀ b, b ≠ p → H' b = H b) → Q .non H'
def sp_Pipe__init__ (K : PySem.W.Frag) (A : Ad) : Sp := fun vs H Q _ => ∃ (p dx : Addr), vs = [.ref p] ∧ H p = some (.ins A.c_Pipe dx []) ∧ ∀ H' l k, H' p = some (.ins A.c_Pipe dx (pipeG false 0 0 0 0 l k)) → H' l = some (.lst []) → H' k = some (.lst []) → l ≠ k → H l = none → H k = none →
  (∀ b o, H b = some o → b ≠ p → H' b = some o) → Q .non H'
def sp_begin (K : PySem.W.Frag) (A : Ad) : Sp := fun vs H Q _ => ∃ (p : Addr) (F : List Addr) (s : Kv335.State) (g m : Nat) (lo hi : Int), vs = [.ref p, .int g, .int m, .int lo, .int hi] ∧ RepS A H p F s ∧ Step A H p F Q (Kv335.act s (.begin_ g m lo hi)).1 (Kv335Neutral.row (Kv335.act s (.begin_ g m lo hi)).2)
def sp_add_piece (K : PySem.W.Frag) (A : Ad) : Sp := fun vs H Q _ => ∃ (p : Addr) (F : List Addr) (a : Kv335.Abs) (n : Nat) (r : Int) (w : Nat), vs = [.ref p, .int n, .int r, .int w] ∧ PipeAt A H p F true a ∧ Good a ∧ Step A H p F Q (some (a.does (.piece n r w)).1) (rowOf a (.piece n r w))
def sp_add_pump (K : PySem.W.Frag) (A : Ad) : Sp := fun vs H Q _ => ∃ (p : Addr) (F : List Addr) (a : Kv335.Abs) (i d : Nat), vs = [.ref p, .int i, .int d] ∧ PipeAt A H p F true a ∧ Good a ∧ Step A H p F Q (some (a.does (.pump i d)).1) (rowOf a (.pump i d))
def sp_switch_pump (K : PySem.W.Frag) (A : Ad) : Sp := fun vs H Q _ => ∃ (p : Addr) (F : List Addr) (a : Kv335.Abs) (i n : Nat), vs = [.ref p, .int i, .int n] ∧ PipeAt A H p F true a ∧ Good a ∧ Step A H p F Q (some (a.does (.on_ i n)).1) (rowOf a (.on_ i n))
def sp_change_mix (K : PySem.W.Frag) (A : Ad) : Sp := fun vs H Q _ => ∃ (p : Addr) (F : List Addr) (a : Kv335.Abs) (m : Nat), vs = [.ref p, .int m] ∧ PipeAt A H p F true a ∧ Good a ∧ Step A H p F Q (some (a.does (.mix m)).1) (rowOf a (.mix m))
def sp_change_grain (K : PySem.W.Frag) (A : Ad) : Sp := fun vs H Q _ => ∃ (p : Addr) (F : List Addr) (a : Kv335.Abs) (g : Nat), vs = [.ref p, .int g] ∧ PipeAt A H p F true a ∧ Good a ∧ Step A H p F Q (some (a.does (.grain g)).1) (rowOf a (.grain g))
def sp_cut_piece (K : PySem.W.Frag) (A : Ad) : Sp := fun vs H Q _ => ∃ (p : Addr) (F : List Addr) (a : Kv335.Abs), vs = [.ref p] ∧ PipeAt A H p F true a ∧ Good a ∧ Step A H p F Q (some (a.does .cut).1) (rowOf a .cut)
theorem begin_no {s : Kv335.State} {g m : Nat} {lo hi : Int} (h : ¬ (grainOk g ∧ m ≤ 40 ∧ (-100 ≤ lo ∧ lo ≤ 0) ∧ 1 ≤ hi ∧ hi ≤ 3000)) : Kv335.act s (.begin_ g m lo hi) = (s, Kv335.say (-22)) := by
  have h' : g = 0 ∨ 9 < g ∨ 40 < m ∨ lo < -100 ∨ 0 < lo ∨ hi < 1 ∨ 3000 < hi := by
    unfold grainOk at h
    omega
  have e : ∀ a : Kv335.Abs, a.does (.begin_ g m lo hi) = (a, Kv335.say (-22)) := fun a => by
    simp only [Kv335.Abs.does]
    rw [if_pos h']
  cases s with
  | none =>
    simp only [Kv335.act, e]
    rfl
  | some a => simp only [Kv335.act, e]
theorem begin_ok {s : Kv335.State} {g m : Nat} {lo hi : Int} (h : grainOk g ∧ m ≤ 40 ∧ (-100 ≤ lo ∧ lo ≤ 0) ∧ 1 ≤ hi ∧ hi ≤ 3000) : Kv335.act s (.begin_ g m lo hi) = (some (Kv335.begun g m lo hi), Kv335.say 0) := by
  have h' : ¬ (g = 0 ∨ 9 < g ∨ 40 < m ∨ lo < -100 ∨ 0 < lo ∨ hi < 1 ∨ 3000 < hi) := by
    unfold grainOk at h
    omega
  have e : ∀ a : Kv335.Abs, a.does (.begin_ g m lo hi) = (Kv335.begun g m lo hi, Kv335.say 0) := fun a => by
    simp only [Kv335.Abs.does]
    rw [if_neg h']
  cases s with
  | none =>
    simp only [Kv335.act, e]
    rfl
  | some a => simp only [Kv335.act, e]
theorem upd_none {H : Hp} {a b : Addr} {o : HO} (h : upd H a o b = none) : H b = none := by
  unfold upd at h
  split at h
  · cases h
  · exact h
theorem upd_noneL {H : Hp} {a b : Addr} {o : HO} (h : upd H a o b = none) : b ≠ a := by
  intro e
  subst e
  rw [upd_same] at h
  cases h
theorem memF {p l k b : Addr} {r : List Addr} (h : b ∉ p :: l :: k :: r) : b ≠ p ∧ b ≠ l ∧ b ≠ k ∧ b ∉ r := by
  simp only [List.mem_cons, not_or] at h
  exact h
theorem RepS.at {A : Ad} {H : Hp} {p : Addr} {F : List Addr} {s : Kv335.State} (h : RepS A H p F s) : ∃ b a, PipeAt A H p F b a := by
  cases s with
  | none =>
    obtain ⟨a, h⟩ := h
    exact ⟨false, a, h⟩
  | some a => exact ⟨true, a, h.1⟩
section
variable {P : Program} {w : World} {K : PySem.W.Frag} {mg : Str → Option Value} {base : Heap} {A : Ad}
theorem ok_is_grain (T : Txt K mg A) : FnOk P w K mg base CX0 1 A.f_is_grain A.d_is_grain ["grain"] (sp_is_grain K A) := by
  refine T.F_is_grain.ok sc_is_grain (fun vs H Q E h => ?_) (fun cdv Ar outer s H vs Q E hr h => ?_)
  · obtain ⟨g, rfl, _⟩ := h
    rfl
  · obtain ⟨g, rfl, k⟩ := h
    refine ⟨_, (pss_one (ps_ret (pe_chain op_le op_le pe_int (pv 0) pe_int))), ?_⟩
    walk_at "rd"
    refine rd_ite (fun h => ?_) (fun h => ?_)
    · walk_at "rd"
      show Q _ H
      rw [show decide ((g : Int) ≤ 9) = decide (grainOk g) from decide_eq_decide.mpr (by unfold grainOk; omega)]
      exact k
    · walk_at "rd"
      show Q _ H
      rw [show decide (grainOk g) = false from decide_eq_false (by unfold grainOk; omega)] at k
      exact k
theorem ok_is_mix (T : Txt K mg A) : FnOk P w K mg base CX0 1 A.f_is_mix A.d_is_mix ["mix"] (sp_is_mix K A) := by
  refine T.F_is_mix.ok sc_is_mix (fun vs H Q E h => ?_) (fun cdv Ar outer s H vs Q E hr h => ?_)
  · obtain ⟨m, rfl, _⟩ := h
    rfl
  · obtain ⟨m, rfl, k⟩ := h
    refine ⟨_, (pss_one (ps_ret (pe_chain op_le op_le pe_int (pv 0) (pe_glob (v := .int (40)) rfl T.g_MOST_MIX.choose_spec.1 T.g_MOST_MIX.choose_spec.2)))), ?_⟩
    walk_at "rd"
    refine rd_ite (fun h => ?_) (fun h => absurd h (by omega))
    walk_at "rd"
    show Q _ H
    rw [show decide ((m : Int) ≤ 40) = decide (m ≤ 40) from decide_eq_decide.mpr (by omega)]
    exact k
theorem ok_is_width (T : Txt K mg A) : FnOk P w K mg base CX0 1 A.f_is_width A.d_is_width ["wide"] (sp_is_width K A) := by
  refine T.F_is_width.ok sc_is_width (fun vs H Q E h => ?_) (fun cdv Ar outer s H vs Q E hr h => ?_)
  · obtain ⟨g, rfl, _⟩ := h
    rfl
  · obtain ⟨g, rfl, k⟩ := h
    refine ⟨_, (pss_one (ps_ret (pe_chain op_le op_le pe_int (pv 0) pe_int))), ?_⟩
    walk_at "rd"
    refine rd_ite (fun h => ?_) (fun h => ?_)
    · walk_at "rd"
      show Q _ H
      rw [show decide ((g : Int) ≤ 1200) = decide (wideOk g) from decide_eq_decide.mpr (by unfold wideOk; omega)]
      exact k
    · walk_at "rd"
      show Q _ H
      rw [show decide (wideOk g) = false from decide_eq_false (by unfold wideOk; omega)] at k
      exact k
theorem ok_is_piece (T : Txt K mg A) : FnOk P w K mg base CX0 2 A.f_is_piece A.d_is_piece ["long", "rise", "wide"] (sp_is_piece K A) := by
  have G_is_width : FnOk P w K mg base CX0 1 A.f_is_width A.d_is_width ["wide"] (sp_is_width K A) := ok_is_width T
  refine T.F_is_piece.ok sc_is_piece (fun vs H Q E h => ?_) (fun cdv Ar outer s H vs Q E hr h => ?_)
  · obtain ⟨n, r, w, rfl, _⟩ := h
    rfl
  · obtain ⟨n, r, w, rfl, k⟩ := h
    have no : ¬ pieceOkN n r w → Q (.bl false) H := fun h => by
      rw [decide_eq_false h] at k
      exact k
    refine ⟨_, (pss_one (ps_ret (pe_and (pe_chain op_le op_le (pe_glob (v := .int (1)) rfl T.g_SHORTEST.choose_spec.1 T.g_SHORTEST.choose_spec.2) (pv 0) (pe_glob (v := .int (3000)) rfl T.g_LONGEST.choose_spec.1 T.g_LONGEST.choose_spec.2)) (pe_and (pe_chain op_le op_le (pe_un un_neg pe_int) (pv 1) pe_int) (pe_one (pe_call G_is_width (hr.mono (by decide)) rfl T.m_is_width T.F_is_width.kp T.b_is_width .nil pass0 (pa_cons (pv 2) pa_nil))))))), ?_⟩
    walk_at "rd"
    refine rd_iteX (fun h1 => ?_) (fun h1 => ?_)
    · walk_at "rd"
      exact no (by unfold pieceOkN; omega)
    walk_at "rd"
    refine rd_iteX (fun h2 => ?_) (fun h2 => ?_)
    · walk_at "rd"
      exact no (by unfold pieceOkN; omega)
    walk_at "rd"
    refine rd_iteX (fun h3 => ?_) (fun h3 => ?_)
    · walk_at "rd"
      exact no (by unfold pieceOkN; omega)
    walk_at "rd"
    refine rd_iteX (fun h4 => ?_) (fun h4 => ?_)
    · walk_at "rd"
      exact no (by unfold pieceOkN; omega)
    walk_at "rd"
    refine ⟨w, rfl, ?_⟩
    walk_at "rd"
    show Q _ H
    rw [show decide (wideOk w) = decide (pieceOkN n r w) from decide_eq_decide.mpr (by unfold pieceOkN wideOk; omega)]
    exact k
theorem ok_Piece__init__ (T : Txt K mg A) : FnOk P w K mg base CX0 1 A.f_Piece__init__ A.d_Piece__init__ ["self", "long", "rise", "wide"] (sp_Piece__init__ K A) := by
  refine T.F_Piece__init__.ok sc_Piece__init__ (fun vs H Q E h => ?_) (fun cdv Ar outer s H vs Q E hr h => ?_)
  · obtain ⟨p, dx, x, rfl, _⟩ := h
    rfl
  · obtain ⟨p, dx, x, rfl, hp, k⟩ := h
    refine ⟨_, (pss_cons (ps_fldK K rfl (pv 0) (pv 1) rfl)
      (pss_cons (ps_fldK K rfl (pv 0) (pv 2) rfl)
      (pss_one (ps_fldK K rfl (pv 0) (pv 3) rfl)))), ?_⟩
    walk_at "rd"
    refine st_to hp T.cl_Piece T.n_Piece_long (by decide) rfl ?_
    walk_at "rd"
    refine st_to upd_same T.cl_Piece T.n_Piece_rise (by show 1 < 1000; decide) rfl ?_
    walk_at "rd"
    refine st_to (fs' := pieceF x) upd_same T.cl_Piece T.n_Piece_wide (by show 2 < 1000; decide) rfl ?_
    exact k _ upd_same fun b hb => by rw [upd_ne hb, upd_ne hb, upd_ne hb]
theorem ok_Pump__init__ (T : Txt K mg A) : FnOk P w K mg base CX0 1 A.f_Pump__init__ A.d_Pump__init__ ["self", "at", "adds", "runs"] (sp_Pump__init__ K A) := by
  refine T.F_Pump__init__.ok sc_Pump__init__ (fun vs H Q E h => ?_) (fun cdv Ar outer s H vs Q E hr h => ?_)
  · obtain ⟨p, dx, x, rfl, _⟩ := h
    rfl
  · obtain ⟨p, dx, x, rfl, hp, k⟩ := h
    refine ⟨_, (pss_cons (ps_fldK K rfl (pv 0) (pv 1) rfl)
      (pss_cons (ps_fldK K rfl (pv 0) (pv 2) rfl)
      (pss_one (ps_fldK K rfl (pv 0) (pv 3) rfl)))), ?_⟩
    walk_at "rd"
    refine st_to hp T.cl_Pump T.n_Pump_at (by decide) rfl ?_
    walk_at "rd"
    refine st_to upd_same T.cl_Pump T.n_Pump_adds (by show 1 < 1000; decide) rfl ?_
    walk_at "rd"
    refine st_to (fs' := pumpF x) upd_same T.cl_Pump T.n_Pump_runs (by show 2 < 1000; decide) rfl ?_
    exact k _ upd_same fun b hb => by rw [upd_ne hb, upd_ne hb, upd_ne hb]
theorem ok_Pipe__init__ (T : Txt K mg A) : FnOk P w K mg base CX0 1 A.f_Pipe__init__ A.d_Pipe__init__ ["self"] (sp_Pipe__init__ K A) := by
  refine T.F_Pipe__init__.ok sc_Pipe__init__ (fun vs H Q E h => ?_) (fun cdv Ar outer s H vs Q E hr h => ?_)
  · obtain ⟨p, dx, rfl, _⟩ := h
    rfl
  · obtain ⟨p, dx, rfl, hp, k⟩ := h
    refine ⟨_, (pss_cons (ps_fldK K rfl (pv 0) pe_bl rfl)
      (pss_cons (ps_fldK K rfl (pv 0) pe_int rfl)
      (pss_cons (ps_fldK K rfl (pv 0) pe_int rfl)
      (pss_cons (ps_fldK K rfl (pv 0) pe_int rfl)
      (pss_cons (ps_fldK K rfl (pv 0) pe_int rfl)
      (pss_cons (ps_fldK K rfl (pv 0) (pe_lst pa_nil) rfl)
      (pss_one (ps_fldK K rfl (pv 0) (pe_lst pa_nil) rfl)))))))), ?_⟩
    walk_at "rd"
    refine st_to hp T.cl_Pipe T.n_Pipe_begun (by decide) rfl ?_
    walk_at "rd"
    refine st_to upd_same T.cl_Pipe T.n_Pipe_grain (by show 1 < 1000; decide) rfl ?_
    walk_at "rd"
    refine st_to upd_same T.cl_Pipe T.n_Pipe_mix (by show 2 < 1000; decide) rfl ?_
    walk_at "rd"
    refine st_to upd_same T.cl_Pipe T.n_Pipe_low (by show 3 < 1000; decide) rfl ?_
    walk_at "rd"
    refine st_to upd_same T.cl_Pipe T.n_Pipe_high (by show 4 < 1000; decide) rfl ?_
    walk_at "rd"
    refine rd_new (by simp) fun l hl => ?_
    have npl : p ≠ l := (upd_noneL hl).symm
    have hl0 : H l = none := upd_none (upd_none (upd_none (upd_none (upd_none hl))))
    walk_at "rd"
    refine st_to (C := A.c_Pipe) (dx := dx) (by rw [upd_ne npl]; exact upd_same) T.cl_Pipe T.n_Pipe_pieces (by show 5 < 1000; decide) rfl ?_
    walk_at "rd"
    refine rd_new (by simp) fun k' hk' => ?_
    have npk : p ≠ k' := (upd_noneL hk').symm
    have nlk : l ≠ k' := (upd_noneL (upd_none hk')).symm
    have hk0 : H k' = none := upd_none (upd_none (upd_none (upd_none (upd_none (upd_none (upd_none hk'))))))
    walk_at "rd"
    refine st_to (C := A.c_Pipe) (dx := dx) (fs' := pipeG false 0 0 0 0 l k') (by rw [upd_ne npk]; exact upd_same) T.cl_Pipe T.n_Pipe_pumps (by show 6 < 1000; decide) rfl ?_
    refine k _ l k' upd_same ?_ ?_ nlk hl0 hk0 fun b o e hb => ?_
    · rw [upd_ne npl.symm, upd_ne nlk, upd_ne npl.symm, upd_same]
    · rw [upd_ne npk.symm, upd_same]
    · rw [upd_ne hb, upd_ne (ne_of_none e hk0), upd_ne hb, upd_ne (ne_of_none e hl0), upd_ne hb, upd_ne hb, upd_ne hb, upd_ne hb, upd_ne hb]
      exact e
theorem ok_begin (T : Txt K mg A) : FnOk P w K mg base CX0 2 A.f_begin A.d_begin ["pipe", "grain", "mix", "low", "high"] (sp_begin K A) := by
  have G_is_grain : FnOk P w K mg base CX0 1 A.f_is_grain A.d_is_grain ["grain"] (sp_is_grain K A) := ok_is_grain T
  have G_is_mix : FnOk P w K mg base CX0 1 A.f_is_mix A.d_is_mix ["mix"] (sp_is_mix K A) := ok_is_mix T
  refine T.F_begin.ok sc_begin (fun vs H Q E h => ?_) (fun cdv Ar outer s H vs Q E hr h => ?_)
  · obtain ⟨p, F, s, g, m, lo, hi, rfl, _⟩ := h
    rfl
  · obtain ⟨p, F, st, g, m, lo, hi, rfl, hR, k⟩ := h
    obtain ⟨b, a, hp⟩ := hR.at
    obtain ⟨dx, l, c, ps, qs, hp, rfl⟩ := hp
    have no : ¬ (grainOk g ∧ m ≤ 40 ∧ (-100 ≤ lo ∧ lo ≤ 0) ∧ 1 ≤ hi ∧ hi ≤ 3000) → ∀ r, H r = none → Q (.ref r) (upd H r (.lst [.int (-22)])) := fun h => by
      rw [begin_no h] at k
      exact k.say hR rfl
    refine ⟨_, (pss_cons (ps_if (PW.pt (pw_or (pt_not (pt_val (pe_call G_is_grain (hr.mono (by decide)) rfl T.m_is_grain T.F_is_grain.kp T.b_is_grain .nil pass0 (pa_cons (pv 1) pa_nil)))) (pw_or1 (pt_not (pt_val (pe_call G_is_mix (hr.mono (by decide)) rfl T.m_is_mix T.F_is_mix.kp T.b_is_mix .nil pass0 (pa_cons (pv 2) pa_nil))))))) (pss_one (ps_ret (pe_lst (pa_cons (pe_glob (v := .int (-22)) rfl T.g_OUT_OF_RANGE.choose_spec.1 T.g_OUT_OF_RANGE.choose_spec.2) pa_nil)))) pss_nil)
      (pss_cons (ps_if (PW.pt (pw_or (pt_not (pt_chain op_le op_le (pe_un un_neg pe_int) (pv 3) pe_int)) (pw_or1 (pt_not (pt_chain op_le op_le pe_int (pv 4) pe_int))))) (pss_one (ps_ret (pe_lst (pa_cons (pe_glob (v := .int (-22)) rfl T.g_OUT_OF_RANGE.choose_spec.1 T.g_OUT_OF_RANGE.choose_spec.2) pa_nil)))) pss_nil)
      (pss_cons (ps_fldK K rfl (pv 0) pe_bl rfl)
      (pss_cons (ps_fldK K rfl (pv 0) (pv 1) rfl)
      (pss_cons (ps_fldK K rfl (pv 0) (pv 2) rfl)
      (pss_cons (ps_fldK K rfl (pv 0) (pv 3) rfl)
      (pss_cons (ps_fldK K rfl (pv 0) (pv 4) rfl)
      (pss_cons (ps_fldK K rfl (pv 0) (pe_lst pa_nil) rfl)
      (pss_cons (ps_fldK K rfl (pv 0) (pe_lst pa_nil) rfl)
      (pss_one (ps_ret (pe_lst (pa_cons pe_int pa_nil))))))))))))), ?_⟩
    walk_at "rd"
    refine ⟨g, rfl, ?_⟩
    walk_at "rd"
    refine rd_iteNX (fun h1 => ?_) (fun h1 => ?_)
    · walk_at "rd"
      exact rd_new (by simp) (no (fun h => h1 h.1))
    walk_at "rd"
    refine ⟨m, rfl, ?_⟩
    walk_at "rd"
    refine rd_iteNX (fun h2 => ?_) (fun h2 => ?_)
    · walk_at "rd"
      exact rd_new (by simp) (no (fun h => h2 h.2.1))
    walk_at "rd"
    refine rd_iteX (fun h3 => ?_) (fun h3 => ?_)
    · walk_at "rd"
      exact rd_new (by simp) (no (fun h => h3 (by have := h.2.2.1.1; omega)))
    walk_at "rd"
    refine rd_iteNX (fun h4 => ?_) (fun h4 => ?_)
    · walk_at "rd"
      exact rd_new (by simp) (no (fun h => h4 (by have := h.2.2.1.2; omega)))
    walk_at "rd"
    refine rd_iteX (fun h5 => ?_) (fun h5 => ?_)
    · walk_at "rd"
      exact rd_new (by simp) (no (fun h => h5 (by have := h.2.2.2.1; omega)))
    walk_at "rd"
    refine rd_iteNX (fun h6 => ?_) (fun h6 => ?_)
    · walk_at "rd"
      exact rd_new (by simp) (no (fun h => h6 (by have := h.2.2.2.2; omega)))
    have ok : grainOk g ∧ m ≤ 40 ∧ (-100 ≤ lo ∧ lo ≤ 0) ∧ 1 ≤ hi ∧ hi ≤ 3000 := ⟨h1, h2, ⟨by omega, by omega⟩, by omega, by omega⟩
    rw [begin_ok ok] at k
    walk_at "rd"
    refine st_to (fs' := pipeG true a.grain a.mix a.low a.high l c) hp.ob T.cl_Pipe T.n_Pipe_begun (by show 7 < 1000; decide) rfl ?_
    walk_at "rd"
    refine st_to (fs' := pipeG true g a.mix a.low a.high l c) upd_same T.cl_Pipe T.n_Pipe_grain (by show 7 < 1000; decide) rfl ?_
    walk_at "rd"
    refine st_to (fs' := pipeG true g m a.low a.high l c) upd_same T.cl_Pipe T.n_Pipe_mix (by show 7 < 1000; decide) rfl ?_
    walk_at "rd"
    refine st_to (fs' := pipeG true g m lo a.high l c) upd_same T.cl_Pipe T.n_Pipe_low (by show 7 < 1000; decide) rfl ?_
    walk_at "rd"
    refine st_to (fs' := pipeG true g m lo hi l c) upd_same T.cl_Pipe T.n_Pipe_high (by show 7 < 1000; decide) rfl ?_
    walk_at "rd"
    refine rd_new (by simp) fun l' hl => ?_
    have npl : p ≠ l' := (upd_noneL hl).symm
    have hl0 : H l' = none := upd_none (upd_none (upd_none (upd_none (upd_none hl))))
    walk_at "rd"
    refine st_to (C := A.c_Pipe) (dx := dx) (fs := pipeG true g m lo hi l c) (fs' := pipeG true g m lo hi l' c) (by rw [upd_ne npl]; exact upd_same) T.cl_Pipe T.n_Pipe_pieces (by show 7 < 1000; decide) rfl ?_
    walk_at "rd"
    refine rd_new (by simp) fun k' hk' => ?_
    have npk : p ≠ k' := (upd_noneL hk').symm
    have nlk : l' ≠ k' := (upd_noneL (upd_none hk')).symm
    have hk0 : H k' = none := upd_none (upd_none (upd_none (upd_none (upd_none (upd_none (upd_none hk'))))))
    walk_at "rd"
    refine st_to (C := A.c_Pipe) (dx := dx) (fs := pipeG true g m lo hi l' c) (fs' := pipeG true g m lo hi l' k') (by rw [upd_ne npk]; exact upd_same) T.cl_Pipe T.n_Pipe_pumps (by show 7 < 1000; decide) rfl ?_
    walk_at "rd"
    refine rd_new (by simp) (k.new (F1 := p :: l' :: k' :: ([] ++ [])) ⟨⟨dx, l', k', [], [], PipeOn.fresh (a := Kv335.begun g m lo hi) upd_same ?_ ?_ nlk rfl rfl, rfl⟩, ?_⟩ ?_ ?_ ?_ rfl)
    · rw [upd_ne npl.symm, upd_ne nlk, upd_ne npl.symm, upd_same]
    · rw [upd_ne npk.symm, upd_same]
    · exact ⟨by show 0 ≤ 8; decide, by show 0 ≤ 6; decide, fun x hx => (by cases hx), fun x hx => (by cases hx), h1, h2, ok.2.2.1, ok.2.2.2⟩
    · intro b' hb'
      rcases List.mem_cons.mp hb' with e | hb'
      · rw [e]
        exact .inl (List.mem_cons_self)
      rcases List.mem_cons.mp hb' with e | hb'
      · rw [e]
        exact .inr hl0
      rcases List.mem_cons.mp hb' with e | hb'
      · rw [e]
        exact .inr hk0
      · cases hb'
    · intro b' o e hb'
      obtain ⟨hb, _⟩ := memF hb'
      rw [upd_ne hb, upd_ne (ne_of_none e hk0), upd_ne hb, upd_ne (ne_of_none e hl0), upd_ne hb, upd_ne hb, upd_ne hb, upd_ne hb, upd_ne hb]
      exact e
    · intro b' hb'
      exact upd_none (upd_none (upd_none (upd_none (upd_none (upd_none (upd_none (upd_none (upd_none hb'))))))))
theorem ok_add_piece (T : Txt K mg A) : FnOk P w K mg base CX0 3 A.f_add_piece A.d_add_piece ["pipe", "long", "rise", "wide"] (sp_add_piece K A) := by
  have G_is_piece : FnOk P w K mg base CX0 2 A.f_is_piece A.d_is_piece ["long", "rise", "wide"] (sp_is_piece K A) := ok_is_piece T
  have G_Piece__init__ : FnOk P w K mg base CX0 1 A.f_Piece__init__ A.d_Piece__init__ ["self", "long", "rise", "wide"] (sp_Piece__init__ K A) := ok_Piece__init__ T
  refine T.F_add_piece.ok sc_add_piece (fun vs H Q E h => ?_) (fun cdv Ar outer s H vs Q E hr h => ?_)
  · obtain ⟨p, F, a, n, r, w, rfl, _⟩ := h
    rfl
  · obtain ⟨p, F, a, n, r, w', rfl, hp, hG, k⟩ := h
    have hpA := hp
    obtain ⟨dx, l, c, ps, qs, hp, rfl⟩ := hp
    unfold rowOf at k
    refine ⟨_, (pss_cons (ps_if (pt_not (pt_val (pe_call G_is_piece (hr.mono (by decide)) rfl T.m_is_piece T.F_is_piece.kp T.b_is_piece .nil pass0 (pa_cons (pv 1) (pa_cons (pv 2) (pa_cons (pv 3) pa_nil)))))) (pss_one (ps_ret (pe_lst (pa_cons (pe_glob (v := .int (-22)) rfl T.g_OUT_OF_RANGE.choose_spec.1 T.g_OUT_OF_RANGE.choose_spec.2) pa_nil)))) pss_nil)
      (pss_cons (ps_set (i := 4) sc_add_piece.nd rfl (Or.inl rfl) (pe_callB (call_lenK K rfl) (by rfl) T.nb_len PySem.boot_len (pa_cons (pe_fldK K rfl (pv 0) rfl) pa_nil)))
      (pss_cons (ps_if (pt_cmpR op_ge (pv 4) (pe_glob (v := .int (8)) rfl T.g_MOST_PIECES.choose_spec.1 T.g_MOST_PIECES.choose_spec.2) (nomark _)) (pss_one (ps_ret (pe_lst (pa_cons (pe_glob (v := .int (-28)) rfl T.g_TOO_MANY.choose_spec.1 T.g_TOO_MANY.choose_spec.2) pa_nil)))) pss_nil)
      (pss_cons (ps_expr (pe_bmK K rfl PySem.F.plainAttrs_list PySem.F.slot_list_append PySem.F.type_list_append mt_append (pe_fldK K rfl (pv 0) rfl) (pa_cons (pe_make T.mk_Piece G_Piece__init__ (hr.mono (by decide)) rfl T.m_Piece T.b_Piece__init__ .nil pass0 (pa_cons (pv 1) (pa_cons (pv 2) (pa_cons (pv 3) pa_nil)))) pa_nil)))
      (pss_one (ps_ret (pe_lst (pa_cons (pv 4) pa_nil)))))))), ?_⟩
    walk_at "rd"
    refine ⟨n, r, w', rfl, ?_⟩
    walk_at "rd"
    refine rd_iteNX (fun h1 => ?_) (fun h1 => ?_)
    · have e : a.does (.piece n r w') = (a, Kv335.say (-22)) := by
        simp only [Kv335.Abs.does]
        rw [if_pos (by unfold pieceOkN at h1; omega)]
      rw [e] at k
      walk_at "rd"
      exact rd_new (by simp) (k.say ⟨hpA, hG⟩ rfl)
    have h1' : ¬ (n = 0 ∨ 3000 < n ∨ r < -300 ∨ 300 < r ∨ w' < 100 ∨ 1200 < w') := by
      unfold pieceOkN at h1
      omega
    walk_at "rd"
    refine rd_len (SqL.of hp.lp) ?_
    rw [List.length_map, hp.plen]
    walk_at "rd"
    refine rd_ite (fun h2 => ?_) (fun h2 => ?_)
    · have e : a.does (.piece n r w') = (a, Kv335.say (-28)) := by
        simp only [Kv335.Abs.does]
        rw [if_neg h1', if_pos (by omega)]
      rw [e] at k
      walk_at "rd"
      exact rd_new (by simp) (k.say ⟨hpA, hG⟩ rfl)
    have e : a.does (.piece n r w') = ({ a with pieces := a.pieces ++ [⟨n, r, w'⟩] }, Kv335.say (a.pieces.length : Nat)) := by
      simp only [Kv335.Abs.does]
      rw [if_neg h1', if_neg (by omega)]
    rw [e] at k
    walk_at "rd"
    refine rd_tyL hp.lp ?_
    walk_at "rd"
    intro x dq nx nd ndx
    refine ⟨x, dq, ⟨n, r, w'⟩, rfl, upd_same, fun H1 hx kx => ⟨rfl, ?_⟩⟩
    have s1 : Same H H1 := Same.made nx nd fun b o e hb => by rw [kx b hb]; exact e
    have h1p := hp.mono s1
    walk_at "rd"
    refine rd_append h1p.lp ?_ ?_
    · rw [List.length_map, hp.plen]
      exact small1000 (by omega)
    have em : (ps.map V.ref ++ [V.ref x]) = (ps ++ [x]).map V.ref := by
      rw [List.map_append]
      rfl
    rw [em]
    walk_at "rd"
    refine rd_new (by simp) (k.new (F1 := p :: l :: c :: ((ps ++ [x]) ++ qs)) ⟨⟨dx, l, c, ps ++ [x], qs, hp.addPiece s1 nx ⟨dq, hx⟩, rfl⟩, ?_⟩ ?_ ?_ ?_ rfl)
    · refine ⟨?_, hG.nq, fun y hy => ?_, hG.pu, hG.gr, hG.mx, hG.lo, hG.hi⟩
      · show (a.pieces ++ [_]).length ≤ 8
        rw [List.length_append, List.length_singleton]
        omega
      · rcases List.mem_append.mp hy with hy | hy
        · exact hG.pc y hy
        · rw [List.mem_singleton] at hy
          subst hy
          exact ⟨h1.1, h1.2.1, h1.2.2⟩
    · intro b' hb'
      by_cases e : b' = x
      · subst e
        exact .inr nx
      · simp only [List.mem_cons, List.mem_append, List.not_mem_nil, or_false, e] at hb' ⊢
        exact .inl hb'
    · intro b' o e hb'
      rw [upd_ne (memF hb').2.1]
      exact s1 _ _ e
    · intro b' hb'
      exact s1.free (upd_none hb')
theorem ok_add_pump (T : Txt K mg A) : FnOk P w K mg base CX0 3 A.f_add_pump A.d_add_pump ["pipe", "at", "adds"] (sp_add_pump K A) := by
  have G_Pump__init__ : FnOk P w K mg base CX0 1 A.f_Pump__init__ A.d_Pump__init__ ["self", "at", "adds", "runs"] (sp_Pump__init__ K A) := ok_Pump__init__ T
  refine T.F_add_pump.ok sc_add_pump (fun vs H Q E h => ?_) (fun cdv Ar outer s H vs Q E hr h => ?_)
  · obtain ⟨p, F, a, i, d, rfl, _⟩ := h
    rfl
  · obtain ⟨p, F, a, i, d, rfl, hp, hG, k⟩ := h
    have hpA := hp
    obtain ⟨dx, l, c, ps, qs, hp, rfl⟩ := hp
    unfold rowOf at k
    refine ⟨_, (pss_cons (ps_if (pt_cmpR op_ge (pv 1) (pe_callB (call_lenK K rfl) (by rfl) T.nb_len PySem.boot_len (pa_cons (pe_fldK K rfl (pv 0) rfl) pa_nil)) (nomark _)) (pss_one (ps_ret (pe_lst (pa_cons (pe_glob (v := .int (-2)) rfl T.g_NO_SUCH.choose_spec.1 T.g_NO_SUCH.choose_spec.2) pa_nil)))) pss_nil)
      (pss_cons (ps_if (pt_not (pt_chain op_le op_le pe_int (pv 2) pe_int)) (pss_one (ps_ret (pe_lst (pa_cons (pe_glob (v := .int (-22)) rfl T.g_OUT_OF_RANGE.choose_spec.1 T.g_OUT_OF_RANGE.choose_spec.2) pa_nil)))) pss_nil)
      (pss_cons (ps_set (i := 3) sc_add_pump.nd rfl (Or.inl rfl) (pe_callB (call_lenK K rfl) (by rfl) T.nb_len PySem.boot_len (pa_cons (pe_fldK K rfl (pv 0) rfl) pa_nil)))
      (pss_cons (ps_if (pt_cmpR op_ge (pv 3) (pe_glob (v := .int (6)) rfl T.g_MOST_PUMPS.choose_spec.1 T.g_MOST_PUMPS.choose_spec.2) (nomark _)) (pss_one (ps_ret (pe_lst (pa_cons (pe_glob (v := .int (-28)) rfl T.g_TOO_MANY.choose_spec.1 T.g_TOO_MANY.choose_spec.2) pa_nil)))) pss_nil)
      (pss_cons (ps_expr (pe_bmK K rfl PySem.F.plainAttrs_list PySem.F.slot_list_append PySem.F.type_list_append mt_append (pe_fldK K rfl (pv 0) rfl) (pa_cons (pe_make T.mk_Pump G_Pump__init__ (hr.mono (by decide)) rfl T.m_Pump T.b_Pump__init__ .nil pass0 (pa_cons (pv 1) (pa_cons (pv 2) (pa_cons pe_int pa_nil)))) pa_nil)))
      (pss_one (ps_ret (pe_lst (pa_cons (pv 3) pa_nil))))))))), ?_⟩
    walk_at "rd"
    refine rd_len (SqL.of hp.lp) ?_
    rw [List.length_map, hp.plen]
    walk_at "rd"
    refine rd_ite (fun h1 => ?_) (fun h1 => ?_)
    · have e : a.does (.pump i d) = (a, Kv335.say (-2)) := by
        simp only [Kv335.Abs.does]
        rw [if_pos (by omega)]
      rw [e] at k
      walk_at "rd"
      exact rd_new (by simp) (k.say ⟨hpA, hG⟩ rfl)
    have no : ¬ (1 ≤ d ∧ d ≤ 1000) → ∀ r, H r = none → Q (.ref r) (upd H r (.lst [.int (-22)])) := fun h => by
      have e : a.does (.pump i d) = (a, Kv335.say (-22)) := by
        simp only [Kv335.Abs.does]
        rw [if_neg (by omega), if_pos (by omega)]
      rw [e] at k
      exact k.say ⟨hpA, hG⟩ rfl
    walk_at "rd"
    refine rd_iteX (fun h2 => ?_) (fun h2 => ?_)
    · walk_at "rd"
      exact rd_new (by simp) (no (by omega))
    walk_at "rd"
    refine rd_iteNX (fun h3 => ?_) (fun h3 => ?_)
    · walk_at "rd"
      exact rd_new (by simp) (no (by omega))
    walk_at "rd"
    refine rd_len (SqL.of hp.lq) ?_
    rw [List.length_map, hp.qlen]
    walk_at "rd"
    refine rd_ite (fun h4 => ?_) (fun h4 => ?_)
    · have e : a.does (.pump i d) = (a, Kv335.say (-28)) := by
        simp only [Kv335.Abs.does]
        rw [if_neg (by omega), if_neg (by omega), if_pos (by omega)]
      rw [e] at k
      walk_at "rd"
      exact rd_new (by simp) (k.say ⟨hpA, hG⟩ rfl)
    have e : a.does (.pump i d) = ({ a with pumps := a.pumps ++ [⟨i, d, true⟩] }, Kv335.say (a.pumps.length : Nat)) := by
      simp only [Kv335.Abs.does]
      rw [if_neg (by omega), if_neg (by omega), if_neg (by omega)]
    rw [e] at k
    walk_at "rd"
    refine rd_tyL hp.lq ?_
    walk_at "rd"
    intro x dq nx nd ndx
    refine ⟨x, dq, ⟨i, d, true⟩, rfl, upd_same, fun H1 hx kx => ⟨rfl, ?_⟩⟩
    have s1 : Same H H1 := Same.made nx nd fun b o e hb => by rw [kx b hb]; exact e
    have h1p := hp.mono s1
    walk_at "rd"
    refine rd_append h1p.lq ?_ ?_
    · rw [List.length_map, hp.qlen]
      exact small1000 (by omega)
    have em : (qs.map V.ref ++ [V.ref x]) = (qs ++ [x]).map V.ref := by
      rw [List.map_append]
      rfl
    rw [em]
    walk_at "rd"
    refine rd_new (by simp) (k.new (F1 := p :: l :: c :: (ps ++ (qs ++ [x]))) ⟨⟨dx, l, c, ps, qs ++ [x], hp.addPump s1 nx ⟨dq, hx⟩, rfl⟩, ?_⟩ ?_ ?_ ?_ rfl)
    · refine ⟨hG.np, ?_, hG.pc, fun y hy => ?_, hG.gr, hG.mx, hG.lo, hG.hi⟩
      · show (a.pumps ++ [_]).length ≤ 6
        rw [List.length_append, List.length_singleton]
        omega
      · rcases List.mem_append.mp hy with hy | hy
        · exact hG.pu y hy
        · rw [List.mem_singleton] at hy
          subst hy
          exact ⟨by show 1 ≤ d ∧ d ≤ 1000; omega⟩
    · intro b' hb'
      by_cases e : b' = x
      · subst e
        exact .inr nx
      · simp only [List.mem_cons, List.mem_append, List.not_mem_nil, or_false, e] at hb' ⊢
        exact .inl hb'
    · intro b' o e hb'
      rw [upd_ne (memF hb').2.2.1]
      exact s1 _ _ e
    · intro b' hb'
      exact s1.free (upd_none hb')
end
end Sp

set_option Elab.async false
set_option linter.all false
set_option maxRecDepth 100000
set_option maxHeartbeats 2000000
namespace Sp
open PySem PySem.Spec PyProof.Rows L2
local macro_rules | `(tactic| walk_at "s1") => `(tactic| first
  | with_reducible refine rd_seq ?_
  | with_reducible refine rd_asg ?_
  | with_reducible refine rd_gname ?_
  | ((with_reducible apply rd_var); exact rfl)
  | with_reducible refine rd_c ?_
  | with_reducible refine rd_op ?_
  | with_reducible refine rd_i0 ?_
  | with_reducible refine rd_eqI ?_
  | ((with_reducible refine rd_mul ?_ ?_); first | exact mul_rN (by omega) (by omega) | exact mul_lN (by omega) (by omega))
  | ((with_reducible refine rd_fdiv ?_ ?_ ?_); (focus (first | decide | omega)); (focus (first | decide | omega)))
  | with_reducible refine rd_fld ?_
  | with_reducible refine rd_ret ?_
  | with_reducible refine rd_drop ?_
  | with_reducible refine rd_ifS ?_
  | with_reducible refine rd_if ?_
  | with_reducible refine rd_test ?_
  | with_reducible refine rd_tB ?_
  | with_reducible refine rd_and ?_
  | with_reducible refine rd_or ?_
  | with_reducible refine rd_not ?_
  | with_reducible refine rd_chain ?_
  | with_reducible refine rd_andV ?_
  | with_reducible refine rd_orV ?_
  | with_reducible refine rd_notV ?_
  | with_reducible refine rd_isblX ?_
  | with_reducible refine rd_nil ?_
  | with_reducible refine rd_cons ?_
  | with_reducible refine rd_call ?_
  | with_reducible refine rd_callLen ?_
  | with_reducible refine rd_callB ?_
  | with_reducible refine rd_lst ?_
  | with_reducible refine rd_next ?_
  | with_reducible refine rd_sfld ?_
  | with_reducible refine rd_un ?_
  | with_reducible refine rd_u ?_
  | with_reducible refine rd_make ?_
  | with_reducible refine rd_for ?_
  | with_reducible refine rd_ilist ?_
  | with_reducible refine rd_ienum ?_
  | with_reducible refine rd_irng2 ?_
  | with_reducible refine rd_irng1 ?_
  | with_reducible refine rd_yes ?_
  | with_reducible refine rd_irng3 ?_
  | ((with_reducible refine rd_mod ?_ ?_); (focus decide))
  | with_reducible refine rd_lc ?_
  | with_reducible refine rd_sl ?_
  | with_reducible refine rd_nopart ?_
  | with_reducible refine rd_part ?_
  | with_reducible refine rd_isint ?_
  | with_reducible refine rd_neI ?_
  | with_reducible refine rd_bm ?_
  | with_reducible refine rd_bm0 ?_
  | with_reducible refine iteT ?_
  | ((with_reducible refine rd_iteDT ?_ ?_); (focus decide))
  | ((with_reducible refine rd_iteDF ?_ ?_); (focus decide))
  | ((with_reducible apply rd_ixL); (focus exact SqL.of (by assumption)); (focus exact rfl))
  | with_reducible refine iteF ?_
  | ((with_reducible apply rd_piece_long); assumption; assumption)
  | ((with_reducible apply rd_piece_rise); assumption; assumption)
  | ((with_reducible apply rd_piece_wide); assumption; assumption)
  | ((with_reducible apply rd_pump_at); assumption; assumption)
  | ((with_reducible apply rd_pump_adds); assumption; assumption)
  | ((with_reducible apply rd_pump_runs); assumption; assumption)
  | ((with_reducible apply rd_pipe_begun); assumption; assumption)
  | ((with_reducible apply rd_pipe_grain); assumption; assumption)
  | ((with_reducible apply rd_pipe_mix); assumption; assumption)
  | ((with_reducible apply rd_pipe_low); assumption; assumption)
  | ((with_reducible apply rd_pipe_high); assumption; assumption)
  | ((with_reducible apply rd_pipe_pieces); assumption; assumption)
  | ((with_reducible apply rd_pipe_pumps); assumption; assumption))
local macro_rules | `(tactic| walk_at "rd") => `(tactic| repeat walk_at "s1")
theorem modify_at {α : Type} {f : α → α} : ∀ {l : List α} {j : Nat} {x : α}, l[j]? = some x → l.modify j f = l.set j (f x)
  | [], j, x, h => by simp at h
  | a :: l, 0, x, h => by
    have e : a = x := Option.some.inj h
    subst e
    rfl
  | a :: l, j + 1, x, h => by
    have ih := modify_at (f := f) (l := l) (j := j) (x := x) h
    show a :: l.modify j f = a :: l.set j (f x)
    rw [ih]
section
variable {P : Program} {w : World} {K : PySem.W.Frag} {mg : Str → Option Value} {base : Heap} {A : Ad}
theorem ok_switch_pump (T : Txt K mg A) : FnOk P w K mg base CX0 1 A.f_switch_pump A.d_switch_pump ["pipe", "number", "runs"] (sp_switch_pump K A) := by
  refine T.F_switch_pump.ok sc_switch_pump (fun vs H Q E h => ?_) (fun cdv Ar outer s H vs Q E hr h => ?_)
  · obtain ⟨p, F, a, i, n, rfl, _⟩ := h
    rfl
  · obtain ⟨p, F, a, i, n, rfl, hp, hG, k⟩ := h
    have hpA := hp
    obtain ⟨dx, l, c, ps, qs, hp, rfl⟩ := hp
    unfold rowOf at k
    refine ⟨_, (pss_cons (ps_if (pt_cmpR op_ge (pv 1) (pe_callB (call_lenK K rfl) (by rfl) T.nb_len PySem.boot_len (pa_cons (pe_fldK K rfl (pv 0) rfl) pa_nil)) (nomark _)) (pss_one (ps_ret (pe_lst (pa_cons (pe_glob (v := .int (-2)) rfl T.g_NO_SUCH.choose_spec.1 T.g_NO_SUCH.choose_spec.2) pa_nil)))) pss_nil)
      (pss_cons (ps_if (pt_cmpR op_gt (pv 2) pe_int (nomark _)) (pss_one (ps_ret (pe_lst (pa_cons (pe_glob (v := .int (-22)) rfl T.g_OUT_OF_RANGE.choose_spec.1 T.g_OUT_OF_RANGE.choose_spec.2) pa_nil)))) pss_nil)
      (pss_cons (ps_set (i := 3) sc_switch_pump.nd rfl (Or.inl rfl) (pe_ix (ix_listK K rfl) (pe_fldK K rfl (pv 0) rfl) (pv 1) (fun _ _ => rfl)))
      (pss_cons (ps_if (pt_cmpR op_eq (pe_fldK K rfl (pv 3) rfl) (pv 2) (nomark _)) (pss_one (ps_ret (pe_lst (pa_cons (pe_glob (v := .int (-17)) rfl T.g_ALREADY.choose_spec.1 T.g_ALREADY.choose_spec.2) pa_nil)))) pss_nil)
      (pss_cons (ps_fldK K rfl (pv 3) (pv 2) rfl)
      (pss_one (ps_ret (pe_lst (pa_cons pe_int pa_nil))))))))), ?_⟩
    walk_at "rd"
    refine rd_len (SqL.of hp.lq) ?_
    rw [List.length_map, hp.qlen]
    walk_at "rd"
    refine rd_ite (fun h1 => ?_) (fun h1 => ?_)
    · have e : a.does (.on_ i n) = (a, Kv335.say (-2)) := by
        simp only [Kv335.Abs.does]
        rw [if_pos (by omega)]
      rw [e] at k
      walk_at "rd"
      exact rd_new (by simp) (k.say ⟨hpA, hG⟩ rfl)
    walk_at "rd"
    refine rd_ite (fun h2 => ?_) (fun h2 => ?_)
    · have e : a.does (.on_ i n) = (a, Kv335.say (-22)) := by
        simp only [Kv335.Abs.does]
        rw [if_neg (by omega), if_pos (by omega)]
      rw [e] at k
      walk_at "rd"
      exact rd_new (by simp) (k.say ⟨hpA, hG⟩ rfl)
    have hi' : i < qs.length := by rw [hp.qlen]; omega
    have hq := List.getElem?_eq_getElem hi'
    obtain ⟨x, hx, dq, hxa⟩ := hp.pump hq
    have hxA : PumpAt A H _ x := ⟨dq, hxa⟩
    walk_at "rd"
    refine rd_ixL (SqL.of hp.lq) (at_of (j := i) rfl (by rw [List.getElem?_map, hq]; rfl)) ?_
    walk_at "rd"
    have eb : (runsI x = (n : Int)) ↔ (x.on_ = (n == 1)) := by
      unfold runsI
      have : n = 0 ∨ n = 1 := by omega
      rcases this with rfl | rfl <;> cases x.on_ <;> decide
    refine rd_ite (fun h3 => ?_) (fun h3 => ?_)
    · have e : a.does (.on_ i n) = (a, Kv335.say (-17)) := by
        simp only [Kv335.Abs.does]
        rw [if_neg (by omega), if_neg (by omega), if_pos (by rw [pump_at hx]; exact eb.mp h3)]
      rw [e] at k
      walk_at "rd"
      exact rd_new (by simp) (k.say ⟨hpA, hG⟩ rfl)
    have e : a.does (.on_ i n) = ({ a with pumps := a.pumps.set i { x with on_ := n == 1 } }, Kv335.say 0) := by
      simp only [Kv335.Abs.does]
      rw [if_neg (by omega), if_neg (by omega), if_neg (by rw [pump_at hx]; exact fun z => h3 (eb.mpr z)), modify_at hx]
    rw [e] at k
    walk_at "rd"
    have er : ((n : Nat) : Int) = runsI { x with on_ := n == 1 } := by
      unfold runsI
      have : n = 0 ∨ n = 1 := by omega
      rcases this with rfl | rfl <;> rfl
    refine st_to (fs' := pumpF { x with on_ := n == 1 }) hxa T.cl_Pump T.n_Pump_runs (by show 3 < 1000; decide) (by rw [er]; rfl) ?_
    walk_at "rd"
    have m := List.mem_of_getElem? hq
    refine rd_new (by simp) (k.new (F1 := p :: l :: c :: (ps ++ qs)) ⟨⟨dx, l, c, ps, qs, hp.setPump hq hxa _, rfl⟩, ?_⟩ (fun _ z => .inl z) ?_ (fun _ z => upd_none z) rfl)
    · refine ⟨hG.np, ?_, hG.pc, fun y hy => ?_, hG.gr, hG.mx, hG.lo, hG.hi⟩
      · show (a.pumps.set i _).length ≤ 6
        rw [List.length_set]
        exact hG.nq
      · rcases List.mem_or_eq_of_mem_set hy with hy | hy
        · exact hG.pu y hy
        · subst hy
          exact ⟨(hG.pu x (List.mem_of_getElem? hx)).adds⟩
    · intro b' o e hb'
      have hb2 := (memF hb').2.2.2
      rw [upd_ne (fun z => hb2 (List.mem_append.mpr (.inr (by rw [z]; exact m))))]
      exact e
theorem ok_change_mix (T : Txt K mg A) : FnOk P w K mg base CX0 2 A.f_change_mix A.d_change_mix ["pipe", "mix"] (sp_change_mix K A) := by
  have G_is_mix : FnOk P w K mg base CX0 1 A.f_is_mix A.d_is_mix ["mix"] (sp_is_mix K A) := ok_is_mix T
  refine T.F_change_mix.ok sc_change_mix (fun vs H Q E h => ?_) (fun cdv Ar outer s H vs Q E hr h => ?_)
  · obtain ⟨p, F, a, m, rfl, _⟩ := h
    rfl
  · obtain ⟨p, F, a, m, rfl, hp, hG, k⟩ := h
    have hpA := hp
    obtain ⟨dx, l, c, ps, qs, hp, rfl⟩ := hp
    unfold rowOf at k
    refine ⟨_, (pss_cons (ps_if (pt_not (pt_val (pe_call G_is_mix (hr.mono (by decide)) rfl T.m_is_mix T.F_is_mix.kp T.b_is_mix .nil pass0 (pa_cons (pv 1) pa_nil)))) (pss_one (ps_ret (pe_lst (pa_cons (pe_glob (v := .int (-22)) rfl T.g_OUT_OF_RANGE.choose_spec.1 T.g_OUT_OF_RANGE.choose_spec.2) pa_nil)))) pss_nil)
      (pss_cons (ps_set (i := 2) sc_change_mix.nd rfl (Or.inl rfl) (pe_fldK K rfl (pv 0) rfl))
      (pss_cons (ps_fldK K rfl (pv 0) (pv 1) rfl)
      (pss_one (ps_ret (pe_lst (pa_cons (pv 2) pa_nil))))))), ?_⟩
    walk_at "rd"
    refine ⟨m, rfl, ?_⟩
    walk_at "rd"
    refine rd_iteNX (fun h1 => ?_) (fun h1 => ?_)
    · have e : a.does (.mix m) = (a, Kv335.say (-22)) := by
        simp only [Kv335.Abs.does]
        rw [if_pos (by omega)]
      rw [e] at k
      walk_at "rd"
      exact rd_new (by simp) (k.say ⟨hpA, hG⟩ rfl)
    have e : a.does (.mix m) = ({ a with mix := m }, Kv335.say (a.mix : Nat)) := by
      simp only [Kv335.Abs.does]
      rw [if_neg (by omega)]
    rw [e] at k
    walk_at "rd"
    refine st_to (fs' := pipeF true { a with mix := m } l c) hp.ob T.cl_Pipe T.n_Pipe_mix (by show 7 < 1000; decide) rfl ?_
    walk_at "rd"
    refine rd_new (by simp) (k.new (F1 := p :: l :: c :: (ps ++ qs)) ⟨⟨dx, l, c, ps, qs, hp.num rfl rfl, rfl⟩, ⟨hG.np, hG.nq, hG.pc, hG.pu, hG.gr, h1, hG.lo, hG.hi⟩⟩ (fun _ z => .inl z) ?_ (fun _ z => upd_none z) rfl)
    intro b' o e hb'
    rw [upd_ne (memF hb').1]
    exact e
theorem ok_change_grain (T : Txt K mg A) : FnOk P w K mg base CX0 2 A.f_change_grain A.d_change_grain ["pipe", "grain"] (sp_change_grain K A) := by
  have G_is_grain : FnOk P w K mg base CX0 1 A.f_is_grain A.d_is_grain ["grain"] (sp_is_grain K A) := ok_is_grain T
  refine T.F_change_grain.ok sc_change_grain (fun vs H Q E h => ?_) (fun cdv Ar outer s H vs Q E hr h => ?_)
  · obtain ⟨p, F, a, g, rfl, _⟩ := h
    rfl
  · obtain ⟨p, F, a, g, rfl, hp, hG, k⟩ := h
    have hpA := hp
    obtain ⟨dx, l, c, ps, qs, hp, rfl⟩ := hp
    unfold rowOf at k
    refine ⟨_, (pss_cons (ps_if (pt_not (pt_val (pe_call G_is_grain (hr.mono (by decide)) rfl T.m_is_grain T.F_is_grain.kp T.b_is_grain .nil pass0 (pa_cons (pv 1) pa_nil)))) (pss_one (ps_ret (pe_lst (pa_cons (pe_glob (v := .int (-22)) rfl T.g_OUT_OF_RANGE.choose_spec.1 T.g_OUT_OF_RANGE.choose_spec.2) pa_nil)))) pss_nil)
      (pss_cons (ps_set (i := 2) sc_change_grain.nd rfl (Or.inl rfl) (pe_fldK K rfl (pv 0) rfl))
      (pss_cons (ps_fldK K rfl (pv 0) (pv 1) rfl)
      (pss_one (ps_ret (pe_lst (pa_cons (pv 2) pa_nil))))))), ?_⟩
    walk_at "rd"
    refine ⟨g, rfl, ?_⟩
    walk_at "rd"
    refine rd_iteNX (fun h1 => ?_) (fun h1 => ?_)
    · have e : a.does (.grain g) = (a, Kv335.say (-22)) := by
        simp only [Kv335.Abs.does]
        rw [if_pos (by unfold grainOk at h1; omega)]
      rw [e] at k
      walk_at "rd"
      exact rd_new (by simp) (k.say ⟨hpA, hG⟩ rfl)
    have e : a.does (.grain g) = ({ a with grain := g }, Kv335.say (a.grain : Nat)) := by
      simp only [Kv335.Abs.does]
      rw [if_neg (by unfold grainOk at h1; omega)]
    rw [e] at k
    walk_at "rd"
    refine st_to (fs' := pipeF true { a with grain := g } l c) hp.ob T.cl_Pipe T.n_Pipe_grain (by show 7 < 1000; decide) rfl ?_
    walk_at "rd"
    refine rd_new (by simp) (k.new (F1 := p :: l :: c :: (ps ++ qs)) ⟨⟨dx, l, c, ps, qs, hp.num rfl rfl, rfl⟩, ⟨hG.np, hG.nq, hG.pc, hG.pu, h1, hG.mx, hG.lo, hG.hi⟩⟩ (fun _ z => .inl z) ?_ (fun _ z => upd_none z) rfl)
    intro b' o e hb'
    rw [upd_ne (memF hb').1]
    exact e
theorem ok_cut_piece (T : Txt K mg A) : FnOk P w K mg base CX0 1 A.f_cut_piece A.d_cut_piece ["pipe"] (sp_cut_piece K A) := by
  refine T.F_cut_piece.ok sc_cut_piece (fun vs H Q E h => ?_) (fun cdv Ar outer s H vs Q E hr h => ?_)
  · obtain ⟨p, F, a, rfl, _⟩ := h
    rfl
  · obtain ⟨p, F, a, rfl, hp, hG, k⟩ := h
    have hpA := hp
    obtain ⟨dx, l, c, ps, qs, hp, rfl⟩ := hp
    unfold rowOf at k
    refine ⟨_, (pss_cons (ps_if (pt_cmpR op_eq (pe_callB (call_lenK K rfl) (by rfl) T.nb_len PySem.boot_len (pa_cons (pe_fldK K rfl (pv 0) rfl) pa_nil)) pe_int (nomark _)) (pss_one (ps_ret (pe_lst (pa_cons (pe_glob (v := .int (-6)) rfl T.g_NONE_THERE.choose_spec.1 T.g_NONE_THERE.choose_spec.2) pa_nil)))) pss_nil)
      (pss_cons (ps_set (i := 1) sc_cut_piece.nd rfl (Or.inl rfl) (pe_op op_sub (pe_callB (call_lenK K rfl) (by rfl) T.nb_len PySem.boot_len (pa_cons (pe_fldK K rfl (pv 0) rfl) pa_nil)) pe_int))
      (pss_cons (ps_for PassesOwn.never rfl (pi_listK K rfl (pe_fldK K rfl (pv 0) rfl)) (pg_name (i := 2) sc_cut_piece.nd rfl (Or.inl rfl)) (pss_one (ps_if (pt_cmpR op_eq (pe_fldK K rfl (pv 2) rfl) (pv 1) (nomark _)) (pss_one (ps_ret (pe_lst (pa_cons (pe_glob (v := .int (-16)) rfl T.g_PUMP_THERE.choose_spec.1 T.g_PUMP_THERE.choose_spec.2) pa_nil)))) pss_nil)))
      (pss_cons (ps_expr (pe_bm0K K rfl PySem.F.plainAttrs_list PySem.F.slot_list_pop PySem.F.type_list_pop mt_pop (pe_fldK K rfl (pv 0) rfl)))
      (pss_one (ps_ret (pe_lst (pa_cons (pv 1) pa_nil)))))))), ?_⟩
    walk_at "rd"
    refine rd_len (SqL.of hp.lp) ?_
    rw [List.length_map, hp.plen]
    walk_at "rd"
    refine rd_ite (fun h1 => ?_) (fun h1 => ?_)
    · have e : a.does .cut = (a, Kv335.say (-6)) := by
        simp only [Kv335.Abs.does]
        rw [if_pos (List.length_eq_zero_iff.mp (by omega))]
      rw [e] at k
      walk_at "rd"
      exact rd_new (by simp) (k.say ⟨hpA, hG⟩ rfl)
    have hne : a.pieces ≠ [] := fun e => h1 (by rw [e]; rfl)
    have hpos : 0 < a.pieces.length := List.length_pos_iff.mpr hne
    walk_at "rd"
    refine rd_len (SqL.of hp.lp) ?_
    rw [List.length_map, hp.plen]
    walk_at "rd"
    refine ⟨_, rfl, ⟨_, SqL.of hp.lq⟩, for_list (K := K) (a := c) (xs := qs.map V.ref) (fun i σ H' => ∃ v2 : Option V, σ = [some (.ref p), some (.int ((a.pieces.length : Int) - 1)), v2] ∧ H' = H ∧ (a.pumps.take i).any (fun x => x.at_ + 1 == a.pieces.length) = false)
      ⟨none, rfl, rfl, rfl⟩ (fun i σ H' _ ⟨_, _, e, _⟩ => by rw [e]; exact SqL.of hp.lq) ?_ ?_⟩
    · rintro i y σ H' hy ⟨v2, rfl, rfl, hno⟩
      obtain ⟨q, hq, rfl⟩ := get_ref hy
      obtain ⟨x, hx, hxa⟩ := hp.pump hq
      walk_at "rd"
      refine rd_ite (fun h2 => ?_) (fun h2 => ?_)
      · have e : a.does .cut = (a, Kv335.say (-16)) := by
          simp only [Kv335.Abs.does]
          rw [if_neg hne, if_pos (List.any_eq_true.mpr ⟨x, List.mem_of_getElem? hx, by simp; omega⟩)]
        rw [e] at k
        walk_at "rd"
        exact rd_new (by simp) (k.say ⟨hpA, hG⟩ rfl)
      · walk_at "rd"
        refine ⟨_, rfl, rfl, ?_⟩
        rw [take_snoc hx, List.any_append, hno]
        simp
        omega
    · rintro σ H' ⟨v2, rfl, rfl, hno⟩
      rw [List.length_map, hp.qlen, List.take_length] at hno
      have e : a.does .cut = ({ a with pieces := a.pieces.dropLast }, Kv335.say (a.pieces.length - 1 : Nat)) := by
        simp only [Kv335.Abs.does]
        rw [if_neg hne, if_neg (by rw [hno]; decide)]
      rw [e] at k
      walk_at "rd"
      refine rd_tyL hp.lp ?_
      have hl' : ps.length - 1 < ps.length := by
        have := hp.plen
        omega
      refine rd_pop hp.lp (y := V.ref ps[ps.length - 1]) (by rw [List.length_map, List.getElem?_map, List.getElem?_eq_getElem hl']; rfl) ?_
      rw [← List.map_dropLast]
      walk_at "rd"
      have el : ((a.pieces.length : Int) - 1) = ((a.pieces.length - 1 : Nat) : Int) := by omega
      rw [el]
      refine rd_new (by simp) (k.new (F1 := p :: l :: c :: (ps.dropLast ++ qs)) ⟨⟨dx, l, c, ps.dropLast, qs, hp.cut, rfl⟩, ?_⟩ ?_ ?_ (fun _ z => upd_none z) rfl)
      · refine ⟨?_, hG.nq, fun y hy => hG.pc y ((List.dropLast_sublist _).subset hy), hG.pu, hG.gr, hG.mx, hG.lo, hG.hi⟩
        show a.pieces.dropLast.length ≤ 8
        rw [List.length_dropLast]
        have := hG.np
        omega
      · intro b' hb'
        simp only [List.mem_cons, List.mem_append] at hb' ⊢
        rcases hb' with h | h | h | h | h
        · exact .inl (.inl h)
        · exact .inl (.inr (.inl h))
        · exact .inl (.inr (.inr (.inl h)))
        · exact .inl (.inr (.inr (.inr (.inl ((List.dropLast_sublist _).subset h)))))
        · exact .inl (.inr (.inr (.inr (.inr h))))
      · intro b' o e hb'
        rw [upd_ne (memF hb').2.1]
        exact e
end
end Sp

set_option Elab.async false
set_option linter.all false
set_option maxRecDepth 100000
set_option maxHeartbeats 2000000
namespace Sp
open PySem PySem.Spec PyProof.Rows L2
local macro_rules | `(tactic| walk_at "s1") => `(tactic| first
  | with_reducible refine rd_seq ?_
  | with_reducible refine rd_asg ?_
  | with_reducible refine rd_gname ?_
  | ((with_reducible apply rd_var); exact rfl)
  | with_reducible refine rd_c ?_
  | with_reducible refine rd_op ?_
  | with_reducible refine rd_i0 ?_
  | with_reducible refine rd_eqI ?_
  | ((with_reducible refine rd_mul ?_ ?_); first | exact mul_rN (by omega) (by omega) | exact mul_lN (by omega) (by omega))
  | ((with_reducible refine rd_fdiv ?_ ?_ ?_); (focus (first | decide | omega)); (focus (first | decide | omega)))
  | with_reducible refine rd_fld ?_
  | with_reducible refine rd_ret ?_
  | with_reducible refine rd_drop ?_
  | with_reducible refine rd_ifS ?_
  | with_reducible refine rd_if ?_
  | with_reducible refine rd_test ?_
  | with_reducible refine rd_tB ?_
  | with_reducible refine rd_and ?_
  | with_reducible refine rd_or ?_
  | with_reducible refine rd_not ?_
  | with_reducible refine rd_chain ?_
  | with_reducible refine rd_andV ?_
  | with_reducible refine rd_orV ?_
  | with_reducible refine rd_notV ?_
  | with_reducible refine rd_isblX ?_
  | with_reducible refine rd_nil ?_
  | with_reducible refine rd_cons ?_
  | with_reducible refine rd_call ?_
  | with_reducible refine rd_callLen ?_
  | with_reducible refine rd_callB ?_
  | with_reducible refine rd_lst ?_
  | with_reducible refine rd_next ?_
  | with_reducible refine rd_sfld ?_
  | with_reducible refine rd_un ?_
  | with_reducible refine rd_u ?_
  | with_reducible refine rd_make ?_
  | with_reducible refine rd_for ?_
  | with_reducible refine rd_ilist ?_
  | with_reducible refine rd_ienum ?_
  | with_reducible refine rd_irng2 ?_
  | with_reducible refine rd_irng1 ?_
  | with_reducible refine rd_yes ?_
  | with_reducible refine rd_irng3 ?_
  | ((with_reducible refine rd_mod ?_ ?_); (focus decide))
  | with_reducible refine rd_lc ?_
  | with_reducible refine rd_sl ?_
  | with_reducible refine rd_nopart ?_
  | with_reducible refine rd_part ?_
  | with_reducible refine rd_isint ?_
  | with_reducible refine rd_neI ?_
  | with_reducible refine rd_bm ?_
  | with_reducible refine rd_bm0 ?_
  | with_reducible refine iteT ?_
  | ((with_reducible refine rd_iteDT ?_ ?_); (focus decide))
  | ((with_reducible refine rd_iteDF ?_ ?_); (focus decide))
  | ((with_reducible apply rd_ixL); (focus exact SqL.of (by assumption)); (focus exact rfl))
  | with_reducible refine iteF ?_
  | ((with_reducible apply rd_piece_long); assumption; assumption)
  | ((with_reducible apply rd_piece_rise); assumption; assumption)
  | ((with_reducible apply rd_piece_wide); assumption; assumption)
  | ((with_reducible apply rd_pump_at); assumption; assumption)
  | ((with_reducible apply rd_pump_adds); assumption; assumption)
  | ((with_reducible apply rd_pump_runs); assumption; assumption)
  | ((with_reducible apply rd_pipe_begun); assumption; assumption)
  | ((with_reducible apply rd_pipe_grain); assumption; assumption)
  | ((with_reducible apply rd_pipe_mix); assumption; assumption)
  | ((with_reducible apply rd_pipe_low); assumption; assumption)
  | ((with_reducible apply rd_pipe_high); assumption; assumption)
  | ((with_reducible apply rd_pipe_pieces); assumption; assumption)
  | ((with_reducible apply rd_pipe_pumps); assumption; assumption))
local macro_rules | `(tactic| walk_at "rd") => `(tactic| repeat walk_at "s1")
def longer (a : Kv335.Abs) (n w : Nat) : Kv335.Abs := { a with pieces := a.pieces ++ [⟨n, 0, w⟩] }
def sp_copied (K : PySem.W.Frag) (A : Ad) : Sp := fun vs H Q _ => ∃ (p dx l k : Addr) (ps qs : List Addr) (b : Bool) (a : Kv335.Abs), vs = [.ref p] ∧ PipeOn A H p dx l k ps qs b a ∧ ∀ H' x dx' l' k', Same H H' → PipeOn A H' x dx' l' k' ps qs b a → H x = none → H l' = none → H k' = none → Q (.ref x) H'
def sp_with_choice (K : PySem.W.Frag) (A : Ad) : Sp := fun vs H Q _ => ∃ (p : Addr) (F : List Addr) (b : Bool) (a : Kv335.Abs) (s : Nat), vs = [.ref p, .int s] ∧ PipeAt A H p F b a ∧ a.pumps.length ≤ 6 ∧ ∀ H' x F', Same H H' → PipeAt A H' x F' b (a.withPumps s) → Q (.ref x) H'
def sp_choice_count (K : PySem.W.Frag) (A : Ad) : Sp := fun vs H Q _ => ∃ (p : Addr) (F : List Addr) (b : Bool) (a : Kv335.Abs), vs = [.ref p] ∧ PipeAt A H p F b a ∧ Q (.int ((2 ^ a.pumps.length : Nat) : Int)) H
def sp_running_count (K : PySem.W.Frag) (A : Ad) : Sp := fun vs H Q _ => ∃ (p : Addr) (F : List Addr) (b : Bool) (a : Kv335.Abs), vs = [.ref p] ∧ PipeAt A H p F b a ∧ a.pumps.length ≤ 6 ∧ ∀ H', Same H H' → Q (.int (((a.pumps.filter fun x => x.on_).length : Nat) : Int)) H'
def sp_goes_with (K : PySem.W.Frag) (A : Ad) : Sp := fun vs H Q _ => ∃ (p : Addr) (F : List Addr) (b : Bool) (a : Kv335.Abs) (v n w : Nat), vs = [.ref p, .int v, .int n, .int w] ∧ PipeAt A H p F b a ∧ Good a ∧ a.pieces.length < 8 ∧ v ≤ 99 ∧ 1 ≤ n ∧ n ≤ 3000 ∧ wideOk w ∧ ∀ H', Same H H' → Q (.bl ((longer a n w).goes v)) H'
theorem sm_over {H H1 : Hp} {x : Addr} {o : HO} (s : Same H H1) (n : H x = none) : Same H (L2.upd H1 x o) := fun b o' e => by
  rw [upd_ne (ne_of_none e n)]
  exact s b o' e
/-- a pipe with other pumps -/
theorem PipeOn.setPumps {A : Ad} {H : Hp} {p dx l k : Addr} {ps qs : List Addr} {b : Bool} {a : Kv335.Abs} (h : PipeOn A H p dx l k ps qs b a) {r : Addr} {L : List Addr} {pu : List Kv335.Pump} (hr : H r = some (.lst (L.map V.ref))) (hne : l ≠ r) (nd : L.Nodup) (len : L.length = pu.length)
    (at_ : ∀ (j : Nat) (q : Addr) (x : Kv335.Pump), L[j]? = some q → pu[j]? = some x → PumpAt A H q x) : PipeOn A (upd H p (.ins A.c_Pipe dx (pipeF b a l r))) p dx l r ps L b { a with pumps := pu } := by
  have hrp : r ≠ p := ne_of hr h.ob (by intro z; cases z)
  refine ⟨upd_same, by rw [upd_ne h.pl]; exact h.lp, by rw [upd_ne hrp]; exact hr, hne, h.ndp, nd, h.plen, len, fun j q x i1 i2 => ?_, fun j q x i1 i2 => ?_⟩
  · obtain ⟨dq, e⟩ := h.pat j q x i1 i2
    exact ⟨dq, by rw [upd_ne (h.ps_p (List.mem_of_getElem? i1))]; exact e⟩
  · obtain ⟨dq, e⟩ := at_ j q x i1 i2
    exact ⟨dq, by rw [upd_ne (ne_of e h.ob (ins_len (by show 3 ≠ 7; decide)))]; exact e⟩
def onAt (s : Nat) (j : Nat) (x : Kv335.Pump) : Kv335.Pump := { x with on_ := s / 2 ^ j % 2 == 1 }
theorem with_at {a : Kv335.Abs} {s j : Nat} : (a.withPumps s).pumps[j]? = (a.pumps[j]?).map (onAt s j) := by
  show (a.pumps.mapIdx fun i x => onAt s i x)[j]? = _
  rw [List.getElem?_mapIdx]
theorem with_len {a : Kv335.Abs} {s : Nat} : (a.withPumps s).pumps.length = a.pumps.length := by
  show (a.pumps.mapIdx _).length = _
  rw [List.length_mapIdx]
theorem bit_runs {s j : Nat} {x : Kv335.Pump} : (((s / 2 ^ j : Nat) : Int)) % 2 = runsI (onAt s j x) := by
  unfold runsI onAt
  have h : s / 2 ^ j % 2 = 0 ∨ s / 2 ^ j % 2 = 1 := by omega
  rcases h with h | h
  · rw [h]
    show _ = (0 : Int)
    omega
  · rw [h]
    show _ = (1 : Int)
    omega
theorem half_bits {s j : Nat} : (((s / 2 ^ j : Nat) : Int)) / 2 = ((s / 2 ^ (j + 1) : Nat) : Int) := by
  rw [Nat.pow_succ, ← Nat.div_div_eq_div_mul]
  omega
theorem runs_sum0 : ∀ l : List Kv335.Pump, (l.map runsI).sum = (((l.filter Kv335.Pump.on_).length : Nat) : Int)
  | [] => rfl
  | x :: l => by
    rw [List.map_cons, List.sum_cons, runs_sum0 l]
    cases h : x.on_ with
    | true =>
      rw [List.filter_cons_of_pos h, List.length_cons, show runsI x = 1 by unfold runsI; rw [h]; rfl]
      omega
    | false =>
      rw [List.filter_cons_of_neg (by rw [h]; decide), show runsI x = 0 by unfold runsI; rw [h]; rfl]
      omega
theorem runs_sum (l : List Kv335.Pump) : (l.map runsI).sum = (((l.filter fun x => x.on_).length : Nat) : Int) := runs_sum0 l
theorem size_idx : ∀ (l : List Kv335.Pump) (P : Nat → Bool), ((l.mapIdx fun i x => ({ x with on_ := P i } : Kv335.Pump)).filter fun x => x.on_).length = ((List.range l.length).filter P).length
  | [], P => rfl
  | x :: l, P => by
    have ih := size_idx l fun i => P (i + 1)
    rw [List.mapIdx_cons, List.length_cons, List.range_succ_eq_map, List.filter_cons, List.filter_cons, List.filter_map, apply_ite List.length, apply_ite List.length, List.length_cons, List.length_cons, List.length_map, ih]
    rfl
theorem size_on {a : Kv335.Abs} {s : Nat} : ((a.withPumps s).pumps.filter fun x => x.on_).length = Kv335.size s a.pumps.length := size_idx a.pumps fun i => s / 2 ^ i % 2 == 1
section
variable {P : Program} {w : World} {K : PySem.W.Frag} {mg : Str → Option Value} {base : Heap} {A : Ad}
theorem ok_copied (T : Txt K mg A) : FnOk P w K mg base CX0 3 A.f_copied A.d_copied ["pipe"] (sp_copied K A) := by
  have G_Pipe__init__ : FnOk P w K mg base CX0 1 A.f_Pipe__init__ A.d_Pipe__init__ ["self"] (sp_Pipe__init__ K A) := ok_Pipe__init__ T
  refine T.F_copied.ok sc_copied (fun vs H Q E h => ?_) (fun cdv Ar outer s H vs Q E hr h => ?_)
  · obtain ⟨p, dx, l, c, ps, qs, b, a, rfl, _⟩ := h
    rfl
  · obtain ⟨p, dx, l, c, ps, qs, b, a, rfl, hp, k⟩ := h
    refine ⟨_, (pss_cons (ps_set (i := 1) sc_copied.nd rfl (Or.inl rfl) (pe_make0 T.mk_Pipe G_Pipe__init__ (hr.mono (by decide)) rfl T.m_Pipe T.b_Pipe__init__ .nil pass0))
      (pss_cons (ps_fldK K rfl (pv 1) (pe_fldK K rfl (pv 0) rfl) rfl)
      (pss_cons (ps_fldK K rfl (pv 1) (pe_fldK K rfl (pv 0) rfl) rfl)
      (pss_cons (ps_fldK K rfl (pv 1) (pe_fldK K rfl (pv 0) rfl) rfl)
      (pss_cons (ps_fldK K rfl (pv 1) (pe_fldK K rfl (pv 0) rfl) rfl)
      (pss_cons (ps_fldK K rfl (pv 1) (pe_fldK K rfl (pv 0) rfl) rfl)
      (pss_cons (ps_fldK K rfl (pv 1) (pe_callTy (call_list_ofK K rfl) (by rfl) T.nb_list (by decide +kernel) (pa_cons (pe_fldK K rfl (pv 0) rfl) pa_nil)) rfl)
      (pss_cons (ps_fldK K rfl (pv 1) (pe_callTy (call_list_ofK K rfl) (by rfl) T.nb_list (by decide +kernel) (pa_cons (pe_fldK K rfl (pv 0) rfl) pa_nil)) rfl)
      (pss_one (ps_ret (pv 1))))))))))), ?_⟩
    walk_at "rd"
    intro x dq nx nd ndx
    refine ⟨x, dq, rfl, upd_same, fun H1 l1 k1 hx1 hl1 hk1 nlk fl fk fr => ⟨rfl, ?_⟩⟩
    have s1 : Same H H1 := Same.made nx nd fr
    have hp1 := hp.mono s1
    walk_at "rd"
    refine st_to (fs' := pipeG b 0 0 0 0 l1 k1) hx1 T.cl_Pipe T.n_Pipe_begun (by show 7 < 1000; decide) rfl ?_
    have s2 := sm_over s1 (o := .ins A.c_Pipe dq (pipeG b 0 0 0 0 l1 k1)) nx
    have hp2 := hp.mono s2
    walk_at "rd"
    refine st_to (fs' := pipeG b a.grain 0 0 0 l1 k1) upd_same T.cl_Pipe T.n_Pipe_grain (by show 7 < 1000; decide) rfl ?_
    have s3 := sm_over s2 (o := .ins A.c_Pipe dq (pipeG b a.grain 0 0 0 l1 k1)) nx
    have hp3 := hp.mono s3
    walk_at "rd"
    refine st_to (fs' := pipeG b a.grain a.mix 0 0 l1 k1) upd_same T.cl_Pipe T.n_Pipe_mix (by show 7 < 1000; decide) rfl ?_
    have s4 := sm_over s3 (o := .ins A.c_Pipe dq (pipeG b a.grain a.mix 0 0 l1 k1)) nx
    have hp4 := hp.mono s4
    walk_at "rd"
    refine st_to (fs' := pipeG b a.grain a.mix a.low 0 l1 k1) upd_same T.cl_Pipe T.n_Pipe_low (by show 7 < 1000; decide) rfl ?_
    have s5 := sm_over s4 (o := .ins A.c_Pipe dq (pipeG b a.grain a.mix a.low 0 l1 k1)) nx
    have hp5 := hp.mono s5
    walk_at "rd"
    refine st_to (fs' := pipeG b a.grain a.mix a.low a.high l1 k1) upd_same T.cl_Pipe T.n_Pipe_high (by show 7 < 1000; decide) rfl ?_
    have s6 := sm_over s5 (o := .ins A.c_Pipe dq (pipeG b a.grain a.mix a.low a.high l1 k1)) nx
    have hp6 := hp.mono s6
    walk_at "rd"
    refine rd_listof (SqL.of hp6.lp) fun l2 hl2 => ?_
    have nxl : x ≠ l2 := (upd_noneL hl2).symm
    have fl2 : H l2 = none := s6.free hl2
    have s7 := sm_over s6 (o := .lst (ps.map V.ref)) fl2
    walk_at "rd"
    refine st_to (C := A.c_Pipe) (dx := dq) (fs' := pipeG b a.grain a.mix a.low a.high l2 k1) (by rw [upd_ne nxl]; exact upd_same) T.cl_Pipe T.n_Pipe_pieces (by show 7 < 1000; decide) rfl ?_
    have s8 := sm_over s7 (o := .ins A.c_Pipe dq (pipeG b a.grain a.mix a.low a.high l2 k1)) nx
    have hp8 := hp.mono s8
    walk_at "rd"
    refine rd_listof (SqL.of hp8.lq) fun k2 hk2 => ?_
    have nxk : x ≠ k2 := (upd_noneL hk2).symm
    have nlk2 : l2 ≠ k2 := (upd_noneL (upd_none hk2)).symm
    have fk2 : H k2 = none := s8.free hk2
    have s9 := sm_over s8 (o := .lst (qs.map V.ref)) fk2
    walk_at "rd"
    refine st_to (C := A.c_Pipe) (dx := dq) (fs' := pipeF b a l2 k2) (by rw [upd_ne nxk]; exact upd_same) T.cl_Pipe T.n_Pipe_pumps (by show 7 < 1000; decide) rfl ?_
    have s10 := sm_over s9 (o := .ins A.c_Pipe dq (pipeF b a l2 k2)) nx
    have hp10 := hp.mono s10
    walk_at "rd"
    refine k _ x dq l2 k2 s10 ⟨upd_same, ?_, ?_, nlk2, hp.ndp, hp.ndq, hp.plen, hp.qlen, hp10.pat, hp10.qat⟩ nx fl2 fk2
    · rw [upd_ne nxl.symm, upd_ne nlk2, upd_ne nxl.symm, upd_same]
    · rw [upd_ne nxk.symm, upd_same]
theorem ok_with_choice (T : Txt K mg A) : FnOk P w K mg base CX0 4 A.f_with_choice A.d_with_choice ["pipe", "choice"] (sp_with_choice K A) := by
  have G_copied : FnOk P w K mg base CX0 3 A.f_copied A.d_copied ["pipe"] (sp_copied K A) := ok_copied T
  have G_Pump__init__ : FnOk P w K mg base CX0 1 A.f_Pump__init__ A.d_Pump__init__ ["self", "at", "adds", "runs"] (sp_Pump__init__ K A) := ok_Pump__init__ T
  refine T.F_with_choice.ok sc_with_choice (fun vs H Q E h => ?_) (fun cdv Ar outer s H vs Q E hr h => ?_)
  · obtain ⟨p, F, b, a, s, rfl, _⟩ := h
    rfl
  · obtain ⟨p, F, b, a, ch, rfl, hp, hn, k⟩ := h
    have hpA := hp
    obtain ⟨dx, l, c, ps, qs, hp, rfl⟩ := hp
    refine ⟨_, (pss_cons (ps_set (i := 2) sc_with_choice.nd rfl (Or.inl rfl) (pe_lst pa_nil))
      (pss_cons (ps_set (i := 3) sc_with_choice.nd rfl (Or.inl rfl) (pv 1))
      (pss_cons (ps_for PassesOwn.never rfl (pi_listK K rfl (pe_fldK K rfl (pv 0) rfl)) (pg_name (i := 4) sc_with_choice.nd rfl (Or.inl rfl)) (pss_cons (ps_expr (pe_bmK K rfl PySem.F.plainAttrs_list PySem.F.slot_list_append PySem.F.type_list_append mt_append (pv 2) (pa_cons (pe_make T.mk_Pump G_Pump__init__ (hr.mono (by decide)) rfl T.m_Pump T.b_Pump__init__ .nil pass0 (pa_cons (pe_fldK K rfl (pv 4) rfl) (pa_cons (pe_fldK K rfl (pv 4) rfl) (pa_cons (pe_op op_mod (pv 3) pe_int) pa_nil)))) pa_nil)))
      (pss_one (ps_set (i := 3) sc_with_choice.nd rfl (Or.inl rfl) (pe_op op_fdiv (pv 3) pe_int)))))
      (pss_cons (ps_set (i := 5) sc_with_choice.nd rfl (Or.inl rfl) (pe_call G_copied (hr.mono (by decide)) rfl T.m_copied T.F_copied.kp T.b_copied .nil pass0 (pa_cons (pv 0) pa_nil)))
      (pss_cons (ps_fldK K rfl (pv 5) (pv 2) rfl)
      (pss_one (ps_ret (pv 5)))))))), ?_⟩
    walk_at "rd"
    refine rd_new (by simp) fun r hr0 => ?_
    have s0 : Same H (upd H r (.lst [])) := Same.upd hr0
    have hp0 := hp.mono s0
    walk_at "rd"
    refine ⟨_, rfl, ⟨_, SqL.of hp0.lq⟩, for_list (K := K) (a := c) (xs := qs.map V.ref) (fun i σ H' => ∃ (L : List Addr) (v4 v5 : Option V), σ = [some (.ref p), some (.int ch), some (.ref r), some (.int ((ch / 2 ^ i : Nat) : Int)), v4, v5] ∧ Same H H' ∧ H' r = some (.lst (L.map V.ref)) ∧ L.length = i ∧ L.Nodup ∧
      ∀ (j : Nat) (q : Addr) (x : Kv335.Pump), L[j]? = some q → a.pumps[j]? = some x → PumpAt A H' q (onAt ch j x)) ⟨[], none, none, ?_, s0, upd_same, rfl, List.nodup_nil, fun j q x h _ => by simp at h⟩ (fun i σ H' _ ⟨_, _, _, _, s1, _⟩ => SqL.of (s1 _ _ hp.lq)) ?_ ?_⟩
    · rw [Nat.pow_zero, Nat.div_one]
      rfl
    · rintro i y σ H' hy ⟨L, v4, v5, rfl, s1, hr1, hL, hnd, hat⟩
      obtain ⟨q, hq, rfl⟩ := get_ref hy
      obtain ⟨x, hx, hxa⟩ := hp.pump hq
      have hxa := hxa.mono s1
      have hi : i < a.pumps.length := (List.getElem?_eq_some_iff.mp hx).1
      walk_at "rd"
      refine rd_tyL hr1 ?_
      walk_at "rd"
      intro z dq nz nd ndz
      refine ⟨z, dq, onAt ch i x, ?_, upd_same, fun H1 hz kz => ⟨rfl, ?_⟩⟩
      · rw [← bit_runs]
        rfl
      have s2 : Same H' H1 := Same.made nz nd fun b o e hb => by rw [kz b hb]; exact e
      walk_at "rd"
      refine rd_append (s2 _ _ hr1) ?_ ?_
      · rw [List.length_map, hL]
        exact small1000 (by omega)
      walk_at "rd"
      have em : (L.map V.ref ++ [V.ref z]) = (L ++ [z]).map V.ref := by
        rw [List.map_append]
        rfl
      have hrz : H1 r = some (.lst (L.map V.ref)) := s2 _ _ hr1
      refine ⟨L ++ [z], _, _, by rw [← half_bits]; rfl, sm_over (s1.trans s2) hr0, by rw [upd_same, em], by rw [List.length_append, hL]; rfl, nd_snocA hnd fun m => ?_, fun j q' x' i1 i2 => ?_⟩
      · obtain ⟨j, hj⟩ := List.mem_iff_getElem?.mp m
        have hjl := (List.getElem?_eq_some_iff.mp hj).1
        obtain ⟨d, e⟩ := hat j z _ hj (List.getElem?_eq_getElem (by omega))
        rw [nz] at e
        cases e
      · rcases get_snoc i1 with ⟨j1, i1⟩ | ⟨j1, e1⟩
        · obtain ⟨d, e⟩ := hat j q' x' i1 i2
          have e := s2 _ _ e
          exact ⟨d, by rw [upd_ne (ne_of e hrz (by intro z; cases z))]; exact e⟩
        · rw [hL] at j1
          subst j1
          have : x' = x := Option.some.inj (i2.symm.trans hx)
          subst this
          subst e1
          exact ⟨dq, by rw [upd_ne (ne_of hz hrz (by intro z; cases z))]; exact hz⟩
    · rintro σ H' ⟨L, v4, v5, rfl, s1, hr1, hL, hnd, hat⟩
      rw [List.length_map, hp.qlen] at hL
      walk_at "rd"
      refine ⟨p, dx, l, c, ps, qs, b, a, rfl, hp.mono s1, fun H2 x dx2 l2 k2 s2 hx nx nl nk => ?_⟩
      walk_at "rd"
      refine st_to (fs' := pipeF b a l2 r) hx.ob T.cl_Pipe T.n_Pipe_pumps (by show 7 < 1000; decide) rfl ?_
      walk_at "rd"
      refine k _ x _ (sm_over (s1.trans s2) (s1.free nx)) (hx.setPumps (pu := (a.withPumps ch).pumps) (s2 _ _ hr1) (ne_of_none hr1 nl).symm hnd (by rw [with_len, hL]) fun j q y i1 i2 => ?_).at
      rw [with_at] at i2
      cases e : a.pumps[j]? with
      | none =>
        rw [e] at i2
        cases i2
      | some z =>
        rw [e] at i2
        have e2 := Option.some.inj i2
        subst e2
        exact (hat j q z i1 e).mono s2
theorem ok_choice_count (T : Txt K mg A) : FnOk P w K mg base CX0 1 A.f_choice_count A.d_choice_count ["pipe"] (sp_choice_count K A) := by
  refine T.F_choice_count.ok sc_choice_count (fun vs H Q E h => ?_) (fun cdv Ar outer s H vs Q E hr h => ?_)
  · obtain ⟨p, F, b, a, rfl, _⟩ := h
    rfl
  · obtain ⟨p, F, b, a, rfl, hp, k⟩ := h
    obtain ⟨dx, l, c, ps, qs, hp, rfl⟩ := hp
    refine ⟨_, (pss_cons (ps_set (i := 1) sc_choice_count.nd rfl (Or.inl rfl) pe_int)
      (pss_cons (ps_for PassesOwn.never rfl (pi_listK K rfl (pe_fldK K rfl (pv 0) rfl)) (pg_name (i := 2) sc_choice_count.nd rfl (Or.inl rfl)) (pss_one (ps_set (i := 1) sc_choice_count.nd rfl (Or.inl rfl) (pe_op op_mul (pv 1) pe_int))))
      (pss_one (ps_ret (pv 1))))), ?_⟩
    walk_at "rd"
    refine ⟨_, rfl, ⟨_, SqL.of hp.lq⟩, for_list (K := K) (a := c) (xs := qs.map V.ref) (fun i σ H' => ∃ v2 : Option V, σ = [some (.ref p), some (.int ((2 ^ i : Nat) : Int)), v2] ∧ H' = H)
      ⟨none, rfl, rfl⟩ (fun i σ H' _ ⟨_, _, e⟩ => by rw [e]; exact SqL.of hp.lq) ?_ ?_⟩
    · rintro i y σ H' hy ⟨v2, rfl, rfl⟩
      walk_at "rd"
      refine ⟨some y, ?_, rfl⟩
      rw [Nat.pow_succ, Int.natCast_mul]
      rfl
    · rintro σ H' ⟨v2, rfl, rfl⟩
      rw [List.length_map, hp.qlen]
      walk_at "rd"
      exact k
theorem ok_running_count (T : Txt K mg A) : FnOk P w K mg base CX0 1 A.f_running_count A.d_running_count ["pipe"] (sp_running_count K A) := by
  refine T.F_running_count.ok sc_running_count (fun vs H Q E h => ?_) (fun cdv Ar outer s H vs Q E hr h => ?_)
  · obtain ⟨p, F, b, a, rfl, _⟩ := h
    rfl
  · obtain ⟨p, F, b, a, rfl, hp, hn, k⟩ := h
    obtain ⟨dx, l, c, ps, qs, hp, rfl⟩ := hp
    refine ⟨_, (pss_one (ps_ret (pe_callB (cr_sumK K rfl rfl) (by rfl) T.nb_sum (by decide +kernel) (pa_cons (pe_lc rfl sc_running_count.nd (pi_listK K rfl (pe_fldK K rfl (pv 0) rfl)) (blkOk_by (N := ["pipe", "pump"]) (sc := defScope s_running_count) (own := [("pump", 1)]) (by decide +kernel)) (fun _ _ _ _ _ => (pg_name (i := 1) sc_running_count.nd rfl (Or.inl rfl))) (fun _ _ _ _ _ => pts_nil) (fun _ _ _ _ _ => (pe_fldK K rfl (pv 1) rfl))) pa_nil)))), ?_⟩
    walk_at "rd"
    refine ⟨_, rfl, ⟨_, SqL.of hp.lq⟩, fun D hD => ?_⟩
    have s0 : Same H (upd H D (.lst [])) := Same.upd hD
    refine lc_list (K := K) (a := c) (xs := qs.map V.ref) (fun j H' => Same H H' ∧ H' D = some (.lst ((a.pumps.take j).map fun x => V.int (runsI x))))
      ⟨s0, upd_same⟩ (fun j H' _ h => SqL.of (h.1 _ _ hp.lq)) ?_ ?_
    · rintro j y H' hy ⟨s1, hD1⟩
      obtain ⟨q, hq, rfl⟩ := get_ref hy
      obtain ⟨x, hx, hxa⟩ := hp.pump hq
      have hxa := hxa.mono s1
      refine rd_gname ⟨rfl, ?_⟩
      walk_at "rd"
      refine ⟨_, hD1, ?_, sm_over s1 hD, ?_⟩
      · rw [List.length_map, List.length_take]
        exact small1000 (by omega)
      · rw [upd_same, take_snoc hx, List.map_append]
        rfl
    · rintro H' ⟨s1, hD1⟩
      rw [List.length_map, hp.qlen, List.take_length] at hD1
      walk_at "rd"
      refine rd_sum (ns := a.pumps.map runsI) ?_ ?_
      · rw [List.map_map]
        exact SqL.of hD1
      rw [runs_sum]
      exact k H' s1
theorem ok_goes_with (T : Txt K mg A) : FnOk P w K mg base CX0 6 A.f_goes_with A.d_goes_with ["pipe", "speed", "long", "wide"] (sp_goes_with K A) := by
  have G_copied : FnOk P w K mg base CX0 3 A.f_copied A.d_copied ["pipe"] (sp_copied K A) := ok_copied T
  have G_goes_at : FnOk P w K mg base CX0 5 A.f_goes_at A.d_goes_at ["pipe", "speed"] (sp_goes_at K A) := ok_goes_at T
  have G_Piece__init__ : FnOk P w K mg base CX0 1 A.f_Piece__init__ A.d_Piece__init__ ["self", "long", "rise", "wide"] (sp_Piece__init__ K A) := ok_Piece__init__ T
  refine T.F_goes_with.ok sc_goes_with (fun vs H Q E h => ?_) (fun cdv Ar outer s H vs Q E hr h => ?_)
  · obtain ⟨p, F, b, a, v, n, w, rfl, _⟩ := h
    rfl
  · obtain ⟨p, F, b, a, v, n, w', rfl, hp, hG, h8, hv, hn1, hn2, hw, k⟩ := h
    obtain ⟨dx, l, c, ps, qs, hp, rfl⟩ := hp
    refine ⟨_, (pss_cons (ps_set (i := 4) sc_goes_with.nd rfl (Or.inl rfl) (pe_call G_copied (hr.mono (by decide)) rfl T.m_copied T.F_copied.kp T.b_copied .nil pass0 (pa_cons (pv 0) pa_nil)))
      (pss_cons (ps_expr (pe_bmK K rfl PySem.F.plainAttrs_list PySem.F.slot_list_append PySem.F.type_list_append mt_append (pe_fldK K rfl (pv 4) rfl) (pa_cons (pe_make T.mk_Piece G_Piece__init__ (hr.mono (by decide)) rfl T.m_Piece T.b_Piece__init__ .nil pass0 (pa_cons (pv 2) (pa_cons pe_int (pa_cons (pv 3) pa_nil)))) pa_nil)))
      (pss_one (ps_ret (pe_call G_goes_at (hr.mono (by decide)) rfl T.m_goes_at T.F_goes_at.kp T.b_goes_at .nil pass0 (pa_cons (pv 4) (pa_cons (pv 1) pa_nil))))))), ?_⟩
    walk_at "rd"
    refine ⟨p, dx, l, c, ps, qs, b, a, rfl, hp, fun H1 x dx1 l1 k1 s1 hx nx nl nk => ?_⟩
    walk_at "rd"
    refine rd_tyL hx.lp ?_
    walk_at "rd"
    intro y dq ny nd ndy
    refine ⟨y, dq, ⟨n, 0, w'⟩, rfl, upd_same, fun H2 hy ky => ⟨rfl, ?_⟩⟩
    have s2 : Same H1 H2 := Same.made ny nd fun b o e hb => by rw [ky b hb]; exact e
    walk_at "rd"
    refine rd_append (s2 _ _ hx.lp) ?_ ?_
    · rw [List.length_map, hp.plen]
      exact small1000 (by omega)
    have em : (ps.map V.ref ++ [V.ref y]) = (ps ++ [y]).map V.ref := by
      rw [List.map_append]
      rfl
    rw [em]
    walk_at "rd"
    refine ⟨x, _, b, longer a n w', v, rfl, (hx.addPiece s2 ny ⟨dq, hy⟩).at, ?_, hv, fun H3 s3 => ?_⟩
    · refine ⟨?_, hG.nq, fun z hz => ?_, hG.pu, hG.gr, hG.mx, hG.lo, hG.hi⟩
      · show (a.pieces ++ [_]).length ≤ 8
        rw [List.length_append, List.length_singleton]
        omega
      · rcases List.mem_append.mp hz with hz | hz
        · exact hG.pc z hz
        · rw [List.mem_singleton] at hz
          subst hz
          exact ⟨⟨hn1, hn2⟩, by show (-300 : Int) ≤ 0 ∧ (0 : Int) ≤ 300; omega, hw⟩
    walk_at "rd"
    exact k H3 ((sm_over (s1.trans s2) nl).trans s3)
end
end Sp

set_option Elab.async false
set_option linter.all false
set_option maxRecDepth 100000
set_option maxHeartbeats 2000000
namespace Sp
open PySem PySem.Spec PyProof.Rows L2
local macro_rules | `(tactic| walk_at "s1") => `(tactic| first
  | with_reducible refine rd_seq ?_
  | with_reducible refine rd_asg ?_
  | with_reducible refine rd_gname ?_
  | ((with_reducible apply rd_var); exact rfl)
  | with_reducible refine rd_c ?_
  | with_reducible refine rd_op ?_
  | with_reducible refine rd_i0 ?_
  | with_reducible refine rd_eqI ?_
  | ((with_reducible refine rd_mul ?_ ?_); first | exact mul_rN (by omega) (by omega) | exact mul_lN (by omega) (by omega))
  | ((with_reducible refine rd_fdiv ?_ ?_ ?_); (focus (first | decide | omega)); (focus (first | decide | omega)))
  | with_reducible refine rd_fld ?_
  | with_reducible refine rd_ret ?_
  | with_reducible refine rd_drop ?_
  | with_reducible refine rd_ifS ?_
  | with_reducible refine rd_if ?_
  | with_reducible refine rd_test ?_
  | with_reducible refine rd_tB ?_
  | with_reducible refine rd_and ?_
  | with_reducible refine rd_or ?_
  | with_reducible refine rd_not ?_
  | with_reducible refine rd_chain ?_
  | with_reducible refine rd_andV ?_
  | with_reducible refine rd_orV ?_
  | with_reducible refine rd_notV ?_
  | with_reducible refine rd_isblX ?_
  | with_reducible refine rd_nil ?_
  | with_reducible refine rd_cons ?_
  | with_reducible refine rd_call ?_
  | with_reducible refine rd_callLen ?_
  | with_reducible refine rd_callB ?_
  | with_reducible refine rd_lst ?_
  | with_reducible refine rd_next ?_
  | with_reducible refine rd_sfld ?_
  | with_reducible refine rd_un ?_
  | with_reducible refine rd_u ?_
  | with_reducible refine rd_make ?_
  | with_reducible refine rd_for ?_
  | with_reducible refine rd_ilist ?_
  | with_reducible refine rd_ienum ?_
  | with_reducible refine rd_irng2 ?_
  | with_reducible refine rd_irng1 ?_
  | with_reducible refine rd_yes ?_
  | with_reducible refine rd_irng3 ?_
  | ((with_reducible refine rd_mod ?_ ?_); (focus decide))
  | with_reducible refine rd_lc ?_
  | with_reducible refine rd_sl ?_
  | with_reducible refine rd_nopart ?_
  | with_reducible refine rd_part ?_
  | with_reducible refine rd_isint ?_
  | with_reducible refine rd_neI ?_
  | with_reducible refine rd_bm ?_
  | with_reducible refine rd_bm0 ?_
  | with_reducible refine iteT ?_
  | ((with_reducible refine rd_iteDT ?_ ?_); (focus decide))
  | ((with_reducible refine rd_iteDF ?_ ?_); (focus decide))
  | ((with_reducible apply rd_ixL); (focus exact SqL.of (by assumption)); (focus exact rfl))
  | with_reducible refine iteF ?_
  | ((with_reducible apply rd_piece_long); assumption; assumption)
  | ((with_reducible apply rd_piece_rise); assumption; assumption)
  | ((with_reducible apply rd_piece_wide); assumption; assumption)
  | ((with_reducible apply rd_pump_at); assumption; assumption)
  | ((with_reducible apply rd_pump_adds); assumption; assumption)
  | ((with_reducible apply rd_pump_runs); assumption; assumption)
  | ((with_reducible apply rd_pipe_begun); assumption; assumption)
  | ((with_reducible apply rd_pipe_grain); assumption; assumption)
  | ((with_reducible apply rd_pipe_mix); assumption; assumption)
  | ((with_reducible apply rd_pipe_low); assumption; assumption)
  | ((with_reducible apply rd_pipe_high); assumption; assumption)
  | ((with_reducible apply rd_pipe_pieces); assumption; assumption)
  | ((with_reducible apply rd_pipe_pumps); assumption; assumption))
local macro_rules | `(tactic| walk_at "rd") => `(tactic| repeat walk_at "s1")
def sp_fewest (K : PySem.W.Frag) (A : Ad) : Sp := fun vs H Q _ => ∃ (p : Addr) (F : List Addr) (b : Bool) (a : Kv335.Abs) (v : Nat), vs = [.ref p, .int v] ∧ PipeAt A H p F b a ∧ Good a ∧ Ret H Q (rowOf a (.fewest v))
def sp_richest (K : PySem.W.Frag) (A : Ad) : Sp := fun vs H Q _ => ∃ (p : Addr) (F : List Addr) (b : Bool) (a : Kv335.Abs) (v : Nat), vs = [.ref p, .int v] ∧ PipeAt A H p F b a ∧ Good a ∧ Ret H Q (rowOf a (.richest v))
def sp_longest_that_goes (K : PySem.W.Frag) (A : Ad) : Sp := fun vs H Q _ => ∃ (p : Addr) (F : List Addr) (b : Bool) (a : Kv335.Abs) (v w : Nat), vs = [.ref p, .int v, .int w] ∧ PipeAt A H p F b a ∧ Good a ∧ a.pieces.length < 8 ∧ v ≤ 99 ∧ wideOk w ∧ (longer a 1 w).goes v = true ∧
  ∀ H' g, Same H H' → 1 ≤ g → g ≤ 3000 → (longer a g w).goes v = true → (g = 3000 ∨ (longer a (g + 1) w).goes v = false) → Q (.int (g : Nat)) H'
def sp_farther (K : PySem.W.Frag) (A : Ad) : Sp := fun vs H Q _ => ∃ (p : Addr) (F : List Addr) (b : Bool) (a : Kv335.Abs) (v w : Nat), vs = [.ref p, .int v, .int w] ∧ PipeAt A H p F b a ∧ Good a ∧ Ret H Q (rowOf a (.farther v w))
def fstep (a : Kv335.Abs) (v : Nat) (b : Option Nat) (s : Nat) : Option Nat := if (a.withPumps s).goes v then (match b with
  | none => some s
  | some t => if Kv335.size s a.pumps.length < Kv335.size t a.pumps.length then some s else some t) else b
def fup (a : Kv335.Abs) (v i : Nat) : Option Nat := (List.range i).foldl (fstep a v) none
theorem fup_succ {a : Kv335.Abs} {v i : Nat} : fup a v (i + 1) = fstep a v (fup a v i) i := by
  unfold fup
  rw [List.range_succ, List.foldl_append]
  rfl
theorem fewest_eq {a : Kv335.Abs} {v : Nat} : a.fewest v = fup a v (2 ^ a.pumps.length) := rfl
def fcount (n : Nat) : Option Nat → Nat
  | none => n + 1
  | some t => Kv335.size t n
def frow (n : Nat) : Option Nat → List Int
  | none => [-33]
  | some t => [((Kv335.size t n : Nat) : Int), (t : Int)]
theorem size_le {s n : Nat} : Kv335.size s n ≤ n := by
  unfold Kv335.size
  refine Nat.le_trans (List.length_filter_le _ _) ?_
  rw [List.length_range]
  exact Nat.le_refl _
theorem fstep_yes {a : Kv335.Abs} {v s : Nat} {b : Option Nat} (h : Kv335.size s a.pumps.length < fcount a.pumps.length b) (g : (a.withPumps s).goes v = true) : fstep a v b s = some s := by
  unfold fstep
  rw [if_pos g]
  cases b with
  | none => rfl
  | some t => exact if_pos h
theorem fstep_no {a : Kv335.Abs} {v s : Nat} {b : Option Nat} (h : ¬ (Kv335.size s a.pumps.length < fcount a.pumps.length b ∧ (a.withPumps s).goes v = true)) : fstep a v b s = b := by
  unfold fstep
  by_cases g : (a.withPumps s).goes v = true
  · rw [if_pos g]
    cases b with
    | none => exact absurd ⟨Nat.lt_succ_of_le size_le, g⟩ h
    | some t => exact if_neg fun z => h ⟨z, g⟩
  · rw [if_neg g]
theorem with_good {a : Kv335.Abs} {s : Nat} (h : Good a) : Good (a.withPumps s) := by
  refine ⟨h.np, by rw [with_len]; exact h.nq, h.pc, fun x hx => ?_, h.gr, h.mx, h.lo, h.hi⟩
  obtain ⟨j, hj⟩ := List.mem_iff_getElem?.mp hx
  rw [with_at] at hj
  cases e : a.pumps[j]? with
  | none =>
    rw [e] at hj
    cases hj
  | some z =>
    rw [e] at hj
    have e2 := Option.some.inj hj
    subst e2
    exact ⟨(h.pu z (List.mem_of_getElem? e)).adds⟩
theorem along_pieces {a : Kv335.Abs} {v : Nat} {P : List Kv335.Piece} : ∀ (l : List Kv335.Piece) (i : Nat) (p : Int), ({ a with pieces := P } : Kv335.Abs).along v i l p = a.along v i l p
  | [], _, _ => rfl
  | x :: l, i, p => by
    show (p + ((a.given i v : Nat) : Int)) :: ({ a with pieces := P } : Kv335.Abs).along v (i + 1) l _ = _
    rw [along_pieces l]
    rfl
theorem along_app {a : Kv335.Abs} {v : Nat} : ∀ (l : List Kv335.Piece) (i : Nat) (p : Int), ∃ (I : List Int) (c : Int), ∀ x, a.along v i (l ++ [x]) p = (I ++ [c]) ++ [c - (a.loses x v : Int) - a.lifts x]
  | [], i, p => ⟨[], p + ((a.given i v : Nat) : Int), fun x => rfl⟩
  | y :: l, i, p => by
    obtain ⟨I, c, h⟩ := along_app (a := a) (v := v) l (i + 1) (p + ((a.given i v : Nat) : Int) - (a.loses y v : Int) - a.lifts y)
    refine ⟨(p + ((a.given i v : Nat) : Int)) :: I, c, fun x => ?_⟩
    show (p + ((a.given i v : Nat) : Int)) :: a.along v (i + 1) (l ++ [x]) _ = _
    rw [h]
    rfl
theorem loses_mono {a : Kv335.Abs} {n m w v : Nat} {r : Int} (h : n ≤ m) : a.loses ⟨n, r, w⟩ v ≤ a.loses ⟨m, r, w⟩ v := by
  unfold Kv335.Abs.loses
  refine Nat.div_le_div_right (Nat.add_le_add_right ?_ _)
  exact Nat.mul_le_mul_right _ (Nat.mul_le_mul_right _ (Nat.mul_le_mul_right _ (Nat.mul_le_mul_right _ h)))
theorem goes_shorter {a : Kv335.Abs} {n m w v : Nat} (h : n ≤ m) (g : (longer a m w).goes v = true) : (longer a n w).goes v = true := by
  obtain ⟨I, c, hI⟩ := along_app (a := a) (v := v) a.pieces 0 0
  have hp : ∀ n, (longer a n w).pressures v = (I ++ [c]) ++ [c - (a.loses ⟨n, 0, w⟩ v : Int) - a.lifts ⟨n, 0, w⟩] := fun n => by
    rw [← hI]
    exact along_pieces _ _ _
  have hs : ∀ n, ((longer a n w).pieces.all fun x => decide ((longer a n w).settles x < v)) = ((a.pieces.all fun x => decide (a.settles x < v)) && decide (a.settles ⟨0, 0, w⟩ < v)) := fun n => by
    show (a.pieces ++ [_]).all _ = _
    rw [List.all_append]
    show (_ && (_ && true)) = _
    rw [Bool.and_true]
    rfl
  unfold Kv335.Abs.goes at g ⊢
  rw [hs, hp, List.dropLast_concat, List.getLastD_concat] at g ⊢
  simp only [Bool.and_eq_true] at g ⊢
  refine ⟨g.1, g.2.1, ?_⟩
  have q := of_decide_eq_true g.2.2
  have q2 := loses_mono (a := a) (v := v) (w := w) (r := 0) h
  refine decide_eq_true ?_
  have e : a.lifts ⟨n, 0, w⟩ = a.lifts ⟨m, 0, w⟩ := rfl
  rw [e]
  omega
theorem lengths {P : Nat → Bool} {N g : Nat} (h1 : P 1 = true) (hN : g < N) (hg1 : 1 ≤ g) (hg : P g = true) (hno : ∀ w, g < w → w < N → P w = false) : ∃ l, ((List.range N).drop 1).filter P = 1 :: l ∧ (1 :: l).getLastD 0 = g := by
  have e : (List.range N).drop 1 = 1 :: (List.range N).drop 2 := drop_at (by rw [List.getElem?_range (by omega)])
  have q := last_range (d := 1) N hg1 hN hg hno
  rw [e, List.filter_cons_of_pos h1] at q ⊢
  refine ⟨_, rfl, ?_⟩
  rw [List.getLastD_eq_getLast?, q]
  rfl
section
variable {P : Program} {w : World} {K : PySem.W.Frag} {mg : Str → Option Value} {base : Heap} {A : Ad}
theorem ok_fewest (T : Txt K mg A) : FnOk P w K mg base CX0 6 A.f_fewest A.d_fewest ["pipe", "speed"] (sp_fewest K A) := by
  have G_is_speed : FnOk P w K mg base CX0 1 A.f_is_speed A.d_is_speed ["speed"] (sp_is_speed K A) := ok_is_speed T
  have G_choice_count : FnOk P w K mg base CX0 1 A.f_choice_count A.d_choice_count ["pipe"] (sp_choice_count K A) := ok_choice_count T
  have G_with_choice : FnOk P w K mg base CX0 4 A.f_with_choice A.d_with_choice ["pipe", "choice"] (sp_with_choice K A) := ok_with_choice T
  have G_running_count : FnOk P w K mg base CX0 1 A.f_running_count A.d_running_count ["pipe"] (sp_running_count K A) := ok_running_count T
  have G_goes_at : FnOk P w K mg base CX0 5 A.f_goes_at A.d_goes_at ["pipe", "speed"] (sp_goes_at K A) := ok_goes_at T
  refine T.F_fewest.ok sc_fewest (fun vs H Q E h => ?_) (fun cdv Ar outer s H vs Q E hr h => ?_)
  · obtain ⟨p, F, b, a, v, rfl, _⟩ := h
    rfl
  · obtain ⟨p, F, b, a, v, rfl, hp, hG, k⟩ := h
    have hpA := hp
    obtain ⟨dx, l, c, ps, qs, hp, rfl⟩ := hp
    refine ⟨_, (pss_cons (ps_if (pt_not (pt_val (pe_call G_is_speed (hr.mono (by decide)) rfl T.m_is_speed T.F_is_speed.kp T.b_is_speed .nil pass0 (pa_cons (pv 1) pa_nil)))) (pss_one (ps_ret (pe_lst (pa_cons (pe_glob (v := .int (-22)) rfl T.g_OUT_OF_RANGE.choose_spec.1 T.g_OUT_OF_RANGE.choose_spec.2) pa_nil)))) pss_nil)
      (pss_cons (ps_set (i := 2) sc_fewest.nd rfl (Or.inl rfl) (pe_lst (pa_cons (pe_glob (v := .int (-33)) rfl T.g_DOES_NOT_GO.choose_spec.1 T.g_DOES_NOT_GO.choose_spec.2) pa_nil)))
      (pss_cons (ps_set (i := 3) sc_fewest.nd rfl (Or.inl rfl) (pe_op op_add (pe_callB (call_lenK K rfl) (by rfl) T.nb_len PySem.boot_len (pa_cons (pe_fldK K rfl (pv 0) rfl) pa_nil)) pe_int))
      (pss_cons (ps_for PassesOwn.never rfl (pi_range1 rfl T.nb_range (pa_cons (pe_call G_choice_count (hr.mono (by decide)) rfl T.m_choice_count T.F_choice_count.kp T.b_choice_count .nil pass0 (pa_cons (pv 0) pa_nil)) pa_nil)) (pg_name (i := 4) sc_fewest.nd rfl (Or.inl rfl)) (pss_cons (ps_set (i := 5) sc_fewest.nd rfl (Or.inl rfl) (pe_call G_with_choice (hr.mono (by decide)) rfl T.m_with_choice T.F_with_choice.kp T.b_with_choice .nil pass0 (pa_cons (pv 0) (pa_cons (pv 4) pa_nil))))
      (pss_cons (ps_set (i := 6) sc_fewest.nd rfl (Or.inl rfl) (pe_call G_running_count (hr.mono (by decide)) rfl T.m_running_count T.F_running_count.kp T.b_running_count .nil pass0 (pa_cons (pv 5) pa_nil)))
      (pss_one (ps_if (PW.pt (pw_and (pt_cmpR op_lt (pv 6) (pv 3) (nomark _)) (pw_and1 (pt_val (pe_call G_goes_at (hr.mono (by decide)) rfl T.m_goes_at T.F_goes_at.kp T.b_goes_at .nil pass0 (pa_cons (pv 5) (pa_cons (pv 1) pa_nil))))))) (pss_cons (ps_set (i := 3) sc_fewest.nd rfl (Or.inl rfl) (pv 6))
      (pss_one (ps_set (i := 2) sc_fewest.nd rfl (Or.inl rfl) (pe_lst (pa_cons (pv 6) (pa_cons (pv 4) pa_nil)))))) pss_nil)))))
      (pss_one (ps_ret (pv 2))))))), ?_⟩
    walk_at "rd"
    refine ⟨v, rfl, ?_⟩
    walk_at "rd"
    refine rd_iteB (fun h => ?_) (fun h => ?_)
    · rw [Bool.not_eq_true'] at h
      walk_at "rd"
      refine rd_new (by simp) (k.say (Same.refl H) ?_)
      unfold rowOf
      simp only [Kv335.Abs.does]
      rw [if_pos h]
      rfl
    rw [Bool.not_eq_false'] at h
    obtain ⟨hv1, hv2⟩ := okV_le h
    walk_at "rd"
    refine rd_new (by simp) fun r hr0 => ?_
    have s0 : Same H (upd H r (.lst [.int (-33)])) := Same.upd hr0
    have hp0 := hp.mono s0
    walk_at "rd"
    refine rd_len (SqL.of hp0.lq) ?_
    rw [List.length_map, hp.qlen]
    walk_at "rd"
    refine ⟨p, _, b, a, rfl, hpA.mono s0, ?_⟩
    have hpow : 2 ^ a.pumps.length ≤ 64 := Nat.le_trans (Nat.pow_le_pow_right (by decide) hG.nq) (by decide)
    generalize hN : 2 ^ a.pumps.length = N at hpow
    walk_at "rd"
    refine ⟨_, rfl, by omega, by omega, for_range (lo := 0) (n := N) (fun i σ H' => ∃ (r : Addr) (v4 v5 v6 : Option V), σ = [some (.ref p), some (.int v), some (.ref r), some (.int ((fcount a.pumps.length (fup a v i) : Nat) : Int)), v4, v5, v6] ∧ Same H H' ∧ H r = none ∧ H' r = some (.lst ((frow a.pumps.length (fup a v i)).map V.int)))
      ⟨r, none, none, none, rfl, s0, hr0, upd_same⟩ ?_ ?_⟩
    · rintro i σ H' hi ⟨r1, v4, v5, v6, rfl, s1, hr1, hr1'⟩
      walk_at "rd"
      refine ⟨p, _, b, a, i, by rw [Int.zero_add]; rfl, hpA.mono s1, hG.nq, fun H2 x F2 s2 hx => ?_⟩
      walk_at "rd"
      refine ⟨x, F2, b, a.withPumps i, rfl, hx, by rw [with_len]; exact hG.nq, fun H3 s3 => ?_⟩
      rw [size_on]
      walk_at "rd"
      refine rd_ite (fun h1 => ?_) (fun h1 => ?_)
      · walk_at "rd"
        refine ⟨x, F2, b, a.withPumps i, v, rfl, hx.mono s3, with_good hG, hv2, fun H4 s4 => ?_⟩
        have s14 := ((s1.trans s2).trans s3).trans s4
        walk_at "rd"
        refine rd_iteB (fun h2 => ?_) (fun h2 => ?_)
        · have e : fup a v (i + 1) = some i := by
            rw [fup_succ]
            exact fstep_yes (by omega) h2
          walk_at "rd"
          refine rd_new (by simp) fun r2 hr2 => ?_
          walk_at "rd"
          refine ⟨r2, _, _, _, by rw [e]; rfl, s14.trans (Same.upd hr2), s14.free hr2, ?_⟩
          rw [upd_same, e]
          show _ = some (HO.lst [V.int ((Kv335.size i a.pumps.length : Nat) : Int), V.int ((i : Nat) : Int)])
          rw [Int.zero_add]
        · have e : fup a v (i + 1) = fup a v i := by
            rw [fup_succ]
            exact fstep_no fun z => by rw [h2] at z; exact absurd z.2 (by decide)
          walk_at "rd"
          exact ⟨r1, _, _, _, by rw [e]; rfl, s14, hr1, by rw [e]; exact ((s2.trans s3).trans s4) _ _ hr1'⟩
      · have e : fup a v (i + 1) = fup a v i := by
          rw [fup_succ]
          exact fstep_no fun z => h1 (by omega)
        walk_at "rd"
        exact ⟨r1, _, _, _, by rw [e]; rfl, (s1.trans s2).trans s3, hr1, by rw [e]; exact (s2.trans s3) _ _ hr1'⟩
    · rintro σ H' ⟨r1, v4, v5, v6, rfl, s1, hr1, hr1'⟩
      walk_at "rd"
      have e : rowOf a (.fewest v) = frow a.pumps.length (fup a v N) := by
        unfold rowOf
        simp only [Kv335.Abs.does]
        rw [if_neg (by rw [h]; decide), fewest_eq, hN]
        cases fup a v N <;> rfl
      rw [e] at k
      exact k H' r1 s1 hr1 hr1'
theorem ok_richest (T : Txt K mg A) : FnOk P w K mg base CX0 6 A.f_richest A.d_richest ["pipe", "speed"] (sp_richest K A) := by
  have G_copied : FnOk P w K mg base CX0 3 A.f_copied A.d_copied ["pipe"] (sp_copied K A) := ok_copied T
  have G_is_speed : FnOk P w K mg base CX0 1 A.f_is_speed A.d_is_speed ["speed"] (sp_is_speed K A) := ok_is_speed T
  have G_goes_at : FnOk P w K mg base CX0 5 A.f_goes_at A.d_goes_at ["pipe", "speed"] (sp_goes_at K A) := ok_goes_at T
  refine T.F_richest.ok sc_richest (fun vs H Q E h => ?_) (fun cdv Ar outer s H vs Q E hr h => ?_)
  · obtain ⟨p, F, b, a, v, rfl, _⟩ := h
    rfl
  · obtain ⟨p, F, b, a, v, rfl, hp, hG, k⟩ := h
    obtain ⟨dx, l, c, ps, qs, hp, rfl⟩ := hp
    refine ⟨_, (pss_cons (ps_if (pt_not (pt_val (pe_call G_is_speed (hr.mono (by decide)) rfl T.m_is_speed T.F_is_speed.kp T.b_is_speed .nil pass0 (pa_cons (pv 1) pa_nil)))) (pss_one (ps_ret (pe_lst (pa_cons (pe_glob (v := .int (-22)) rfl T.g_OUT_OF_RANGE.choose_spec.1 T.g_OUT_OF_RANGE.choose_spec.2) pa_nil)))) pss_nil)
      (pss_cons (ps_set (i := 2) sc_richest.nd rfl (Or.inl rfl) (pe_call G_copied (hr.mono (by decide)) rfl T.m_copied T.F_copied.kp T.b_copied .nil pass0 (pa_cons (pv 0) pa_nil)))
      (pss_cons (ps_for PassesOwn.never rfl (pi_range3 rfl T.nb_range (pa_cons (pe_glob (v := .int (40)) rfl T.g_MOST_MIX.choose_spec.1 T.g_MOST_MIX.choose_spec.2) (pa_cons (pe_un un_neg pe_int) (pa_cons (pe_un un_neg pe_int) pa_nil)))) (pg_name (i := 3) sc_richest.nd rfl (Or.inl rfl)) (pss_cons (ps_fldK K rfl (pv 2) (pv 3) rfl)
      (pss_one (ps_if (pt_val (pe_call G_goes_at (hr.mono (by decide)) rfl T.m_goes_at T.F_goes_at.kp T.b_goes_at .nil pass0 (pa_cons (pv 2) (pa_cons (pv 1) pa_nil)))) (pss_one (ps_ret (pe_lst (pa_cons (pv 3) pa_nil)))) pss_nil))))
      (pss_one (ps_ret (pe_lst (pa_cons (pe_glob (v := .int (-33)) rfl T.g_DOES_NOT_GO.choose_spec.1 T.g_DOES_NOT_GO.choose_spec.2) pa_nil))))))), ?_⟩
    walk_at "rd"
    refine ⟨v, rfl, ?_⟩
    walk_at "rd"
    refine rd_iteB (fun h => ?_) (fun h => ?_)
    · rw [Bool.not_eq_true'] at h
      walk_at "rd"
      refine rd_new (by simp) (k.say (Same.refl H) ?_)
      unfold rowOf
      simp only [Kv335.Abs.does]
      rw [if_pos h]
      rfl
    rw [Bool.not_eq_false'] at h
    obtain ⟨hv1, hv2⟩ := okV_le h
    walk_at "rd"
    refine ⟨p, dx, l, c, ps, qs, b, a, rfl, hp, fun H1 x dx1 l1 k1 s1 hx nx nl nk => ?_⟩
    walk_at "rd"
    refine ⟨_, _, _, _, rfl, RgC.neg (by decide) (by decide) (by decide) (by decide), for_rangeC (lo := 40) (c := -1) (n := 41) (fun i σ H' => ∃ (v3 : Option V) (m : Nat), σ = [some (.ref p), some (.int v), some (.ref x), v3] ∧ Same H H' ∧ PipeOn A H' x dx1 l1 k1 ps qs b { a with mix := m } ∧ ∀ u, u < 41 → 41 ≤ u + i → ({ a with mix := u } : Kv335.Abs).goes v = false)
      ⟨none, a.mix, rfl, s1, hx, fun u h1 h2 => absurd h2 (by omega)⟩ ?_ ?_⟩
    · rintro i σ H' hi ⟨v3, m, rfl, s2, hx2, hno⟩
      have ei : ((40 - i : Nat) : Int) = 40 + (i : Int) * -1 := by omega
      walk_at "rd"
      refine st_to (fs' := pipeF b { a with mix := 40 - i } l1 k1) hx2.ob T.cl_Pipe T.n_Pipe_mix (by show 7 < 1000; decide) (by rw [← ei]; rfl) ?_
      have hx3 := hx2.num (b' := b) (a' := { a with mix := 40 - i }) rfl rfl
      have s3 := sm_over (o := .ins A.c_Pipe dx1 (pipeF b { a with mix := 40 - i } l1 k1)) s2 nx
      walk_at "rd"
      refine ⟨x, _, b, { a with mix := 40 - i }, v, rfl, hx3.at, ⟨hG.np, hG.nq, hG.pc, hG.pu, hG.gr, by show 40 - i ≤ 40; omega, hG.lo, hG.hi⟩, hv2, fun H4 s4 => ?_⟩
      walk_at "rd"
      refine rd_iteB (fun h2 => ?_) (fun h2 => ?_)
      · walk_at "rd"
        refine rd_new (by simp) (k.say (s3.trans s4) ?_)
        unfold rowOf
        have e : ((List.range 41).filter fun m => ({ a with mix := m } : Kv335.Abs).goes v).getLast? = some (40 - i) := last_range (P := fun m => ({ a with mix := m } : Kv335.Abs).goes v) (d := 0) 41 (by omega) (by omega) h2 fun u h1 h2 => hno u h2 (by omega)
        simp only [Kv335.Abs.does]
        rw [if_neg (by rw [h]; decide), e]
        show [((40 - i : Nat) : Int)] = [40 + (i : Int) * -1]
        rw [ei]
      · walk_at "rd"
        refine ⟨_, 40 - i, rfl, s3.trans s4, hx3.mono s4, fun u h1 h3 => ?_⟩
        by_cases hu : 41 ≤ u + i
        · exact hno u h1 hu
        · have : u = 40 - i := by omega
          rw [this]
          exact h2
    · rintro σ H' ⟨v3, m, rfl, s2, hx2, hno⟩
      walk_at "rd"
      refine rd_new (by simp) (k.say s2 ?_)
      unfold rowOf
      have e : ((List.range 41).filter fun m => ({ a with mix := m } : Kv335.Abs).goes v) = [] := no_range (P := fun m => ({ a with mix := m } : Kv335.Abs).goes v) (d := 0) 41 fun u h1 h2 => hno u h2 (by omega)
      simp only [Kv335.Abs.does]
      rw [if_neg (by rw [h]; decide), e]
      rfl
theorem ok_longest_that_goes (T : Txt K mg A) : FnOk P w K mg base CX0 7 A.f_longest_that_goes A.d_longest_that_goes ["pipe", "speed", "wide"] (sp_longest_that_goes K A) := by
  have G_goes_with : FnOk P w K mg base CX0 6 A.f_goes_with A.d_goes_with ["pipe", "speed", "long", "wide"] (sp_goes_with K A) := ok_goes_with T
  refine T.F_longest_that_goes.ok sc_longest_that_goes (fun vs H Q E h => ?_) (fun cdv Ar outer s H vs Q E hr h => ?_)
  · obtain ⟨p, F, b, a, v, w, rfl, _⟩ := h
    rfl
  · obtain ⟨p, F, b, a, v, w', rfl, hp, hG, h8, hv, hw, hg1, k⟩ := h
    refine ⟨_, (pss_cons (ps_set (i := 3) sc_longest_that_goes.nd rfl (Or.inl rfl) (pe_glob (v := .int (1)) rfl T.g_SHORTEST.choose_spec.1 T.g_SHORTEST.choose_spec.2))
      (pss_cons (ps_set (i := 4) sc_longest_that_goes.nd rfl (Or.inl rfl) (pe_op op_add (pe_glob (v := .int (3000)) rfl T.g_LONGEST.choose_spec.1 T.g_LONGEST.choose_spec.2) pe_int))
      (pss_cons (ps_while PassesOwn.never (pt_cmpR op_gt (pe_op op_sub (pv 4) (pv 3)) pe_int (nomark _)) (pss_cons (ps_set (i := 5) sc_longest_that_goes.nd rfl (Or.inl rfl) (pe_op op_fdiv (pe_op op_add (pv 3) (pv 4)) pe_int))
      (pss_one (ps_if (pt_val (pe_call G_goes_with (hr.mono (by decide)) rfl T.m_goes_with T.F_goes_with.kp T.b_goes_with .nil pass0 (pa_cons (pv 0) (pa_cons (pv 1) (pa_cons (pv 5) (pa_cons (pv 2) pa_nil)))))) (pss_one (ps_set (i := 3) sc_longest_that_goes.nd rfl (Or.inl rfl) (pv 5))) (pss_one (ps_set (i := 4) sc_longest_that_goes.nd rfl (Or.inl rfl) (pv 5)))))))
      (pss_one (ps_ret (pv 3)))))), ?_⟩
    walk_at "rd"
    refine rd_while (fun m σ H' => ∃ (g d : Nat) (v5 : Option V), σ = [some (.ref p), some (.int v), some (.int w'), some (.int (g : Nat)), some (.int (d : Nat)), v5] ∧ Same H H' ∧ 1 ≤ g ∧ g < d ∧ d ≤ 3001 ∧ (longer a g w').goes v = true ∧ (d = 3001 ∨ (longer a d w').goes v = false) ∧ m = d - g)
      ⟨_, 1, 3001, none, rfl, Same.refl H, by omega, by omega, by omega, hg1, .inl rfl, rfl⟩ ?_
    rintro m σ H' ⟨g, d, v5, rfl, s1, q1, q2, q3, q4, q5, rfl⟩
    walk_at "rd"
    refine rd_ite (fun h1 => ?_) (fun h1 => ?_)
    · refine ⟨fun σ' H2 => ∃ (g' d' : Nat) (v5 : Option V), σ' = [some (.ref p), some (.int v), some (.int w'), some (.int (g' : Nat)), some (.int (d' : Nat)), v5] ∧ Same H H2 ∧ 1 ≤ g' ∧ g' < d' ∧ d' ≤ 3001 ∧ (longer a g' w').goes v = true ∧ (d' = 3001 ∨ (longer a d' w').goes v = false) ∧ d' - g' < d - g, ?_, ?_⟩
      · rintro σ' H2 ⟨g', d', v5, rfl, t1, t2, t3, t4, t5, t6, t7⟩
        exact ⟨d' - g', t7, g', d', v5, rfl, t1, t2, t3, t4, t5, t6, rfl⟩
      have em : (((g + d) / 2 : Nat) : Int) = ((g : Int) + (d : Int)) / 2 := by omega
      walk_at "rd"
      rw [← em]
      refine ⟨p, F, b, a, v, (g + d) / 2, w', rfl, hp.mono s1, hG, h8, hv, by omega, by omega, hw, fun H2 s2 => ?_⟩
      walk_at "rd"
      refine rd_iteB (fun h2 => ?_) (fun h2 => ?_)
      · walk_at "rd"
        exact ⟨(g + d) / 2, d, _, rfl, s1.trans s2, by omega, by omega, q3, h2, q5, by omega⟩
      · walk_at "rd"
        exact ⟨g, (g + d) / 2, _, rfl, s1.trans s2, q1, by omega, by omega, q4, .inr h2, by omega⟩
    · walk_at "rd"
      have ed : d = g + 1 := by omega
      subst ed
      refine k H' g s1 q1 (by omega) q4 ?_
      rcases q5 with q5 | q5
      · exact .inl (by omega)
      · exact .inr q5
theorem ok_farther (T : Txt K mg A) : FnOk P w K mg base CX0 8 A.f_farther A.d_farther ["pipe", "speed", "wide"] (sp_farther K A) := by
  have G_goes_with : FnOk P w K mg base CX0 6 A.f_goes_with A.d_goes_with ["pipe", "speed", "long", "wide"] (sp_goes_with K A) := ok_goes_with T
  have G_longest_that_goes : FnOk P w K mg base CX0 7 A.f_longest_that_goes A.d_longest_that_goes ["pipe", "speed", "wide"] (sp_longest_that_goes K A) := ok_longest_that_goes T
  have G_is_speed : FnOk P w K mg base CX0 1 A.f_is_speed A.d_is_speed ["speed"] (sp_is_speed K A) := ok_is_speed T
  have G_is_width : FnOk P w K mg base CX0 1 A.f_is_width A.d_is_width ["wide"] (sp_is_width K A) := ok_is_width T
  refine T.F_farther.ok sc_farther (fun vs H Q E h => ?_) (fun cdv Ar outer s H vs Q E hr h => ?_)
  · obtain ⟨p, F, b, a, v, w, rfl, _⟩ := h
    rfl
  · obtain ⟨p, F, b, a, v, w', rfl, hp, hG, k⟩ := h
    have hpA := hp
    obtain ⟨dx, l, c, ps, qs, hp, rfl⟩ := hp
    have no : (Kv335.okV v = false ∨ ¬ wideOk w') → ∀ r, H r = none → Q (.ref r) (upd H r (.lst [.int (-22)])) := fun h => by
      refine k.say (Same.refl H) ?_
      unfold rowOf
      simp only [Kv335.Abs.does]
      rw [if_pos (by unfold wideOk at h; rcases h with h | h; exact .inl h; exact .inr (by omega))]
      rfl
    refine ⟨_, (pss_cons (ps_if (PW.pt (pw_or (pt_not (pt_val (pe_call G_is_speed (hr.mono (by decide)) rfl T.m_is_speed T.F_is_speed.kp T.b_is_speed .nil pass0 (pa_cons (pv 1) pa_nil)))) (pw_or1 (pt_not (pt_val (pe_call G_is_width (hr.mono (by decide)) rfl T.m_is_width T.F_is_width.kp T.b_is_width .nil pass0 (pa_cons (pv 2) pa_nil))))))) (pss_one (ps_ret (pe_lst (pa_cons (pe_glob (v := .int (-22)) rfl T.g_OUT_OF_RANGE.choose_spec.1 T.g_OUT_OF_RANGE.choose_spec.2) pa_nil)))) pss_nil)
      (pss_cons (ps_if (pt_cmpR op_ge (pe_callB (call_lenK K rfl) (by rfl) T.nb_len PySem.boot_len (pa_cons (pe_fldK K rfl (pv 0) rfl) pa_nil)) (pe_glob (v := .int (8)) rfl T.g_MOST_PIECES.choose_spec.1 T.g_MOST_PIECES.choose_spec.2) (nomark _)) (pss_one (ps_ret (pe_lst (pa_cons (pe_glob (v := .int (-28)) rfl T.g_TOO_MANY.choose_spec.1 T.g_TOO_MANY.choose_spec.2) pa_nil)))) pss_nil)
      (pss_cons (ps_if (pt_not (pt_val (pe_call G_goes_with (hr.mono (by decide)) rfl T.m_goes_with T.F_goes_with.kp T.b_goes_with .nil pass0 (pa_cons (pv 0) (pa_cons (pv 1) (pa_cons (pe_glob (v := .int (1)) rfl T.g_SHORTEST.choose_spec.1 T.g_SHORTEST.choose_spec.2) (pa_cons (pv 2) pa_nil))))))) (pss_one (ps_ret (pe_lst (pa_cons (pe_glob (v := .int (-33)) rfl T.g_DOES_NOT_GO.choose_spec.1 T.g_DOES_NOT_GO.choose_spec.2) pa_nil)))) pss_nil)
      (pss_one (ps_ret (pe_lst (pa_cons (pe_call G_longest_that_goes (hr.mono (by decide)) rfl T.m_longest_that_goes T.F_longest_that_goes.kp T.b_longest_that_goes .nil pass0 (pa_cons (pv 0) (pa_cons (pv 1) (pa_cons (pv 2) pa_nil)))) (pa_cons (pe_glob (v := .int (1)) rfl T.g_SHORTEST.choose_spec.1 T.g_SHORTEST.choose_spec.2) pa_nil)))))))), ?_⟩
    walk_at "rd"
    refine ⟨v, rfl, ?_⟩
    walk_at "rd"
    refine rd_iteB (fun h => ?_) (fun h => ?_)
    · rw [Bool.not_eq_true'] at h
      walk_at "rd"
      exact rd_new (by simp) (no (.inl h))
    rw [Bool.not_eq_false'] at h
    obtain ⟨hv1, hv2⟩ := okV_le h
    walk_at "rd"
    refine ⟨w', rfl, ?_⟩
    walk_at "rd"
    refine rd_iteNX (fun h1 => ?_) (fun h1 => ?_)
    · walk_at "rd"
      exact rd_new (by simp) (no (.inr h1))
    have c1 : ¬ (Kv335.okV v = false ∨ w' < 100 ∨ 1200 < w') := by
      unfold wideOk at h1
      intro z
      rcases z with z | z
      · rw [h] at z
        cases z
      · omega
    walk_at "rd"
    refine rd_len (SqL.of hp.lp) ?_
    rw [List.length_map, hp.plen]
    walk_at "rd"
    refine rd_ite (fun h2 => ?_) (fun h2 => ?_)
    · walk_at "rd"
      refine rd_new (by simp) (k.say (Same.refl H) ?_)
      unfold rowOf
      simp only [Kv335.Abs.does]
      rw [if_neg c1, if_pos (by omega)]
      rfl
    walk_at "rd"
    refine ⟨p, _, b, a, v, 1, w', rfl, hpA, hG, by omega, hv2, by omega, by omega, h1, fun H1 s1 => ?_⟩
    walk_at "rd"
    refine rd_iteB (fun h3 => ?_) (fun h3 => ?_)
    · rw [Bool.not_eq_true'] at h3
      walk_at "rd"
      refine rd_new (by simp) (k.say s1 ?_)
      unfold rowOf
      have e : (((List.range 3001).drop 1).filter fun n => ({ a with pieces := a.pieces ++ [⟨n, 0, w'⟩] } : Kv335.Abs).goes v) = [] := no_range (P := fun n => (longer a n w').goes v) (d := 1) 3001 fun u h4 h5 => by
        cases e : (longer a u w').goes v with
        | false => rfl
        | true =>
          rw [goes_shorter h4 e] at h3
          cases h3
      simp only [Kv335.Abs.does]
      rw [if_neg c1, if_neg (by omega), e]
      rfl
    rw [Bool.not_eq_false'] at h3
    walk_at "rd"
    refine ⟨p, _, b, a, v, w', rfl, hpA.mono s1, hG, by omega, hv2, h1, h3, fun H2 g s2 g1 g2 g3 g4 => ?_⟩
    obtain ⟨r, e1, e2⟩ := lengths (P := fun n => (longer a n w').goes v) (N := 3001) (g := g) h3 (by omega) g1 g3 fun u h4 h5 => by
      cases e : (longer a u w').goes v with
      | false => rfl
      | true =>
        rcases g4 with g4 | g4
        · omega
        · rw [goes_shorter (n := g + 1) h4 e] at g4
          cases g4
    have e1 : (((List.range 3001).drop 1).filter fun n => ({ a with pieces := a.pieces ++ [⟨n, 0, w'⟩] } : Kv335.Abs).goes v) = 1 :: r := e1
    walk_at "rd"
    refine rd_new (by simp) (k.say2 (s1.trans s2) ?_)
    unfold rowOf
    simp only [Kv335.Abs.does]
    rw [if_neg c1, if_neg (by omega), e1]
    show [(((1 :: r).getLastD 0 : Nat) : Int), 1] = _
    rw [e2]
end
end Sp

set_option Elab.async false
set_option linter.all false
set_option maxRecDepth 100000
set_option maxHeartbeats 2000000
namespace Sp
/-- how many numbers stand behind a call's own -/
def counts : List Nat := [4, 3, 2, 2, 1, 1, 0, 2, 1, 2, 1, 1, 0, 0, 1, 1, 1, 1, 1, 1, 1, 2, 1, 1, 0]
theorem shape_in : ∀ k : Fin 25, PyKv335.shape ((k.1 : Nat) : Int) = some (counts.getD k.1 0, 0) := by decide
theorem shape_out {p : Int} (h : ¬ (0 ≤ p ∧ p < 25)) : PyKv335.shape p = none := by
  unfold PyKv335.shape
  repeat rw [if_neg (by omega)]
theorem shape_at {p : Int} {n m : Nat} (h : PyKv335.shape p = some (n, m)) : ∃ k : Nat, p = (k : Int) ∧ k < 25 ∧ counts[k]? = some n ∧ m = 0 := by
  by_cases hp : 0 ≤ p ∧ p < 25
  · obtain ⟨k, e⟩ : ∃ k : Nat, p = (k : Int) := ⟨p.toNat, by omega⟩
    subst e
    have hk : k < 25 := by omega
    have q := shape_in ⟨k, hk⟩
    rw [show PyKv335.shape ((k : Nat) : Int) = some (n, m) from h] at q
    have q := Option.some.inj q
    have hk2 : k < counts.length := hk
    refine ⟨k, rfl, hk, ?_, congrArg Prod.snd q⟩
    have q1 : n = counts.getD k 0 := congrArg Prod.fst q
    rw [q1, List.getD_eq_getElem?_getD, List.getElem?_eq_getElem hk2]
    rfl
  · rw [shape_out hp] at h
    cases h
inductive Flat : List Int → List (List (List Int)) → Prop where
  | nil : Flat [] []
  | cons {p : Int} {r : List Int} {k n : Nat} {cs : List (List (List Int))} : p = (k : Int) → k < 25 → counts[k]? = some n → n ≤ r.length → Flat (r.drop n) cs → Flat (p :: r) ([p :: r.take n] :: cs)
theorem flat_of : ∀ (f : Nat) (l : List Int) (cs : List (List (List Int))), PyFlat.calls PyKv335.shape f l = some cs → Flat l cs
  | f, [], cs, h => by
    have e : PyFlat.calls PyKv335.shape f [] = some [] := by cases f <;> rfl
    rw [e] at h
    cases h
    exact .nil
  | 0, p :: r, cs, h => by
    have e : PyFlat.calls PyKv335.shape 0 (p :: r) = none := rfl
    rw [e] at h
    cases h
  | f + 1, p :: r, cs, h => by
    have e : PyFlat.calls PyKv335.shape (f + 1) (p :: r) = (match PyFlat.call PyKv335.shape (p :: r) with
      | none => none
      | some (c, t) => match PyFlat.calls PyKv335.shape f t with
        | none => none
        | some cs => some (c :: cs)) := rfl
    rw [e] at h
    cases hs : PyKv335.shape p with
    | none =>
      have e2 : PyFlat.call PyKv335.shape (p :: r) = none := by
        simp only [PyFlat.call, hs]
      rw [e2] at h
      cases h
    | some nm =>
      obtain ⟨n, m⟩ := nm
      obtain ⟨k, hp, hk, hc, hm⟩ := shape_at hs
      subst hm
      by_cases hl : r.length < n
      · have e2 : PyFlat.call PyKv335.shape (p :: r) = none := by
          simp only [PyFlat.call, hs]
          rw [if_pos hl]
        rw [e2] at h
        cases h
      · have e2 : PyFlat.call PyKv335.shape (p :: r) = some ([p :: r.take n], r.drop n) := by
          simp only [PyFlat.call, hs]
          rw [if_neg hl]
          rfl
        rw [e2] at h
        cases hr : PyFlat.calls PyKv335.shape f (r.drop n) with
        | none =>
          simp only [hr] at h
          cases h
        | some cs' =>
          simp only [hr] at h
          have h := Option.some.inj h
          subst h
          exact .cons hp hk hc (by omega) (flat_of f (r.drop n) cs' hr)
theorem whole_id (c : List (List Int)) : PyKv335.whole c = c := by
  unfold PyKv335.whole
  split <;> rfl
theorem map_whole (cs : List (List (List Int))) : cs.map PyKv335.whole = cs := by
  have e : PyKv335.whole = id := funext whole_id
  rw [e, List.map_id]
inductive Told : Int → List Int → Kv335.Call → Prop where
  | begin_ (g m : Nat) (lo hi : Int) : Told 0 [(g : Int), (m : Int), lo, hi] (.begin_ g m lo hi)
  | piece (n : Nat) (r : Int) (w : Nat) : Told 1 [(n : Int), r, (w : Int)] (.piece n r w)
  | pump (i d : Nat) : Told 2 [(i : Int), (d : Int)] (.pump i d)
  | on_ (i n : Nat) : Told 3 [(i : Int), (n : Int)] (.on_ i n)
  | mix (m : Nat) : Told 4 [(m : Int)] (.mix m)
  | grain (g : Nat) : Told 5 [(g : Int)] (.grain g)
  | cut : Told 6 [] .cut
  | loses (i v : Nat) : Told 7 [(i : Int), (v : Int)] (.loses i v)
  | settles (i : Nat) : Told 8 [(i : Int)] (.settles i)
  | gives (i v : Nat) : Told 9 [(i : Int), (v : Int)] (.gives i v)
  | pressures (v : Nat) : Told 10 [(v : Int)] (.pressures v)
  | goes (v : Nat) : Told 11 [(v : Int)] (.goes v)
  | slowest : Told 12 [] .slowest
  | fastest : Told 13 [] .fastest
  | why (v : Nat) : Told 14 [(v : Int)] (.why v)
  | blocks (v : Nat) : Told 15 [(v : Int)] (.blocks v)
  | least (v : Nat) : Told 16 [(v : Int)] (.least v)
  | most (v : Nat) : Told 17 [(v : Int)] (.most v)
  | spare (v : Nat) : Told 18 [(v : Int)] (.spare v)
  | fewest (v : Nat) : Told 19 [(v : Int)] (.fewest v)
  | richest (v : Nat) : Told 20 [(v : Int)] (.richest v)
  | farther (v w : Nat) : Told 21 [(v : Int), (w : Int)] (.farther v w)
  | flow (v : Nat) : Told 22 [(v : Int)] (.flow v)
  | look (i : Nat) : Told 23 [(i : Int)] (.look i)
  | state : Told 24 [] .state
theorem nat_of {z : Int} {b : Nat} (h : Kv335Neutral.natural z b = true) : ∃ n : Nat, z = (n : Int) := by
  unfold Kv335Neutral.natural at h
  rw [Bool.and_eq_true] at h
  have h := of_decide_eq_true h.1
  exact ⟨z.toNat, by omega⟩
theorem nat2 {x y : Int} {b c : Nat} (h : (Kv335Neutral.natural x b && Kv335Neutral.natural y c) = true) : ∃ n m : Nat, x = (n : Int) ∧ y = (m : Int) := by
  rw [Bool.and_eq_true] at h
  obtain ⟨n, e⟩ := nat_of h.1
  obtain ⟨m, e'⟩ := nat_of h.2
  exact ⟨n, m, e, e'⟩
theorem asked_told {n : Int} {args : List Int} (h : Kv335Neutral.asked1 [n :: args] = true) : ∃ c, Told n args c ∧ Kv335Neutral.callOf [n :: args] = some c := by
  unfold Kv335Neutral.asked1 at h
  split at h
  case h_26 => cases h
  case h_1 a b c d e =>
    cases e
    rw [Bool.and_eq_true, Bool.and_eq_true] at h
    obtain ⟨g, m, rfl, rfl⟩ := nat2 h.1.1
    exact ⟨_, .begin_ g m c d, rfl⟩
  case h_2 a b c e =>
    cases e
    rw [Bool.and_eq_true, Bool.and_eq_true] at h
    obtain ⟨g, rfl⟩ := nat_of h.1.1
    obtain ⟨m, rfl⟩ := nat_of h.2
    exact ⟨_, .piece g b m, rfl⟩
  case h_3 a b e =>
    cases e
    obtain ⟨g, m, rfl, rfl⟩ := nat2 h
    exact ⟨_, .pump g m, rfl⟩
  case h_4 a b e =>
    cases e
    obtain ⟨g, m, rfl, rfl⟩ := nat2 h
    exact ⟨_, .on_ g m, rfl⟩
  case h_5 a e =>
    cases e
    obtain ⟨g, rfl⟩ := nat_of h
    exact ⟨_, .mix g, rfl⟩
  case h_6 a e =>
    cases e
    obtain ⟨g, rfl⟩ := nat_of h
    exact ⟨_, .grain g, rfl⟩
  case h_7 e =>
    cases e
    exact ⟨_, .cut, rfl⟩
  case h_8 a b e =>
    cases e
    obtain ⟨g, m, rfl, rfl⟩ := nat2 h
    exact ⟨_, .loses g m, rfl⟩
  case h_9 a e =>
    cases e
    obtain ⟨g, rfl⟩ := nat_of h
    exact ⟨_, .settles g, rfl⟩
  case h_10 a b e =>
    cases e
    obtain ⟨g, m, rfl, rfl⟩ := nat2 h
    exact ⟨_, .gives g m, rfl⟩
  case h_11 a e =>
    cases e
    obtain ⟨g, rfl⟩ := nat_of h
    exact ⟨_, .pressures g, rfl⟩
  case h_12 a e =>
    cases e
    obtain ⟨g, rfl⟩ := nat_of h
    exact ⟨_, .goes g, rfl⟩
  case h_13 e =>
    cases e
    exact ⟨_, .slowest, rfl⟩
  case h_14 e =>
    cases e
    exact ⟨_, .fastest, rfl⟩
  case h_15 a e =>
    cases e
    obtain ⟨g, rfl⟩ := nat_of h
    exact ⟨_, .why g, rfl⟩
  case h_16 a e =>
    cases e
    obtain ⟨g, rfl⟩ := nat_of h
    exact ⟨_, .blocks g, rfl⟩
  case h_17 a e =>
    cases e
    obtain ⟨g, rfl⟩ := nat_of h
    exact ⟨_, .least g, rfl⟩
  case h_18 a e =>
    cases e
    obtain ⟨g, rfl⟩ := nat_of h
    exact ⟨_, .most g, rfl⟩
  case h_19 a e =>
    cases e
    obtain ⟨g, rfl⟩ := nat_of h
    exact ⟨_, .spare g, rfl⟩
  case h_20 a e =>
    cases e
    obtain ⟨g, rfl⟩ := nat_of h
    exact ⟨_, .fewest g, rfl⟩
  case h_21 a e =>
    cases e
    obtain ⟨g, rfl⟩ := nat_of h
    exact ⟨_, .richest g, rfl⟩
  case h_22 a b e =>
    cases e
    obtain ⟨g, m, rfl, rfl⟩ := nat2 h
    exact ⟨_, .farther g m, rfl⟩
  case h_23 a e =>
    cases e
    obtain ⟨g, rfl⟩ := nat_of h
    exact ⟨_, .flow g, rfl⟩
  case h_24 a e =>
    cases e
    obtain ⟨g, rfl⟩ := nat_of h
    exact ⟨_, .look g, rfl⟩
  case h_25 e =>
    cases e
    exact ⟨_, .state, rfl⟩
theorem step_told {s : Kv335.State} {n : Int} {args : List Int} {c : Kv335.Call} (h : Kv335Neutral.callOf [n :: args] = some c) : Kv335Neutral.step s [n :: args] = ((Kv335.act s c).1, Kv335Neutral.row (Kv335.act s c).2) := by
  unfold Kv335Neutral.step
  rw [h]
theorem asked_all {ns : List Int} (h : PyKv335.answers_asked ns = true) : ∃ cs, Flat ns cs ∧ (∀ c, c ∈ cs → Kv335Neutral.asked1 c = true) ∧ PyKv335.answers ns = PyFlat.told (PyFlat.played Kv335Neutral.step Kv335Neutral.start cs) ∧ (PyKv335.answers ns).length ≤ 10000000 := by
  unfold PyKv335.answers_asked at h
  cases e : PyFlat.calls PyKv335.shape ns.length ns with
  | none =>
    rw [e] at h
    cases h
  | some raw =>
    rw [e] at h
    simp only [Bool.and_eq_true] at h
    obtain ⟨⟨⟨⟨_, _⟩, _⟩, h1⟩, h2⟩ := h
    rw [map_whole] at h1
    unfold Kv335Neutral.asked at h1
    rw [Bool.and_eq_true] at h1
    have h3 := List.all_eq_true.mp h1.2
    refine ⟨raw, flat_of _ _ _ e, fun c hc => ?_, ?_, of_decide_eq_true h2⟩
    · have q := h3 c hc
      unfold Kv335Neutral.askedOne at q
      simp only [Bool.and_eq_true] at q
      exact q.1.1.1
    · unfold PyKv335.answers PyKv335.calls
      rw [e]
      simp only [map_whole]
end Sp

set_option Elab.async false
set_option linter.all false
set_option maxRecDepth 100000
set_option maxHeartbeats 2000000
namespace Sp
open PySem PySem.Spec PyProof.Rows L2
local macro_rules | `(tactic| walk_at "s1") => `(tactic| first
  | with_reducible refine rd_seq ?_
  | with_reducible refine rd_asg ?_
  | with_reducible refine rd_gname ?_
  | ((with_reducible apply rd_var); exact rfl)
  | with_reducible refine rd_c ?_
  | with_reducible refine rd_op ?_
  | with_reducible refine rd_i0 ?_
  | with_reducible refine rd_eqI ?_
  | ((with_reducible refine rd_mul ?_ ?_); first | exact mul_rN (by omega) (by omega) | exact mul_lN (by omega) (by omega))
  | ((with_reducible refine rd_fdiv ?_ ?_ ?_); (focus (first | decide | omega)); (focus (first | decide | omega)))
  | with_reducible refine rd_fld ?_
  | with_reducible refine rd_ret ?_
  | with_reducible refine rd_drop ?_
  | with_reducible refine rd_ifS ?_
  | with_reducible refine rd_if ?_
  | with_reducible refine rd_test ?_
  | with_reducible refine rd_tB ?_
  | with_reducible refine rd_and ?_
  | with_reducible refine rd_or ?_
  | with_reducible refine rd_not ?_
  | with_reducible refine rd_chain ?_
  | with_reducible refine rd_andV ?_
  | with_reducible refine rd_orV ?_
  | with_reducible refine rd_notV ?_
  | with_reducible refine rd_isblX ?_
  | with_reducible refine rd_nil ?_
  | with_reducible refine rd_cons ?_
  | with_reducible refine rd_call ?_
  | with_reducible refine rd_callLen ?_
  | with_reducible refine rd_callB ?_
  | with_reducible refine rd_lst ?_
  | with_reducible refine rd_next ?_
  | with_reducible refine rd_sfld ?_
  | with_reducible refine rd_un ?_
  | with_reducible refine rd_u ?_
  | with_reducible refine rd_make ?_
  | with_reducible refine rd_for ?_
  | with_reducible refine rd_ilist ?_
  | with_reducible refine rd_ienum ?_
  | with_reducible refine rd_irng2 ?_
  | with_reducible refine rd_irng1 ?_
  | with_reducible refine rd_yes ?_
  | with_reducible refine rd_irng3 ?_
  | ((with_reducible refine rd_mod ?_ ?_); (focus decide))
  | with_reducible refine rd_lc ?_
  | with_reducible refine rd_sl ?_
  | with_reducible refine rd_nopart ?_
  | with_reducible refine rd_part ?_
  | with_reducible refine rd_isint ?_
  | with_reducible refine rd_neI ?_
  | with_reducible refine rd_bm ?_
  | with_reducible refine rd_bm0 ?_
  | with_reducible refine iteT ?_
  | ((with_reducible refine rd_iteDT ?_ ?_); (focus decide))
  | ((with_reducible refine rd_iteDF ?_ ?_); (focus decide))
  | ((with_reducible apply rd_ixL); (focus exact SqL.of (by assumption)); (focus exact rfl))
  | with_reducible refine iteF ?_
  | ((with_reducible apply rd_piece_long); assumption; assumption)
  | ((with_reducible apply rd_piece_rise); assumption; assumption)
  | ((with_reducible apply rd_piece_wide); assumption; assumption)
  | ((with_reducible apply rd_pump_at); assumption; assumption)
  | ((with_reducible apply rd_pump_adds); assumption; assumption)
  | ((with_reducible apply rd_pump_runs); assumption; assumption)
  | ((with_reducible apply rd_pipe_begun); assumption; assumption)
  | ((with_reducible apply rd_pipe_grain); assumption; assumption)
  | ((with_reducible apply rd_pipe_mix); assumption; assumption)
  | ((with_reducible apply rd_pipe_low); assumption; assumption)
  | ((with_reducible apply rd_pipe_high); assumption; assumption)
  | ((with_reducible apply rd_pipe_pieces); assumption; assumption)
  | ((with_reducible apply rd_pipe_pumps); assumption; assumption))
local macro_rules | `(tactic| walk_at "rd") => `(tactic| repeat walk_at "s1")
def sp_answer_change (K : PySem.W.Frag) (A : Ad) : Sp := fun vs H Q _ => ∃ (p t : Addr) (F : List Addr) (a : Kv335.Abs) (n : Int) (args : List Int) (c : Kv335.Call), vs = [.ref p, .int n, .ref t] ∧ PipeAt A H p F true a ∧ Good a ∧ H t = some (.lst (args.map V.int)) ∧ Told n args c ∧ 1 ≤ n ∧ n ≤ 6 ∧
  Step A H p F Q (some (a.does c).1) (rowOf a c)
def sp_answer_call (K : PySem.W.Frag) (A : Ad) : Sp := fun vs H Q _ => ∃ (p t : Addr) (F : List Addr) (s : Kv335.State) (n : Int) (args : List Int) (c : Kv335.Call), vs = [.ref p, .int n, .ref t] ∧ RepS A H p F s ∧ H t = some (.lst (args.map V.int)) ∧ Told n args c ∧
  Step A H p F Q (Kv335.act s c).1 (Kv335Neutral.row (Kv335.act s c).2)
def spAnswers (K : PySem.W.Frag) : Sp := fun vs H Q _ => ∃ (a : Addr) (ns : List Int), vs = [.ref a] ∧ SqL K H a (ns.map V.int) ∧ ns.length ≤ 1280 ∧ PyKv335.answers_asked ns = true ∧ ∀ (H' : Hp) (p : Addr), H' p = some (.lst ((PyKv335.answers ns).map V.int)) → Q (.ref p) H'
def sp_answers (K : PySem.W.Frag) (A : Ad) : Sp := spAnswers K
theorem PipeOn.frame {A : Ad} {H H' : Hp} {p dx l k : Addr} {ps qs : List Addr} {b : Bool} {a : Kv335.Abs} (h : PipeOn A H p dx l k ps qs b a) (e : ∀ q, q ∈ p :: l :: k :: (ps ++ qs) → H' q = H q) : PipeOn A H' p dx l k ps qs b a :=
  ⟨by rw [e p (by simp)]; exact h.ob, by rw [e l (by simp)]; exact h.lp, by rw [e k (by simp)]; exact h.lq, h.ne, h.ndp, h.ndq, h.plen, h.qlen,
    fun j q x i1 i2 => by
      have m := List.mem_of_getElem? i1
      obtain ⟨d, z⟩ := h.pat j q x i1 i2
      exact ⟨d, by rw [e q (by simp [m])]; exact z⟩,
    fun j q x i1 i2 => by
      have m := List.mem_of_getElem? i1
      obtain ⟨d, z⟩ := h.qat j q x i1 i2
      exact ⟨d, by rw [e q (by simp [m])]; exact z⟩⟩
theorem PipeAt.frame {A : Ad} {H H' : Hp} {p : Addr} {F : List Addr} {b : Bool} {a : Kv335.Abs} (h : PipeAt A H p F b a) (e : ∀ q, q ∈ F → H' q = H q) : PipeAt A H' p F b a := by
  obtain ⟨dx, l, k, ps, qs, h, rfl⟩ := h
  exact ⟨dx, l, k, ps, qs, h.frame e, rfl⟩
theorem RepS.frame {A : Ad} {H H' : Hp} {p : Addr} {F : List Addr} {s : Kv335.State} (h : RepS A H p F s) (e : ∀ q, q ∈ F → H' q = H q) : RepS A H' p F s := by
  cases s with
  | none =>
    obtain ⟨a, h⟩ := h
    exact ⟨a, h.frame e⟩
  | some a => exact ⟨h.1.frame e, h.2⟩
theorem flat_at {ns : List Int} {i : Nat} {cs : List (List (List Int))} (h : Flat (ns.drop i) cs) (hi : i < ns.length) : ∃ (k n : Nat) (cs' : List (List (List Int))), ns[i]? = some (k : Int) ∧ k < 25 ∧ counts[k]? = some n ∧ i + 1 + n ≤ ns.length ∧
    cs = [(k : Int) :: (ns.drop (i + 1)).take n] :: cs' ∧ Flat (ns.drop (i + 1 + n)) cs' := by
  have hg := List.getElem?_eq_getElem hi
  rw [drop_at hg] at h
  cases h with
  | cons hp hk hc hl hf =>
    rename_i k n cs'
    rw [hp] at hg
    refine ⟨k, n, cs', hg, hk, hc, ?_, by rw [hp], by rw [List.drop_drop] at hf; exact hf⟩
    rw [List.length_drop] at hl
    omega
theorem told_cons {s : Kv335.State} {c : List (List Int)} {cs : List (List (List Int))} : PyFlat.told (PyFlat.played Kv335Neutral.step s (c :: cs)) = (((Kv335Neutral.step s c).2.length : Nat) : Int) :: ((Kv335Neutral.step s c).2 ++ PyFlat.told (PyFlat.played Kv335Neutral.step (Kv335Neutral.step s c).1 cs)) := rfl
theorem act_none {c : Kv335.Call} {n : Int} {args : List Int} (h : Told n args c) (hn : n ≠ 0) : Kv335.act none c = (none, Kv335.say (-11)) := by
  cases h <;> first | exact absurd rfl hn | rfl
section
variable {P : Program} {w : World} {K : PySem.W.Frag} {mg : Str → Option Value} {base : Heap} {A : Ad}
theorem ok_answer_change (T : Txt K mg A) : FnOk P w K mg base CX0 4 A.f_answer_change A.d_answer_change ["pipe", "number", "told"] (sp_answer_change K A) := by
  have G_cut_piece : FnOk P w K mg base CX0 1 A.f_cut_piece A.d_cut_piece ["pipe"] (sp_cut_piece K A) := ok_cut_piece T
  have G_add_piece : FnOk P w K mg base CX0 3 A.f_add_piece A.d_add_piece ["pipe", "long", "rise", "wide"] (sp_add_piece K A) := ok_add_piece T
  have G_add_pump : FnOk P w K mg base CX0 3 A.f_add_pump A.d_add_pump ["pipe", "at", "adds"] (sp_add_pump K A) := ok_add_pump T
  have G_switch_pump : FnOk P w K mg base CX0 1 A.f_switch_pump A.d_switch_pump ["pipe", "number", "runs"] (sp_switch_pump K A) := ok_switch_pump T
  have G_change_mix : FnOk P w K mg base CX0 2 A.f_change_mix A.d_change_mix ["pipe", "mix"] (sp_change_mix K A) := ok_change_mix T
  have G_change_grain : FnOk P w K mg base CX0 2 A.f_change_grain A.d_change_grain ["pipe", "grain"] (sp_change_grain K A) := ok_change_grain T
  refine T.F_answer_change.ok sc_answer_change (fun vs H Q E h => ?_) (fun cdv Ar outer s H vs Q E hr h => ?_)
  · obtain ⟨p, t, F, a, n, args, c, rfl, _⟩ := h
    rfl
  · obtain ⟨p, t, F, a, n, args, c, rfl, hp, hG, ht, hT, h1, h6, k⟩ := h
    refine ⟨_, (pss_cons (ps_if (pt_cmpR op_eq (pv 1) pe_int (nomark _)) (pss_one (ps_ret (pe_call G_add_piece (hr.mono (by decide)) rfl T.m_add_piece T.F_add_piece.kp T.b_add_piece .nil pass0 (pa_cons (pv 0) (pa_cons (pe_ix (ix_listK K rfl) (pv 2) pe_int (fun _ _ => rfl)) (pa_cons (pe_ix (ix_listK K rfl) (pv 2) pe_int (fun _ _ => rfl)) (pa_cons (pe_ix (ix_listK K rfl) (pv 2) pe_int (fun _ _ => rfl)) pa_nil))))))) pss_nil)
      (pss_cons (ps_if (pt_cmpR op_eq (pv 1) pe_int (nomark _)) (pss_one (ps_ret (pe_call G_add_pump (hr.mono (by decide)) rfl T.m_add_pump T.F_add_pump.kp T.b_add_pump .nil pass0 (pa_cons (pv 0) (pa_cons (pe_ix (ix_listK K rfl) (pv 2) pe_int (fun _ _ => rfl)) (pa_cons (pe_ix (ix_listK K rfl) (pv 2) pe_int (fun _ _ => rfl)) pa_nil)))))) pss_nil)
      (pss_cons (ps_if (pt_cmpR op_eq (pv 1) pe_int (nomark _)) (pss_one (ps_ret (pe_call G_switch_pump (hr.mono (by decide)) rfl T.m_switch_pump T.F_switch_pump.kp T.b_switch_pump .nil pass0 (pa_cons (pv 0) (pa_cons (pe_ix (ix_listK K rfl) (pv 2) pe_int (fun _ _ => rfl)) (pa_cons (pe_ix (ix_listK K rfl) (pv 2) pe_int (fun _ _ => rfl)) pa_nil)))))) pss_nil)
      (pss_cons (ps_if (pt_cmpR op_eq (pv 1) pe_int (nomark _)) (pss_one (ps_ret (pe_call G_change_mix (hr.mono (by decide)) rfl T.m_change_mix T.F_change_mix.kp T.b_change_mix .nil pass0 (pa_cons (pv 0) (pa_cons (pe_ix (ix_listK K rfl) (pv 2) pe_int (fun _ _ => rfl)) pa_nil))))) pss_nil)
      (pss_cons (ps_if (pt_cmpR op_eq (pv 1) pe_int (nomark _)) (pss_one (ps_ret (pe_call G_change_grain (hr.mono (by decide)) rfl T.m_change_grain T.F_change_grain.kp T.b_change_grain .nil pass0 (pa_cons (pv 0) (pa_cons (pe_ix (ix_listK K rfl) (pv 2) pe_int (fun _ _ => rfl)) pa_nil))))) pss_nil)
      (pss_one (ps_ret (pe_call G_cut_piece (hr.mono (by decide)) rfl T.m_cut_piece T.F_cut_piece.kp T.b_cut_piece .nil pass0 (pa_cons (pv 0) pa_nil))))))))), ?_⟩
    cases hT with
    | piece n r w =>
      walk_at "rd"
      exact ⟨p, F, a, n, r, w, rfl, hp, hG, k⟩
    | pump i d =>
      walk_at "rd"
      exact ⟨p, F, a, i, d, rfl, hp, hG, k⟩
    | on_ i n =>
      walk_at "rd"
      exact ⟨p, F, a, i, n, rfl, hp, hG, k⟩
    | mix m =>
      walk_at "rd"
      exact ⟨p, F, a, m, rfl, hp, hG, k⟩
    | grain g =>
      walk_at "rd"
      exact ⟨p, F, a, g, rfl, hp, hG, k⟩
    | cut =>
      walk_at "rd"
      exact ⟨p, F, a, rfl, hp, hG, k⟩
    | _ => first | exact absurd h1 (by decide) | exact absurd h6 (by decide)
end
end Sp

set_option Elab.async false
set_option linter.all false
set_option maxRecDepth 100000
set_option maxHeartbeats 2000000
namespace Sp
open PySem PySem.Spec PyProof.Rows L2
local macro_rules | `(tactic| walk_at "s1") => `(tactic| first
  | with_reducible refine rd_seq ?_
  | with_reducible refine rd_asg ?_
  | with_reducible refine rd_gname ?_
  | ((with_reducible apply rd_var); exact rfl)
  | with_reducible refine rd_c ?_
  | with_reducible refine rd_op ?_
  | with_reducible refine rd_i0 ?_
  | with_reducible refine rd_eqI ?_
  | ((with_reducible refine rd_mul ?_ ?_); first | exact mul_rN (by omega) (by omega) | exact mul_lN (by omega) (by omega))
  | ((with_reducible refine rd_fdiv ?_ ?_ ?_); (focus (first | decide | omega)); (focus (first | decide | omega)))
  | with_reducible refine rd_fld ?_
  | with_reducible refine rd_ret ?_
  | with_reducible refine rd_drop ?_
  | with_reducible refine rd_ifS ?_
  | with_reducible refine rd_if ?_
  | with_reducible refine rd_test ?_
  | with_reducible refine rd_tB ?_
  | with_reducible refine rd_and ?_
  | with_reducible refine rd_or ?_
  | with_reducible refine rd_not ?_
  | with_reducible refine rd_chain ?_
  | with_reducible refine rd_andV ?_
  | with_reducible refine rd_orV ?_
  | with_reducible refine rd_notV ?_
  | with_reducible refine rd_isblX ?_
  | with_reducible refine rd_nil ?_
  | with_reducible refine rd_cons ?_
  | with_reducible refine rd_call ?_
  | with_reducible refine rd_callLen ?_
  | with_reducible refine rd_callB ?_
  | with_reducible refine rd_lst ?_
  | with_reducible refine rd_next ?_
  | with_reducible refine rd_sfld ?_
  | with_reducible refine rd_un ?_
  | with_reducible refine rd_u ?_
  | with_reducible refine rd_make ?_
  | with_reducible refine rd_for ?_
  | with_reducible refine rd_ilist ?_
  | with_reducible refine rd_ienum ?_
  | with_reducible refine rd_irng2 ?_
  | with_reducible refine rd_irng1 ?_
  | with_reducible refine rd_yes ?_
  | with_reducible refine rd_irng3 ?_
  | ((with_reducible refine rd_mod ?_ ?_); (focus decide))
  | with_reducible refine rd_lc ?_
  | with_reducible refine rd_sl ?_
  | with_reducible refine rd_nopart ?_
  | with_reducible refine rd_part ?_
  | with_reducible refine rd_isint ?_
  | with_reducible refine rd_neI ?_
  | with_reducible refine rd_bm ?_
  | with_reducible refine rd_bm0 ?_
  | with_reducible refine iteT ?_
  | ((with_reducible refine rd_iteDT ?_ ?_); (focus decide))
  | ((with_reducible refine rd_iteDF ?_ ?_); (focus decide))
  | ((with_reducible apply rd_ixL); (focus exact SqL.of (by assumption)); (focus exact rfl))
  | with_reducible refine iteF ?_
  | ((with_reducible apply rd_piece_long); assumption; assumption)
  | ((with_reducible apply rd_piece_rise); assumption; assumption)
  | ((with_reducible apply rd_piece_wide); assumption; assumption)
  | ((with_reducible apply rd_pump_at); assumption; assumption)
  | ((with_reducible apply rd_pump_adds); assumption; assumption)
  | ((with_reducible apply rd_pump_runs); assumption; assumption)
  | ((with_reducible apply rd_pipe_begun); assumption; assumption)
  | ((with_reducible apply rd_pipe_grain); assumption; assumption)
  | ((with_reducible apply rd_pipe_mix); assumption; assumption)
  | ((with_reducible apply rd_pipe_low); assumption; assumption)
  | ((with_reducible apply rd_pipe_high); assumption; assumption)
  | ((with_reducible apply rd_pipe_pieces); assumption; assumption)
  | ((with_reducible apply rd_pipe_pumps); assumption; assumption))
local macro_rules | `(tactic| walk_at "rd") => `(tactic| repeat walk_at "s1")
inductive BySpeed : Int → Nat → Kv335.Call → Prop where
  | why (v : Nat) : BySpeed 14 v (.why v)
  | blocks (v : Nat) : BySpeed 15 v (.blocks v)
  | least (v : Nat) : BySpeed 16 v (.least v)
  | most (v : Nat) : BySpeed 17 v (.most v)
  | spare (v : Nat) : BySpeed 18 v (.spare v)
  | fewest (v : Nat) : BySpeed 19 v (.fewest v)
  | richest (v : Nat) : BySpeed 20 v (.richest v)
def sp_answer_measure (K : PySem.W.Frag) (A : Ad) : Sp := fun vs H Q _ => ∃ (p t : Addr) (F : List Addr) (a : Kv335.Abs) (n : Int) (args : List Int) (c : Kv335.Call), vs = [.ref p, .int n, .ref t] ∧ PipeAt A H p F true a ∧ Good a ∧ H t = some (.lst (args.map V.int)) ∧ Told n args c ∧ 7 ≤ n ∧ n ≤ 13 ∧ Ret H Q (rowOf a c)
def sp_answer_by_speed (K : PySem.W.Frag) (A : Ad) : Sp := fun vs H Q _ => ∃ (p : Addr) (F : List Addr) (a : Kv335.Abs) (n : Int) (v : Nat) (c : Kv335.Call), vs = [.ref p, .int n, .int v] ∧ PipeAt A H p F true a ∧ Good a ∧ BySpeed n v c ∧ Ret H Q (rowOf a c)
def sp_answer_rest (K : PySem.W.Frag) (A : Ad) : Sp := fun vs H Q _ => ∃ (p t : Addr) (F : List Addr) (a : Kv335.Abs) (n : Int) (args : List Int) (c : Kv335.Call), vs = [.ref p, .int n, .ref t] ∧ PipeAt A H p F true a ∧ Good a ∧ H t = some (.lst (args.map V.int)) ∧ Told n args c ∧ 21 ≤ n ∧ Ret H Q (rowOf a c)
theorem told_nn {n : Int} {args : List Int} {c : Kv335.Call} (h : Told n args c) : 0 ≤ n := by
  cases h <;> decide
theorem told_ask {n : Int} {args : List Int} {c : Kv335.Call} (h : Told n args c) (hn : 7 ≤ n) (a : Kv335.Abs) : (a.does c).1 = a := by
  cases h <;> first
    | exact absurd hn (by decide)
    | (simp only [Kv335.Abs.does]; repeat (first | rfl | split))
theorem told_speed {n : Int} {args : List Int} {c : Kv335.Call} (h : Told n args c) (h1 : 14 ≤ n) (h2 : n ≤ 20) : ∃ v : Nat, args = [(v : Int)] ∧ BySpeed n v c := by
  cases h with
  | why v => exact ⟨v, rfl, .why v⟩
  | blocks v => exact ⟨v, rfl, .blocks v⟩
  | least v => exact ⟨v, rfl, .least v⟩
  | most v => exact ⟨v, rfl, .most v⟩
  | spare v => exact ⟨v, rfl, .spare v⟩
  | fewest v => exact ⟨v, rfl, .fewest v⟩
  | richest v => exact ⟨v, rfl, .richest v⟩
  | _ => first | exact absurd h1 (by decide) | exact absurd h2 (by decide)
section
variable {P : Program} {w : World} {K : PySem.W.Frag} {mg : Str → Option Value} {base : Heap} {A : Ad}
theorem ok_answer_measure (T : Txt K mg A) : FnOk P w K mg base CX0 7 A.f_answer_measure A.d_answer_measure ["pipe", "number", "told"] (sp_answer_measure K A) := by
  have G_fastest : FnOk P w K mg base CX0 6 A.f_fastest A.d_fastest ["pipe"] (sp_fastest K A) := ok_fastest T
  have G_loses : FnOk P w K mg base CX0 2 A.f_loses A.d_loses ["pipe", "number", "speed"] (sp_loses K A) := ok_loses T
  have G_settles : FnOk P w K mg base CX0 2 A.f_settles A.d_settles ["pipe", "number"] (sp_settles K A) := ok_settles T
  have G_gives : FnOk P w K mg base CX0 2 A.f_gives A.d_gives ["pipe", "number", "speed"] (sp_gives K A) := ok_gives T
  have G_pressures : FnOk P w K mg base CX0 4 A.f_pressures A.d_pressures ["pipe", "speed"] (sp_pressures K A) := ok_pressures T
  have G_goes : FnOk P w K mg base CX0 6 A.f_goes A.d_goes ["pipe", "speed"] (sp_goes K A) := ok_goes T
  have G_slowest : FnOk P w K mg base CX0 6 A.f_slowest A.d_slowest ["pipe"] (sp_slowest K A) := ok_slowest T
  refine T.F_answer_measure.ok sc_answer_measure (fun vs H Q E h => ?_) (fun cdv Ar outer s H vs Q E hr h => ?_)
  · obtain ⟨p, t, F, a, n, args, c, rfl, _⟩ := h
    rfl
  · obtain ⟨p, t, F, a, n, args, c, rfl, hp, hG, ht, hT, h1, h2, k⟩ := h
    refine ⟨_, (pss_cons (ps_if (pt_cmpR op_eq (pv 1) pe_int (nomark _)) (pss_one (ps_ret (pe_call G_loses (hr.mono (by decide)) rfl T.m_loses T.F_loses.kp T.b_loses .nil pass0 (pa_cons (pv 0) (pa_cons (pe_ix (ix_listK K rfl) (pv 2) pe_int (fun _ _ => rfl)) (pa_cons (pe_ix (ix_listK K rfl) (pv 2) pe_int (fun _ _ => rfl)) pa_nil)))))) pss_nil)
      (pss_cons (ps_if (pt_cmpR op_eq (pv 1) pe_int (nomark _)) (pss_one (ps_ret (pe_call G_settles (hr.mono (by decide)) rfl T.m_settles T.F_settles.kp T.b_settles .nil pass0 (pa_cons (pv 0) (pa_cons (pe_ix (ix_listK K rfl) (pv 2) pe_int (fun _ _ => rfl)) pa_nil))))) pss_nil)
      (pss_cons (ps_if (pt_cmpR op_eq (pv 1) pe_int (nomark _)) (pss_one (ps_ret (pe_call G_gives (hr.mono (by decide)) rfl T.m_gives T.F_gives.kp T.b_gives .nil pass0 (pa_cons (pv 0) (pa_cons (pe_ix (ix_listK K rfl) (pv 2) pe_int (fun _ _ => rfl)) (pa_cons (pe_ix (ix_listK K rfl) (pv 2) pe_int (fun _ _ => rfl)) pa_nil)))))) pss_nil)
      (pss_cons (ps_if (pt_cmpR op_eq (pv 1) pe_int (nomark _)) (pss_one (ps_ret (pe_call G_pressures (hr.mono (by decide)) rfl T.m_pressures T.F_pressures.kp T.b_pressures .nil pass0 (pa_cons (pv 0) (pa_cons (pe_ix (ix_listK K rfl) (pv 2) pe_int (fun _ _ => rfl)) pa_nil))))) pss_nil)
      (pss_cons (ps_if (pt_cmpR op_eq (pv 1) pe_int (nomark _)) (pss_one (ps_ret (pe_call G_goes (hr.mono (by decide)) rfl T.m_goes T.F_goes.kp T.b_goes .nil pass0 (pa_cons (pv 0) (pa_cons (pe_ix (ix_listK K rfl) (pv 2) pe_int (fun _ _ => rfl)) pa_nil))))) pss_nil)
      (pss_cons (ps_if (pt_cmpR op_eq (pv 1) pe_int (nomark _)) (pss_one (ps_ret (pe_call G_slowest (hr.mono (by decide)) rfl T.m_slowest T.F_slowest.kp T.b_slowest .nil pass0 (pa_cons (pv 0) pa_nil)))) pss_nil)
      (pss_one (ps_ret (pe_call G_fastest (hr.mono (by decide)) rfl T.m_fastest T.F_fastest.kp T.b_fastest .nil pass0 (pa_cons (pv 0) pa_nil)))))))))), ?_⟩
    cases hT with
    | loses i v =>
      walk_at "rd"
      exact ⟨p, F, true, a, i, v, rfl, hp, hG, k⟩
    | settles i =>
      walk_at "rd"
      exact ⟨p, F, true, a, i, rfl, hp, hG, k⟩
    | gives i v =>
      walk_at "rd"
      exact ⟨p, F, true, a, i, v, rfl, hp, hG, k⟩
    | pressures v =>
      walk_at "rd"
      exact ⟨p, F, true, a, v, rfl, hp, hG, k⟩
    | goes v =>
      walk_at "rd"
      exact ⟨p, F, true, a, v, rfl, hp, hG, k⟩
    | slowest =>
      walk_at "rd"
      exact ⟨p, F, true, a, rfl, hp, hG, k⟩
    | fastest =>
      walk_at "rd"
      exact ⟨p, F, true, a, rfl, hp, hG, k⟩
    | _ => first | exact absurd h1 (by decide) | exact absurd h2 (by decide)
theorem ok_answer_by_speed (T : Txt K mg A) : FnOk P w K mg base CX0 7 A.f_answer_by_speed A.d_answer_by_speed ["pipe", "number", "speed"] (sp_answer_by_speed K A) := by
  have G_richest : FnOk P w K mg base CX0 6 A.f_richest A.d_richest ["pipe", "speed"] (sp_richest K A) := ok_richest T
  have G_why : FnOk P w K mg base CX0 5 A.f_why A.d_why ["pipe", "speed"] (sp_why K A) := ok_why T
  have G_blocks : FnOk P w K mg base CX0 3 A.f_blocks A.d_blocks ["pipe", "speed"] (sp_blocks K A) := ok_blocks T
  have G_least : FnOk P w K mg base CX0 4 A.f_least A.d_least ["pipe", "speed"] (sp_least K A) := ok_least T
  have G_most : FnOk P w K mg base CX0 4 A.f_most A.d_most ["pipe", "speed"] (sp_most K A) := ok_most T
  have G_spare : FnOk P w K mg base CX0 6 A.f_spare A.d_spare ["pipe", "speed"] (sp_spare K A) := ok_spare T
  have G_fewest : FnOk P w K mg base CX0 6 A.f_fewest A.d_fewest ["pipe", "speed"] (sp_fewest K A) := ok_fewest T
  refine T.F_answer_by_speed.ok sc_answer_by_speed (fun vs H Q E h => ?_) (fun cdv Ar outer s H vs Q E hr h => ?_)
  · obtain ⟨p, F, a, n, v, c, rfl, _⟩ := h
    rfl
  · obtain ⟨p, F, a, n, v, c, rfl, hp, hG, hT, k⟩ := h
    refine ⟨_, (pss_cons (ps_if (pt_cmpR op_eq (pv 1) pe_int (nomark _)) (pss_one (ps_ret (pe_call G_why (hr.mono (by decide)) rfl T.m_why T.F_why.kp T.b_why .nil pass0 (pa_cons (pv 0) (pa_cons (pv 2) pa_nil))))) pss_nil)
      (pss_cons (ps_if (pt_cmpR op_eq (pv 1) pe_int (nomark _)) (pss_one (ps_ret (pe_call G_blocks (hr.mono (by decide)) rfl T.m_blocks T.F_blocks.kp T.b_blocks .nil pass0 (pa_cons (pv 0) (pa_cons (pv 2) pa_nil))))) pss_nil)
      (pss_cons (ps_if (pt_cmpR op_eq (pv 1) pe_int (nomark _)) (pss_one (ps_ret (pe_call G_least (hr.mono (by decide)) rfl T.m_least T.F_least.kp T.b_least .nil pass0 (pa_cons (pv 0) (pa_cons (pv 2) pa_nil))))) pss_nil)
      (pss_cons (ps_if (pt_cmpR op_eq (pv 1) pe_int (nomark _)) (pss_one (ps_ret (pe_call G_most (hr.mono (by decide)) rfl T.m_most T.F_most.kp T.b_most .nil pass0 (pa_cons (pv 0) (pa_cons (pv 2) pa_nil))))) pss_nil)
      (pss_cons (ps_if (pt_cmpR op_eq (pv 1) pe_int (nomark _)) (pss_one (ps_ret (pe_call G_spare (hr.mono (by decide)) rfl T.m_spare T.F_spare.kp T.b_spare .nil pass0 (pa_cons (pv 0) (pa_cons (pv 2) pa_nil))))) pss_nil)
      (pss_cons (ps_if (pt_cmpR op_eq (pv 1) pe_int (nomark _)) (pss_one (ps_ret (pe_call G_fewest (hr.mono (by decide)) rfl T.m_fewest T.F_fewest.kp T.b_fewest .nil pass0 (pa_cons (pv 0) (pa_cons (pv 2) pa_nil))))) pss_nil)
      (pss_one (ps_ret (pe_call G_richest (hr.mono (by decide)) rfl T.m_richest T.F_richest.kp T.b_richest .nil pass0 (pa_cons (pv 0) (pa_cons (pv 2) pa_nil))))))))))), ?_⟩
    cases hT <;> (walk_at "rd"; exact ⟨p, F, true, a, v, rfl, hp, hG, k⟩)
theorem ok_answer_rest (T : Txt K mg A) : FnOk P w K mg base CX0 9 A.f_answer_rest A.d_answer_rest ["pipe", "number", "told"] (sp_answer_rest K A) := by
  have G_state : FnOk P w K mg base CX0 1 A.f_state A.d_state ["pipe"] (sp_state K A) := ok_state T
  have G_farther : FnOk P w K mg base CX0 8 A.f_farther A.d_farther ["pipe", "speed", "wide"] (sp_farther K A) := ok_farther T
  have G_flow : FnOk P w K mg base CX0 2 A.f_flow A.d_flow ["pipe", "speed"] (sp_flow K A) := ok_flow T
  have G_look : FnOk P w K mg base CX0 1 A.f_look A.d_look ["pipe", "number"] (sp_look K A) := ok_look T
  refine T.F_answer_rest.ok sc_answer_rest (fun vs H Q E h => ?_) (fun cdv Ar outer s H vs Q E hr h => ?_)
  · obtain ⟨p, t, F, a, n, args, c, rfl, _⟩ := h
    rfl
  · obtain ⟨p, t, F, a, n, args, c, rfl, hp, hG, ht, hT, h1, k⟩ := h
    refine ⟨_, (pss_cons (ps_if (pt_cmpR op_eq (pv 1) pe_int (nomark _)) (pss_one (ps_ret (pe_call G_farther (hr.mono (by decide)) rfl T.m_farther T.F_farther.kp T.b_farther .nil pass0 (pa_cons (pv 0) (pa_cons (pe_ix (ix_listK K rfl) (pv 2) pe_int (fun _ _ => rfl)) (pa_cons (pe_ix (ix_listK K rfl) (pv 2) pe_int (fun _ _ => rfl)) pa_nil)))))) pss_nil)
      (pss_cons (ps_if (pt_cmpR op_eq (pv 1) pe_int (nomark _)) (pss_one (ps_ret (pe_call G_flow (hr.mono (by decide)) rfl T.m_flow T.F_flow.kp T.b_flow .nil pass0 (pa_cons (pv 0) (pa_cons (pe_ix (ix_listK K rfl) (pv 2) pe_int (fun _ _ => rfl)) pa_nil))))) pss_nil)
      (pss_cons (ps_if (pt_cmpR op_eq (pv 1) pe_int (nomark _)) (pss_one (ps_ret (pe_call G_look (hr.mono (by decide)) rfl T.m_look T.F_look.kp T.b_look .nil pass0 (pa_cons (pv 0) (pa_cons (pe_ix (ix_listK K rfl) (pv 2) pe_int (fun _ _ => rfl)) pa_nil))))) pss_nil)
      (pss_one (ps_ret (pe_call G_state (hr.mono (by decide)) rfl T.m_state T.F_state.kp T.b_state .nil pass0 (pa_cons (pv 0) pa_nil))))))), ?_⟩
    cases hT with
    | farther v w =>
      walk_at "rd"
      exact ⟨p, F, true, a, v, w, rfl, hp, hG, k⟩
    | flow v =>
      walk_at "rd"
      exact ⟨p, F, true, a, v, rfl, hp, hG, k⟩
    | look i =>
      walk_at "rd"
      exact ⟨p, F, true, a, i, rfl, hp, hG, k⟩
    | state =>
      walk_at "rd"
      exact ⟨p, F, true, a, rfl, hp, hG, k⟩
    | _ => exact absurd h1 (by decide)
theorem ok_answer_call (T : Txt K mg A) : FnOk P w K mg base CX0 10 A.f_answer_call A.d_answer_call ["pipe", "number", "told"] (sp_answer_call K A) := by
  have G_answer_rest : FnOk P w K mg base CX0 9 A.f_answer_rest A.d_answer_rest ["pipe", "number", "told"] (sp_answer_rest K A) := ok_answer_rest T
  have G_begin : FnOk P w K mg base CX0 2 A.f_begin A.d_begin ["pipe", "grain", "mix", "low", "high"] (sp_begin K A) := ok_begin T
  have G_answer_change : FnOk P w K mg base CX0 4 A.f_answer_change A.d_answer_change ["pipe", "number", "told"] (sp_answer_change K A) := ok_answer_change T
  have G_answer_measure : FnOk P w K mg base CX0 7 A.f_answer_measure A.d_answer_measure ["pipe", "number", "told"] (sp_answer_measure K A) := ok_answer_measure T
  have G_answer_by_speed : FnOk P w K mg base CX0 7 A.f_answer_by_speed A.d_answer_by_speed ["pipe", "number", "speed"] (sp_answer_by_speed K A) := ok_answer_by_speed T
  refine T.F_answer_call.ok sc_answer_call (fun vs H Q E h => ?_) (fun cdv Ar outer s H vs Q E hr h => ?_)
  · obtain ⟨p, t, F, s, n, args, c, rfl, _⟩ := h
    rfl
  · obtain ⟨p, t, F, st, n, args, c, rfl, hR, ht, hT, k⟩ := h
    refine ⟨_, (pss_cons (ps_if (pt_cmpR op_eq (pv 1) pe_int (nomark _)) (pss_one (ps_ret (pe_call G_begin (hr.mono (by decide)) rfl T.m_begin T.F_begin.kp T.b_begin .nil pass0 (pa_cons (pv 0) (pa_cons (pe_ix (ix_listK K rfl) (pv 2) pe_int (fun _ _ => rfl)) (pa_cons (pe_ix (ix_listK K rfl) (pv 2) pe_int (fun _ _ => rfl)) (pa_cons (pe_ix (ix_listK K rfl) (pv 2) pe_int (fun _ _ => rfl)) (pa_cons (pe_ix (ix_listK K rfl) (pv 2) pe_int (fun _ _ => rfl)) pa_nil)))))))) pss_nil)
      (pss_cons (ps_if (pt_not (pt_val (pe_fldK K rfl (pv 0) rfl))) (pss_one (ps_ret (pe_lst (pa_cons (pe_glob (v := .int (-11)) rfl T.g_NOT_BEGUN.choose_spec.1 T.g_NOT_BEGUN.choose_spec.2) pa_nil)))) pss_nil)
      (pss_cons (ps_if (pt_cmpR op_le (pv 1) (pe_glob (v := .int (6)) rfl T.g_LAST_CHANGE.choose_spec.1 T.g_LAST_CHANGE.choose_spec.2) (nomark _)) (pss_one (ps_ret (pe_call G_answer_change (hr.mono (by decide)) rfl T.m_answer_change T.F_answer_change.kp T.b_answer_change .nil pass0 (pa_cons (pv 0) (pa_cons (pv 1) (pa_cons (pv 2) pa_nil)))))) pss_nil)
      (pss_cons (ps_if (pt_cmpR op_le (pv 1) (pe_glob (v := .int (13)) rfl T.g_LAST_MEASURE.choose_spec.1 T.g_LAST_MEASURE.choose_spec.2) (nomark _)) (pss_one (ps_ret (pe_call G_answer_measure (hr.mono (by decide)) rfl T.m_answer_measure T.F_answer_measure.kp T.b_answer_measure .nil pass0 (pa_cons (pv 0) (pa_cons (pv 1) (pa_cons (pv 2) pa_nil)))))) pss_nil)
      (pss_cons (ps_if (pt_cmpR op_le (pv 1) (pe_glob (v := .int (20)) rfl T.g_LAST_BY_SPEED.choose_spec.1 T.g_LAST_BY_SPEED.choose_spec.2) (nomark _)) (pss_one (ps_ret (pe_call G_answer_by_speed (hr.mono (by decide)) rfl T.m_answer_by_speed T.F_answer_by_speed.kp T.b_answer_by_speed .nil pass0 (pa_cons (pv 0) (pa_cons (pv 1) (pa_cons (pe_ix (ix_listK K rfl) (pv 2) pe_int (fun _ _ => rfl)) pa_nil)))))) pss_nil)
      (pss_one (ps_ret (pe_call G_answer_rest (hr.mono (by decide)) rfl T.m_answer_rest T.F_answer_rest.kp T.b_answer_rest .nil pass0 (pa_cons (pv 0) (pa_cons (pv 1) (pa_cons (pv 2) pa_nil))))))))))), ?_⟩
    by_cases hn : n = 0
    · cases hT with
      | begin_ g m lo hi =>
        walk_at "rd"
        exact ⟨p, F, st, g, m, lo, hi, rfl, hR, k⟩
      | _ => exact absurd hn (by decide)
    walk_at "rd"
    refine rd_ite (fun z => absurd z hn) (fun _ => ?_)
    have nn := told_nn hT
    cases st with
    | none =>
      rw [act_none hT hn] at k
      obtain ⟨a, hp⟩ := hR
      have hR : RepS A H p F none := ⟨a, hp⟩
      obtain ⟨dx, l, c', ps, qs, hp, rfl⟩ := hp
      walk_at "rd"
      exact rd_new (by simp) (k.say hR rfl)
    | some a =>
      obtain ⟨hpA, hG⟩ := hR
      have k : Step A H p F Q (some (a.does c).1) (rowOf a c) := k
      have hp := hpA
      obtain ⟨dx, l, c', ps, qs, hp, rfl⟩ := hp
      walk_at "rd"
      refine rd_iteB (fun z => absurd z (by decide)) (fun _ => ?_)
      walk_at "rd"
      refine rd_ite (fun h6 => ?_) (fun h6 => ?_)
      · walk_at "rd"
        exact ⟨p, t, _, a, n, args, c, rfl, hpA, hG, ht, hT, by omega, h6, k⟩
      have kr : Ret H Q (rowOf a c) := by
        rw [told_ask hT (by omega) a] at k
        exact k.ret ⟨hpA, hG⟩
      walk_at "rd"
      refine rd_ite (fun h13 => ?_) (fun h13 => ?_)
      · walk_at "rd"
        exact ⟨p, t, _, a, n, args, c, rfl, hpA, hG, ht, hT, by omega, h13, kr⟩
      walk_at "rd"
      refine rd_ite (fun h20 => ?_) (fun h20 => ?_)
      · obtain ⟨v, rfl, hB⟩ := told_speed hT (by omega) h20
        walk_at "rd"
        exact ⟨p, _, a, n, v, c, rfl, hpA, hG, hB, kr⟩
      · walk_at "rd"
        exact ⟨p, t, _, a, n, args, c, rfl, hpA, hG, ht, hT, by omega, kr⟩
end
end Sp

set_option Elab.async false
set_option linter.all false
set_option maxRecDepth 100000
set_option maxHeartbeats 2000000
namespace Sp
open PySem PySem.Spec PyProof.Rows L2
local macro_rules | `(tactic| walk_at "s1") => `(tactic| first
  | with_reducible refine rd_seq ?_
  | with_reducible refine rd_asg ?_
  | with_reducible refine rd_gname ?_
  | ((with_reducible apply rd_var); exact rfl)
  | with_reducible refine rd_c ?_
  | with_reducible refine rd_op ?_
  | with_reducible refine rd_i0 ?_
  | with_reducible refine rd_eqI ?_
  | ((with_reducible refine rd_mul ?_ ?_); first | exact mul_rN (by omega) (by omega) | exact mul_lN (by omega) (by omega))
  | ((with_reducible refine rd_fdiv ?_ ?_ ?_); (focus (first | decide | omega)); (focus (first | decide | omega)))
  | with_reducible refine rd_fld ?_
  | with_reducible refine rd_ret ?_
  | with_reducible refine rd_drop ?_
  | with_reducible refine rd_ifS ?_
  | with_reducible refine rd_if ?_
  | with_reducible refine rd_test ?_
  | with_reducible refine rd_tB ?_
  | with_reducible refine rd_and ?_
  | with_reducible refine rd_or ?_
  | with_reducible refine rd_not ?_
  | with_reducible refine rd_chain ?_
  | with_reducible refine rd_andV ?_
  | with_reducible refine rd_orV ?_
  | with_reducible refine rd_notV ?_
  | with_reducible refine rd_isblX ?_
  | with_reducible refine rd_nil ?_
  | with_reducible refine rd_cons ?_
  | with_reducible refine rd_call ?_
  | with_reducible refine rd_callLen ?_
  | with_reducible refine rd_callB ?_
  | with_reducible refine rd_lst ?_
  | with_reducible refine rd_next ?_
  | with_reducible refine rd_sfld ?_
  | with_reducible refine rd_un ?_
  | with_reducible refine rd_u ?_
  | with_reducible refine rd_make ?_
  | with_reducible refine rd_for ?_
  | with_reducible refine rd_ilist ?_
  | with_reducible refine rd_ienum ?_
  | with_reducible refine rd_irng2 ?_
  | with_reducible refine rd_irng1 ?_
  | with_reducible refine rd_yes ?_
  | with_reducible refine rd_irng3 ?_
  | ((with_reducible refine rd_mod ?_ ?_); (focus decide))
  | with_reducible refine rd_lc ?_
  | with_reducible refine rd_sl ?_
  | with_reducible refine rd_nopart ?_
  | with_reducible refine rd_part ?_
  | with_reducible refine rd_isint ?_
  | with_reducible refine rd_neI ?_
  | with_reducible refine rd_bm ?_
  | with_reducible refine rd_bm0 ?_
  | with_reducible refine iteT ?_
  | ((with_reducible refine rd_iteDT ?_ ?_); (focus decide))
  | ((with_reducible refine rd_iteDF ?_ ?_); (focus decide))
  | ((with_reducible apply rd_ixL); (focus exact SqL.of (by assumption)); (focus exact rfl))
  | with_reducible refine iteF ?_
  | ((with_reducible apply rd_piece_long); assumption; assumption)
  | ((with_reducible apply rd_piece_rise); assumption; assumption)
  | ((with_reducible apply rd_piece_wide); assumption; assumption)
  | ((with_reducible apply rd_pump_at); assumption; assumption)
  | ((with_reducible apply rd_pump_adds); assumption; assumption)
  | ((with_reducible apply rd_pump_runs); assumption; assumption)
  | ((with_reducible apply rd_pipe_begun); assumption; assumption)
  | ((with_reducible apply rd_pipe_grain); assumption; assumption)
  | ((with_reducible apply rd_pipe_mix); assumption; assumption)
  | ((with_reducible apply rd_pipe_low); assumption; assumption)
  | ((with_reducible apply rd_pipe_high); assumption; assumption)
  | ((with_reducible apply rd_pipe_pieces); assumption; assumption)
  | ((with_reducible apply rd_pipe_pumps); assumption; assumption))
local macro_rules | `(tactic| walk_at "rd") => `(tactic| repeat walk_at "s1")
theorem size10 {n : Nat} (h : n ≤ 10000000) : n < sizeLine := Nat.lt_of_le_of_lt h (by decide)
section
variable {P : Program} {w : World} {K : PySem.W.Frag} {mg : Str → Option Value} {base : Heap} {A : Ad}
theorem ok_answers (T : Txt K mg A) : FnOk P w K mg base CX0 11 A.f_answers A.d_answers ["calls"] (sp_answers K A) := by
  have G_Pipe__init__ : FnOk P w K mg base CX0 1 A.f_Pipe__init__ A.d_Pipe__init__ ["self"] (sp_Pipe__init__ K A) := ok_Pipe__init__ T
  have G_answer_call : FnOk P w K mg base CX0 10 A.f_answer_call A.d_answer_call ["pipe", "number", "told"] (sp_answer_call K A) := ok_answer_call T
  refine T.F_answers.ok sc_answers (fun vs H Q E h => ?_) (fun cdv Ar outer s H vs Q E hr h => ?_)
  · obtain ⟨a, ns, rfl, _⟩ := h
    rfl
  · obtain ⟨a, ns, rfl, hS, hn, hask, k⟩ := h
    obtain ⟨cs0, hflat, hask1, hans, hlen⟩ := asked_all hask
    refine ⟨_, (pss_cons (ps_set (i := 1) sc_answers.nd rfl (Or.inl rfl) (pe_make0 T.mk_Pipe G_Pipe__init__ (hr.mono (by decide)) rfl T.m_Pipe T.b_Pipe__init__ .nil pass0))
      (pss_cons (ps_set (i := 2) sc_answers.nd rfl (Or.inl rfl) (pe_lst pa_nil))
      (pss_cons (ps_set (i := 3) sc_answers.nd rfl (Or.inl rfl) pe_int)
      (pss_cons (ps_while PassesOwn.never (pt_cmpR op_lt (pv 3) (pe_callB (call_lenK K rfl) (by rfl) T.nb_len PySem.boot_len (pa_cons (pv 0) pa_nil)) (nomark _)) (pss_cons (ps_set (i := 4) sc_answers.nd rfl (Or.inl rfl) (pe_ix (ix_listK K rfl) (pv 0) (pv 3) (fun _ _ => rfl)))
      (pss_cons (ps_set (i := 5) sc_answers.nd rfl (Or.inl rfl) (pe_op op_add (pe_op op_add (pv 3) pe_int) (pe_ix (ix_tupK K rfl) (pe_glob (v := .ref A.t_ARGUMENT_COUNTS) rfl T.g_ARGUMENT_COUNTS rfl) (pv 4) (fun _ _ => rfl))))
      (pss_cons (ps_set (i := 6) sc_answers.nd rfl (Or.inl rfl) (pe_call G_answer_call (hr.mono (by decide)) rfl T.m_answer_call T.F_answer_call.kp T.b_answer_call .nil pass0 (pa_cons (pv 1) (pa_cons (pv 4) (pa_cons (pe_slice (sl_listK K rfl) (pv 0) (po_some (pe_op op_add (pv 3) pe_int)) (po_some (pv 5))) pa_nil)))))
      (pss_cons (ps_expr (pe_bmK K rfl PySem.F.plainAttrs_list PySem.F.slot_list_append PySem.F.type_list_append mt_append (pv 2) (pa_cons (pe_callB (call_lenK K rfl) (by rfl) T.nb_len PySem.boot_len (pa_cons (pv 6) pa_nil)) pa_nil)))
      (pss_cons (ps_expr (pe_bmK K rfl PySem.F.plainAttrs_list PySem.F.slot_list_extend PySem.F.type_list_extend mt_extend (pv 2) (pa_cons (pv 6) pa_nil)))
      (pss_one (ps_set (i := 3) sc_answers.nd rfl (Or.inl rfl) (pv 5)))))))))
      (pss_one (ps_ret (pv 2))))))), ?_⟩
    walk_at "rd"
    intro x dx nx nd ndx
    refine ⟨x, dx, rfl, upd_same, fun H1 l k' hp1 hl1 hk1 nlk fl fk fr => ⟨rfl, ?_⟩⟩
    have s1 : Same H H1 := Same.made nx nd fr
    have fl0 : H l = none := upd_none (upd_none fl)
    have fk0 : H k' = none := upd_none (upd_none fk)
    have R1 : RepS A H1 x (x :: l :: k' :: ([] ++ [])) none := ⟨⟨[], [], 0, 0, 0, 0⟩, dx, l, k', [], [], PipeOn.fresh hp1 hl1 hk1 nlk rfl rfl, rfl⟩
    walk_at "rd"
    refine rd_new (by simp) fun f hf => ?_
    have s2 : Same H1 (upd H1 f (.lst [])) := Same.upd hf
    have hf0 : H f = none := s1.free hf
    walk_at "rd"
    refine rd_while (fun m σ H' => ∃ (i : Nat) (F : List Addr) (s : Kv335.State) (cs : List (List (List Int))) (done : List Int) (v4 v5 v6 : Option V), σ = [some (.ref a), some (.ref x), some (.ref f), some (.int (i : Nat)), v4, v5, v6] ∧ Same H H' ∧ RepS A H' x F s ∧
      (∀ b, b ∈ F → H b = none) ∧ f ∉ F ∧ H' f = some (.lst (done.map V.int)) ∧ i ≤ ns.length ∧ Flat (ns.drop i) cs ∧ (∀ c, c ∈ cs → Kv335Neutral.asked1 c = true) ∧ done ++ PyFlat.told (PyFlat.played Kv335Neutral.step s cs) = PyKv335.answers ns ∧ m = ns.length - i)
      ⟨_, 0, _, none, cs0, [], none, none, none, rfl, s1.trans s2, R1.mono s2, ?_, ?_, upd_same, Nat.zero_le _, hflat, hask1, hans.symm, rfl⟩ ?_
    · intro b hb
      simp only [List.mem_cons, List.append_nil, List.not_mem_nil, or_false] at hb
      rcases hb with rfl | rfl | rfl
      · exact nx
      · exact fl0
      · exact fk0
    · intro hb
      simp only [List.mem_cons, List.append_nil, List.not_mem_nil, or_false] at hb
      rcases hb with e | e | e
      · rw [e, hp1] at hf
        cases hf
      · rw [e, hl1] at hf
        cases hf
      · rw [e, hk1] at hf
        cases hf
    · rintro m σ H' ⟨i, F, s, cs, done, v4, v5, v6, rfl, sH, R, hF, fF, hfd, hi, hfl, hcs, hdone, rfl⟩
      walk_at "rd"
      refine rd_len (sH.seq hS) ?_
      rw [List.length_map]
      walk_at "rd"
      refine rd_ite (fun hlt => ?_) (fun hlt => ?_)
      · have hlt' : i < ns.length := by omega
        obtain ⟨kk, n, cs', hat, hk25, hcnt, hbeh, rfl, hfl'⟩ := flat_at hfl hlt'
        refine ⟨fun σ2 H2 => ∃ (F : List Addr) (s : Kv335.State) (done : List Int) (v4 v5 v6 : Option V), σ2 = [some (.ref a), some (.ref x), some (.ref f), some (.int ((i + 1 + n : Nat) : Int)), v4, v5, v6] ∧ Same H H2 ∧ RepS A H2 x F s ∧
          (∀ b, b ∈ F → H b = none) ∧ f ∉ F ∧ H2 f = some (.lst (done.map V.int)) ∧ done ++ PyFlat.told (PyFlat.played Kv335Neutral.step s cs') = PyKv335.answers ns, ?_, ?_⟩
        · rintro σ2 H2 ⟨F2, s2', done2, w4, w5, w6, rfl, b1, b2, b3, b4, b5, b6⟩
          exact ⟨ns.length - (i + 1 + n), by omega, i + 1 + n, F2, s2', cs', done2, w4, w5, w6, rfl, b1, b2, b3, b4, b5, hbeh, hfl', fun c hc => hcs c (List.mem_cons.mpr (.inr hc)), b6, rfl⟩
        walk_at "rd"
        refine rd_ixL (sH.seq hS) (at_of (j := i) rfl (by rw [List.getElem?_map, hat]; rfl)) ?_
        walk_at "rd"
        refine rd_ixT (v := .int (n : Int)) (T.v_ARGUMENT_COUNTS H') (at_of (j := kk) rfl ?_) ?_
        · show ((counts.map Int.ofNat).map V.int)[kk]? = _
          rw [List.getElem?_map, List.getElem?_map, hcnt]
          rfl
        walk_at "rd"
        refine rd_slL (sH.seq hS) fun t ht => ?_
        have ec : cutV (ns.map V.int) (some ((i : Int) + 1)) (some ((i : Int) + 1 + (n : Int))) = ((ns.drop (i + 1)).take n).map V.int := by
          rw [show ((i : Int) + 1) = ((i + 1 : Nat) : Int) by omega, show (((i + 1 : Nat) : Int) + (n : Int)) = ((i + 1 + n : Nat) : Int) by omega, cut_fromto (by omega) (by rw [List.length_map]; exact hbeh), ← List.map_drop, ← List.map_take]
          rw [show i + 1 + n - (i + 1) = n by omega]
        rw [ec]
        have s3 : Same H' (upd H' t (.lst (((ns.drop (i + 1)).take n).map V.int))) := Same.upd ht
        obtain ⟨c, hT, hcall⟩ := asked_told (hcs _ List.mem_cons_self)
        have hst := step_told (s := s) hcall
        walk_at "rd"
        refine ⟨x, t, F, s, _, _, c, rfl, R.mono s3, upd_same, hT, fun H2 r F2 R2 hF2 fr2 hr0 hr2 => ?_⟩
        have hft : upd H' t (.lst (((ns.drop (i + 1)).take n).map V.int)) f = some (.lst (done.map V.int)) := s3 _ _ hfd
        have sH2 : Same H H2 := fun b o e => fr2 b o (s3 _ _ (sH _ _ e)) (fun hb => by
          rw [hF b hb] at e
          cases e)
        have hf2 : H2 f = some (.lst (done.map V.int)) := fr2 _ _ hft fF
        have hF2' : ∀ b, b ∈ F2 → H b = none := fun b hb => by
          rcases hF2 b hb with h | h
          · exact hF b h
          · exact (sH.trans s3).free h
        have fF2 : f ∉ F2 := fun hb => by
          rcases hF2 f hb with h | h
          · exact fF h
          · rw [hft] at h
            cases h
        have hrf : r ≠ f := fun e => by
          rw [e, hft] at hr0
          cases hr0
        rw [told_cons, hst] at hdone
        have hdl : done.length + 1 + (Kv335Neutral.row (Kv335.act s c).2).length ≤ 10000000 := by
          have := congrArg List.length hdone
          rw [List.length_append, List.length_cons, List.length_append] at this
          have h2 := hlen
          rw [← this] at h2
          show done.length + 1 + (Kv335Neutral.row (Kv335.act s c).2).length ≤ 10000000
          simp only at h2
          omega
        walk_at "rd"
        refine rd_tyL hf2 ?_
        walk_at "rd"
        refine rd_len (SqL.of hr2) ?_
        rw [List.length_map]
        walk_at "rd"
        refine rd_append hf2 (by rw [List.length_map]; exact size10 (by omega)) ?_
        walk_at "rd"
        refine rd_tyL upd_same ?_
        walk_at "rd"
        refine rd_extend upd_same (by rw [upd_ne hrf]; exact hr2) ?_ ?_
        · rw [List.length_append, List.length_map, List.length_map]
          exact Nat.le_of_lt (size10 hdl)
        walk_at "rd"
        refine ⟨F2, (Kv335.act s c).1, done ++ (((Kv335Neutral.row (Kv335.act s c).2).length : Nat) : Int) :: Kv335Neutral.row (Kv335.act s c).2, some (.int (kk : Int)), some (.int ((i : Int) + 1 + (n : Int))), some (.ref r), ?_, ?_, ?_, hF2', fF2, ?_, ?_⟩
        · rw [show ((i + 1 + n : Nat) : Int) = (i : Int) + 1 + (n : Int) by omega]
          rfl
        · intro b o e
          rw [upd_ne (ne_of_none e hf0), upd_ne (ne_of_none e hf0)]
          exact sH2 _ _ e
        · refine R2.frame fun q hq => ?_
          have n1 : q ≠ f := fun e => fF2 (by rw [← e]; exact hq)
          rw [upd_ne n1, upd_ne n1]
        · rw [upd_same]
          congr 2
          simp
        · rw [List.append_assoc]
          exact hdone
      · have e : i = ns.length := by omega
        subst e
        rw [List.drop_length] at hfl
        cases hfl
        have hd : done = PyKv335.answers ns := by
          rw [← hdone]
          simp [PyFlat.played, PyFlat.told]
        walk_at "rd"
        refine k H' f ?_
        rw [hfd, hd]
end
end Sp

set_option Elab.async false
set_option linter.all false
set_option maxRecDepth 100000
set_option maxHeartbeats 2000000
namespace Sp
open PySem PySem.Spec PyProof.Rows L2
open PySem.W (Codec boot_o_0 boot_o_1 boot_o_2 boot_o_4 boot_o_5 boot_o_6 boot_o_7 boot_o_8 boot_o_9 boot_o_10)
noncomputable def vS (s : String) (n : Nat) : Value := .str (Str.ofString s) n
noncomputable def eS (P : Params) (s : String) (n : Nat) (v : Value) : DictEntry := ⟨PyData.keyHash P (Str.ofString s), .str (Str.ofString s) n, v⟩
noncomputable def fF (st : Stmt) (nm ql : Str) (pm : Value) (cd : Addr) : FuncData := PySem.W.fnOf nm ql (defArgs st) (defBody st) (defScope st) .none .none .none pm none (.ref cd) .none
noncomputable def oF (f : FuncData) : Obj := ⟨.type "function", none, .func f, #[]⟩
noncomputable def oP (f : FuncData) : Obj := ⟨.none, none, .func { f with globals := 0, pyModule := .none, code := .none, builtins := 0 }, #[]⟩
noncomputable def d_is_speed : FuncData := fF s_is_speed "is_speed" "is_speed" (vS "sandpipe.limits" 187) 20
noncomputable def d_is_grain : FuncData := fF s_is_grain "is_grain" "is_grain" (vS "sandpipe.limits" 187) 27
noncomputable def d_is_mix : FuncData := fF s_is_mix "is_mix" "is_mix" (vS "sandpipe.limits" 187) 34
noncomputable def d_is_width : FuncData := fF s_is_width "is_width" "is_width" (vS "sandpipe.limits" 187) 41
noncomputable def d_is_piece : FuncData := fF s_is_piece "is_piece" "is_piece" (vS "sandpipe.limits" 187) 48
noncomputable def d_lost : FuncData := fF s_lost "lost" "lost" (vS "sandpipe.measures" 240) 55
noncomputable def d_lifted : FuncData := fF s_lifted "lifted" "lifted" (vS "sandpipe.measures" 240) 62
noncomputable def d_given : FuncData := fF s_given "given" "given" (vS "sandpipe.measures" 240) 69
noncomputable def d_settling_speed : FuncData := fF s_settling_speed "settling_speed" "settling_speed" (vS "sandpipe.measures" 240) 76
noncomputable def d_given_at_joint : FuncData := fF s_given_at_joint "given_at_joint" "given_at_joint" (vS "sandpipe.measures" 240) 81
noncomputable def d_joint_pressures : FuncData := fF s_joint_pressures "joint_pressures" "joint_pressures" (vS "sandpipe.measures" 240) 88
noncomputable def d_settling_pieces : FuncData := fF s_settling_pieces "settling_pieces" "settling_pieces" (vS "sandpipe.measures" 240) 93
noncomputable def d_hindrance : FuncData := fF s_hindrance "hindrance" "hindrance" (vS "sandpipe.measures" 240) 100
noncomputable def d_goes_at : FuncData := fF s_goes_at "goes_at" "goes_at" (vS "sandpipe.measures" 240) 107
noncomputable def d_litres : FuncData := fF s_litres "litres" "litres" (vS "sandpipe.measures" 240) 112
noncomputable def d_loses : FuncData := fF s_loses "loses" "loses" (vS "sandpipe.asking" 361) 119
noncomputable def d_settles : FuncData := fF s_settles "settles" "settles" (vS "sandpipe.asking" 361) 126
noncomputable def d_gives : FuncData := fF s_gives "gives" "gives" (vS "sandpipe.asking" 361) 133
noncomputable def d_pressures : FuncData := fF s_pressures "pressures" "pressures" (vS "sandpipe.asking" 361) 140
noncomputable def d_goes : FuncData := fF s_goes "goes" "goes" (vS "sandpipe.asking" 361) 147
noncomputable def d_slowest : FuncData := fF s_slowest "slowest" "slowest" (vS "sandpipe.asking" 361) 154
noncomputable def d_fastest : FuncData := fF s_fastest "fastest" "fastest" (vS "sandpipe.asking" 361) 161
noncomputable def d_why : FuncData := fF s_why "why" "why" (vS "sandpipe.asking" 361) 168
noncomputable def d_blocks : FuncData := fF s_blocks "blocks" "blocks" (vS "sandpipe.asking" 361) 175
noncomputable def d_least : FuncData := fF s_least "least" "least" (vS "sandpipe.asking" 361) 182
noncomputable def d_most : FuncData := fF s_most "most" "most" (vS "sandpipe.asking" 361) 189
noncomputable def d_spare : FuncData := fF s_spare "spare" "spare" (vS "sandpipe.asking" 361) 196
noncomputable def d_flow : FuncData := fF s_flow "flow" "flow" (vS "sandpipe.asking" 361) 203
noncomputable def d_look : FuncData := fF s_look "look" "look" (vS "sandpipe.asking" 361) 208
noncomputable def d_state : FuncData := fF s_state "state" "state" (vS "sandpipe.asking" 361) 213
noncomputable def d_Piece__init__ : FuncData := fF s_Piece__init__ "__init__" "Piece.__init__" (vS "sandpipe.parts" 489) 227
noncomputable def d_Pump__init__ : FuncData := fF s_Pump__init__ "__init__" "Pump.__init__" (vS "sandpipe.parts" 489) 248
noncomputable def d_Pipe__init__ : FuncData := fF s_Pipe__init__ "__init__" "Pipe.__init__" (vS "sandpipe.parts" 489) 269
noncomputable def d_copied : FuncData := fF s_copied "copied" "copied" (vS "sandpipe.parts" 489) 283
noncomputable def d_begin : FuncData := fF s_begin "begin" "begin" (vS "sandpipe.building" 599) 290
noncomputable def d_add_piece : FuncData := fF s_add_piece "add_piece" "add_piece" (vS "sandpipe.building" 599) 297
noncomputable def d_add_pump : FuncData := fF s_add_pump "add_pump" "add_pump" (vS "sandpipe.building" 599) 304
noncomputable def d_switch_pump : FuncData := fF s_switch_pump "switch_pump" "switch_pump" (vS "sandpipe.building" 599) 311
noncomputable def d_change_mix : FuncData := fF s_change_mix "change_mix" "change_mix" (vS "sandpipe.building" 599) 318
noncomputable def d_change_grain : FuncData := fF s_change_grain "change_grain" "change_grain" (vS "sandpipe.building" 599) 325
noncomputable def d_cut_piece : FuncData := fF s_cut_piece "cut_piece" "cut_piece" (vS "sandpipe.building" 599) 332
noncomputable def d_with_choice : FuncData := fF s_with_choice "with_choice" "with_choice" (vS "sandpipe.planning" 670) 339
noncomputable def d_choice_count : FuncData := fF s_choice_count "choice_count" "choice_count" (vS "sandpipe.planning" 670) 346
noncomputable def d_running_count : FuncData := fF s_running_count "running_count" "running_count" (vS "sandpipe.planning" 670) 351
noncomputable def d_fewest : FuncData := fF s_fewest "fewest" "fewest" (vS "sandpipe.planning" 670) 358
noncomputable def d_richest : FuncData := fF s_richest "richest" "richest" (vS "sandpipe.planning" 670) 365
noncomputable def d_goes_with : FuncData := fF s_goes_with "goes_with" "goes_with" (vS "sandpipe.planning" 670) 372
noncomputable def d_longest_that_goes : FuncData := fF s_longest_that_goes "longest_that_goes" "longest_that_goes" (vS "sandpipe.planning" 670) 379
noncomputable def d_farther : FuncData := fF s_farther "farther" "farther" (vS "sandpipe.planning" 670) 386
noncomputable def d_answer_change : FuncData := fF s_answer_change "answer_change" "answer_change" (vS "sandpipe.pipe" 754) 394
noncomputable def d_answer_measure : FuncData := fF s_answer_measure "answer_measure" "answer_measure" (vS "sandpipe.pipe" 754) 401
noncomputable def d_answer_by_speed : FuncData := fF s_answer_by_speed "answer_by_speed" "answer_by_speed" (vS "sandpipe.pipe" 754) 408
noncomputable def d_answer_rest : FuncData := fF s_answer_rest "answer_rest" "answer_rest" (vS "sandpipe.pipe" 754) 415
noncomputable def d_answer_call : FuncData := fF s_answer_call "answer_call" "answer_call" (vS "sandpipe.pipe" 754) 422
noncomputable def d_answers : FuncData := fF s_answers "answers" "answers" (vS "sandpipe.pipe" 754) 429
noncomputable def ob_3 (P : Params) : Obj := { cls := .type "dict", data := .dict #[eS P "__name__" 165 (vS "sandpipe.pipe" 754), eS P "__doc__" 166 .none, eS P "__package__" 167 .none, eS P "__loader__" 168 (.builtin "__main__.__loader__#opaque"), eS P "__spec__" 169 .none, eS P "__annotations__" 170 (.ref 6), eS P "__builtins__" 171 (.ref 4), eS P "__file__" 173 (vS "/claim/cut.py" 172), eS P "__cached__" 174 .none, eS P "LEAST_SPEED" 190 (.int 1 189), eS P "MOST_SPEED" 192 (.int 99 191), eS P "MOST_MIX" 194 (.int 40 193), eS P "SHORTEST" 196 (.int 1 195), eS P "LONGEST" 198 (.int 3000 197), eS P "MOST_PIECES" 200 (.int 8 199), eS P "MOST_PUMPS" 202 (.int 6 201), eS P "is_speed" 209 (.ref 21), eS P "is_grain" 216 (.ref 28), eS P "is_mix" 223 (.ref 35), eS P "is_width" 230 (.ref 42), eS P "is_piece" 239 (.ref 49), eS P "NOTHING" 243 (.int 0 242), eS P "SETTLES" 245 (.int 1 244), eS P "TOO_LITTLE" 247 (.int 2 246), eS P "TOO_MUCH" 249 (.int 3 248), eS P "END_BELOW_0" 251 (.int 4 250), eS P "lost" 262 (.ref 56), eS P "lifted" 270 (.ref 63), eS P "given" 278 (.ref 70), eS P "settling_speed" 286 (.ref 77), eS P "given_at_joint" 292 (.ref 82), eS P "joint_pressures" 304 (.ref 89), eS P "settling_pieces" 310 (.ref 94), eS P "hindrance" 322 (.ref 101), eS P "goes_at" 330 (.ref 108), eS P "litres" 336 (.ref 113), eS P "NO_SUCH" 339 (.int (-2) 338), eS P "NONE_THERE" 342 (.int (-6) 341), eS P "NOT_BEGUN" 345 (.int (-11) 344), eS P "PUMP_THERE" 348 (.int (-16) 347), eS P "ALREADY" 351 (.int (-17) 350), eS P "OUT_OF_RANGE" 354 (.int (-22) 353), eS P "TOO_MANY" 357 (.int (-28) 356), eS P "DOES_NOT_GO" 360 (.int (-33) 359), eS P "loses" 372 (.ref 120), eS P "settles" 380 (.ref 127), eS P "gives" 389 (.ref 134), eS P "pressures" 398 (.ref 141), eS P "goes" 406 (.ref 148), eS P "slowest" 414 (.ref 155), eS P "fastest" 422 (.ref 162), eS P "why" 430 (.ref 169), eS P "blocks" 439 (.ref 176), eS P "least" 449 (.ref 183), eS P "most" 459 (.ref 190), eS P "spare" 467 (.ref 197), eS P "flow" 476 (.ref 204), eS P "look" 482 (.ref 209), eS P "state" 488 (.ref 214), eS P "Piece" 523 (.ref 231), eS P "Pump" 556 (.ref 252), eS P "Pipe" 590 (.ref 273), eS P "copied" 598 (.ref 284), eS P "begin" 611 (.ref 291), eS P "add_piece" 622 (.ref 298), eS P "add_pump" 632 (.ref 305), eS P "switch_pump" 642 (.ref 312), eS P "change_mix" 651 (.ref 319), eS P "change_grain" 660 (.ref 326), eS P "cut_piece" 669 (.ref 333), eS P "with_choice" 683 (.ref 340), eS P "choice_count" 692 (.ref 347), eS P "running_count" 698 (.ref 352), eS P "fewest" 711 (.ref 359), eS P "richest" 721 (.ref 366), eS P "goes_with" 732 (.ref 373), eS P "longest_that_goes" 744 (.ref 380), eS P "farther" 753 (.ref 387), eS P "ARGUMENT_COUNTS" 781 (.ref 388), eS P "LAST_CHANGE" 783 (.int 6 782), eS P "LAST_MEASURE" 785 (.int 13 784), eS P "LAST_BY_SPEED" 787 (.int 20 786), eS P "answer_change" 796 (.ref 395), eS P "answer_measure" 805 (.ref 402), eS P "answer_by_speed" 814 (.ref 409), eS P "answer_rest" 823 (.ref 416), eS P "answer_call" 832 (.ref 423), eS P "answers" 845 (.ref 430)] 88 }
noncomputable def ob_20 (P : Params) : Obj := { cls := .type "code", data := .fields #[vS "is_speed" 203, vS "is_speed" 204, vS "/claim/cut.py" 205, .int 9 0, .int 1 0, .int 0 0, .int 0 0, .int 3 0, .ref 15, .bool true, .int 181 0, .ref 16, .none, .ref 17, .ref 18, .ref 19, .int 207 0, .int 9 0, vS "/claim/cut.py" 208] }
noncomputable def ob_27 (P : Params) : Obj := { cls := .type "code", data := .fields #[vS "is_grain" 210, vS "is_grain" 211, vS "/claim/cut.py" 212, .int 11 0, .int 1 0, .int 0 0, .int 0 0, .int 3 0, .ref 22, .bool true, .int 181 0, .ref 23, .none, .ref 24, .ref 25, .ref 26, .int 214 0, .int 11 0, vS "/claim/cut.py" 215] }
noncomputable def ob_34 (P : Params) : Obj := { cls := .type "code", data := .fields #[vS "is_mix" 217, vS "is_mix" 218, vS "/claim/cut.py" 219, .int 13 0, .int 1 0, .int 0 0, .int 0 0, .int 3 0, .ref 29, .bool true, .int 181 0, .ref 30, .none, .ref 31, .ref 32, .ref 33, .int 221 0, .int 13 0, vS "/claim/cut.py" 222] }
noncomputable def ob_41 (P : Params) : Obj := { cls := .type "code", data := .fields #[vS "is_width" 224, vS "is_width" 225, vS "/claim/cut.py" 226, .int 15 0, .int 1 0, .int 0 0, .int 0 0, .int 3 0, .ref 36, .bool true, .int 181 0, .ref 37, .none, .ref 38, .ref 39, .ref 40, .int 228 0, .int 15 0, vS "/claim/cut.py" 229] }
noncomputable def ob_48 (P : Params) : Obj := { cls := .type "code", data := .fields #[vS "is_piece" 231, vS "is_piece" 232, vS "/claim/cut.py" 233, .int 17 0, .int 3 0, .int 0 0, .int 0 0, .int 3 0, .ref 43, .bool true, .int 181 0, .ref 44, .none, .ref 45, .ref 46, .ref 47, .int 237 0, .int 17 0, vS "/claim/cut.py" 238] }
noncomputable def ob_55 (P : Params) : Obj := { cls := .type "code", data := .fields #[vS "lost" 252, vS "lost" 253, vS "/claim/cut.py" 254, .int 25 0, .int 3 0, .int 0 0, .int 0 0, .int 3 0, .ref 50, .bool true, .int 181 0, .ref 51, .none, .ref 52, .ref 53, .ref 54, .int 260 0, .int 25 0, vS "/claim/cut.py" 261] }
noncomputable def ob_62 (P : Params) : Obj := { cls := .type "code", data := .fields #[vS "lifted" 263, vS "lifted" 264, vS "/claim/cut.py" 265, .int 29 0, .int 2 0, .int 0 0, .int 0 0, .int 3 0, .ref 57, .bool true, .int 181 0, .ref 58, .none, .ref 59, .ref 60, .ref 61, .int 268 0, .int 29 0, vS "/claim/cut.py" 269] }
noncomputable def ob_69 (P : Params) : Obj := { cls := .type "code", data := .fields #[vS "given" 271, vS "given" 272, vS "/claim/cut.py" 273, .int 31 0, .int 2 0, .int 0 0, .int 0 0, .int 3 0, .ref 64, .bool true, .int 181 0, .ref 65, .none, .ref 66, .ref 67, .ref 68, .int 276 0, .int 31 0, vS "/claim/cut.py" 277] }
noncomputable def ob_76 (P : Params) : Obj := { cls := .type "code", data := .fields #[vS "settling_speed" 279, vS "settling_speed" 280, vS "/claim/cut.py" 281, .int 35 0, .int 2 0, .int 0 0, .int 0 0, .int 3 0, .ref 71, .bool true, .int 181 0, .ref 72, .none, .ref 73, .ref 74, .ref 75, .int 284 0, .int 35 0, vS "/claim/cut.py" 285] }
noncomputable def ob_81 (P : Params) : Obj := { cls := .type "code", data := .fields #[vS "given_at_joint" 287, vS "given_at_joint" 288, vS "/claim/cut.py" 289, .int 37 0, .int 3 0, .int 0 0, .int 0 0, .int 3 0, .ref 78, .bool true, .int 181 0, .ref 79, .none, .none, .none, .ref 80, .int 290 0, .int 37 0, vS "/claim/cut.py" 291] }
noncomputable def ob_88 (P : Params) : Obj := { cls := .type "code", data := .fields #[vS "joint_pressures" 293, vS "joint_pressures" 294, vS "/claim/cut.py" 295, .int 39 0, .int 2 0, .int 0 0, .int 0 0, .int 3 0, .ref 83, .bool true, .int 181 0, .ref 84, .none, .ref 85, .ref 86, .ref 87, .int 302 0, .int 39 0, vS "/claim/cut.py" 303] }
noncomputable def ob_93 (P : Params) : Obj := { cls := .type "code", data := .fields #[vS "settling_pieces" 305, vS "settling_pieces" 306, vS "/claim/cut.py" 307, .int 48 0, .int 2 0, .int 0 0, .int 0 0, .int 3 0, .ref 90, .bool true, .int 181 0, .ref 91, .none, .none, .none, .ref 92, .int 308 0, .int 48 0, vS "/claim/cut.py" 309] }
noncomputable def ob_100 (P : Params) : Obj := { cls := .type "code", data := .fields #[vS "hindrance" 311, vS "hindrance" 312, vS "/claim/cut.py" 313, .int 50 0, .int 2 0, .int 0 0, .int 0 0, .int 3 0, .ref 95, .bool true, .int 181 0, .ref 96, .none, .ref 97, .ref 98, .ref 99, .int 320 0, .int 50 0, vS "/claim/cut.py" 321] }
noncomputable def ob_107 (P : Params) : Obj := { cls := .type "code", data := .fields #[vS "goes_at" 323, vS "goes_at" 324, vS "/claim/cut.py" 325, .int 65 0, .int 2 0, .int 0 0, .int 0 0, .int 3 0, .ref 102, .bool true, .int 181 0, .ref 103, .none, .ref 104, .ref 105, .ref 106, .int 328 0, .int 65 0, vS "/claim/cut.py" 329] }
noncomputable def ob_112 (P : Params) : Obj := { cls := .type "code", data := .fields #[vS "litres" 331, vS "litres" 332, vS "/claim/cut.py" 333, .int 67 0, .int 2 0, .int 0 0, .int 0 0, .int 3 0, .ref 109, .bool true, .int 181 0, .ref 110, .none, .none, .none, .ref 111, .int 334 0, .int 67 0, vS "/claim/cut.py" 335] }
noncomputable def ob_119 (P : Params) : Obj := { cls := .type "code", data := .fields #[vS "loses" 363, vS "loses" 364, vS "/claim/cut.py" 365, .int 79 0, .int 3 0, .int 0 0, .int 0 0, .int 3 0, .ref 114, .bool true, .int 181 0, .ref 115, .none, .ref 116, .ref 117, .ref 118, .int 370 0, .int 79 0, vS "/claim/cut.py" 371] }
noncomputable def ob_126 (P : Params) : Obj := { cls := .type "code", data := .fields #[vS "settles" 373, vS "settles" 374, vS "/claim/cut.py" 375, .int 86 0, .int 2 0, .int 0 0, .int 0 0, .int 3 0, .ref 121, .bool true, .int 181 0, .ref 122, .none, .ref 123, .ref 124, .ref 125, .int 378 0, .int 86 0, vS "/claim/cut.py" 379] }
noncomputable def ob_133 (P : Params) : Obj := { cls := .type "code", data := .fields #[vS "gives" 381, vS "gives" 382, vS "/claim/cut.py" 383, .int 90 0, .int 3 0, .int 0 0, .int 0 0, .int 3 0, .ref 128, .bool true, .int 181 0, .ref 129, .none, .ref 130, .ref 131, .ref 132, .int 387 0, .int 90 0, vS "/claim/cut.py" 388] }
noncomputable def ob_140 (P : Params) : Obj := { cls := .type "code", data := .fields #[vS "pressures" 390, vS "pressures" 391, vS "/claim/cut.py" 392, .int 96 0, .int 2 0, .int 0 0, .int 0 0, .int 3 0, .ref 135, .bool true, .int 181 0, .ref 136, .none, .ref 137, .ref 138, .ref 139, .int 396 0, .int 96 0, vS "/claim/cut.py" 397] }
noncomputable def ob_147 (P : Params) : Obj := { cls := .type "code", data := .fields #[vS "goes" 399, vS "goes" 400, vS "/claim/cut.py" 401, .int 101 0, .int 2 0, .int 0 0, .int 0 0, .int 3 0, .ref 142, .bool true, .int 181 0, .ref 143, .none, .ref 144, .ref 145, .ref 146, .int 404 0, .int 101 0, vS "/claim/cut.py" 405] }
noncomputable def ob_154 (P : Params) : Obj := { cls := .type "code", data := .fields #[vS "slowest" 407, vS "slowest" 408, vS "/claim/cut.py" 409, .int 105 0, .int 1 0, .int 0 0, .int 0 0, .int 3 0, .ref 149, .bool true, .int 181 0, .ref 150, .none, .ref 151, .ref 152, .ref 153, .int 412 0, .int 105 0, vS "/claim/cut.py" 413] }
noncomputable def ob_161 (P : Params) : Obj := { cls := .type "code", data := .fields #[vS "fastest" 415, vS "fastest" 416, vS "/claim/cut.py" 417, .int 110 0, .int 1 0, .int 0 0, .int 0 0, .int 3 0, .ref 156, .bool true, .int 181 0, .ref 157, .none, .ref 158, .ref 159, .ref 160, .int 420 0, .int 110 0, vS "/claim/cut.py" 421] }
noncomputable def ob_168 (P : Params) : Obj := { cls := .type "code", data := .fields #[vS "why" 423, vS "why" 424, vS "/claim/cut.py" 425, .int 115 0, .int 2 0, .int 0 0, .int 0 0, .int 3 0, .ref 163, .bool true, .int 181 0, .ref 164, .none, .ref 165, .ref 166, .ref 167, .int 428 0, .int 115 0, vS "/claim/cut.py" 429] }
noncomputable def ob_175 (P : Params) : Obj := { cls := .type "code", data := .fields #[vS "blocks" 431, vS "blocks" 432, vS "/claim/cut.py" 433, .int 119 0, .int 2 0, .int 0 0, .int 0 0, .int 3 0, .ref 170, .bool true, .int 181 0, .ref 171, .none, .ref 172, .ref 173, .ref 174, .int 437 0, .int 119 0, vS "/claim/cut.py" 438] }
noncomputable def ob_182 (P : Params) : Obj := { cls := .type "code", data := .fields #[vS "least" 440, vS "least" 441, vS "/claim/cut.py" 442, .int 124 0, .int 2 0, .int 0 0, .int 0 0, .int 3 0, .ref 177, .bool true, .int 181 0, .ref 178, .none, .ref 179, .ref 180, .ref 181, .int 447 0, .int 124 0, vS "/claim/cut.py" 448] }
noncomputable def ob_189 (P : Params) : Obj := { cls := .type "code", data := .fields #[vS "most" 450, vS "most" 451, vS "/claim/cut.py" 452, .int 130 0, .int 2 0, .int 0 0, .int 0 0, .int 3 0, .ref 184, .bool true, .int 181 0, .ref 185, .none, .ref 186, .ref 187, .ref 188, .int 457 0, .int 130 0, vS "/claim/cut.py" 458] }
noncomputable def ob_196 (P : Params) : Obj := { cls := .type "code", data := .fields #[vS "spare" 460, vS "spare" 461, vS "/claim/cut.py" 462, .int 136 0, .int 2 0, .int 0 0, .int 0 0, .int 3 0, .ref 191, .bool true, .int 181 0, .ref 192, .none, .ref 193, .ref 194, .ref 195, .int 465 0, .int 136 0, vS "/claim/cut.py" 466] }
noncomputable def ob_203 (P : Params) : Obj := { cls := .type "code", data := .fields #[vS "flow" 468, vS "flow" 469, vS "/claim/cut.py" 470, .int 142 0, .int 2 0, .int 0 0, .int 0 0, .int 3 0, .ref 198, .bool true, .int 181 0, .ref 199, .none, .ref 200, .ref 201, .ref 202, .int 474 0, .int 142 0, vS "/claim/cut.py" 475] }
noncomputable def ob_208 (P : Params) : Obj := { cls := .type "code", data := .fields #[vS "look" 477, vS "look" 478, vS "/claim/cut.py" 479, .int 149 0, .int 2 0, .int 0 0, .int 0 0, .int 3 0, .ref 205, .bool true, .int 181 0, .ref 206, .none, .none, .none, .ref 207, .int 480 0, .int 149 0, vS "/claim/cut.py" 481] }
noncomputable def ob_213 (P : Params) : Obj := { cls := .type "code", data := .fields #[vS "state" 483, vS "state" 484, vS "/claim/cut.py" 485, .int 155 0, .int 1 0, .int 0 0, .int 0 0, .int 3 0, .ref 210, .bool true, .int 181 0, .ref 211, .none, .none, .none, .ref 212, .int 486 0, .int 155 0, vS "/claim/cut.py" 487] }
noncomputable def ob_217 (P : Params) : Obj := { cls := .type "dict", data := .dict #[eS P "__module__" 498 (vS "sandpipe.parts" 489), eS P "__qualname__" 500 (vS "Piece" 499), eS P "__firstlineno__" 502 (.int 159 501), eS P "__init__" 512 (.ref 228), eS P "__static_attributes__" 516 (.ref 229)] 5 }
noncomputable def ob_227 (P : Params) : Obj := { cls := .type "code", data := .fields #[vS "__init__" 503, vS "Piece.__init__" 504, vS "/claim/cut.py" 505, .int 161 0, .int 4 0, .int 0 0, .int 0 0, .int 3 0, .ref 222, .bool true, .int 181 0, .ref 223, .none, .ref 224, .ref 225, .ref 226, .int 510 0, .int 161 0, vS "/claim/cut.py" 511] }
noncomputable def ob_230 (P : Params) : Obj := { cls := .type "dict", data := .dict #[eS P "__module__" 498 (vS "sandpipe.parts" 489), eS P "__firstlineno__" 502 (.int 159 501), eS P "__init__" 512 (.ref 228), eS P "__static_attributes__" 516 (.ref 229), eS P "__dict__" 518 (.ref 232), eS P "__weakref__" 520 (.ref 233), eS P "__doc__" 521 .none] 4 }
noncomputable def ob_231 (P : Params) : Obj := { cls := .type "type", data := .cls { name := Str.ofString "Piece", bases := [.type "object"], mro := [.ref 231, .type "object"], ns := 230, qualname := Str.ofString "Piece" }, slots := #[none, none, some (vS "Piece" 491), some (vS "Piece" 499), some (.builtin "object.__new__"), some (.bool true)] }
noncomputable def ob_238 (P : Params) : Obj := { cls := .type "dict", data := .dict #[eS P "__module__" 531 (vS "sandpipe.parts" 489), eS P "__qualname__" 533 (vS "Pump" 532), eS P "__firstlineno__" 535 (.int 165 534), eS P "__init__" 545 (.ref 249), eS P "__static_attributes__" 549 (.ref 250)] 5 }
noncomputable def ob_248 (P : Params) : Obj := { cls := .type "code", data := .fields #[vS "__init__" 536, vS "Pump.__init__" 537, vS "/claim/cut.py" 538, .int 167 0, .int 4 0, .int 0 0, .int 0 0, .int 3 0, .ref 243, .bool true, .int 181 0, .ref 244, .none, .ref 245, .ref 246, .ref 247, .int 543 0, .int 167 0, vS "/claim/cut.py" 544] }
noncomputable def ob_251 (P : Params) : Obj := { cls := .type "dict", data := .dict #[eS P "__module__" 531 (vS "sandpipe.parts" 489), eS P "__firstlineno__" 535 (.int 165 534), eS P "__init__" 545 (.ref 249), eS P "__static_attributes__" 549 (.ref 250), eS P "__dict__" 551 (.ref 253), eS P "__weakref__" 553 (.ref 254), eS P "__doc__" 554 .none] 4 }
noncomputable def ob_252 (P : Params) : Obj := { cls := .type "type", data := .cls { name := Str.ofString "Pump", bases := [.type "object"], mro := [.ref 252, .type "object"], ns := 251, qualname := Str.ofString "Pump" }, slots := #[none, none, some (vS "Pump" 524), some (vS "Pump" 532), some (.builtin "object.__new__"), some (.bool true)] }
noncomputable def ob_259 (P : Params) : Obj := { cls := .type "dict", data := .dict #[eS P "__module__" 564 (vS "sandpipe.parts" 489), eS P "__qualname__" 566 (vS "Pipe" 565), eS P "__firstlineno__" 568 (.int 171 567), eS P "__init__" 575 (.ref 270), eS P "__static_attributes__" 583 (.ref 271)] 5 }
noncomputable def ob_269 (P : Params) : Obj := { cls := .type "code", data := .fields #[vS "__init__" 569, vS "Pipe.__init__" 570, vS "/claim/cut.py" 571, .int 173 0, .int 1 0, .int 0 0, .int 0 0, .int 3 0, .ref 264, .bool true, .int 181 0, .ref 265, .none, .ref 266, .ref 267, .ref 268, .int 573 0, .int 173 0, vS "/claim/cut.py" 574] }
noncomputable def ob_272 (P : Params) : Obj := { cls := .type "dict", data := .dict #[eS P "__module__" 564 (vS "sandpipe.parts" 489), eS P "__firstlineno__" 568 (.int 171 567), eS P "__init__" 575 (.ref 270), eS P "__static_attributes__" 583 (.ref 271), eS P "__dict__" 585 (.ref 274), eS P "__weakref__" 587 (.ref 275), eS P "__doc__" 588 .none] 4 }
noncomputable def ob_273 (P : Params) : Obj := { cls := .type "type", data := .cls { name := Str.ofString "Pipe", bases := [.type "object"], mro := [.ref 273, .type "object"], ns := 272, qualname := Str.ofString "Pipe" }, slots := #[none, none, some (vS "Pipe" 557), some (vS "Pipe" 565), some (.builtin "object.__new__"), some (.bool true)] }
noncomputable def ob_283 (P : Params) : Obj := { cls := .type "code", data := .fields #[vS "copied" 591, vS "copied" 592, vS "/claim/cut.py" 593, .int 181 0, .int 1 0, .int 0 0, .int 0 0, .int 3 0, .ref 278, .bool true, .int 181 0, .ref 279, .none, .ref 280, .ref 281, .ref 282, .int 596 0, .int 181 0, vS "/claim/cut.py" 597] }
noncomputable def ob_290 (P : Params) : Obj := { cls := .type "code", data := .fields #[vS "begin" 601, vS "begin" 602, vS "/claim/cut.py" 603, .int 192 0, .int 5 0, .int 0 0, .int 0 0, .int 3 0, .ref 285, .bool true, .int 181 0, .ref 286, .none, .ref 287, .ref 288, .ref 289, .int 609 0, .int 192 0, vS "/claim/cut.py" 610] }
noncomputable def ob_297 (P : Params) : Obj := { cls := .type "code", data := .fields #[vS "add_piece" 612, vS "add_piece" 613, vS "/claim/cut.py" 614, .int 205 0, .int 4 0, .int 0 0, .int 0 0, .int 3 0, .ref 292, .bool true, .int 181 0, .ref 293, .none, .ref 294, .ref 295, .ref 296, .int 620 0, .int 205 0, vS "/claim/cut.py" 621] }
noncomputable def ob_304 (P : Params) : Obj := { cls := .type "code", data := .fields #[vS "add_pump" 623, vS "add_pump" 624, vS "/claim/cut.py" 625, .int 213 0, .int 3 0, .int 0 0, .int 0 0, .int 3 0, .ref 299, .bool true, .int 181 0, .ref 300, .none, .ref 301, .ref 302, .ref 303, .int 630 0, .int 213 0, vS "/claim/cut.py" 631] }
noncomputable def ob_311 (P : Params) : Obj := { cls := .type "code", data := .fields #[vS "switch_pump" 633, vS "switch_pump" 634, vS "/claim/cut.py" 635, .int 223 0, .int 3 0, .int 0 0, .int 0 0, .int 3 0, .ref 306, .bool true, .int 181 0, .ref 307, .none, .ref 308, .ref 309, .ref 310, .int 640 0, .int 223 0, vS "/claim/cut.py" 641] }
noncomputable def ob_318 (P : Params) : Obj := { cls := .type "code", data := .fields #[vS "change_mix" 643, vS "change_mix" 644, vS "/claim/cut.py" 645, .int 233 0, .int 2 0, .int 0 0, .int 0 0, .int 3 0, .ref 313, .bool true, .int 181 0, .ref 314, .none, .ref 315, .ref 316, .ref 317, .int 649 0, .int 233 0, vS "/claim/cut.py" 650] }
noncomputable def ob_325 (P : Params) : Obj := { cls := .type "code", data := .fields #[vS "change_grain" 652, vS "change_grain" 653, vS "/claim/cut.py" 654, .int 239 0, .int 2 0, .int 0 0, .int 0 0, .int 3 0, .ref 320, .bool true, .int 181 0, .ref 321, .none, .ref 322, .ref 323, .ref 324, .int 658 0, .int 239 0, vS "/claim/cut.py" 659] }
noncomputable def ob_332 (P : Params) : Obj := { cls := .type "code", data := .fields #[vS "cut_piece" 661, vS "cut_piece" 662, vS "/claim/cut.py" 663, .int 245 0, .int 1 0, .int 0 0, .int 0 0, .int 3 0, .ref 327, .bool true, .int 181 0, .ref 328, .none, .ref 329, .ref 330, .ref 331, .int 667 0, .int 245 0, vS "/claim/cut.py" 668] }
noncomputable def ob_339 (P : Params) : Obj := { cls := .type "code", data := .fields #[vS "with_choice" 672, vS "with_choice" 673, vS "/claim/cut.py" 674, .int 255 0, .int 2 0, .int 0 0, .int 0 0, .int 3 0, .ref 334, .bool true, .int 181 0, .ref 335, .none, .ref 336, .ref 337, .ref 338, .int 681 0, .int 255 0, vS "/claim/cut.py" 682] }
noncomputable def ob_346 (P : Params) : Obj := { cls := .type "code", data := .fields #[vS "choice_count" 684, vS "choice_count" 685, vS "/claim/cut.py" 686, .int 264 0, .int 1 0, .int 0 0, .int 0 0, .int 3 0, .ref 341, .bool true, .int 181 0, .ref 342, .none, .ref 343, .ref 344, .ref 345, .int 690 0, .int 264 0, vS "/claim/cut.py" 691] }
noncomputable def ob_351 (P : Params) : Obj := { cls := .type "code", data := .fields #[vS "running_count" 693, vS "running_count" 694, vS "/claim/cut.py" 695, .int 269 0, .int 1 0, .int 0 0, .int 0 0, .int 3 0, .ref 348, .bool true, .int 181 0, .ref 349, .none, .none, .none, .ref 350, .int 696 0, .int 269 0, vS "/claim/cut.py" 697] }
noncomputable def ob_358 (P : Params) : Obj := { cls := .type "code", data := .fields #[vS "fewest" 699, vS "fewest" 700, vS "/claim/cut.py" 701, .int 271 0, .int 2 0, .int 0 0, .int 0 0, .int 3 0, .ref 353, .bool true, .int 181 0, .ref 354, .none, .ref 355, .ref 356, .ref 357, .int 709 0, .int 271 0, vS "/claim/cut.py" 710] }
noncomputable def ob_365 (P : Params) : Obj := { cls := .type "code", data := .fields #[vS "richest" 712, vS "richest" 713, vS "/claim/cut.py" 714, .int 283 0, .int 2 0, .int 0 0, .int 0 0, .int 3 0, .ref 360, .bool true, .int 181 0, .ref 361, .none, .ref 362, .ref 363, .ref 364, .int 719 0, .int 283 0, vS "/claim/cut.py" 720] }
noncomputable def ob_372 (P : Params) : Obj := { cls := .type "code", data := .fields #[vS "goes_with" 722, vS "goes_with" 723, vS "/claim/cut.py" 724, .int 292 0, .int 4 0, .int 0 0, .int 0 0, .int 3 0, .ref 367, .bool true, .int 181 0, .ref 368, .none, .ref 369, .ref 370, .ref 371, .int 730 0, .int 292 0, vS "/claim/cut.py" 731] }
noncomputable def ob_379 (P : Params) : Obj := { cls := .type "code", data := .fields #[vS "longest_that_goes" 733, vS "longest_that_goes" 734, vS "/claim/cut.py" 735, .int 296 0, .int 3 0, .int 0 0, .int 0 0, .int 3 0, .ref 374, .bool true, .int 181 0, .ref 375, .none, .ref 376, .ref 377, .ref 378, .int 742 0, .int 296 0, vS "/claim/cut.py" 743] }
noncomputable def ob_386 (P : Params) : Obj := { cls := .type "code", data := .fields #[vS "farther" 745, vS "farther" 746, vS "/claim/cut.py" 747, .int 306 0, .int 3 0, .int 0 0, .int 0 0, .int 3 0, .ref 381, .bool true, .int 181 0, .ref 382, .none, .ref 383, .ref 384, .ref 385, .int 751 0, .int 306 0, vS "/claim/cut.py" 752] }
noncomputable def ob_388 (P : Params) : Obj := { cls := .type "tuple", data := .seq #[.int 4 756, .int 3 757, .int 2 758, .int 2 759, .int 1 760, .int 1 761, .int 0 762, .int 2 763, .int 1 764, .int 2 765, .int 1 766, .int 1 767, .int 0 768, .int 0 769, .int 1 770, .int 1 771, .int 1 772, .int 1 773, .int 1 774, .int 1 775, .int 1 776, .int 2 777, .int 1 778, .int 1 779, .int 0 780] }
noncomputable def ob_394 (P : Params) : Obj := { cls := .type "code", data := .fields #[vS "answer_change" 788, vS "answer_change" 789, vS "/claim/cut.py" 790, .int 319 0, .int 3 0, .int 0 0, .int 0 0, .int 3 0, .ref 389, .bool true, .int 181 0, .ref 390, .none, .ref 391, .ref 392, .ref 393, .int 794 0, .int 319 0, vS "/claim/cut.py" 795] }
noncomputable def ob_401 (P : Params) : Obj := { cls := .type "code", data := .fields #[vS "answer_measure" 797, vS "answer_measure" 798, vS "/claim/cut.py" 799, .int 331 0, .int 3 0, .int 0 0, .int 0 0, .int 3 0, .ref 396, .bool true, .int 181 0, .ref 397, .none, .ref 398, .ref 399, .ref 400, .int 803 0, .int 331 0, vS "/claim/cut.py" 804] }
noncomputable def ob_408 (P : Params) : Obj := { cls := .type "code", data := .fields #[vS "answer_by_speed" 806, vS "answer_by_speed" 807, vS "/claim/cut.py" 808, .int 345 0, .int 3 0, .int 0 0, .int 0 0, .int 3 0, .ref 403, .bool true, .int 181 0, .ref 404, .none, .ref 405, .ref 406, .ref 407, .int 812 0, .int 345 0, vS "/claim/cut.py" 813] }
noncomputable def ob_415 (P : Params) : Obj := { cls := .type "code", data := .fields #[vS "answer_rest" 815, vS "answer_rest" 816, vS "/claim/cut.py" 817, .int 359 0, .int 3 0, .int 0 0, .int 0 0, .int 3 0, .ref 410, .bool true, .int 181 0, .ref 411, .none, .ref 412, .ref 413, .ref 414, .int 821 0, .int 359 0, vS "/claim/cut.py" 822] }
noncomputable def ob_422 (P : Params) : Obj := { cls := .type "code", data := .fields #[vS "answer_call" 824, vS "answer_call" 825, vS "/claim/cut.py" 826, .int 367 0, .int 3 0, .int 0 0, .int 0 0, .int 3 0, .ref 417, .bool true, .int 181 0, .ref 418, .none, .ref 419, .ref 420, .ref 421, .int 830 0, .int 367 0, vS "/claim/cut.py" 831] }
noncomputable def ob_429 (P : Params) : Obj := { cls := .type "code", data := .fields #[vS "answers" 833, vS "answers" 834, vS "/claim/cut.py" 835, .int 379 0, .int 1 0, .int 0 0, .int 0 0, .int 3 0, .ref 424, .bool true, .int 181 0, .ref 425, .none, .ref 426, .ref 427, .ref 428, .int 843 0, .int 379 0, vS "/claim/cut.py" 844] }
noncomputable def K0 (P : Params) : PySem.W.Frag := [(3, ob_3 P), (20, ob_20 P), (21, oF d_is_speed), (27, ob_27 P), (28, oF d_is_grain), (34, ob_34 P), (35, oF d_is_mix), (41, ob_41 P), (42, oF d_is_width), (48, ob_48 P), (49, oF d_is_piece), (55, ob_55 P), (56, oF d_lost), (62, ob_62 P), (63, oF d_lifted), (69, ob_69 P), (70, oF d_given), (76, ob_76 P), (77, oF d_settling_speed), (81, ob_81 P), (82, oF d_given_at_joint), (88, ob_88 P), (89, oF d_joint_pressures), (93, ob_93 P), (94, oF d_settling_pieces), (100, ob_100 P), (101, oF d_hindrance), (107, ob_107 P), (108, oF d_goes_at), (112, ob_112 P), (113, oF d_litres), (119, ob_119 P), (120, oF d_loses), (126, ob_126 P), (127, oF d_settles), (133, ob_133 P), (134, oF d_gives), (140, ob_140 P), (141, oF d_pressures), (147, ob_147 P), (148, oF d_goes), (154, ob_154 P), (155, oF d_slowest), (161, ob_161 P), (162, oF d_fastest), (168, ob_168 P), (169, oF d_why), (175, ob_175 P), (176, oF d_blocks), (182, ob_182 P), (183, oF d_least), (189, ob_189 P), (190, oF d_most), (196, ob_196 P), (197, oF d_spare), (203, ob_203 P), (204, oF d_flow), (208, ob_208 P), (209, oF d_look), (213, ob_213 P), (214, oF d_state), (217, ob_217 P), (227, ob_227 P), (228, oF d_Piece__init__), (230, ob_230 P), (231, ob_231 P), (238, ob_238 P), (248, ob_248 P), (249, oF d_Pump__init__), (251, ob_251 P), (252, ob_252 P), (259, ob_259 P), (269, ob_269 P), (270, oF d_Pipe__init__), (272, ob_272 P), (273, ob_273 P), (283, ob_283 P), (284, oF d_copied), (290, ob_290 P), (291, oF d_begin), (297, ob_297 P), (298, oF d_add_piece), (304, ob_304 P), (305, oF d_add_pump), (311, ob_311 P), (312, oF d_switch_pump), (318, ob_318 P), (319, oF d_change_mix), (325, ob_325 P), (326, oF d_change_grain), (332, ob_332 P), (333, oF d_cut_piece), (339, ob_339 P), (340, oF d_with_choice), (346, ob_346 P), (347, oF d_choice_count), (351, ob_351 P), (352, oF d_running_count), (358, ob_358 P), (359, oF d_fewest), (365, ob_365 P), (366, oF d_richest), (372, ob_372 P), (373, oF d_goes_with), (379, ob_379 P), (380, oF d_longest_that_goes), (386, ob_386 P), (387, oF d_farther), (388, ob_388 P), (394, ob_394 P), (395, oF d_answer_change), (401, ob_401 P), (402, oF d_answer_measure), (408, ob_408 P), (409, oF d_answer_by_speed), (415, ob_415 P), (416, oF d_answer_rest), (422, ob_422 P), (423, oF d_answer_call), (429, ob_429 P), (430, oF d_answers)]
noncomputable def as0 : List Addr := [3, 20, 21, 27, 28, 34, 35, 41, 42, 48, 49, 55, 56, 62, 63, 69, 70, 76, 77, 81, 82, 88, 89, 93, 94, 100, 101, 107, 108, 112, 113, 119, 120, 126, 127, 133, 134, 140, 141, 147, 148, 154, 155, 161, 162, 168, 169, 175, 176, 182, 183, 189, 190, 196, 197, 203, 204, 208, 209, 213, 214, 217, 227, 228, 230, 231, 238, 248, 249, 251, 252, 259, 269, 270, 272, 273, 283, 284, 290, 291, 297, 298, 304, 305, 311, 312, 318, 319, 325, 326, 332, 333, 339, 340, 346, 347, 351, 352, 358, 359, 365, 366, 372, 373, 379, 380, 386, 387, 388, 394, 395, 401, 402, 408, 409, 415, 416, 422, 423, 429, 430]
noncomputable def Hend (P : Params) : Heap := { objs := ⟨[boot_o_0 P,
  boot_o_1 P,
  boot_o_2 P,
  ob_3 P,
  boot_o_4 P,
  boot_o_5 P,
  boot_o_6 P,
  boot_o_7 P,
  boot_o_8 P,
  boot_o_9 P,
  boot_o_10 P,
  { cls := .type "tuple", data := .seq #[] },
  { cls := .none, data := .fields #[.int 9 0, .int 0 0, .ref 20, .int 11 0, .int 0 0, .ref 27, .int 13 0, .int 0 0, .ref 34, .int 15 0, .int 0 0, .ref 41, .int 17 0, .int 0 0, .ref 48, .int 25 0, .int 0 0, .ref 55, .int 29 0, .int 0 0, .ref 62, .int 31 0, .int 0 0, .ref 69, .int 35 0, .int 0 0, .ref 76, .int 37 0, .int 0 0, .ref 81, .int 39 0, .int 0 0, .ref 88, .int 48 0, .int 0 0, .ref 93, .int 50 0, .int 0 0, .ref 100, .int 65 0, .int 0 0, .ref 107, .int 67 0, .int 0 0, .ref 112, .int 79 0, .int 0 0, .ref 119, .int 86 0, .int 0 0, .ref 126, .int 90 0, .int 0 0, .ref 133, .int 96 0, .int 0 0, .ref 140, .int 101 0, .int 0 0, .ref 147, .int 105 0, .int 0 0, .ref 154, .int 110 0, .int 0 0, .ref 161, .int 115 0, .int 0 0, .ref 168, .int 119 0, .int 0 0, .ref 175, .int 124 0, .int 0 0, .ref 182, .int 130 0, .int 0 0, .ref 189, .int 136 0, .int 0 0, .ref 196, .int 142 0, .int 0 0, .ref 203, .int 149 0, .int 0 0, .ref 208, .int 155 0, .int 0 0, .ref 213, .int 159 0, .int 0 0, .ref 220, .int 165 0, .int 0 0, .ref 241, .int 171 0, .int 0 0, .ref 262, .int 181 0, .int 0 0, .ref 283, .int 192 0, .int 0 0, .ref 290, .int 205 0, .int 0 0, .ref 297, .int 213 0, .int 0 0, .ref 304, .int 223 0, .int 0 0, .ref 311, .int 233 0, .int 0 0, .ref 318, .int 239 0, .int 0 0, .ref 325, .int 245 0, .int 0 0, .ref 332, .int 255 0, .int 0 0, .ref 339, .int 264 0, .int 0 0, .ref 346, .int 269 0, .int 0 0, .ref 351, .int 271 0, .int 0 0, .ref 358, .int 283 0, .int 0 0, .ref 365, .int 292 0, .int 0 0, .ref 372, .int 296 0, .int 0 0, .ref 379, .int 306 0, .int 0 0, .ref 386, .int 319 0, .int 0 0, .ref 394, .int 331 0, .int 0 0, .ref 401, .int 345 0, .int 0 0, .ref 408, .int 359 0, .int 0 0, .ref 415, .int 367 0, .int 0 0, .ref 422, .int 379 0, .int 0 0, .ref 429] },
  { cls := .type "code", data := .fields #[vS "<module>" 182, vS "<module>" 183, vS "/claim/cut.py" 184, .int 1 0, .int 0 0, .int 0 0, .int 0 0, .int 0 0, .ref 11, .bool false, .int 181 0, .ref 12, .none, .none, .none, .none, .int 185 0, .int 1 0, vS "/claim/cut.py" 186] },
  { cls := .type "frame", slots := #[some (.ref 13), some (.ref 3), some (.ref 3), none, some (vS "__main__" 164), none, some (.ref 0)] },
  { cls := .type "tuple", data := .seq #[] },
  { cls := .none, data := .fields #[] },
  { cls := .type "tuple", data := .seq #[vS "speed" 206] },
  { cls := .type "tuple", data := .seq #[] },
  oP d_is_speed,
  ob_20 P,
  oF d_is_speed,
  { cls := .type "tuple", data := .seq #[] },
  { cls := .none, data := .fields #[] },
  { cls := .type "tuple", data := .seq #[vS "grain" 213] },
  { cls := .type "tuple", data := .seq #[] },
  oP d_is_grain,
  ob_27 P,
  oF d_is_grain,
  { cls := .type "tuple", data := .seq #[] },
  { cls := .none, data := .fields #[] },
  { cls := .type "tuple", data := .seq #[vS "mix" 220] },
  { cls := .type "tuple", data := .seq #[] },
  oP d_is_mix,
  ob_34 P,
  oF d_is_mix,
  { cls := .type "tuple", data := .seq #[] },
  { cls := .none, data := .fields #[] },
  { cls := .type "tuple", data := .seq #[vS "wide" 227] },
  { cls := .type "tuple", data := .seq #[] },
  oP d_is_width,
  ob_41 P,
  oF d_is_width,
  { cls := .type "tuple", data := .seq #[] },
  { cls := .none, data := .fields #[] },
  { cls := .type "tuple", data := .seq #[vS "long" 234, vS "rise" 235, vS "wide" 236] },
  { cls := .type "tuple", data := .seq #[] },
  oP d_is_piece,
  ob_48 P,
  oF d_is_piece,
  { cls := .type "tuple", data := .seq #[] },
  { cls := .none, data := .fields #[] },
  { cls := .type "tuple", data := .seq #[vS "pipe" 255, vS "piece" 256, vS "speed" 257, vS "resistance" 258, vS "divisor" 259] },
  { cls := .type "tuple", data := .seq #[] },
  oP d_lost,
  ob_55 P,
  oF d_lost,
  { cls := .type "tuple", data := .seq #[] },
  { cls := .none, data := .fields #[] },
  { cls := .type "tuple", data := .seq #[vS "pipe" 266, vS "piece" 267] },
  { cls := .type "tuple", data := .seq #[] },
  oP d_lifted,
  ob_62 P,
  oF d_lifted,
  { cls := .type "tuple", data := .seq #[] },
  { cls := .none, data := .fields #[] },
  { cls := .type "tuple", data := .seq #[vS "pump" 274, vS "speed" 275] },
  { cls := .type "tuple", data := .seq #[] },
  oP d_given,
  ob_69 P,
  oF d_given,
  { cls := .type "tuple", data := .seq #[] },
  { cls := .none, data := .fields #[] },
  { cls := .type "tuple", data := .seq #[vS "pipe" 282, vS "piece" 283] },
  { cls := .type "tuple", data := .seq #[] },
  oP d_settling_speed,
  ob_76 P,
  oF d_settling_speed,
  { cls := .type "tuple", data := .seq #[] },
  { cls := .none, data := .fields #[] },
  oP d_given_at_joint,
  ob_81 P,
  oF d_given_at_joint,
  { cls := .type "tuple", data := .seq #[] },
  { cls := .none, data := .fields #[] },
  { cls := .type "tuple", data := .seq #[vS "pipe" 296, vS "speed" 297, vS "found" 298, vS "pressure" 299, vS "joint" 300, vS "piece" 301] },
  { cls := .type "tuple", data := .seq #[] },
  oP d_joint_pressures,
  ob_88 P,
  oF d_joint_pressures,
  { cls := .type "tuple", data := .seq #[] },
  { cls := .none, data := .fields #[] },
  oP d_settling_pieces,
  ob_93 P,
  oF d_settling_pieces,
  { cls := .type "tuple", data := .seq #[] },
  { cls := .none, data := .fields #[] },
  { cls := .type "tuple", data := .seq #[vS "pipe" 314, vS "speed" 315, vS "settling" 316, vS "found" 317, vS "end" 318, vS "joint" 319] },
  { cls := .type "tuple", data := .seq #[] },
  oP d_hindrance,
  ob_100 P,
  oF d_hindrance,
  { cls := .type "tuple", data := .seq #[] },
  { cls := .none, data := .fields #[] },
  { cls := .type "tuple", data := .seq #[vS "pipe" 326, vS "speed" 327] },
  { cls := .type "tuple", data := .seq #[] },
  oP d_goes_at,
  ob_107 P,
  oF d_goes_at,
  { cls := .type "tuple", data := .seq #[] },
  { cls := .none, data := .fields #[] },
  oP d_litres,
  ob_112 P,
  oF d_litres,
  { cls := .type "tuple", data := .seq #[] },
  { cls := .none, data := .fields #[] },
  { cls := .type "tuple", data := .seq #[vS "pipe" 366, vS "number" 367, vS "speed" 368, vS "piece" 369] },
  { cls := .type "tuple", data := .seq #[] },
  oP d_loses,
  ob_119 P,
  oF d_loses,
  { cls := .type "tuple", data := .seq #[] },
  { cls := .none, data := .fields #[] },
  { cls := .type "tuple", data := .seq #[vS "pipe" 376, vS "number" 377] },
  { cls := .type "tuple", data := .seq #[] },
  oP d_settles,
  ob_126 P,
  oF d_settles,
  { cls := .type "tuple", data := .seq #[] },
  { cls := .none, data := .fields #[] },
  { cls := .type "tuple", data := .seq #[vS "pipe" 384, vS "number" 385, vS "speed" 386] },
  { cls := .type "tuple", data := .seq #[] },
  oP d_gives,
  ob_133 P,
  oF d_gives,
  { cls := .type "tuple", data := .seq #[] },
  { cls := .none, data := .fields #[] },
  { cls := .type "tuple", data := .seq #[vS "pipe" 393, vS "speed" 394, vS "found" 395] },
  { cls := .type "tuple", data := .seq #[] },
  oP d_pressures,
  ob_140 P,
  oF d_pressures,
  { cls := .type "tuple", data := .seq #[] },
  { cls := .none, data := .fields #[] },
  { cls := .type "tuple", data := .seq #[vS "pipe" 402, vS "speed" 403] },
  { cls := .type "tuple", data := .seq #[] },
  oP d_goes,
  ob_147 P,
  oF d_goes,
  { cls := .type "tuple", data := .seq #[] },
  { cls := .none, data := .fields #[] },
  { cls := .type "tuple", data := .seq #[vS "pipe" 410, vS "speed" 411] },
  { cls := .type "tuple", data := .seq #[] },
  oP d_slowest,
  ob_154 P,
  oF d_slowest,
  { cls := .type "tuple", data := .seq #[] },
  { cls := .none, data := .fields #[] },
  { cls := .type "tuple", data := .seq #[vS "pipe" 418, vS "speed" 419] },
  { cls := .type "tuple", data := .seq #[] },
  oP d_fastest,
  ob_161 P,
  oF d_fastest,
  { cls := .type "tuple", data := .seq #[] },
  { cls := .none, data := .fields #[] },
  { cls := .type "tuple", data := .seq #[vS "pipe" 426, vS "speed" 427] },
  { cls := .type "tuple", data := .seq #[] },
  oP d_why,
  ob_168 P,
  oF d_why,
  { cls := .type "tuple", data := .seq #[] },
  { cls := .none, data := .fields #[] },
  { cls := .type "tuple", data := .seq #[vS "pipe" 434, vS "speed" 435, vS "found" 436] },
  { cls := .type "tuple", data := .seq #[] },
  oP d_blocks,
  ob_175 P,
  oF d_blocks,
  { cls := .type "tuple", data := .seq #[] },
  { cls := .none, data := .fields #[] },
  { cls := .type "tuple", data := .seq #[vS "pipe" 443, vS "speed" 444, vS "found" 445, vS "pressure" 446] },
  { cls := .type "tuple", data := .seq #[] },
  oP d_least,
  ob_182 P,
  oF d_least,
  { cls := .type "tuple", data := .seq #[] },
  { cls := .none, data := .fields #[] },
  { cls := .type "tuple", data := .seq #[vS "pipe" 453, vS "speed" 454, vS "found" 455, vS "pressure" 456] },
  { cls := .type "tuple", data := .seq #[] },
  oP d_most,
  ob_189 P,
  oF d_most,
  { cls := .type "tuple", data := .seq #[] },
  { cls := .none, data := .fields #[] },
  { cls := .type "tuple", data := .seq #[vS "pipe" 463, vS "speed" 464] },
  { cls := .type "tuple", data := .seq #[] },
  oP d_spare,
  ob_196 P,
  oF d_spare,
  { cls := .type "tuple", data := .seq #[] },
  { cls := .none, data := .fields #[] },
  { cls := .type "tuple", data := .seq #[vS "pipe" 471, vS "speed" 472, vS "whole" 473] },
  { cls := .type "tuple", data := .seq #[] },
  oP d_flow,
  ob_203 P,
  oF d_flow,
  { cls := .type "tuple", data := .seq #[] },
  { cls := .none, data := .fields #[] },
  oP d_look,
  ob_208 P,
  oF d_look,
  { cls := .type "tuple", data := .seq #[] },
  { cls := .none, data := .fields #[] },
  oP d_state,
  ob_213 P,
  oF d_state,
  { cls := .type "tuple", data := .seq #[] },
  { cls := .type "builtin_function_or_method", data := .fields #[.builtin "type.__prepare__", .type "type"] },
  ob_217 P,
  { cls := .type "tuple", data := .seq #[] },
  { cls := .none, data := .fields #[.int 161 0, .int 4 0, .ref 227] },
  { cls := .type "code", data := .fields #[vS "Piece" 493, vS "Piece" 494, vS "/claim/cut.py" 495, .int 159 0, .int 0 0, .int 0 0, .int 0 0, .int 0 0, .ref 218, .bool false, .int 181 0, .ref 219, .none, .none, .none, .none, .int 496 0, .int 159 0, vS "/claim/cut.py" 497] },
  { cls := .type "frame", slots := #[some (.ref 220), some (.ref 3), some (.ref 217), none, some (vS "sandpipe.parts" 489), none, some (.ref 0)] },
  { cls := .type "tuple", data := .seq #[] },
  { cls := .none, data := .fields #[] },
  { cls := .type "tuple", data := .seq #[vS "self" 506, vS "long" 507, vS "rise" 508, vS "wide" 509] },
  { cls := .type "tuple", data := .seq #[] },
  oP d_Piece__init__,
  ob_227 P,
  oF d_Piece__init__,
  { cls := .type "tuple", data := .seq #[vS "long" 513, vS "rise" 514, vS "wide" 515] },
  ob_230 P,
  ob_231 P,
  { cls := .type "getset_descriptor", data := .fields #[vS "__dict__" 517, .ref 231, .builtin "function.__dict__", .builtin "function.__dict__#set"] },
  { cls := .type "getset_descriptor", data := .fields #[vS "__weakref__" 519, .ref 231, .builtin "ExceptionGroup.__weakref__", .none] },
  { cls := .type "super", data := .fields #[.ref 231, .ref 231, .ref 231] },
  { cls := .type "builtin_function_or_method", data := .fields #[.builtin "object.__init_subclass__", .ref 231] },
  { cls := .type "tuple", data := .seq #[] },
  { cls := .type "builtin_function_or_method", data := .fields #[.builtin "type.__prepare__", .type "type"] },
  ob_238 P,
  { cls := .type "tuple", data := .seq #[] },
  { cls := .none, data := .fields #[.int 167 0, .int 4 0, .ref 248] },
  { cls := .type "code", data := .fields #[vS "Pump" 526, vS "Pump" 527, vS "/claim/cut.py" 528, .int 165 0, .int 0 0, .int 0 0, .int 0 0, .int 0 0, .ref 239, .bool false, .int 181 0, .ref 240, .none, .none, .none, .none, .int 529 0, .int 165 0, vS "/claim/cut.py" 530] },
  { cls := .type "frame", slots := #[some (.ref 241), some (.ref 3), some (.ref 238), none, some (vS "sandpipe.parts" 489), none, some (.ref 0)] },
  { cls := .type "tuple", data := .seq #[] },
  { cls := .none, data := .fields #[] },
  { cls := .type "tuple", data := .seq #[vS "self" 539, vS "at" 540, vS "adds" 541, vS "runs" 542] },
  { cls := .type "tuple", data := .seq #[] },
  oP d_Pump__init__,
  ob_248 P,
  oF d_Pump__init__,
  { cls := .type "tuple", data := .seq #[vS "adds" 546, vS "at" 547, vS "runs" 548] },
  ob_251 P,
  ob_252 P,
  { cls := .type "getset_descriptor", data := .fields #[vS "__dict__" 550, .ref 252, .builtin "function.__dict__", .builtin "function.__dict__#set"] },
  { cls := .type "getset_descriptor", data := .fields #[vS "__weakref__" 552, .ref 252, .builtin "ExceptionGroup.__weakref__", .none] },
  { cls := .type "super", data := .fields #[.ref 252, .ref 252, .ref 252] },
  { cls := .type "builtin_function_or_method", data := .fields #[.builtin "object.__init_subclass__", .ref 252] },
  { cls := .type "tuple", data := .seq #[] },
  { cls := .type "builtin_function_or_method", data := .fields #[.builtin "type.__prepare__", .type "type"] },
  ob_259 P,
  { cls := .type "tuple", data := .seq #[] },
  { cls := .none, data := .fields #[.int 173 0, .int 4 0, .ref 269] },
  { cls := .type "code", data := .fields #[vS "Pipe" 559, vS "Pipe" 560, vS "/claim/cut.py" 561, .int 171 0, .int 0 0, .int 0 0, .int 0 0, .int 0 0, .ref 260, .bool false, .int 181 0, .ref 261, .none, .none, .none, .none, .int 562 0, .int 171 0, vS "/claim/cut.py" 563] },
  { cls := .type "frame", slots := #[some (.ref 262), some (.ref 3), some (.ref 259), none, some (vS "sandpipe.parts" 489), none, some (.ref 0)] },
  { cls := .type "tuple", data := .seq #[] },
  { cls := .none, data := .fields #[] },
  { cls := .type "tuple", data := .seq #[vS "self" 572] },
  { cls := .type "tuple", data := .seq #[] },
  oP d_Pipe__init__,
  ob_269 P,
  oF d_Pipe__init__,
  { cls := .type "tuple", data := .seq #[vS "begun" 576, vS "grain" 577, vS "high" 578, vS "low" 579, vS "mix" 580, vS "pieces" 581, vS "pumps" 582] },
  ob_272 P,
  ob_273 P,
  { cls := .type "getset_descriptor", data := .fields #[vS "__dict__" 584, .ref 273, .builtin "function.__dict__", .builtin "function.__dict__#set"] },
  { cls := .type "getset_descriptor", data := .fields #[vS "__weakref__" 586, .ref 273, .builtin "ExceptionGroup.__weakref__", .none] },
  { cls := .type "super", data := .fields #[.ref 273, .ref 273, .ref 273] },
  { cls := .type "builtin_function_or_method", data := .fields #[.builtin "object.__init_subclass__", .ref 273] },
  { cls := .type "tuple", data := .seq #[] },
  { cls := .none, data := .fields #[] },
  { cls := .type "tuple", data := .seq #[vS "pipe" 594, vS "other" 595] },
  { cls := .type "tuple", data := .seq #[] },
  oP d_copied,
  ob_283 P,
  oF d_copied,
  { cls := .type "tuple", data := .seq #[] },
  { cls := .none, data := .fields #[] },
  { cls := .type "tuple", data := .seq #[vS "pipe" 604, vS "grain" 605, vS "mix" 606, vS "low" 607, vS "high" 608] },
  { cls := .type "tuple", data := .seq #[] },
  oP d_begin,
  ob_290 P,
  oF d_begin,
  { cls := .type "tuple", data := .seq #[] },
  { cls := .none, data := .fields #[] },
  { cls := .type "tuple", data := .seq #[vS "pipe" 615, vS "long" 616, vS "rise" 617, vS "wide" 618, vS "number" 619] },
  { cls := .type "tuple", data := .seq #[] },
  oP d_add_piece,
  ob_297 P,
  oF d_add_piece,
  { cls := .type "tuple", data := .seq #[] },
  { cls := .none, data := .fields #[] },
  { cls := .type "tuple", data := .seq #[vS "pipe" 626, vS "at" 627, vS "adds" 628, vS "number" 629] },
  { cls := .type "tuple", data := .seq #[] },
  oP d_add_pump,
  ob_304 P,
  oF d_add_pump,
  { cls := .type "tuple", data := .seq #[] },
  { cls := .none, data := .fields #[] },
  { cls := .type "tuple", data := .seq #[vS "pipe" 636, vS "number" 637, vS "runs" 638, vS "pump" 639] },
  { cls := .type "tuple", data := .seq #[] },
  oP d_switch_pump,
  ob_311 P,
  oF d_switch_pump,
  { cls := .type "tuple", data := .seq #[] },
  { cls := .none, data := .fields #[] },
  { cls := .type "tuple", data := .seq #[vS "pipe" 646, vS "mix" 647, vS "before" 648] },
  { cls := .type "tuple", data := .seq #[] },
  oP d_change_mix,
  ob_318 P,
  oF d_change_mix,
  { cls := .type "tuple", data := .seq #[] },
  { cls := .none, data := .fields #[] },
  { cls := .type "tuple", data := .seq #[vS "pipe" 655, vS "grain" 656, vS "before" 657] },
  { cls := .type "tuple", data := .seq #[] },
  oP d_change_grain,
  ob_325 P,
  oF d_change_grain,
  { cls := .type "tuple", data := .seq #[] },
  { cls := .none, data := .fields #[] },
  { cls := .type "tuple", data := .seq #[vS "pipe" 664, vS "last" 665, vS "pump" 666] },
  { cls := .type "tuple", data := .seq #[] },
  oP d_cut_piece,
  ob_332 P,
  oF d_cut_piece,
  { cls := .type "tuple", data := .seq #[] },
  { cls := .none, data := .fields #[] },
  { cls := .type "tuple", data := .seq #[vS "pipe" 675, vS "choice" 676, vS "pumps" 677, vS "bits" 678, vS "pump" 679, vS "other" 680] },
  { cls := .type "tuple", data := .seq #[] },
  oP d_with_choice,
  ob_339 P,
  oF d_with_choice,
  { cls := .type "tuple", data := .seq #[] },
  { cls := .none, data := .fields #[] },
  { cls := .type "tuple", data := .seq #[vS "pipe" 687, vS "count" 688, vS "pump" 689] },
  { cls := .type "tuple", data := .seq #[] },
  oP d_choice_count,
  ob_346 P,
  oF d_choice_count,
  { cls := .type "tuple", data := .seq #[] },
  { cls := .none, data := .fields #[] },
  oP d_running_count,
  ob_351 P,
  oF d_running_count,
  { cls := .type "tuple", data := .seq #[] },
  { cls := .none, data := .fields #[] },
  { cls := .type "tuple", data := .seq #[vS "pipe" 702, vS "speed" 703, vS "best" 704, vS "best_count" 705, vS "choice" 706, vS "tried" 707, vS "count" 708] },
  { cls := .type "tuple", data := .seq #[] },
  oP d_fewest,
  ob_358 P,
  oF d_fewest,
  { cls := .type "tuple", data := .seq #[] },
  { cls := .none, data := .fields #[] },
  { cls := .type "tuple", data := .seq #[vS "pipe" 715, vS "speed" 716, vS "tried" 717, vS "mix" 718] },
  { cls := .type "tuple", data := .seq #[] },
  oP d_richest,
  ob_365 P,
  oF d_richest,
  { cls := .type "tuple", data := .seq #[] },
  { cls := .none, data := .fields #[] },
  { cls := .type "tuple", data := .seq #[vS "pipe" 725, vS "speed" 726, vS "long" 727, vS "wide" 728, vS "tried" 729] },
  { cls := .type "tuple", data := .seq #[] },
  oP d_goes_with,
  ob_372 P,
  oF d_goes_with,
  { cls := .type "tuple", data := .seq #[] },
  { cls := .none, data := .fields #[] },
  { cls := .type "tuple", data := .seq #[vS "pipe" 736, vS "speed" 737, vS "wide" 738, vS "good" 739, vS "bad" 740, vS "middle" 741] },
  { cls := .type "tuple", data := .seq #[] },
  oP d_longest_that_goes,
  ob_379 P,
  oF d_longest_that_goes,
  { cls := .type "tuple", data := .seq #[] },
  { cls := .none, data := .fields #[] },
  { cls := .type "tuple", data := .seq #[vS "pipe" 748, vS "speed" 749, vS "wide" 750] },
  { cls := .type "tuple", data := .seq #[] },
  oP d_farther,
  ob_386 P,
  oF d_farther,
  ob_388 P,
  { cls := .type "tuple", data := .seq #[] },
  { cls := .none, data := .fields #[] },
  { cls := .type "tuple", data := .seq #[vS "pipe" 791, vS "number" 792, vS "told" 793] },
  { cls := .type "tuple", data := .seq #[] },
  oP d_answer_change,
  ob_394 P,
  oF d_answer_change,
  { cls := .type "tuple", data := .seq #[] },
  { cls := .none, data := .fields #[] },
  { cls := .type "tuple", data := .seq #[vS "pipe" 800, vS "number" 801, vS "told" 802] },
  { cls := .type "tuple", data := .seq #[] },
  oP d_answer_measure,
  ob_401 P,
  oF d_answer_measure,
  { cls := .type "tuple", data := .seq #[] },
  { cls := .none, data := .fields #[] },
  { cls := .type "tuple", data := .seq #[vS "pipe" 809, vS "number" 810, vS "speed" 811] },
  { cls := .type "tuple", data := .seq #[] },
  oP d_answer_by_speed,
  ob_408 P,
  oF d_answer_by_speed,
  { cls := .type "tuple", data := .seq #[] },
  { cls := .none, data := .fields #[] },
  { cls := .type "tuple", data := .seq #[vS "pipe" 818, vS "number" 819, vS "told" 820] },
  { cls := .type "tuple", data := .seq #[] },
  oP d_answer_rest,
  ob_415 P,
  oF d_answer_rest,
  { cls := .type "tuple", data := .seq #[] },
  { cls := .none, data := .fields #[] },
  { cls := .type "tuple", data := .seq #[vS "pipe" 827, vS "number" 828, vS "told" 829] },
  { cls := .type "tuple", data := .seq #[] },
  oP d_answer_call,
  ob_422 P,
  oF d_answer_call,
  { cls := .type "tuple", data := .seq #[] },
  { cls := .none, data := .fields #[] },
  { cls := .type "tuple", data := .seq #[vS "calls" 836, vS "pipe" 837, vS "found" 838, vS "place" 839, vS "number" 840, vS "behind" 841, vS "answer" 842] },
  { cls := .type "tuple", data := .seq #[] },
  oP d_answers,
  ob_429 P,
  oF d_answers]⟩ }
noncomputable def q0 : Program := { PySem.Challenge.pw_sandpipe_s01_answers with main := { PySem.Challenge.pw_sandpipe_s01_answers.main with body := [top 1, top 2, top 3, top 4, top 5, top 6, top 7, top 8, top 9, top 10, top 11, top 12, top 14, top 15, top 16, top 17, top 18, top 19, top 20, top 21, top 22, top 23, top 24, top 25, top 26, top 27, top 28, top 29, top 30, top 31, top 32, top 33, top 34, top 35, top 36, top 38, top 39, top 40, top 41, top 42, top 43, top 44, top 45, top 46, top 47, top 48, top 49, top 50, top 51, top 52, top 54, top 55, top 56, top 57, top 59, top 60, top 61, top 62, top 63, top 64, top 65, top 67, top 68, top 69, top 70, top 71, top 72, top 73, top 74, top 76, top 77, top 78, top 79, top 80, top 81, top 82, top 83, top 84, top 85] } }
end Sp

set_option Elab.async false
set_option linter.all false
set_option maxRecDepth 100000
set_option maxHeartbeats 2000000
namespace Sp
open PySem PySem.Spec PyProof.Rows L2
open PySem.W (Codec)
/-- a tuple that the top has written -/
def TupOk (o : Obj) (xs : List V) : Prop := ∃ (its : Array Value) (n : Nat), o.cls = .type "tuple" ∧ o.data = .seq its n ∧ its.size ≤ sizeLine ∧ Vals xs its.toList
theorem TupOk.sq {K : PySem.W.Frag} {H : Hp} {a : Addr} {o : Obj} {xs : List V} (h : TupOk o xs) (e : K.lookup a = some o) : SqT K H a xs := by
  obtain ⟨its, n, h1, h2, h3, h4⟩ := h
  exact .inr ⟨o, its, n, e, h1, h2, h3, h4⟩
noncomputable def A0 : Ad := ⟨231, 252, 273, 21, d_is_speed, 28, d_is_grain, 35, d_is_mix, 42, d_is_width, 49, d_is_piece, 56, d_lost, 63, d_lifted, 70, d_given, 77, d_settling_speed, 82, d_given_at_joint, 89, d_joint_pressures, 94, d_settling_pieces, 101, d_hindrance, 108, d_goes_at, 113, d_litres, 120, d_loses, 127, d_settles, 134, d_gives, 141, d_pressures, 148, d_goes, 155, d_slowest, 162, d_fastest, 169, d_why, 176, d_blocks, 183, d_least, 190, d_most, 197, d_spare, 204, d_flow, 209, d_look, 214, d_state, 228, d_Piece__init__, 249, d_Pump__init__, 270, d_Pipe__init__, 284, d_copied, 291, d_begin, 298, d_add_piece, 305, d_add_pump, 312, d_switch_pump, 319, d_change_mix, 326, d_change_grain, 333, d_cut_piece, 340, d_with_choice, 347, d_choice_count, 352, d_running_count, 359, d_fewest, 366, d_richest, 373, d_goes_with, 380, d_longest_that_goes, 387, d_farther, 395, d_answer_change, 402, d_answer_measure, 409, d_answer_by_speed, 416, d_answer_rest, 423, d_answer_call, 430, d_answers, 388⟩
section
variable (P : Params)
theorem l_is_speed : (K0 P).lookup 21 = some (oF d_is_speed) := by kernel_rfl
theorem F_is_speed : Fun (K0 P) "is_speed" "is_speed" s_is_speed 21 d_is_speed := fun_mk (st := s_is_speed) (l_is_speed P) (by kernel_rfl) (by kernel_rfl)
theorem l_is_grain : (K0 P).lookup 28 = some (oF d_is_grain) := by kernel_rfl
theorem F_is_grain : Fun (K0 P) "is_grain" "is_grain" s_is_grain 28 d_is_grain := fun_mk (st := s_is_grain) (l_is_grain P) (by kernel_rfl) (by kernel_rfl)
theorem l_is_mix : (K0 P).lookup 35 = some (oF d_is_mix) := by kernel_rfl
theorem F_is_mix : Fun (K0 P) "is_mix" "is_mix" s_is_mix 35 d_is_mix := fun_mk (st := s_is_mix) (l_is_mix P) (by kernel_rfl) (by kernel_rfl)
theorem l_is_width : (K0 P).lookup 42 = some (oF d_is_width) := by kernel_rfl
theorem F_is_width : Fun (K0 P) "is_width" "is_width" s_is_width 42 d_is_width := fun_mk (st := s_is_width) (l_is_width P) (by kernel_rfl) (by kernel_rfl)
theorem l_is_piece : (K0 P).lookup 49 = some (oF d_is_piece) := by kernel_rfl
theorem F_is_piece : Fun (K0 P) "is_piece" "is_piece" s_is_piece 49 d_is_piece := fun_mk (st := s_is_piece) (l_is_piece P) (by kernel_rfl) (by kernel_rfl)
theorem l_lost : (K0 P).lookup 56 = some (oF d_lost) := by kernel_rfl
theorem F_lost : Fun (K0 P) "lost" "lost" s_lost 56 d_lost := fun_mk (st := s_lost) (l_lost P) (by kernel_rfl) (by kernel_rfl)
theorem l_lifted : (K0 P).lookup 63 = some (oF d_lifted) := by kernel_rfl
theorem F_lifted : Fun (K0 P) "lifted" "lifted" s_lifted 63 d_lifted := fun_mk (st := s_lifted) (l_lifted P) (by kernel_rfl) (by kernel_rfl)
theorem l_given : (K0 P).lookup 70 = some (oF d_given) := by kernel_rfl
theorem F_given : Fun (K0 P) "given" "given" s_given 70 d_given := fun_mk (st := s_given) (l_given P) (by kernel_rfl) (by kernel_rfl)
theorem l_settling_speed : (K0 P).lookup 77 = some (oF d_settling_speed) := by kernel_rfl
theorem F_settling_speed : Fun (K0 P) "settling_speed" "settling_speed" s_settling_speed 77 d_settling_speed := fun_mk (st := s_settling_speed) (l_settling_speed P) (by kernel_rfl) (by kernel_rfl)
theorem l_given_at_joint : (K0 P).lookup 82 = some (oF d_given_at_joint) := by kernel_rfl
theorem F_given_at_joint : Fun (K0 P) "given_at_joint" "given_at_joint" s_given_at_joint 82 d_given_at_joint := fun_mk (st := s_given_at_joint) (l_given_at_joint P) (by kernel_rfl) (by kernel_rfl)
theorem l_joint_pressures : (K0 P).lookup 89 = some (oF d_joint_pressures) := by kernel_rfl
theorem F_joint_pressures : Fun (K0 P) "joint_pressures" "joint_pressures" s_joint_pressures 89 d_joint_pressures := fun_mk (st := s_joint_pressures) (l_joint_pressures P) (by kernel_rfl) (by kernel_rfl)
theorem l_settling_pieces : (K0 P).lookup 94 = some (oF d_settling_pieces) := by kernel_rfl
theorem F_settling_pieces : Fun (K0 P) "settling_pieces" "settling_pieces" s_settling_pieces 94 d_settling_pieces := fun_mk (st := s_settling_pieces) (l_settling_pieces P) (by kernel_rfl) (by kernel_rfl)
theorem l_hindrance : (K0 P).lookup 101 = some (oF d_hindrance) := by kernel_rfl
theorem F_hindrance : Fun (K0 P) "hindrance" "hindrance" s_hindrance 101 d_hindrance := fun_mk (st := s_hindrance) (l_hindrance P) (by kernel_rfl) (by kernel_rfl)
theorem l_goes_at : (K0 P).lookup 108 = some (oF d_goes_at) := by kernel_rfl
theorem F_goes_at : Fun (K0 P) "goes_at" "goes_at" s_goes_at 108 d_goes_at := fun_mk (st := s_goes_at) (l_goes_at P) (by kernel_rfl) (by kernel_rfl)
theorem l_litres : (K0 P).lookup 113 = some (oF d_litres) := by kernel_rfl
theorem F_litres : Fun (K0 P) "litres" "litres" s_litres 113 d_litres := fun_mk (st := s_litres) (l_litres P) (by kernel_rfl) (by kernel_rfl)
theorem l_loses : (K0 P).lookup 120 = some (oF d_loses) := by kernel_rfl
theorem F_loses : Fun (K0 P) "loses" "loses" s_loses 120 d_loses := fun_mk (st := s_loses) (l_loses P) (by kernel_rfl) (by kernel_rfl)
theorem l_settles : (K0 P).lookup 127 = some (oF d_settles) := by kernel_rfl
theorem F_settles : Fun (K0 P) "settles" "settles" s_settles 127 d_settles := fun_mk (st := s_settles) (l_settles P) (by kernel_rfl) (by kernel_rfl)
theorem l_gives : (K0 P).lookup 134 = some (oF d_gives) := by kernel_rfl
theorem F_gives : Fun (K0 P) "gives" "gives" s_gives 134 d_gives := fun_mk (st := s_gives) (l_gives P) (by kernel_rfl) (by kernel_rfl)
theorem l_pressures : (K0 P).lookup 141 = some (oF d_pressures) := by kernel_rfl
theorem F_pressures : Fun (K0 P) "pressures" "pressures" s_pressures 141 d_pressures := fun_mk (st := s_pressures) (l_pressures P) (by kernel_rfl) (by kernel_rfl)
theorem l_goes : (K0 P).lookup 148 = some (oF d_goes) := by kernel_rfl
theorem F_goes : Fun (K0 P) "goes" "goes" s_goes 148 d_goes := fun_mk (st := s_goes) (l_goes P) (by kernel_rfl) (by kernel_rfl)
theorem l_slowest : (K0 P).lookup 155 = some (oF d_slowest) := by kernel_rfl
theorem F_slowest : Fun (K0 P) "slowest" "slowest" s_slowest 155 d_slowest := fun_mk (st := s_slowest) (l_slowest P) (by kernel_rfl) (by kernel_rfl)
theorem l_fastest : (K0 P).lookup 162 = some (oF d_fastest) := by kernel_rfl
theorem F_fastest : Fun (K0 P) "fastest" "fastest" s_fastest 162 d_fastest := fun_mk (st := s_fastest) (l_fastest P) (by kernel_rfl) (by kernel_rfl)
theorem l_why : (K0 P).lookup 169 = some (oF d_why) := by kernel_rfl
theorem F_why : Fun (K0 P) "why" "why" s_why 169 d_why := fun_mk (st := s_why) (l_why P) (by kernel_rfl) (by kernel_rfl)
theorem l_blocks : (K0 P).lookup 176 = some (oF d_blocks) := by kernel_rfl
theorem F_blocks : Fun (K0 P) "blocks" "blocks" s_blocks 176 d_blocks := fun_mk (st := s_blocks) (l_blocks P) (by kernel_rfl) (by kernel_rfl)
theorem l_least : (K0 P).lookup 183 = some (oF d_least) := by kernel_rfl
theorem F_least : Fun (K0 P) "least" "least" s_least 183 d_least := fun_mk (st := s_least) (l_least P) (by kernel_rfl) (by kernel_rfl)
theorem l_most : (K0 P).lookup 190 = some (oF d_most) := by kernel_rfl
theorem F_most : Fun (K0 P) "most" "most" s_most 190 d_most := fun_mk (st := s_most) (l_most P) (by kernel_rfl) (by kernel_rfl)
theorem l_spare : (K0 P).lookup 197 = some (oF d_spare) := by kernel_rfl
theorem F_spare : Fun (K0 P) "spare" "spare" s_spare 197 d_spare := fun_mk (st := s_spare) (l_spare P) (by kernel_rfl) (by kernel_rfl)
theorem l_flow : (K0 P).lookup 204 = some (oF d_flow) := by kernel_rfl
theorem F_flow : Fun (K0 P) "flow" "flow" s_flow 204 d_flow := fun_mk (st := s_flow) (l_flow P) (by kernel_rfl) (by kernel_rfl)
theorem l_look : (K0 P).lookup 209 = some (oF d_look) := by kernel_rfl
theorem F_look : Fun (K0 P) "look" "look" s_look 209 d_look := fun_mk (st := s_look) (l_look P) (by kernel_rfl) (by kernel_rfl)
theorem l_state : (K0 P).lookup 214 = some (oF d_state) := by kernel_rfl
theorem F_state : Fun (K0 P) "state" "state" s_state 214 d_state := fun_mk (st := s_state) (l_state P) (by kernel_rfl) (by kernel_rfl)
theorem l_Piece__init__ : (K0 P).lookup 228 = some (oF d_Piece__init__) := by kernel_rfl
theorem F_Piece__init__ : Fun (K0 P) "__init__" "Piece.__init__" s_Piece__init__ 228 d_Piece__init__ := fun_mk (st := s_Piece__init__) (l_Piece__init__ P) (by kernel_rfl) (by kernel_rfl)
theorem l_Pump__init__ : (K0 P).lookup 249 = some (oF d_Pump__init__) := by kernel_rfl
theorem F_Pump__init__ : Fun (K0 P) "__init__" "Pump.__init__" s_Pump__init__ 249 d_Pump__init__ := fun_mk (st := s_Pump__init__) (l_Pump__init__ P) (by kernel_rfl) (by kernel_rfl)
theorem l_Pipe__init__ : (K0 P).lookup 270 = some (oF d_Pipe__init__) := by kernel_rfl
theorem F_Pipe__init__ : Fun (K0 P) "__init__" "Pipe.__init__" s_Pipe__init__ 270 d_Pipe__init__ := fun_mk (st := s_Pipe__init__) (l_Pipe__init__ P) (by kernel_rfl) (by kernel_rfl)
theorem l_copied : (K0 P).lookup 284 = some (oF d_copied) := by kernel_rfl
theorem F_copied : Fun (K0 P) "copied" "copied" s_copied 284 d_copied := fun_mk (st := s_copied) (l_copied P) (by kernel_rfl) (by kernel_rfl)
theorem l_begin : (K0 P).lookup 291 = some (oF d_begin) := by kernel_rfl
theorem F_begin : Fun (K0 P) "begin" "begin" s_begin 291 d_begin := fun_mk (st := s_begin) (l_begin P) (by kernel_rfl) (by kernel_rfl)
theorem l_add_piece : (K0 P).lookup 298 = some (oF d_add_piece) := by kernel_rfl
theorem F_add_piece : Fun (K0 P) "add_piece" "add_piece" s_add_piece 298 d_add_piece := fun_mk (st := s_add_piece) (l_add_piece P) (by kernel_rfl) (by kernel_rfl)
theorem l_add_pump : (K0 P).lookup 305 = some (oF d_add_pump) := by kernel_rfl
theorem F_add_pump : Fun (K0 P) "add_pump" "add_pump" s_add_pump 305 d_add_pump := fun_mk (st := s_add_pump) (l_add_pump P) (by kernel_rfl) (by kernel_rfl)
theorem l_switch_pump : (K0 P).lookup 312 = some (oF d_switch_pump) := by kernel_rfl
theorem F_switch_pump : Fun (K0 P) "switch_pump" "switch_pump" s_switch_pump 312 d_switch_pump := fun_mk (st := s_switch_pump) (l_switch_pump P) (by kernel_rfl) (by kernel_rfl)
theorem l_change_mix : (K0 P).lookup 319 = some (oF d_change_mix) := by kernel_rfl
theorem F_change_mix : Fun (K0 P) "change_mix" "change_mix" s_change_mix 319 d_change_mix := fun_mk (st := s_change_mix) (l_change_mix P) (by kernel_rfl) (by kernel_rfl)
theorem l_change_grain : (K0 P).lookup 326 = some (oF d_change_grain) := by kernel_rfl
theorem F_change_grain : Fun (K0 P) "change_grain" "change_grain" s_change_grain 326 d_change_grain := fun_mk (st := s_change_grain) (l_change_grain P) (by kernel_rfl) (by kernel_rfl)
theorem l_cut_piece : (K0 P).lookup 333 = some (oF d_cut_piece) := by kernel_rfl
theorem F_cut_piece : Fun (K0 P) "cut_piece" "cut_piece" s_cut_piece 333 d_cut_piece := fun_mk (st := s_cut_piece) (l_cut_piece P) (by kernel_rfl) (by kernel_rfl)
theorem l_with_choice : (K0 P).lookup 340 = some (oF d_with_choice) := by kernel_rfl
theorem F_with_choice : Fun (K0 P) "with_choice" "with_choice" s_with_choice 340 d_with_choice := fun_mk (st := s_with_choice) (l_with_choice P) (by kernel_rfl) (by kernel_rfl)
theorem l_choice_count : (K0 P).lookup 347 = some (oF d_choice_count) := by kernel_rfl
theorem F_choice_count : Fun (K0 P) "choice_count" "choice_count" s_choice_count 347 d_choice_count := fun_mk (st := s_choice_count) (l_choice_count P) (by kernel_rfl) (by kernel_rfl)
theorem l_running_count : (K0 P).lookup 352 = some (oF d_running_count) := by kernel_rfl
theorem F_running_count : Fun (K0 P) "running_count" "running_count" s_running_count 352 d_running_count := fun_mk (st := s_running_count) (l_running_count P) (by kernel_rfl) (by kernel_rfl)
theorem l_fewest : (K0 P).lookup 359 = some (oF d_fewest) := by kernel_rfl
theorem F_fewest : Fun (K0 P) "fewest" "fewest" s_fewest 359 d_fewest := fun_mk (st := s_fewest) (l_fewest P) (by kernel_rfl) (by kernel_rfl)
theorem l_richest : (K0 P).lookup 366 = some (oF d_richest) := by kernel_rfl
theorem F_richest : Fun (K0 P) "richest" "richest" s_richest 366 d_richest := fun_mk (st := s_richest) (l_richest P) (by kernel_rfl) (by kernel_rfl)
theorem l_goes_with : (K0 P).lookup 373 = some (oF d_goes_with) := by kernel_rfl
theorem F_goes_with : Fun (K0 P) "goes_with" "goes_with" s_goes_with 373 d_goes_with := fun_mk (st := s_goes_with) (l_goes_with P) (by kernel_rfl) (by kernel_rfl)
theorem l_longest_that_goes : (K0 P).lookup 380 = some (oF d_longest_that_goes) := by kernel_rfl
theorem F_longest_that_goes : Fun (K0 P) "longest_that_goes" "longest_that_goes" s_longest_that_goes 380 d_longest_that_goes := fun_mk (st := s_longest_that_goes) (l_longest_that_goes P) (by kernel_rfl) (by kernel_rfl)
theorem l_farther : (K0 P).lookup 387 = some (oF d_farther) := by kernel_rfl
theorem F_farther : Fun (K0 P) "farther" "farther" s_farther 387 d_farther := fun_mk (st := s_farther) (l_farther P) (by kernel_rfl) (by kernel_rfl)
theorem l_answer_change : (K0 P).lookup 395 = some (oF d_answer_change) := by kernel_rfl
theorem F_answer_change : Fun (K0 P) "answer_change" "answer_change" s_answer_change 395 d_answer_change := fun_mk (st := s_answer_change) (l_answer_change P) (by kernel_rfl) (by kernel_rfl)
theorem l_answer_measure : (K0 P).lookup 402 = some (oF d_answer_measure) := by kernel_rfl
theorem F_answer_measure : Fun (K0 P) "answer_measure" "answer_measure" s_answer_measure 402 d_answer_measure := fun_mk (st := s_answer_measure) (l_answer_measure P) (by kernel_rfl) (by kernel_rfl)
theorem l_answer_by_speed : (K0 P).lookup 409 = some (oF d_answer_by_speed) := by kernel_rfl
theorem F_answer_by_speed : Fun (K0 P) "answer_by_speed" "answer_by_speed" s_answer_by_speed 409 d_answer_by_speed := fun_mk (st := s_answer_by_speed) (l_answer_by_speed P) (by kernel_rfl) (by kernel_rfl)
theorem l_answer_rest : (K0 P).lookup 416 = some (oF d_answer_rest) := by kernel_rfl
theorem F_answer_rest : Fun (K0 P) "answer_rest" "answer_rest" s_answer_rest 416 d_answer_rest := fun_mk (st := s_answer_rest) (l_answer_rest P) (by kernel_rfl) (by kernel_rfl)
theorem l_answer_call : (K0 P).lookup 423 = some (oF d_answer_call) := by kernel_rfl
theorem F_answer_call : Fun (K0 P) "answer_call" "answer_call" s_answer_call 423 d_answer_call := fun_mk (st := s_answer_call) (l_answer_call P) (by kernel_rfl) (by kernel_rfl)
theorem l_answers : (K0 P).lookup 430 = some (oF d_answers) := by kernel_rfl
theorem F_answers : Fun (K0 P) "answers" "answers" s_answers 430 d_answers := fun_mk (st := s_answers) (l_answers P) (by kernel_rfl) (by kernel_rfl)
end
theorem txt0 (P : Params) {h : Heap} {mg : Str → Option Value} (X : (K0 P).In h) (G : h.Ns mainGlobals mg) : Txt (K0 P) mg A0 := by
  constructor
  case cl_Piece => exact ⟨by kernel_rfl, by kernel_rfl, by kernel_rfl, by kernel_rfl⟩
  case m_Piece => exact PySem.W.mg_of X G (v := .ref 231) (by kernel_rfl)
  case mk_Piece => exact ⟨by kernel_rfl, by kernel_rfl, by kernel_rfl, by kernel_rfl⟩
  case n_Piece_long => (unfold NoAttr; kernel_rfl)
  case n_Piece_rise => (unfold NoAttr; kernel_rfl)
  case n_Piece_wide => (unfold NoAttr; kernel_rfl)
  case cl_Pump => exact ⟨by kernel_rfl, by kernel_rfl, by kernel_rfl, by kernel_rfl⟩
  case m_Pump => exact PySem.W.mg_of X G (v := .ref 252) (by kernel_rfl)
  case mk_Pump => exact ⟨by kernel_rfl, by kernel_rfl, by kernel_rfl, by kernel_rfl⟩
  case n_Pump_at => (unfold NoAttr; kernel_rfl)
  case n_Pump_adds => (unfold NoAttr; kernel_rfl)
  case n_Pump_runs => (unfold NoAttr; kernel_rfl)
  case cl_Pipe => exact ⟨by kernel_rfl, by kernel_rfl, by kernel_rfl, by kernel_rfl⟩
  case m_Pipe => exact PySem.W.mg_of X G (v := .ref 273) (by kernel_rfl)
  case mk_Pipe => exact ⟨by kernel_rfl, by kernel_rfl, by kernel_rfl, by kernel_rfl⟩
  case n_Pipe_begun => (unfold NoAttr; kernel_rfl)
  case n_Pipe_grain => (unfold NoAttr; kernel_rfl)
  case n_Pipe_mix => (unfold NoAttr; kernel_rfl)
  case n_Pipe_low => (unfold NoAttr; kernel_rfl)
  case n_Pipe_high => (unfold NoAttr; kernel_rfl)
  case n_Pipe_pieces => (unfold NoAttr; kernel_rfl)
  case n_Pipe_pumps => (unfold NoAttr; kernel_rfl)
  case F_is_speed => exact F_is_speed P
  case b_is_speed => exact (F_is_speed P).binds (ps := ["speed"]) fun _ _ _ _ _ _ us hl => match us, hl with | [_], _ => rfl
  case m_is_speed => exact PySem.W.mg_of X G (v := .ref 21) (by kernel_rfl)
  case F_is_grain => exact F_is_grain P
  case b_is_grain => exact (F_is_grain P).binds (ps := ["grain"]) fun _ _ _ _ _ _ us hl => match us, hl with | [_], _ => rfl
  case m_is_grain => exact PySem.W.mg_of X G (v := .ref 28) (by kernel_rfl)
  case F_is_mix => exact F_is_mix P
  case b_is_mix => exact (F_is_mix P).binds (ps := ["mix"]) fun _ _ _ _ _ _ us hl => match us, hl with | [_], _ => rfl
  case m_is_mix => exact PySem.W.mg_of X G (v := .ref 35) (by kernel_rfl)
  case F_is_width => exact F_is_width P
  case b_is_width => exact (F_is_width P).binds (ps := ["wide"]) fun _ _ _ _ _ _ us hl => match us, hl with | [_], _ => rfl
  case m_is_width => exact PySem.W.mg_of X G (v := .ref 42) (by kernel_rfl)
  case F_is_piece => exact F_is_piece P
  case b_is_piece => exact (F_is_piece P).binds (ps := ["long", "rise", "wide"]) fun _ _ _ _ _ _ us hl => match us, hl with | [_, _, _], _ => rfl
  case m_is_piece => exact PySem.W.mg_of X G (v := .ref 49) (by kernel_rfl)
  case F_lost => exact F_lost P
  case b_lost => exact (F_lost P).binds (ps := ["pipe", "piece", "speed"]) fun _ _ _ _ _ _ us hl => match us, hl with | [_, _, _], _ => rfl
  case m_lost => exact PySem.W.mg_of X G (v := .ref 56) (by kernel_rfl)
  case F_lifted => exact F_lifted P
  case b_lifted => exact (F_lifted P).binds (ps := ["pipe", "piece"]) fun _ _ _ _ _ _ us hl => match us, hl with | [_, _], _ => rfl
  case m_lifted => exact PySem.W.mg_of X G (v := .ref 63) (by kernel_rfl)
  case F_given => exact F_given P
  case b_given => exact (F_given P).binds (ps := ["pump", "speed"]) fun _ _ _ _ _ _ us hl => match us, hl with | [_, _], _ => rfl
  case m_given => exact PySem.W.mg_of X G (v := .ref 70) (by kernel_rfl)
  case F_settling_speed => exact F_settling_speed P
  case b_settling_speed => exact (F_settling_speed P).binds (ps := ["pipe", "piece"]) fun _ _ _ _ _ _ us hl => match us, hl with | [_, _], _ => rfl
  case m_settling_speed => exact PySem.W.mg_of X G (v := .ref 77) (by kernel_rfl)
  case F_given_at_joint => exact F_given_at_joint P
  case b_given_at_joint => exact (F_given_at_joint P).binds (ps := ["pipe", "joint", "speed"]) fun _ _ _ _ _ _ us hl => match us, hl with | [_, _, _], _ => rfl
  case m_given_at_joint => exact PySem.W.mg_of X G (v := .ref 82) (by kernel_rfl)
  case F_joint_pressures => exact F_joint_pressures P
  case b_joint_pressures => exact (F_joint_pressures P).binds (ps := ["pipe", "speed"]) fun _ _ _ _ _ _ us hl => match us, hl with | [_, _], _ => rfl
  case m_joint_pressures => exact PySem.W.mg_of X G (v := .ref 89) (by kernel_rfl)
  case F_settling_pieces => exact F_settling_pieces P
  case b_settling_pieces => exact (F_settling_pieces P).binds (ps := ["pipe", "speed"]) fun _ _ _ _ _ _ us hl => match us, hl with | [_, _], _ => rfl
  case m_settling_pieces => exact PySem.W.mg_of X G (v := .ref 94) (by kernel_rfl)
  case F_hindrance => exact F_hindrance P
  case b_hindrance => exact (F_hindrance P).binds (ps := ["pipe", "speed"]) fun _ _ _ _ _ _ us hl => match us, hl with | [_, _], _ => rfl
  case m_hindrance => exact PySem.W.mg_of X G (v := .ref 101) (by kernel_rfl)
  case F_goes_at => exact F_goes_at P
  case b_goes_at => exact (F_goes_at P).binds (ps := ["pipe", "speed"]) fun _ _ _ _ _ _ us hl => match us, hl with | [_, _], _ => rfl
  case m_goes_at => exact PySem.W.mg_of X G (v := .ref 108) (by kernel_rfl)
  case F_litres => exact F_litres P
  case b_litres => exact (F_litres P).binds (ps := ["pipe", "speed"]) fun _ _ _ _ _ _ us hl => match us, hl with | [_, _], _ => rfl
  case m_litres => exact PySem.W.mg_of X G (v := .ref 113) (by kernel_rfl)
  case F_loses => exact F_loses P
  case b_loses => exact (F_loses P).binds (ps := ["pipe", "number", "speed"]) fun _ _ _ _ _ _ us hl => match us, hl with | [_, _, _], _ => rfl
  case m_loses => exact PySem.W.mg_of X G (v := .ref 120) (by kernel_rfl)
  case F_settles => exact F_settles P
  case b_settles => exact (F_settles P).binds (ps := ["pipe", "number"]) fun _ _ _ _ _ _ us hl => match us, hl with | [_, _], _ => rfl
  case m_settles => exact PySem.W.mg_of X G (v := .ref 127) (by kernel_rfl)
  case F_gives => exact F_gives P
  case b_gives => exact (F_gives P).binds (ps := ["pipe", "number", "speed"]) fun _ _ _ _ _ _ us hl => match us, hl with | [_, _, _], _ => rfl
  case m_gives => exact PySem.W.mg_of X G (v := .ref 134) (by kernel_rfl)
  case F_pressures => exact F_pressures P
  case b_pressures => exact (F_pressures P).binds (ps := ["pipe", "speed"]) fun _ _ _ _ _ _ us hl => match us, hl with | [_, _], _ => rfl
  case m_pressures => exact PySem.W.mg_of X G (v := .ref 141) (by kernel_rfl)
  case F_goes => exact F_goes P
  case b_goes => exact (F_goes P).binds (ps := ["pipe", "speed"]) fun _ _ _ _ _ _ us hl => match us, hl with | [_, _], _ => rfl
  case m_goes => exact PySem.W.mg_of X G (v := .ref 148) (by kernel_rfl)
  case F_slowest => exact F_slowest P
  case b_slowest => exact (F_slowest P).binds (ps := ["pipe"]) fun _ _ _ _ _ _ us hl => match us, hl with | [_], _ => rfl
  case m_slowest => exact PySem.W.mg_of X G (v := .ref 155) (by kernel_rfl)
  case F_fastest => exact F_fastest P
  case b_fastest => exact (F_fastest P).binds (ps := ["pipe"]) fun _ _ _ _ _ _ us hl => match us, hl with | [_], _ => rfl
  case m_fastest => exact PySem.W.mg_of X G (v := .ref 162) (by kernel_rfl)
  case F_why => exact F_why P
  case b_why => exact (F_why P).binds (ps := ["pipe", "speed"]) fun _ _ _ _ _ _ us hl => match us, hl with | [_, _], _ => rfl
  case m_why => exact PySem.W.mg_of X G (v := .ref 169) (by kernel_rfl)
  case F_blocks => exact F_blocks P
  case b_blocks => exact (F_blocks P).binds (ps := ["pipe", "speed"]) fun _ _ _ _ _ _ us hl => match us, hl with | [_, _], _ => rfl
  case m_blocks => exact PySem.W.mg_of X G (v := .ref 176) (by kernel_rfl)
  case F_least => exact F_least P
  case b_least => exact (F_least P).binds (ps := ["pipe", "speed"]) fun _ _ _ _ _ _ us hl => match us, hl with | [_, _], _ => rfl
  case m_least => exact PySem.W.mg_of X G (v := .ref 183) (by kernel_rfl)
  case F_most => exact F_most P
  case b_most => exact (F_most P).binds (ps := ["pipe", "speed"]) fun _ _ _ _ _ _ us hl => match us, hl with | [_, _], _ => rfl
  case m_most => exact PySem.W.mg_of X G (v := .ref 190) (by kernel_rfl)
  case F_spare => exact F_spare P
  case b_spare => exact (F_spare P).binds (ps := ["pipe", "speed"]) fun _ _ _ _ _ _ us hl => match us, hl with | [_, _], _ => rfl
  case m_spare => exact PySem.W.mg_of X G (v := .ref 197) (by kernel_rfl)
  case F_flow => exact F_flow P
  case b_flow => exact (F_flow P).binds (ps := ["pipe", "speed"]) fun _ _ _ _ _ _ us hl => match us, hl with | [_, _], _ => rfl
  case m_flow => exact PySem.W.mg_of X G (v := .ref 204) (by kernel_rfl)
  case F_look => exact F_look P
  case b_look => exact (F_look P).binds (ps := ["pipe", "number"]) fun _ _ _ _ _ _ us hl => match us, hl with | [_, _], _ => rfl
  case m_look => exact PySem.W.mg_of X G (v := .ref 209) (by kernel_rfl)
  case F_state => exact F_state P
  case b_state => exact (F_state P).binds (ps := ["pipe"]) fun _ _ _ _ _ _ us hl => match us, hl with | [_], _ => rfl
  case m_state => exact PySem.W.mg_of X G (v := .ref 214) (by kernel_rfl)
  case F_Piece__init__ => exact F_Piece__init__ P
  case b_Piece__init__ => exact (F_Piece__init__ P).binds (ps := ["self", "long", "rise", "wide"]) fun _ _ _ _ _ _ us hl => match us, hl with | [_, _, _, _], _ => rfl
  case F_Pump__init__ => exact F_Pump__init__ P
  case b_Pump__init__ => exact (F_Pump__init__ P).binds (ps := ["self", "at", "adds", "runs"]) fun _ _ _ _ _ _ us hl => match us, hl with | [_, _, _, _], _ => rfl
  case F_Pipe__init__ => exact F_Pipe__init__ P
  case b_Pipe__init__ => exact (F_Pipe__init__ P).binds (ps := ["self"]) fun _ _ _ _ _ _ us hl => match us, hl with | [_], _ => rfl
  case F_copied => exact F_copied P
  case b_copied => exact (F_copied P).binds (ps := ["pipe"]) fun _ _ _ _ _ _ us hl => match us, hl with | [_], _ => rfl
  case m_copied => exact PySem.W.mg_of X G (v := .ref 284) (by kernel_rfl)
  case F_begin => exact F_begin P
  case b_begin => exact (F_begin P).binds (ps := ["pipe", "grain", "mix", "low", "high"]) fun _ _ _ _ _ _ us hl => match us, hl with | [_, _, _, _, _], _ => rfl
  case m_begin => exact PySem.W.mg_of X G (v := .ref 291) (by kernel_rfl)
  case F_add_piece => exact F_add_piece P
  case b_add_piece => exact (F_add_piece P).binds (ps := ["pipe", "long", "rise", "wide"]) fun _ _ _ _ _ _ us hl => match us, hl with | [_, _, _, _], _ => rfl
  case m_add_piece => exact PySem.W.mg_of X G (v := .ref 298) (by kernel_rfl)
  case F_add_pump => exact F_add_pump P
  case b_add_pump => exact (F_add_pump P).binds (ps := ["pipe", "at", "adds"]) fun _ _ _ _ _ _ us hl => match us, hl with | [_, _, _], _ => rfl
  case m_add_pump => exact PySem.W.mg_of X G (v := .ref 305) (by kernel_rfl)
  case F_switch_pump => exact F_switch_pump P
  case b_switch_pump => exact (F_switch_pump P).binds (ps := ["pipe", "number", "runs"]) fun _ _ _ _ _ _ us hl => match us, hl with | [_, _, _], _ => rfl
  case m_switch_pump => exact PySem.W.mg_of X G (v := .ref 312) (by kernel_rfl)
  case F_change_mix => exact F_change_mix P
  case b_change_mix => exact (F_change_mix P).binds (ps := ["pipe", "mix"]) fun _ _ _ _ _ _ us hl => match us, hl with | [_, _], _ => rfl
  case m_change_mix => exact PySem.W.mg_of X G (v := .ref 319) (by kernel_rfl)
  case F_change_grain => exact F_change_grain P
  case b_change_grain => exact (F_change_grain P).binds (ps := ["pipe", "grain"]) fun _ _ _ _ _ _ us hl => match us, hl with | [_, _], _ => rfl
  case m_change_grain => exact PySem.W.mg_of X G (v := .ref 326) (by kernel_rfl)
  case F_cut_piece => exact F_cut_piece P
  case b_cut_piece => exact (F_cut_piece P).binds (ps := ["pipe"]) fun _ _ _ _ _ _ us hl => match us, hl with | [_], _ => rfl
  case m_cut_piece => exact PySem.W.mg_of X G (v := .ref 333) (by kernel_rfl)
  case F_with_choice => exact F_with_choice P
  case b_with_choice => exact (F_with_choice P).binds (ps := ["pipe", "choice"]) fun _ _ _ _ _ _ us hl => match us, hl with | [_, _], _ => rfl
  case m_with_choice => exact PySem.W.mg_of X G (v := .ref 340) (by kernel_rfl)
  case F_choice_count => exact F_choice_count P
  case b_choice_count => exact (F_choice_count P).binds (ps := ["pipe"]) fun _ _ _ _ _ _ us hl => match us, hl with | [_], _ => rfl
  case m_choice_count => exact PySem.W.mg_of X G (v := .ref 347) (by kernel_rfl)
  case F_running_count => exact F_running_count P
  case b_running_count => exact (F_running_count P).binds (ps := ["pipe"]) fun _ _ _ _ _ _ us hl => match us, hl with | [_], _ => rfl
  case m_running_count => exact PySem.W.mg_of X G (v := .ref 352) (by kernel_rfl)
  case F_fewest => exact F_fewest P
  case b_fewest => exact (F_fewest P).binds (ps := ["pipe", "speed"]) fun _ _ _ _ _ _ us hl => match us, hl with | [_, _], _ => rfl
  case m_fewest => exact PySem.W.mg_of X G (v := .ref 359) (by kernel_rfl)
  case F_richest => exact F_richest P
  case b_richest => exact (F_richest P).binds (ps := ["pipe", "speed"]) fun _ _ _ _ _ _ us hl => match us, hl with | [_, _], _ => rfl
  case m_richest => exact PySem.W.mg_of X G (v := .ref 366) (by kernel_rfl)
  case F_goes_with => exact F_goes_with P
  case b_goes_with => exact (F_goes_with P).binds (ps := ["pipe", "speed", "long", "wide"]) fun _ _ _ _ _ _ us hl => match us, hl with | [_, _, _, _], _ => rfl
  case m_goes_with => exact PySem.W.mg_of X G (v := .ref 373) (by kernel_rfl)
  case F_longest_that_goes => exact F_longest_that_goes P
  case b_longest_that_goes => exact (F_longest_that_goes P).binds (ps := ["pipe", "speed", "wide"]) fun _ _ _ _ _ _ us hl => match us, hl with | [_, _, _], _ => rfl
  case m_longest_that_goes => exact PySem.W.mg_of X G (v := .ref 380) (by kernel_rfl)
  case F_farther => exact F_farther P
  case b_farther => exact (F_farther P).binds (ps := ["pipe", "speed", "wide"]) fun _ _ _ _ _ _ us hl => match us, hl with | [_, _, _], _ => rfl
  case m_farther => exact PySem.W.mg_of X G (v := .ref 387) (by kernel_rfl)
  case F_answer_change => exact F_answer_change P
  case b_answer_change => exact (F_answer_change P).binds (ps := ["pipe", "number", "told"]) fun _ _ _ _ _ _ us hl => match us, hl with | [_, _, _], _ => rfl
  case m_answer_change => exact PySem.W.mg_of X G (v := .ref 395) (by kernel_rfl)
  case F_answer_measure => exact F_answer_measure P
  case b_answer_measure => exact (F_answer_measure P).binds (ps := ["pipe", "number", "told"]) fun _ _ _ _ _ _ us hl => match us, hl with | [_, _, _], _ => rfl
  case m_answer_measure => exact PySem.W.mg_of X G (v := .ref 402) (by kernel_rfl)
  case F_answer_by_speed => exact F_answer_by_speed P
  case b_answer_by_speed => exact (F_answer_by_speed P).binds (ps := ["pipe", "number", "speed"]) fun _ _ _ _ _ _ us hl => match us, hl with | [_, _, _], _ => rfl
  case m_answer_by_speed => exact PySem.W.mg_of X G (v := .ref 409) (by kernel_rfl)
  case F_answer_rest => exact F_answer_rest P
  case b_answer_rest => exact (F_answer_rest P).binds (ps := ["pipe", "number", "told"]) fun _ _ _ _ _ _ us hl => match us, hl with | [_, _, _], _ => rfl
  case m_answer_rest => exact PySem.W.mg_of X G (v := .ref 416) (by kernel_rfl)
  case F_answer_call => exact F_answer_call P
  case b_answer_call => exact (F_answer_call P).binds (ps := ["pipe", "number", "told"]) fun _ _ _ _ _ _ us hl => match us, hl with | [_, _, _], _ => rfl
  case m_answer_call => exact PySem.W.mg_of X G (v := .ref 423) (by kernel_rfl)
  case F_answers => exact F_answers P
  case b_answers => exact (F_answers P).binds (ps := ["calls"]) fun _ _ _ _ _ _ us hl => match us, hl with | [_], _ => rfl
  case m_answers => exact PySem.W.mg_of X G (v := .ref 430) (by kernel_rfl)
  case g_LEAST_SPEED => exact ⟨.int 1 189, PySem.W.mg_of X G (by kernel_rfl), ⟨_, rfl⟩⟩
  case g_MOST_SPEED => exact ⟨.int 99 191, PySem.W.mg_of X G (by kernel_rfl), ⟨_, rfl⟩⟩
  case g_MOST_MIX => exact ⟨.int 40 193, PySem.W.mg_of X G (by kernel_rfl), ⟨_, rfl⟩⟩
  case g_SHORTEST => exact ⟨.int 1 195, PySem.W.mg_of X G (by kernel_rfl), ⟨_, rfl⟩⟩
  case g_LONGEST => exact ⟨.int 3000 197, PySem.W.mg_of X G (by kernel_rfl), ⟨_, rfl⟩⟩
  case g_MOST_PIECES => exact ⟨.int 8 199, PySem.W.mg_of X G (by kernel_rfl), ⟨_, rfl⟩⟩
  case g_MOST_PUMPS => exact ⟨.int 6 201, PySem.W.mg_of X G (by kernel_rfl), ⟨_, rfl⟩⟩
  case g_NOTHING => exact ⟨.int 0 242, PySem.W.mg_of X G (by kernel_rfl), ⟨_, rfl⟩⟩
  case g_SETTLES => exact ⟨.int 1 244, PySem.W.mg_of X G (by kernel_rfl), ⟨_, rfl⟩⟩
  case g_TOO_LITTLE => exact ⟨.int 2 246, PySem.W.mg_of X G (by kernel_rfl), ⟨_, rfl⟩⟩
  case g_TOO_MUCH => exact ⟨.int 3 248, PySem.W.mg_of X G (by kernel_rfl), ⟨_, rfl⟩⟩
  case g_END_BELOW_0 => exact ⟨.int 4 250, PySem.W.mg_of X G (by kernel_rfl), ⟨_, rfl⟩⟩
  case g_NO_SUCH => exact ⟨.int (-2) 338, PySem.W.mg_of X G (by kernel_rfl), ⟨_, rfl⟩⟩
  case g_NONE_THERE => exact ⟨.int (-6) 341, PySem.W.mg_of X G (by kernel_rfl), ⟨_, rfl⟩⟩
  case g_NOT_BEGUN => exact ⟨.int (-11) 344, PySem.W.mg_of X G (by kernel_rfl), ⟨_, rfl⟩⟩
  case g_PUMP_THERE => exact ⟨.int (-16) 347, PySem.W.mg_of X G (by kernel_rfl), ⟨_, rfl⟩⟩
  case g_ALREADY => exact ⟨.int (-17) 350, PySem.W.mg_of X G (by kernel_rfl), ⟨_, rfl⟩⟩
  case g_OUT_OF_RANGE => exact ⟨.int (-22) 353, PySem.W.mg_of X G (by kernel_rfl), ⟨_, rfl⟩⟩
  case g_TOO_MANY => exact ⟨.int (-28) 356, PySem.W.mg_of X G (by kernel_rfl), ⟨_, rfl⟩⟩
  case g_DOES_NOT_GO => exact ⟨.int (-33) 359, PySem.W.mg_of X G (by kernel_rfl), ⟨_, rfl⟩⟩
  case g_LAST_CHANGE => exact ⟨.int 6 782, PySem.W.mg_of X G (by kernel_rfl), ⟨_, rfl⟩⟩
  case g_LAST_MEASURE => exact ⟨.int 13 784, PySem.W.mg_of X G (by kernel_rfl), ⟨_, rfl⟩⟩
  case g_LAST_BY_SPEED => exact ⟨.int 20 786, PySem.W.mg_of X G (by kernel_rfl), ⟨_, rfl⟩⟩
  case g_ARGUMENT_COUNTS => exact PySem.W.mg_of X G (v := .ref 388) (by kernel_rfl)
  case v_ARGUMENT_COUNTS => exact fun H => TupOk.sq (o := ob_388 P) ⟨_, _, rfl, rfl, by decide, by repeat (first | exact .nil | refine .cons ⟨_, rfl⟩ ?_)⟩ (by kernel_rfl)
  case nb_enumerate => exact PySem.W.mg_none_of X G (by kernel_rfl)
  case nb_len => exact PySem.W.mg_none_of X G (by kernel_rfl)
  case nb_list => exact PySem.W.mg_none_of X G (by kernel_rfl)
  case nb_max => exact PySem.W.mg_none_of X G (by kernel_rfl)
  case nb_min => exact PySem.W.mg_none_of X G (by kernel_rfl)
  case nb_range => exact PySem.W.mg_none_of X G (by kernel_rfl)
  case nb_sum => exact PySem.W.mg_none_of X G (by kernel_rfl)
end Sp

set_option Elab.async false
set_option linter.all false
set_option maxRecDepth 100000
set_option maxHeartbeats 0
namespace Sp
open PySem PySem.W PyProof.Rows
noncomputable def H0 : Hook := kHook K0 as0 (fun P => by kernel_rfl)
noncomputable def Xt0 (s : Shared) : Bool := xlAt q0 [] s && recOk [] s
abbrev p0 : Program := PySem.Challenge.pw_sandpipe_s01_answers
noncomputable def send (P : Params) (os : OsState) : Shared := ⟨Hend P, #[], {}, 846, os⟩
theorem open0 : ∀ w : World, (fencedOpening treeTable p0 w 5368).map (fun s => (s.heap, s.gens, s.drawn, s.toks)) = some (boot_heap w.params, #[], boot_drawn, boot_toks) := boot_open (by kernel_rfl) (by decide) (fun s => by kernel_rfl)
theorem size0 : ∀ w : World, ((boot_heap w.params).isNs mainGlobals && (#[] : Array GenState).size == 0, (boot_heap w.params).objs.size, (boot_heap w.params).nsMap mainGlobals "__annotations__") = (true, 11, some (.ref 6)) := fun w => by kernel_rfl
theorem run0 : ∀ (w : World) (os : OsState), topRun treeTable p0 w 11 (some (.ref 6)) 5368 ⟨boot_heap w.params, #[], boot_drawn, boot_toks, os⟩ (topStub p0) = some (send w.params os) := fun w os => by
  rw [PySem.W.Fast.te14364793385576792824, PySem.W.Fast.te14082659384304107361]
  kernel_rfl
theorem look0 : ∀ (w : World) (os : OsState), (staticsOk (importedModules p0.main.body) (boot_heap w.params) (Hend w.params) && namesBound p0 (Hend w.params) && gensDone (send w.params os) && laidKept (boot_heap w.params) (Hend w.params)) = true := fun w os => by kernel_rfl
theorem lookA : ∀ (w : World) (os : OsState), (openSeen q0 [] (importedModules p0.main.body) Xt0 true (send w.params os)).1 = (openGood q0 []).1 := fun w os => by
  rw [PySem.W.Fast.te4187177175401517315]
  kernel_rfl
theorem lookB : ∀ (w : World) (os : OsState), (openSeen q0 [] (importedModules p0.main.body) Xt0 true (send w.params os)).2.1 = (openGood q0 []).2.1 := fun w os => by
  rw [PySem.W.Fast.te4187177175401517315]
  kernel_rfl
theorem lookC : ∀ (w : World) (os : OsState), (openSeen q0 [] (importedModules p0.main.body) Xt0 true (send w.params os)).2.2.1 = (openGood q0 []).2.2.1 := fun w os => by
  rw [PySem.W.Fast.te4187177175401517315]
  kernel_rfl
theorem lookD : ∀ (w : World) (os : OsState), (openSeen q0 [] (importedModules p0.main.body) Xt0 true (send w.params os)).2.2.2 = (openGood q0 []).2.2.2 := fun w os => by
  rw [PySem.W.Fast.te4187177175401517315]
  kernel_rfl
theorem lookY : ∀ (w : World) (os : OsState), H0.obs (send w.params os) = H0.val w := fun w os => by kernel_rfl
theorem left0 : LeftO p0 q0 [] Xt0 H0.obs H0.val 5368 :=
  LeftO.of_pieces (H₀ := boot_heap) (H₁ := Hend) (gs₀ := #[]) (gs₁ := #[]) (d₀ := boot_drawn) (d₁ := {}) (k₀ := boot_toks) (k₁ := 846) (m₀ := 11) (ann := some (.ref 6)) (M := 5368) open0 size0 run0 (by decide)
    fun w => funext fun os => looks_pair (look0 w os) (looks_pair (looks_pair (lookA w os) (looks_pair (lookB w os) (looks_pair (lookC w os) (lookD w os)))) (lookY w os))
end Sp

set_option Elab.async false
set_option linter.all false
set_option maxRecDepth 100000
set_option maxHeartbeats 2000000
namespace Sp
open PySem PySem.Spec PyProof.Rows L2
open PySem.W (Codec)
theorem xt_both {s : Shared} (e : Xt0 s = true) : PySem.W.xlAt q0 [] s = true ∧ PySem.W.recOk [] s = true := Bool.and_eq_true_iff.mp e
theorem fin0 {P : Program} {w : World} {h : Heap} {mg : Str → Option Value} {fa : Addr} (X : (K0 w.params).In h) (G : h.Ns mainGlobals mg) (hfa : mg "answers" = some (.ref fa)) :
    ∃ fd : FuncData, (∀ (s : Shared) (us : List Value), us.length = (["calls"] : List Str).length → BindsTo s fd ⟨us, []⟩ ((["calls"] : List Str).zip us)) ∧ ∀ base : Heap, (K0 w.params).In base → base.Ns mainGlobals mg → FnOk P w (K0 w.params) mg base CX0 11 fa fd ["calls"] (spAnswers (K0 w.params)) := by
  have T := txt0 w.params X G
  have e := hfa.symm.trans T.m_answers
  cases e
  exact ⟨A0.d_answers, fun s us hu => match us, hu with | [_], _ => .of_eq rfl, fun base _ _ => ok_answers (P := P) (w := w) (base := base) T⟩
end Sp
open PySem PySem.W PyProof.Rows
set_option maxRecDepth 100000 in
set_option maxHeartbeats 0 in
theorem PySem.Challenge.cw_sandpipe_s01_answers_holds : PySem.Challenge.rw_sandpipe_s01_answers.Holds := by
  refine PySem.W.holds_os (r := PySem.Challenge.rw_sandpipe_s01_answers) (q := Sp.q0) (loose := []) (Xt := Sp.Xt0) (XP := XL Sp.q0 []) (Yf := Sp.H0.obs) (Ya := Sp.H0.val) (YP := Sp.H0.says) (N := 5368) Sp.left0 Sp.H0.of Sp.H0.keeps
    (fun s e => xl_of s (Sp.xt_both e).1) XL.keeps (by rfl) (by rfl) (by rfl) (fun s e => recFacts_of (Sp.xt_both e).2) os_shapes (by decide +kernel) (by decide +kernel) ⟨rfl, rfl, rfl, rfl, rfl, by decide +kernel⟩ ⟨[.list [.int 6]], by decide +kernel, by decide +kernel⟩ ?hc
  refine L2.walk_specK (r := PySem.Challenge.rw_sandpipe_s01_answers) (k := 11) (CX := L2.CX0) (ps := ["calls"]) (sp := Sp.spAnswers) (by decide +kernel) rfl rfl ⟨rfl, by decide, by decide⟩ (fun w h Y => PySem.W.kIn_of Y) ?F ?S (fun _ _ _ _ z => z)
  case F =>
    intro w mg fa h Y KX G hmg
    exact Sp.fin0 KX G hmg
  case S =>
    intro K H xs a hO hwi hask hx
    cases hx with
    | cons h1 h2 =>
      cases h2
      cases h1 with
      | lst hs ha =>
        have e := L2.ints_dw a.1 _ ha
        subst e
        have q : ((Codec.inLen 0 1280 a.1 && a.1.all (Codec.inInt (-2147483648) 4294967295)) && true) = true := hwi
        rw [Bool.and_eq_true, Bool.and_eq_true] at q
        exact ⟨_, a.1, rfl, hs, (Codec.inNat_iff.mp q.1.1).2, hask, fun H' p hp => .lst (L2.SqL.of hp) (L2.dw_ints _)⟩
