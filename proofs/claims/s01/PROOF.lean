import PyProof.Rows.All
import Wide.All
import OpenK.AllK
import Wide.FinOn
import PyProof.EqAt
import PyProof.EqKinds
import PyProof.TupleCall
import KE.BitLaws
import Open.SpecLaws
import KE.OsHead
import KE.OsGo
import PySem.Challenge.RW_searchlegs_s01_answers
section
set_option Elab.async false
set_option linter.all false
set_option maxRecDepth 100000
namespace L2
open PySem PySem.Spec PyProof.Rows

/-- a key: an int or a str -/
abbrev Key := Sum Int Str
def keyIs : Key → Value → Bool
  | .inl k, v => Value.isInt k v
  | .inr x, v => Value.isStrOf x v
def keyH (w : World) : Key → Int
  | .inl k => hashInt k
  | .inr x => hashStr w x
theorem keyIs_shape : ∀ {k : Key} {v : Value}, keyIs k v = true → (∃ i t, k = Sum.inl i ∧ v = Value.int i t) ∨ (∃ x t, k = Sum.inr x ∧ v = Value.str x t)
  | .inl i, v, h => by
    obtain ⟨t, e⟩ := Value.isInt_shape (k := i) (v := v) h
    exact .inl ⟨i, t, rfl, e⟩
  | .inr x, v, h => by
    obtain ⟨t, e⟩ := Value.isStrOf_shape (x := x) (v := v) h
    exact .inr ⟨x, t, rfl, e⟩
theorem key_ll (a b : Int) : decide ((Sum.inl a : Key) = Sum.inl b) = (a == b) := by
  by_cases e : a = b
  · subst e; simp
  · have h : ¬ (Sum.inl a : Key) = Sum.inl b := fun q => e (Sum.inl.inj q)
    rw [decide_eq_false h]
    exact (beq_eq_false_iff_ne.mpr e).symm
theorem key_rr (a b : Str) : decide ((Sum.inr a : Key) = Sum.inr b) = decide (a = b) := by
  by_cases e : a = b
  · subst e; simp
  · have h : ¬ (Sum.inr a : Key) = Sum.inr b := fun q => e (Sum.inr.inj q)
    rw [decide_eq_false h, decide_eq_false e]
theorem key_lr (a : Int) (b : Str) : decide ((Sum.inl a : Key) = Sum.inr b) = false := decide_eq_false (fun q => nomatch q)
theorem key_rl (a : Str) (b : Int) : decide ((Sum.inr a : Key) = Sum.inl b) = false := decide_eq_false (fun q => nomatch q)

def mixKind (prog : Program) (w : World) : PySem.KeyKind prog w Key where
  is := keyIs
  hash := keyH w
  inj := fun v a b ha hb => by
    rcases keyIs_shape ha with ⟨i, t, rfl, rfl⟩ | ⟨x, t, rfl, rfl⟩
    · rcases keyIs_shape hb with ⟨j, u, rfl, e⟩ | ⟨y, u, rfl, e⟩
      · injection e with e1 _; rw [e1]
      · exact nomatch e
    · rcases keyIs_shape hb with ⟨j, u, rfl, e⟩ | ⟨y, u, rfl, e⟩
      · exact nomatch e
      · injection e with e1 _; rw [e1]
  byValue := fun k v h => by
    rcases keyIs_shape h with ⟨i, t, rfl, rfl⟩ | ⟨x, t, rfl, rfl⟩ <;> rfl
  pyHash := fun hv h => by
    rcases keyIs_shape hv with ⟨i, t, rfl, rfl⟩ | ⟨x, t, rfl, rfl⟩
    · exact wpAny_pyHash_int h
    · exact wpAny_pyHash_str h
  eqBool := fun hu hv h => by
    rcases keyIs_shape hu with ⟨i, t, rfl, rfl⟩ | ⟨x, t, rfl, rfl⟩
    · rcases keyIs_shape hv with ⟨j, u, rfl, rfl⟩ | ⟨y, u, rfl, rfl⟩
      · rw [key_ll] at h; exact wpAny_eqBool_int h
      · rw [key_lr] at h; exact SeqAt.EqAt.int_str i t y u _ _ _ _ h
    · rcases keyIs_shape hv with ⟨j, u, rfl, rfl⟩ | ⟨y, u, rfl, rfl⟩
      · rw [key_rl] at h; exact SeqAt.EqAt.str_int x t j u _ _ _ _ h
      · rw [key_rr] at h; exact wpAny_eqBool_str h
  «strs» := fun k x t v h => by
    rcases keyIs_shape h with ⟨i, u, rfl, e⟩ | ⟨y, u, rfl, e⟩
    · exact nomatch e
    · injection e with e1 _
      subst e1
      cases v <;> rfl

end L2

namespace L2
open PySem PySem.Spec PyProof.Rows

/-- a value, without the heap -/
inductive V where
  | non | bl (b : Bool) | int (i : Int) | str (x : Str) | byt (b : Array UInt8) | flt (b : UInt64) | ref (a : Addr) | ty (n : String)
  deriving DecidableEq

def RelV : V → Value → Prop
  | .non, u => u = Value.none
  | .bl b, u => u = Value.bool b
  | .int i, u => ∃ t, u = Value.int i t
  | .str x, u => ∃ t, u = Value.str x t
  | .byt b, u => ∃ t, u = Value.bytes b t
  | .flt b, u => ∃ t, u = Value.float b t
  | .ref a, u => u = Value.ref a
  | .ty n, u => u = Value.type n

abbrev Vals : List V → List Value → Prop := Paired RelV
theorem Vals.length {xs : List V} {us : List Value} (r : Vals xs us) : xs.length = us.length := Paired.length r
theorem Vals.get : ∀ {xs : List V} {us : List Value} {i : Nat} {x : V}, Vals xs us → xs[i]? = some x → ∃ u, us[i]? = some u ∧ RelV x u
  | _, _, _, _, .nil, e => by simp at e
  | _, _, 0, _, .cons r _, e => by simp at e; subst e; exact ⟨_, rfl, r⟩
  | _, _, i + 1, x, .cons _ t, e => by
    obtain ⟨u, h1, h2⟩ := Vals.get (i := i) (x := x) t (by simpa using e)
    exact ⟨u, by simpa using h1, h2⟩
theorem Vals.set {x : V} {u : Value} (r : RelV x u) : ∀ {xs : List V} {us : List Value} (i : Nat), Vals xs us → Vals (xs.set i x) (us.set i u)
  | _, _, _, .nil => .nil
  | _, _, 0, .cons _ t => .cons r t
  | _, _, i + 1, .cons q t => .cons q (Vals.set r i t)
theorem Vals.append : ∀ {xs ys : List V} {us ws : List Value}, Vals xs us → Vals ys ws → Vals (xs ++ ys) (us ++ ws)
  | _, _, _, _, .nil, s => s
  | _, _, _, _, .cons r t, s => .cons r (Vals.append t s)
theorem Vals.take : ∀ {xs : List V} {us : List Value} (n : Nat), Vals xs us → Vals (xs.take n) (us.take n)
  | _, _, 0, _ => .nil
  | _, _, _ + 1, .nil => .nil
  | _, _, n + 1, .cons r t => .cons r (Vals.take n t)
theorem Vals.drop : ∀ {xs : List V} {us : List Value} (n : Nat), Vals xs us → Vals (xs.drop n) (us.drop n)
  | _, _, 0, r => r
  | _, _, _ + 1, .nil => .nil
  | _, _, n + 1, .cons _ t => Vals.drop n t
theorem Vals.none_of : ∀ {xs : List V} {us : List Value} {i : Nat}, Vals xs us → xs[i]? = none → us[i]? = none := fun {xs us i} r e => by
  have h1 := r.length
  have h2 : xs.length ≤ i := List.getElem?_eq_none_iff.mp e
  exact List.getElem?_eq_none_iff.mpr (by omega)

def RelO : Option V → Option Value → Prop
  | some v, some u => RelV v u
  | none, none => True
  | _, _ => False
def KV {κ : Type} : List (κ × V) → List (κ × Value) → Prop := Paired fun (p : κ × V) (q : κ × Value) => p.1 = q.1 ∧ RelV p.2 q.2

/-- a key of a dict (00_mix): an int or a text -/
def kV : Key → V
  | .inl i => .int i
  | .inr x => .str x

/-- what stands at a tracked address -/
inductive HO where
  /-- a list -/
  | lst (xs : List V)
  /-- a tuple (never changes) -/
  | tup (xs : List V)
  /-- a dict whose keys are ints and texts; one whose keys are tuples of ints and texts (the empty one is both) -/
  | dK (kvs : List (Key × V)) | dT (kvs : List (List Key × V))
  /-- a set of ints: its members, its size -/
  | set (S : Int → Bool) (n : Nat)
  /-- an instance of the class at C, its dict at dx, its attributes -/
  | ins (C dx : Addr) (fs : List (Str × V))
  /-- the dict of the instance at x -/
  | own (x : Addr)
  /-- the dict of an exception -/
  | xd (fs : List (Str × V))
  /-- a bound method, f of x -/
  | met (f x : Addr)
  /-- a range object lo, lo + 1, .. below hi -/
  | rng (lo hi : Int)
  /-- a thing that is known to the object (the script; a dict while a loop walks it): read, never written while it is so -/
  | frz (o : Obj) (u : HO)
  /-- a code object's table -/
  | tbl (ps : Array Value)
  /-- any other thing, by what is true of its one object (a def of one's own: SetO a S n := HO.ext fun h => ..) -/
  | ext (φ : Heap → Prop)

abbrev Hp := Addr → Option HO
def upd (H : Hp) (a : Addr) (o : HO) : Hp := fun b => if b = a then some o else H b
theorem upd_same {H : Hp} {a : Addr} {o : HO} : upd H a o a = some o := by unfold upd; rw [if_pos rfl]
theorem upd_ne {H : Hp} {a b : Addr} {o : HO} (h : b ≠ a) : upd H a o b = H b := by unfold upd; rw [if_neg h]
theorem upd_upd {H : Hp} {a : Addr} {o u : HO} : upd (upd H a o) a u = upd H a u := by
  funext b; unfold upd; split <;> rfl
/-- two objects of different content stand apart -/
theorem ne_of {H : Hp} {a b : Addr} {o u : HO} (h : H a = some o) (h' : H b = some u) (d : o ≠ u) : a ≠ b := by
  intro e; subst e; rw [h] at h'; exact d (Option.some.inj h')
theorem ne_of_none {H : Hp} {a b : Addr} {o : HO} (h : H a = some o) (h' : H b = none) : a ≠ b := by
  intro e; subst e; rw [h] at h'; cases h'

section
variable (P : Program) (w : World)
def ObjOk (H : Hp) (h : Heap) (a : Addr) : HO → Prop
  | .lst xs => xs.length ≤ sizeLine ∧ ∃ (its : List Value) (n : Nat), Vals xs its ∧ h.get? a = some { cls := .type "list", data := .seq its.toArray n }
  | .tup xs => xs.length ≤ sizeLine ∧ ∃ its : List Value, Vals xs its ∧ IsTup h a its.toArray
  | .dK kvs => kvs.length ≤ sizeLine ∧ (a == sysModules) = false ∧ ∃ vs, KV kvs vs ∧ h.DictOf (mixKind P w) a vs
  | .dT kvs => kvs.length ≤ sizeLine ∧ (a == sysModules) = false ∧ ∃ xs : List (List Key × Addr × Value),
      Paired (fun (p : List Key × V) (q : List Key × Addr × Value) => p.1 = q.1 ∧ H q.2.1 = some (.tup (p.1.map kV)) ∧ RelV p.2 q.2.2) kvs xs ∧
      ∃ o es ep, h.get? a = some o ∧ o.ExactDict ∧ o.data = .dict es ep ∧ es.toList = xs.map (entryOfKey (tupleKind (mixKind P w))) ∧ (xs.map (·.1)).Nodup
  | .set S n => h.SetOf (intKind P w) a S n
  | .ins C dx fs => H dx = some (.own a) ∧ fs.length ≤ 1000 ∧ dx ≠ a ∧ h.get? a = some (PySem.W.instObj C dx) ∧
      ∃ mA, h.Ns1 dx mA ∧ (∀ f, RelO (fs.lookup f) (mA f)) ∧ PySem.Within mA (fs.map (·.1))
  | .own _ => ∃ o, h.get? a = some o
  | .xd fs => ∃ mA, h.Ns1 a mA ∧ ∀ f, RelO (fs.lookup f) (mA f)
  | .rng lo hi => ∃ t u v, h.get? a = some { cls := .type "range", data := .fields #[.int lo t, .int hi u, .int 1 v] }
  | .frz o u => h.get? a = some o ∧ ObjOk H h a u
  | .tbl ps => h.get? a = some { cls := .none, data := .fields ps }
  | .met f x => h.get? a = some (PySem.W.methodObj (.ref f) (.ref x))
  | .ext φ => φ h ∧ (∃ o, h.get? a = some o) ∧ ∀ h1 h2 : Heap, φ h1 → (∀ o, h1.get? a = some o → h2.get? a = some o) → φ h2
/-- the abstract heap is held -/
def HOk (H : Hp) (h : Heap) : Prop := ∀ a o, H a = some o → ObjOk P w H h a o
end

section
variable {P : Program} {w : World} {H H' : Hp} {h h' : Heap} {a : Addr} {o : HO}
theorem ObjOk.lt (x : ObjOk P w H h a o) : a < h.objs.size := by
  cases o with
  | lst xs => obtain ⟨_, _, _, _, e⟩ := x; exact Heap.lt_size e
  | tup xs => obtain ⟨_, _, _, p⟩ := x; exact p.lt
  | dK kvs => obtain ⟨_, _, _, _, o, _, _, e, _⟩ := x; exact Heap.lt_size e
  | dT kvs => obtain ⟨_, _, _, _, o, _, _, e, _⟩ := x; exact Heap.lt_size e
  | set S n => obtain ⟨o, _, _, _, e, _⟩ := x; exact Heap.lt_size e
  | ins C dx fs => obtain ⟨_, _, _, e, _⟩ := x; exact Heap.lt_size e
  | own y => obtain ⟨_, e⟩ := x; exact Heap.lt_size e
  | xd fs => obtain ⟨_, ⟨_, _, _, e, _⟩, _⟩ := x; exact Heap.lt_size e
  | rng lo hi => obtain ⟨_, _, _, e⟩ := x; exact Heap.lt_size e
  | frz ob u => obtain ⟨e, _⟩ := x; exact Heap.lt_size e
  | tbl ps => exact Heap.lt_size (show h.get? a = some _ from x)
  | met f y => exact Heap.lt_size (show h.get? a = some _ from x)
  | ext φ => obtain ⟨_, ⟨_, e⟩, _⟩ := x; exact Heap.lt_size e
theorem Paired.mapP {α β : Type} {F G : α → β → Prop} : ∀ {l₁ : List α} {l₂ : List β}, Paired F l₁ l₂ → (∀ a b, F a b → G a b) → Paired G l₁ l₂
  | _, _, .nil, _ => .nil
  | _, _, .cons r t, f => .cons (f _ _ r) (Paired.mapP t f)
/-- what an object's description leans on: its own object, its own dict, the tuples -/
theorem ObjOk.stay (x : ObjOk P w H h a o) (k : ∀ b u, (b = a ∨ H b = some (.own a)) → h.get? b = some u → h'.get? b = some u)
    (ho : ∀ b, H b = some (.own a) → H' b = some (.own a)) (ht : ∀ b xs, H b = some (.tup xs) → H' b = some (.tup xs)) : ObjOk P w H' h' a o := by
  induction o with
  | lst xs => obtain ⟨z, its, n, r, e⟩ := x; exact ⟨z, its, n, r, k _ _ (.inl rfl) e⟩
  | tup xs => obtain ⟨z, its, r, ob, e, c⟩ := x; exact ⟨z, its, r, ob, k _ _ (.inl rfl) e, c⟩
  | dK kvs => obtain ⟨z, y, vs, r, ob, es, ep, e, c⟩ := x; exact ⟨z, y, vs, r, ob, es, ep, k _ _ (.inl rfl) e, c⟩
  | dT kvs =>
    obtain ⟨z, y, xs, r, ob, es, ep, e, c⟩ := x
    exact ⟨z, y, xs, Paired.mapP r fun p q z => ⟨z.1, ht _ _ z.2.1, z.2.2⟩, ob, es, ep, k _ _ (.inl rfl) e, c⟩
  | set S n => obtain ⟨ob, es, ep, t, e, c⟩ := x; exact ⟨ob, es, ep, t, k _ _ (.inl rfl) e, c⟩
  | ins C dx fs =>
    obtain ⟨d, z, ne, e, mA, ⟨od, es, ep, e2, c⟩, r⟩ := x
    exact ⟨ho _ d, z, ne, k _ _ (.inl rfl) e, mA, ⟨od, es, ep, k _ _ (.inr d) e2, c⟩, r⟩
  | own y => obtain ⟨ob, e⟩ := x; exact ⟨ob, k _ _ (.inl rfl) e⟩
  | xd fs => obtain ⟨mA, ⟨od, es, ep, e, c⟩, r⟩ := x; exact ⟨mA, ⟨od, es, ep, k _ _ (.inl rfl) e, c⟩, r⟩
  | rng lo hi => obtain ⟨t, u, v, e⟩ := x; exact ⟨t, u, v, k _ _ (.inl rfl) e⟩
  | frz ob u ih => obtain ⟨e, q⟩ := x; exact ⟨k _ _ (.inl rfl) e, ih q⟩
  | tbl ps =>
    have e : h.get? a = some { cls := .none, data := .fields ps } := x
    show h'.get? a = some { cls := .none, data := .fields ps }
    exact k a _ (.inl rfl) e
  | met f y =>
    have e : h.get? a = some (PySem.W.methodObj (.ref f) (.ref y)) := x
    show h'.get? a = some (PySem.W.methodObj (.ref f) (.ref y))
    exact k a _ (.inl rfl) e
  | ext φ => obtain ⟨p, ⟨o, e⟩, st⟩ := x; exact ⟨st _ _ p fun o q => k _ _ (.inl rfl) q, ⟨o, k _ _ (.inl rfl) e⟩, st⟩
theorem HOk.lt (x : HOk P w H h) (e : H a = some o) : a < h.objs.size := (x a o e).lt
theorem HOk.fresh (x : HOk P w H h) (e : h.objs.size ≤ a) : H a = none := by
  cases q : H a with
  | none => rfl
  | some u => exact absurd (Nat.lt_of_lt_of_le (x.lt q) e) (Nat.lt_irrefl _)
/-- every object of the heap is kept -/
theorem HOk.kept (x : HOk P w H h) (k : ∀ b u, h.get? b = some u → h'.get? b = some u) : HOk P w H h' := fun a o e =>
  (x a o e).stay (fun b u _ q => k b u q) (fun _ q => q) fun _ _ q => q
/-- a new object is laid and tracked -/
theorem HOk.laid (x : HOk P w H h) (k : ∀ b u, h.get? b = some u → h'.get? b = some u) (hp : h.objs.size ≤ a) (new : ObjOk P w (upd H a o) h' a o) : HOk P w (upd H a o) h' := fun b u e => by
  have hn := x.fresh hp
  by_cases hb : b = a
  · subst hb; rw [upd_same] at e; cases e; exact new
  · rw [upd_ne hb] at e
    exact (x b u e).stay (fun c v _ q => k c v q) (fun c q => by rw [upd_ne (ne_of_none q hn)]; exact q) fun c xs q => by rw [upd_ne (ne_of_none q hn)]; exact q
end

/-- what may be read as u: it is u, or a known u -/
def Rd (H : Hp) (a : Addr) (u : HO) : Prop := H a = some u ∨ ∃ o, H a = some (.frz o u)
theorem Rd.of {H : Hp} {a : Addr} {u : HO} (h : H a = some u) : Rd H a u := .inl h
theorem Rd.ok {P : Program} {w : World} {H : Hp} {h : Heap} {a : Addr} {u : HO} (r : Rd H a u) (x : HOk P w H h) : ObjOk P w H h a u := by
  rcases r with r | ⟨o, r⟩
  · exact x a u r
  · obtain ⟨_, q⟩ := x a _ r
    exact q
/-- what may be written -/
def Mut : Option HO → Prop
  | some (.lst _) => True
  | some (.dK _) => True
  | some (.dT _) => True
  | some (.set _ _) => True
  | some (.ins _ _ _) => True
  | some (.ext _) => True
  | _ => False
section
variable {P : Program} {w : World} {H : Hp} {h h' : Heap} {x e : Addr} {o' : HO}
/-- the object at e is changed: x itself, or the dict of the instance x -/
theorem HOk.write (ok : HOk P w H h) (mu : Mut (H x)) (he : e = x ∨ H e = some (.own x)) (k : ∀ b u, b ≠ e → h.get? b = some u → h'.get? b = some u) (heo : ∃ u, h'.get? e = some u)
    (new : ObjOk P w (upd H x o') h' x o') : HOk P w (upd H x o') h' := fun b u q => by
  have nown : ∀ c y, H c = some (.own y) → c ≠ x := fun c y r z => by subst z; rw [r] at mu; exact mu
  have ntup : ∀ c xs, H c = some (.tup xs) → c ≠ x := fun c xs r z => by subst z; rw [r] at mu; exact mu
  by_cases hb : b = x
  · subst hb; rw [upd_same] at q; cases q; exact new
  · rw [upd_ne hb] at q
    by_cases hbe : b = e
    · have q' : H b = some (.own x) := by
        rcases he with z | z
        · exact absurd (hbe.trans z) hb
        · rw [hbe]; exact z
      rw [q] at q'; cases q'
      obtain ⟨v, hv⟩ := heo
      exact ⟨v, by rw [hbe]; exact hv⟩
    · refine (ok b u q).stay (fun c v hc r => k c v ?_ r) (fun c r => by rw [upd_ne (nown c b r)]; exact r) fun c xs r => by rw [upd_ne (ntup c xs r)]; exact r
      rcases hc with rfl | hc
      · exact hbe
      · rintro rfl
        rcases he with z | z
        · exact nown c b hc z
        · rw [hc] at z; cases z; exact hb rfl
end

structure Un (fs ex : List Addr) (H H' : Hp) (h h' : Heap) : Prop where
  keep : ∀ b o, h.get? b = some o → H b = none → b ∉ fs → b ∉ ex → h'.get? b = some o
  slot : ∀ b o, h.get? b = some o → H b = none → b ∈ fs → b ∉ ex → ∃ sl, h'.get? b = some { o with slots := sl }
  free : ∀ b o, h.get? b = some o → H b = none → b ∉ ex → H' b = none
  there : ∀ b o, h.get? b = some o → b ∉ ex → ∃ o', h'.get? b = some o'
  tups : ∀ b xs, H b = some (.tup xs) → H' b = some (.tup xs)
  frzs : ∀ b o u, H b = some (.frz o u) → H' b = some (.frz o u)
  tbls : ∀ b ps, H b = some (.tbl ps) → ∃ more, H' b = some (.tbl (ps ++ more))
section
variable {fs fs' ex ex' : List Addr} {H H1 H2 : Hp} {h h1 h2 h' : Heap} {a x e : Addr} {o : HO}
theorem Un.any (u : Un fs ex H H1 h h1) {b : Addr} {ob : Obj} (q : h.get? b = some ob) (n : H b = none) (hx : b ∉ ex) : ∃ sl, h1.get? b = some { ob with slots := sl } := by
  by_cases hb : b ∈ fs
  · exact u.slot b ob q n hb hx
  · exact ⟨ob.slots, u.keep b ob q n hb hx⟩
theorem Un.trans (a : Un fs ex H H1 h h1) (b : Un fs ex H1 H2 h1 h2) : Un fs ex H H2 h h2 where
  keep := fun c ob q n hc hx => b.keep c ob (a.keep c ob q n hc hx) (a.free c ob q n hx) hc hx
  slot := fun c ob q n hc hx => by
    obtain ⟨sl, e1⟩ := a.slot c ob q n hc hx
    obtain ⟨sl', e2⟩ := b.slot c _ e1 (a.free c ob q n hx) hc hx
    exact ⟨sl', e2⟩
  free := fun c ob q n hx => by
    obtain ⟨o', e1⟩ := a.there c ob q hx
    exact b.free c o' e1 (a.free c ob q n hx) hx
  there := fun c ob q hx => by
    obtain ⟨o', e1⟩ := a.there c ob q hx
    exact b.there c o' e1 hx
  tups := fun c xs q => b.tups c xs (a.tups c xs q)
  frzs := fun c ob xs q => b.frzs c ob xs (a.frzs c ob xs q)
  tbls := fun c ps q => by
    obtain ⟨m1, e1⟩ := a.tbls c ps q
    obtain ⟨m2, e2⟩ := b.tbls c _ e1
    exact ⟨m1 ++ m2, by rw [e2, Array.append_assoc]⟩
theorem Un.kept (k : ∀ b u, h.get? b = some u → h'.get? b = some u) : Un fs ex H H h h' :=
  ⟨fun b ob q _ _ _ => k b ob q, fun b ob q _ _ _ => ⟨ob.slots, k b ob q⟩, fun _ _ _ n _ => n, fun b ob q _ => ⟨ob, k b ob q⟩, fun _ _ q => q, fun _ _ _ q => q, fun _ ps q => ⟨#[], by rw [q]; simp⟩⟩
theorem Un.refl : Un fs ex H H h h := Un.kept fun _ _ q => q
theorem Un.laid (k : ∀ b u, h.get? b = some u → h'.get? b = some u) (hp : h.objs.size ≤ a) (hn : H a = none) : Un fs ex H (upd H a o) h h' where
  keep := fun b u q _ _ _ => k b u q
  slot := fun b u q _ _ _ => ⟨u.slots, k b u q⟩
  free := fun b u q n _ => by rw [upd_ne (Nat.ne_of_lt (Nat.lt_of_lt_of_le (Heap.lt_size q) hp))]; exact n
  there := fun b u q _ => ⟨u, k b u q⟩
  tups := fun b xs q => by rw [upd_ne (ne_of_none q hn)]; exact q
  frzs := fun b u xs q => by rw [upd_ne (ne_of_none q hn)]; exact q
  tbls := fun b ps q => ⟨#[], by rw [upd_ne (ne_of_none q hn), q]; simp⟩
theorem Un.write (mu : Mut (H x)) (he : e = x ∨ H e = some (.own x)) (k : ∀ b u, b ≠ e → h.get? b = some u → h'.get? b = some u) (heo : ∃ u, h'.get? e = some u) : Un fs ex H (upd H x o) h h' := by
  have hx : ∀ b, H b = none → b ≠ x := fun b n z => by subst z; rw [n] at mu; exact mu
  have hb : ∀ b, H b = none → b ≠ e := fun b n z => by
    subst z
    rcases he with r | r
    · exact hx b n r
    · rw [n] at r; cases r
  have hm : ∀ b u, H b = some u → ¬ Mut (some u) → b ≠ x := fun b u q nm z => by subst z; rw [q] at mu; exact nm mu
  refine ⟨fun b u q n _ _ => k b u (hb b n) q, fun b u q n _ _ => ⟨u.slots, k b u (hb b n) q⟩, fun b u q n _ => by rw [upd_ne (hx b n)]; exact n, fun b u q _ => ?_,
    fun b xs q => by rw [upd_ne (hm b _ q fun z => z)]; exact q, fun b u xs q => by rw [upd_ne (hm b _ q fun z => z)]; exact q, fun b ps q => ⟨#[], by rw [upd_ne (hm b _ q fun z => z), q]; simp⟩⟩
  by_cases hbe : b = e
  · subst hbe; exact heo
  · exact ⟨u, k b u hbe q⟩
theorem Un.mono (u : Un fs ex H H1 h h1) (hs : ∀ b ∈ fs, b ∈ fs') (hx : ∀ b ∈ ex, b ∈ ex') : Un fs' ex' H H1 h h1 :=
  ⟨fun b ob q n hb he => u.keep b ob q n (fun z => hb (hs b z)) fun z => he (hx b z), fun _ _ q n _ he => u.any q n fun z => he (hx _ z), fun b ob q n he => u.free b ob q n fun z => he (hx b z), fun b ob q he => u.there b ob q fun z => he (hx b z), u.tups, u.frzs, u.tbls⟩
end

def trk (h : Heap) (H : Hp) : List Addr := (List.range h.objs.size).filter fun a => (H a).isSome
def hidT (h : Heap) (H : Hp) : Heap := PySem.W.hideAll h (trk h H)
theorem hidT_size (h : Heap) (H : Hp) : (hidT h H).objs.size = h.objs.size := PySem.W.hideAll_size _ _
theorem hidT_get {h : Heap} {H : Hp} {b : Addr} {o : Obj} (e : h.get? b = some o) (n : H b = none) : (hidT h H).get? b = some o :=
  PySem.W.hideAll_get _ e fun hm => by
    have q : (H b).isSome = true := (List.mem_filter.mp hm).2
    rw [n] at q; simp at q
theorem of_hidT {h : Heap} {H : Hp} {b : Addr} {o : Obj} (e : (hidT h H).get? b = some o) : h.get? b = some o ∧ H b = none := by
  have e' : h.get? b = some o := PySem.W.of_hideAll (trk h H) e
  refine ⟨e', ?_⟩
  cases q : H b with
  | none => rfl
  | some x =>
    have hm : b ∈ trk h H := List.mem_filter.mpr ⟨List.mem_range.mpr (Heap.lt_size e'), by simp [q]⟩
    have z : (hidT h H).get? b = none := PySem.W.hideAll_none (trk h H) hm
    rw [z] at e; cases e

def allNews (g h : Heap) (L : Addr) : List (Addr × Obj) := (List.range h.objs.size).filterMap fun a => if a = L ∨ (g.get? a).isSome = true then none else (h.get? a).map fun o => (a, o)
def rest (g h : Heap) (L d : Addr) : List (Addr × Obj) := (allNews g h L).filter fun p => decide (p.1 ≠ d)
end L2

namespace L2
open PySem PySem.Spec PyProof.Rows

/-- the module's facts, over the base: the heap at the law's entry without what is tracked there -/
structure Mod (K : PySem.W.Frag) (mg : Str → Option Value) (base : Heap) : Prop where
  kin : K.In base
  glob : base.Ns mainGlobals mg
  blt : ∃ mb, base.Ns builtinsNs mb ∧ ∀ x : Str, x ≠ "__name__" → mb x = bootBuiltins x
  nolimit : base.NoLimit

/-- the context: a def's body (or a comprehension's block) running. base: fixed through the whole law; s₀, H₀: the entry; outer: the frames whose slots others may change (a def's callers); stack: all frames that run;
   ex: iterators that were made ahead of the entry and are walked here (a comprehension's); fn: the names whose cells were made at the entry (a def: all; a comprehension's block: its own); calm: not within an except suite; pn: pins that every state bears; xe: what is wanted of an exception that leaves the code -/
structure Cx where
  prog : Program
  w : World
  K : PySem.W.Frag
  mg : Str → Option Value
  base : Heap
  A : Around
  N : List Str
  s_0 : Shared
  H_0 : Hp
  env : Env
  outer : List Env
  stack : List Env
  ex : List Addr
  fn : Str → Bool
  calm : Bool
  pn : List (Addr × Obj)
  xe : Value → Shared → Prop
/-- the callers' frames -/
def frs (l : List Env) : List Addr := l.filterMap (·.frame)
abbrev Cx.fs (X : Cx) : List Addr := frs X.outer

def Vis (sc : Scope) (x : Str) : Prop := sc.names.lookup x = some .local ∨ sc.names.lookup x = some .cell ∨ sc.names.lookup x = some .free
def Loc (sc : Scope) (x : Str) : Prop := sc.names.lookup x = some .local ∨ sc.names.lookup x = some .cell
def Look (env : Env) (h : Heap) (m : Str → Option Value) (x : Str) (u : Value) : Prop :=
  (env.kindOf x = some .local ∧ m x = some u) ∨ ((env.kindOf x = some .cell ∨ env.kindOf x = some .free) ∧ ∃ c, env.cells.lookup x = some c ∧ h.IsCell c (some u))

structure Cx.Ok (X : Cx) : Prop where
  mod : Mod X.K X.mg X.base
  kind : X.env.scope.kind = .function
  glob : X.env.globals = mainGlobals
  blt : X.env.builtins = builtinsNs
  above : X.s_0.heap.objs.size ≤ X.env.locals
  inj : ∀ x y c, X.env.cells.lookup x = some c → X.env.cells.lookup y = some c → x = y
  has : ∀ x, (X.env.kindOf x = some .cell ∨ X.env.kindOf x = some .free) → ∃ c, X.env.cells.lookup x = some c
  cab : ∀ x c, X.fn x = true → X.env.cells.lookup x = some c → X.s_0.heap.objs.size ≤ c
  hd : X.calm = true → X.A.handled = none
  frames : X.A.frames = some X.stack
  stk : X.stack = X.outer ∨ (X.stack = X.env :: X.outer ∧ X.env.frame = some X.env.locals)
  exf : ∀ b ∈ X.ex, b ≠ X.env.locals ∧ ∀ x c, X.env.cells.lookup x = some c → c ≠ b
  bs : ∀ b o, X.base.get? b = some o → X.s_0.heap.get? b = some o ∧ X.H_0 b = none
  bsz : X.base.objs.size ≤ X.s_0.heap.objs.size
  noex : ∀ b o, X.base.get? b = some o → b ∉ X.ex
  exfs : ∀ b ∈ X.ex, b ∉ X.fs
  funs : X.s_0.heap.FunFrames X.base X.outer
  frf : ∀ b ∈ X.fs, X.H_0 b = none

structure Inv (X : Cx) (pins : List (Addr × Obj)) (σ : List (Option V)) (H : Hp) (s : Shared) : Prop where
  ok : X.Ok
  os : s.os = X.s_0.os
  bare : AllBare s.gens
  base : Un X.fs X.ex X.H_0 H X.s_0.heap s.heap
  loc : ∃ m, s.heap.Ns X.env.locals m ∧ ∀ (i : Nat) (x : Str) (v : V), X.N[i]? = some x → σ[i]? = some (some v) → Vis X.env.scope x → ∃ u, RelV v u ∧ Look X.env s.heap m x u
  cell : ∀ x c, X.env.cells.lookup x = some c → ∃ v, s.heap.IsCell c v
  free : H X.env.locals = none
  freeC : ∀ x c, X.env.cells.lookup x = some c → H c = none
  pin : ∀ p ∈ X.pn ++ pins, s.heap.get? p.1 = some p.2 ∧ H p.1 = none ∧ p.1 ≠ X.env.locals ∧ p.1 ∉ X.fs ∧ ∀ v, p.2.data ≠ .cell v
  hok : HOk X.prog X.w H s.heap
  len : σ.length = X.N.length

section
variable {X : Cx} {pins : List (Addr × Obj)} {σ : List (Option V)} {H H' : Hp} {s : Shared} {h' : Heap}

theorem Cx.Ok.nofr (ok : X.Ok) {b : Addr} {o : Obj} (e : X.base.get? b = some o) : b ∉ X.fs := fun hb => by
  have := (ok.funs.mem hb).1
  rw [e] at this; cases this
theorem Inv.bs (I : Inv X pins σ H s) : ∀ b o, X.base.get? b = some o → s.heap.get? b = some o ∧ H b = none := fun b o e =>
  ⟨I.base.keep b o (I.ok.bs b o e).1 (I.ok.bs b o e).2 (I.ok.nofr e) (I.ok.noex b o e), I.base.free b o (I.ok.bs b o e).1 (I.ok.bs b o e).2 (I.ok.noex b o e)⟩
theorem Inv.bk (I : Inv X pins σ H s) : ∀ b o, X.base.get? b = some o → s.heap.get? b = some o := fun b o e => (I.bs b o e).1
theorem Inv.mod (I : Inv X pins σ H s) : Mod X.K X.mg X.base := I.ok.mod
theorem Inv.kIn (I : Inv X pins σ H s) : X.K.In s.heap := I.ok.mod.kin.keeps I.bk
theorem Inv.nolimit (I : Inv X pins σ H s) : s.heap.NoLimit := I.ok.mod.nolimit.keeps I.bk
theorem Inv.lt (I : Inv X pins σ H s) : X.env.locals < s.heap.objs.size := let ⟨_, hn, _⟩ := I.loc; hn.lt
theorem Inv.sz (I : Inv X pins σ H s) : X.s_0.heap.objs.size ≤ s.heap.objs.size := Nat.le_trans I.ok.above (Nat.le_of_lt I.lt)
theorem Inv.nofs (I : Inv X pins σ H s) {a : Addr} (h : s.heap.objs.size ≤ a) : a ∉ X.fs := fun hb => by
  obtain ⟨_, o, ho, _⟩ := I.ok.funs.mem hb
  exact absurd (Nat.lt_of_lt_of_le (Heap.lt_size ho) (Nat.le_trans I.sz h)) (Nat.lt_irrefl _)
theorem Inv.cne (I : Inv X pins σ H s) : ∀ x c, X.env.cells.lookup x = some c → c ≠ X.env.locals := fun x c e z => by
  obtain ⟨v, o, ho, hd⟩ := I.cell x c e
  obtain ⟨m, ⟨o', es, ep, ho', hd', _⟩, _⟩ := I.loc
  rw [z, ho'] at ho; cases ho; rw [hd'] at hd; cases hd
theorem Inv.funs (I : Inv X pins σ H s) : s.heap.FunFrames X.base X.outer := by
  have all : ∀ (l : List Env), (∀ b ∈ frs l, b ∈ X.fs) → X.s_0.heap.FunFrames X.base l → s.heap.FunFrames X.base l := by
    intro l
    induction l with
    | nil => intro _ _; trivial
    | cons env r ih =>
      intro hs hl
      obtain ⟨hk, ⟨L, o, hf, hn, ho, hd⟩, hr⟩ := hl
      have hL : L ∈ X.fs := hs L (by unfold frs; rw [List.filterMap_cons, hf]; exact List.mem_cons_self)
      obtain ⟨sl, e⟩ := I.base.slot L o ho (I.ok.frf L hL) hL fun z => I.ok.exfs L z hL
      exact ⟨hk, ⟨L, _, hf, hn, e, hd⟩, ih (fun b hb => hs b (by unfold frs; rw [List.filterMap_cons, hf]; exact List.mem_cons_of_mem _ hb)) hr⟩
  exact all X.outer (fun _ hb => hb) I.ok.funs

/-- the frames that run, for a call -/
theorem Inv.stack (I : Inv X pins σ H s) : s.heap.FunFrames X.base X.stack := by
  rcases I.ok.stk with e | ⟨e, hf⟩
  · rw [e]; exact I.funs
  · rw [e]
    obtain ⟨m, hn, _⟩ := I.loc
    refine .cons (by rw [I.ok.kind]; decide) hf hn ?_ I.funs
    exact Heap.get?_none_of_le (Nat.le_trans I.ok.bsz I.ok.above)
theorem Inv.stkSub (I : Inv X pins σ H s) : ∀ b ∈ frs X.stack, b ∈ X.env.locals :: X.fs := fun b hb => by
  rcases I.ok.stk with e | ⟨e, hf⟩
  · rw [e] at hb; exact List.mem_cons_of_mem _ hb
  · rw [e] at hb
    unfold frs at hb
    rw [List.filterMap_cons, hf] at hb
    exact hb
theorem Inv.stkFree (I : Inv X pins σ H s) : ∀ b ∈ frs X.stack, H b = none := fun b hb => by
  rcases List.mem_cons.mp (I.stkSub b hb) with e | hb
  · rw [e]; exact I.free
  · obtain ⟨_, o, ho, _⟩ := I.ok.funs.mem hb
    exact I.base.free b o ho (I.ok.frf b hb) fun z => I.ok.exfs b z hb

/-- THE STEP: the untracked objects but the frame and the records at ch are kept (the callers' frames up to slots), the frame's map is kept, the new abstract heap is held -/
theorem Inv.step {g' : Array GenState} {t' : Nat} {d' : Drawn} {ch : List Addr} (I : Inv X pins σ H s)
    (hch : ∀ b ∈ ch, (b ∈ X.ex ∨ X.s_0.heap.objs.size ≤ b) ∧ b ≠ X.env.locals ∧ (∀ x c, X.env.cells.lookup x = some c → c ≠ b) ∧ ∀ p ∈ X.pn ++ pins, p.1 ≠ b)
    (keep : ∀ b o, b ≠ X.env.locals → b ∉ X.fs → b ∉ ch → s.heap.get? b = some o → H b = none → h'.get? b = some o)
    (slot : ∀ b o, b ≠ X.env.locals → b ∈ X.fs → b ∉ ch → s.heap.get? b = some o → H b = none → ∃ sl, h'.get? b = some { o with slots := sl }) (free : ∀ b o, b ∉ ch → s.heap.get? b = some o → H b = none → H' b = none)
    (there : ∀ b o, b ∉ ch → s.heap.get? b = some o → ∃ o', h'.get? b = some o')
    (tups : ∀ b xs, H b = some (.tup xs) → H' b = some (.tup xs)) (frzs : ∀ b o u, H b = some (.frz o u) → H' b = some (.frz o u)) (tbls : ∀ b ps, H b = some (.tbl ps) → ∃ more, H' b = some (.tbl (ps ++ more)))
    (ns : ∀ m, s.heap.Ns X.env.locals m → h'.Ns X.env.locals m) (hok : HOk X.prog X.w H' h') (hg : AllBare g') :
    Inv X pins σ H' { s with heap := h', gens := g', drawn := d', toks := t' } := by
  have neL : ∀ b o, X.s_0.heap.get? b = some o → b ≠ X.env.locals := fun b o e => Nat.ne_of_lt (Nat.lt_of_lt_of_le (Heap.lt_size e) I.ok.above)
  have neC : ∀ b o, X.s_0.heap.get? b = some o → b ∉ X.ex → b ∉ ch := fun b o e hx hb => by
    rcases (hch b hb).1 with z | z
    · exact hx z
    · exact absurd (Nat.lt_of_lt_of_le (Heap.lt_size e) z) (Nat.lt_irrefl _)
  have cellK : ∀ x c, X.env.cells.lookup x = some c → ∀ v, s.heap.IsCell c v → h'.IsCell c v := fun x c e v ⟨o, ho, hd⟩ => by
    have nch : c ∉ ch := fun z => (hch c z).2.2.1 x c e rfl
    by_cases hc : c ∈ X.fs
    · obtain ⟨sl, q⟩ := slot c o (I.cne x c e) hc nch ho (I.freeC x c e)
      exact ⟨_, q, hd⟩
    · exact ⟨o, keep c o (I.cne x c e) hc nch ho (I.freeC x c e), hd⟩
  refine ⟨I.ok, I.os, hg, ⟨fun b o e n hb hx => ?_, fun b o e n hb hx => ?_, fun b o e n hx => ?_, fun b o e hx => ?_, fun b xs e => tups b xs (I.base.tups b xs e), fun b o xs e => frzs b o xs (I.base.frzs b o xs e), fun b ps e => ?_⟩, ?_, fun x c e => ?_, ?_, fun x c e => ?_, fun p hp => ?_, hok, I.len⟩
  · exact keep b o (neL b o e) hb (neC b o e hx) (I.base.keep b o e n hb hx) (I.base.free b o e n hx)
  · obtain ⟨sl, e1⟩ := I.base.slot b o e n hb hx
    obtain ⟨sl', e2⟩ := slot b _ (neL b o e) hb (neC b o e hx) e1 (I.base.free b o e n hx)
    exact ⟨sl', e2⟩
  · obtain ⟨o', e1⟩ := I.base.there b o e hx
    exact free b o' (neC b o e hx) e1 (I.base.free b o e n hx)
  · obtain ⟨o', e1⟩ := I.base.there b o e hx
    exact there b o' (neC b o e hx) e1
  · obtain ⟨m1, e1⟩ := I.base.tbls b ps e
    obtain ⟨m2, e2⟩ := tbls b _ e1
    exact ⟨m1 ++ m2, by rw [e2, Array.append_assoc]⟩
  · obtain ⟨m, hn, hl⟩ := I.loc
    refine ⟨m, ns m hn, fun i x v e1 e2 e3 => ?_⟩
    obtain ⟨u, r, l⟩ := hl i x v e1 e2 e3
    refine ⟨u, r, ?_⟩
    rcases l with l | ⟨k, c, e, z⟩
    · exact .inl l
    · exact .inr ⟨k, c, e, cellK x c e _ z⟩
  · obtain ⟨v, z⟩ := I.cell x c e
    exact ⟨v, cellK x c e v z⟩
  · obtain ⟨m, ⟨o, _, _, ho, _⟩, _⟩ := I.loc
    exact free _ o (fun z => (hch _ z).2.1 rfl) ho I.free
  · obtain ⟨v, o, ho, hd⟩ := I.cell x c e
    exact free c o (fun z => (hch c z).2.2.1 x c e rfl) ho (I.freeC x c e)
  · obtain ⟨e, n, ne, nf, d⟩ := I.pin p hp
    have nch : p.1 ∉ ch := fun z => (hch p.1 z).2.2.2 p hp rfl
    exact ⟨keep p.1 p.2 ne nf nch e n, free p.1 p.2 nch e n, ne, nf, d⟩
/-- .. where the frame's own object is kept too -/
theorem Inv.un {t' : Nat} (I : Inv X pins σ H s) (u : Un X.fs [] H H' s.heap h') (hok : HOk X.prog X.w H' h') : Inv X pins σ H' { s with heap := h', toks := t' } := by
  obtain ⟨m, ⟨o, es, ep, ho, r⟩, _⟩ := id I.loc
  obtain ⟨sl, hL⟩ := u.any ho I.free (by simp)
  exact I.step (g' := s.gens) (d' := s.drawn) (ch := []) (fun _ z => nomatch z) (fun b o _ hb _ e n => u.keep b o e n hb (by simp)) (fun b o _ hb _ e n => u.slot b o e n hb (by simp)) (fun b o _ e n => u.free b o e n (by simp)) (fun b o _ e => u.there b o e (by simp)) u.tups u.frzs u.tbls (fun m' hm => by
    obtain ⟨o', es', ep', ho', r'⟩ := hm
    rw [ho] at ho'; cases ho'
    exact ⟨_, es', ep', hL, r'⟩) hok I.bare
/-- behind a call (or a comprehension's block): the slots of this frame may have changed too, the records at ch may have turned -/
theorem Inv.call {g' : Array GenState} {t' : Nat} {d' : Drawn} {ch : List Addr} (I : Inv X pins σ H s) (u : Un (frs X.stack) ch H H' s.heap h') (hok : HOk X.prog X.w H' h') (hg : AllBare g')
    (hch : ∀ b ∈ ch, (b ∈ X.ex ∨ X.s_0.heap.objs.size ≤ b) ∧ b ≠ X.env.locals ∧ (∀ x c, X.env.cells.lookup x = some c → c ≠ b) ∧ ∀ p ∈ X.pn ++ pins, p.1 ≠ b) :
    Inv X pins σ H' { s with heap := h', gens := g', drawn := d', toks := t' } := by
  obtain ⟨m, ⟨o, es, ep, ho, r⟩, _⟩ := id I.loc
  obtain ⟨sl, hL⟩ := u.any ho I.free fun z => (hch _ z).2.1 rfl
  exact I.step (ch := ch) hch (fun b o hL hb hc e n => u.keep b o e n (fun z => (List.mem_cons.mp (I.stkSub b z)).elim hL hb) hc) (fun b o _ _ hc e n => u.any e n hc) (fun b o hc e n => u.free b o e n hc) (fun b o hc e => u.there b o e hc) u.tups u.frzs u.tbls (fun m' hm => by
    obtain ⟨o', es', ep', ho', r'⟩ := hm
    rw [ho] at ho'; cases ho'
    exact ⟨_, es', ep', hL, r'⟩) hok hg
/-- an untracked record of ours (an iterator) has turned -/
theorem Inv.turned {t' : Nat} {it : Addr} (I : Inv X pins σ H s) (k : ∀ b o, b ≠ it → s.heap.get? b = some o → h'.get? b = some o) (hn : H it = none) (hL : it ≠ X.env.locals)
    (h1 : it ∈ X.ex ∨ X.s_0.heap.objs.size ≤ it) (h2 : ∀ x c, X.env.cells.lookup x = some c → c ≠ it) (h3 : ∀ p ∈ X.pn ++ pins, p.1 ≠ it) : Inv X pins σ H { s with heap := h', toks := t' } := by
  have nit : ∀ b u, H b = some u → b ≠ it := fun b u e z => by rw [z, hn] at e; cases e
  refine I.step (g' := s.gens) (d' := s.drawn) (ch := [it]) (fun b hb => ?_) (fun b o _ _ hc e _ => k b o (fun z => hc (by simp [z])) e) (fun b o _ _ hc e _ => ⟨o.slots, k b o (fun z => hc (by simp [z])) e⟩) (fun _ _ _ _ n => n)
    (fun b o hc e => ⟨o, k b o (fun z => hc (by simp [z])) e⟩) (fun _ _ e => e) (fun _ _ _ e => e) (fun b ps e => ⟨#[], by rw [e]; simp⟩) (fun m hm => ?_) (fun b u e => ?_) I.bare
  · have e : b = it := by simpa using hb
    subst e
    exact ⟨h1, hL, h2, h3⟩
  · obtain ⟨o, es, ep, ho, r⟩ := hm
    exact ⟨o, es, ep, k _ o (Ne.symm hL) ho, r⟩
  · refine (I.hok b u e).stay (fun c v hc q => k c v ?_ q) (fun _ q => q) fun _ _ q => q
    rcases hc with z | z
    · rw [z]; exact nit b u e
    · exact nit c _ z
theorem Inv.tok (I : Inv X pins σ H s) (t : Nat) : Inv X pins σ H { s with toks := t } := I.un (h' := s.heap) (t' := t) Un.refl I.hok
/-- all objects kept -/
theorem Inv.kept {t' : Nat} (I : Inv X pins σ H s) (k : ∀ b u, s.heap.get? b = some u → h'.get? b = some u) : Inv X pins σ H { s with heap := h', toks := t' } := I.un (Un.kept k) (I.hok.kept k)
/-- a new object laid and tracked -/
theorem Inv.laid {a : Addr} {o : HO} {t' : Nat} (I : Inv X pins σ H s) (k : ∀ b u, s.heap.get? b = some u → h'.get? b = some u) (hp : s.heap.objs.size ≤ a) (new : ObjOk X.prog X.w (upd H a o) h' a o) :
    Inv X pins σ (upd H a o) { s with heap := h', toks := t' } := I.un (Un.laid k hp (I.hok.fresh hp)) (I.hok.laid k hp new)
/-- an object written -/
theorem Inv.write {x e : Addr} {o : HO} {t' : Nat} (I : Inv X pins σ H s) (mu : Mut (H x)) (he : e = x ∨ H e = some (.own x)) (k : ∀ b u, b ≠ e → s.heap.get? b = some u → h'.get? b = some u) (heo : ∃ u, h'.get? e = some u)
    (new : ObjOk X.prog X.w (upd H x o) h' x o) : Inv X pins σ (upd H x o) { s with heap := h', toks := t' } := I.un (Un.write mu he k heo) (I.hok.write mu he k heo new)
/-- forgetting slots, pins -/
theorem Inv.weak {σ' : List (Option V)} (I : Inv X pins σ H s) (hl : σ'.length = σ.length) (w : ∀ (i : Nat) v, σ'[i]? = some (some v) → σ[i]? = some (some v)) : Inv X pins σ' H s :=
  ⟨I.ok, I.os, I.bare, I.base, let ⟨m, hn, hl'⟩ := I.loc; ⟨m, hn, fun i x v e1 e2 e3 => hl' i x v e1 (w i v e2) e3⟩, I.cell, I.free, I.freeC, I.pin, I.hok, hl.trans I.len⟩
theorem Inv.pins_of {pins' : List (Addr × Obj)} (I : Inv X pins σ H s) (h : ∀ p ∈ pins', s.heap.get? p.1 = some p.2 ∧ H p.1 = none ∧ p.1 ≠ X.env.locals ∧ p.1 ∉ X.fs ∧ ∀ v, p.2.data ≠ .cell v) : Inv X pins' σ H s :=
  ⟨I.ok, I.os, I.bare, I.base, I.loc, I.cell, I.free, I.freeC, fun p hp => (List.mem_append.mp hp).elim (fun z => I.pin p (List.mem_append_left _ z)) (h p), I.hok, I.len⟩

theorem nodup_ix {N : List Str} (hN : N.Nodup) {i j : Nat} {x : Str} (a : N[i]? = some x) (b : N[j]? = some x) : i = j := by
  obtain ⟨h1, e1⟩ := List.getElem?_eq_some_iff.mp a
  obtain ⟨h2, e2⟩ := List.getElem?_eq_some_iff.mp b
  exact (List.getElem_inj hN).mp (e1.trans e2.symm)

/-- a name is stored; what changed -/
theorem store_ok2 {M : Model} {A : Around} {E : Value → Shared → Prop} {i : Nat} {x : Str} {v : V} {u : Value} {Q : Unit → Shared → Prop} (I : Inv X pins σ H s) (hN : X.N.Nodup) (hi : X.N[i]? = some x) (hx : Loc X.env.scope x) (r : RelV v u)
    (h : ∀ s', Inv X pins (σ.set i (some v)) H s' → (∃ a, Heap.SameBut a s.heap s'.heap ∧ (a = X.env.locals ∨ X.env.cells.lookup x = some a)) → Q () s') (hf : X.fn x = true ∨ X.env.scope.names.lookup x = some .local := by first | exact .inl rfl | exact .inr rfl | assumption) : wpAny M A (storeName X.env x u) Q E s := by
  obtain ⟨m, hn, hl⟩ := id I.loc
  have hcls : (X.env.scope.kind == .class || (X.env.scope.kind == .module && X.env.locals != X.env.globals)) = false := by rw [I.ok.kind]; rfl
  have hiσ : i < σ.length := by rw [I.len]; exact (List.getElem?_eq_some_iff.mp hi).1
  have cne := I.cne
  have tracked : ∀ {a : Addr} {h' : Heap}, (∃ o, s.heap.get? a = some o ∧ H a = none) → Heap.SameBut a s.heap h' → HOk X.prog X.w H h' := fun {a h'} ha hs b ob e => by
    obtain ⟨_, _, hfree⟩ := ha
    refine (I.hok b ob e).stay (fun c w' hc q => (hs.2 c ?_).trans q) (fun _ q => q) fun _ _ q => q
    rintro rfl
    rcases hc with rfl | hc
    · rw [hfree] at e; cases e
    · rw [hfree] at hc; cases hc
  rcases hx with hk | hk
  · refine wpAny_storeName_local hk hn (fun h' hn' hs => ?_) hcls
    obtain ⟨oL, _, _, hoL, _⟩ := id hn
    refine h _ ⟨I.ok, I.os, I.bare, ⟨fun b o e n hb hx => ?_, fun b o e n hb hx => ?_, I.base.free, fun b o e hx => ?_, I.base.tups, I.base.frzs, I.base.tbls⟩, ⟨_, hn', fun j y v' e1 e2 e3 => ?_⟩, fun y c e => ?_, I.free, I.freeC, fun p hp => ?_, tracked ⟨oL, hoL, I.free⟩ hs, by simpa using I.len⟩ ⟨_, hs, .inl rfl⟩
    · exact (hs.2 b (Nat.ne_of_lt (Nat.lt_of_lt_of_le (Heap.lt_size e) I.ok.above))).trans (I.base.keep b o e n hb hx)
    · obtain ⟨sl, e1⟩ := I.base.slot b o e n hb hx
      exact ⟨sl, (hs.2 b (Nat.ne_of_lt (Nat.lt_of_lt_of_le (Heap.lt_size e) I.ok.above))).trans e1⟩
    · obtain ⟨o', e1⟩ := I.base.there b o e hx
      exact ⟨o', (hs.2 b (Nat.ne_of_lt (Nat.lt_of_lt_of_le (Heap.lt_size e) I.ok.above))).trans e1⟩
    · by_cases hj : j = i
      · subst hj
        rw [hi] at e1; cases e1
        rw [List.getElem?_set_self hiσ] at e2
        cases e2
        exact ⟨u, r, .inl ⟨hk, by simp⟩⟩
      · rw [List.getElem?_set_ne (Ne.symm hj)] at e2
        obtain ⟨u', r', q⟩ := hl j y v' e1 e2 e3
        refine ⟨u', r', ?_⟩
        rcases q with ⟨k, e⟩ | ⟨k, c, e, z⟩
        · refine .inl ⟨k, ?_⟩
          have : y ≠ x := fun e => hj (nodup_ix hN e1 (e ▸ hi))
          simp [this, e]
        · exact .inr ⟨k, c, e, z.sameBut hs (cne y c e)⟩
    · obtain ⟨w', z⟩ := I.cell y c e
      exact ⟨w', z.sameBut hs (cne y c e)⟩
    · obtain ⟨e, n, ne, nf, d⟩ := I.pin p hp
      exact ⟨(hs.2 p.1 ne).trans e, n, ne, nf, d⟩
  · have hfn : X.fn x = true := by
      rcases hf with z | z
      · exact z
      · rw [z] at hk; cases hk
    obtain ⟨c, hc⟩ := I.ok.has x (.inl hk)
    obtain ⟨w', z⟩ := I.cell x c hc
    refine wpAny_storeName_cell I.ok.kind hk hc z (fun h' hc' hs => ?_)
    obtain ⟨oc, hoc, hocd⟩ := id z
    refine h { s with heap := h' } ⟨I.ok, I.os, I.bare, ⟨fun b o e n hb hx => ?_, fun b o e n hb hx => ?_, I.base.free, fun b o e hx => ?_, I.base.tups, I.base.frzs, I.base.tbls⟩, ⟨m, hn.sameBut hs (Ne.symm (cne x c hc)), fun j y v' e1 e2 e3 => ?_⟩, fun y c' e => ?_, I.free, I.freeC, fun p hp => ?_, tracked ⟨oc, hoc, I.freeC x c hc⟩ hs, by simpa using I.len⟩ ⟨c, hs, .inr hc⟩
    · exact (hs.2 b (Nat.ne_of_lt (Nat.lt_of_lt_of_le (Heap.lt_size e) (I.ok.cab x c hfn hc)))).trans (I.base.keep b o e n hb hx)
    · obtain ⟨sl, e1⟩ := I.base.slot b o e n hb hx
      exact ⟨sl, (hs.2 b (Nat.ne_of_lt (Nat.lt_of_lt_of_le (Heap.lt_size e) (I.ok.cab x c hfn hc)))).trans e1⟩
    · obtain ⟨o', e1⟩ := I.base.there b o e hx
      exact ⟨o', (hs.2 b (Nat.ne_of_lt (Nat.lt_of_lt_of_le (Heap.lt_size e) (I.ok.cab x c hfn hc)))).trans e1⟩
    · by_cases hj : j = i
      · subst hj
        rw [hi] at e1; cases e1
        rw [List.getElem?_set_self hiσ] at e2
        cases e2
        exact ⟨u, r, .inr ⟨.inl hk, c, hc, hc'⟩⟩
      · rw [List.getElem?_set_ne (Ne.symm hj)] at e2
        obtain ⟨u', r', q⟩ := hl j y v' e1 e2 e3
        refine ⟨u', r', ?_⟩
        rcases q with q | ⟨k, c', e, z'⟩
        · exact .inl q
        · refine .inr ⟨k, c', e, z'.sameBut hs ?_⟩
          rintro rfl
          exact hj (nodup_ix hN e1 (I.ok.inj _ _ _ e hc ▸ hi))
    · by_cases hcc : c' = c
      · subst hcc; exact ⟨_, hc'⟩
      · obtain ⟨w2, z2⟩ := I.cell y c' e
        exact ⟨w2, z2.sameBut hs hcc⟩
    · obtain ⟨e, n, ne, nf, d⟩ := I.pin p hp
      refine ⟨(hs.2 p.1 ?_).trans e, n, ne, nf, d⟩
      intro q
      rw [q, hoc] at e
      have q' : oc = p.2 := Option.some.inj e
      exact d w' (by rw [← q']; exact hocd)
theorem store_ok {M : Model} {A : Around} {E : Value → Shared → Prop} {i : Nat} {x : Str} {v : V} {u : Value} {Q : Unit → Shared → Prop} (I : Inv X pins σ H s) (hN : X.N.Nodup) (hi : X.N[i]? = some x) (hx : Loc X.env.scope x) (r : RelV v u)
    (h : ∀ s', Inv X pins (σ.set i (some v)) H s' → Q () s') (hf : X.fn x = true ∨ X.env.scope.names.lookup x = some .local := by first | exact .inl rfl | exact .inr rfl | assumption) : wpAny M A (storeName X.env x u) Q E s :=
  store_ok2 I hN hi hx r (fun s' I' _ => h s' I') hf
/-- behind a call or a block, the state as it is -/
theorem Inv.call' {s' : Shared} {ch : List Addr} (I : Inv X pins σ H s) (ho : s'.os = s.os) (u : Un (frs X.stack) ch H H' s.heap s'.heap) (hok : HOk X.prog X.w H' s'.heap) (hg : AllBare s'.gens)
    (hch : ∀ b ∈ ch, (b ∈ X.ex ∨ X.s_0.heap.objs.size ≤ b) ∧ b ≠ X.env.locals ∧ (∀ x c, X.env.cells.lookup x = some c → c ≠ b) ∧ ∀ p ∈ X.pn ++ pins, p.1 ≠ b) : Inv X pins σ H' s' := by
  obtain ⟨h', g', d', t', o'⟩ := s'
  have e : o' = s.os := ho
  subst e
  exact I.call (g' := g') (t' := t') (d' := d') u hok hg hch
end

/-- an exception: its class, its own dict's address (where it has one), the abstract heap behind it -/
abbrev XK := Value → Option Addr → Hp → Prop
abbrev St := List (Option V)
abbrev VK := V → Hp → Prop
/-- an expression's reading; a test's; an argument list's -/
abbrev TE := St → Hp → VK → Prop
abbrev TT := St → Hp → (Bool → Hp → Prop) → Prop
abbrev TA := St → Hp → (List V → Hp → Prop) → Prop
/-- what is wanted behind a statement -/
structure Ends where
  nx : St → Hp → Prop
  rt : VK
  bk : St → Hp → Prop := fun _ _ => False
  ct : St → Hp → Prop := fun _ _ => False
abbrev TS := Ends → St → Hp → Prop

def EP (X : Cx) (pins : List (Addr × Obj)) (σ : St) (Q : VK) (u : Value) (s' : Shared) : Prop := ∃ v H', Inv X pins σ H' s' ∧ RelV v u ∧ Q v H'
def TP (X : Cx) (pins : List (Addr × Obj)) (σ : St) (Q : Bool → Hp → Prop) (b : Bool) (s' : Shared) : Prop := ∃ H', Inv X pins σ H' s' ∧ Q b H'
def AP (X : Cx) (pins : List (Addr × Obj)) (σ : St) (Q : List V → Hp → Prop) (us : List Value) (s' : Shared) : Prop := ∃ vs H', Inv X pins σ H' s' ∧ Vals vs us ∧ Q vs H'
def SP (X : Cx) (pins : List (Addr × Obj)) (D : Ends) (f : Flow) (s' : Shared) : Prop :=
  match f with
  | .next => ∃ σ' H', Inv X pins σ' H' s' ∧ D.nx σ' H'
  | .brk => ∃ σ' H', Inv X pins σ' H' s' ∧ D.bk σ' H'
  | .cont => ∃ σ' H', Inv X pins σ' H' s' ∧ D.ct σ' H'
  | .ret u => ∃ v σ' H', Inv X pins σ' H' s' ∧ RelV v u ∧ D.rt v H'

def PE (X : Cx) (e : Expr) (t : TE) : Prop :=
  ∀ (pins : List (Addr × Obj)) (s : Shared) (σ : St) (H : Hp) (Q : VK), Inv X pins σ H s → t σ H Q → wpAny (model X.prog X.w) X.A (eval e X.env) (EP X pins σ Q) X.xe s
def PT (X : Cx) (e : Expr) (t : TT) : Prop :=
  ∀ (pins : List (Addr × Obj)) (s : Shared) (σ : St) (H : Hp) (Q : Bool → Hp → Prop), Inv X pins σ H s → t σ H Q → wpAny (model X.prog X.w) X.A (isTrue e X.env (eval e X.env)) (TP X pins σ Q) X.xe s
/-- a test whatever its 'whole' is (and, or) -/
def PW (X : Cx) (e : Expr) (t : TT) : Prop :=
  ∀ (whole : Sem Value) (pins : List (Addr × Obj)) (s : Shared) (σ : St) (H : Hp) (Q : Bool → Hp → Prop), Inv X pins σ H s → t σ H Q → wpAny (model X.prog X.w) X.A (isTrue e X.env whole) (TP X pins σ Q) X.xe s
theorem PW.pt {X : Cx} {e : Expr} {t : TT} (h : PW X e t) : PT X e t := h _
/-- an argument list (no star), from the left -/
def PA (X : Cx) (es : List Expr) (t : TA) : Prop :=
  ∀ (pos : Pos) (pins : List (Addr × Obj)) (s : Shared) (σ : St) (H : Hp) (Q : List V → Hp → Prop), Inv X pins σ H s → t σ H Q → wpAny (model X.prog X.w) X.A (spliced (backTo pos (starEach es X.env))) (AP X pins σ Q) X.xe s
def PS (X : Cx) (st : Stmt) (t : TS) : Prop :=
  ∀ (pins : List (Addr × Obj)) (s : Shared) (σ : St) (H : Hp) (D : Ends), Inv X pins σ H s → t D σ H → wpAny (model X.prog X.w) X.A (exec st X.env) (SP X pins D) X.xe s
def PSs (X : Cx) (st : List Stmt) (t : TS) : Prop :=
  ∀ (pins : List (Addr × Obj)) (s : Shared) (σ : St) (H : Hp) (D : Ends), Inv X pins σ H s → t D σ H → wpAny (model X.prog X.w) X.A (execs st X.env) (SP X pins D) X.xe s
/-- weaken the end -/
theorem thn {α : Type} {t : Sem α} {Q Q' : α → Shared → Prop} {M : Model} {A : Around} {E : Value → Shared → Prop} {s : Shared} (h : wpAny M A t Q E s) (hQ : ∀ a s, Q a s → Q' a s) : wpAny M A t Q' E s := wpAny_mono h hQ fun _ _ x => x
end L2

namespace L2
open PySem PySem.Spec PyProof.Rows
section
variable {X : Cx}

def tVar (i : Nat) : TE := fun σ H Q => ∃ v, σ[i]? = some (some v) ∧ Q v H
def tC (v : V) : TE := fun _ H Q => Q v H
theorem pe_var {i : Nat} {x : Str} {pos : Pos} (hN : X.N[i]? = some x) (hv : Vis X.env.scope x) (hd : (x == ("__debug__" : Str)) = false := by decide) (hcd : (x == ("__classdict__" : Str)) = false := by decide) : PE X (.Name x pos) (tVar i) := by
  intro pins s σ H Q I h
  obtain ⟨v, e, h⟩ := h
  obtain ⟨m, hn, hl⟩ := I.loc
  obtain ⟨u, r, l⟩ := hl i x v hN e hv
  have fin : EP X pins σ Q u s := ⟨v, H, I, r, h⟩
  rcases l with ⟨hk, hm⟩ | ⟨hk, c, hc, hcell⟩
  · exact wpAny_Name (wpAny_loadName_local I.ok.kind hk hn hm fin) hd
  · rcases hk with hk | hk
    · exact wpAny_Name (wpAny_loadName_cell I.ok.kind hk hc hcell fin) hd
    · exact wpAny_Name (wpAny_loadName_free I.ok.kind hk hc hcell fin hcd) hd
theorem pe_int {i j pos} : PE X (.Constant (.int i) j pos) (tC (.int i)) := fun _ _ _ H _ I h => wpAny_Constant_int ⟨.int i, H, I.tok _, ⟨_, rfl⟩, h⟩
theorem pe_non {j pos} : PE X (.Constant .none j pos) (tC .non) := fun _ _ _ H _ I h => Constant_none ⟨.non, H, I, rfl, h⟩
/-- a global name of the def -/
def Gl (X : Cx) (x : Str) : Prop := X.env.kindOf x = some .globalImplicit
theorem ld_glob {E : Value → Shared → Prop} {pins : List (Addr × Obj)} {s : Shared} {σ : St} {H : Hp} {x : Str} {u : Value} {pos : Pos} {Q : Value → Shared → Prop} (I : Inv X pins σ H s) (hg : Gl X x) (hm : X.mg x = some u) (h : Q u s)
    (hd : (x == ("__debug__" : Str)) = false := by decide) : wpAny (model X.prog X.w) X.A (eval (.Name x pos) X.env) Q E s :=
  Calls.Name_function_global I.ok.kind hg (Calls.loadGlobal_global (by rw [I.ok.glob]; exact I.mod.glob.keeps I.bk) hm h) hd
theorem ld_blt {E : Value → Shared → Prop} {pins : List (Addr × Obj)} {s : Shared} {σ : St} {H : Hp} {x : Str} {u : Value} {pos : Pos} {Q : Value → Shared → Prop} (I : Inv X pins σ H s) (hg : Gl X x) (hm : X.mg x = none) (hv : bootBuiltins x = some u) (h : Q u s)
    (hn : x ≠ "__name__" := by decide) (hd : (x == ("__debug__" : Str)) = false := by decide) : wpAny (model X.prog X.w) X.A (eval (.Name x pos) X.env) Q E s := by
  obtain ⟨mb, h1, h2⟩ := I.mod.blt
  exact Calls.Name_function_global I.ok.kind hg (Calls.loadGlobal_builtin (by rw [I.ok.glob]; exact I.mod.glob.keeps I.bk) hm (by rw [I.ok.blt]; exact h1.keeps I.bk) ((h2 x hn).trans hv) h) hd
/-- a module's constant, a class, a function, as a value -/
theorem pe_glob {x : Str} {v : V} {u : Value} {pos : Pos} (hg : Gl X x) (hm : X.mg x = some u) (r : RelV v u) (hd : (x == ("__debug__" : Str)) = false := by decide) : PE X (.Name x pos) (tC v) :=
  fun _ _ _ H _ I h => ld_glob I hg hm ⟨v, H, I, r, h⟩ hd
variable {a b : Expr} {ta tb : TE} {pos : Pos}
/-- a comparison as a value, as a test -/
def tB (t : TE) : TT := fun σ H Q => t σ H fun x H1 => ∃ c, x = .bl c ∧ Q c H1
/-- an expression whose value is a bool, as a test -/
theorem pt_val {e : Expr} {t : TE} (h : PE X e t) (he : ∀ whole, isTrue e X.env whole = (do let v ← whole; standAt e.pos; holding [v] (truthy v)) := by intro _; rfl) : PT X e (tB t) := by
  intro pins s σ H Q I hw
  refine isTrue_plain (thn (h pins s σ H _ I hw) fun v s1 ⟨x, H1, I1, r1, q1⟩ => ?_) (he _)
  obtain ⟨d, rfl, q⟩ := q1
  cases r1
  exact wpAny_truthy_bool ⟨H1, I1, q⟩

variable {tA tB' : TT} {rest : List Expr}
def tAnd (t u : TT) : TT := fun σ H Q => t σ H fun c H1 => if c = true then u σ H1 Q else Q false H1
def tOr (t u : TT) : TT := fun σ H Q => t σ H fun c H1 => if c = true then Q true H1 else u σ H1 Q
def tNot (t : TT) : TT := fun σ H Q => t σ H fun c H1 => Q (!c) H1
theorem pw_and1 (ha : PT X a tA) : PW X (.BoolOp .And [a] pos) tA := by
  intro wh pins s σ H Q I h
  refine isTrue_and (thn (ha pins s σ H Q I h) fun c s1 e => ?_)
  cases c with
  | true => exact isTrue_and_nil e
  | false => exact e
theorem pw_or1 (ha : PT X a tA) : PW X (.BoolOp .Or [a] pos) tA := by
  intro wh pins s σ H Q I h
  refine isTrue_or (thn (ha pins s σ H Q I h) fun c s1 e => ?_)
  cases c with
  | false => exact isTrue_or_nil e
  | true => exact e
theorem pw_and (ha : PT X a tA) (hb : PW X (.BoolOp .And (b :: rest) pos) tB') : PW X (.BoolOp .And (a :: b :: rest) pos) (tAnd tA tB') := by
  intro wh pins s σ H Q I h
  refine isTrue_and (thn (ha pins s σ H _ I h) fun c s1 ⟨H1, I1, q1⟩ => ?_)
  cases c with
  | true => exact hb wh pins s1 σ H1 Q I1 q1
  | false => exact ⟨H1, I1, q1⟩
theorem pw_or (ha : PT X a tA) (hb : PW X (.BoolOp .Or (b :: rest) pos) tB') : PW X (.BoolOp .Or (a :: b :: rest) pos) (tOr tA tB') := by
  intro wh pins s σ H Q I h
  refine isTrue_or (thn (ha pins s σ H _ I h) fun c s1 ⟨H1, I1, q1⟩ => ?_)
  cases c with
  | true => exact ⟨H1, I1, q1⟩
  | false => exact hb wh pins s1 σ H1 Q I1 q1
theorem pt_not (ha : PT X a tA) : PT X (.UnaryOp .Not a pos) (tNot tA) := by
  intro pins s σ H Q I h
  exact isTrue_not (ha pins s σ H (fun c H1 => Q (!c) H1) I h)
/-- .. as values (bools) -/
def tAndV (ta tb : TE) : TE := fun σ H Q => ta σ H fun x H1 => ∃ c, x = .bl c ∧ if c = true then tb σ H1 Q else Q (.bl false) H1
theorem pe_one {op} {t : TE} (h : PE X a t) : PE X (.BoolOp op [a] pos) t := fun pins s σ H Q I hw => BoolOp_one (h pins s σ H Q I hw)
theorem pe_and (ha : PE X a ta) (hb : PE X (.BoolOp .And (b :: rest) pos) tb) : PE X (.BoolOp .And (a :: b :: rest) pos) (tAndV ta tb) := by
  intro pins s σ H Q I h
  refine BoolOp_and (thn (ha pins s σ H _ I h) fun v s1 ⟨x, H1, I1, r1, q1⟩ => ?_)
  obtain ⟨c, rfl, q1⟩ := q1
  cases r1
  refine wpAny_truthy_bool ?_
  cases c with
  | true => exact hb pins s1 σ H1 Q I1 q1
  | false => exact ⟨.bl false, H1, I1, rfl, q1⟩
/-- a if t else b -/
def tIf (t : TT) (ta tb : TE) : TE := fun σ H Q => t σ H fun c H1 => if c = true then ta σ H1 Q else tb σ H1 Q
theorem pe_ifExp {c : Expr} (hc : PT X c tA) (ha : PE X a ta) (hb : PE X b tb) : PE X (.IfExp c a b pos) (tIf tA ta tb) := by
  intro pins s σ H Q I h
  refine wpAny_IfExp (thn (hc pins s σ H _ I h) fun d s1 ⟨H1, I1, q1⟩ => ?_)
  cases d with
  | true => exact ha pins s1 σ H1 Q I1 q1
  | false => exact hb pins s1 σ H1 Q I1 q1
end
end L2

namespace L2
open PySem PySem.Spec PyProof.Rows

def SqL (K : PySem.W.Frag) (H : Hp) (a : Addr) (xs : List V) : Prop :=
  Rd H a (.lst xs) ∨
    ∃ (o : Obj) (its : Array Value) (n : Nat), K.lookup a = some o ∧ o.cls = .type "list" ∧ o.dict = none ∧ o.data = .seq its n ∧ its.size ≤ sizeLine ∧ Vals xs its.toList
def SqT (K : PySem.W.Frag) (H : Hp) (a : Addr) (xs : List V) : Prop :=
  Rd H a (.tup xs) ∨
    ∃ (o : Obj) (its : Array Value) (n : Nat), K.lookup a = some o ∧ o.cls = .type "tuple" ∧ o.data = .seq its n ∧ its.size ≤ sizeLine ∧ Vals xs its.toList
def absV : Value → Option V
  | .none => some .non
  | .bool b => some (.bl b)
  | .int i _ => some (.int i)
  | .str x _ => some (.str x)
  | .bytes b _ => some (.byt b)
  | .float b _ => some (.flt b)
  | .ref a => some (.ref a)
  | .type n => some (.ty n)
  | _ => none
theorem RelV.abs {x : V} {u : Value} (r : RelV x u) : absV u = some x := by
  cases x with
  | non => cases r; rfl
  | bl _ => cases r; rfl
  | int _ => obtain ⟨t, rfl⟩ := r; rfl
  | str _ => obtain ⟨t, rfl⟩ := r; rfl
  | byt _ => obtain ⟨t, rfl⟩ := r; rfl
  | flt _ => obtain ⟨t, rfl⟩ := r; rfl
  | ref _ => cases r; rfl
  | ty _ => cases r; rfl
theorem RelV.inj {x y : V} {u : Value} (r : RelV x u) (q : RelV y u) : x = y := Option.some.inj (r.abs.symm.trans q.abs)
theorem Vals.inj : ∀ {xs ys : List V} {us : List Value}, Vals xs us → Vals ys us → xs = ys
  | _, _, _, .nil, .nil => rfl
  | _, _, _, .cons r t, .cons r' t' => by rw [r.inj r', Vals.inj t t']
section
variable {X : Cx} {pins : List (Addr × Obj)} {σ : St} {H : Hp} {s : Shared} {a : Addr} {xs ys : List V}
theorem SqL.of {K : PySem.W.Frag} (h : H a = some (.lst xs)) : SqL K H a xs := .inl (.inl h)
theorem SqT.of {K : PySem.W.Frag} (h : H a = some (.tup xs)) : SqT K H a xs := .inl (.inl h)
theorem Inv.list (I : Inv X pins σ H s) (h : SqL X.K H a xs) : ∃ its : List Value, Vals xs its ∧ PlainL s.heap a its.toArray ∧ xs.length ≤ sizeLine := by
  rcases h with h | ⟨o, its, n, hk, hc, hd, hs, hz, r⟩
  · obtain ⟨z, its, n, r, e⟩ := h.ok I.hok
    exact ⟨its, r, ⟨_, n, e, rfl, rfl, rfl⟩, z⟩
  · refine ⟨its.toList, r, ⟨o, n, I.kIn a o hk, hc, hd, by simpa using hs⟩, ?_⟩
    have e := r.length
    simp only [Array.length_toList] at e
    omega
theorem Inv.tuple (I : Inv X pins σ H s) (h : SqT X.K H a xs) : ∃ its : List Value, Vals xs its ∧ IsTup s.heap a its.toArray ∧ xs.length ≤ sizeLine := by
  rcases h with h | ⟨o, its, n, hk, hc, hs, hz, r⟩
  · obtain ⟨z, its, r, p⟩ := h.ok I.hok
    exact ⟨its, r, p, z⟩
  · refine ⟨its.toList, r, ⟨o, I.kIn a o hk, hc, n, by simpa using hs⟩, ?_⟩
    have e := r.length
    simp only [Array.length_toList] at e
    omega
theorem Inv.list_inj (I : Inv X pins σ H s) (h : SqL X.K H a xs) (h' : SqL X.K H a ys) : xs = ys := by
  obtain ⟨its, r, ⟨o, n, e, _, _, d⟩, _⟩ := I.list h
  obtain ⟨its', r', ⟨o', n', e', _, _, d'⟩, _⟩ := I.list h'
  rw [e] at e'; cases e'
  rw [d] at d'
  injection d' with d1 _
  have : its = its' := by simpa using congrArg Array.toList d1
  subst this
  exact r.inj r'
theorem Inv.tuple_inj (I : Inv X pins σ H s) (h : SqT X.K H a xs) (h' : SqT X.K H a ys) : xs = ys := by
  obtain ⟨its, r, ⟨o, e, _, n, d⟩, _⟩ := I.tuple h
  obtain ⟨its', r', ⟨o', e', _, n', d'⟩, _⟩ := I.tuple h'
  rw [e] at e'; cases e'
  rw [d] at d'
  injection d' with d1 _
  have : its = its' := by simpa using congrArg Array.toList d1
  subst this
  exact r.inj r'
end

abbrev Cx.wish (X : Cx) (E : Value → Shared → Prop) : Cx := { X with xe := E }
/-- no exception leaves -/
abbrev Cx.nox (X : Cx) : Cx := X.wish fun _ _ => False
theorem Cx.Ok.wish {X : Cx} (ok : X.Ok) (E : Value → Shared → Prop) : (X.wish E).Ok :=
  ⟨ok.mod, ok.kind, ok.glob, ok.blt, ok.above, ok.inj, ok.has, ok.cab, ok.hd, ok.frames, ok.stk, ok.exf, ok.bs, ok.bsz, ok.noex, ok.exfs, ok.funs, ok.frf⟩
theorem Cx.Ok.unwish {X : Cx} {E : Value → Shared → Prop} (ok : (X.wish E).Ok) : X.Ok :=
  ⟨ok.mod, ok.kind, ok.glob, ok.blt, ok.above, ok.inj, ok.has, ok.cab, ok.hd, ok.frames, ok.stk, ok.exf, ok.bs, ok.bsz, ok.noex, ok.exfs, ok.funs, ok.frf⟩
section
variable {X : Cx} {pins : List (Addr × Obj)} {σ : St} {H : Hp} {s : Shared} {E : Value → Shared → Prop}
theorem Inv.wish (I : Inv X pins σ H s) (E : Value → Shared → Prop) : Inv (X.wish E) pins σ H s := ⟨I.ok.wish E, I.os, I.bare, I.base, I.loc, I.cell, I.free, I.freeC, I.pin, I.hok, I.len⟩
theorem Inv.unwish (I : Inv (X.wish E) pins σ H s) : Inv X pins σ H s := ⟨I.ok.unwish, I.os, I.bare, I.base, I.loc, I.cell, I.free, I.freeC, I.pin, I.hok, I.len⟩
theorem SP.unwish {D : Ends} {f : Flow} {s' : Shared} (h : SP (X.wish E) pins D f s') : SP X pins D f s' := by
  cases f with
  | next => obtain ⟨σ', H', I, q⟩ := h; exact ⟨σ', H', I.unwish, q⟩
  | brk => obtain ⟨σ', H', I, q⟩ := h; exact ⟨σ', H', I.unwish, q⟩
  | cont => obtain ⟨σ', H', I, q⟩ := h; exact ⟨σ', H', I.unwish, q⟩
  | ret u => obtain ⟨v, σ', H', I, r, q⟩ := h; exact ⟨v, σ', H', I.unwish, r, q⟩
theorem PE.nox {e : Expr} {t : TE} (h : PE X.nox e t) : PE X e t := fun pins s σ H Q I hw =>
  wpAny_mono (h pins s σ H Q (I.wish _) hw) (fun _ _ ⟨v, H', I', r, q⟩ => ⟨v, H', I'.unwish, r, q⟩) fun _ _ z => False.elim z
theorem PT.nox {e : Expr} {t : TT} (h : PT X.nox e t) : PT X e t := fun pins s σ H Q I hw =>
  wpAny_mono (h pins s σ H Q (I.wish _) hw) (fun _ _ ⟨H', I', q⟩ => ⟨H', I'.unwish, q⟩) fun _ _ z => False.elim z
theorem PSs.nox {st : List Stmt} {t : TS} (h : PSs X.nox st t) : PSs X st t := fun pins s σ H D I hw =>
  wpAny_mono (h pins s σ H D (I.wish _) hw) (fun _ _ q => q.unwish) fun _ _ z => False.elim z
end

section
variable {X : Cx} {st : Stmt} {rest : List Stmt} {t u : TS} {e : Expr} {te : TE} {pos : Pos}
def tNext : TS := fun D σ H => D.nx σ H
def tSeq (t u : TS) : TS := fun D σ H => t { D with nx := u D } σ H
theorem pss_nil : PSs X [] tNext := fun _ _ σ H _ I h => wpAny_execs_nil ⟨σ, H, I, h⟩
theorem pss_cons (h1 : PS X st t) (h2 : PSs X rest u) : PSs X (st :: rest) (tSeq t u) := by
  intro pins s σ H D I h
  refine wpAny_execs_cons (thn (h1 pins s σ H { D with nx := u D } I h) fun f s1 q => ?_)
  cases f with
  | next =>
    obtain ⟨σ', H', I', q⟩ := q
    exact h2 pins s1 σ' H' D I' q
  | ret v => exact q
  | brk => exact q
  | cont => exact q
theorem pss_one (h1 : PS X st t) : PSs X [st] t := by
  intro pins s σ H D I h
  refine wpAny_execs_cons (thn (h1 pins s σ H D I h) fun f s1 q => ?_)
  cases f with
  | next => exact wpAny_execs_nil q
  | ret v => exact q
  | brk => exact q
  | cont => exact q
/-- in a def's body nothing is shown -/
theorem Inv.quiet {pins : List (Addr × Obj)} {σ : St} {H : Hp} {s : Shared} (I : Inv X pins σ H s) : interactive X.env = false := by simp [interactive, I.ok.kind]
/-- an expression whose value is dropped -/
def tDrop (te : TE) : TS := fun D σ H => te σ H fun _ H1 => D.nx σ H1
theorem ps_expr (he : PE X e te) (hs : swapsWith e none pos.line X.env = pure false := by rfl) : PS X (.Expr e pos) (tDrop te) := by
  intro pins s σ H D I h
  exact wpAny_Expr_any (thn (he pins s σ H _ I h) fun v s1 ⟨x, H1, I1, r1, q1⟩ => ⟨σ, H1, I1, q1⟩) I.quiet hs
def tRet (te : TE) : TS := fun D σ H => te σ H D.rt
theorem ps_ret (he : PE X e te) : PS X (.Return (some e) pos) (tRet te) := by
  intro pins s σ H D I h
  exact wpAny_Return_some (thn (he pins s σ H _ I h) fun v s1 ⟨x, H1, I1, r1, q1⟩ => ⟨x, σ, H1, I1, r1, q1⟩)
def tIfS (c : TT) (t u : TS) : TS := fun D σ H => c σ H fun b H1 => if b = true then t D σ H1 else u D σ H1
theorem ps_if {c : Expr} {a b : List Stmt} {tc : TT} (hc : PT X c tc) (ha : PSs X a t) (hb : PSs X b u) : PS X (.If c a b pos) (tIfS tc t u) := by
  intro pins s σ H D I h
  refine wpAny_If (thn (hc pins s σ H _ I h) fun d s1 ⟨H1, I1, q1⟩ => ?_)
  cases d with
  | true => exact ha pins s1 σ H1 D I1 q1
  | false => exact hb pins s1 σ H1 D I1 q1
end

abbrev TG := V → St → Hp → (St → Hp → Prop) → Prop
abbrev TGs := List V → St → Hp → (St → Hp → Prop) → Prop
def PG (X : Cx) (target : Expr) (t : TG) : Prop :=
  ∀ (pins : List (Addr × Obj)) (s : Shared) (σ : St) (H : Hp) (v : V) (u : Value) (Q : St → Hp → Prop), Inv X pins σ H s → RelV v u → t v σ H Q →
    wpAny (model X.prog X.w) X.A (assign target X.env u) (fun _ s' => ∃ σ' H', Inv X pins σ' H' s' ∧ Q σ' H') X.xe s
/-- several targets, one after another -/
def PGs (X : Cx) (ts : List Expr) (t : TGs) : Prop :=
  ∀ (pins : List (Addr × Obj)) (s : Shared) (σ : St) (H : Hp) (vs : List V) (us : List Value) (Q : St → Hp → Prop), Inv X pins σ H s → Vals vs us → t vs σ H Q →
    wpAny (model X.prog X.w) X.A (assignInOrder ((assignEach ts X.env).map (·.2)) us) (fun _ s' => ∃ σ' H', Inv X pins σ' H' s' ∧ Q σ' H') X.xe s
section
variable {X : Cx} {pos : Pos}
def gName (i : Nat) : TG := fun v σ H Q => Q (σ.set i (some v)) H
theorem pg_name {i : Nat} {x : Str} (hN : X.N.Nodup) (hi : X.N[i]? = some x) (hx : Loc X.env.scope x) (hf : X.fn x = true ∨ X.env.scope.names.lookup x = some .local := by first | exact .inl rfl | exact .inr rfl | assumption) : PG X (.Name x pos) (gName i) := by
  intro pins s σ H v u Q I r h
  exact wpAny_assign_Name (store_ok I hN hi hx r (fun s' I' => ⟨_, H, I', h⟩) hf)
def gNil : TGs := fun vs σ H Q => vs = [] ∧ Q σ H
def gCons (t : TG) (u : TGs) : TGs := fun vs σ H Q => ∃ v r, vs = v :: r ∧ t v σ H fun σ' H' => u r σ' H' Q
theorem pgs_nil : PGs X [] gNil := by
  intro pins s σ H vs us Q I r h
  obtain ⟨e, h⟩ := h
  subst e
  cases r
  exact assignInOrder_nil ⟨σ, H, I, h⟩
theorem pgs_cons {e : Expr} {es : List Expr} {t : TG} {u : TGs} (h1 : PG X e t) (h2 : PGs X es u)
    (hs : (assignEach (e :: es) X.env).map (·.2) = assign e X.env :: (assignEach es X.env).map (·.2) := by rfl) : PGs X (e :: es) (gCons t u) := by
  intro pins s σ H vs us Q I r h
  obtain ⟨v, vr, e1, h⟩ := h
  subst e1
  cases r with
  | cons r rr =>
    rw [hs]
    refine assignInOrder_cons (thn (h1 pins s σ H _ _ _ I r h) fun _ s1 ⟨σ1, H1, I1, q1⟩ => ?_)
    exact h2 pins s1 σ1 H1 _ _ Q I1 rr q1
/-- (a, b, ..) = a tuple of that length -/
def gTup (K : PySem.W.Frag) (n : Nat) (t : TGs) : TG := fun v σ H Q => ∃ a xs, v = .ref a ∧ SqT K H a xs ∧ xs.length = n ∧ t xs σ H Q
theorem pg_tup {es : List Expr} {k : Nat} {t : TGs} {n : Nat} (hc : X.calm = true) (h : PGs X es t)
    (hn : (assignEach es X.env).length = n := by rfl) (hst : (assignEach es X.env).findIdx? (·.1) = none := by rfl) : PG X (.Tuple es k pos) (gTup X.K n t) := by
  intro pins s σ H v u Q I r hw
  obtain ⟨a, xs, e1, hq, hl, hw⟩ := hw
  subst e1
  cases r
  obtain ⟨its, rv, ht, hz⟩ := I.tuple hq
  refine assign_Tuple_tuple (I.ok.hd hc) ht (by simp [hn, ← hl, rv.length]) hst fun h' hx => ?_
  have I1 : Inv X pins σ H { s with heap := h' } := I.kept (t' := s.toks) fun b o e => hx b o (Nat.ne_of_lt (Heap.lt_size e)) e
  exact h pins _ σ H xs _ Q I1 (by simpa using rv) hw
/-- target = value -/
def tAsg (te : TE) (g : TG) : TS := fun D σ H => te σ H fun x H1 => g x σ H1 D.nx
/-- name = value -/
theorem ps_set {i : Nat} {x : Str} {e : Expr} {te : TE} {pos' : Pos} (hN : X.N.Nodup) (hi : X.N[i]? = some x) (hx : Loc X.env.scope x) (he : PE X e te) (hs : swapsWith e (some (.Name x pos')) pos.line X.env = pure false := by rfl) (hf : X.fn x = true ∨ X.env.scope.names.lookup x = some .local := by first | exact .inl rfl | exact .inr rfl | assumption) :
    PS X (.Assign [.Name x pos'] e pos) (tAsg te (gName i)) := by
  intro pins s σ H D I h
  refine wpAny_Assign_Name (thn (he pins s σ H _ I h) fun v s1 ⟨y, H1, I1, r1, q1⟩ => ?_) hs
  exact store_ok I1 hN hi hx r1 (fun s2 I2 => ⟨_, H1, I2, q1⟩) hf
end

section
variable {X : Cx} {pos : Pos}
/-- the invariant W with its measure -/
def tWhile (c : TT) (tb : TS) : TS := fun D σ H => ∃ W : Nat → St → Hp → Prop, (∃ m, W m σ H) ∧ ∀ m σ H, W m σ H →
  c σ H fun b H1 => if b = true then ∃ N : St → Hp → Prop, (∀ σ' H', N σ' H' → ∃ m', m' < m ∧ W m' σ' H') ∧ tb { D with nx := N, ct := N, bk := D.nx } σ H1 else D.nx σ H1
theorem ps_while {c : Expr} {body : List Stmt} {tc : TT} {tb : TS} (hp : PassesOwn (model X.prog X.w) X.A X.env X.xe) (hc : PT X c tc) (hb : PSs X body tb) : PS X (.While c body [] pos) (tWhile tc tb) := by
  intro pins s σ H D I h
  obtain ⟨W, ⟨m0, w0⟩, turn⟩ := h
  refine wpAny_While (codeAny_whileLoop (fun n s' => ∃ σ' H', Inv X pins σ' H' s' ∧ W n σ' H') ?_ m0 ⟨σ, H, I, w0⟩)
  rintro n s1 ⟨σ1, H1, I1, w1⟩
  refine wpAny_passesOwn hp (thn (hc pins s1 σ1 H1 _ I1 (turn n σ1 H1 w1)) fun b s2 ⟨H2, I2, q2⟩ => ?_)
  cases b with
  | true =>
    obtain ⟨N, hN, q2⟩ := q2
    rw [if_pos rfl]
    refine wpAny_passesOwn hp (thn (hb pins s2 σ1 H2 _ I2 q2) fun f s3 q3 => ?_)
    cases f with
    | next =>
      obtain ⟨σ3, H3, I3, n3⟩ := q3
      obtain ⟨m', hm, w3⟩ := hN σ3 H3 n3
      exact ⟨m', hm, σ3, H3, I3, w3⟩
    | cont =>
      obtain ⟨σ3, H3, I3, n3⟩ := q3
      obtain ⟨m', hm, w3⟩ := hN σ3 H3 n3
      exact ⟨m', hm, σ3, H3, I3, w3⟩
    | brk => exact q3
    | ret v => exact q3
  | false =>
    rw [if_neg Bool.false_ne_true]
    exact wpAny_execs_nil ⟨σ1, H2, I2, q2⟩
end

/-- at turn i: it yields x (the heap may grow), or it stops -/
structure It where
  go : Nat → Hp → Prop
  yld : Nat → Hp → V → Hp → Prop
  stop : Nat → Hp → Prop
/-- the iterator's own objects may turn: they are not the frame's, not pinned, younger than the entry (or a comprehension's own) -/
def FpOk (X : Cx) (pins : List (Addr × Obj)) (H : Hp) (b : Addr) : Prop :=
  H b = none ∧ b ≠ X.env.locals ∧ b ∉ X.fs ∧ (b ∈ X.ex ∨ X.s_0.heap.objs.size ≤ b) ∧ (∀ x c, X.env.cells.lookup x = some c → c ≠ b) ∧ ∀ p ∈ X.pn ++ pins, p.1 ≠ b
theorem Inv.fpOk {X : Cx} {pins : List (Addr × Obj)} {σ : St} {H H' : Hp} {s : Shared} {b : Addr} (I : Inv X pins σ H s) (hb : s.heap.objs.size ≤ b) (hn : H' b = none) : FpOk X pins H' b := by
  refine ⟨hn, Nat.ne_of_gt (Nat.lt_of_lt_of_le I.lt hb), I.nofs hb, .inr (Nat.le_trans I.sz hb), fun x c e z => ?_, fun p hp z => ?_⟩
  · obtain ⟨v, q⟩ := I.cell x c e
    exact absurd (Nat.lt_of_lt_of_le q.lt (by rw [z]; exact hb)) (Nat.lt_irrefl _)
  · exact absurd (Nat.lt_of_lt_of_le (Heap.lt_size (I.pin p hp).1) (by rw [z]; exact hb)) (Nat.lt_irrefl _)
structure Turn (P : Program) (w : World) (K : PySem.W.Frag) (tg : Expr) (J : It) (fp : List Addr) (it : Addr) (tn : Nat → Heap → Prop) : Prop where
  mem : it ∈ fp
  obj : ∀ i h, tn i h → ∀ b ∈ fp, ∃ o, h.get? b = some o ∧ ∀ v, o.data ≠ .cell v
  keep : ∀ i h h', tn i h → (∀ b ∈ fp, ∀ o, h.get? b = some o → h'.get? b = some o) → tn i h'
  item : ∀ (X : Cx), X.prog = P → X.w = w → X.K = K → X.calm = true → ∀ (i : Nat) (pins : List (Addr × Obj)) (s : Shared) (σ : St) (H : Hp) (E : Value → Shared → Prop), Inv X pins σ H s → (∀ b ∈ fp, FpOk X pins H b) → tn i s.heap → J.go i H →
    wpAny (model P w) X.A (pyNext (.ref it)) (fun r s1 => ∃ u, r = some u ∧
      wpAny (model P w) X.A (letOwnedTupleGo tg (.ref it) u) (fun _ s2 => ∃ x H', Inv X pins σ H' s2 ∧ RelV x u ∧ J.yld i H x H' ∧ tn (i + 1) s2.heap ∧ ∀ b ∈ fp, H' b = none) E s1) E s
  done : ∀ (X : Cx), X.prog = P → X.w = w → X.K = K → X.calm = true → ∀ (i : Nat) (pins : List (Addr × Obj)) (s : Shared) (σ : St) (H : Hp) (E : Value → Shared → Prop), Inv X pins σ H s → (∀ b ∈ fp, FpOk X pins H b) → tn i s.heap → J.stop i H →
    wpAny (model P w) X.A (pyNext (.ref it)) (fun r s1 => r = none ∧ Inv X pins σ H s1) E s
  self : ∀ (A : Around) (i : Nat) (s : Shared) (Q : Value → Shared → Prop) (E : Value → Shared → Prop), tn i s.heap → Q (.ref it) s → wpAny (model P w) A (pyIter (.ref it)) Q E s
abbrev TI := St → Hp → (It → Hp → Prop) → Prop
/-- an iterator has come -/
def PIE (X : Cx) (pins : List (Addr × Obj)) (σ : St) (tg : Expr) (R : It → Hp → Prop) (itv : Value) (s2 : Shared) : Prop :=
  ∃ (it : Addr) (fp : List Addr) (tn : Nat → Heap → Prop) (J : It) (H' : Hp), itv = .ref it ∧ Inv X pins σ H' s2 ∧ Turn X.prog X.w X.K tg J fp it tn ∧ tn 0 s2.heap ∧ (∀ b ∈ fp, FpOk X pins H' b) ∧ R J H'
def PI (X : Cx) (tg iter : Expr) (wi : TI) : Prop :=
  ∀ (pins : List (Addr × Obj)) (s : Shared) (σ : St) (H : Hp) (R : It → Hp → Prop), Inv X pins σ H s → wi σ H R →
    wpAny (model X.prog X.w) X.A (eval iter X.env) (fun v s1 => wpAny (model X.prog X.w) X.A (pyIter v) (PIE X pins σ tg R) X.xe s1) X.xe s

/-- the step ahead of the store is nothing for an iterator that keeps no tuple -/
theorem go_of {M : Model} {A : Around} {E : Value → Shared → Prop} {s : Shared} {tg : Expr} {it : Addr} {u : Value} {o : Obj} {n : String} {vs : Array Value} {Q : Unit → Shared → Prop} (ho : s.heap.get? it = some o) (hc : o.cls = .type n) (hd : o.data = .fields vs)
    (hn : ["enumerate", "zip", "dict_itemiterator", "dict_reverseitemiterator", "odict_iterator", "itertools.zip_longest", "itertools.pairwise"].contains n = false) (hQ : Q () s) : wpAny M A (letOwnedTupleGo tg (.ref it) u) Q E s := by
  unfold letOwnedTupleGo
  cases tg <;> first
    | exact wpAny_pure hQ
    | (cases u <;> first
        | exact wpAny_pure hQ
        | (refine wpAny_bind (wpAny_load ho ?_)
           rw [hc, hd]
           show wpAny M A (if (["enumerate", "zip", "dict_itemiterator", "dict_reverseitemiterator", "odict_iterator", "itertools.zip_longest", "itertools.pairwise"].contains n && vs[0]? == some (rawInt _)) = true then _ else _) Q E s
           rw [if_neg (by intro h; rw [hn, Bool.false_and] at h; cases h)]
           exact wpAny_pure hQ))

/-- the list at a, as it stands at each turn (a loop may append to it) -/
def Itl (K : PySem.W.Frag) (a : Addr) : It :=
  ⟨fun i H => ∃ xs x, SqL K H a xs ∧ xs[i]? = some x, fun i H x H' => H' = H ∧ ∀ xs, SqL K H a xs → xs[i]? = some x, fun i H => ∃ xs, SqL K H a xs ∧ xs.length ≤ i⟩
def Itt (K : PySem.W.Frag) (a : Addr) : It :=
  ⟨fun i H => ∃ xs x, SqT K H a xs ∧ xs[i]? = some x, fun i H x H' => H' = H ∧ ∀ xs, SqT K H a xs → xs[i]? = some x, fun i H => ∃ xs, SqT K H a xs ∧ xs.length ≤ i⟩
/-- lo, lo + 1, .. (n of them) -/
def Itr (lo : Int) (n : Nat) : It := ⟨fun i _ => i < n, fun i H x H' => H' = H ∧ x = .int (lo + i), fun i _ => n ≤ i⟩
theorem turn_list {P : Program} {w : World} {K : PySem.W.Frag} {tg : Expr} (a it : Addr) : Turn P w K tg (Itl K a) [it] it (fun i h => h.IsListIter it a i) where
  mem := by simp
  obj := fun i h st b hb => by
    have e : b = it := by simpa using hb
    subst e
    obtain ⟨o, e, c, d⟩ := st
    exact ⟨o, e, fun v z => by rw [d] at z; cases z⟩
  keep := fun i h h' st k => st.at fun o e => k it (by simp) o e
  item := by
    intro X hP hw hK hc i pins s σ H E I hf st hg
    subst hP hw hK
    obtain ⟨xs, x, hq, hx⟩ := hg
    obtain ⟨its, rv, p, hz⟩ := I.list hq
    obtain ⟨u, hu, ru⟩ := rv.get hx
    obtain ⟨f0, f1, f2, f3, f4, f5⟩ := hf it (by simp)
    refine wpAny_pyNext_list_item st p.isList (x := u) (by simpa using hu) fun h' st' sb => ?_
    have I1 : Inv X pins σ H { s with heap := h' } := I.turned (t' := s.toks) (fun b o hb e => (sb.2 b hb).trans e) f0 f1 f3 f4 f5
    obtain ⟨o, e, c, d⟩ := id st'
    exact ⟨u, rfl, go_of (s := { s with heap := h' }) e c d (by decide) ⟨x, H, I1, ru, ⟨rfl, fun ys hy => by rw [I.list_inj hy hq]; exact hx⟩, st', fun b hb => (hf b hb).1⟩⟩
  done := by
    intro X hP hw hK hc i pins s σ H E I hf st hg
    subst hP hw hK
    obtain ⟨xs, hq, hx⟩ := hg
    obtain ⟨its, rv, p, hz⟩ := I.list hq
    obtain ⟨f0, f1, f2, f3, f4, f5⟩ := hf it (by simp)
    have hl := rv.length
    exact wpAny_pyNext_list_end (I.ok.hd hc) st p.isList (by simp; omega) fun h' eb => ⟨rfl, I.turned (t' := s.toks) (fun b o hb e => eb b o hb e) f0 f1 f3 f4 f5⟩
  self := fun _ _ _ _ _ st h => wpAny_pyIter_listiter st h
theorem turn_tuple {P : Program} {w : World} {K : PySem.W.Frag} {tg : Expr} (a it : Addr) : Turn P w K tg (Itt K a) [it] it (fun i h => h.IsTupleIter it a i) where
  mem := by simp
  obj := fun i h st b hb => by
    have e : b = it := by simpa using hb
    subst e
    obtain ⟨o, e, c, d⟩ := st
    exact ⟨o, e, fun v z => by rw [d] at z; cases z⟩
  keep := fun i h h' st k => st.at fun o e => k it (by simp) o e
  item := by
    intro X hP hw hK hc i pins s σ H E I hf st hg
    subst hP hw hK
    obtain ⟨xs, x, hq, hx⟩ := hg
    obtain ⟨its, rv, p, hz⟩ := I.tuple hq
    obtain ⟨u, hu, ru⟩ := rv.get hx
    obtain ⟨f0, f1, f2, f3, f4, f5⟩ := hf it (by simp)
    refine wpAny_pyNext_tuple_item st (show s.heap.IsTuple a its.toArray from p) (x := u) (by simpa using hu) fun h' st' sb => ?_
    have I1 : Inv X pins σ H { s with heap := h' } := I.turned (t' := s.toks) (fun b o hb e => (sb.2 b hb).trans e) f0 f1 f3 f4 f5
    obtain ⟨o, e, c, d⟩ := id st'
    exact ⟨u, rfl, go_of (s := { s with heap := h' }) e c d (by decide) ⟨x, H, I1, ru, ⟨rfl, fun ys hy => by rw [I.tuple_inj hy hq]; exact hx⟩, st', fun b hb => (hf b hb).1⟩⟩
  done := by
    intro X hP hw hK hc i pins s σ H E I hf st hg
    subst hP hw hK
    obtain ⟨xs, hq, hx⟩ := hg
    obtain ⟨its, rv, p, hz⟩ := I.tuple hq
    obtain ⟨f0, f1, f2, f3, f4, f5⟩ := hf it (by simp)
    have hl := rv.length
    exact wpAny_pyNext_tuple_end (I.ok.hd hc) st (show s.heap.IsTuple a its.toArray from p) (by simp; omega) fun h' eb => ⟨rfl, I.turned (t' := s.toks) (fun b o hb e => eb b o hb e) f0 f1 f3 f4 f5⟩
  self := fun _ _ _ _ _ st h => wpAny_pyIter_tupleiter st h
theorem turn_range {P : Program} {w : World} {K : PySem.W.Frag} {tg : Expr} (it : Addr) (lo : Int) (n : Nat) : Turn P w K tg (Itr lo n) [it] it (fun i h => IsRangeIter h it (lo + (i : Nat) * 1) ((n : Int) - (i : Nat)) 1) where
  mem := by simp
  obj := fun i h st b hb => by
    have e : b = it := by simpa using hb
    subst e
    exact ⟨_, st, fun v z => by
      have z' : Data.fields _ = Data.cell v := z
      cases z'⟩
  keep := fun i h h' st k => k it (by simp) _ st
  item := by
    intro X hP hw hK hc i pins s σ H E I hf st hg
    subst hP hw hK
    obtain ⟨f0, f1, f2, f3, f4, f5⟩ := hf it (by simp)
    have W := Walks.range (prog := X.prog) (w := X.w) (I.ok.hd hc) it lo 1 n
    refine W.item i s _ _ hg st fun v h' tk hv st' kk => ?_
    obtain ⟨t, rfl⟩ := hv
    have I1 : Inv X pins σ H { s with heap := h', toks := tk } := I.turned (fun b o hb e => kk b o (by simpa using hb) e) f0 f1 f3 f4 f5
    refine ⟨_, rfl, go_of (s := { s with heap := h', toks := tk }) (n := "range_iterator") st' rfl rfl (by decide) ⟨.int (lo + i), H, I1, ⟨t, ?_⟩, ⟨rfl, rfl⟩, st', fun b hb => (hf b hb).1⟩⟩
    rw [Int.mul_one]
  done := by
    intro X hP hw hK hc i pins s σ H E I hf st hg
    subst hP hw hK
    obtain ⟨f0, f1, f2, f3, f4, f5⟩ := hf it (by simp)
    exact wpAny_pyNext_range_end (I.ok.hd hc) st (by have : n ≤ i := hg; omega) fun h' eb => ⟨rfl, I.turned (t' := s.toks) (fun b o hb e => eb b o hb e) f0 f1 f3 f4 f5⟩
  self := fun _ _ _ _ _ st h => wpAny_pyIter_rangeiter st h
end L2

namespace L2
open PySem PySem.Spec PyProof.Rows
section
variable {X : Cx} {tg : Expr}
def iList (K : PySem.W.Frag) (tl : TE) : TI := fun σ H R => tl σ H fun x H1 => ∃ a, x = .ref a ∧ (∃ xs, SqL K H1 a xs) ∧ R (Itl K a) H1
def iTup (K : PySem.W.Frag) (tl : TE) : TI := fun σ H R => tl σ H fun x H1 => ∃ a, x = .ref a ∧ (∃ xs, SqT K H1 a xs) ∧ R (Itt K a) H1
theorem pi_list {l : Expr} {tl : TE} (hl : PE X l tl) : PI X tg l (iList X.K tl) := by
  intro pins s σ H R I h
  refine thn (hl pins s σ H _ I h) fun v s1 ⟨x, H1, I1, r1, q1⟩ => ?_
  obtain ⟨a, e, ⟨xs, hq⟩, q⟩ := q1
  subst e
  cases r1
  obtain ⟨its, rv, p, hz⟩ := I1.list hq
  refine wpAny_pyIter_list p.isList ?_
  refine ⟨s1.heap.objs.size, [s1.heap.objs.size], _, _, H1, rfl, I1.kept (t' := s1.toks) fun b o e => Heap.get?_push_of_some _ e, turn_list a _, ⟨_, Heap.get?_push_size _ rfl, rfl, rfl⟩, fun b hb => ?_, q⟩
  have e : b = s1.heap.objs.size := by simpa using hb
  subst e
  exact I1.fpOk (Nat.le_refl _) (I1.hok.fresh (Nat.le_refl _))
theorem pi_tup {l : Expr} {tl : TE} (hl : PE X l tl) : PI X tg l (iTup X.K tl) := by
  intro pins s σ H R I h
  refine thn (hl pins s σ H _ I h) fun v s1 ⟨x, H1, I1, r1, q1⟩ => ?_
  obtain ⟨a, e, ⟨xs, hq⟩, q⟩ := q1
  subst e
  cases r1
  obtain ⟨its, rv, p, hz⟩ := I1.tuple hq
  refine wpAny_pyIter_tuple (show s1.heap.IsTuple a its.toArray from p) ?_
  refine ⟨s1.heap.objs.size, [s1.heap.objs.size], _, _, H1, rfl, I1.kept (t' := s1.toks) fun b o e => Heap.get?_push_of_some _ e, turn_tuple a _, ⟨_, Heap.get?_push_size _ rfl, rfl, rfl⟩, fun b hb => ?_, q⟩
  have e : b = s1.heap.objs.size := by simpa using hb
  subst e
  exact I1.fpOk (Nat.le_refl _) (I1.hok.fresh (Nat.le_refl _))
/-- a range object just made, walked -/
theorem range_it {pins : List (Addr × Obj)} {σ : St} {H : Hp} {s : Shared} {R : It → Hp → Prop} {E : Value → Shared → Prop} {lo hi : Int} {t u v : Tok} {tk : Nat} (I : Inv X pins σ H s) (h1 : -(2 ^ 62) ≤ lo) (h2 : lo < 2 ^ 62) (h3 : -(2 ^ 62) ≤ hi) (h4 : hi < 2 ^ 62)
    (q : R (Itr lo (hi - lo).toNat) H) : wpAny (model X.prog X.w) X.A (pyIter (.ref s.heap.objs.size)) (PIE X pins σ tg R) E { s with heap := s.heap.push { cls := .type "range", data := .fields #[.int lo t, .int hi u, .int 1 v] }, toks := tk } := by
  refine wpAny_pyIter_range (IsRange.new ..) (small_one h1 h2 h3 h4) ?_
  have I1 : Inv X pins σ H { s with heap := s.heap.push { cls := .type "range", data := .fields #[.int lo t, .int hi u, .int 1 v] }, toks := tk } := I.kept fun b o e => Heap.get?_push_of_some _ e
  refine ⟨(s.heap.push { cls := .type "range", data := .fields #[.int lo t, .int hi u, .int 1 v] }).objs.size, [(s.heap.push { cls := .type "range", data := .fields #[.int lo t, .int hi u, .int 1 v] }).objs.size], _, _, H, rfl,
    I1.kept (t' := tk) fun b o e => Heap.get?_push_of_some _ e, turn_range _ lo (hi - lo).toNat, ?_, fun b hb => ?_, q⟩
  · have e1 : lo + ((0 : Nat) : Int) * 1 = lo := by simp
    have e2 : (((hi - lo).toNat : Nat) : Int) - ((0 : Nat) : Int) = Builtin.Range.rangeSize lo hi 1 := by rw [rangeSize_one]; split <;> omega
    show IsRangeIter _ _ (lo + ((0 : Nat) : Int) * 1) ((((hi - lo).toNat : Nat) : Int) - ((0 : Nat) : Int)) 1
    rw [e1, e2]
    exact Heap.get?_push_size _ rfl
  · have e : b = (s.heap.push { cls := .type "range", data := .fields #[.int lo t, .int hi u, .int 1 v] }).objs.size := by simpa using hb
    subst e
    exact I1.fpOk (Nat.le_refl _) (I1.hok.fresh (Nat.le_refl _))
def iRng1 (ta : TA) : TI := fun σ H R => ta σ H fun vs H1 => ∃ j : Int, vs = [.int j] ∧ -(2 ^ 62) ≤ j ∧ j < 2 ^ 62 ∧ R (Itr 0 j.toNat) H1
theorem pi_range1 {a : Expr} {ta : TA} {p pos : Pos} (hg : Gl X "range") (hm : X.mg "range" = none) (ha : PA X [a] ta) (hs : starEach [a] X.env = [(false, eval a X.env)] := by rfl) : PI X tg (.Call (.Name "range" p) [a] [] pos) (iRng1 ta) := by
  intro pins s σ H R I h
  refine Call_ (ld_blt I hg hm boot_range (PyProof.Rows.callWith_type1 (thn (ha pos pins s σ H _ I h) fun us s1 ⟨vs, H1, I1, r1, q1⟩ => ?_) hs rfl))
  obtain ⟨j, e, q1, q2, q⟩ := q1
  subst e
  cases r1 with
  | cons r rr =>
    cases rr
    obtain ⟨t, rfl⟩ := r
    exact call_range_1 (range_it I1 (by omega) (by omega) q1 q2 (by simpa using q))
/-- W: the invariant by the turn and a measure; N: what the body is to reach -/
def tFor (wi : TI) (g : TG) (tb : TS) : TS := fun D σ H => wi σ H fun J H1 => ∃ W : Nat → Nat → St → Hp → Prop, (∃ m, W 0 m σ H1) ∧ ∀ i m σ H, W i m σ H →
  (J.stop i H ∧ D.nx σ H) ∨ (J.go i H ∧ ∃ N : St → Hp → Prop, (∀ σ' H', N σ' H' → ∃ m', m' < m ∧ W (i + 1) m' σ' H') ∧ ∀ x H', J.yld i H x H' → g x σ H' fun σ2 H2 => tb { D with nx := N, ct := N, bk := D.nx } σ2 H2)
/-- the records at fp as they stand -/
def pinsAt (fp : List Addr) (h : Heap) : List (Addr × Obj) := fp.filterMap fun b => (h.get? b).map fun o => (b, o)
theorem mem_pinsAt {fp : List Addr} {h : Heap} {b : Addr} {o : Obj} (hb : b ∈ fp) (e : h.get? b = some o) : (b, o) ∈ pinsAt fp h := List.mem_filterMap.mpr ⟨b, hb, by rw [e]; rfl⟩
theorem of_pinsAt {fp : List Addr} {h : Heap} {p : Addr × Obj} (hp : p ∈ pinsAt fp h) : p.1 ∈ fp ∧ h.get? p.1 = some p.2 := by
  obtain ⟨b, hb, e⟩ := List.mem_filterMap.mp hp
  cases q : h.get? b with
  | none => rw [q] at e; cases e
  | some o =>
    rw [q] at e
    have e' : (b, o) = p := Option.some.inj e
    subst e'
    exact ⟨hb, q⟩
theorem Inv.pinned {pins : List (Addr × Obj)} {σ : St} {H : Hp} {s : Shared} {fp : List Addr} (I : Inv X pins σ H s) (hf : ∀ b ∈ fp, FpOk X pins H b) (ho : ∀ b ∈ fp, ∃ o, s.heap.get? b = some o ∧ ∀ v, o.data ≠ .cell v) : Inv X (pins ++ pinsAt fp s.heap) σ H s :=
  I.pins_of fun p hp => (List.mem_append.mp hp).elim (fun z => I.pin p (List.mem_append_right _ z)) fun z => by
    obtain ⟨hb, e⟩ := of_pinsAt z
    obtain ⟨f0, f1, f2, _⟩ := hf p.1 hb
    obtain ⟨o, e', d⟩ := ho p.1 hb
    rw [e] at e'; cases e'
    exact ⟨e, f0, f1, f2, d⟩
theorem Inv.unpinned {pins pl : List (Addr × Obj)} {σ : St} {H : Hp} {s : Shared} (I : Inv X (pins ++ pl) σ H s) : Inv X pins σ H s := I.pins_of fun p hp => I.pin p (List.mem_append_right _ (List.mem_append_left _ hp))
theorem ps_for {iter : Expr} {body : List Stmt} {wi : TI} {g : TG} {tb : TS} {pos : Pos} (hp : PassesOwn (model X.prog X.w) X.A X.env X.xe) (hc : X.calm = true) (hi : PI X tg iter wi) (hg : PG X tg g) (hb : PSs X body tb)
    (hs : ∀ x, foldedSetIterable iter X.env x = pure x := by intro _; rfl) : PS X (.For tg iter body [] pos) (tFor wi g tb) := by
  intro pins s σ H D I h
  refine wpAny_For (thn (hi pins s σ H _ I h) fun v s1 h1 => thn h1 fun itv s2 h2 => ?_) hs
  obtain ⟨it, fp, tn, J, H2, e, I2, T, st2, f2, W, ⟨m0, w0⟩, turn⟩ := h2
  subst e
  -- what stays true of the iterator's objects through the loop
  have stat : ∀ {H' : Hp}, (∀ b ∈ fp, H' b = none) → ∀ b ∈ fp, FpOk X pins H' b := fun hn b hb => ⟨hn b hb, (f2 b hb).2⟩
  refine codeAny_forLoop_any (fun n s' => ∃ i σ' H', Inv X pins σ' H' s' ∧ tn i s'.heap ∧ (∀ b ∈ fp, H' b = none) ∧ W i n σ' H') ?_ m0 ⟨0, σ, H2, I2, st2, fun b hb => (f2 b hb).1, w0⟩
  rintro n s3 ⟨i, σ3, H3, I3, st3, fr3, w3⟩
  rcases turn i n σ3 H3 w3 with ⟨stop, qn⟩ | ⟨go, N, hN, step⟩
  · refine wpAny_passesOwn hp (thn (T.done X rfl rfl rfl hc i pins s3 σ3 H3 X.xe I3 (stat fr3) st3 stop) fun r s4 ⟨hr, I4⟩ => ?_)
    subst hr
    exact wpAny_execs_nil ⟨σ3, H3, I4, qn⟩
  · refine wpAny_passesOwn hp (thn (T.item X rfl rfl rfl hc i pins s3 σ3 H3 X.xe I3 (stat fr3) st3 go) fun r s4 ⟨u, hr, h4⟩ => ?_)
    subst hr
    refine wpAny_passesOwn hp (thn h4 fun _ s5 ⟨x, H5, I5, r5, y5, st5, fr5⟩ => ?_)
    have I5' := I5.pinned (stat fr5) (T.obj _ _ st5)
    refine wpAny_passesOwn hp (thn (hg _ s5 σ3 H5 x u _ I5' r5 (step x H5 y5)) fun _ s6 ⟨σ6, H6, I6, q6⟩ => ?_)
    refine wpAny_passesOwn hp (thn (hb _ s6 σ6 H6 _ I6 q6) fun f s7 q7 => ?_)
    have again : ∀ {σ7 : St} {H7 : Hp}, Inv X (pins ++ pinsAt fp s5.heap) σ7 H7 s7 → N σ7 H7 → ∃ m, m < n ∧ ∃ i σ' H', Inv X pins σ' H' s7 ∧ tn i s7.heap ∧ (∀ b ∈ fp, H' b = none) ∧ W i m σ' H' := fun {σ7 H7} I7 n7 => by
      obtain ⟨m', hm, w7⟩ := hN σ7 H7 n7
      refine ⟨m', hm, i + 1, σ7, H7, I7.unpinned, T.keep _ _ _ st5 fun b hb o e => (I7.pin (b, o) (List.mem_append_right _ (List.mem_append_right _ (mem_pinsAt hb e)))).1, fun b hb => ?_, w7⟩
      obtain ⟨o, e, d⟩ := T.obj _ _ st5 b hb
      exact (I7.pin (b, o) (List.mem_append_right _ (List.mem_append_right _ (mem_pinsAt hb e)))).2.1
    cases f with
    | next => obtain ⟨σ7, H7, I7, n7⟩ := q7; exact again I7 n7
    | cont => obtain ⟨σ7, H7, I7, n7⟩ := q7; exact again I7 n7
    | brk => obtain ⟨σ7, H7, I7, q7⟩ := q7; exact ⟨σ7, H7, I7.unpinned, q7⟩
    | ret v => obtain ⟨x7, σ7, H7, I7, r7, q7⟩ := q7; exact ⟨x7, σ7, H7, I7.unpinned, r7, q7⟩
end

/-- over a list that the body leaves as it is -/
theorem for_list {K : PySem.W.Frag} {a : Addr} {xs : List V} {g : TG} {tb : TS} {D : Ends} {σ : St} {H : Hp} (Pv : Nat → St → Hp → Prop) (h0 : Pv 0 σ H) (hl : ∀ i σ H, i ≤ xs.length → Pv i σ H → SqL K H a xs)
    (hs : ∀ i x σ H, xs[i]? = some x → Pv i σ H → g x σ H fun σ2 H2 => tb { D with nx := Pv (i + 1), ct := Pv (i + 1), bk := D.nx } σ2 H2) (hd : ∀ σ H, Pv xs.length σ H → D.nx σ H) :
    ∃ W : Nat → Nat → St → Hp → Prop, (∃ m, W 0 m σ H) ∧ ∀ i m σ H, W i m σ H →
      ((Itl K a).stop i H ∧ D.nx σ H) ∨ ((Itl K a).go i H ∧ ∃ N : St → Hp → Prop, (∀ σ' H', N σ' H' → ∃ m', m' < m ∧ W (i + 1) m' σ' H') ∧ ∀ x H', (Itl K a).yld i H x H' → g x σ H' fun σ2 H2 => tb { D with nx := N, ct := N, bk := D.nx } σ2 H2) := by
  refine ⟨fun i m σ H => m = xs.length - i ∧ i ≤ xs.length ∧ Pv i σ H, ⟨xs.length, by simp, Nat.zero_le _, h0⟩, ?_⟩
  rintro i m σ H ⟨rfl, hi, p⟩
  have q := hl i σ H hi p
  by_cases hlt : i < xs.length
  · refine .inr ⟨⟨xs, xs[i], q, by simp [hlt]⟩, Pv (i + 1), fun σ' H' p' => ⟨xs.length - (i + 1), by omega, rfl, hlt, p'⟩, fun x H' y => ?_⟩
    obtain ⟨e, y⟩ := y
    subst e
    exact hs i x σ _ (y xs q) p
  · have e : i = xs.length := by omega
    subst e
    exact .inl ⟨⟨xs, q, Nat.le_refl _⟩, hd σ H p⟩
theorem for_tup {K : PySem.W.Frag} {a : Addr} {xs : List V} {g : TG} {tb : TS} {D : Ends} {σ : St} {H : Hp} (Pv : Nat → St → Hp → Prop) (h0 : Pv 0 σ H) (hl : ∀ i σ H, i ≤ xs.length → Pv i σ H → SqT K H a xs)
    (hs : ∀ i x σ H, xs[i]? = some x → Pv i σ H → g x σ H fun σ2 H2 => tb { D with nx := Pv (i + 1), ct := Pv (i + 1), bk := D.nx } σ2 H2) (hd : ∀ σ H, Pv xs.length σ H → D.nx σ H) :
    ∃ W : Nat → Nat → St → Hp → Prop, (∃ m, W 0 m σ H) ∧ ∀ i m σ H, W i m σ H →
      ((Itt K a).stop i H ∧ D.nx σ H) ∨ ((Itt K a).go i H ∧ ∃ N : St → Hp → Prop, (∀ σ' H', N σ' H' → ∃ m', m' < m ∧ W (i + 1) m' σ' H') ∧ ∀ x H', (Itt K a).yld i H x H' → g x σ H' fun σ2 H2 => tb { D with nx := N, ct := N, bk := D.nx } σ2 H2) := by
  refine ⟨fun i m σ H => m = xs.length - i ∧ i ≤ xs.length ∧ Pv i σ H, ⟨xs.length, by simp, Nat.zero_le _, h0⟩, ?_⟩
  rintro i m σ H ⟨rfl, hi, p⟩
  have q := hl i σ H hi p
  by_cases hlt : i < xs.length
  · refine .inr ⟨⟨xs, xs[i], q, by simp [hlt]⟩, Pv (i + 1), fun σ' H' p' => ⟨xs.length - (i + 1), by omega, rfl, hlt, p'⟩, fun x H' y => ?_⟩
    obtain ⟨e, y⟩ := y
    subst e
    exact hs i x σ _ (y xs q) p
  · have e : i = xs.length := by omega
    subst e
    exact .inl ⟨⟨xs, q, Nat.le_refl _⟩, hd σ H p⟩
end L2

namespace L2
open PySem PySem.Spec PyProof.Rows

abbrev R2 := V → V → Hp → VK → Prop
/-- a two-place operation on values: f is binaryOp op, inplaceOp op or compareOp op -/
def OpR (X : Cx) (f : Value → Value → Sem Value) (r : R2) : Prop :=
  ∀ (pins : List (Addr × Obj)) (s : Shared) (σ : St) (H : Hp) (x y : V) (v u : Value) (Q : VK), Inv X pins σ H s → RelV x v → RelV y u → r x y H Q →
    wpAny (model X.prog X.w) X.A (f v u) (EP X pins σ Q) X.xe s
/-- a one-place operation -/
def UnR (X : Cx) (f : Value → Sem Value) (r : V → Hp → VK → Prop) : Prop :=
  ∀ (pins : List (Addr × Obj)) (s : Shared) (σ : St) (H : Hp) (x : V) (v : Value) (Q : VK), Inv X pins σ H s → RelV x v → r x H Q →
    wpAny (model X.prog X.w) X.A (f v) (EP X pins σ Q) X.xe s
/-- a call of a value that is known (a builtin, a type) with values -/
def CallR (X : Cx) (f : Value) (r : List V → Hp → VK → Prop) : Prop :=
  ∀ (pins : List (Addr × Obj)) (s : Shared) (σ : St) (H : Hp) (xs : List V) (us : List Value) (Q : VK), Inv X pins σ H s → Vals xs us → r xs H Q →
    wpAny (model X.prog X.w) X.A (call f us) (EP X pins σ Q) X.xe s
def tOp (r : R2) (ta tb : TE) : TE := fun σ H Q => ta σ H fun x H1 => tb σ H1 fun y H2 => r x y H2 Q
def tUn (r : V → Hp → VK → Prop) (ta : TE) : TE := fun σ H Q => ta σ H fun x H1 => r x H1 Q
/-- ints in, under C, and a value out -/
def rI (C : Int → Int → Prop) (g : Int → Int → V) : R2 := fun x y H Q => ∃ i j, x = .int i ∧ y = .int j ∧ C i j ∧ Q (g i j) H
def rI0 (g : Int → Int → V) : R2 := fun x y H Q => ∃ i j, x = .int i ∧ y = .int j ∧ Q (g i j) H
def rU (g : Int → V) : V → Hp → VK → Prop := fun x H Q => ∃ i, x = .int i ∧ Q (g i) H

section
variable {X : Cx} {a b c : Expr} {ta tb tc : TE} {pos : Pos}

theorem binT (ha : PE X a ta) (hb : PE X b tb) {pins : List (Addr × Obj)} {s : Shared} {σ : St} {H : Hp} {R : V → V → Hp → Prop} (I : Inv X pins σ H s)
    (h : ta σ H fun x H1 => tb σ H1 fun y H2 => R x y H2) {Q : Value → Shared → Prop} {f : Value → Value → Sem Value}
    (hf : ∀ v u s2 x y H2, Inv X pins σ H2 s2 → RelV x v → RelV y u → R x y H2 → wpAny (model X.prog X.w) X.A (f v u) Q X.xe s2) :
    wpAny (model X.prog X.w) X.A (eval a X.env) (fun v s₁ => wpAny (model X.prog X.w) X.A (eval b X.env) (fun u s₂ => wpAny (model X.prog X.w) X.A (f v u) Q X.xe s₂) X.xe s₁) X.xe s := by
  refine thn (ha pins s σ H _ I h) fun v s1 ⟨x, H1, I1, r1, q1⟩ => ?_
  refine thn (hb pins s1 σ H1 _ I1 q1) fun u s2 ⟨y, H2, I2, r2, q2⟩ => ?_
  exact hf v u s2 x y H2 I2 r1 r2 q2

theorem pe_op {op : Operator} {r : R2} (ho : OpR X (binaryOp op) r) (ha : PE X a ta) (hb : PE X b tb) : PE X (.BinOp a op b pos) (tOp r ta tb) := by
  intro pins s σ H Q I h
  exact wpAny_BinOp (binT ha hb I h fun v u s2 x y H2 I2 rx ry q => ho pins s2 σ H2 x y v u Q I2 rx ry q)
theorem pe_un {op : UnaryOp} {r : V → Hp → VK → Prop} (ho : UnR X (unaryOp op) r) (ha : PE X a ta) : PE X (.UnaryOp op a pos) (tUn r ta) := by
  intro pins s σ H Q I h
  exact UnaryOp_ (thn (ha pins s σ H _ I h) fun v s1 ⟨x, H1, I1, r1, q1⟩ => ho pins s1 σ H1 x v Q I1 r1 q1)
theorem opI {f : Value → Value → Sem Value} {C : Int → Int → Prop} {g : Int → Int → Int}
    (rule : ∀ (i j : Int) (t u : Tok) (s : Shared) (Q : Value → Shared → Prop) (E : Value → Shared → Prop), C i j → Q (.int (g i j) s.toks) { s with toks := s.toks + 1 } → wpAny (model X.prog X.w) X.A (f (.int i t) (.int j u)) Q E s) :
    OpR X f (rI C fun i j => .int (g i j)) := by
  intro pins s σ H x y v u Q I rx ry h
  obtain ⟨i, j, rfl, rfl, hc, q⟩ := h
  obtain ⟨t, rfl⟩ := rx
  obtain ⟨t', rfl⟩ := ry
  exact rule i j t t' s _ _ hc ⟨.int (g i j), H, I.tok _, ⟨_, rfl⟩, q⟩
theorem opI0 {f : Value → Value → Sem Value} {g : Int → Int → Int}
    (rule : ∀ (i j : Int) (t u : Tok) (s : Shared) (Q : Value → Shared → Prop) (E : Value → Shared → Prop), Q (.int (g i j) s.toks) { s with toks := s.toks + 1 } → wpAny (model X.prog X.w) X.A (f (.int i t) (.int j u)) Q E s) :
    OpR X f (rI0 fun i j => .int (g i j)) := by
  intro pins s σ H x y v u Q I rx ry h
  obtain ⟨i, j, rfl, rfl, q⟩ := h
  obtain ⟨t, rfl⟩ := rx
  obtain ⟨t', rfl⟩ := ry
  exact rule i j t t' s _ _ ⟨.int (g i j), H, I.tok _, ⟨_, rfl⟩, q⟩
theorem opB0 {f : Value → Value → Sem Value} {g : Int → Int → Bool}
    (rule : ∀ (i j : Int) (t u : Tok) (s : Shared) (Q : Value → Shared → Prop) (E : Value → Shared → Prop), Q (.bool (g i j)) s → wpAny (model X.prog X.w) X.A (f (.int i t) (.int j u)) Q E s) :
    OpR X f (rI0 fun i j => .bl (g i j)) := by
  intro pins s σ H x y v u Q I rx ry h
  obtain ⟨i, j, rfl, rfl, q⟩ := h
  obtain ⟨t, rfl⟩ := rx
  obtain ⟨t', rfl⟩ := ry
  exact rule i j t t' s _ _ ⟨.bl (g i j), H, I, rfl, q⟩

def CDiv (i j : Int) : Prop := 0 < j ∧ j < 1073741824
def CMul (i j : Int) : Prop := (-(2 ^ 64) < i ∧ i < 2 ^ 64) ∨ (-(2 ^ 64) < j ∧ j < 2 ^ 64)
theorem CMul.ok {i j : Int} (h : CMul i j) : IntMulOk i j := by
  rcases h with ⟨h1, h2⟩ | ⟨h1, h2⟩
  · exact .of_left (intBits_le_64 h1 h2)
  · exact .of_right (intBits_le_64 h1 h2)
theorem op_add : OpR X (binaryOp .Add) (rI0 fun i j => .int (i + j)) := opI0 fun _ _ _ _ _ _ _ q => add_int q
theorem op_sub : OpR X (binaryOp .Sub) (rI0 fun i j => .int (i - j)) := opI0 fun _ _ _ _ _ _ _ q => sub_int q
theorem op_mul : OpR X (binaryOp .Mult) (rI CMul fun i j => .int (i * j)) := opI fun _ _ _ _ _ _ _ hc q => mul_int q hc.ok
/-- // by a positive divisor -/
theorem op_fdiv : OpR X (binaryOp .FloorDiv) (rI CDiv fun i j => .int (i / j)) := opI fun i j _ _ _ _ _ hc q => by
  have h1 : (0 : Int) < j := hc.1
  have h2 : j < 1073741824 := hc.2
  exact floordiv_int (by omega) (by rw [Int.fdiv_eq_ediv_of_nonneg i (by omega)]; exact q) (.inl (PyProof.noPylong_small (by omega)))
/-- % by a positive divisor of any size -/
theorem op_mod : OpR X (binaryOp .Mod) (rI (fun _ j => 0 < j) fun i j => .int (i % j)) := opI fun i j _ _ _ _ _ hc q => by
  have h1 : (0 : Int) < j := hc
  exact mod_int' (by omega) (by rw [Int.fmod_eq_emod_of_nonneg i (by omega)]; exact q)
theorem unI {f : Value → Sem Value} {g : Int → Int}
    (rule : ∀ (i : Int) (t : Tok) (s : Shared) (Q : Value → Shared → Prop) (E : Value → Shared → Prop), Q (.int (g i) s.toks) { s with toks := s.toks + 1 } → wpAny (model X.prog X.w) X.A (f (.int i t)) Q E s) :
    UnR X f (rU fun i => .int (g i)) := by
  intro pins s σ H x v Q I rx h
  obtain ⟨i, rfl, q⟩ := h
  obtain ⟨t, rfl⟩ := rx
  exact rule i t s _ _ ⟨.int (g i), H, I.tok _, ⟨_, rfl⟩, q⟩
theorem un_neg : UnR X (unaryOp .USub) (rU fun i => .int (-i)) := unI fun _ _ _ _ _ q => neg_int q
end

/-- the scalars that == tells apart as data does -/
def scal : V → V → Bool
  | .non, .non => true | .non, .int _ => true | .int _, .non => true | .non, .bl _ => true | .bl _, .non => true | .non, .str _ => true | .str _, .non => true
  | .int _, .int _ => true | .bl _, .bl _ => true | .str _, .str _ => true | .byt _, .byt _ => true
  | .int _, .str _ => true | .str _, .int _ => true | .bl _, .str _ => true | .str _, .bl _ => true
  | _, _ => false
def rEq : R2 := fun x y H Q => scal x y = true ∧ Q (.bl (decide (x = y))) H
theorem dec_int {i j : Int} : decide (V.int i = V.int j) = (i == j) := by
  rw [Bool.eq_iff_iff]
  simp
theorem dec_bl {i j : Bool} : decide (V.bl i = V.bl j) = (i == j) := by
  rw [Bool.eq_iff_iff]
  simp
theorem dec_str {i j : Str} : decide (V.str i = V.str j) = (i == j) := by
  rw [Bool.eq_iff_iff]
  simp
theorem dec_byt {i j : Array UInt8} : decide (V.byt i = V.byt j) = (i.toList == j.toList) := by
  rw [Bool.eq_iff_iff]
  cases i
  cases j
  simp

section
variable {X : Cx} {a b c : Expr} {ta tb tc : TE} {pos : Pos}
theorem fin_bl {pins : List (Addr × Obj)} {σ : St} {H : Hp} {s : Shared} {Q : VK} {k k' : Bool} (I : Inv X pins σ H s) (q : Q (.bl k) H) (e : k = k') : EP X pins σ Q (.bool k') s := by
  subst e
  exact ⟨.bl k, H, I, rfl, q⟩
theorem op_eq : OpR X (compareOp .Eq) rEq := by
  intro pins s σ H x y v u Q I rx ry h
  obtain ⟨hs, q⟩ := h
  cases x with
  | non =>
    cases rx
    cases y with
    | non => cases ry; exact PySem.EqNone.eq_none_none (fin_bl I q (by simp))
    | bl j => cases ry; exact PySem.EqNone.eq_none_bool (fin_bl I q (by simp))
    | int j => obtain ⟨t', rfl⟩ := ry; exact PySem.EqNone.eq_none_int (fin_bl I q (by simp))
    | str j => obtain ⟨t', rfl⟩ := ry; exact PySem.EqNone.eq_none_str (fin_bl I q (by simp))
    | _ => exact absurd (show false = true from hs) Bool.false_ne_true
  | bl i =>
    cases rx
    cases y with
    | non => cases ry; exact PySem.EqNone.eq_bool_none (fin_bl I q (by simp))
    | bl j => cases ry; exact eq_bool (fin_bl I q dec_bl)
    | str j => obtain ⟨t', rfl⟩ := ry; exact PySem.EqMixed.eq_bool_str (fin_bl I q (by simp))
    | _ => exact absurd (show false = true from hs) Bool.false_ne_true
  | int i =>
    obtain ⟨t, rfl⟩ := rx
    cases y with
    | non => cases ry; exact PySem.EqNone.eq_int_none (fin_bl I q (by simp))
    | int j => obtain ⟨t', rfl⟩ := ry; exact eq_int (fin_bl I q dec_int)
    | str j => obtain ⟨t', rfl⟩ := ry; exact PySem.EqMixed.eq_int_str (fin_bl I q (by simp))
    | _ => exact absurd (show false = true from hs) Bool.false_ne_true
  | str i =>
    obtain ⟨t, rfl⟩ := rx
    cases y with
    | non => cases ry; exact PySem.EqNone.eq_str_none (fin_bl I q (by simp))
    | bl j => cases ry; exact PySem.EqMixed.eq_str_bool (fin_bl I q (by simp))
    | int j => obtain ⟨t', rfl⟩ := ry; exact PySem.EqMixed.eq_str_int (fin_bl I q (by simp))
    | str j => obtain ⟨t', rfl⟩ := ry; exact eq_str (fin_bl I q dec_str)
    | _ => exact absurd (show false = true from hs) Bool.false_ne_true
  | byt i =>
    obtain ⟨t, rfl⟩ := rx
    cases y with
    | byt j => obtain ⟨t', rfl⟩ := ry; exact PySem.W.eq_bytes (fin_bl I q dec_byt)
    | _ => exact absurd (show false = true from hs) Bool.false_ne_true
  | _ => cases y <;> exact absurd (show false = true from hs) Bool.false_ne_true
theorem op_lt : OpR X (compareOp .Lt) (rI0 fun i j => .bl (decide (i < j))) := opB0 fun _ _ _ _ _ _ _ q => lt_int q
theorem op_le : OpR X (compareOp .LtE) (rI0 fun i j => .bl (decide (i ≤ j))) := opB0 fun _ _ _ _ _ _ _ q => le_int q
theorem op_gt : OpR X (compareOp .Gt) (rI0 fun i j => .bl (decide (j < i))) := opB0 fun _ _ _ _ _ _ _ q => gt_int q
theorem op_ge : OpR X (compareOp .GtE) (rI0 fun i j => .bl (decide (j ≤ i))) := opB0 fun _ _ _ _ _ _ _ q => ge_int q
/-- is None, is not None: the right side a value none -/
theorem op_isN : OpR X (compareOp .Is) (fun x y H Q => y = .non ∧ Q (.bl (decide (x = .non))) H) := by
  intro pins s σ H x y v u Q I rx ry h
  obtain ⟨rfl, q⟩ := h
  cases ry
  refine is_none_gen (fin_bl I q ?_)
  cases x <;> first
    | (cases rx; rfl)
    | (obtain ⟨t, rfl⟩ := rx; rfl)
theorem op_notN : OpR X (compareOp .IsNot) (fun x y H Q => y = .non ∧ Q (.bl (!decide (x = .non))) H) := by
  intro pins s σ H x y v u Q I rx ry h
  obtain ⟨rfl, q⟩ := h
  cases ry
  refine isnot_none_gen (fin_bl I q ?_)
  cases x <;> first
    | (cases rx; rfl)
    | (obtain ⟨t, rfl⟩ := rx; rfl)

/-- two rules for one operation: by cases -/
theorem OpR.or {f : Value → Value → Sem Value} {r r' : R2} (h : OpR X f r) (h' : OpR X f r') : OpR X f (fun x y H Q => r x y H Q ∨ r' x y H Q) := by
  intro pins s σ H x y v u Q I rx ry q
  rcases q with q | q
  · exact h pins s σ H x y v u Q I rx ry q
  · exact h' pins s σ H x y v u Q I rx ry q

theorem nomark (b : Expr) {op : CmpOp} (h : op ≠ .In := by decide) (h2 : op ≠ .NotIn := by decide) : behindInMarks op b = false := by
  have e1 : (op == CmpOp.In) = false := by cases op <;> first | rfl | exact absurd rfl h
  have e2 : (op == CmpOp.NotIn) = false := by cases op <;> first | rfl | exact absurd rfl h2
  cases b <;> simp [behindInMarks, e1, e2]
/-- a comparison as a value; hm: nomark b, or (for in, not in) by with_unfolding_all rfl -/
theorem pe_cmpR {op : CmpOp} {r : R2} (ho : OpR X (compareOp op) r) (ha : PE X a ta) (hb : PE X b tb) (hm : behindInMarks op b = false) : PE X (.Compare a [op] [b] pos) (tOp r ta tb) := by
  intro pins s σ H Q I h
  exact wpAny_Compare1 (binT ha hb I h fun v u s2 x y H2 I2 rx ry q => ho pins s2 σ H2 x y v u Q I2 rx ry q) hm
/-- a reading of a value as a test -/
def tTest (t : TE) : TT := fun σ H Q => t σ H fun x H' => ∃ k, x = .bl k ∧ Q k H'
theorem pt_cmpR {op : CmpOp} {r : R2} (ho : OpR X (compareOp op) r) (ha : PE X a ta) (hb : PE X b tb) (hm : behindInMarks op b = false) : PT X (.Compare a [op] [b] pos) (tTest (tOp r ta tb)) := by
  intro pins s σ H Q I h
  refine wpAny_isTrue_Compare1 (thn (ha pins s σ H _ I h) fun v s1 ⟨x, H1, I1, r1, q1⟩ => thn (hb pins s1 σ H1 _ I1 q1) fun u s2 ⟨y, H2, I2, r2, q2⟩ =>
    thn (ho pins s2 σ H2 x y v u _ I2 r1 r2 q2) fun c s3 ⟨z, H3, I3, r3, k, e, q3⟩ => ?_) hm
  subst e
  cases r3
  exact wpAny_truthy_bool ⟨H3, I3, q3⟩
/-- a op1 b op2 c -/
def tChain (r r' : R2) (ta tb tc : TE) : TE := fun σ H Q => ta σ H fun x H1 => tb σ H1 fun y H2 => r x y H2 fun z H3 => ∃ k, z = .bl k ∧
  (if k = true then tc σ H3 fun w' H4 => r' y w' H4 Q else Q (.bl false) H3)
theorem pe_chain {op op' : CmpOp} {r r' : R2} (ho : OpR X (compareOp op) r) (ho' : OpR X (compareOp op') r') (ha : PE X a ta) (hb : PE X b tb) (hc : PE X c tc)
    (hm : lastMarks [op, op'] [b, c] = false := by with_unfolding_all rfl) : PE X (.Compare a [op, op'] [b, c] pos) (tChain r r' ta tb tc) := by
  intro pins s σ H Q I h
  refine Compare_chain (thn (ha pins s σ H _ I h) fun v s1 ⟨x, H1, I1, r1, q1⟩ => chain_link (thn (hb pins s1 σ H1 _ I1 q1) fun u s2 ⟨y, H2, I2, r2, q2⟩ =>
    thn (ho pins s2 σ H2 x y v u _ I2 r1 r2 q2) fun d s3 ⟨z, H3, I3, r3, k, e, q3⟩ => ?_)) hm
  subst e
  cases r3
  refine wpAny_truthy_bool ?_
  cases k with
  | false => exact ite_ff ⟨.bl false, H3, I3, rfl, q3⟩
  | true => exact ite_tt (chain_last (thn (hc pins s3 σ H3 _ I3 q3) fun w' s4 ⟨z', H4, I4, r4, q4⟩ => ho' pins s4 σ H4 y z' u w' Q I4 r2 r4 q4))
theorem pt_chain {op op' : CmpOp} {r r' : R2} (ho : OpR X (compareOp op) r) (ho' : OpR X (compareOp op') r') (ha : PE X a ta) (hb : PE X b tb) (hc : PE X c tc)
    (hm : lastMarks [op, op'] [b, c] = false := by with_unfolding_all rfl) : PT X (.Compare a [op, op'] [b, c] pos) (tTest (tChain r r' ta tb tc)) := by
  intro pins s σ H Q I h
  refine isTrue_chain (thn (ha pins s σ H _ I h) fun v s1 ⟨x, H1, I1, r1, q1⟩ => test_link (thn (hb pins s1 σ H1 _ I1 q1) fun u s2 ⟨y, H2, I2, r2, q2⟩ =>
    thn (ho pins s2 σ H2 x y v u _ I2 r1 r2 q2) fun d s3 ⟨z, H3, I3, r3, k, e, q3⟩ => ?_)) hm
  subst e
  cases r3
  refine wpAny_truthy_bool ?_
  cases k with
  | false =>
    obtain ⟨k', e', q'⟩ := q3
    cases e'
    exact ite_ff ⟨H3, I3, q'⟩
  | true =>
    refine ite_tt (test_last (thn (hc pins s3 σ H3 _ I3 q3) fun w' s4 ⟨z', H4, I4, r4, q4⟩ => thn (ho' pins s4 σ H4 y z' u w' _ I4 r2 r4 q4) fun d' s5 ⟨z2, H5, I5, r5, k2, e2, q5⟩ => ?_))
    subst e2
    cases r5
    exact wpAny_truthy_bool ⟨H5, I5, q5⟩

theorem line63 : (sizeLine : Nat) < 2 ^ 63 := by rw [sizeLine_eq]; decide
theorem vals1 {x : V} {us : List Value} (r : Vals [x] us) : ∃ u, us = [u] ∧ RelV x u := by
  cases r with
  | cons r1 r2 => cases r2; exact ⟨_, rfl, r1⟩
theorem vals2 {x y : V} {us : List Value} (r : Vals [x, y] us) : ∃ u w', us = [u, w'] ∧ RelV x u ∧ RelV y w' := by
  cases r with
  | cons r1 r2 =>
    cases r2 with
    | cons r3 r4 => cases r4; exact ⟨_, _, rfl, r1, r3⟩
theorem call_abs : CallR X (.builtin "abs") (fun xs H Q => ∃ i, xs = [.int i] ∧ Q (.int (if i < 0 then -i else i)) H) := by
  intro pins s σ H xs us Q I r h
  obtain ⟨i, rfl, q⟩ := h
  obtain ⟨u, rfl, t, rfl⟩ := vals1 r
  exact call_abs_int fun u tk => ⟨.int (if i < 0 then -i else i), H, I.tok _, ⟨_, rfl⟩, q⟩
theorem call_max2 (hc : X.calm = true) : CallR X (.builtin "max") (fun xs H Q => ∃ i j, xs = [.int i, .int j] ∧ Q (.int (if j > i then j else i)) H) := by
  intro pins s σ H xs us Q I r h
  obtain ⟨i, j, rfl, q⟩ := h
  obtain ⟨u, w', rfl, ⟨t, rfl⟩, ⟨t', rfl⟩⟩ := vals2 r
  refine max_two_ints (I.ok.hd hc) fun h' tk k => ⟨_, H, I.kept k, ?_, q⟩
  by_cases hj : j > i
  · rw [if_pos hj, if_pos hj]; exact ⟨_, rfl⟩
  · rw [if_neg hj, if_neg hj]; exact ⟨_, rfl⟩
theorem call_min2 (hc : X.calm = true) : CallR X (.builtin "min") (fun xs H Q => ∃ i j, xs = [.int i, .int j] ∧ Q (.int (if j < i then j else i)) H) := by
  intro pins s σ H xs us Q I r h
  obtain ⟨i, j, rfl, q⟩ := h
  obtain ⟨u, w', rfl, ⟨t, rfl⟩, ⟨t', rfl⟩⟩ := vals2 r
  refine min_two_ints (I.ok.hd hc) fun h' tk k => ⟨_, H, I.kept k, ?_, q⟩
  by_cases hj : j < i
  · rw [if_pos hj, if_pos hj]; exact ⟨_, rfl⟩
  · rw [if_neg hj, if_neg hj]; exact ⟨_, rfl⟩
end
end L2

namespace L2
open PySem PySem.Spec PyProof.Rows

structure ObjM (h : Heap) (x dx C : Addr) (mA : Str → Option Value) : Prop where
  obj : h.get? x = some (PySem.W.instObj C dx)
  ns : h.Ns1 dx mA
  ne : dx ≠ x

theorem lookIn_ns {h : Heap} {dx : Addr} {mA : Str → Option Value} (n : h.Ns1 dx mA) : ∃ od, h.get? dx = some od ∧ ∀ name, PySem.W.lookIn name od = some (mA name) := by
  obtain ⟨o, es, ep, ho, hd, hk, _, hm⟩ := n
  refine ⟨o, ho, fun name => ?_⟩
  have e := hm name
  unfold nsFind findBy at e
  rw [← Array.find?_toList] at e
  unfold PySem.W.lookIn
  rw [hd]
  dsimp only
  split
  · rename_i y q
    rw [q] at e
    exact congrArg some e
  · rename_i q
    rw [q] at e
    have a : es.toList.any (·.refKey) = false := by
      rw [List.any_eq_false]
      intro y hy
      obtain ⟨z, t, hkey⟩ := hk y (Array.mem_toList_iff.mp hy)
      simp [DictEntry.refKey, hkey]
    have a' : ¬ es.toList.any (·.refKey) = true := by rw [a]; exact Bool.false_ne_true
    rw [if_neg a']
    exact congrArg some e

theorem ObjM.look {h : Heap} {x dx C : Addr} {mA : Str → Option Value} (I : ObjM h x dx C mA) : ∃ od, PySem.W.InstAt h x (PySem.W.instObj C dx) C (some od) ∧ ∀ name, PySem.W.lookIn name od = some (mA name) :=
  let ⟨od, ho, hl⟩ := lookIn_ns I.ns
  ⟨od, ⟨I.obj, rfl, rfl, ho⟩, hl⟩

section
variable {prog : Program} {w : World} {A : Around} {E : Value → Shared → Prop} {s : Shared} {K : PySem.W.Frag} {x dx C f : Addr} {mA : Str → Option Value} {name : Str} {v : Value}

theorem get_map {expr : Bool} {Q : Value → Shared → Prop} (X : K.In s.heap) (I : ObjM s.heap x dx C mA) (hg : PySem.W.plainGet K C name = true) (hh : PySem.W.hasDictIn K C = true)
    (ha : PySem.W.findIn K (.ref C) name = some none) (hv : mA name = some v) (hv' : PySem.W.handedIn v = true) (h : Q v { s with toks := s.toks + 1 }) :
    wpAny (model prog w) A (getAttr (.ref x) name expr) Q E s := by
  obtain ⟨od, J, hl⟩ := I.look
  exact PySem.W.get_value X J (PySem.W.plainGet_of hg).1 (PySem.W.findObj_own hh ha rfl (by rw [hl, hv])) hv' h

theorem get_meth {pl : Sem Bool} {Q : Value × List Value → Shared → Prop} (X : K.In s.heap) (I : ObjM s.heap x dx C mA) (hg : PySem.W.plainGet K C name = true)
    (hf : PySem.W.findIn K (.ref C) name = some (some (.ref f))) (ht : PySem.W.isFn K (.ref f) = true) (hv : mA name = none) (h : Q (.ref f, [.ref x]) s) :
    wpAny (model prog w) A (getMethod (.ref x) name pl) Q E s := by
  obtain ⟨od, J, hl⟩ := I.look
  exact PySem.W.method_fn X J (PySem.W.plainGet_of hg).1 (PySem.W.plainGet_of hg).2 hf (beq_iff_eq.mp ht) (by show (PySem.W.lookIn name od).map (·.isSome) = some false; rw [hl, hv]; rfl) h

theorem set_map {ns : List Str} {Q : Unit → Shared → Prop} (X : K.In s.heap) (I : ObjM s.heap x dx C mA)
    (hs : PySem.W.findIn K (.ref C) "__setattr__" = some (some (.builtin "object.__setattr__"))) (hp : PySem.W.plainOver K C = true) (ht : PySem.W.takerIn K C name = some none) (hh : PySem.W.hasDictIn K C = true)
    (hw : PySem.Within mA ns) (hsz : ns.length ≤ sizeLine)
    (h : ∀ h', ObjM h' x dx C (fun y => if y = name then some v else mA y) → Heap.SameBut dx s.heap h' → Q () { s with heap := h', toks := s.toks + 2 }) :
    wpAny (model prog w) A (setAttr (.ref x) name v) Q E s := by
  obtain ⟨od, J, hl⟩ := I.look
  refine PySem.W.set_plain X J hs (PySem.W.osa_open (s := { s with toks := s.toks + 1 }) (r := none) X J hp ht fun b => ?_)
  obtain ⟨cd, hc, hd'⟩ := PySem.W.any_some hh
  have hx : s.heap.get? x = some ⟨.ref C, some dx, .plain, #[]⟩ := I.obj
  refine wpAny_bind (wpAny_pure (wpAny_bind (wpAny_bind (wpAny_loadPart hx (wpAny_bind (PySem.W.Looks.here (s := { s with toks := s.toks + 1 }) (PySem.W.looks_clsIn X hc) ?_))))))
  rw [hd']
  refine wpAny_pure (a := some dx) (wpAny_bind (wpAny_pure (wpAny_bind ?_)))
  refine wpAny_nsSet1 (s := { s with toks := s.toks + 1 }) I.ns fun h' hn2 hs2 => ?_
  obtain ⟨oD, esD, epD, hoD, hdD, hcD⟩ := hn2.count (PySem.Within.cons name v hw)
  refine wpAny_bind (wpAny_lookBehind hoD (by rw [hdD]; exact pastItsLine_dict (Nat.le_trans hcD (by rw [List.length_cons]; omega))) ?_)
  exact wpAny_pure (h _ ⟨(hs2.2 _ (Ne.symm I.ne)).trans I.obj, hn2, I.ne⟩ hs2)

/-- C(..): the dict at the heap's end, the instance behind it; then its __init__ -/
theorem make_map {R : Result → Shared → Prop} {vs : List Value} {kw : List (Str × Value)} (X : K.In s.heap) (hm : PySem.W.makesIn K C = true)
    (hi : PySem.W.findIn K (.ref C) "__init__" = some (some (.ref f))) (hf : PySem.W.typeIn K (.ref f) = some (.type "function"))
    (h : codeAny (model prog w) (A.under (.builtin "type.__call__" ⟨.ref C :: vs, kw⟩)) (.call (.ref f) ⟨.ref (s.heap.objs.size + 1) :: vs, kw⟩) (PySem.W.InitBack (s.heap.objs.size + 1) R)
      { s with heap := (s.heap.push PySem.W.emptyDict).push (PySem.W.instObj C s.heap.objs.size) }) :
    codeAny (model prog w) A (.call (.ref C) ⟨vs, kw⟩) R s := by
  obtain ⟨hh, g, d, t, os⟩ := s
  exact PySem.W.make_core (PySem.W.makes_of X hm) (PySem.W.looks_findIn X hi) (fun self => PySem.W.bind_fn X self hf) (.inl rfl) h
end

def putF (f : Str) (v : V) : List (Str × V) → List (Str × V)
  | [] => [(f, v)]
  | (g, x) :: r => if g = f then (g, v) :: r else (g, x) :: putF f v r
theorem lookup_putF (f g : Str) (v : V) : ∀ fs : List (Str × V), (putF f v fs).lookup g = if g = f then some v else fs.lookup g
  | [] => by
    show List.lookup g [(f, v)] = _
    by_cases h : g = f
    · have hb : (g == f) = true := beq_iff_eq.mpr h
      simp only [List.lookup, hb, if_pos h]
    · have hb : (g == f) = false := beq_eq_false_iff_ne.mpr h
      simp only [List.lookup, hb, if_neg h]
  | (k, x) :: r => by
    have ih := lookup_putF f g v r
    rw [show putF f v ((k, x) :: r) = (if k = f then (k, v) :: r else (k, x) :: putF f v r) from rfl]
    by_cases hk : k = f
    · rw [if_pos hk]
      by_cases h : g = k
      · have hb : (g == k) = true := beq_iff_eq.mpr h
        simp only [List.lookup, hb, if_pos (h.trans hk)]
      · have hb : (g == k) = false := beq_eq_false_iff_ne.mpr h
        simp only [List.lookup, hb, if_neg (fun e : g = f => h (e.trans hk.symm))]
    · rw [if_neg hk]
      by_cases h : g = k
      · have hb : (g == k) = true := beq_iff_eq.mpr h
        simp only [List.lookup, hb, if_neg (fun e : g = f => hk (h.symm.trans e))]
      · have hb : (g == k) = false := beq_eq_false_iff_ne.mpr h
        simp only [List.lookup, hb]
        exact ih
theorem keys_putF (f : Str) (v : V) : ∀ fs : List (Str × V), f ∈ (putF f v fs).map (·.1) ∧ ∀ g, g ∈ fs.map (·.1) → g ∈ (putF f v fs).map (·.1)
  | [] => ⟨by simp [putF], fun g h => by simp at h⟩
  | (k, x) :: r => by
    obtain ⟨i1, i2⟩ := keys_putF f v r
    rw [show putF f v ((k, x) :: r) = (if k = f then (k, v) :: r else (k, x) :: putF f v r) from rfl]
    by_cases hk : k = f
    · rw [if_pos hk]
      subst hk
      exact ⟨by simp, fun g h => by simpa using h⟩
    · rw [if_neg hk]
      refine ⟨?_, fun g h => ?_⟩
      · rw [List.map_cons]
        exact List.mem_cons_of_mem _ i1
      · rw [List.map_cons] at h ⊢
        rcases List.mem_cons.mp h with e | e
        · exact List.mem_cons.mpr (.inl e)
        · exact List.mem_cons_of_mem _ (i2 g e)
theorem length_putF (f : Str) (v : V) : ∀ fs : List (Str × V), (putF f v fs).length ≤ fs.length + 1
  | [] => by simp [putF]
  | (k, x) :: r => by
    have ih := length_putF f v r
    rw [show putF f v ((k, x) :: r) = (if k = f then (k, v) :: r else (k, x) :: putF f v r) from rfl]
    by_cases hk : k = f
    · rw [if_pos hk, List.length_cons, List.length_cons]; omega
    · rw [if_neg hk, List.length_cons, List.length_cons]; omega

theorem RelO.some_of {v : V} {o : Option Value} (r : RelO (some v) o) : ∃ u, o = some u ∧ RelV v u := by
  cases o with
  | none => exact (show False from r).elim
  | some u => exact ⟨u, rfl, r⟩
theorem RelO.none_of {o : Option Value} (r : RelO none o) : o = none := by
  cases o with
  | none => rfl
  | some u => exact (show False from r).elim
theorem handed_of {v : V} {u : Value} (r : RelV v u) : PySem.W.handedIn u = true := by
  cases v with
  | non => cases (show u = Value.none from r); rfl
  | bl b => cases (show u = Value.bool b from r); rfl
  | int i => obtain ⟨t, e⟩ := (show ∃ t, u = Value.int i t from r); cases e; rfl
  | str x => obtain ⟨t, e⟩ := (show ∃ t, u = Value.str x t from r); cases e; rfl
  | byt b => obtain ⟨t, e⟩ := (show ∃ t, u = Value.bytes b t from r); cases e; rfl
  | flt b => obtain ⟨t, e⟩ := (show ∃ t, u = Value.float b t from r); cases e; rfl
  | ref a => cases (show u = Value.ref a from r); rfl
  | ty n => cases (show u = Value.type n from r); rfl

section
variable {P : Program} {w : World} {H H' : Hp} {h h' : Heap} {a C dx : Addr} {fs fs' : List (Str × V)}
theorem ins_get (hok : HOk P w H h) (e : H a = some (.ins C dx fs)) : ∃ mA, ObjM h a dx C mA ∧ (∀ f, RelO (fs.lookup f) (mA f)) ∧ PySem.Within mA (fs.map (·.1)) ∧ fs.length ≤ 1000 ∧ H dx = some (.own a) := by
  obtain ⟨d, z, ne, ob, mA, n, r, q⟩ := (show ObjOk P w H h a (.ins C dx fs) from hok a _ e)
  exact ⟨mA, ⟨ob, n, ne⟩, r, q, z, d⟩
end

structure Cls (K : PySem.W.Frag) (C : Addr) : Prop where
  pg : PySem.W.plainGet K C Str.empty = true
  hd : PySem.W.hasDictIn K C = true
  po : PySem.W.plainOver K C = true
  sa : PySem.W.findIn K (.ref C) "__setattr__" = some (some (.builtin "object.__setattr__"))
theorem Cls.get {K : PySem.W.Frag} {C : Addr} (c : Cls K C) (f : Str) : PySem.W.plainGet K C f = true := c.pg
/-- no class of it has the name -/
def NoAttr (K : PySem.W.Frag) (C : Addr) (f : Str) : Prop := PySem.W.findIn K (.ref C) f = some none
theorem NoAttr.taker {K : PySem.W.Frag} {C : Addr} {f : Str} (n : NoAttr K C f) : PySem.W.takerIn K C f = some none := by
  unfold PySem.W.takerIn
  rw [show PySem.W.findIn K (.ref C) f = some none from n]
  rfl
/-- a method: a plain def of the class or of one above it -/
structure Meth (K : PySem.W.Frag) (C : Addr) (m : Str) (f : Addr) : Prop where
  at_ : PySem.W.findIn K (.ref C) m = some (some (.ref f))
  fn : PySem.W.isFn K (.ref f) = true
  kp : PySem.W.keepIn K (.ref f) = true

section
variable {X : Cx} {pins : List (Addr × Obj)} {σ : St} {H : Hp} {s : Shared} {a C dx : Addr} {fs : List (Str × V)} {f : Str} {v : V} {A : Around} {E : Value → Shared → Prop}

theorem getattr_ok {b : Bool} {Q : Value → Shared → Prop} (I : Inv X pins σ H s) (e : H a = some (.ins C dx fs)) (c : Cls X.K C) (n : NoAttr X.K C f) (l : fs.lookup f = some v)
    (h : ∀ u s', Inv X pins σ H s' → RelV v u → Q u s') : wpAny (model X.prog X.w) A (getAttr (.ref a) f b) Q E s := by
  obtain ⟨mA, O, r, _, _, _⟩ := ins_get I.hok e
  obtain ⟨u, hu, ru⟩ := RelO.some_of (v := v) (o := mA f) (by rw [← l]; exact r f)
  exact get_map I.kIn O (c.get f) c.hd n hu (handed_of ru) (h u _ (I.tok _) ru)

theorem getmeth_ok {m : Str} {g : Addr} {pl : Sem Bool} {Q : Value × List Value → Shared → Prop} (I : Inv X pins σ H s) (e : H a = some (.ins C dx fs)) (c : Cls X.K C) (k : Meth X.K C m g) (l : fs.lookup m = none)
    (h : Q (.ref g, [.ref a]) s) : wpAny (model X.prog X.w) A (getMethod (.ref a) m pl) Q E s := by
  obtain ⟨mA, O, r, _, _, _⟩ := ins_get I.hok e
  have hn : mA m = none := RelO.none_of (by rw [← l]; exact r m)
  exact get_meth I.kIn O (c.get m) k.at_ k.fn hn h

theorem setattr_ok {y : V} {u : Value} {Q : Unit → Shared → Prop} (I : Inv X pins σ H s) (e : H a = some (.ins C dx fs)) (c : Cls X.K C) (n : NoAttr X.K C f) (hl : fs.length < 1000) (ry : RelV y u)
    (h : ∀ s', Inv X pins σ (upd H a (.ins C dx (putF f y fs))) s' → Q () s') : wpAny (model X.prog X.w) A (setAttr (.ref a) f u) Q E s := by
  obtain ⟨mA, O, r, wi, _, ho⟩ := ins_get I.hok e
  have hz : (fs.map (·.1)).length ≤ sizeLine := by rw [List.length_map, sizeLine_eq]; omega
  refine set_map I.kIn O c.sa c.po n.taker c.hd wi hz fun h' O' sb => h _ ?_
  have hd : ∃ o, h'.get? dx = some o := let ⟨o, _, _, e', _⟩ := O'.ns; ⟨o, e'⟩
  refine I.write (x := a) (e := dx) (by rw [e]; exact True.intro) (.inr ho) (fun b q hb z => (sb.2 b hb).trans z) hd ?_
  refine ⟨by rw [upd_ne O.ne]; exact ho, ?_, O.ne, O'.obj, _, O'.ns, fun g => ?_, fun g hg => ?_⟩
  · have := length_putF f y fs; omega
  · show RelO ((putF f y fs).lookup g) (if g = f then some u else mA g)
    rw [lookup_putF]
    by_cases q : g = f
    · rw [if_pos q, if_pos q]; exact ry
    · rw [if_neg q, if_neg q]; exact r g
  · by_cases q : g = f
    · rw [q]; exact (keys_putF f y fs).1
    · refine (keys_putF f y fs).2 g (wi g fun z => hg ?_)
      show (if g = f then some u else mA g) = none
      rw [if_neg q]; exact z

/-- a new instance, tracked, without attributes -/
theorem Inv.made (I : Inv X pins σ H s) : Inv X pins σ (upd (upd H s.heap.objs.size (.own (s.heap.objs.size + 1))) (s.heap.objs.size + 1) (.ins C s.heap.objs.size []))
    { s with heap := (s.heap.push PySem.W.emptyDict).push (PySem.W.instObj C s.heap.objs.size) } := by
  have e1 : (s.heap.push PySem.W.emptyDict).get? s.heap.objs.size = some PySem.W.emptyDict := Heap.get?_push_size s.heap rfl
  have e2 : ((s.heap.push PySem.W.emptyDict).push (PySem.W.instObj C s.heap.objs.size)).get? (s.heap.objs.size + 1) = some (PySem.W.instObj C s.heap.objs.size) := by
    have := Heap.get?_push_size (s.heap.push PySem.W.emptyDict) (o := PySem.W.instObj C s.heap.objs.size) rfl
    rwa [Heap.size_push] at this
  have e3 : (s.heap.push PySem.W.emptyDict).Ns s.heap.objs.size (fun _ => none) := ⟨PySem.W.emptyDict, #[], _, e1, rfl, (fun e he => absurd he (by simp)), fun _ => rfl⟩
  have I1 := I.laid (a := s.heap.objs.size) (o := .own (s.heap.objs.size + 1)) (h' := s.heap.push PySem.W.emptyDict) (t' := s.toks) (fun b u q => Heap.get?_push_of_some _ q) (Nat.le_refl _) ⟨_, e1⟩
  refine I1.laid (a := s.heap.objs.size + 1) (o := .ins C s.heap.objs.size []) (t' := s.toks) (fun b u q => Heap.get?_push_of_some _ q) (Nat.le_of_eq (Heap.size_push _ _)) ?_
  have ne : s.heap.objs.size ≠ s.heap.objs.size + 1 := Nat.ne_of_lt (Nat.lt_succ_self _)
  refine ⟨by rw [upd_ne ne, upd_same], Nat.zero_le _, ne, e2, fun _ => none, (Heap.Ns1.of_empty e3).at fun o q => Heap.get?_push_of_some _ q, fun _ => True.intro, fun y hy => absurd rfl hy⟩

/-- e.f where nothing but the object is asked: through attributeBase (super) and the last hold -/
theorem attr_of {prog : Program} {w : World} {env : Env} {e : Expr} {f : Str} {pos : Pos} {s : Shared} {Q : Value → Shared → Prop} (hb : attributeBase e f env (eval e env) = eval e env)
    (h : wpAny (model prog w) A (eval e env) (fun o s₁ => wpAny (model prog w) A (getAttr o f true) Q E s₁) E s) : wpAny (model prog w) A (eval (.Attribute e f pos) env) Q E s :=
  Attribute_any_ h (by rw [arm_eval_Attribute, hb])
end

/-- e.f, an attribute of the instance -/
def tFld (K : PySem.W.Frag) (ta : TE) (f : Str) : TE := fun σ H Q => ta σ H fun x H1 => ∃ a C dx fs v, x = .ref a ∧ H1 a = some (.ins C dx fs) ∧ Cls K C ∧ NoAttr K C f ∧ fs.lookup f = some v ∧ Q v H1
/-- e.f = value -/
def sFld (K : PySem.W.Frag) (ta tv : TE) (f : Str) : TS := fun D σ H => tv σ H fun y H1 => ta σ H1 fun x H2 => ∃ a C dx fs, x = .ref a ∧ H2 a = some (.ins C dx fs) ∧ Cls K C ∧ NoAttr K C f ∧ fs.length < 1000 ∧
  D.nx σ (upd H2 a (.ins C dx (putF f y fs)))
section
variable {X : Cx} {o e value : Expr} {f : Str} {pos pos' tpos : Pos} {ta tv : TE}
theorem pe_fld (he : PE X e ta) (hb : attributeBase e f X.env (eval e X.env) = eval e X.env) : PE X (.Attribute e f pos) (tFld X.K ta f) := by
  intro pins s σ H Q I h
  refine attr_of hb (thn (he pins s σ H _ I h) fun u s1 ⟨x, H1, I1, rx, a, C, dx, fs, v, ex, ea, c, n, l, q⟩ => ?_)
  subst ex
  obtain rfl : u = Value.ref a := rx
  exact getattr_ok I1 ea c n l fun u' s2 I2 ru => ⟨v, H1, I2, ru, q⟩
theorem ps_fld (ha : PE X o ta) (hv : PE X value tv) (hs : swapsWith value (some (.Attribute o f pos')) pos.line X.env = pure false) : PS X (.Assign [.Attribute o f pos'] value pos) (sFld X.K ta tv f) := by
  intro pins s σ H D I h
  refine plainObj_wpAny_Assign_Attribute (thn (hv pins s σ H _ I h) fun u s1 ⟨y, H1, I1, ry, q⟩ => thn (ha pins s1 σ H1 _ I1 q) fun ov s2 ⟨x, H2, I2, rx, a, C, dx, fs, ex, ea, c, n, l, q2⟩ => ?_) hs
  subst ex
  obtain rfl : ov = Value.ref a := rx
  exact setattr_ok I2 ea c n l ry fun s3 I3 => ⟨σ, _, I3, q2⟩
end

section
variable {X : Cx} {pins : List (Addr × Obj)} {σ : St} {H : Hp} {s : Shared} {A : Around} {E : Value → Shared → Prop} {Q : Value → Shared → Prop} {c : Value} {b : Bool}
end
end L2

namespace L2
open PySem PySem.Spec PyProof.Rows

structure Room (k : Nat) (A : Around) : Prop where
  hd : A.handled = none
  dp : A.depth + 3 * k + 5 < recursionLimit
  un : A.units + 16 * k + 200 < cLine
theorem Room.mono {j k : Nat} {A : Around} (r : Room k A) (h : j ≤ k) : Room j A := ⟨r.hd, by have := r.dp; omega, by have := r.un; omega⟩
theorem Room.deeper {k : Nat} {A : Around} (r : Room (k + 1) A) (env : Env) : Room k (A.deeper env) :=
  ⟨r.hd, by have := r.dp; show A.depth + 1 + 3 * k + 5 < _; omega, by have := r.un; show A.units + 3 + 16 * k + 200 < _; omega⟩
theorem make_depth {A : Around} {C : Addr} {us : List Value} {kw : List (Str × Value)} : (A.under (.builtin "type.__call__" ⟨.ref C :: us, kw⟩)).depth = A.depth + 1 := by
  first | rfl | simp [Around.under, Code.weight, Code.isCreation, Code.isGuard, Code.isCaller, Code.frames, Code.isFrame, guardIds]
theorem make_units {A : Around} {C : Addr} {us : List Value} {kw : List (Str × Value)} : (A.under (.builtin "type.__call__" ⟨.ref C :: us, kw⟩)).units = A.units + 1 := by
  first | rfl | simp [Around.under, Code.cUnits, Code.frames, Code.isFrame]
theorem Room.make {k : Nat} {A : Around} (r : Room (k + 1) A) (C : Addr) (us : List Value) (kw : List (Str × Value)) : Room k (A.under (.builtin "type.__call__" ⟨.ref C :: us, kw⟩)) :=
  ⟨r.hd, by have := r.dp; rw [make_depth]; omega, by have := r.un; rw [make_units]; omega⟩
theorem Room.depth {k : Nat} {A : Around} (r : Room k A) : A.depth < recursionLimit := by have := r.dp; omega
theorem Room.units {k : Nat} {A : Around} (r : Room k A) : A.units + 64 < cLine := by have := r.un; omega
def tNil : TA := fun _ H Q => Q [] H
def tCons (ta : TE) (tr : TA) : TA := fun σ H Q => ta σ H fun x H1 => tr σ H1 fun xs H2 => Q (x :: xs) H2
section
variable {X : Cx} {e : Expr} {es : List Expr} {te : TE} {t : TA} {pos : Pos}
theorem pa_nil : PA X [] tNil := fun _ _ _ _ H Q I h => Calls.spliced_nil ⟨[], H, I, .nil, h⟩
theorem pa_cons (ha : PE X e te) (hr : PA X es t) (hs : starEach (e :: es) X.env = (false, eval e X.env) :: starEach es X.env := by rfl) : PA X (e :: es) (tCons te t) := by
  intro pos pins s σ H Q I h
  rw [hs]
  show wpAny _ _ (spliced ((false, eval e X.env) :: backTo pos (starEach es X.env))) _ _ s
  refine Calls.spliced_cons (thn (ha pins s σ H _ I h) fun u s1 ⟨x, H1, I1, r1, q1⟩ => ?_)
  exact thn (hr pos pins s1 σ H1 _ I1 q1) fun us s2 ⟨xs, H2, I2, r2, q2⟩ => ⟨x :: xs, H2, I2, .cons r1 r2, q2⟩

/-- a tuple, a list of written items -/
def tTup (t : TA) : TE := fun σ H Q => t σ H fun xs H1 => xs.length ≤ sizeLine ∧ ∀ p, H1 p = none → Q (.ref p) (upd H1 p (.tup xs))
def tLst (t : TA) : TE := fun σ H Q => t σ H fun xs H1 => xs.length ≤ sizeLine ∧ ∀ p, H1 p = none → Q (.ref p) (upd H1 p (.lst xs))
theorem pe_tup {x1} (h : PA X es t) : PE X (.Tuple es x1 pos) (tTup t) := by
  intro pins s σ H Q I hq
  refine wpAny_Tuple_spliced (thn (h pos pins s σ H _ I hq) fun us s1 ⟨xs, H1, I1, r, z, q⟩ => ⟨by rw [← r.length]; exact z, ?_⟩)
  have hf : H1 s1.heap.objs.size = none := I1.hok.fresh (Nat.le_refl _)
  refine ⟨.ref s1.heap.objs.size, upd H1 s1.heap.objs.size (.tup xs), I1.laid (t' := s1.toks) (fun b u e => Heap.get?_push_of_some _ e) (Nat.le_refl _) ?_, rfl, q _ hf⟩
  exact ⟨z, us, r, ⟨_, Heap.get?_push_size _ rfl, rfl, _, rfl⟩⟩
theorem pe_lst (h : PA X es t) : PE X (.List es pos) (tLst t) := by
  intro pins s σ H Q I hq
  refine wpAny_List_spliced (thn (h pos pins s σ H _ I hq) fun us s1 ⟨xs, H1, I1, r, z, q⟩ => ⟨by rw [← r.length]; exact z, ?_⟩)
  have hf : H1 s1.heap.objs.size = none := I1.hok.fresh (Nat.le_refl _)
  refine ⟨.ref s1.heap.objs.size, upd H1 s1.heap.objs.size (.lst xs), I1.laid (t' := s1.toks) (fun b u e => Heap.get?_push_of_some _ e) (Nat.le_refl _) ?_, rfl, q _ hf⟩
  exact ⟨z, us, 0, r, Heap.get?_push_size _ rfl⟩
end

/-- a def's promise: the bound arguments in the parameters' order, the heap, the wanted end, the wanted exception -/
abbrev Sp := List V → Hp → VK → XK → Prop
/-- how an exception lies behind a call (file 08 gives it): the callers' frames, abstract heap and state ahead of the call, the wish, the exception, the state -/
abbrev CXT := List Env → Hp → Shared → XK → Value → Shared → Prop

/-- the state at a call -/
structure Env0 (P : Program) (w : World) (K : PySem.W.Frag) (mg : Str → Option Value) (base : Heap) (A : Around) (outer : List Env) (s : Shared) (H : Hp) : Prop where
  frames : A.frames = some outer
  mod : Mod K mg base
  bs : ∀ b o, base.get? b = some o → s.heap.get? b = some o ∧ H b = none
  bsz : base.objs.size ≤ s.heap.objs.size
  funs : s.heap.FunFrames base outer
  frf : ∀ b ∈ frs outer, H b = none
  hok : HOk P w H s.heap
  bare : AllBare s.gens
/-- a call's end -/
def CE (outer : List Env) (P : Program) (w : World) (H : Hp) (s : Shared) (Q : VK) (u : Value) (s' : Shared) : Prop :=
  ∃ v H', s'.os = s.os ∧ AllBare s'.gens ∧ Un (frs outer) [] H H' s.heap s'.heap ∧ HOk P w H' s'.heap ∧ RelV v u ∧ Q v H'
def CR (CX : CXT) (outer : List Env) (P : Program) (w : World) (H : Hp) (s : Shared) (Q : VK) (E : XK) (r : Result) (s' : Shared) : Prop :=
  match r with
  | .ok (.ret u) => CE outer P w H s Q u s'
  | .ok _ => False
  | .error e => CX outer H s E e s'
structure FnOk (P : Program) (w : World) (K : PySem.W.Frag) (mg : Str → Option Value) (base : Heap) (CX : CXT) (k : Nat) (f : Addr) (fd : FuncData) (ps : List Str) (sp : Sp) : Prop where
  len : ∀ vs H Q E, sp vs H Q E → vs.length = ps.length
  run : ∀ (A : Around) (outer : List Env) (s : Shared) (H : Hp) (args : Args) (us : List Value) (vs : List V) (Q : VK) (E : XK), Room k A → Env0 P w K mg base A outer s H → BindsTo s fd args (ps.zip us) → Vals vs us → sp vs H Q E →
    codeAny (model P w) A (.call (.ref f) args) (CR CX outer P w H s Q E) s
theorem FnOk.mono {P : Program} {w : World} {K : PySem.W.Frag} {mg : Str → Option Value} {base : Heap} {CX : CXT} {j k : Nat} {f : Addr} {fd : FuncData} {ps : List Str} {sp : Sp} (F : FnOk P w K mg base CX j f fd ps sp) (h : j ≤ k) :
    FnOk P w K mg base CX k f fd ps sp := ⟨F.len, fun A outer s H args us vs Q E hr => F.run A outer s H args us vs Q E (hr.mono h)⟩
theorem Env0.make {P : Program} {w : World} {K : PySem.W.Frag} {mg : Str → Option Value} {base : Heap} {A : Around} {outer : List Env} {s : Shared} {H : Hp} (e : Env0 P w K mg base A outer s H) (C : Addr) (us : List Value) (kw : List (Str × Value)) :
    Env0 P w K mg base (A.under (.builtin "type.__call__" ⟨.ref C :: us, kw⟩)) outer s H := ⟨by first | exact e.frames | (simpa [Around.under, Code.envs, Code.isFrame, pushEnvs] using e.frames), e.mod, e.bs, e.bsz, e.funs, e.frf, e.hok, e.bare⟩
section
variable {X : Cx} {pins : List (Addr × Obj)} {σ : St} {H : Hp} {s s' : Shared}
/-- from a body: what a callee wants -/
theorem Inv.env0 (I : Inv X pins σ H s) : Env0 X.prog X.w X.K X.mg X.base X.A X.stack s H :=
  ⟨I.ok.frames, I.ok.mod, I.bs, Nat.le_trans I.ok.bsz I.sz, I.stack, I.stkFree, I.hok, I.bare⟩
/-- behind a call -/
theorem Inv.after {Q : VK} {u : Value} (I : Inv X pins σ H s) (h : CE X.stack X.prog X.w H s Q u s') : EP X pins σ Q u s' := by
  obtain ⟨v, H', os, bare, un, hok, r, q⟩ := h
  obtain ⟨hh, g, d, t, os'⟩ := s'
  obtain rfl : os' = s.os := os
  exact ⟨v, H', I.call (h' := hh) (g' := g) (d' := d) (t' := t) (ch := []) un hok bare (fun b z => absurd z (by simp)), r, q⟩
end

/-- f(..): the written arguments, then the defaults dvs; E: what is wanted of an exception -/
def tCall (sp : Sp) (dvs : List V) (E : XK) (t : TA) : TE := fun σ H Q => t σ H fun vs H1 => sp (vs ++ dvs) H1 Q E
/-- o.m(..) of an instance of the class at C -/
def tMeth (C : Addr) (m : Str) (sp : Sp) (dvs : List V) (E : XK) (ta : TE) (t : TA) : TE := fun σ H Q => ta σ H fun x H1 => ∃ a dx fs, x = .ref a ∧ H1 a = some (.ins C dx fs) ∧ fs.lookup m = none ∧
  t σ H1 fun vs H2 => sp (x :: (vs ++ dvs)) H2 Q E
/-- C(..): a new instance and its dict, then __init__ -/
def tMake (C : Addr) (sp : Sp) (dvs : List V) (E : XK) (t : TA) : TE := fun σ H Q => t σ H fun vs H1 => ∀ x dx, H1 x = none → H1 dx = none → dx ≠ x →
  sp (.ref x :: (vs ++ dvs)) (upd (upd H1 dx (.own x)) x (.ins C dx [])) (fun v H2 => v = .non ∧ Q (.ref x) H2) E

/-- how the parameters are bound: us the positional arguments, kw the keywords' values by name, ds the defaults that fill up -/
def Binds (K : PySem.W.Frag) (fd : FuncData) (ps : List Str) (ds : List Value) : Prop :=
  ∀ (s : Shared) (us : List Value), K.In s.heap → (us ++ ds).length = ps.length → BindsTo s fd ⟨us, []⟩ (ps.zip (us ++ ds))
/-- every parameter is given -/
theorem Binds.all {K : PySem.W.Frag} {fd : FuncData} {ps : List Str} (h : ∀ us : List Value, us.length = ps.length → bindArgs fd ⟨us, []⟩ = pure (ps.zip us)) : Binds K fd ps [] := fun s us _ hl => by
  rw [List.append_nil] at hl ⊢
  exact .of_eq (h us hl)

/-- an exception of a callee reaches what this body wants of exceptions -/
def Passes (CX : CXT) (X : Cx) (E : XK) : Prop := ∀ (pins : List (Addr × Obj)) (σ : St) (H : Hp) (s : Shared) (e : Value) (s' : Shared), Inv X pins σ H s → CX X.stack H s E e s' → X.xe e s'

section
variable {X : Cx} {CX : CXT} {k : Nat} {f C : Addr} {fd : FuncData} {ps : List Str} {sp : Sp} {dvs : List V} {ds : List Value} {E : XK} {x m : Str} {p pos apos : Pos} {e o : Expr} {es : List Expr} {ta : TE} {t : TA}

/-- the callee runs -/
theorem run_fn {pins : List (Addr × Obj)} {σ : St} {H : Hp} {s : Shared} {Q : VK} {us : List Value} {vs : List V} (F : FnOk X.prog X.w X.K X.mg X.base CX k f fd ps sp) (hr : Room k X.A) (hb : Binds X.K fd ps ds) (hd : Vals dvs ds) (hx : Passes CX X E)
    (I : Inv X pins σ H s) (r : Vals vs us) (h : sp (vs ++ dvs) H Q E) : wpAny (model X.prog X.w) X.A (call (.ref f) us) (EP X pins σ Q) X.xe s := by
  have r2 : Vals (vs ++ dvs) (us ++ ds) := r.append hd
  have hl : (us ++ ds).length = ps.length := by rw [← r2.length]; exact F.len _ _ _ _ h
  refine wpAny_call (codeAny_mono (F.run X.A X.stack s H ⟨us, []⟩ (us ++ ds) (vs ++ dvs) Q E hr I.env0 (hb s us I.kIn hl) r2 h) fun r s' hq => ?_)
  cases r with
  | error e => exact hx pins σ H s e s' I hq
  | ok fl =>
    cases fl with
    | ret u => exact I.after hq
    | next => exact False.elim hq
    | brk => exact False.elim hq
    | cont => exact False.elim hq

theorem pe_call (F : FnOk X.prog X.w X.K X.mg X.base CX k f fd ps sp) (hr : Room k X.A) (hg : Gl X x) (hm : X.mg x = some (.ref f)) (hk : PySem.W.keepIn X.K (.ref f) = true) (hb : Binds X.K fd ps ds) (hd : Vals dvs ds) (hx : Passes CX X E)
    (ha : PA X (e :: es) t) (hdb : (x == ("__debug__" : Str)) = false := by decide) (he : starEach (e :: es) X.env = (false, eval e X.env) :: starEach es X.env := by rfl) (hpl : (backTo pos (starEach es X.env)).any (·.1) = false := by rfl) :
    PE X (.Call (.Name x p) (e :: es) [] pos) (tCall sp dvs E t) := by
  intro pins s σ H Q I h
  refine wpAny_Call_Name_kw (ld_glob I hg hm ?_ hdb)
  refine PySem.W.callWith_K (h₀ := X.base) I.ok.mod.kin hk (thn (ha pos pins s σ H _ I h) fun us s1 ⟨vs, H1, I1, r, q⟩ => ⟨I1.kIn, ?_⟩) he hpl
  exact run_fn F hr hb hd hx I1 r q
/-- o.m(e, ..) -/
theorem pe_meth {pl : Sem Bool} (he : PE X o ta) (c : Cls X.K C) (hm : Meth X.K C m f) (F : FnOk X.prog X.w X.K X.mg X.base CX k f fd ps sp) (hr : Room k X.A) (hb : Binds X.K fd ps ds) (hd : Vals dvs ds) (hx : Passes CX X E) (ha : PA X (e :: es) t)
    (hst : starEach (e :: es) X.env = (false, eval e X.env) :: starEach es X.env := by rfl) (hpl : (backTo pos (starEach es X.env)).any (·.1) = false := by rfl)
    (ht : eval (.Call (.Attribute o m apos) (e :: es) [] pos) X.env = (do
      let ov ← eval o X.env
      standAt apos.atName
      let (f, first) ← holding [ov] (getMethod ov m pl)
      callWith pos f first (backTo pos (starEach (e :: es) X.env)) (backToKw pos (keywordEach [] X.env))) := by rfl) :
    PE X (.Call (.Attribute o m apos) (e :: es) [] pos) (tMeth C m sp dvs E ta t) := by
  intro pins s σ H Q I h
  refine PySem.W.methodCall_KW (pl := pl) (thn (he pins s σ H _ I h) fun u s1 ⟨x, H1, I1, rx, a, dx, fs, ex, ea, l, q⟩ => ?_) ht
  subst ex
  obtain rfl : u = Value.ref a := rx
  refine getmeth_ok I1 ea c hm l ?_
  refine PySem.W.callWith_K (first := [.ref a]) (h₀ := X.base) I.ok.mod.kin hm.kp (thn (ha pos pins s1 σ H1 _ I1 q) fun us s2 ⟨vs, H2, I2, r, q2⟩ => ⟨I2.kIn, ?_⟩) hst hpl
  exact run_fn (us := .ref a :: us) (vs := .ref a :: vs) F hr hb hd hx I2 (.cons rfl r) q2
/-- o.m() -/
theorem pe_meth0 {pl : Sem Bool} (he : PE X o ta) (c : Cls X.K C) (hm : Meth X.K C m f) (F : FnOk X.prog X.w X.K X.mg X.base CX k f fd ps sp) (hr : Room k X.A) (hb : Binds X.K fd ps ds) (hd : Vals dvs ds) (hx : Passes CX X E)
    (ht : eval (.Call (.Attribute o m apos) [] [] pos) X.env = (do
      let ov ← eval o X.env
      standAt apos.atName
      let (f, first) ← holding [ov] (getMethod ov m pl)
      callWith pos f first (backTo pos (starEach [] X.env)) (backToKw pos (keywordEach [] X.env))) := by rfl) :
    PE X (.Call (.Attribute o m apos) [] [] pos) (tMeth C m sp dvs E ta tNil) := by
  intro pins s σ H Q I h
  refine PySem.W.methodCall_KW (pl := pl) (thn (he pins s σ H _ I h) fun u s1 ⟨x, H1, I1, rx, a, dx, fs, ex, ea, l, q⟩ => ?_) ht
  subst ex
  obtain rfl : u = Value.ref a := rx
  refine getmeth_ok I1 ea c hm l ?_
  exact PySem.W.callWith_K0 (first := [.ref a]) I1.kIn hm.kp (run_fn (us := [.ref a]) (vs := [.ref a]) F hr hb hd hx I1 (.cons rfl .nil) q)

/-- what a class must have to be made -/
structure Mk (K : PySem.W.Frag) (C f : Addr) : Prop where
  makes : PySem.W.makesIn K C = true
  init : PySem.W.findIn K (.ref C) "__init__" = some (some (.ref f))
  fn : PySem.W.isFn K (.ref f) = true
  kp : PySem.W.keepIn K (.ref C) = true

theorem run_make {pins : List (Addr × Obj)} {σ : St} {H : Hp} {s : Shared} {Q : VK} {us : List Value} {vs : List V} (M : Mk X.K C f) (F : FnOk X.prog X.w X.K X.mg X.base CX k f fd ps sp) (hr : Room (k + 1) X.A) (hb : Binds X.K fd ps ds) (hd : Vals dvs ds)
    (hx : Passes CX X E) (I : Inv X pins σ H s) (r : Vals vs us)
    (h : ∀ x dx, H x = none → H dx = none → dx ≠ x → sp (.ref x :: (vs ++ dvs)) (upd (upd H dx (.own x)) x (.ins C dx [])) (fun v H2 => v = .non ∧ Q (.ref x) H2) E) :
    wpAny (model X.prog X.w) X.A (call (.ref C) us) (EP X pins σ Q) X.xe s := by
  have hq := h (s.heap.objs.size + 1) s.heap.objs.size (I.hok.fresh (Nat.le_succ _)) (I.hok.fresh (Nat.le_refl _)) (Nat.ne_of_lt (Nat.lt_succ_self _))
  have I2 := Inv.made (C := C) I
  have r2 : Vals (V.ref (s.heap.objs.size + 1) :: (vs ++ dvs)) (Value.ref (s.heap.objs.size + 1) :: (us ++ ds)) := .cons rfl (r.append hd)
  have hl : (Value.ref (s.heap.objs.size + 1) :: us ++ ds).length = ps.length := by
    have e := r2.length
    rw [F.len _ _ _ _ hq] at e
    exact e.symm
  refine wpAny_call (make_map (f := f) I.kIn M.makes M.init (beq_iff_eq.mp M.fn) (codeAny_mono (F.run _ X.stack _ _ ⟨Value.ref (s.heap.objs.size + 1) :: us, []⟩ (Value.ref (s.heap.objs.size + 1) :: (us ++ ds)) _ _ E (hr.make C us [])
    (I2.env0.make C us []) (hb _ (Value.ref (s.heap.objs.size + 1) :: us) I2.kIn hl) r2 hq) fun r s' hq' => ?_))
  cases r with
  | error e => exact hx pins σ _ _ e s' I2 hq'
  | ok fl =>
    cases fl with
    | ret u =>
      obtain ⟨v, H', I3, rv, ev, q3⟩ := I2.after hq'
      subst ev
      exact ⟨rv, ⟨V.ref (s.heap.objs.size + 1), H', I3, rfl, q3⟩⟩
    | next => exact False.elim hq'
    | brk => exact False.elim hq'
    | cont => exact False.elim hq'
theorem pe_make (M : Mk X.K C f) (F : FnOk X.prog X.w X.K X.mg X.base CX k f fd ps sp) (hr : Room (k + 1) X.A) (hg : Gl X x) (hm : X.mg x = some (.ref C)) (hb : Binds X.K fd ps ds) (hd : Vals dvs ds) (hx : Passes CX X E)
    (ha : PA X (e :: es) t) (hdb : (x == ("__debug__" : Str)) = false := by decide) (he : starEach (e :: es) X.env = (false, eval e X.env) :: starEach es X.env := by rfl) (hpl : (backTo pos (starEach es X.env)).any (·.1) = false := by rfl) :
    PE X (.Call (.Name x p) (e :: es) [] pos) (tMake C sp dvs E t) := by
  intro pins s σ H Q I h
  refine wpAny_Call_Name_kw (ld_glob I hg hm ?_ hdb)
  refine PySem.W.callWith_K (h₀ := X.base) I.ok.mod.kin M.kp (thn (ha pos pins s σ H _ I h) fun us s1 ⟨vs, H1, I1, r, q⟩ => ⟨I1.kIn, ?_⟩) he hpl
  exact run_make M F hr hb hd hx I1 r q
theorem pe_make0 (M : Mk X.K C f) (F : FnOk X.prog X.w X.K X.mg X.base CX k f fd ps sp) (hr : Room (k + 1) X.A) (hg : Gl X x) (hm : X.mg x = some (.ref C)) (hb : Binds X.K fd ps ds) (hd : Vals dvs ds) (hx : Passes CX X E)
    (hdb : (x == ("__debug__" : Str)) = false := by decide) : PE X (.Call (.Name x p) [] [] pos) (tMake C sp dvs E tNil) := by
  intro pins s σ H Q I h
  refine wpAny_Call_Name_kw (ld_glob I hg hm ?_ hdb)
  exact PySem.W.callWith_K0 I.kIn M.kp (run_make (us := []) M F hr hb hd hx I .nil h)
end

section
variable {X : Cx} {CX : CXT} {k : Nat} {f C : Addr} {fd : FuncData} {ps ks : List Str} {sp : Sp} {E : XK} {x m : Str} {p pos apos kpos : Pos} {e o : Expr} {es : List Expr} {kws : List Keyword} {te ta : TE} {t tk : TA} {nm : Option Str}
variable {g : List Value → List Value → List Value} {gV : List V → List V → List V}
end

/-- names: the parameters first -/
structure FnScope (N P : List Str) (sc : Scope) : Prop where
  kind : sc.kind = .function
  co : sc.isCoroutine = false
  gen : sc.isGenerator = false
  nd : N.Nodup
  pre : N.take P.length = P
  par : ∀ x ∈ P, sc.names.lookup x = some .local ∨ sc.names.lookup x = some .cell
  nofree : ∀ y ∈ sc.names, y.2 ≠ .free

theorem bindL_out {kindOf : Str → Option NameKind} {x : Str} : ∀ {binds : List (Str × Value)} {m : Str → Option Value}, (∀ v, (x, v) ∉ binds) → bindL kindOf binds m x = m x
  | [], _, _ => rfl
  | (n, v) :: r, m, h => by
    unfold bindL
    rw [bindL_out fun w hw => h w (List.mem_cons_of_mem _ hw)]
    split
    · have : x ≠ n := by rintro rfl; exact h v List.mem_cons_self
      simp [this]
    · rfl
theorem bindC_out {kindOf : Str → Option NameKind} {x : Str} : ∀ {binds : List (Str × Value)} {m : Str → Option Value}, (∀ v, (x, v) ∉ binds) → bindC kindOf binds m x = m x
  | [], _, _ => rfl
  | (n, v) :: r, m, h => by
    unfold bindC
    rw [bindC_out fun w hw => h w (List.mem_cons_of_mem _ hw)]
    split
    · rfl
    · have : x ≠ n := by rintro rfl; exact h v List.mem_cons_self
      simp [this]
theorem bindL_get {kindOf : Str → Option NameKind} {x : Str} {v : Value} : ∀ {P : List Str} {vs : List Value} {i : Nat} {m : Str → Option Value}, P.Nodup → P[i]? = some x → vs[i]? = some v → kindOf x = some .local →
    bindL kindOf (P.zip vs) m x = some v
  | [], _, _, _, _, h, _, _ => by simp at h
  | _ :: _, [], _, _, _, _, h, _ => by simp at h
  | p :: P, w :: vs, 0, m, nd, h1, h2, hk => by
    simp at h1 h2; subst h1; subst h2
    show bindL kindOf ((p, w) :: P.zip vs) m p = _
    unfold bindL
    rw [bindL_out fun v hv => (List.nodup_cons.mp nd).1 (List.of_mem_zip hv).1, if_pos hk]
    simp
  | p :: P, w :: vs, i + 1, m, nd, h1, h2, hk => by
    show bindL kindOf ((p, w) :: P.zip vs) m x = _
    unfold bindL
    exact bindL_get (i := i) (List.nodup_cons.mp nd).2 (by simpa using h1) (by simpa using h2) hk
theorem bindC_get {kindOf : Str → Option NameKind} {x : Str} {v : Value} : ∀ {P : List Str} {vs : List Value} {i : Nat} {m : Str → Option Value}, P.Nodup → P[i]? = some x → vs[i]? = some v → kindOf x ≠ some .local →
    bindC kindOf (P.zip vs) m x = some v
  | [], _, _, _, _, h, _, _ => by simp at h
  | _ :: _, [], _, _, _, _, h, _ => by simp at h
  | p :: P, w :: vs, 0, m, nd, h1, h2, hk => by
    simp at h1 h2; subst h1; subst h2
    show bindC kindOf ((p, w) :: P.zip vs) m p = _
    unfold bindC
    rw [bindC_out fun v hv => (List.nodup_cons.mp nd).1 (List.of_mem_zip hv).1, if_neg hk]
    simp
  | p :: P, w :: vs, i + 1, m, nd, h1, h2, hk => by
    show bindC kindOf ((p, w) :: P.zip vs) m x = _
    unfold bindC
    exact bindC_get (i := i) (List.nodup_cons.mp nd).2 (by simpa using h1) (by simpa using h2) hk

/-- the names' values at the entry -/
def start (N : List Str) (vs : List V) : St := vs.map some ++ List.replicate (N.length - vs.length) none

/-- the context of a def's body, at its entry; an exception leaves the frame, then lies as CX says -/
def cxOf (CX : CXT) (P : Program) (w : World) (K : PySem.W.Frag) (mg : Str → Option Value) (base : Heap) (N : List Str) (qual : Str) (scope : Scope) (f : Addr) (cd : Value) (A : Around) (outer : List Env) (s : Shared) (H : Hp) (E : XK) : Cx where
  prog := P
  w := w
  K := K
  mg := mg
  base := base
  A := A.deeper (envOfC qual scope s.heap.objs.size f cd)
  N := N
  s_0 := s
  H_0 := H
  env := envOfC qual scope s.heap.objs.size f cd
  outer := outer
  stack := envOfC qual scope s.heap.objs.size f cd :: outer
  ex := []
  calm := true
  fn := fun _ => true
  pn := []
  xe := fun e s' => wpAny (model P w) (A.deeper (envOfC qual scope s.heap.objs.size f cd)) (leaving (envOfC qual scope s.heap.objs.size f cd) e) (fun _ s'' => CX outer H s E e s'') (fun e' s'' => CX outer H s E e' s'') s'

theorem cell_has {sc : Scope} {n : Nat} {x : Str} (h : sc.names.lookup x = some .cell) : ∃ c, (cellsFrom n sc.names []).lookup x = some c := by
  have q := PySem.W.cellsFrom_some sc.names n [] (.inl h)
  exact Option.isSome_iff_exists.mp q

theorem inv_start {CX : CXT} {P : Program} {w : World} {K : PySem.W.Frag} {mg : Str → Option Value} {base : Heap} {N ps : List Str} {qual : Str} {scope : Scope} {f : Addr} {cd : Value} {A : Around} {outer : List Env} {s s1 : Shared} {H : Hp} {E : XK} {us : List Value} {vs : List V}
    (S : FnScope N ps scope) (hd : A.handled = none) (e0 : Env0 P w K mg base A outer s H) (hl : vs.length = ps.length) (r : Vals vs us)
    (x : InCallC s s.heap.objs.size (bindL (envOfC qual scope s.heap.objs.size f cd).kindOf (ps.zip us) fun _ => none) (cellsFrom (s.heap.objs.size + 1) scope.names []) (bindC (envOfC qual scope s.heap.objs.size f cd).kindOf (ps.zip us) fun _ => none) s1) :
    Inv (cxOf CX P w K mg base N qual scope f cd A outer s H E) [] (start N vs) H s1 := by
  have hpl : ps.length ≤ N.length := by have := congrArg List.length S.pre; rw [List.length_take] at this; omega
  obtain ⟨h1, tk, rfl, hk⟩ := x.done
  have noA : ∀ b : Addr, b ∉ (cxOf CX P w K mg base N qual scope f cd A outer s H E).ex := fun b z => absurd (show b ∈ ([] : List Addr) from z) (by simp)
  refine ⟨⟨e0.mod, S.kind, rfl, rfl, Nat.le_refl _, fun y z c h1 h2 => ?_, fun y hy => ?_, fun y c _ h => ?_, fun _ => hd, Around.frames_deeper e0.frames, .inr ⟨rfl, rfl⟩, fun b z => absurd z (noA b), e0.bs, e0.bsz, fun b _ _ => noA b, fun b z => absurd z (noA b), e0.funs, e0.frf⟩,
    rfl, e0.bare, Un.kept hk, ⟨_, x.toInCall.ns, fun i y v h1 h2 h3 => ?_⟩, fun y c h => ⟨_, x.cell y c h⟩, e0.hok.fresh (Nat.le_refl _), fun y c h => ?_, fun p hp => absurd (show p ∈ ([] : List (Addr × Obj)) from hp) (by simp), e0.hok.kept hk, ?_⟩
  · exact name_of_addr x.apart (PySem.mem_of_lookup h1) (PySem.mem_of_lookup h2)
  · have hy : scope.names.lookup y = some .cell ∨ scope.names.lookup y = some .free := hy
    rcases hy with hy | hy
    · exact cell_has hy
    · exact absurd rfl (S.nofree _ (PySem.mem_of_lookup hy))
  · exact Nat.le_of_lt (x.above y c (PySem.mem_of_lookup h))
  · have hi : i < vs.length := by
      unfold start at h2
      by_cases hi : i < vs.length
      · exact hi
      · rw [List.getElem?_append_right (by simpa using hi)] at h2
        rw [List.getElem?_replicate] at h2
        split at h2 <;> cases h2
    have ha : vs[i]? = some v := by
      unfold start at h2
      rw [List.getElem?_append_left (by simpa using hi), List.getElem?_map] at h2
      cases e : vs[i]? with
      | none => rw [e] at h2; cases h2
      | some a => rw [e] at h2; cases h2; rfl
    obtain ⟨u, hu, rv⟩ := r.get ha
    have hp : ps[i]? = some y := by
      rw [← S.pre, List.getElem?_take_of_lt (by omega)]; exact h1
    have ndP : ps.Nodup := by rw [← S.pre]; exact S.nd.sublist (List.take_sublist _ _)
    refine ⟨u, rv, ?_⟩
    rcases S.par y (List.mem_of_getElem? hp) with k | k
    · exact .inl ⟨k, bindL_get ndP hp hu k⟩
    · obtain ⟨c, e⟩ := cell_has (n := s.heap.objs.size + 1) k
      refine .inr ⟨.inl k, c, e, ?_⟩
      have q := x.cell y c e
      rw [bindC_get ndP hp hu (by show scope.names.lookup y ≠ _; rw [k]; decide)] at q
      exact q
  · exact e0.hok.fresh (Nat.le_of_lt (x.above y c (PySem.mem_of_lookup h)))
  · unfold start
    show _ = N.length
    rw [List.length_append, List.length_map, List.length_replicate]
    omega

/-- THE RULE: a def (or a method) of the text, by its body. The body's reading t is chosen for each entry; it is run at the parameters' values -/
theorem fn_of {CX : CXT} {P : Program} {w : World} {K : PySem.W.Frag} {mg : Str → Option Value} {base : Heap} {k : Nat} {f : Addr} {name qual : Str} {params : Arguments} {body : List Stmt} {scope : Scope} {dV kV doc pm cdv ct oc : Value} {an od : Option Addr}
    {osl : Array (Option Value)} {N ps : List Str} {sp : Sp} (lk : K.lookup f = some ⟨oc, od, .func (PySem.W.fnOf name qual params body scope dV kV doc pm an cdv ct), osl⟩) (hcd : PySem.W.codeIn K cdv qual = true) (S : FnScope N ps scope)
    (len : ∀ vs H Q E, sp vs H Q E → vs.length = ps.length)
    (hbody : ∀ (A : Around) (outer : List Env) (s : Shared) (H : Hp) (vs : List V) (Q : VK) (E : XK), Room k (A.deeper (envOfC qual scope s.heap.objs.size f cdv)) → sp vs H Q E →
      ∃ t, PSs (cxOf CX P w K mg base N qual scope f cdv A outer s H E) body t ∧ t { nx := fun _ H' => Q .non H', rt := Q } (start N vs) H) :
    FnOk P w K mg base CX (k + 1) f (PySem.W.fnOf name qual params body scope dV kV doc pm an cdv ct) ps sp := by
  refine ⟨len, fun A outer s H args us vs Q E hr e0 hb r hsp => ?_⟩
  have hl := len _ _ _ _ hsp
  have KX : K.In s.heap := e0.mod.kin.keeps fun b o e => (e0.bs b o e).1
  have lim : s.heap.NoLimit := e0.mod.nolimit.keeps fun b o e => (e0.bs b o e).1
  have hkind : ∀ y ∈ ps.zip us, scope.names.lookup y.1 = some .local ∨ (scope.names.lookup y.1 = some .cell ∧ ((cellsFrom (s.heap.objs.size + 1) scope.names []).lookup y.1).isSome = true) := fun ⟨n, v⟩ hy => by
    rcases S.par n (List.of_mem_zip hy).1 with q | q
    · exact .inl q
    · exact .inr ⟨q, PySem.W.cellsFrom_some _ _ _ (.inl q)⟩
  refine codeAny_call_function hr.depth (KX _ _ lk) rfl S.co S.gen rfl (PySem.W.codeRec_of KX hcd) (hb _ _ _ _ ?_)
  refine wpAny_newFunctionEnv_cells S.kind hkind fun env he s1 x => ?_
  subst he
  refine ⟨lim.keeps x.toInCall.keep, codeAny_func ?_⟩
  obtain ⟨t, ht, hq⟩ := hbody A outer s H vs Q E (hr.deeper _) hsp
  have I : Inv (cxOf CX P w K mg base N qual scope f cdv A outer s H E) [] (start N vs) H s1 := inv_start S hr.hd e0 hl r x
  refine wpAny_mono (ht [] s1 (start N vs) H _ I hq) (fun fl s' hs => ?_) fun e s' hs => hs
  have fin : ∀ {σ' : St} {H' : Hp} {v : V} {u : Value}, Inv (cxOf CX P w K mg base N qual scope f cdv A outer s H E) [] σ' H' s' → RelV v u → Q v H' → CE outer P w H s Q u s' :=
    fun {σ' H' v u} J rv q => ⟨v, H', J.os, J.bare, J.base, J.hok, rv, q⟩
  cases fl with
  | ret u =>
    obtain ⟨v, σ', H', J, rv, q⟩ := hs
    exact fin J rv q
  | next =>
    obtain ⟨σ', H', J, q⟩ := hs
    exact fin (v := V.non) (u := Value.none) J rfl q
  | brk =>
    obtain ⟨_, _, _, q⟩ := hs
    exact False.elim q
  | cont =>
    obtain ⟨_, _, _, q⟩ := hs
    exact False.elim q
end L2

namespace L2
open PySem PySem.Spec PyProof.Rows
section
variable {X : Cx} {x : Str} {p pos : Pos} {e : Expr} {es : List Expr} {t : TA} {id T : String} {r : List V → Hp → VK → Prop}

def tCB (r : List V → Hp → VK → Prop) (t : TA) : TE := fun σ H Q => t σ H fun vs H1 => r vs H1 Q
/-- f(e, ..), f a built-in function -/
theorem pe_callB (hc : CallR X (.builtin id) r) (hg : Gl X x) (hm : X.mg x = none) (hv : bootBuiltins x = some (.builtin id)) (ha : PA X (e :: es) t) (hn : x ≠ "__name__" := by decide) (hdb : (x == ("__debug__" : Str)) = false := by decide)
    (he : starEach (e :: es) X.env = (false, eval e X.env) :: starEach es X.env := by rfl) (hpl : (backTo pos (starEach es X.env)).any (·.1) = false := by rfl) : PE X (.Call (.Name x p) (e :: es) [] pos) (tCB r t) := by
  intro pins s σ H Q I h
  refine wpAny_Call_Name_kw (ld_blt I hg hm hv ?_ hn hdb)
  exact PyProof.Rows.callWith_builtin1 (thn (ha pos pins s σ H _ I h) fun us s1 ⟨vs, H1, I1, r1, q1⟩ => hc pins s1 σ H1 vs us Q I1 r1 q1) he hpl
end
end L2

namespace HT
open PySem PyProof.Rows

section
open PySem.SeqAt
open PySem.AutoSeq1 (wpAny_loadPart')
open PySem.MeetsSeq PySem.MeetsSeq2 PySem.MeetsSeq3

end

section
variable {prog : Program} {w : World} {A : Around} {E : Value → Shared → Prop} {s : Shared}

/-- a slice's bound as a place among n (d where it is left out) -/
def sIx (n d : Nat) : Option Int → Nat
  | none => d
  | some v => if v < 0 then (v + (n : Int)).toNat else min v.toNat n
theorem sIx_none (n d : Nat) : sIx n d none = d := rfl
theorem sIx_nat (n d k : Nat) : sIx n d (some (k : Int)) = min k n := by
  show (if (k : Int) < 0 then ((k : Int) + (n : Int)).toNat else min (k : Int).toNat n) = min k n
  rw [if_neg (by omega), Int.toNat_natCast]
end
end HT

namespace L2
open PySem PySem.Spec PyProof.Rows

abbrev TO := St → Hp → (Option Int → Hp → Prop) → Prop
/-- a slice's part (left out, or an int) -/
def PO (X : Cx) (e : Option Expr) (t : TO) : Prop :=
  ∀ (pins : List (Addr × Obj)) (s : Shared) (σ : St) (H : Hp) (Q : Option Int → Hp → Prop), Inv X pins σ H s → t σ H Q →
    wpAny (model X.prog X.w) X.A (evalPart e X.env) (fun u s' => ∃ o H', Inv X pins σ H' s' ∧ IsPart u o ∧ Q o H') X.xe s
def tNoPart : TO := fun _ H Q => Q none H
def tPart (t : TE) : TO := fun σ H Q => t σ H fun x H1 => ∃ i, x = .int i ∧ Q (some i) H1

section
variable {X : Cx} {e : Expr} {te : TE} {lo hi : Option Expr} {tl th : TO} {pos p2 : Pos}

theorem po_none : PO X none tNoPart := by
  intro pins s σ H Q I h
  rw [evalPart_none]
  exact wpAny_pure ⟨none, H, I, .none, h⟩
theorem po_some (h : PE X e te) : PO X (some e) (tPart te) := by
  intro pins s σ H Q I hw
  rw [evalPart_some]
  refine thn (h pins s σ H _ I hw) fun u s1 ⟨x, H1, I1, r1, q1⟩ => ?_
  obtain ⟨i, rfl, q⟩ := q1
  obtain ⟨t, rfl⟩ := r1
  exact ⟨some i, H1, I1, .int i t, q⟩

/-- what a slice of a value is, by values: the slice object stands at sl -/
def SlR (X : Cx) (r : V → Option Int → Option Int → Hp → VK → Prop) : Prop :=
  ∀ (pins : List (Addr × Obj)) (s : Shared) (σ : St) (H : Hp) (x : V) (v vl vu : Value) (lo hi : Option Int) (sl : Addr) (Q : VK), Inv X pins σ H s → RelV x v → s.heap.IsSliceOf sl vl vu .none → IsPart vl lo → IsPart vu hi → r x lo hi H Q →
    ∃ T id, typeLookup (.type T) "__getitem__" = pure (some (.builtin id)) ∧ s.TypeIs v T ∧ wpAny (model X.prog X.w) X.A (getItem v (.ref sl)) (EP X pins σ Q) X.xe s
theorem SlR.or {r r' : V → Option Int → Option Int → Hp → VK → Prop} (h : SlR X r) (h' : SlR X r') : SlR X (fun x lo hi H Q => r x lo hi H Q ∨ r' x lo hi H Q) := by
  intro pins s σ H x v vl vu lo hi sl Q I rx hs pl pu q
  rcases q with q | q
  · exact h pins s σ H x v vl vu lo hi sl Q I rx hs pl pu q
  · exact h' pins s σ H x v vl vu lo hi sl Q I rx hs pl pu q
def tSl (r : V → Option Int → Option Int → Hp → VK → Prop) (te : TE) (tl th : TO) : TE := fun σ H Q => te σ H fun x H1 => tl σ H1 fun l H2 => th σ H2 fun u H3 => r x l u H3 Q
/-- a[lo:hi], any a -/
theorem pe_slice {r : V → Option Int → Option Int → Hp → VK → Prop} (hr : SlR X r) (he : PE X e te) (hl : PO X lo tl) (hu : PO X hi th) : PE X (.Subscript e (.Slice lo hi none p2) pos) (tSl r te tl th) := by
  intro pins s σ H Q I h
  refine Subscript_ (thn (he pins s σ H _ I h) fun v s1 ⟨x, H1, I1, r1, q1⟩ => ?_)
  refine wpAny_Slice (thn (hl pins s1 σ H1 _ I1 q1) fun vl s2 ⟨l, H2, I2, pl, q2⟩ => thn (hu pins s2 σ H2 _ I2 q2) fun vu s3 ⟨u, H3, I3, pu, q3⟩ => ?_)
  rw [evalPart_none]
  refine wpAny_pure ?_
  have I4 : Inv X pins σ H3 { s3 with heap := s3.heap.push { cls := .type "slice", data := .fields #[vl, vu, .none] } } := I3.kept (t' := s3.toks) fun b ob q => Heap.get?_push_of_some _ q
  obtain ⟨T, id, hT, ht, hg⟩ := hr pins { s3 with heap := s3.heap.push { cls := .type "slice", data := .fields #[vl, vu, .none] } } σ H3 x v vl vu l u s3.heap.objs.size Q I4 r1 (Heap.IsSliceOf.new ..) pl pu q3
  show wpAny (model X.prog X.w) X.A (subscriptTail e (.Slice lo hi none p2) v (.ref s3.heap.objs.size)) (EP X pins σ Q) X.xe { s3 with heap := s3.heap.push { cls := .type "slice", data := .fields #[vl, vu, .none] } }
  exact tail_any (ops := [.ref s3.heap.objs.size, v]) ht hT hg (by with_unfolding_all rfl)

/-- the items of xs[lo:hi] -/
def cutV (xs : List V) (lo hi : Option Int) : List V := (xs.drop (HT.sIx xs.length 0 lo)).take (HT.sIx xs.length xs.length hi - HT.sIx xs.length 0 lo)
theorem cutV_length (xs : List V) (lo hi : Option Int) : (cutV xs lo hi).length ≤ xs.length := by
  unfold cutV
  rw [List.length_take, List.length_drop]
  omega
end
end L2

namespace L2
open PySem PySem.Spec PyProof.Rows

/-- the place that an index of any sign means -/
def ixN (n : Nat) (i : Int) : Option Nat := if 0 ≤ i then (if i < n then some i.toNat else none) else if -(n : Int) ≤ i then some (i + n).toNat else none
def atI {α : Type} (xs : List α) (i : Int) : Option α := (ixN xs.length i).bind fun j => xs[j]?
theorem ixN_seq {n : Nat} {i : Int} {j : Nat} (h : ixN n i = some j) : seqIndex? i n = some j ∧ j < n ∧ -(n : Int) ≤ i ∧ i < n := by
  unfold ixN at h
  by_cases h0 : 0 ≤ i
  · rw [if_pos h0] at h
    by_cases h1 : i < n
    · rw [if_pos h1] at h
      have e : i.toNat = j := Option.some.inj h
      exact ⟨by rw [seqIndex_of h0 h1, e], by omega, by omega, h1⟩
    · rw [if_neg h1] at h; cases h
  · rw [if_neg h0] at h
    by_cases h1 : -(n : Int) ≤ i
    · rw [if_pos h1] at h
      have e : (i + n).toNat = j := Option.some.inj h
      exact ⟨by rw [seqIndex_neg (by omega) h1, e], by omega, h1, by omega⟩
    · rw [if_neg h1] at h; cases h
theorem atI_get {α : Type} {xs : List α} {i : Int} {v : α} (h : atI xs i = some v) : ∃ j, seqIndex? i xs.length = some j ∧ xs[j]? = some v ∧ j < xs.length ∧ -(xs.length : Int) ≤ i ∧ i < xs.length := by
  unfold atI at h
  cases e : ixN xs.length i with
  | none => rw [e] at h; cases h
  | some j =>
    rw [e] at h
    obtain ⟨h1, h2, h3, h4⟩ := ixN_seq e
    exact ⟨j, h1, h, h2, h3, h4⟩
theorem atI_nat {α : Type} {xs : List α} {j : Nat} {v : α} (h : xs[j]? = some v) : atI xs (j : Int) = some v := by
  have hj : j < xs.length := (List.getElem?_eq_some_iff.mp h).1
  have e : ixN xs.length (j : Int) = some j := by
    unfold ixN
    rw [if_pos (by omega), if_pos (by omega)]; simp
  unfold atI; rw [e]; exact h
/-- what stands as an index of a plain subscript -/
def PlainIx (b : Expr) : Prop := ∀ o i, subscripted b false o i = operate [o, i] (getItem o i)
/-- a subscript by values -/
def IxR (X : Cx) (r : R2) : Prop :=
  ∀ (value slice : Expr) (pins : List (Addr × Obj)) (s : Shared) (σ : St) (H : Hp) (x y : V) (v u : Value) (Q : VK), Inv X pins σ H s → RelV x v → RelV y u → r x y H Q →
    subscripted slice false v u = operate [v, u] (getItem v u) → wpAny (model X.prog X.w) X.A (subscriptTail value slice v u) (EP X pins σ Q) X.xe s
/-- a call of a builtin's method by values: the receiver, the arguments -/
def MtR (X : Cx) (id : String) (r : V → List V → Hp → VK → Prop) : Prop :=
  ∀ (pins : List (Addr × Obj)) (s : Shared) (σ : St) (H : Hp) (x : V) (xs : List V) (v : Value) (us : List Value) (Q : VK), Inv X pins σ H s → RelV x v → Vals xs us → r x xs H Q →
    wpAny (model X.prog X.w) X.A (call (.builtin id) (v :: us)) (EP X pins σ Q) X.xe s
section
variable {X : Cx} {a b : Expr} {ta tb : TE} {pos : Pos}
theorem IxR.or {r r' : R2} (h : IxR X r) (h' : IxR X r') : IxR X (fun x y H Q => r x y H Q ∨ r' x y H Q) := by
  intro value slice pins s σ H x y v u Q I rx ry q hs
  rcases q with q | q
  · exact h value slice pins s σ H x y v u Q I rx ry q hs
  · exact h' value slice pins s σ H x y v u Q I rx ry q hs
theorem MtR.or {id : String} {r r' : V → List V → Hp → VK → Prop} (h : MtR X id r) (h' : MtR X id r') : MtR X id (fun x xs H Q => r x xs H Q ∨ r' x xs H Q) := by
  intro pins s σ H x xs v us Q I rx rs q
  rcases q with q | q
  · exact h pins s σ H x xs v us Q I rx rs q
  · exact h' pins s σ H x xs v us Q I rx rs q
/-- a[b] -/
theorem pe_ix {r : R2} (hr : IxR X r) (ha : PE X a ta) (hb : PE X b tb) (hs : PlainIx b) : PE X (.Subscript a b pos) (tOp r ta tb) := by
  intro pins s σ H Q I h
  exact Subscript_ (binT ha hb I h fun v u s2 x y H2 I2 rx ry q => hr a b pins s2 σ H2 x y v u Q I2 rx ry q (hs _ _))

def rIxL (K : PySem.W.Frag) : R2 := fun x y H Q => ∃ p xs i v, x = .ref p ∧ y = .int i ∧ SqL K H p xs ∧ atI xs i = some v ∧ Q v H
def rIxT (K : PySem.W.Frag) : R2 := fun x y H Q => ∃ p xs i v, x = .ref p ∧ y = .int i ∧ SqT K H p xs ∧ atI xs i = some v ∧ Q v H
theorem ix_list : IxR X (rIxL X.K) := by
  intro value slice pins s σ H x y v u Q I rx ry h hs
  obtain ⟨p, xs, i, z, rfl, rfl, hq, he, q⟩ := h
  cases rx
  obtain ⟨t, rfl⟩ := ry
  obtain ⟨its, r, pl, hz⟩ := I.list hq
  obtain ⟨j, h1, h2, h3, h4, h5⟩ := atI_get he
  obtain ⟨w, ew, rw'⟩ := r.get h2
  have hl := r.length
  have hn := line63
  have fin : EP X pins σ Q w s := ⟨z, H, I, rw', q⟩
  by_cases h0 : 0 ≤ i
  · have hj : i.toNat = j := by
      rw [seqIndex_of h0 h5] at h1
      exact Option.some.inj h1
    exact item_listR pl.isList h0 (by omega) (by rw [hj]; simpa using ew) fin hs
  · have hj : (i + (its.toArray.size : Int)).toNat = j := by
      rw [seqIndex_neg (by omega) h4] at h1
      rw [List.size_toArray, ← hl]
      exact Option.some.inj h1
    exact subscriptTail_builtinR (x := w) pl.isList.typeIs slot_list_getitem.lookup
      (wpAny_getItem_list_neg (Q := fun r s' => r = w ∧ EP X pins σ Q r s') pl.isList (by omega) (by rw [List.size_toArray] <;> omega) (by omega) (by rw [hj]; simpa using ew) ⟨rfl, fin⟩) hs
theorem ix_tup : IxR X (rIxT X.K) := by
  intro value slice pins s σ H x y v u Q I rx ry h hs
  obtain ⟨p, xs, i, z, rfl, rfl, hq, he, q⟩ := h
  cases rx
  obtain ⟨t, rfl⟩ := ry
  obtain ⟨its, r, pl, hz⟩ := I.tuple hq
  obtain ⟨j, h1, h2, h3, h4, h5⟩ := atI_get he
  obtain ⟨w, ew, rw'⟩ := r.get h2
  have hl := r.length
  have hn := line63
  have fin : EP X pins σ Q w s := ⟨z, H, I, rw', q⟩
  exact subscriptTail_builtinR (x := w) pl.typeIs slot_tuple_getitem.lookup
    (getItem_tuple (j := j) (Q := fun r s' => r = w ∧ EP X pins σ Q r s') pl (by omega) (by omega) (by rw [List.size_toArray, ← hl]; exact h1) (by simpa using ew) ⟨rfl, fin⟩) hs
theorem Inv.lst {pins : List (Addr × Obj)} {σ : St} {H : Hp} {s : Shared} {p : Addr} {xs : List V} (I : Inv X pins σ H s) (h : H p = some (.lst xs)) :
    ∃ (its : List Value) (n : Nat), Vals xs its ∧ s.heap.get? p = some { cls := .type "list", data := .seq its.toArray n } ∧ xs.length ≤ sizeLine := by
  obtain ⟨z, its, n, r, e⟩ := I.hok p _ h
  exact ⟨its, n, r, e, z⟩
theorem slice_bounds (lo hi : Option Int) (n : Nat) : (sliceBounds lo hi none n).1 = ((HT.sIx n 0 lo : Nat) : Int) ∧ (sliceBounds lo hi none n).2.1 = ((HT.sIx n n hi : Nat) : Int) ∧ (sliceBounds lo hi none n).2.2 = 1 := by
  refine ⟨?_, ?_, rfl⟩
  · cases lo with
    | none => simp [sliceBounds, HT.sIx]
    | some i =>
      simp only [sliceBounds, HT.sIx, Option.getD_none, show (1 : Int) > 0 by decide, if_true]
      by_cases h : i < 0
      · simp only [h, if_true] <;> omega
      · simp only [h, if_false] <;> omega
  · cases hi with
    | none => simp [sliceBounds, HT.sIx]
    | some i =>
      simp only [sliceBounds, HT.sIx, Option.getD_none, show (1 : Int) > 0 by decide, if_true]
      by_cases h : i < 0
      · simp only [h, if_true] <;> omega
      · simp only [h, if_false] <;> omega
theorem slicePick_cut (its : List Value) (lo hi : Option Int) : slicePick its.toArray lo hi none = ((its.drop (HT.sIx its.length 0 lo)).take (HT.sIx its.length its.length hi - HT.sIx its.length 0 lo)).toArray := by
  obtain ⟨h1, h2, h3⟩ := slice_bounds lo hi its.toArray.size
  unfold slicePick
  rw [h1, h2, h3]
  simp only [sliceRange_one, pick_run, List.size_toArray] <;> rfl
/-- xs[lo:hi] of a list: a new list -/
def rSlL (K : PySem.W.Frag) : V → Option Int → Option Int → Hp → VK → Prop := fun x lo hi H Q => ∃ a xs, x = .ref a ∧ SqL K H a xs ∧ ∀ p, H p = none → Q (.ref p) (upd H p (.lst (cutV xs lo hi)))
theorem sl_list : SlR X (rSlL X.K) := by
  intro pins s σ H x v vl vu lo hi sl Q I rx hs pl pu h
  obtain ⟨a, xs, rfl, hx, q⟩ := h
  cases rx
  obtain ⟨its, r, ht, hz⟩ := I.list hx
  have hlen := r.length
  refine ⟨"list", _, slot_list_getitem.lookup, ht.isList.typeIs, ?_⟩
  refine wpAny_getItem_list_slice ht.isList hs pl pu .none (by simp) ?_ (by rw [List.size_toArray] <;> omega)
  rw [slicePick_cut, ← hlen]
  refine ⟨.ref s.heap.objs.size, _, I.laid (t' := s.toks) (o := .lst (cutV xs lo hi)) (fun b ob q => Heap.get?_push_of_some _ q) (Nat.le_refl _) ?_, rfl, q _ (I.hok.fresh (Nat.le_refl _))⟩
  exact ⟨Nat.le_trans (cutV_length xs lo hi) hz, _, 0, (r.drop (HT.sIx xs.length 0 lo)).take (HT.sIx xs.length xs.length hi - HT.sIx xs.length 0 lo), Heap.get?_push_size _ rfl⟩

def flatV : V → Bool
  | .non => true
  | .bl _ => true
  | .int _ => true
  | .str _ => true
  | _ => false
/-- == of flat values -/
def eqV : V → V → Bool
  | .non, .non => true
  | .bl a, .bl b => a == b
  | .bl a, .int b => (if a then 1 else 0) == b
  | .int a, .bl b => a == (if b then 1 else 0)
  | .int a, .int b => a == b
  | .str a, .str b => a == b
  | _, _ => false
theorem eqAt_V {A : Around} {s : Shared} {y x : V} {u v : Value} (ry : RelV y u) (rx : RelV x v) (fy : flatV y = true) (fx : flatV x = true) : SeqAt.EqAt A s u v (eqV y x) := by
  cases y with
  | non =>
    cases ry
    cases x with
    | non => cases rx; exact SeqAt.EqAt.same _
    | bl b => cases rx; exact SeqAt.EqAt.none_bool b
    | int b => obtain ⟨t, rfl⟩ := rx; exact SeqAt.EqAt.none_int b t
    | str b => obtain ⟨t, rfl⟩ := rx; exact SeqAt.EqAt.none_str b t
    | _ => exact absurd (show false = true from fx) Bool.false_ne_true
  | bl a =>
    cases ry
    cases x with
    | non => cases rx; exact SeqAt.EqAt.bool_none a
    | bl b => cases rx; exact SeqAt.EqAt.bool_bool a b
    | int b => obtain ⟨t, rfl⟩ := rx; exact SeqAt.EqAt.bool_int a b t
    | str b => obtain ⟨t, rfl⟩ := rx; exact SeqAt.EqAt.bool_str a b t
    | _ => exact absurd (show false = true from fx) Bool.false_ne_true
  | int a =>
    obtain ⟨t', rfl⟩ := ry
    cases x with
    | non => cases rx; exact SeqAt.EqAt.int_none a t'
    | bl b => cases rx; exact SeqAt.EqAt.int_bool a t' b
    | int b => obtain ⟨t, rfl⟩ := rx; exact SeqAt.EqAt.int_int a t' b t
    | str b => obtain ⟨t, rfl⟩ := rx; exact SeqAt.EqAt.int_str a t' b t
    | _ => exact absurd (show false = true from fx) Bool.false_ne_true
  | str a =>
    obtain ⟨t', rfl⟩ := ry
    cases x with
    | non => cases rx; exact SeqAt.EqAt.str_none a t'
    | bl b => cases rx; exact SeqAt.EqAt.str_bool a t' b
    | int b => obtain ⟨t, rfl⟩ := rx; exact SeqAt.EqAt.str_int a t' b t
    | str b => obtain ⟨t, rfl⟩ := rx; exact SeqAt.EqAt.str_str a t' b t
    | _ => exact absurd (show false = true from fx) Bool.false_ne_true
  | _ => exact absurd (show false = true from fy) Bool.false_ne_true
/-- the items' answers, read off the values (a value's own answer does not lean on its token) -/
def eqU (x : V) (u : Value) : Bool := match u with
  | .none => eqV .non x
  | .bool b => eqV (.bl b) x
  | .int i _ => eqV (.int i) x
  | .str z _ => eqV (.str z) x
  | _ => false
theorem eqU_of {x y : V} {u : Value} (r : RelV y u) (f : flatV y = true) : eqU x u = eqV y x := by
  cases y with
  | non => cases r; rfl
  | bl b => cases r; rfl
  | int i => obtain ⟨t, rfl⟩ := r; rfl
  | str z => obtain ⟨t, rfl⟩ := r; rfl
  | _ => exact absurd (show false = true from f) Bool.false_ne_true
theorem mem_eqAt {A : Around} {s : Shared} {x : V} {v : Value} (rx : RelV x v) (fx : flatV x = true) : ∀ {xs : List V} {us : List Value}, Vals xs us → xs.all flatV = true → ∀ u ∈ us, SeqAt.EqAt A s u v (eqU x u)
  | _, _, .nil, _ => fun u hu => by cases hu
  | y :: xs, u :: us, .cons r t, f => fun u' hu => by
    rw [List.all_cons, Bool.and_eq_true] at f
    rcases List.mem_cons.mp hu with rfl | hu
    · rw [eqU_of r f.1]; exact eqAt_V r rx f.1 fx
    · exact mem_eqAt rx fx t f.2 u' hu
theorem call_len_seq : CallR X (.builtin "len") (fun xs H Q => ∃ p ys, xs = [.ref p] ∧ (SqL X.K H p ys ∨ SqT X.K H p ys) ∧ Q (.int ys.length) H) := by
  intro pins s σ H xs us Q I r h
  obtain ⟨p, ys, rfl, hq, q⟩ := h
  obtain ⟨u, rfl, rx⟩ := vals1 r
  cases rx
  have hn := line63
  rcases hq with hq | hq
  · obtain ⟨its, r', pl, hz⟩ := I.list hq
    have hlen := r'.length
    exact Calls.call_len_list pl.isList (by simp only [List.size_toArray] <;> omega) ⟨.int ys.length, H, I.tok _, ⟨s.toks + 1, by rw [List.size_toArray, hlen]⟩, q⟩
  · obtain ⟨its, r', pl, hz⟩ := I.tuple hq
    have hlen := r'.length
    exact len_tuple pl (by simp only [List.size_toArray] <;> omega) ⟨.int ys.length, H, I.tok _, ⟨s.toks + 1, by rw [List.size_toArray, hlen]⟩, q⟩
theorem CallR.or {f : Value} {r r' : List V → Hp → VK → Prop} (h : CallR X f r) (h' : CallR X f r') : CallR X f (fun xs H Q => r xs H Q ∨ r' xs H Q) := by
  intro pins s σ H xs us Q I rs q
  rcases q with q | q
  · exact h pins s σ H xs us Q I rs q
  · exact h' pins s σ H xs us Q I rs q
/-- the value is of that builtin type -/
def tyV (K : PySem.W.Frag) (T : String) (x : V) (H : Hp) : Prop := match x with
  | .str _ => T = "str"
  | .int _ => T = "int"
  | .ref p => (T = "list" ∧ ∃ xs, SqL K H p xs) ∨ (T = "tuple" ∧ ∃ o, K.lookup p = some o ∧ o.cls = .type "tuple" ∧ o.dict = none) ∨
      (T = "dict" ∧ ((∃ kvs, H p = some (.dK kvs)) ∨ ∃ kvs, H p = some (.dT kvs))) ∨ (T = "set" ∧ ∃ S n, H p = some (.set S n))
  | _ => False
theorem tyV_is {pins : List (Addr × Obj)} {σ : St} {H : Hp} {s : Shared} {T : String} {x : V} {v : Value} (I : Inv X pins σ H s) (r : RelV x v) (ty : tyV X.K T x H) :
    s.TypeIs v T ∧ ∀ a, v = .ref a → ∃ ob, s.heap.get? a = some ob ∧ ob.dict = none := by
  cases x with
  | str z =>
    obtain ⟨t, rfl⟩ := r
    cases (show T = "str" from ty)
    exact ⟨typeIs_str s z t, fun _ e => nomatch e⟩
  | int i =>
    obtain ⟨t, rfl⟩ := r
    cases (show T = "int" from ty)
    exact ⟨typeIs_int s i t, fun _ e => nomatch e⟩
  | ref p =>
    cases r
    rcases ty with ⟨rfl, xs, hq⟩ | ⟨rfl, o, hk, hc, hd⟩ | ⟨rfl, hk⟩ | ⟨rfl, S, n, hk⟩
    · obtain ⟨its, _, pl, _⟩ := I.list hq
      refine ⟨pl.isList.typeIs, fun a e => ?_⟩
      cases e
      obtain ⟨o, n, e, c, hd, _⟩ := pl
      exact ⟨o, e, hd⟩
    · refine ⟨⟨o, I.kIn p o hk, hc⟩, fun a e => ?_⟩
      cases e
      exact ⟨o, I.kIn _ o hk, hd⟩
    · have z : ∃ o, s.heap.get? p = some o ∧ o.ExactDict := by
        rcases hk with ⟨kvs, hk⟩ | ⟨kvs, hk⟩
        · obtain ⟨_, _, _, _, o, _, _, e, ex, _⟩ := I.hok p _ hk
          exact ⟨o, e, ex⟩
        · obtain ⟨_, _, _, _, o, _, _, e, ex, _⟩ := I.hok p _ hk
          exact ⟨o, e, ex⟩
      obtain ⟨o, e, ex⟩ := z
      refine ⟨⟨o, e, ex.1⟩, fun a e2 => ?_⟩
      cases e2
      exact ⟨o, e, ex.2.1⟩
    · obtain ⟨o, _, _, _, e, ex, _⟩ := I.hok p _ hk
      refine ⟨⟨o, e, ex.1⟩, fun a e2 => ?_⟩
      cases e2
      exact ⟨o, e, ex.2.1⟩
  | _ => exact False.elim ty
def tBM0 (K : PySem.W.Frag) (T : String) (r : V → List V → Hp → VK → Prop) (to : TE) : TE := fun σ H Q => to σ H fun x H1 => tyV K T x H1 ∧ r x [] H1 Q
def tBM (K : PySem.W.Frag) (T : String) (r : V → List V → Hp → VK → Prop) (to : TE) (t : TA) : TE := fun σ H Q => to σ H fun x H1 => tyV K T x H1 ∧ t σ H1 fun xs H2 => r x xs H2 Q
variable {o e : Expr} {es : List Expr} {to : TE} {t : TA} {name : Str} {apos cpos : Pos} {T id : String} {r : V → List V → Hp → VK → Prop}
theorem pe_bm0 (pa : PlainAttrs T) (slot : Slot T name id) (hty : typeOf (.builtin id) = pure (.type "method_descriptor")) (hm : MtR X id r) (ho : PE X o to)
    (hbase : attributeBase o name X.env (eval o X.env) = eval o X.env := by rfl) (hline : (apos.endLine == cpos.line) = true := by rfl) : PE X (.Call (.Attribute o name apos) [] [] cpos) (tBM0 X.K T r to) := by
  intro pins s σ H Q I h
  refine wpAny_Call_method0_late hbase hline (thn (ho pins s σ H _ I h) fun v s1 ⟨x, H1, I1, r1, ty, q1⟩ => ?_)
  obtain ⟨h1, h2⟩ := tyV_is I1 r1 ty
  exact ⟨T, id, pa, slot, hty, h1, h2, Calls.callWith_builtin rfl (PySem.evalArgs_none (hm pins s1 σ H1 x [] v [] Q I1 r1 .nil q1))⟩
theorem pe_bm (pa : PlainAttrs T) (slot : Slot T name id) (hty : typeOf (.builtin id) = pure (.type "method_descriptor")) (hm : MtR X id r) (ho : PE X o to) (ha : PA X (e :: es) t)
    (hbase : attributeBase o name X.env (eval o X.env) = eval o X.env := by rfl)
    (hfew : ((backTo cpos (starEach (e :: es) X.env)).all (fun x => !x.1) && (backToKw cpos (keywordEach [] X.env)).all (fun x => x.1.isSome)
      && decide ((e :: es).length + ([] : List Keyword).length + (if ([] : List Keyword).isEmpty then 0 else 1) < 30)) = true := by rfl)
    (hline : (apos.endLine == cpos.line) = true := by rfl) (hs : starEach (e :: es) X.env = (false, eval e X.env) :: starEach es X.env := by rfl) (hplain : (backTo cpos (starEach es X.env)).any (·.1) = false := by rfl) :
    PE X (.Call (.Attribute o name apos) (e :: es) [] cpos) (tBM X.K T r to t) := by
  intro pins s σ H Q I h
  refine wpAny_Call_method_late hbase hfew hline rfl (thn (ho pins s σ H _ I h) fun v s1 ⟨x, H1, I1, r1, ty, q1⟩ => ?_)
  obtain ⟨h1, h2⟩ := tyV_is I1 r1 ty
  refine ⟨T, id, pa, slot, hty, h1, h2, ?_⟩
  have hA := ha cpos pins s1 σ H1 _ I1 q1
  rw [hs] at hA ⊢
  refine Calls.callWith_builtin (by show (false || (backTo cpos (starEach es X.env)).any (·.1)) = false; rw [hplain] <;> rfl) (Calls.evalArgs_plain ?_)
  exact thn hA fun us s2 ⟨vs, H2, I2, r2, q2⟩ => hm pins s2 σ H2 x vs v us Q I2 r1 r2 q2
/- xs.append(e), list.index on a module's tuple .. are MtR facts of 06m -/
end
end L2

namespace L2
open PySem PySem.Spec PyProof.Rows

def MtM (X : Cx) (id : String) (r : V → List V → Hp → VK → Prop) : Prop :=
  ∀ (pins : List (Addr × Obj)) (s : Shared) (σ : St) (H : Hp) (x : V) (xs : List V) (v : Value) (us : List Value) (Q : VK), Inv X pins σ H s → RelV x v → Vals xs us → r x xs H Q →
    wpAny (model X.prog X.w) X.A (call (.builtin id) (v :: us)) (EP X pins σ Q) X.xe s

theorem Vals.one : ∀ {x : V} {us : List Value}, Vals [x] us → ∃ u, us = [u] ∧ RelV x u
  | _, _, .cons r .nil => ⟨_, rfl, r⟩
theorem Vals.two : ∀ {x y : V} {us : List Value}, Vals [x, y] us → ∃ u v, us = [u, v] ∧ RelV x u ∧ RelV y v
  | _, _, _, .cons r (.cons q .nil) => ⟨_, _, rfl, r, q⟩
theorem Vals.zero : ∀ {us : List Value}, Vals [] us → us = []
  | _, .nil => rfl
theorem Vals.dropLast {xs : List V} {us : List Value} (h : Vals xs us) : Vals xs.dropLast us.dropLast := by
  induction h with
  | nil => exact .nil
  | cons r t ih =>
    cases t with
    | nil => exact .nil
    | cons q t' => exact .cons r ih
theorem Vals.eraseIdx : ∀ {xs : List V} {us : List Value} (i : Nat), Vals xs us → Vals (xs.eraseIdx i) (us.eraseIdx i)
  | _, _, _, .nil => .nil
  | _, _, 0, .cons _ t => t
  | _, _, i + 1, .cons r t => .cons r (Vals.eraseIdx i t)
theorem Vals.reverse {xs : List V} {us : List Value} (h : Vals xs us) : Vals xs.reverse us.reverse := by
  induction h with
  | nil => exact .nil
  | cons r t ih => rw [List.reverse_cons, List.reverse_cons]; exact Vals.append ih (.cons r .nil)
theorem Vals.rep {xs : List V} {us : List Value} (h : Vals xs us) : ∀ k : Nat, Vals (List.replicate k xs).flatten (List.replicate k us).flatten
  | 0 => .nil
  | k + 1 => by
    rw [List.replicate_succ, List.replicate_succ, List.flatten_cons, List.flatten_cons]
    exact Vals.append h (Vals.rep h k)
theorem erase_last {α : Type} (l : List α) : l.eraseIdx (l.length - 1) = l.dropLast := by
  induction l with
  | nil => rfl
  | cons a r ih =>
    cases r with
    | nil => rfl
    | cons b r =>
      have e : (a :: b :: r).length - 1 = ((b :: r).length - 1) + 1 := by
        have h1 : (a :: b :: r).length = r.length + 2 := rfl
        have h2 : (b :: r).length = r.length + 1 := rfl
        omega
      rw [e, List.eraseIdx_cons_succ, ih]
      all_goals rfl
theorem foldl_rep (its : List Value) : ∀ (k : Nat) (acc : List Value),
    List.foldl (fun x1 x2 => x1 ++ x2) acc.toArray (List.replicate k its.toArray) = (acc ++ (List.replicate k its).flatten).toArray
  | 0, acc => by simp
  | k + 1, acc => by
    have e : acc.toArray ++ its.toArray = (acc ++ its).toArray := by simp
    have e2 : (acc ++ its) ++ (List.replicate k its).flatten = acc ++ (List.replicate (k + 1) its).flatten := by
      rw [List.replicate_succ, List.flatten_cons, List.append_assoc]
    rw [← e2, ← foldl_rep its k (acc ++ its), ← e, List.replicate_succ, List.foldl_cons]

section
variable {X : Cx} {pins : List (Addr × Obj)} {σ : St} {H : Hp} {s : Shared} {l b : Addr} {xs ys zs : List V}

theorem Inv.lset {its its' : List Value} {n : Nat} {f : Array Value → Array Value} {t' : Nat} (I : Inv X pins σ H s) (hH : H l = some (.lst xs))
    (e : s.heap.get? l = some { cls := .type "list", data := .seq its.toArray n }) (hf : f its.toArray = its'.toArray) (hv : Vals ys its') (hz : ys.length ≤ sizeLine) :
    Inv X pins σ (upd H l (.lst ys)) { s with heap := s.heap.update l (Obj.mapSeq f), toks := t' } := by
  have q := PySem.IsL.update e f
  rw [hf] at q
  refine I.write (x := l) (e := l) (by rw [hH]; exact trivial) (.inl rfl) (fun b' u hb hu => (Heap.get?_update_other s.heap (Obj.mapSeq f) (Ne.symm hb)).trans hu) ⟨_, q⟩ ?_
  exact ⟨hz, its', _, hv, q⟩
theorem Inv.lnew {its : List Value} {t' : Nat} (I : Inv X pins σ H s) (hv : Vals ys its) (hz : ys.length ≤ sizeLine) :
    Inv X pins σ (upd H s.heap.objs.size (.lst ys)) { s with heap := s.heap.push { cls := .type "list", data := .seq its.toArray }, toks := t' } :=
  I.laid (fun _ _ q => Heap.get?_push_of_some _ q) (Nat.le_refl _) ⟨hz, its, 0, hv, Heap.get?_push_size _ rfl⟩
theorem Inv.fresh (I : Inv X pins σ H s) : H s.heap.objs.size = none := I.hok.fresh (Nat.le_refl _)
theorem Inv.lstM (I : Inv X pins σ H s) (hH : H l = some (.lst xs)) : xs.length ≤ sizeLine ∧ ∃ (its : List Value) (n : Nat), Vals xs its ∧ xs.length = its.length ∧ s.heap.get? l = some { cls := .type "list", data := .seq its.toArray n } := by
  obtain ⟨z, its, n, r, e⟩ := I.hok l _ hH
  exact ⟨z, its, n, r, r.length, e⟩

theorem notLongL {n : Nat} (h : n ≤ sizeLine) : Builtin.List.listTooLong n = false := by
  unfold Builtin.List.listTooLong
  exact decide_eq_false (by omega)
end

section
variable {X : Cx}

def rAppend : V → List V → Hp → VK → Prop := fun x vs H Q => ∃ l xs y, x = .ref l ∧ vs = [y] ∧ H l = some (.lst xs) ∧ xs.length < sizeLine ∧ Q .non (upd H l (.lst (xs ++ [y])))
theorem mt_append : MtM X "list.append" rAppend := by
  intro pins s σ H x vs v us Q I rx rv h
  obtain ⟨l, xs, y, rfl, rfl, hH, hz, q⟩ := h
  cases rx
  obtain ⟨u, rfl, ru⟩ := rv.one
  obtain ⟨z, its, n, r, hl, e⟩ := I.lstM hH
  refine call_meets F.slot_list_append ⟨_, e, rfl⟩ F.entry_list_append (F.args_list_append_2 _ _) (PySem.list_append l its.toArray n u (by rw [List.size_toArray]; omega)) ⟨e, ?_⟩
  refine ⟨.non, _, I.lset (its' := its ++ [u]) hH e (by simp) (r.append (.cons ru .nil)) ?_, rfl, q⟩
  rw [List.length_append, List.length_singleton]
  omega

def rExtend : V → List V → Hp → VK → Prop := fun x vs H Q => ∃ l b xs zs, x = .ref l ∧ vs = [.ref b] ∧ H l = some (.lst xs) ∧ H b = some (.lst zs) ∧ xs.length + zs.length ≤ sizeLine ∧ Q .non (upd H l (.lst (xs ++ zs)))
theorem mt_extend : MtM X "list.extend" rExtend := by
  intro pins s σ H x vs v us Q I rx rv h
  obtain ⟨l, b, xs, zs, rfl, rfl, hH, hB, hz, q⟩ := h
  cases rx
  obtain ⟨u, rfl, ru⟩ := rv.one
  cases ru
  obtain ⟨z, its, n, r, hl, e⟩ := I.lstM hH
  obtain ⟨z2, its2, n2, r2, hl2, e2⟩ := I.lstM hB
  have hsz : its.toArray.size + its2.toArray.size ≤ sizeLine := by rw [List.size_toArray, List.size_toArray]; omega
  have hlong : ¬ (!its.toArray.isEmpty && Builtin.List.listTooLong (its.toArray.size + its2.toArray.size)) = true := by
    rw [notLongL hsz, Bool.and_false]
    exact Bool.false_ne_true
  refine call_meets F.slot_list_extend ⟨_, e, rfl⟩ F.entry_list_extend (F.args_list_extend_2 _ _)
    (AutoSeq1.list_extend_list_list_0 l its.toArray n b its2.toArray n2 hlong (by rw [List.size_toArray]; omega) (by omega)) ⟨e, e2, ?_⟩
  refine ⟨.non, _, I.lset (its' := its ++ its2) hH e (by simp) (r.append r2) ?_, rfl, q⟩
  rw [List.length_append]
  omega

def rPop : V → List V → Hp → VK → Prop := fun x vs H Q => ∃ l xs y, x = .ref l ∧ vs = [] ∧ H l = some (.lst xs) ∧ xs[xs.length - 1]? = some y ∧ Q y (upd H l (.lst xs.dropLast))
theorem mt_pop : MtM X "list.pop" rPop := by
  intro pins s σ H x vs v us Q I rx rv h
  obtain ⟨l, xs, y, rfl, rfl, hH, hy, q⟩ := h
  cases rx
  have hus := rv.zero
  subst hus
  obtain ⟨z, its, n, r, hl, e⟩ := I.lstM hH
  obtain ⟨u, hu, ru⟩ := r.get hy
  have hy' : its.toArray[its.toArray.size - 1]? = some u := by
    show its.toArray[its.length - 1]? = some u
    rw [← Array.getElem?_toList, ← hl]
    exact hu
  refine call_meets F.slot_list_pop ⟨_, e, rfl⟩ F.entry_list_pop (F.args_list_pop_1 _) (MeetsSeq.list_pop_last l its.toArray n u hy' (by rw [List.size_toArray]; omega)) ⟨e, ?_⟩
  refine ⟨y, _, I.lset (its' := its.dropLast) hH e ?_ r.dropLast ?_, ru, q⟩
  · show its.toArray.eraseIdxIfInBounds (its.toArray.size - 1) = its.dropLast.toArray
    rw [List.size_toArray, List.eraseIdxIfInBounds_toArray, erase_last]
  · rw [List.length_dropLast]
    omega

def rCat : R2 := fun x y H Q => ∃ l b xs zs, x = .ref l ∧ y = .ref b ∧ H l = some (.lst xs) ∧ H b = some (.lst zs) ∧ xs.length + zs.length ≤ sizeLine ∧ ∀ p, H p = none → Q (.ref p) (upd H p (.lst (xs ++ zs)))
theorem op_cat : OpR X (binaryOp .Add) rCat := by
  intro pins s σ H x y v u Q I rx ry h
  obtain ⟨l, b, xs, zs, rfl, rfl, hH, hB, hz, q⟩ := h
  cases rx
  cases ry
  obtain ⟨z, its, n, r, hl, e⟩ := I.lstM hH
  obtain ⟨z2, its2, n2, r2, hl2, e2⟩ := I.lstM hB
  refine PySem.P.add_list e e2 ?_ (by rw [List.size_toArray, List.size_toArray]; omega)
  have ea : its.toArray ++ its2.toArray = (its ++ its2).toArray := by simp
  rw [ea]
  exact ⟨.ref _, _, I.lnew (t' := s.toks) (r.append r2) (by rw [List.length_append]; omega), rfl, q _ I.fresh⟩
/-- a list times an int (a negative one is nothing) -/
def rRep : R2 := fun x y H Q => ∃ l k xs, x = .ref l ∧ y = .int k ∧ H l = some (.lst xs) ∧ -(2 ^ 63) ≤ k ∧ k < 2 ^ 63 ∧ xs.length * k.toNat ≤ sizeLine ∧
  ∀ p, H p = none → Q (.ref p) (upd H p (.lst (List.replicate k.toNat xs).flatten))
theorem len_rep {α : Type} (xs : List α) (k : Nat) : (List.replicate k xs).flatten.length = k * xs.length := by
  induction k with
  | zero => simp
  | succ k ih => rw [List.replicate_succ, List.flatten_cons, List.length_append, ih, Nat.succ_mul, Nat.add_comm]
theorem op_rep : OpR X (binaryOp .Mult) rRep := by
  intro pins s σ H x y v u Q I rx ry h
  obtain ⟨l, k, xs, rfl, rfl, hH, h1, h2, hz, q⟩ := h
  cases rx
  obtain ⟨t, rfl⟩ := ry
  obtain ⟨z, its, n, r, hl, e⟩ := I.lstM hH
  have hlen : its.toArray.size * k.toNat ≤ sizeLine := by rw [List.size_toArray, ← hl]; exact hz
  have hcap : ¬ its.toArray.size * k.toNat > (2 ^ 63 - 1) / 8 := by
    have : (sizeLine : Nat) ≤ (2 ^ 63 - 1) / 8 := by decide
    omega
  have hfit : ¬ (!Builtin.List.listFitsIndex k) = true := by
    rw [fitsIndex_both h1 h2]
    exact Bool.false_ne_true
  have hlong : ¬ Builtin.List.listTooLong (its.toArray.size * k.toNat) = true := by
    rw [notLongL hlen]
    exact Bool.false_ne_true
  have hnew : List.foldl (fun x1 x2 => x1 ++ x2) #[] (List.replicate (if its.toArray.isEmpty = true then 0 else k.toNat) its.toArray) = (List.replicate k.toNat its).flatten.toArray := by
    have f0 : ∀ m : Nat, List.foldl (fun x1 x2 => x1 ++ x2) #[] (List.replicate m its.toArray) = (List.replicate m its).flatten.toArray := fun m => by
      have := foldl_rep its m []
      rw [List.nil_append] at this
      exact this
    rw [f0]
    cases its with
    | nil => simp
    | cons a r' => rw [if_neg (by simp)]
  refine wpAny_binaryOp_repeat_ref (T := "list") (U := "int") (by decide) ⟨_, e, rfl⟩ (fun s' => typeIs_int s' k t) noFill_list_mul F.fills_int_mul F.slot_int_rmul repeat_list F.slot_int_index.lookup
    (call_meets F.slot_int_rmul (typeIs_int s k t) F.entry_int_rmul (F.args_int_rmul_2 _ _) (int___rmul___int_list k t l its.toArray n)
      ⟨e, rfl, ⟨_, e, rfl⟩, call_meets F.slot_list_mul ⟨_, e, rfl⟩ F.entry_list_mul (F.args_list_mul_2 _ _) (AutoListH.list___mul___list_int_3 l its.toArray n k t hfit hcap hlong) ⟨e, ?_⟩⟩)
  rw [hnew]
  exact ⟨.ref _, _, I.lnew (t' := s.toks) (r.rep k.toNat) (by rw [len_rep, Nat.mul_comm]; exact hz), rfl, q _ I.fresh⟩

end

section
variable {prog : Program} {w : World} {A : Around} {E : Value → Shared → Prop} {s : Shared}
end

section
variable {X : Cx}
end
end L2

namespace L2
open PySem PySem.Spec PyProof.Rows

theorem Vals.ints : ∀ {ns : List Int} {us : List Value}, Vals (ns.map V.int) us → IntsAre us ns
  | [], us, h => by
    rw [List.map_nil] at h
    cases h
    exact IntsAre.nil
  | n :: ns, us, h => by
    rw [List.map_cons] at h
    cases h with
    | cons r t =>
      obtain ⟨k, rfl⟩ := r
      exact IntsAre.cons n k (Vals.ints t)
theorem Vals.strs : ∀ {xs : List Str} {us : List Value}, Vals (xs.map V.str) us → StrsAre us xs
  | [], us, h => by
    rw [List.map_nil] at h
    cases h
    exact StrsAre.nil
  | x :: xs, us, h => by
    rw [List.map_cons] at h
    cases h with
    | cons r t =>
      obtain ⟨k, rfl⟩ := r
      exact StrsAre.cons x k (Vals.strs t)
theorem Vals.ref1 {a : Addr} {us : List Value} (r : Vals [V.ref a] us) : us = [Value.ref a] := by
  cases r with
  | cons r t =>
    cases t
    cases r
    rfl
section
variable {prog : Program} {w : World} {A : Around} {E : Value → Shared → Prop} {s : Shared} {l : Addr} {its : List Value} {ns : List Int} {Q : Value → Shared → Prop}
theorem sum_raw (hh : A.handled = none) (hl : s.heap.IsList l its.toArray) (hi : IntsAre its ns)
    (h : ∀ h' tk t', (∀ b o, s.heap.get? b = some o → h'.get? b = some o) → Q (.int ns.sum t') { s with heap := h', toks := tk }) : wpAny (model prog w) A (call (.builtin "sum") [.ref l]) Q E s := by
  obtain ⟨xs, e⟩ := hi.allInts.items
  have hn : numsOf (intItems xs).toList = ns := by rw [← e]; exact hi.numsOf
  rw [nums_intItems] at hn
  rw [e] at hl
  refine PySem.sum_intListG hh hl fun h' tk t' hk => ?_
  have := h h' tk t' hk
  rw [preSum_eq, List.take_of_length_le (by simp), hn]; exact this
theorem min_raw (hh : A.handled = none) (hl : s.heap.IsList l its.toArray) (hi : IntsAre its ns) (hne : 0 < ns.length)
    (h : ∀ h' tk M t', (∀ b o, s.heap.get? b = some o → h'.get? b = some o) → M ∈ ns → (∀ a, a ∈ ns → M ≤ a) → Q (.int M t') { s with heap := h', toks := tk }) : wpAny (model prog w) A (call (.builtin "min") [.ref l]) Q E s := by
  obtain ⟨xs, e⟩ := hi.allInts.items
  have hn : numsOf (intItems xs).toList = ns := by rw [← e]; exact hi.numsOf
  rw [nums_intItems] at hn
  subst hn
  rw [e] at hl
  have hsz : 0 < xs.size := by simpa using hne
  refine PySem.min_intList hh hl hsz fun v h' tk hv hk => ?_
  obtain ⟨t, rfl⟩ := intItems_at hv
  obtain ⟨h1, h2⟩ := argBest_lt (numAt xs) (xs.size - 1)
  refine h h' tk _ t hk ?_ fun a ha => ?_
  · rw [numAt_eq]; exact PySem.getD_mem (by rw [List.length_map, Array.length_toList]; omega)
  · obtain ⟨j, hj, rfl⟩ := mem_getD ha
    rw [List.length_map, Array.length_toList] at hj
    rw [← numAt_eq]; exact h2 j (by omega)
end

section
variable {X : Cx}
/-- sum(xs) of a list of ints -/
def rSum (K : PySem.W.Frag) : List V → Hp → VK → Prop := fun vs H Q => ∃ (a : Addr) (ns : List Int), vs = [V.ref a] ∧ SqL K H a (ns.map V.int) ∧ Q (.int ns.sum) H
def rMin (K : PySem.W.Frag) : List V → Hp → VK → Prop := fun vs H Q => ∃ (a : Addr) (ns : List Int), vs = [V.ref a] ∧ SqL K H a (ns.map V.int) ∧ 0 < ns.length ∧ ∀ m, m ∈ ns → (∀ y, y ∈ ns → m ≤ y) → Q (.int m) H
theorem cr_sum (hc : X.calm = true) : CallR X (.builtin "sum") (rSum X.K) := by
  intro pins s σ H vs us Q I r h
  obtain ⟨a, ns, rfl, hs, q⟩ := h
  obtain ⟨its, rv, hl, _⟩ := I.list hs
  rw [Vals.ref1 r]
  exact sum_raw (I.ok.hd hc) hl.isList rv.ints fun h' tk t' hk => ⟨.int _, H, I.kept hk, ⟨_, rfl⟩, q⟩
theorem cr_min (hc : X.calm = true) : CallR X (.builtin "min") (rMin X.K) := by
  intro pins s σ H vs us Q I r h
  obtain ⟨a, ns, rfl, hs, hne, q⟩ := h
  obtain ⟨its, rv, hl, _⟩ := I.list hs
  rw [Vals.ref1 r]
  exact min_raw (I.ok.hd hc) hl.isList rv.ints hne fun h' tk m t' hk h1 h2 => ⟨.int _, H, I.kept hk, ⟨_, rfl⟩, q m h1 h2⟩

end

section
variable {X : Cx}
def rIndex (K : PySem.W.Frag) : V → List V → Hp → VK → Prop := fun x xs H Q => ∃ (a : Addr) (ys : List V) (y : V) (j : Nat) (z : V), x = V.ref a ∧ xs = [y] ∧ SqL K H a ys ∧ flatV y = true ∧ ys.all flatV = true ∧ ys[j]? = some z ∧ eqV z y = true ∧
  (∀ (m : Nat) (z' : V), m < j → ys[m]? = some z' → eqV z' y = false) ∧ Q (.int (j : Nat)) H
theorem flat_at {ys : List V} (f : ys.all flatV = true) {j : Nat} {z : V} (h : ys[j]? = some z) : flatV z = true := List.all_eq_true.mp f z (List.mem_of_getElem? h)
theorem mt_index : MtR X "list.index" (rIndex X.K) := by
  intro pins s σ H x xs v us Q I rx rxs h
  obtain ⟨a, ys, y, j, z, rfl, rfl, hs, fy, fys, hz, hzj, hno, q⟩ := h
  cases rx
  cases rxs with
  | cons ry rt =>
    rename_i uy ut
    cases rt
    obtain ⟨its, rv, ⟨⟨cls, dd, data, sl⟩, n, ho, hc, hdn, hd⟩, hlen⟩ := I.list hs
    simp only at hc hd
    subst hc hd
    obtain ⟨u, hu, ru⟩ := rv.get hz
    obtain ⟨hjl, hje⟩ := List.getElem?_eq_some_iff.mp hu
    have hvl := rv.length
    have hj : j < its.toArray.size := by simpa using hjl
    have hsl := sizeLine_eq
    refine call_meets PySem.F.slot_list_index ⟨_, ho, rfl⟩ PySem.F.entry_list_index (PySem.F.args_list_index_2 _ _)
      (SeqAt.list_indexAt a its.toArray n dd sl uy (eqU y) j hj (by omega) ?_ ?_) ⟨ho, fun u' hu' => mem_eqAt ry fy rv fys u' (by simpa using hu'), ?_⟩
    · have e1 : its.toArray[j] = u := by simpa using hje
      rw [e1, eqU_of ru (flat_at fys hz)]
      exact hzj
    · intro m hm hmj
      have hml : m < its.length := by simpa using hm
      have hmy : m < ys.length := by omega
      have hy' : ys[m]? = some ys[m] := List.getElem?_eq_getElem hmy
      obtain ⟨u2, hu2, ru2⟩ := rv.get hy'
      obtain ⟨_, hme⟩ := List.getElem?_eq_some_iff.mp hu2
      have e1 : its.toArray[m] = u2 := by simpa using hme
      rw [e1, eqU_of ru2 (flat_at fys hy')]
      exact hno m _ hmj hy'
    · exact ⟨.int (j : Nat), H, I.tok _, ⟨_, rfl⟩, q⟩
end

section
variable {X : Cx}
end

section
variable {X : Cx}
end

mutual
inductive Dp (K : PySem.W.Frag) (H : Hp) : V → PyData → Prop
  | non : Dp K H .non .none
  | bl (b : Bool) : Dp K H (.bl b) (.bool b)
  | int (i : Int) : Dp K H (.int i) (.int i)
  | str (x : Str) : Dp K H (.str x) (.str x)
  | lst {a : Addr} {xs : List V} {ds : List PyData} : SqL K H a xs → DpAll K H xs ds → Dp K H (.ref a) (.list ds)
  | tup {a : Addr} {xs : List V} {ds : List PyData} : SqT K H a xs → DpAll K H xs ds → Dp K H (.ref a) (.tuple ds)
inductive DpAll (K : PySem.W.Frag) (H : Hp) : List V → List PyData → Prop
  | nil : DpAll K H [] []
  | cons {v : V} {vs : List V} {d : PyData} {ds : List PyData} : Dp K H v d → DpAll K H vs ds → DpAll K H (v :: vs) (d :: ds)
end
section
variable {X : Cx} {pins : List (Addr × Obj)} {σ : St} {H : Hp} {s : Shared}
mutual
theorem Dp.reads (I : Inv X pins σ H s) : ∀ (d : PyData) (v : V) (u : Value), Dp X.K H v d → RelV v u → ∃ as, Reads s.heap u d as
  | .none, _, _, h, r => by
    cases h
    cases r
    exact ⟨_, Reads.none⟩
  | .bool b, _, _, h, r => by
    cases h
    cases r
    exact ⟨_, Reads.bool b⟩
  | .int i, _, _, h, r => by
    cases h
    obtain ⟨t, rfl⟩ := r
    exact ⟨_, Reads.int i t⟩
  | .str x, _, _, h, r => by
    cases h
    obtain ⟨t, rfl⟩ := r
    exact ⟨_, Reads.str x t⟩
  | .list ds, _, _, h, r => by
    cases h with
    | lst hs ha =>
      cases r
      obtain ⟨its, rv, ⟨o, n, ho, hc, _, hd⟩, _⟩ := I.list hs
      obtain ⟨as, hr⟩ := Dp.readsAll I ds _ its ha rv
      exact ⟨_, Reads.list ho hc hd hr⟩
  | .tuple ds, _, _, h, r => by
    cases h with
    | tup hs ha =>
      cases r
      obtain ⟨its, rv, ⟨o, ho, hc, n, hd⟩, _⟩ := I.tuple hs
      obtain ⟨as, hr⟩ := Dp.readsAll I ds _ its ha rv
      exact ⟨_, Reads.tuple ho hc hd hr⟩
  | .dict _, _, _, h, _ => by cases h
theorem Dp.readsAll (I : Inv X pins σ H s) : ∀ (ds : List PyData) (vs : List V) (us : List Value), DpAll X.K H vs ds → Vals vs us → ∃ as, ReadsAll s.heap us ds as
  | [], _, _, h, r => by
    cases h
    cases r
    exact ⟨_, ReadsAll.nil⟩
  | d :: ds, _, _, h, r => by
    cases h with
    | cons h1 h2 =>
      cases r with
      | cons r1 r2 =>
        obtain ⟨as, q1⟩ := Dp.reads I d _ _ h1 r1
        obtain ⟨bs, q2⟩ := Dp.readsAll I ds _ _ h2 r2
        exact ⟨_, ReadsAll.cons q1 q2⟩
end
end
section
variable {X : Cx}
end
end L2

namespace L2
open PySem PySem.Spec PyProof.Rows
abbrev CellAt (h : Heap) (c : Addr) (v : Option Value) : Prop := h.IsCell c v
def relS (scope sc : Scope) : Scope :=
  { scope with names := scope.names.map fun (n, k) => if (k == .free && sc.kind == .function && sc.names.lookup n == some .cell) then (n, .cell) else (n, k) }

def cloFrom (cells : List (Str × Addr)) : List (Str × NameKind) → List (Str × Addr) → List (Str × Addr)
  | [], acc => acc
  | (n, k) :: r, acc => if k == .free then cloFrom cells r ((n, (cells.lookup n).getD 0) :: acc) else cloFrom cells r acc

theorem closure_loop (env : Env) (f : Str × NameKind → List (Str × Addr) → Sem (ForInStep (List (Str × Addr))))
    (hf : ∀ n k c, f (n, k) c = if k == .free then (do let a ← cellOf env n; pure (.yield ((n, a) :: c))) else pure (.yield c)) :
    ∀ (names : List (Str × NameKind)) (acc : List (Str × Addr)), (∀ y ∈ names, y.2 = .free → ∃ c, env.cells.lookup y.1 = some c) → forIn names acc f = pure (cloFrom env.cells names acc)
  | [], acc, _ => by rw [List.forIn_nil]; rfl
  | (n, k) :: r, acc, h => by
    rw [List.forIn_cons, hf]
    have ih := fun acc => closure_loop env f hf r acc fun y hy => h y (List.mem_cons_of_mem _ hy)
    unfold cloFrom
    by_cases hk : (k == NameKind.free) = true
    · rw [if_pos hk, if_pos hk]
      obtain ⟨c, hc⟩ := h (n, k) List.mem_cons_self (by simpa using hk)
      have e : cellOf env n = pure c := by unfold cellOf; rw [hc]
      rw [e]
      have e2 : (env.cells.lookup n).getD 0 = c := by rw [hc]; rfl
      rw [e2]
      exact ih _
    · rw [if_neg hk, if_neg hk]
      exact ih _
theorem closure_ok {scope : Scope} {env : Env} (h : ∀ y ∈ scope.names, y.2 = .free → ∃ c, env.cells.lookup y.1 = some c) : closureFor scope env = pure (cloFrom env.cells scope.names []) := by
  simp only [closureFor]
  rw [closure_loop env _ (fun n k c => rfl) scope.names [] h]
  rfl

theorem mem_lookup {α : Type} : ∀ {l : List (Str × α)} {n : Str} {c : α}, (n, c) ∈ l → ∃ c', l.lookup n = some c'
  | (k, v) :: r, n, c, h => by
    rw [List.lookup_cons]
    cases hb : n == k with
    | true => exact ⟨_, rfl⟩
    | false =>
      rcases List.mem_cons.mp h with e | h
      · cases e; simp at hb
      · exact mem_lookup h

theorem cloFrom_mem {cells : List (Str × Addr)} : ∀ {names : List (Str × NameKind)} {acc : List (Str × Addr)} {n : Str} {c : Addr}, (n, c) ∈ cloFrom cells names acc → (n, c) ∈ acc ∨ ((n, .free) ∈ names ∧ c = (cells.lookup n).getD 0)
  | [], _, _, _, h => .inl h
  | (m, k) :: r, acc, n, c, h => by
    unfold cloFrom at h
    split at h
    · rename_i hk
      have hk : k = .free := by simpa using hk
      rcases cloFrom_mem h with h | ⟨h1, h2⟩
      · rcases List.mem_cons.mp h with e | h
        · cases e; exact .inr ⟨hk ▸ List.mem_cons_self, rfl⟩
        · exact .inl h
      · exact .inr ⟨List.mem_cons_of_mem _ h1, h2⟩
    · rcases cloFrom_mem h with h | ⟨h1, h2⟩
      · exact .inl h
      · exact .inr ⟨List.mem_cons_of_mem _ h1, h2⟩
theorem cloFrom_acc {cells : List (Str × Addr)} : ∀ {names : List (Str × NameKind)} {acc : List (Str × Addr)} {p : Str × Addr}, p ∈ acc → p ∈ cloFrom cells names acc
  | [], _, _, h => h
  | (m, k) :: r, acc, p, h => by
    unfold cloFrom
    split
    · exact cloFrom_acc (List.mem_cons_of_mem _ h)
    · exact cloFrom_acc h
theorem cloFrom_has {cells : List (Str × Addr)} : ∀ {names : List (Str × NameKind)} {acc : List (Str × Addr)} {n : Str}, (n, .free) ∈ names → (n, (cells.lookup n).getD 0) ∈ cloFrom cells names acc
  | (m, k) :: r, acc, n, h => by
    unfold cloFrom
    rcases List.mem_cons.mp h with e | h
    · cases e
      exact cloFrom_acc List.mem_cons_self
    · split
      · exact cloFrom_has h
      · exact cloFrom_has h

theorem cells_mem : ∀ {names : List (Str × NameKind)} {h : Heap} {acc : List (Str × Addr)} {x : Str} {c : Addr}, (x, c) ∈ cellsFrom h.objs.size names acc →
    (x, c) ∈ acc ∨ ((x, .cell) ∈ names ∧ h.objs.size ≤ c ∧ CellAt (pushCells h names) c none)
  | [], _, _, _, _, h => .inl h
  | (n, k) :: r, h, acc, x, c, hm => by
    unfold cellsFrom at hm
    unfold pushCells
    split at hm
    · rename_i hk
      rw [if_pos hk]
      have hk : k = .cell := by simpa using hk
      rw [← Heap.size_push h { cls := .type "cell", data := .cell none }] at hm
      rcases cells_mem hm with hm | ⟨h1, h2, h3⟩
      · rcases List.mem_cons.mp hm with e | hm
        · cases e
          exact .inr ⟨hk ▸ List.mem_cons_self, Nat.le_refl _, _, pushCells_keeps r _ _ _ (Heap.get?_push_size _ rfl), rfl⟩
        · exact .inl hm
      · rw [Heap.size_push] at h2
        exact .inr ⟨List.mem_cons_of_mem _ h1, Nat.le_of_succ_le h2, h3⟩
    · rename_i hk
      rw [if_neg hk]
      rcases cells_mem hm with hm | ⟨h1, h2, h3⟩
      · exact .inl hm
      · exact .inr ⟨List.mem_cons_of_mem _ h1, h2, h3⟩
theorem cells_acc : ∀ {names : List (Str × NameKind)} {n : Nat} {acc : List (Str × Addr)} {p : Str × Addr}, p ∈ acc → p ∈ cellsFrom n names acc
  | [], _, _, _, h => h
  | (m, k) :: r, n, acc, p, h => by
    unfold cellsFrom
    split
    · exact cells_acc (List.mem_cons_of_mem _ h)
    · exact cells_acc h
theorem cells_has : ∀ {names : List (Str × NameKind)} {n : Nat} {acc : List (Str × Addr)} {x : Str}, (x, .cell) ∈ names → ∃ c, (x, c) ∈ cellsFrom n names acc
  | (m, k) :: r, n, acc, x, h => by
    unfold cellsFrom
    rcases List.mem_cons.mp h with e | h
    · cases e
      exact ⟨n, cells_acc List.mem_cons_self⟩
    · split
      · exact cells_has h
      · exact cells_has h
theorem cells_inj : ∀ {names : List (Str × NameKind)} {h : Heap} {acc : List (Str × Addr)} {x y : Str} {c : Addr}, (∀ p ∈ acc, p.2 < h.objs.size) → (∀ x y c, (x, c) ∈ acc → (y, c) ∈ acc → x = y) →
    (x, c) ∈ cellsFrom h.objs.size names acc → (y, c) ∈ cellsFrom h.objs.size names acc → x = y
  | [], _, _, _, _, _, _, hi, h1, h2 => hi _ _ _ h1 h2
  | (n, k) :: r, h, acc, x, y, c, hl, hi, h1, h2 => by
    unfold cellsFrom at h1 h2
    split at h1
    · rename_i hk
      rw [if_pos hk] at h2
      rw [← Heap.size_push h { cls := .type "cell", data := .cell none }] at h1 h2
      refine cells_inj (h := h.push _) (fun p hp => ?_) (fun x y c a b => ?_) h1 h2
      · rw [Heap.size_push]
        rcases List.mem_cons.mp hp with rfl | hp
        · exact Nat.lt_succ_self _
        · exact Nat.lt_succ_of_lt (hl p hp)
      · rcases List.mem_cons.mp a with e | a <;> rcases List.mem_cons.mp b with e' | b
        · cases e; cases e'; rfl
        · cases e; exact absurd (hl _ b) (Nat.lt_irrefl _)
        · cases e'; exact absurd (hl _ a) (Nat.lt_irrefl _)
        · exact hi _ _ _ a b
    · rename_i hk
      rw [if_neg hk] at h2
      exact cells_inj hl hi h1 h2

theorem newEnv_comp {M : Model} {A : Around} {E : Value → Shared → Prop} {s : Shared} {scope : Scope} {globals : Addr} {closure : List (Str × Addr)} {qual : Str} {func : Option Addr} {code : Value} {around : Env} {builtins : Addr} {Q : Env → Shared → Prop}
    (h : Q (newEnv scope s.heap.objs.size globals (cellsFrom (s.heap.objs.size + 1) scope.names closure) qual func code (some around) builtins)
      { s with heap := pushCells (s.heap.push { cls := .type "dict", data := .dict #[] }) scope.names }) :
    wpAny M A (newFunctionEnv scope globals closure [] qual func code (some around) builtins) Q E s := by
  simp only [newFunctionEnv, Option.isSome_some, if_true]
  refine wpAny_bind (wpAny_alloc ?_)
  refine wpAny_bind (wpAny_layCells _ (fun n k c => rfl) scope.names closure _ _ ?_)
  rw [show ({ s with heap := s.heap.push { cls := .type "dict", data := .dict #[] } } : Shared).heap.objs.size = s.heap.objs.size + 1 from Heap.size_push ..]
  rw [List.forIn_nil]
  exact wpAny_bind (wpAny_pure (wpAny_pure h))

/-- every name of the written scope, in the scope that runs -/
theorem lookup_relS {sc : Scope} : ∀ {names : List (Str × NameKind)} {x : Str} {k : NameKind},
    (names.map fun (n, k) => if (k == NameKind.free && sc.kind == .function && sc.names.lookup n == some .cell) then (n, NameKind.cell) else (n, k)).lookup x = some k →
    ∃ k', names.lookup x = some k' ∧ (k = k' ∨ (k' = .free ∧ k = .cell))
  | [], _, _, h => by simp at h
  | (n, k₀) :: r, x, k, h => by
    have ih := @lookup_relS sc r x k
    have h' : List.lookup x ((if (k₀ == NameKind.free && sc.kind == .function && sc.names.lookup n == some .cell) = true then (n, NameKind.cell) else (n, k₀)) :: (r.map _)) = some k := h
    cases hx : x == n with
    | true =>
      simp only [List.lookup_cons, hx]
      by_cases hc : (k₀ == NameKind.free && sc.kind == .function && sc.names.lookup n == some .cell) = true
      · rw [if_pos hc] at h'
        simp only [List.lookup_cons, hx] at h'
        cases h'
        simp only [Bool.and_eq_true, beq_iff_eq] at hc
        exact ⟨k₀, rfl, .inr ⟨hc.1.1, rfl⟩⟩
      · rw [if_neg hc] at h'
        simp only [List.lookup_cons, hx] at h'
        cases h'
        exact ⟨_, rfl, .inl rfl⟩
    | false =>
      simp only [List.lookup_cons, hx]
      by_cases hc : (k₀ == NameKind.free && sc.kind == .function && sc.names.lookup n == some .cell) = true
      · rw [if_pos hc] at h'
        simp only [List.lookup_cons, hx] at h'
        exact ih h'
      · rw [if_neg hc] at h'
        simp only [List.lookup_cons, hx] at h'
        exact ih h'
/-- the names of a comprehension's block: its own (with their places in N), or captured -/
structure BlkOk (N : List Str) (sc scope : Scope) (own : List (Str × Nat)) : Prop where
  kind : scope.kind = .function
  uniq : ∀ y ∈ scope.names, scope.names.lookup y.1 = some y.2
  ix : ∀ p ∈ own, N[p.2]? = some p.1
  free : ∀ y ∈ scope.names, y.2 = .free → sc.names.lookup y.1 = some .cell ∨ sc.names.lookup y.1 = some .free
  own : ∀ y ∈ scope.names, y.2 = .local ∨ y.2 = .cell → y.1 ∈ own.map (·.1) ∨ y.1 ∉ N
/-- the slots of the block's own names forgotten -/
def wipe (σ : St) : List Nat → St
  | [] => σ
  | v :: vs => (wipe σ vs).set v none
theorem wipe_length (σ : St) : ∀ vs : List Nat, (wipe σ vs).length = σ.length
  | [] => rfl
  | v :: vs => by unfold wipe; rw [List.length_set, wipe_length σ vs]
theorem wipe_some {σ : St} {i : Nat} {x : V} : ∀ {vs : List Nat}, (wipe σ vs)[i]? = some (some x) → σ[i]? = some (some x) ∧ i ∉ vs
  | [], h => ⟨h, by simp⟩
  | v :: vs, h => by
    unfold wipe at h
    by_cases hi : v = i
    · subst hi
      by_cases hv : v < (wipe σ vs).length
      · rw [List.getElem?_set_self hv] at h; cases h
      · rw [List.getElem?_eq_none (by simpa using hv)] at h; cases h
    · rw [List.getElem?_set_ne hi] at h
      obtain ⟨h1, h2⟩ := wipe_some h
      exact ⟨h1, by simp only [List.mem_cons, not_or]; exact ⟨fun e => hi e.symm, h2⟩⟩

/-- the context of a block that starts at s, its iterator's objects at fp -/
abbrev Cx.blk (X : Cx) (s : Shared) (H : Hp) (scope : Scope) (cenv : Env) (fp : List Addr) : Cx := { X with s_0 := s, H_0 := H, env := cenv, outer := X.stack, ex := fp, fn := fun x => scope.names.lookup x == some .cell, pn := [], xe := fun _ _ => False }
section
variable {X : Cx} {pins : List (Addr × Obj)} {σ : St} {H : Hp} {s : Shared}
theorem block_start {scope : Scope} {own : List (Str × Nat)} {fp : List Addr} (I : Inv X pins σ H s) (ok : BlkOk X.N X.env.scope scope own) (hN : X.N.Nodup) (hfp : ∀ b ∈ fp, FpOk X pins H b ∧ b < s.heap.objs.size) :
    Inv (X.blk s H scope (compEnvC scope (cellsFrom (s.heap.objs.size + 1) scope.names (cloFrom X.env.cells scope.names [])) s.heap.objs.size X.env) fp) [] (wipe σ (own.map (·.2))) H { s with heap := pushCells (s.heap.push { cls := .type "dict", data := .dict #[] }) scope.names } := by
  have hfree : ∀ y ∈ scope.names, y.2 = .free → ∃ c, X.env.cells.lookup y.1 = some c := fun y hy e => by
    rcases ok.free y hy e with k | k
    · exact I.ok.has _ (.inl k)
    · exact I.ok.has _ (.inr k)
  generalize hcenv : compEnvC scope (cellsFrom (s.heap.objs.size + 1) scope.names (cloFrom X.env.cells scope.names [])) s.heap.objs.size X.env = cenv
  have kp : ∀ b o, s.heap.get? b = some o → (pushCells (s.heap.push { cls := .type "dict", data := .dict #[] }) scope.names).get? b = some o := fun b o e => pushCells_keeps _ _ _ _ (Heap.get?_push_of_some _ e)
  have hL : cenv.locals = s.heap.objs.size := by rw [← hcenv]; rfl
  have hcl : cenv.cells = cellsFrom (s.heap.objs.size + 1) scope.names (cloFrom X.env.cells scope.names []) := by rw [← hcenv]; rfl
  have hsc : cenv.scope = relS scope X.env.scope := by rw [← hcenv]; rfl
  rw [← Heap.size_push s.heap { cls := .type "dict", data := .dict #[] }] at hcl
  have cm : ∀ {y c}, (y, c) ∈ cloFrom X.env.cells scope.names [] → X.env.cells.lookup y = some c ∧ c < s.heap.objs.size := fun {y c} hm => by
    rcases cloFrom_mem hm with hm | ⟨h1, rfl⟩
    · cases hm
    · obtain ⟨c, hc⟩ := hfree _ h1 rfl
      rw [hc]
      obtain ⟨w, z⟩ := I.cell _ _ hc
      exact ⟨rfl, z.lt⟩
  have mem : ∀ {y c}, cenv.cells.lookup y = some c → (X.env.cells.lookup y = some c ∧ c < s.heap.objs.size) ∨ (s.heap.objs.size + 1 ≤ c ∧ CellAt (pushCells (s.heap.push { cls := .type "dict", data := .dict #[] }) scope.names) c none) := fun {y c} e => by
    rw [hcl] at e
    rcases cells_mem (PySem.mem_of_lookup e) with hm | ⟨_, h2, h3⟩
    · exact .inl (cm hm)
    · rw [Heap.size_push] at h2; exact .inr ⟨h2, h3⟩
  have look : ∀ {y}, scope.names.lookup y = some .free → ∃ c, cenv.cells.lookup y = some c ∧ X.env.cells.lookup y = some c := fun {y} hl => by
    have hy : (y, NameKind.free) ∈ scope.names := PySem.mem_of_lookup hl
    obtain ⟨c', e'⟩ := mem_lookup (cells_acc (names := scope.names) (n := (s.heap.push { cls := .type "dict", data := .dict #[] }).objs.size) (cloFrom_has (cells := X.env.cells) (acc := []) hy))
    rw [← hcl] at e'
    refine ⟨c', e', ?_⟩
    rw [hcl] at e'
    rcases cells_mem (PySem.mem_of_lookup e') with hm | ⟨h1, _, _⟩
    · exact (cm hm).1
    · have := ok.uniq _ h1
      rw [hl] at this; cases this
  have okB : (X.blk s H scope cenv fp).Ok := by
    refine ⟨I.ok.mod, by show cenv.scope.kind = _; rw [hsc]; exact ok.kind, by show cenv.globals = _; rw [← hcenv]; exact I.ok.glob, by show cenv.builtins = _; rw [← hcenv]; exact I.ok.blt, by show s.heap.objs.size ≤ cenv.locals; rw [hL]; exact Nat.le_refl _,
      fun y z c e1 e2 => ?_, fun y hy => ?_, fun y c z e => ?_, I.ok.hd, I.ok.frames, .inl rfl, fun b hb => ⟨?_, fun y c e z => ?_⟩, I.bs, Nat.le_trans I.ok.bsz I.sz, fun b o e hb => ?_, fun b hb z => ?_, I.stack, I.stkFree⟩
    · have e1 : cenv.cells.lookup y = some c := e1
      have e2 : cenv.cells.lookup z = some c := e2
      rw [hcl] at e1 e2
      refine cells_inj (fun p hp => ?_) (fun y z c a b => I.ok.inj y z c (cm a).1 (cm b).1) (PySem.mem_of_lookup e1) (PySem.mem_of_lookup e2)
      rw [Heap.size_push]
      exact Nat.lt_succ_of_lt (cm (y := p.1) (c := p.2) hp).2
    · show ∃ c, cenv.cells.lookup y = some c
      have key : ∀ k, cenv.kindOf y = some k → (k = .cell ∨ k = .free) → ∃ c, cenv.cells.lookup y = some c := fun k hk hk' => by
        unfold Env.kindOf at hk
        rw [hsc] at hk
        obtain ⟨k', e, r⟩ := lookup_relS hk
        have : k' = .cell ∨ k' = .free := by
          rcases r with rfl | ⟨rfl, _⟩
          · exact hk'
          · exact .inr rfl
        rcases this with rfl | rfl
        · obtain ⟨c, hm⟩ := cells_has (n := (s.heap.push { cls := .type "dict", data := .dict #[] }).objs.size) (acc := cloFrom X.env.cells scope.names []) (PySem.mem_of_lookup e)
          obtain ⟨c', e'⟩ := mem_lookup hm
          exact ⟨c', by rw [hcl]; exact e'⟩
        · obtain ⟨c, h1, _⟩ := look e
          exact ⟨c, h1⟩
      rcases hy with hy | hy
      · exact key _ hy (.inl rfl)
      · exact key _ hy (.inr rfl)
    · have z : (scope.names.lookup y == some NameKind.cell) = true := z
      have z : scope.names.lookup y = some .cell := by simpa using z
      have e : cenv.cells.lookup y = some c := e
      rw [hcl] at e
      rcases cells_mem (PySem.mem_of_lookup e) with hm | ⟨_, h2, _⟩
      · rcases cloFrom_mem hm with hm | ⟨h1, _⟩
        · cases hm
        · have q := ok.uniq _ h1
          rw [z] at q; cases q
      · rw [Heap.size_push] at h2
        exact Nat.le_of_succ_le h2
    · show b ≠ cenv.locals
      rw [hL]; exact Nat.ne_of_lt (hfp b hb).2
    · have e : cenv.cells.lookup y = some c := e
      rcases mem e with ⟨h1, _⟩ | ⟨h1, _⟩
      · exact (hfp b hb).1.2.2.2.2.1 y c h1 z
      · have h2 : s.heap.objs.size + 1 ≤ b := by rw [← z]; exact h1
        exact absurd (Nat.lt_of_lt_of_le (hfp b hb).2 (Nat.le_of_succ_le h2)) (Nat.lt_irrefl _)
    · rcases (hfp b hb).1.2.2.2.1 with z | z
      · exact I.ok.noex b o e z
      · exact absurd (Nat.lt_of_lt_of_le (Heap.lt_size e) (Nat.le_trans I.ok.bsz z)) (Nat.lt_irrefl _)
    · rcases List.mem_cons.mp (I.stkSub b z) with z | z
      · exact (hfp b hb).1.2.1 z
      · exact (hfp b hb).1.2.2.1 z
  refine ⟨okB, rfl, I.bare, Un.kept kp, ⟨fun _ => none, ?_, fun i y av e1 e2 e3 => ?_⟩, fun y c e => ?_, ?_, fun y c e => ?_, fun p hp => ?_, I.hok.kept kp, by rw [wipe_length]; exact I.len⟩
  · show Heap.Ns _ cenv.locals _
    rw [hL]
    exact Heap.Ns.keeps (Heap.Ns.new ..) fun b o e => pushCells_keeps _ _ _ _ e
  · obtain ⟨e2, hne⟩ := wipe_some e2
    have hfr : scope.names.lookup y = some .free ∧ (cenv.kindOf y = some .cell ∨ cenv.kindOf y = some .free) := by
      have key : ∀ k, cenv.scope.names.lookup y = some k → k = .local ∨ k = .cell ∨ k = .free → scope.names.lookup y = some .free ∧ (cenv.kindOf y = some .cell ∨ cenv.kindOf y = some .free) := fun k hk hk' => by
        have hk0 := hk
        rw [hsc] at hk
        obtain ⟨k', e, r⟩ := lookup_relS hk
        have no : ¬ (k' = .local ∨ k' = .cell) := fun hh => by
          rcases ok.own _ (PySem.mem_of_lookup e) hh with e' | e'
          · obtain ⟨p, hp, hpy⟩ := List.mem_map.mp e'
            have e3 := ok.ix p hp
            have : p.1 = y := hpy
            rw [this] at e3
            exact hne (List.mem_map.mpr ⟨p, hp, nodup_ix hN e3 e1⟩)
          · exact e' (List.mem_of_getElem? e1)
        rcases r with rfl | ⟨rfl, rfl⟩
        · rcases hk' with rfl | rfl | rfl
          · exact absurd (.inl rfl) no
          · exact absurd (.inr rfl) no
          · exact ⟨e, .inr hk0⟩
        · exact ⟨e, .inl hk0⟩
      have e3 : Vis cenv.scope y := e3
      rcases e3 with e3 | e3 | e3
      · exact key _ e3 (.inl rfl)
      · exact key _ e3 (.inr (.inl rfl))
      · exact key _ e3 (.inr (.inr rfl))
    obtain ⟨m, hn, hl⟩ := I.loc
    have hvis : Vis X.env.scope y := (ok.free _ (PySem.mem_of_lookup hfr.1) rfl).elim (fun k => .inr (.inl k)) (fun k => .inr (.inr k))
    obtain ⟨w, r, q⟩ := hl i y av e1 e2 hvis
    refine ⟨w, r, .inr ⟨hfr.2, ?_⟩⟩
    obtain ⟨c, h1, h2⟩ := look hfr.1
    rcases q with ⟨k, _⟩ | ⟨_, c', e', z⟩
    · have k : X.env.scope.names.lookup y = some .local := k
      rcases ok.free _ (PySem.mem_of_lookup hfr.1) rfl with k' | k' <;> rw [show X.env.scope.names.lookup y = _ from k'] at k <;> cases k
    · rw [h2] at e'; cases e'
      exact ⟨c, h1, z.keeps kp⟩
  · have e : cenv.cells.lookup y = some c := e
    rcases mem e with ⟨h1, _⟩ | ⟨_, z⟩
    · obtain ⟨w, z⟩ := I.cell y c h1
      exact ⟨w, z.keeps kp⟩
    · exact ⟨_, z⟩
  · show H cenv.locals = none
    rw [hL]; exact I.hok.fresh (Nat.le_refl _)
  · have e : cenv.cells.lookup y = some c := e
    rcases mem e with ⟨h1, _⟩ | ⟨h1, _⟩
    · exact I.freeC y c h1
    · exact I.hok.fresh (Nat.le_of_succ_le h1)
  · exact absurd (show p ∈ ([] : List (Addr × Obj)) ++ [] from hp) (by simp)

/-- an item appended to a tracked list -/
theorem app_ok {E : Value → Shared → Prop} {D : Addr} {xs : List V} {y : V} {v : Value} {Q : Value → Shared → Prop} (I : Inv X pins σ H s) (hD : H D = some (.lst xs)) (hz : xs.length < sizeLine) (r : RelV y v)
    (h : ∀ s', Inv X pins σ (upd H D (.lst (xs ++ [y]))) s' → Q .none s') : wpAny (model X.prog X.w) X.A (call (.builtin "list.append") [.ref D, v]) Q E s := by
  obtain ⟨hz', its, n, ri, e⟩ := I.hok D _ hD
  have hl := ri.length
  refine append_at (hsz := by rw [List.size_toArray]; omega) e fun h' sb ho' => ?_
  refine h { s with heap := h' } (I.write (t' := s.toks) (by rw [hD]; trivial) (.inl rfl) (fun b u hb q => (sb.2 b hb).trans q) ⟨_, ho'⟩ ⟨by rw [List.length_append]; exact hz, its ++ [v], n + 1, ri.append (.cons r .nil), ?_⟩)
  rw [ho']
  simp

/-- a clause's tests -/
def PTs (X : Cx) (ifs : List Expr) (t : TT) : Prop :=
  ∀ (pins : List (Addr × Obj)) (s : Shared) (σ : St) (H : Hp) (Q : Bool → Hp → Prop), Inv X pins σ H s → t σ H Q →
    wpAny (model X.prog X.w) X.A (forIn ifs true fun c r => if r = true then do let ok ← isTrue c X.env (eval c X.env); pure (ForInStep.yield ok) else pure (ForInStep.yield r)) (TP X pins σ Q) X.xe s
def tYes : TT := fun _ H Q => Q true H
theorem pts_nil : PTs X [] tYes := fun _ _ _ H _ I h => wpAny_tests_nil ⟨H, I, h⟩
theorem pts_one {c : Expr} {t : TT} (h : PT X c t) : PTs X [c] t := fun pins s σ H Q I hw => wpAny_tests_one (h pins s σ H Q I hw)
end

theorem thnF {α : Type} {t : Sem α} {Q Q' : α → Shared → Prop} {M : Model} {A : Around} {E : Value → Shared → Prop} {s : Shared} (h : wpAny M A t Q (fun _ _ => False) s) (hQ : ∀ a s, Q a s → Q' a s) : wpAny M A t Q' E s := wpAny_mono h hQ fun _ _ z => False.elim z

/-- the loop of a list comprehension's block, the target of any form (codeAny_compLoop_tests asks a target that no tuple goes to; statement and proof follow it, PyProof/CompMap.lean:41-61, with the step letOwnedTupleGo kept) -/
theorem compLoop_any {prog : Program} {w : World} {A : Around} {R : Result → Shared → Prop} {s : Shared} {elt target iter : Expr} {ifs : List Expr} {scope : Scope} {pos : Pos} {it acc : Value} {env : Env} (I : Nat → Shared → Prop)
    (turn : ∀ n s, I n s → wpAny (model prog w) A (pyNext it) (fun r s₁ => match r with
      | none => R (.ok .next) s₁
      | some v => wpAny (model prog w) A (letOwnedTupleGo target it v) (fun _ s₁' => wpAny (model prog w) A (assign target env v) (fun _ s₂ =>
          wpAny (model prog w) A (forIn ifs true fun c r => if r = true then do let ok ← isTrue c env (eval c env); pure (ForInStep.yield ok) else pure (ForInStep.yield r)) (fun ok s₃ =>
            if ok = true then wpAny (model prog w) A (eval elt env) (fun x s₄ =>
              wpAny (model prog w) A (call (.builtin "list.append") [acc, x]) (fun _ s₅ => ∃ m, m < n ∧ I m s₅) (notedBy (model prog w) A env fun e s' => R (.error e) s') s₄) (notedBy (model prog w) A env fun e s' => R (.error e) s') s₃
            else ∃ m, m < n ∧ I m s₃) (notedBy (model prog w) A env fun e s' => R (.error e) s') s₂) (notedBy (model prog w) A env fun e s' => R (.error e) s') s₁') (notedBy (model prog w) A env fun e s' => R (.error e) s') s₁) (notedBy (model prog w) A env fun e s' => R (.error e) s') s)
    (n : Nat) (h : I n s) :
    codeAny (model prog w) A (.compLoop (.ListComp elt [⟨target, iter, ifs, 0⟩] scope pos) 0 it acc env) R s := by
  refine codeAny_loop rfl I (fun n s hI => ?_) n h
  show wpAny _ A ((compTurn (.ListComp elt [⟨target, iter, ifs, 0⟩] scope pos) 0 it acc env).onRaise (fun x => do noteFrame x env; theTreesLotGoes x)) _ _ s
  refine wpAny_noted ?_
  rw [compTurn_list]
  refine wpAny_bind (wpAny_standAt (wpAny_bind (wpAny_mono (turn n s hI) (fun r s₁ h₁ => ?_) fun _ _ h' => h')))
  cases r with
  | none => exact wpAny_pure h₁
  | some v =>
    refine wpAny_bind (wpAny_mono h₁ (fun _ s₁' h₁' => ?_) fun _ _ h' => h')
    refine wpAny_bind (wpAny_mono h₁' (fun _ s₂ h₂ => wpAny_bind (wpAny_mono h₂ (fun ok s₃ h₃ => ?_) fun _ _ h' => h')) fun _ _ h' => h')
    cases ok with
    | false => exact wpAny_pure ⟨rfl, h₃⟩
    | true =>
      exact wpAny_bind (wpAny_bind (wpAny_mono h₃ (fun x s₄ h₄ => wpAny_bind (wpAny_mono h₄ (fun _ s₅ h₅ => wpAny_pure (wpAny_pure ⟨rfl, h₅⟩)) fun _ _ h' => h')) fun _ _ h' => h'))

section
variable {X : Cx}
/-- [elt for target in iter if ..]: D the new list; W by the turn and a measure, Nx what a turn is to reach -/
def tLc (wi : TI) (g : TG) (tt : TT) (te : TE) (vs : List Nat) : TE := fun σ H Q => wi σ H fun J H1 => ∀ D, H1 D = none → ∃ W : Nat → Nat → Hp → Prop, (∃ m, W 0 m (upd H1 D (.lst []))) ∧ ∀ i m H, W i m H →
  (J.stop i H ∧ Q (.ref D) H) ∨ (J.go i H ∧ ∃ Nx : Hp → Prop, (∀ H', Nx H' → ∃ m', m' < m ∧ W (i + 1) m' H') ∧ ∀ x H', J.yld i H x H' → g x (wipe σ vs) H' fun σ2 H2 => wipe σ2 vs = wipe σ vs ∧ tt σ2 H2 fun b H3 =>
    if b = true then te σ2 H3 fun y H4 => ∃ acc, H4 D = some (.lst acc) ∧ acc.length < sizeLine ∧ Nx (upd H4 D (.lst (acc ++ [y]))) else Nx H3)
theorem lc_core {pins : List (Addr × Obj)} {s : Shared} {σ : St} {H : Hp} {Q : VK} {elt tg iter : Expr} {ifs : List Expr} {scope : Scope} {own : List (Str × Nat)} {pos pos' : Pos} {wi : TI} {g : TG} {tt : TT} {te : TE} {use : Option (Value → Sem Unit)} {Qf : Value → Shared → Prop}
    (hc : X.calm = true) (hN : X.N.Nodup) (I : Inv X pins σ H s) (hi : PI X tg iter wi) (ok : BlkOk X.N X.env.scope scope own)
    (hg : ∀ (s : Shared) (H : Hp) (C : Addr) (cl : List (Str × Addr)) (fp : List Addr), PG (X.blk s H scope (compEnvC scope cl C X.env) fp) tg g) (ht : ∀ (s : Shared) (H : Hp) (C : Addr) (cl : List (Str × Addr)) (fp : List Addr), PTs (X.blk s H scope (compEnvC scope cl C X.env) fp) ifs tt)
    (he : ∀ (s : Shared) (H : Hp) (C : Addr) (cl : List (Str × Addr)) (fp : List Addr), PE (X.blk s H scope (compEnvC scope cl C X.env) fp) elt te) (hs : ∀ x, foldedSetIterable iter X.env x = pure x)
    (h : tLc wi g tt te (own.map (·.2)) σ H Q)
    (hRR : ∀ D C s' m H', Inv X pins σ H' s' → Q (.ref D) H' → s'.heap.Ns C m → FpOk X pins H' C → compPost (model X.prog X.w) X.A X.xe use Qf (.ref D) C (.ok .next) s') :
    wpAny (model X.prog X.w) X.A (comprehension (.ListComp elt [⟨tg, iter, ifs, 0⟩] scope pos) scope X.env pos' (newList []) false (eval iter X.env) use) Qf X.xe s := by
  have hfree : ∀ y ∈ scope.names, y.2 = .free → ∃ c, X.env.cells.lookup y.1 = some c := fun y hy e => by
    rcases ok.free y hy e with k | k
    · exact I.ok.has _ (.inl k)
    · exact I.ok.has _ (.inr k)
  refine wpAny_comprehension_free (use := use) rfl hs (closure_ok hfree) ok.kind (fun y hy e => by rw [ok.uniq y hy, e])
    (thn (hi pins s σ H _ I h) fun xv s1 hx => thn hx fun itv s2 h2 => ?_)
  obtain ⟨it, fp, tn, J, H2, e, I2, T, st2, f2, q⟩ := h2
  subst e
  refine wpAny_newObj_type (newEnv_comp ?_) (by show 0 ≤ sizeLine; decide)
  generalize hD : s2.heap.objs.size = D
  have hDn : H2 D = none := I2.hok.fresh (Nat.le_of_eq hD)
  obtain ⟨W, ⟨m0, w0⟩, turn⟩ := q D hDn
  -- the new list
  generalize hs3 : ({ s2 with heap := s2.heap.push { cls := .type "list", data := .seq ([] : List Value).toArray } } : Shared) = s3
  have I3 : Inv X pins σ (upd H2 D (.lst [])) s3 := by
    rw [← hs3]
    refine I2.laid (t' := s2.toks) (fun b o e => Heap.get?_push_of_some _ e) (Nat.le_of_eq hD) ⟨Nat.zero_le _, [], 0, .nil, ?_⟩
    rw [← hD]
    exact Heap.get?_push_size _ rfl
  have h3 : s3.heap = s2.heap.push { cls := .type "list", data := .seq ([] : List Value).toArray } := by rw [← hs3]
  have sz : ∀ b ∈ fp, b < s2.heap.objs.size := fun b hb => by
    obtain ⟨o, e, _⟩ := T.obj _ _ st2 b hb
    exact Heap.lt_size e
  have f3 : ∀ b ∈ fp, FpOk X pins (upd H2 D (.lst [])) b ∧ b < s3.heap.objs.size := fun b hb => by
    have hlt := sz b hb
    refine ⟨⟨?_, (f2 b hb).2⟩, by rw [h3, Heap.size_push]; exact Nat.lt_succ_of_lt hlt⟩
    rw [upd_ne (by rw [← hD]; exact Nat.ne_of_lt hlt)]
    exact (f2 b hb).1
  have st3 : tn 0 s3.heap := T.keep _ _ _ st2 fun b _ o e => by rw [h3]; exact Heap.get?_push_of_some _ e
  have I4 := block_start I3 ok hN f3
  have pg := hg s3 (upd H2 D (.lst [])) s3.heap.objs.size (cellsFrom (s3.heap.objs.size + 1) scope.names (cloFrom X.env.cells scope.names [])) fp
  have pt := ht s3 (upd H2 D (.lst [])) s3.heap.objs.size (cellsFrom (s3.heap.objs.size + 1) scope.names (cloFrom X.env.cells scope.names [])) fp
  have pe := he s3 (upd H2 D (.lst [])) s3.heap.objs.size (cellsFrom (s3.heap.objs.size + 1) scope.names (cloFrom X.env.cells scope.names [])) fp
  show codeAny _ _ (.compStart (.ListComp elt [⟨tg, iter, ifs, 0⟩] scope pos) 0 (.ref it) (.ref D) (compEnvC scope (cellsFrom (s3.heap.objs.size + 1) scope.names (cloFrom X.env.cells scope.names [])) s3.heap.objs.size X.env)) (compPost (model X.prog X.w) X.A X.xe use Qf (.ref D) s3.heap.objs.size) { s3 with heap := pushCells (s3.heap.push { cls := .type "dict", data := .dict #[] }) scope.names }
  have nfp : ∀ b ∈ fp, (upd H2 D (.lst [])) b = none := fun b hb => (f3 b hb).1.1
  generalize hce : compEnvC scope (cellsFrom (s3.heap.objs.size + 1) scope.names (cloFrom X.env.cells scope.names [])) s3.heap.objs.size X.env = ce at I4 pg pt pe ⊢
  have cL : ce.locals = s3.heap.objs.size := by subst hce; rfl
  generalize hH3 : upd H2 D (.lst []) = H3 at I3 I4 pg pt pe w0 nfp f3
  generalize hs4 : ({ s3 with heap := pushCells (s3.heap.push { cls := .type "dict", data := .dict #[] }) scope.names } : Shared) = s4 at I4 ⊢
  have st4 : tn 0 s4.heap := T.keep _ _ _ st3 fun b _ o e => by rw [← hs4]; exact pushCells_keeps _ _ _ _ (Heap.get?_push_of_some _ e)
  have stat : ∀ {σ' : St} {H' : Hp} {s' : Shared}, Inv (X.blk s3 H3 scope ce fp) [] σ' H' s' → (∀ b ∈ fp, H' b = none) → ∀ b ∈ fp, FpOk (X.blk s3 H3 scope ce fp) [] H' b := fun {σ' H' s'} I' hn b hb =>
    ⟨hn b hb, (I'.ok.exf b hb).1, I'.ok.exfs b hb, .inl hb, fun x c e => (I'.ok.exf b hb).2 x c e, fun p hp => absurd (show p ∈ ([] : List (Addr × Obj)) ++ [] from hp) (by simp)⟩
  have loop : codeAny (model X.prog X.w) X.A (.compLoop (.ListComp elt [⟨tg, iter, ifs, 0⟩] scope pos) 0 (.ref it) (.ref D) ce) (compPost (model X.prog X.w) X.A X.xe use Qf (.ref D) s3.heap.objs.size) s4 := by
    refine compLoop_any (fun n s' => ∃ i H', Inv (X.blk s3 H3 scope ce fp) [] (wipe σ (own.map (·.2))) H' s' ∧ tn i s'.heap ∧ (∀ b ∈ fp, H' b = none) ∧ W i n H') ?_ m0 ⟨0, H3, I4, st4, nfp, w0⟩
    rintro n s5 ⟨i, H5, I5, st5, n5, w5⟩
    rcases turn i n H5 w5 with ⟨stop, qq⟩ | ⟨go, Nx, hNx, step⟩
    · have td := T.done (X.blk s3 H3 scope ce fp) rfl rfl rfl hc i [] s5 _ H5 (fun _ _ => False) I5 (stat I5 n5) st5 stop
      refine thnF td fun r s6 ⟨hr, I6⟩ => ?_
      subst hr
      -- back in the def's context
      have I7 : Inv X pins σ H5 s6 := I3.call' (ch := fp) I6.os I6.base I6.hok I6.bare fun b hb => ⟨(f3 b hb).1.2.2.2.1, (f3 b hb).1.2.1, (f3 b hb).1.2.2.2.2.1, (f3 b hb).1.2.2.2.2.2⟩
      have nC : H5 s3.heap.objs.size = none := by
        have z : H5 ce.locals = none := I6.free
        rw [cL] at z
        exact z
      obtain ⟨m, hn, _⟩ := I6.loc
      have hn : s6.heap.Ns ce.locals m := hn
      rw [cL] at hn
      exact hRR D s3.heap.objs.size s6 m H5 I7 qq hn (I3.fpOk (Nat.le_refl _) nC)
    · have ti := T.item (X.blk s3 H3 scope ce fp) rfl rfl rfl hc i [] s5 _ H5 (fun _ _ => False) I5 (stat I5 n5) st5 go
      refine thnF ti fun r s6 ⟨u, hr, h6⟩ => ?_
      subst hr
      refine thnF h6 fun _ s7 ⟨x, H7, I7, r7, y7, st7, n7⟩ => ?_
      have I7' := I7.pinned (stat I7 n7) (T.obj _ _ st7)
      refine thnF (pg _ s7 _ H7 x u _ I7' r7 (step x H7 y7)) fun _ s8 ⟨σ8, H8, I8, hw8, q8⟩ => ?_
      refine thnF (pt _ s8 σ8 H8 _ I8 q8) fun b s9 ⟨H9, I9, q9⟩ => ?_
      -- the turn's end
      have fin : ∀ {s' : Shared} {H' : Hp}, Inv (X.blk s3 H3 scope ce fp) ([] ++ pinsAt fp s7.heap) σ8 H' s' → Nx H' → ∃ m, m < n ∧ ∃ i H', Inv (X.blk s3 H3 scope ce fp) [] (wipe σ (own.map (·.2))) H' s' ∧ tn i s'.heap ∧ (∀ b ∈ fp, H' b = none) ∧ W i m H' := fun {s' H'} I' nx => by
        obtain ⟨m', hm, w'⟩ := hNx H' nx
        have pin' : ∀ b ∈ fp, ∀ o, s7.heap.get? b = some o → s'.heap.get? b = some o ∧ H' b = none := fun b hb o e =>
          let z := I'.pin (b, o) (List.mem_append_right _ (List.mem_append_right _ (mem_pinsAt hb e)))
          ⟨z.1, z.2.1⟩
        have hl : (wipe σ (own.map (·.2))).length = σ8.length := by rw [← hw8, wipe_length]
        refine ⟨m', hm, i + 1, H', (I'.unpinned (pins := [])).weak hl (fun j v e => ?_), T.keep _ _ _ st7 fun b hb o e => (pin' b hb o e).1, fun b hb => ?_, w'⟩
        · rw [← hw8] at e
          exact (wipe_some e).1
        · obtain ⟨o, e, _⟩ := T.obj _ _ st7 b hb
          exact (pin' b hb o e).2
      cases b with
      | false =>
        simp only [Bool.false_eq_true, if_false] at q9 ⊢
        exact fin I9 q9
      | true =>
        simp only [if_true] at q9 ⊢
        refine thnF (pe _ s9 σ8 H9 _ I9 q9) fun z s10 ⟨yv, H10, I10, r10, acc, hD10, hz10, nx⟩ => ?_
        exact app_ok (X := X.blk s3 H3 scope ce fp) I10 hD10 hz10 r10 fun s11 I11 => fin I11 nx
  exact codeAny_compStart_list loop (T.self X.A 0 _ _ _ st4 loop)
/-- as a value -/
theorem pe_lc {elt tg iter : Expr} {ifs : List Expr} {scope : Scope} {own : List (Str × Nat)} {pos : Pos} {wi : TI} {g : TG} {tt : TT} {te : TE} (hc : X.calm = true) (hN : X.N.Nodup) (hi : PI X tg iter wi) (ok : BlkOk X.N X.env.scope scope own)
    (hg : ∀ (s : Shared) (H : Hp) (C : Addr) (cl : List (Str × Addr)) (fp : List Addr), PG (X.blk s H scope (compEnvC scope cl C X.env) fp) tg g) (ht : ∀ (s : Shared) (H : Hp) (C : Addr) (cl : List (Str × Addr)) (fp : List Addr), PTs (X.blk s H scope (compEnvC scope cl C X.env) fp) ifs tt)
    (he : ∀ (s : Shared) (H : Hp) (C : Addr) (cl : List (Str × Addr)) (fp : List Addr), PE (X.blk s H scope (compEnvC scope cl C X.env) fp) elt te) (hs : ∀ x, foldedSetIterable iter X.env x = pure x := by intro _; rfl) :
    PE X (.ListComp elt [⟨tg, iter, ifs, 0⟩] scope pos) (tLc wi g tt te (own.map (·.2))) := by
  intro pins s σ H Q I h
  rw [eval_ListComp]
  refine lc_core hc hN I hi ok hg ht he hs h fun D C s' m H' I' q hn f => ⟨m, hn, fun h'' sb => ?_⟩
  obtain ⟨f0, f1, f2, f3, f4, f5⟩ := f
  exact ⟨.ref D, H', I'.turned (t' := s'.toks) (fun b o hb e => (sb.2 b hb).trans e) f0 f1 f3 f4 f5, rfl, q⟩
/-- name = [..] on one line, the name a local -/
theorem ps_setLc {i : Nat} {y : Str} {py : Pos} {elt tg iter : Expr} {ifs : List Expr} {scope : Scope} {own : List (Str × Nat)} {pos spos : Pos} {wi : TI} {g : TG} {tt : TT} {te : TE} (hc : X.calm = true) (hN : X.N.Nodup) (hy : X.N[i]? = some y) (hyl : X.env.scope.names.lookup y = some .local)
    (hsw : swapsWith (.ListComp elt [⟨tg, iter, ifs, 0⟩] scope pos) (some (.Name y py)) spos.line X.env = pure true) (hi : PI X tg iter wi) (ok : BlkOk X.N X.env.scope scope own)
    (hg : ∀ (s : Shared) (H : Hp) (C : Addr) (cl : List (Str × Addr)) (fp : List Addr), PG (X.blk s H scope (compEnvC scope cl C X.env) fp) tg g) (ht : ∀ (s : Shared) (H : Hp) (C : Addr) (cl : List (Str × Addr)) (fp : List Addr), PTs (X.blk s H scope (compEnvC scope cl C X.env) fp) ifs tt)
    (he : ∀ (s : Shared) (H : Hp) (C : Addr) (cl : List (Str × Addr)) (fp : List Addr), PE (X.blk s H scope (compEnvC scope cl C X.env) fp) elt te) (hs : ∀ x, foldedSetIterable iter X.env x = pure x := by intro _; rfl) :
    PS X (.Assign [.Name y py] (.ListComp elt [⟨tg, iter, ifs, 0⟩] scope pos) spos) (tAsg (tLc wi g tt te (own.map (·.2))) (gName i)) := by
  intro pins s σ H D I h
  rw [exec_Assign_Name_used _ _ _ _ hsw]
  refine wpAny_bind (wpAny_standAt (wpAny_bind ?_))
  show wpAny _ X.A (do let _ ← comprehension (.ListComp elt [⟨tg, iter, ifs, 0⟩] scope pos) scope X.env (firstIterPos [⟨tg, iter, ifs, 0⟩] pos) (newList []) false (eval iter X.env) (some (assign (.Name y py) X.env))) _ _ s
  have h : tLc wi g tt te (own.map (·.2)) σ H (fun x H1 => gName i x σ H1 D.nx) := h
  refine wpAny_bind (thn (lc_core (Qf := fun _ s' => SP X pins D .next s') hc hN I hi ok hg ht he hs h fun L C s' m H' I' q hn f => ?_) fun _ s' hq => wpAny_pure (wpAny_pure hq))
  show wpAny _ _ (assign (.Name y py) X.env (.ref L)) _ _ _
  refine wpAny_assign_Name (store_ok2 (v := V.ref L) I' hN hy (.inl hyl) rfl (fun s2 I2 ⟨a, sb, ha⟩ => ?_) (.inr hyl))
  obtain ⟨f0, f1, f2, f3, f4, f5⟩ := f
  have haC : C ≠ a := by
    rcases ha with z | z
    · rw [z]; exact f1
    · exact fun e => f4 y a z e.symm
  refine ⟨m, hn.sameBut sb haC, fun h3 sb3 => ?_⟩
  exact ⟨_, H', I2.turned (t' := s2.toks) (fun b o hb e => (sb3.2 b hb).trans e) f0 f1 f3 f4 f5, q⟩
theorem sw_true {elt : Expr} {gs : List Comprehension} {scope : Scope} {pos py : Pos} {y : Str} {l : Nat} {env : Env} (hk : env.scope.kind = .function) (hy : env.scope.names.lookup y = some .local) (hl : (py.line == pos.line) = true)
    (ha : (scope.names.any fun (n, k) => n == y && (k == .local || k == .cell)) = false) : swapsWith (.ListComp elt gs scope pos) (some (.Name y py)) l env = pure true := by
  have ky : env.kindOf y = some .local := hy
  have hb : env.blockKind = .function := by unfold Env.blockKind; rw [hk]; rfl
  unfold swapsWith
  simp only [hb, ky, ha, Expr.pos, hl]
  rfl
end

/-- over a range: Pv by the turn and the heap (the new list at D within) -/
theorem lc_range {lo : Int} {n : Nat} {g : TG} {tt : TT} {te : TE} {vs : List Nat} {σ : St} {H1 : Hp} {D : Addr} {Qd : Hp → Prop} (Pv : Nat → Hp → Prop) (h0 : Pv 0 (upd H1 D (.lst [])))
    (hs : ∀ i H, i < n → Pv i H → g (.int (lo + i)) (wipe σ vs) H fun σ2 H2 => wipe σ2 vs = wipe σ vs ∧ tt σ2 H2 fun b H3 =>
      if b = true then te σ2 H3 fun y H4 => ∃ acc, H4 D = some (.lst acc) ∧ acc.length < sizeLine ∧ Pv (i + 1) (upd H4 D (.lst (acc ++ [y]))) else Pv (i + 1) H3) (hd : ∀ H, Pv n H → Qd H) :
    ∃ W : Nat → Nat → Hp → Prop, (∃ m, W 0 m (upd H1 D (.lst []))) ∧ ∀ i m H, W i m H →
      ((Itr lo n).stop i H ∧ Qd H) ∨ ((Itr lo n).go i H ∧ ∃ Nx : Hp → Prop, (∀ H', Nx H' → ∃ m', m' < m ∧ W (i + 1) m' H') ∧ ∀ x H', (Itr lo n).yld i H x H' → g x (wipe σ vs) H' fun σ2 H2 => wipe σ2 vs = wipe σ vs ∧ tt σ2 H2 fun b H3 =>
        if b = true then te σ2 H3 fun y H4 => ∃ acc, H4 D = some (.lst acc) ∧ acc.length < sizeLine ∧ Nx (upd H4 D (.lst (acc ++ [y]))) else Nx H3) := by
  refine ⟨fun i m H => m = n - i ∧ i ≤ n ∧ Pv i H, ⟨n, by simp, Nat.zero_le _, h0⟩, ?_⟩
  rintro i m H ⟨rfl, hi, p⟩
  by_cases hlt : i < n
  · refine .inr ⟨hlt, Pv (i + 1), fun H' p' => ⟨n - (i + 1), by omega, rfl, hlt, p'⟩, fun x H' y => ?_⟩
    obtain ⟨e, y⟩ := y
    subst e y
    exact hs i _ hlt p
  · have e : i = n := by omega
    subst e
    exact .inl ⟨Nat.le_refl _, hd H p⟩
/-- over a list that the block leaves as it is -/
theorem lc_list {K : PySem.W.Frag} {a : Addr} {xs : List V} {g : TG} {tt : TT} {te : TE} {vs : List Nat} {σ : St} {H1 : Hp} {D : Addr} {Qd : Hp → Prop} (Pv : Nat → Hp → Prop) (h0 : Pv 0 (upd H1 D (.lst []))) (hl : ∀ i H, i ≤ xs.length → Pv i H → SqL K H a xs)
    (hs : ∀ i x H, xs[i]? = some x → Pv i H → g x (wipe σ vs) H fun σ2 H2 => wipe σ2 vs = wipe σ vs ∧ tt σ2 H2 fun b H3 =>
      if b = true then te σ2 H3 fun y H4 => ∃ acc, H4 D = some (.lst acc) ∧ acc.length < sizeLine ∧ Pv (i + 1) (upd H4 D (.lst (acc ++ [y]))) else Pv (i + 1) H3) (hd : ∀ H, Pv xs.length H → Qd H) :
    ∃ W : Nat → Nat → Hp → Prop, (∃ m, W 0 m (upd H1 D (.lst []))) ∧ ∀ i m H, W i m H →
      ((Itl K a).stop i H ∧ Qd H) ∨ ((Itl K a).go i H ∧ ∃ Nx : Hp → Prop, (∀ H', Nx H' → ∃ m', m' < m ∧ W (i + 1) m' H') ∧ ∀ x H', (Itl K a).yld i H x H' → g x (wipe σ vs) H' fun σ2 H2 => wipe σ2 vs = wipe σ vs ∧ tt σ2 H2 fun b H3 =>
        if b = true then te σ2 H3 fun y H4 => ∃ acc, H4 D = some (.lst acc) ∧ acc.length < sizeLine ∧ Nx (upd H4 D (.lst (acc ++ [y]))) else Nx H3) := by
  refine ⟨fun i m H => m = xs.length - i ∧ i ≤ xs.length ∧ Pv i H, ⟨xs.length, by simp, Nat.zero_le _, h0⟩, ?_⟩
  rintro i m H ⟨rfl, hi, p⟩
  have q := hl i H hi p
  by_cases hlt : i < xs.length
  · refine .inr ⟨⟨xs, xs[i], q, by simp [hlt]⟩, Pv (i + 1), fun H' p' => ⟨xs.length - (i + 1), by omega, rfl, hlt, p'⟩, fun x H' y => ?_⟩
    obtain ⟨e, y⟩ := y
    subst e
    exact hs i x _ (y xs q) p
  · have e : i = xs.length := by omega
    subst e
    exact .inl ⟨⟨xs, q, Nat.le_refl _⟩, hd H p⟩
def blkC (N : List Str) (sc scope : Scope) (own : List (Str × Nat)) : Bool :=
  (match scope.kind with | .function => true | _ => false) && (scope.names.all fun y => decide (scope.names.lookup y.1 = some y.2)) && (own.all fun p => decide (N[p.2]? = some p.1)) &&
    (scope.names.all fun y => match y.2 with
      | .free => (match sc.names.lookup y.1 with | some .cell => true | some .free => true | _ => false)
      | .local => decide (y.1 ∈ own.map (·.1)) || decide (y.1 ∉ N)
      | .cell => decide (y.1 ∈ own.map (·.1)) || decide (y.1 ∉ N)
      | _ => true)
theorem blkOk_by {N : List Str} {sc scope : Scope} {own : List (Str × Nat)} (h : blkC N sc scope own = true) : BlkOk N sc scope own := by
  unfold blkC at h
  simp only [Bool.and_eq_true, List.all_eq_true, decide_eq_true_eq] at h
  obtain ⟨⟨⟨h1, h2⟩, h3⟩, h4⟩ := h
  refine ⟨?_, h2, h3, fun y hy e => ?_, fun y hy e => ?_⟩
  · split at h1
    · assumption
    · cases h1
  · have q := h4 y hy
    simp only [e] at q
    split at q <;> first | exact .inl (by assumption) | exact .inr (by assumption) | cases q
  · have q := h4 y hy
    rcases e with e | e <;> (simp only [e, Bool.or_eq_true, decide_eq_true_eq] at q; exact q)
end L2

namespace L2
open PySem PySem.Spec PyProof.Rows

section
variable {prog : Program} {w : World} {A : Around} {R : Result → Shared → Prop} {s : Shared} {elt t0 i0 t1 i1 : Expr} {ifs0 ifs1 : List Expr} {scope : Scope} {pos : Pos} {it acc : Value} {env : Env}
end

section
variable {X : Cx}
end
end L2

namespace L2
open PySem PySem.Spec PyProof.Rows

section
variable {κ : Type} [DecidableEq κ]
def valV (kvs : List (κ × V)) (k : κ) : Option V := (kvs.find? fun kv => decide (kv.1 = k)).map (·.2)
/-- in its place, or at the end -/
def putK (kvs : List (κ × V)) (k : κ) (v : V) : List (κ × V) :=
  if (kvs.any fun kv => decide (kv.1 = k)) = true then kvs.map (fun kv => if kv.1 = k then (kv.1, v) else kv) else kvs ++ [(k, v)]
def dropK (kvs : List (κ × V)) (k : κ) : List (κ × V) := kvs.filter fun kv => decide (kv.1 ≠ k)

theorem valV_pos {p : κ × V} {r : List (κ × V)} {k : κ} (e : p.1 = k) : valV (p :: r) k = some p.2 := by simp [valV, List.find?_cons, e]
theorem valV_neg {p : κ × V} {r : List (κ × V)} {k : κ} (e : ¬ p.1 = k) : valV (p :: r) k = valV r k := by simp [valV, List.find?_cons, e]
theorem valV_any (k : κ) : ∀ kvs : List (κ × V), (kvs.any fun kv => decide (kv.1 = k)) = (valV kvs k).isSome
  | [] => rfl
  | p :: r => by
    rw [List.any_cons]
    by_cases e : p.1 = k
    · simp only [valV_pos e, decide_eq_true e, Bool.true_or, Option.isSome_some]
    · rw [valV_neg e, decide_eq_false e, Bool.false_or]; exact valV_any k r
theorem RelO.isSome_eq {o : Option V} {u : Option Value} (r : RelO o u) : o.isSome = u.isSome := by
  cases o with
  | none => cases u with
    | none => rfl
    | some _ => exact (show False from r).elim
  | some _ => cases u with
    | none => exact (show False from r).elim
    | some _ => rfl
theorem RelO.getD {o : Option V} {u : Option Value} {d : V} {d' : Value} (r : RelO o u) (rd : RelV d d') : RelV (o.getD d) (u.getD d') := by
  cases o with
  | none => cases u with
    | none => exact rd
    | some _ => exact (show False from r).elim
  | some _ => cases u with
    | none => exact (show False from r).elim
    | some _ => exact r

/-- raw tables of the same keys -/
theorem KV.val {kvs : List (κ × V)} {vs : List (κ × Value)} (r : KV kvs vs) (k : κ) : RelO (valV kvs k) (valueAt vs k) := by
  unfold KV at r
  induction r with
  | nil => exact True.intro
  | @cons p q ps qs h t ih =>
    obtain ⟨h1, h2⟩ := h
    by_cases e : p.1 = k
    · have e' : q.1 = k := h1.symm.trans e
      have b : valueAt (q :: qs) k = some q.2 := by simp [valueAt, List.find?_cons, e']
      rw [valV_pos e, b]; exact h2
    · have e' : ¬ q.1 = k := fun z => e (h1.trans z)
      have b : valueAt (q :: qs) k = valueAt qs k := by simp [valueAt, List.find?_cons, e']
      rw [valV_neg e, b]; exact ih
theorem KV.any {kvs : List (κ × V)} {vs : List (κ × Value)} (r : KV kvs vs) (k : κ) : (kvs.any fun kv => decide (kv.1 = k)) = vs.any fun kv => decide (kv.1 = k) := by
  unfold KV at r
  induction r with
  | nil => rfl
  | cons h t ih => rw [List.any_cons, List.any_cons, ih, h.1]
theorem KV.repl {kvs : List (κ × V)} {vs : List (κ × Value)} (r : KV kvs vs) (k : κ) {y : V} {u : Value} (ry : RelV y u) :
    KV (kvs.map fun kv => if kv.1 = k then (kv.1, y) else kv) (vs.map fun kv => if kv.1 = k then (kv.1, u) else kv) := by
  unfold KV at r ⊢
  induction r with
  | nil => exact .nil
  | @cons p q ps qs h t ih =>
    rw [List.map_cons, List.map_cons]
    refine .cons ?_ ih
    obtain ⟨h1, h2⟩ := h
    by_cases e : p.1 = k
    · rw [if_pos e, if_pos (h1.symm.trans e)]; exact ⟨h1, ry⟩
    · rw [if_neg e, if_neg (fun z => e (h1.trans z))]; exact ⟨h1, h2⟩
theorem KV.put {kvs : List (κ × V)} {vs : List (κ × Value)} (r : KV kvs vs) (k : κ) {y : V} {u : Value} (ry : RelV y u) : KV (putK kvs k y) (stored vs k u) := by
  unfold putK stored
  rw [r.any k]
  by_cases e : (vs.any fun kv => decide (kv.1 = k)) = true
  · rw [if_pos e, if_pos e]; exact r.repl k ry
  · rw [if_neg e, if_neg e]; exact Paired.snoc r ⟨rfl, ry⟩
theorem KV.drop {kvs : List (κ × V)} {vs : List (κ × Value)} (r : KV kvs vs) (k : κ) : KV (dropK kvs k) (without vs k) := by
  unfold KV at r ⊢
  unfold dropK without
  induction r with
  | nil => exact .nil
  | @cons p q ps qs h t ih =>
    obtain ⟨h1, h2⟩ := h
    rw [List.filter_cons, List.filter_cons]
    by_cases e : p.1 = k
    · have a : ¬ decide (p.1 ≠ k) = true := by simp [e]
      have b : ¬ decide (q.1 ≠ k) = true := by simp [h1.symm.trans e]
      rw [if_neg a, if_neg b]; exact ih
    · have e' : ¬ q.1 = k := fun z => e (h1.trans z)
      have a : decide (p.1 ≠ k) = true := by simp [e]
      have b : decide (q.1 ≠ k) = true := by simp [e']
      rw [if_pos a, if_pos b]; exact .cons ⟨h1, h2⟩ ih
theorem KV.keys {kvs : List (κ × V)} {vs : List (κ × Value)} (r : KV kvs vs) : kvs.map (·.1) = vs.map (·.1) := by
  unfold KV at r
  induction r with
  | nil => rfl
  | cons h t ih => rw [List.map_cons, List.map_cons, ih, h.1]
theorem KV.length {kvs : List (κ × V)} {vs : List (κ × Value)} (r : KV kvs vs) : kvs.length = vs.length := Paired.length r
end


/-- raw entries of a dict with tuple keys -/
abbrev KT (H : Hp) : List (List Key × V) → List (List Key × Addr × Value) → Prop := Paired fun p q => p.1 = q.1 ∧ H q.2.1 = some (.tup (p.1.map kV)) ∧ RelV p.2 q.2.2
theorem KT.val {H : Hp} {kvs : List (List Key × V)} {xs : List (List Key × Addr × Value)} (r : KT H kvs xs) (k : List Key) : RelO (valV kvs k) ((atKey xs k).map (·.2)) := by
  induction r with
  | nil => exact True.intro
  | @cons p q ps qs h t ih =>
    obtain ⟨h1, _, h2⟩ := h
    by_cases e : p.1 = k
    · have e' : q.1 = k := h1.symm.trans e
      have b : atKey (q :: qs) k = some q.2 := by simp [atKey, List.find?_cons, e']
      rw [valV_pos e, b]; exact h2
    · have e' : ¬ q.1 = k := fun z => e (h1.trans z)
      have b : atKey (q :: qs) k = atKey qs k := by simp [atKey, List.find?_cons, e']
      rw [valV_neg e, b]; exact ih
theorem KT.repl {H : Hp} {kvs : List (List Key × V)} {xs : List (List Key × Addr × Value)} (r : KT H kvs xs) (k : List Key) {y : V} {u : Value} (ry : RelV y u) :
    KT H (kvs.map fun kv => if kv.1 = k then (kv.1, y) else kv) (xs.map (putAt k u)) := by
  induction r with
  | nil => exact .nil
  | @cons p q ps qs h t ih =>
    rw [List.map_cons, List.map_cons]
    refine .cons ?_ ih
    obtain ⟨h1, h2, h3⟩ := h
    unfold putAt
    by_cases e : p.1 = k
    · rw [if_pos e, if_pos (h1.symm.trans e)]; exact ⟨h1, h2, ry⟩
    · rw [if_neg e, if_neg (fun z => e (h1.trans z))]; exact ⟨h1, h2, h3⟩
theorem KT.put {H : Hp} {kvs : List (List Key × V)} {xs : List (List Key × Addr × Value)} (r : KT H kvs xs) (k : List Key) {b : Addr} {y : V} {u : Value} (hb : H b = some (.tup (k.map kV))) (ry : RelV y u) :
    KT H (putK kvs k y) (storedH xs k b u) := by
  have e : (kvs.any fun kv => decide (kv.1 = k)) = (atKey xs k).isSome := by
    rw [valV_any, (r.val k).isSome_eq, Option.isSome_map]
  unfold putK storedH
  rw [e]
  by_cases q : (atKey xs k).isSome = true
  · rw [if_pos q, if_pos q]; exact r.repl k ry
  · rw [if_neg q, if_neg q]; exact Paired.snoc r ⟨rfl, hb, ry⟩
theorem KT.keeps {H H' : Hp} {kvs : List (List Key × V)} {xs : List (List Key × Addr × Value)} (r : KT H kvs xs) (ht : ∀ b ys, H b = some (.tup ys) → H' b = some (.tup ys)) : KT H' kvs xs :=
  Paired.mapP r fun _ _ z => ⟨z.1, ht _ _ z.2.1, z.2.2⟩

section
variable {P : Program} {w : World} {H : Hp} {h : Heap} {a : Addr}
end

/-- what the dict at a holds at the key y -/
def DGet (H : Hp) (a : Addr) (y : V) (r : Option V) : Prop :=
  (∃ kvs k, Rd H a (.dK kvs) ∧ y = kV k ∧ r = valV kvs k) ∨ ∃ kvs k b, Rd H a (.dT kvs) ∧ y = .ref b ∧ H b = some (.tup (k.map kV)) ∧ r = valV kvs k
/-- the heap behind a[y] = v -/
def DPut (H : Hp) (a : Addr) (y v : V) (H' : Hp) : Prop :=
  (∃ kvs k, H a = some (.dK kvs) ∧ y = kV k ∧ kvs.length < sizeLine ∧ H' = upd H a (.dK (putK kvs k v))) ∨
  ∃ kvs k b, H a = some (.dT kvs) ∧ y = .ref b ∧ H b = some (.tup (k.map kV)) ∧ kvs.length < sizeLine ∧ H' = upd H a (.dT (putK kvs k v))
theorem DGet.k {H : Hp} {a : Addr} {kvs : List (Key × V)} {k : Key} (e : H a = some (.dK kvs)) : DGet H a (kV k) (valV kvs k) := .inl ⟨kvs, k, .inl e, rfl, rfl⟩
theorem DGet.t {H : Hp} {a b : Addr} {kvs : List (List Key × V)} {k : List Key} (e : H a = some (.dT kvs)) (eb : H b = some (.tup (k.map kV))) : DGet H a (.ref b) (valV kvs k) := .inr ⟨kvs, k, b, .inl e, rfl, eb, rfl⟩
theorem DPut.k {H : Hp} {a : Addr} {kvs : List (Key × V)} {k : Key} {v : V} (e : H a = some (.dK kvs)) (hl : kvs.length < sizeLine) : DPut H a (kV k) v (upd H a (.dK (putK kvs k v))) := .inl ⟨kvs, k, e, rfl, hl, rfl⟩
theorem DPut.t {H : Hp} {a b : Addr} {kvs : List (List Key × V)} {k : List Key} {v : V} (e : H a = some (.dT kvs)) (eb : H b = some (.tup (k.map kV))) (hl : kvs.length < sizeLine) :
    DPut H a (.ref b) v (upd H a (.dT (putK kvs k v))) := .inr ⟨kvs, k, b, e, rfl, eb, hl, rfl⟩


section
variable {X : Cx} {pins : List (Addr × Obj)} {σ : St} {H : Hp} {s : Shared} {a : Addr} {y v : V} {u r : Value} {o : Option V} {A : Around} {E : Value → Shared → Prop}

end

section
variable {X : Cx} {pins : List (Addr × Obj)} {σ : St} {H : Hp} {s : Shared} {a : Addr} {kvs : List (Key × V)} {k : Key} {u : Value} {A : Around} {E : Value → Shared → Prop}
end


section
variable {X : Cx} {o i e value : Expr} {pos pos' tpos : Pos} {td ty tv : TE}
end


section
variable {X : Cx} {pos : Pos}
end

section
variable {X : Cx} {pins : List (Addr × Obj)} {σ : St} {H : Hp} {s : Shared} {a : Addr} {y d : V} {u r : Value} {o : Option V} {A : Around} {E : Value → Shared → Prop}
end

section
variable {X : Cx} {o e f : Expr} {apos cpos : Pos} {td ty tx : TE}
end

section
variable {X : Cx} {pins : List (Addr × Obj)} {σ : St} {H : Hp} {s : Shared} {a : Addr} {kvs : List (Key × V)} {A : Around} {E : Value → Shared → Prop}
end


section
variable {X : Cx} {pins : List (Addr × Obj)} {σ : St} {H : Hp} {s : Shared} {a : Addr} {y : V} {u : Value} {A : Around} {E : Value → Shared → Prop}
end
end L2

namespace L2
open PySem PySem.Spec PyProof.Rows

section
variable {prog : Program} {w : World} {A : Around} {E : Value → Shared → Prop}
end

section
variable {X : Cx}
end
end L2

namespace L2
open PySem PySem.Spec PyProof.Rows

section
variable {X : Cx} {pins : List (Addr × Obj)} {σ : St} {H : Hp} {s : Shared} {h' : Heap}
/-- .. and one new object is laid -/
theorem Inv.turnedNew {t' : Nat} {ch : List Addr} {T : Addr} {ob : HO} (I : Inv X pins σ H s) (k : ∀ b o, b ∉ ch → s.heap.get? b = some o → h'.get? b = some o) (hf : ∀ b ∈ ch, FpOk X pins H b) (hT : s.heap.objs.size ≤ T)
    (new : ObjOk X.prog X.w (upd H T ob) h' T ob) : Inv X pins σ (upd H T ob) { s with heap := h', toks := t' } := by
  have hn : H T = none := I.hok.fresh hT
  have nit : ∀ b u, H b = some u → b ∉ ch := fun b u e z => by
    have q := (hf b z).1
    rw [q] at e; cases e
  refine I.step (g' := s.gens) (d' := s.drawn) (ch := ch) (fun b hb => ⟨(hf b hb).2.2.2.1, (hf b hb).2.1, (hf b hb).2.2.2.2.1, (hf b hb).2.2.2.2.2⟩) (fun b o _ _ hc e _ => k b o hc e) (fun b o _ _ hc e _ => ⟨o.slots, k b o hc e⟩)
    (fun b o _ e n => ?_) (fun b o hc e => ⟨o, k b o hc e⟩) (fun b xs e => ?_) (fun b o u e => ?_) (fun b ps e => ⟨#[], ?_⟩) (fun m hm => ?_) (fun b u e => ?_) I.bare
  · rw [upd_ne (Nat.ne_of_lt (Nat.lt_of_lt_of_le (Heap.lt_size e) hT))]; exact n
  · rw [upd_ne (ne_of_none e hn)]; exact e
  · rw [upd_ne (ne_of_none e hn)]; exact e
  · rw [upd_ne (ne_of_none e hn), e]; simp
  · obtain ⟨o, es, ep, ho, r⟩ := hm
    exact ⟨o, es, ep, k _ o (fun z => (hf _ z).2.1 rfl) ho, r⟩
  · by_cases hb : b = T
    · subst hb
      rw [upd_same] at e
      cases e
      exact new
    · rw [upd_ne hb] at e
      refine (I.hok b u e).stay (fun c v hc q => k c v ?_ q) (fun c q => by rw [upd_ne (ne_of_none q hn)]; exact q) fun c xs q => by rw [upd_ne (ne_of_none q hn)]; exact q
      rcases hc with z | z
      · rw [z]; exact nit b u e
      · exact nit c _ z

end
section
variable {X : Cx}
end

section
variable {X : Cx} {tg : Expr}
end
section
variable {X : Cx} {tg : Expr}
end

section
variable {prog : Program} {w : World} {A : Around} {E : Value → Shared → Prop} {s : Shared}
end

section
variable {X : Cx} {pins : List (Addr × Obj)} {σ : St} {H : Hp} {s : Shared} {d : Addr} {o : Obj}
end

section
variable {P : Program} {w : World} {K : PySem.W.Frag} {tg : Expr} {d : Addr} {o : Obj} {es : Array DictEntry} {ep : Nat}
end

section
variable {X : Cx} {tg e : Expr} {td : TE} {apos cpos : Pos}
end

/-- the list at a as it stands at each turn, each item in a new pair -/
def Ite (K : PySem.W.Frag) (a : Addr) : It :=
  ⟨fun i H => ∃ (xs : List V) (x : V), SqL K H a xs ∧ xs[i]? = some x, fun i H v H' => ∃ T x, v = .ref T ∧ H T = none ∧ H' = upd H T (.tup [.int (i : Nat), x]) ∧ ∀ xs, SqL K H a xs → xs[i]? = some x, fun i H => ∃ xs : List V, SqL K H a xs ∧ xs.length ≤ i⟩
theorem turn_enum {P : Program} {w : World} {K : PySem.W.Frag} {elts : List Expr} {kk : Nat} {tpos : Pos} (a e it : Addr) :
    Turn P w K (.Tuple elts kk tpos) (Ite K a) [e, it] e (fun i h => (∃ old, IsEnum h e it ((i : Nat) : Int) old) ∧ h.IsListIter it a i ∧ e ≠ it) where
  mem := by simp
  obj := fun i h st b hb => by
    obtain ⟨⟨old, he⟩, ⟨o, ho, hc, hd⟩, _⟩ := st
    have e' : b = e ∨ b = it := by simpa using hb
    rcases e' with z | z
    · rw [z]; exact ⟨_, he, fun v q => nomatch q⟩
    · rw [z]; exact ⟨o, ho, fun v q => by rw [hd] at q; cases q⟩
  keep := fun i h h' st k => let ⟨⟨old, he⟩, hi, hne⟩ := st; ⟨⟨old, k e (by simp) _ he⟩, hi.at fun o q => k it (by simp) o q, hne⟩
  item := by
    intro X hP hw hK hc i pins s σ H E I hf st hg
    subst hP hw hK
    obtain ⟨⟨old, he⟩, hit, hne⟩ := st
    obtain ⟨xs, x, hq, hx⟩ := hg
    obtain ⟨its, rv, p, hz⟩ := I.list hq
    obtain ⟨u, hu, ru⟩ := rv.get hx
    have hel : e < s.heap.objs.size := Heap.lt_size he
    have hil : it < s.heap.objs.size := by obtain ⟨_, q, _⟩ := hit; exact Heap.lt_size q
    refine wpAny_pyNext_enum_item he hit p.isList (x := u) (by simpa using hu) hne fun h' ho hit' hT hsz hk => ?_
    refine ⟨_, rfl, wpAny_letOwnedTupleGo_enum (s := { s with heap := h', toks := s.toks + 1 }) ho fun h'' he' sb => ?_⟩
    have hT2 : h''.get? s.heap.objs.size = some { cls := .type "tuple", data := .seq #[.int i s.toks, u] } := (sb.2 _ (Nat.ne_of_gt hel)).trans hT
    have new : ObjOk X.prog X.w (upd H s.heap.objs.size (.tup [.int (i : Nat), x])) h'' s.heap.objs.size (.tup [.int (i : Nat), x]) :=
      ⟨by show 2 ≤ sizeLine; decide, [.int i s.toks, u], .cons ⟨_, rfl⟩ (.cons ru .nil), ⟨_, hT2, rfl, _, rfl⟩⟩
    have I1 : Inv X pins σ (upd H s.heap.objs.size (.tup [.int (i : Nat), x])) { s with heap := h'', toks := s.toks + 1 } :=
      I.turnedNew (ch := [e, it]) (fun b ob hb q => (sb.2 b (fun z => hb (by simp [z]))).trans (hk b ob (fun z => hb (by simp [z])) (fun z => hb (by simp [z])) q)) hf (Nat.le_refl _) new
    refine ⟨.ref s.heap.objs.size, _, I1, rfl, ⟨_, x, rfl, I.hok.fresh (Nat.le_refl _), rfl, fun ys hy => by rw [I.list_inj hy hq]; exact hx⟩, ⟨⟨u, ?_⟩, hit'.at fun o q => (sb.2 it (Ne.symm hne)).trans q, hne⟩, fun b hb => ?_⟩
    · have e1 : ((i + 1 : Nat) : Int) = (i : Int) + 1 := by omega
      rw [e1]; exact he'
    · have hb' : b < s.heap.objs.size := by
        have e' : b = e ∨ b = it := by simpa using hb
        rcases e' with z | z
        · rw [z]; exact hel
        · rw [z]; exact hil
      rw [upd_ne (Nat.ne_of_lt hb')]
      exact (hf b hb).1
  done := by
    intro X hP hw hK hc i pins s σ H E I hf st hg
    subst hP hw hK
    obtain ⟨⟨old, he⟩, hit, hne⟩ := st
    obtain ⟨xs, hq, hx⟩ := hg
    obtain ⟨its, rv, p, hz⟩ := I.list hq
    obtain ⟨f0, f1, f2, f3, f4, f5⟩ := hf it (by simp)
    have hl := rv.length
    exact wpAny_pyNext_enum_end (I.ok.hd hc) he hit p.isList (by simp; omega) fun h' eb => ⟨rfl, I.turned (t' := s.toks) (fun b o hb q => eb b o hb q) f0 f1 f3 f4 f5⟩
  self := fun A i s Q E st h => let ⟨⟨_, he⟩, _⟩ := st; wpAny_pyIter_enum he h
def iEnum (K : PySem.W.Frag) (ta : TA) : TI := fun σ H R => ta σ H fun vs H1 => ∃ a xs, vs = [.ref a] ∧ SqL K H1 a xs ∧ R (Ite K a) H1
theorem pi_enum {X : Cx} {e : Expr} {ta : TA} {p pos tpos : Pos} {elts : List Expr} {kk : Nat} (hg : Gl X "enumerate") (hm : X.mg "enumerate" = none) (ha : PA X [e] ta) (hs : starEach [e] X.env = [(false, eval e X.env)] := by rfl) :
    PI X (.Tuple elts kk tpos) (.Call (.Name "enumerate" p) [e] [] pos) (iEnum X.K ta) := by
  intro pins s σ H R I h
  refine Call_ (ld_blt I hg hm boot_enumerate (PyProof.Rows.callWith_type1 (thn (ha pos pins s σ H _ I h) fun us s1 ⟨vs, H1, I1, r1, q1⟩ => ?_) hs rfl))
  obtain ⟨a, xs, ex, hq, q⟩ := q1
  subst ex
  cases r1 with
  | cons r rr =>
    cases rr
    cases r
    obtain ⟨its, rv, p', hz⟩ := I1.list hq
    refine call_enumerate_list p'.isList fun h' he hit hsz hk => wpAny_pyIter_enum he ?_
    have I2 : Inv X pins σ H1 { s1 with heap := h' } := I1.kept (t' := s1.toks) hk
    refine ⟨s1.heap.objs.size + 1, [s1.heap.objs.size + 1, s1.heap.objs.size], _, _, H1, rfl, I2, turn_enum a (s1.heap.objs.size + 1) s1.heap.objs.size, ⟨⟨.none, he⟩, hit, Nat.succ_ne_self _⟩, fun b hb => ?_, q⟩
    have e' : b = s1.heap.objs.size + 1 ∨ b = s1.heap.objs.size := by simpa using hb
    have hle : s1.heap.objs.size ≤ b := by
      rcases e' with z | z
      · rw [z]; exact Nat.le_add_right _ _
      · rw [z]; exact Nat.le_refl _
    exact I1.fpOk hle (I1.hok.fresh hle)
end L2

section 
namespace Bits
open PySem PyProof.Rows

end Bits
end 

section 
namespace TL
open PySem PySem.Builtin PySem.Builtin.Str PySem.StrLaws

abbrev tl (x : Str) : List Nat := x.cps.toList
/-- S stands at the head of l -/
def pre (S l : List Nat) : Bool := l.take S.length == S
/-- what stands before the first S, and behind it -/
def par (S : List Nat) : List Nat → List Nat → Option (List Nat × List Nat)
  | _, [] => none
  | acc, c :: r => if pre S (c :: r) = true then some (acc, (c :: r).drop S.length) else par S (acc ++ [c]) r

end TL
end 

namespace L2
open PySem PySem.Spec PyProof.Rows

section
variable {X : Cx} {pins : List (Addr × Obj)} {σ : St} {H : Hp} {s : Shared} {Q : VK}
end

section
variable {X : Cx}

end

section
variable {X : Cx} {o e : Expr} {to te : TE}
end
end L2

namespace L2
open PySem PySem.Spec PyProof.Rows

section
variable {X : Cx}
end

theorem IsPart.raw {v : Value} {o : Option Int} (p : IsPart v o) : ∃ l : Option (Int × Tok), v = partValue l ∧ l.map (·.1) = o := by
  cases p with
  | none => exact ⟨none, rfl, rfl⟩
  | int i t => exact ⟨some (i, t), rfl, rfl⟩

end L2

namespace Att
open PySem PySem.W PySem.Calls PyProof.Rows

section
variable {prog : Program} {w : World} {A : Around} {E : Value → Shared → Prop} {s : Shared} {K : Frag}

end
end Att

namespace L2
open PySem PySem.Spec PyProof.Rows

end L2

namespace L2
open PySem PySem.Spec PyProof.Rows

end L2

namespace L2
open PySem PySem.Spec PyProof.Rows

/-- the j-th statement of a class's body -/
def inClass (s : Stmt) (j : Nat) : Stmt := match s with
  | .ClassDef _ _ _ body _ _ _ _ _ _ _ => body.getD j (.Pass ⟨0, 0, 0, 0⟩)
  | _ => .Pass ⟨0, 0, 0, 0⟩
def defArgs (s : Stmt) : Arguments := match s with
  | .FunctionDef _ a _ _ _ _ _ _ _ _ => a
  | _ => { posonlyargs := [], args := [], vararg := none, kwonlyargs := [], kw_defaults := [], kwarg := none, defaults := [] }
def defBody (s : Stmt) : List Stmt := match s with
  | .FunctionDef _ _ b _ _ _ _ _ _ _ => b
  | _ => []
def defScope (s : Stmt) : Scope := match s with
  | .FunctionDef _ _ _ _ _ _ sc _ _ _ => sc
  | _ => { kind := .function, names := [], isGenerator := false, isCoroutine := false }

abbrev CX0 : CXT := fun _ _ _ _ _ _ => False
abbrev E0 : XK := fun _ _ _ => False
theorem pass0 {X : Cx} : Passes CX0 X E0 := fun _ _ _ _ _ _ _ h => h.elim

structure Fun (K : PySem.W.Frag) (x qual : Str) (st : Stmt) (f : Addr) (fd : FuncData) : Prop where
  ex : ∃ (oc : Value) (od : Option Addr) (kV doc pm : Value) (an : Option Addr) (cdv ct : Value) (osl : Array (Option Value)),
    fd = PySem.W.fnOf x qual (defArgs st) (defBody st) (defScope st) .none kV doc pm an cdv ct ∧ K.lookup f = some ⟨oc, od, .func fd, osl⟩ ∧ PySem.W.codeIn K cdv qual = true
  kp : PySem.W.keepIn K (.ref f) = true
section
variable {P : Program} {w : World} {K : PySem.W.Frag} {mg : Str → Option Value} {base : Heap}
/-- THE RULE for a def: its body as a term of rules, and the reading of that term -/
theorem Fun.ok {x qual : Str} {st : Stmt} {f : Addr} {fd : FuncData} {N ps : List Str} {k : Nat} {sp : Sp} (F : Fun K x qual st f fd) (S : FnScope N ps (defScope st)) (len : ∀ vs H Q E, sp vs H Q E → vs.length = ps.length)
    (hbody : ∀ (cdv : Value) (A : Around) (outer : List Env) (s : Shared) (H : Hp) (vs : List V) (Q : VK) (E : XK), Room k (A.deeper (envOfC qual (defScope st) s.heap.objs.size f cdv)) → sp vs H Q E →
      ∃ t, PSs (cxOf CX0 P w K mg base N qual (defScope st) f cdv A outer s H E).nox (defBody st) t ∧ t { nx := fun _ H' => Q .non H', rt := Q } (start N vs) H) : FnOk P w K mg base CX0 (k + 1) f fd ps sp := by
  obtain ⟨oc, od, kV, doc, pm, an, cdv, ct, osl, rfl, lk, hcd⟩ := F.ex
  refine fn_of lk hcd S len fun A outer s H vs Q E hr hsp => ?_
  obtain ⟨t, h, q⟩ := hbody cdv A outer s H vs Q E hr hsp
  exact ⟨t, h.nox, q⟩
/-- how its arguments bind (no defaults): h is «fun _ _ _ _ _ _ us hl => match us, hl with | [_, _], _ => rfl», one _ a parameter -/
theorem Fun.binds {x qual : Str} {st : Stmt} {f : Addr} {fd : FuncData} {ps : List Str} (F : Fun K x qual st f fd)
    (h : ∀ (kV doc pm : Value) (an : Option Addr) (cdv ct : Value) (us : List Value), us.length = ps.length → bindArgs (PySem.W.fnOf x qual (defArgs st) (defBody st) (defScope st) .none kV doc pm an cdv ct) ⟨us, []⟩ = pure (ps.zip us)) : Binds K fd ps [] := by
  obtain ⟨oc, od, kV, doc, pm, an, cdv, ct, osl, rfl, lk, hcd⟩ := F.ex
  exact .all (h kV doc pm an cdv ct)
theorem fun_mk {x qual : Str} {st : Stmt} {f : Addr} {oc : Value} {od an : Option Addr} {osl : Array (Option Value)} {kV doc pm cdv ct : Value} (l : K.lookup f = some ⟨oc, od, .func (PySem.W.fnOf x qual (defArgs st) (defBody st) (defScope st) .none kV doc pm an cdv ct), osl⟩)
    (c : PySem.W.codeIn K cdv qual = true) (k : PySem.W.keepIn K (.ref f) = true) : Fun K x qual st f (PySem.W.fnOf x qual (defArgs st) (defBody st) (defScope st) .none kV doc pm an cdv ct) := ⟨⟨oc, od, kV, doc, pm, an, cdv, ct, osl, rfl, l, c⟩, k⟩
end
theorem small1000 {n : Nat} (h : n ≤ 1000) : n < sizeLine := Nat.lt_of_le_of_lt h (by decide)

section
variable {X : Cx}
theorem pv (i : Nat) {x : Str} {pos : Pos} (hN : X.N[i]? = some x := by rfl) (hv : Vis X.env.scope x := by first | exact Or.inl rfl | exact Or.inr (Or.inl rfl) | exact Or.inr (Or.inr rfl)) (hd : (x == ("__debug__" : Str)) = false := by decide)
    (hcd : (x == ("__classdict__" : Str)) = false := by decide) : PE X (.Name x pos) (tVar i) := pe_var hN hv hd hcd
end

theorem iteF {A B : Prop} (h : B) : if false = true then A else B := by
  rw [if_neg Bool.false_ne_true]
  exact h
theorem iteT {A B : Prop} (h : A) : if true = true then A else B := by
  rw [if_pos rfl]
  exact h
theorem ite2 {c A B : Prop} [Decidable c] (h1 : c → A) (h2 : ¬ c → B) : if c then A else B := by
  by_cases h : c
  · rw [if_pos h]
    exact h1 h
  · rw [if_neg h]
    exact h2 h
/-- all that was tracked is as it was -/
def Same (H H' : Hp) : Prop := ∀ b o, H b = some o → H' b = some o
theorem Same.refl (H : Hp) : Same H H := fun _ _ h => h
theorem Same.trans {H H1 H2 : Hp} (a : Same H H1) (b : Same H1 H2) : Same H H2 := fun c o h => b c o (a c o h)
theorem Same.free {H H' : Hp} (e : Same H H') {l : Addr} (h : H' l = Option.none) : H l = Option.none := by
  cases q : H l with
  | none => rfl
  | some o =>
    rw [e l o q] at h
    cases h
theorem Same.seq {K : PySem.W.Frag} {H H' : Hp} {a : Addr} {xs : List V} (e : Same H H') (h : SqL K H a xs) : SqL K H' a xs := by
  rcases h with (h | ⟨o, h⟩) | h
  · exact .inl (.inl (e _ _ h))
  · exact .inl (.inr ⟨o, e _ _ h⟩)
  · exact .inr h

section
variable {κ : Type} [DecidableEq κ]
end
theorem at_of {xs : List V} {z : Int} {j : Nat} {v : V} (e : z = (j : Int)) (h : xs[j]? = some v) : atI xs z = some v := by
  rw [e]
  exact atI_nat h
/-- a new instance and its __init__ leave all that was tracked as it was -/
theorem Same.made {H H1 : Hp} {x dx C : Addr} (nx : H x = Option.none) (nd : H dx = Option.none) (k : ∀ b o, (upd (upd H dx (.own x)) x (.ins C dx [])) b = some o → b ≠ x → H1 b = some o) : Same H H1 := fun b o e =>
  k b o (by rw [upd_ne (ne_of_none e nx), upd_ne (ne_of_none e nd)]; exact e) (ne_of_none e nx)
end L2

end
section
set_option Elab.async false
set_option linter.all false
set_option maxRecDepth 100000
set_option maxHeartbeats 2000000
namespace L2
open PySem PySem.Spec PyProof.Rows
open PySem.W (WData Codec OpenSpec Well WellAll ReadsW ReadsAllW)
mutual
/-- x stands for the datum d, lists and tuples all the way -/
inductive Dw (K : PySem.W.Frag) (H : Hp) : V → WData → Prop
  | non : Dw K H .non .none
  | bl (b : Bool) : Dw K H (.bl b) (.bool b)
  | int (i : Int) : Dw K H (.int i) (.int i)
  | str (x : Str) : Dw K H (.str x) (.str x)
  | byt (b : Array UInt8) : Dw K H (.byt b) (.bytes b.toList)
  | lst {a : Addr} {xs : List V} {ds : List WData} : SqL K H a xs → DwAll K H xs ds → Dw K H (.ref a) (.list ds)
  | tup {a : Addr} {xs : List V} {ds : List WData} : SqT K H a xs → DwAll K H xs ds → Dw K H (.ref a) (.tuple ds)
inductive DwAll (K : PySem.W.Frag) (H : Hp) : List V → List WData → Prop
  | nil : DwAll K H [] []
  | cons {v : V} {vs : List V} {d : WData} {ds : List WData} : Dw K H v d → DwAll K H vs ds → DwAll K H (v :: vs) (d :: ds)
end
theorem dw_ints {K : PySem.W.Frag} {H : Hp} : ∀ ns : List Int, DwAll K H (ns.map V.int) (ns.map WData.int)
  | [] => .nil
  | n :: r => .cons (.int n) (dw_ints r)
theorem ints_dw {K : PySem.W.Frag} {H : Hp} : ∀ (ns : List Int) (xs : List V), DwAll K H xs (ns.map WData.int) → xs = ns.map V.int
  | [], xs, h => by
    cases h
    rfl
  | n :: r, xs, h => by
    cases h with
    | cons h1 h2 =>
      cases h1
      rw [ints_dw r _ h2] <;> rfl
section
variable {P : Program} {w : World} {K : PySem.W.Frag} {H : Hp} {h : Heap} {R : PySem.W.WRecords} {cl : Str → Option Addr}
theorem sqL_at {a : Addr} {xs : List V} (hok : HOk P w H h) (KX : K.In h) (q : SqL K H a xs) : ∃ (its : List Value) (o : Obj) (n : Nat), Vals xs its ∧ h.get? a = some o ∧ o.cls = .type "list" ∧ o.data = .seq its.toArray n := by
  rcases q with q | ⟨o, its, n, e, hc, _, hd, _, hv⟩
  · obtain ⟨_, its, n, hv, e⟩ := (show ObjOk P w H h a (.lst xs) from q.ok hok)
    exact ⟨its, _, n, hv, e, rfl, rfl⟩
  · exact ⟨its.toList, o, n, hv, KX _ _ e, hc, by simp [hd]⟩
theorem sqT_at {a : Addr} {xs : List V} (hok : HOk P w H h) (KX : K.In h) (q : SqT K H a xs) : ∃ (its : List Value) (o : Obj) (n : Nat), Vals xs its ∧ h.get? a = some o ∧ o.cls = .type "tuple" ∧ o.data = .seq its.toArray n := by
  rcases q with q | ⟨o, its, n, e, hc, hd, _, hv⟩
  · obtain ⟨_, its, hv, o, e, hc, n, hd⟩ := (show ObjOk P w H h a (.tup xs) from q.ok hok)
    exact ⟨its, o, n, hv, e, hc, hd⟩
  · exact ⟨its.toList, o, n, hv, KX _ _ e, hc, by simp [hd]⟩
mutual
theorem Dw.reads (hok : HOk P w H h) (KX : K.In h) : ∀ (d : WData) (v : V) (u : Value), Dw K H v d → RelV v u → ∃ as, ReadsW R cl h u d as
  | .none, _, _, x, r => by
    cases x
    cases r
    exact ⟨_, ReadsW.none⟩
  | .bool b, _, _, x, r => by
    cases x
    cases r
    exact ⟨_, ReadsW.bool b⟩
  | .int i, _, _, x, r => by
    cases x
    obtain ⟨t, rfl⟩ := r
    exact ⟨_, ReadsW.int i t⟩
  | .str s, _, _, x, r => by
    cases x
    obtain ⟨t, rfl⟩ := r
    exact ⟨_, ReadsW.str s t⟩
  | .bytes b, _, _, x, r => by
    cases x
    obtain ⟨t, rfl⟩ := r
    exact ⟨_, ReadsW.bytes _ t⟩
  | .list ds, _, _, x, r => by
    cases x with
    | lst hs ha =>
      cases r
      obtain ⟨its, o, n, rv, ho, hc, hd⟩ := sqL_at hok KX hs
      obtain ⟨as, hr⟩ := Dw.readsAll hok KX ds _ its ha rv
      exact ⟨_, ReadsW.list ho hc hd hr⟩
  | .tuple ds, _, _, x, r => by
    cases x with
    | tup hs ha =>
      cases r
      obtain ⟨its, o, n, rv, ho, hc, hd⟩ := sqT_at hok KX hs
      obtain ⟨as, hr⟩ := Dw.readsAll hok KX ds _ its ha rv
      exact ⟨_, ReadsW.tuple ho hc hd hr⟩
  | .float _, _, _, x, _ => by cases x
  | .dict _, _, _, x, _ => by cases x
  | .bytearray _, _, _, x, _ => by cases x
  | .set _, _, _, x, _ => by cases x
  | .frozenset _, _, _, x, _ => by cases x
  | .obj _ _, _, _, x, _ => by cases x
theorem Dw.readsAll (hok : HOk P w H h) (KX : K.In h) : ∀ (ds : List WData) (vs : List V) (us : List Value), DwAll K H vs ds → Vals vs us → ∃ as, ReadsAllW R cl h us ds as
  | [], _, _, x, r => by
    cases x
    cases r
    exact ⟨_, ReadsAllW.nil⟩
  | d :: ds, _, _, x, r => by
    cases x with
    | cons h1 h2 =>
      cases r with
      | cons r1 r2 =>
        obtain ⟨as, q1⟩ := Dw.reads hok KX d _ _ h1 r1
        obtain ⟨bs, q2⟩ := Dw.readsAll hok KX ds _ _ h2 r2
        exact ⟨_, ReadsAllW.cons q1 q2⟩
end
end
mutual
/-- data that a codec tells -/
def plW : WData → Bool
  | .none => true
  | .bool _ => true
  | .int _ => true
  | .str _ => true
  | .bytes _ => true
  | .list xs => plWs xs
  | .tuple xs => plWs xs
  | _ => false
def plWs : List WData → Bool
  | [] => true
  | x :: r => plW x && plWs r
end
theorem plWs_map {α : Type} {f : α → WData} (h : ∀ a, plW (f a) = true) : ∀ l : List α, plWs (l.map f) = true
  | [] => rfl
  | x :: r => by
    show (plW (f x) && plWs (r.map f)) = true
    rw [h x, plWs_map h r] <;> rfl
theorem pl_enc : ∀ (c : Codec) (a : c.denote), plW (c.enc a) = true
  | .unit, _ => rfl
  | .bool, _ => rfl
  | .int _ _, _ => rfl
  | .nat _ _, _ => rfl
  | .u8, _ => rfl
  | .bytes _ _, _ => rfl
  | .text _ _ _ _, _ => rfl
  | .list _ _ c, a => plWs_map (fun x => pl_enc c x) a
  | .pair c d, a => by
    show (plW (c.enc a.1) && (plW (d.enc a.2) && true)) = true
    rw [pl_enc c a.1, pl_enc d a.2] <;> rfl
  | .triple c d e, a => by
    show (plW (c.enc a.1) && (plW (d.enc a.2.1) && (plW (e.enc a.2.2) && true))) = true
    rw [pl_enc c a.1, pl_enc d a.2.1, pl_enc e a.2.2] <;> rfl
  | .option c, none => rfl
  | .option c, some x => pl_enc c x
theorem pl_encAll : ∀ (cs : List Codec) (a : Codec.denoteAll cs), plWs (Codec.encAll cs a) = true
  | [], _ => rfl
  | c :: cs, a => by
    show (plW (c.enc a.1) && plWs (Codec.encAll cs a.2)) = true
    rw [pl_enc c a.1, pl_encAll cs a.2] <;> rfl
theorem weight_mem : ∀ {xs : List WData} {d : WData}, d ∈ xs → d.weight ≤ WData.weightAll xs
  | [], d, h => absurd h (by simp)
  | x :: r, d, h => by
    show d.weight ≤ x.weight + 1 + WData.weightAll r
    rcases List.mem_cons.mp h with e | m
    · rw [e]
      omega
    · have z := weight_mem m
      omega
def toV : Value → V
  | .none => .non
  | .bool b => .bl b
  | .int i _ => .int i
  | .str x _ => .str x
  | .bytes b _ => .byt b
  | .ref a => .ref a
  | _ => .non
/-- a value of the arguments, its objects among A -/
def OkU (A : List Addr) : Value → Prop
  | .none => True
  | .bool _ => True
  | .int _ _ => True
  | .str _ _ => True
  | .bytes _ _ => True
  | .ref a => a ∈ A
  | _ => False
theorem OkU.mono {A B : List Addr} (h : ∀ a ∈ A, a ∈ B) : ∀ {u : Value}, OkU A u → OkU B u := fun {u} x => by
  cases u with
  | ref a => exact h a x
  | none => trivial
  | bool b => trivial
  | int i t => trivial
  | str s t => trivial
  | bytes b t => trivial
  | _ => exact False.elim x
theorem relV_toV {A : List Addr} {u : Value} (x : OkU A u) : RelV (toV u) u := by
  cases u with
  | ref a => rfl
  | none => rfl
  | bool b => rfl
  | int i t => exact ⟨t, rfl⟩
  | str s t => exact ⟨t, rfl⟩
  | bytes b t => exact ⟨t, rfl⟩
  | _ => exact False.elim x
theorem vals_toV {A : List Addr} : ∀ {vs : List Value}, (∀ u ∈ vs, OkU A u) → Vals (vs.map toV) vs
  | [], _ => .nil
  | u :: r, h => .cons (relV_toV (h u (List.mem_cons_self ..))) (vals_toV fun x hx => h x (List.mem_cons_of_mem _ hx))
/-- an object of the arguments -/
def ArgOb (h : Heap) (A : List Addr) (a : Addr) : Prop := ∃ vs : List Value, vs.length ≤ sizeLine ∧ (∀ u ∈ vs, OkU A u) ∧
  (h.get? a = some { cls := .type "list", data := .seq vs.toArray } ∨ h.get? a = some { cls := .type "tuple", data := .seq vs.toArray })
theorem ArgOb.mono {h : Heap} {A B : List Addr} {a : Addr} (k : ∀ a ∈ A, a ∈ B) (x : ArgOb h A a) : ArgOb h B a := by
  obtain ⟨vs, h1, h2, h3⟩ := x
  exact ⟨vs, h1, fun u hu => (h2 u hu).mono k, h3⟩
theorem wellAll_len {P : Params} {h : Heap} : ∀ {vs : List Value} {ds : List WData}, WellAll P h vs ds → vs.length = ds.length
  | _, _, .nil => rfl
  | _, _, .cons _ b => by
    show _ + 1 = _ + 1
    rw [wellAll_len b]
theorem well_list {P : Params} {h : Heap} {v : Value} {ds : List WData} (x : Well P h v (.list ds)) : ∃ (a : Addr) (vs : List Value), v = .ref a ∧ h.get? a = some { cls := .type "list", data := .seq vs.toArray } ∧ WellAll P h vs ds := by
  cases x with
  | list ho hall => exact ⟨_, _, rfl, ho, hall⟩
theorem well_tuple {P : Params} {h : Heap} {v : Value} {ds : List WData} (x : Well P h v (.tuple ds)) : ∃ (a : Addr) (vs : List Value), v = .ref a ∧ h.get? a = some { cls := .type "tuple", data := .seq vs.toArray } ∧ WellAll P h vs ds := by
  cases x with
  | tuple ho hall => exact ⟨_, _, rfl, ho, hall⟩
theorem well_cons {P : Params} {h : Heap} {us : List Value} {d : WData} {ds : List WData} (x : WellAll P h us (d :: ds)) : ∃ (v : Value) (vs : List Value), us = v :: vs ∧ Well P h v d ∧ WellAll P h vs ds := by
  cases x with
  | cons a b => exact ⟨_, _, rfl, a, b⟩
theorem line_of {n : Nat} (h : n ≤ 1048576) : n ≤ sizeLine := Nat.le_trans h (by decide)
section
variable {P : Params} {h : Heap}
mutual
theorem area_one : ∀ (d : WData) (v : Value), Well P h v d → plW d = true → d.weight ≤ 1048576 → ∃ A : List Addr, OkU A v ∧ ∀ a ∈ A, ArgOb h A a
  | .none, _, x, _, _ => by
    cases x
    exact ⟨[], trivial, fun a m => absurd m (by simp)⟩
  | .bool b, _, x, _, _ => by
    cases x
    exact ⟨[], trivial, fun a m => absurd m (by simp)⟩
  | .int i, _, x, _, _ => by
    cases x
    exact ⟨[], trivial, fun a m => absurd m (by simp)⟩
  | .str s, _, x, _, _ => by
    cases x
    exact ⟨[], trivial, fun a m => absurd m (by simp)⟩
  | .bytes b, _, x, _, _ => by
    cases x
    exact ⟨[], trivial, fun a m => absurd m (by simp)⟩
  | .list ds, _, x, p, z => by
    obtain ⟨a, vs, rfl, ho, hall⟩ := well_list x
    have z2 : WData.weightAll ds ≤ 1048576 := z
    obtain ⟨A, h1, h2⟩ := area_all ds _ hall p fun d hd => Nat.le_trans (weight_mem hd) z2
    have k : ∀ b ∈ A, b ∈ a :: A := fun b hb => List.mem_cons_of_mem _ hb
    refine ⟨a :: A, List.mem_cons_self .., fun b hb => ?_⟩
    rcases List.mem_cons.mp hb with e | m
    · rw [e]
      exact ⟨vs, line_of (by rw [wellAll_len hall]; exact Nat.le_trans (PySem.W.length_le_weightAllW ds) z2), fun u hu => (h1 u hu).mono k, .inl ho⟩
    · exact (h2 b m).mono k
  | .tuple ds, _, x, p, z => by
    obtain ⟨a, vs, rfl, ho, hall⟩ := well_tuple x
    have z2 : WData.weightAll ds ≤ 1048576 := z
    obtain ⟨A, h1, h2⟩ := area_all ds _ hall p fun d hd => Nat.le_trans (weight_mem hd) z2
    have k : ∀ b ∈ A, b ∈ a :: A := fun b hb => List.mem_cons_of_mem _ hb
    refine ⟨a :: A, List.mem_cons_self .., fun b hb => ?_⟩
    rcases List.mem_cons.mp hb with e | m
    · rw [e]
      exact ⟨vs, line_of (by rw [wellAll_len hall]; exact Nat.le_trans (PySem.W.length_le_weightAllW ds) z2), fun u hu => (h1 u hu).mono k, .inr ho⟩
    · exact (h2 b m).mono k
  | .float _, _, _, p, _ => Bool.noConfusion (show false = true from p)
  | .dict _, _, _, p, _ => Bool.noConfusion (show false = true from p)
  | .bytearray _, _, _, p, _ => Bool.noConfusion (show false = true from p)
  | .set _, _, _, p, _ => Bool.noConfusion (show false = true from p)
  | .frozenset _, _, _, p, _ => Bool.noConfusion (show false = true from p)
  | .obj _ _, _, _, p, _ => Bool.noConfusion (show false = true from p)
theorem area_all : ∀ (ds : List WData) (vs : List Value), WellAll P h vs ds → plWs ds = true → (∀ d ∈ ds, d.weight ≤ 1048576) → ∃ A : List Addr, (∀ u ∈ vs, OkU A u) ∧ ∀ a ∈ A, ArgOb h A a
  | [], _, x, _, _ => by
    cases x
    exact ⟨[], fun u m => absurd m (by simp), fun a m => absurd m (by simp)⟩
  | d :: ds, _, x, p, z => by
    obtain ⟨v, vs, rfl, x1, x2⟩ := well_cons x
    have q : plW d = true ∧ plWs ds = true := Bool.and_eq_true_iff.mp p
    obtain ⟨A, a1, a2⟩ := area_one d v x1 q.1 (z d (List.mem_cons_self ..))
    obtain ⟨B, b1, b2⟩ := area_all ds vs x2 q.2 fun e he => z e (List.mem_cons_of_mem _ he)
    have kA : ∀ b ∈ A, b ∈ A ++ B := fun b hb => List.mem_append.mpr (.inl hb)
    have kB : ∀ b ∈ B, b ∈ A ++ B := fun b hb => List.mem_append.mpr (.inr hb)
    refine ⟨A ++ B, fun u hu => ?_, fun b hb => ?_⟩
    · rcases List.mem_cons.mp hu with e | m
      · rw [e]
        exact a1.mono kA
      · exact (b1 u m).mono kB
    · rcases List.mem_append.mp hb with m | m
      · exact (a2 b m).mono kA
      · exact (b2 b m).mono kB
end
end
/-- what is tracked of an argument's object -/
def hoOf (o : Obj) : Option HO := match o.data with
  | .seq vs _ => if (o.cls == Value.type "list") = true then some (.frz o (.lst (vs.toList.map toV))) else some (.frz o (.tup (vs.toList.map toV)))
  | _ => none
def argH (K : PySem.W.Frag) (h : Heap) (A : List Addr) : Hp := fun b => if b ∈ A then (if (K.lookup b).isNone = true then (h.get? b).bind hoOf else none) else none
/-- nothing is tracked but what is known to the object -/
def OnlyF (H : Hp) : Prop := ∀ b, H b = none ∨ ∃ o u, H b = some (.frz o u)
theorem hoOf_lst (vs : List Value) : hoOf { cls := .type "list", data := .seq vs.toArray } = some (.frz { cls := .type "list", data := .seq vs.toArray } (.lst (vs.map toV))) := by
  show (if (Value.type "list" == Value.type "list") = true then some (HO.frz { cls := .type "list", data := .seq vs.toArray } (.lst (vs.toArray.toList.map toV))) else some (HO.frz { cls := .type "list", data := .seq vs.toArray } (.tup (vs.toArray.toList.map toV)))) = _
  rw [if_pos (beq_self_eq_true _)]
theorem hoOf_tup (vs : List Value) : hoOf { cls := .type "tuple", data := .seq vs.toArray } = some (.frz { cls := .type "tuple", data := .seq vs.toArray } (.tup (vs.map toV))) := by
  show (if (Value.type "tuple" == Value.type "list") = true then some (HO.frz { cls := .type "tuple", data := .seq vs.toArray } (.lst (vs.toArray.toList.map toV))) else some (HO.frz { cls := .type "tuple", data := .seq vs.toArray } (.tup (vs.toArray.toList.map toV)))) = _
  rw [if_neg (by decide)]
section
variable {P : Program} {w : World} {K : PySem.W.Frag} {h : Heap} {A : List Addr}
theorem argH_at {b : Addr} {o : Obj} (hb : b ∈ A) (hk : K.lookup b = none) (e : h.get? b = some o) : argH K h A b = hoOf o := by
  unfold argH
  rw [if_pos hb, hk, if_pos (show (none : Option Obj).isNone = true from rfl), e] <;> rfl
theorem of_argH {b : Addr} {u : HO} (q : argH K h A b = some u) : b ∈ A ∧ K.lookup b = none := by
  unfold argH at q
  by_cases hb : b ∈ A
  · rw [if_pos hb] at q
    cases hk : K.lookup b with
    | none => exact ⟨hb, rfl⟩
    | some o =>
      rw [hk, if_neg (by simp)] at q
      cases q
  · rw [if_neg hb] at q
    cases q
/-- what stands tracked -/
theorem argH_is (ar : ∀ a ∈ A, ArgOb h A a) {b : Addr} {u : HO} (q : argH K h A b = some u) : K.lookup b = none ∧ ∃ vs : List Value, vs.length ≤ sizeLine ∧ (∀ u ∈ vs, OkU A u) ∧
    ((h.get? b = some { cls := .type "list", data := .seq vs.toArray } ∧ u = .frz { cls := .type "list", data := .seq vs.toArray } (.lst (vs.map toV))) ∨
     (h.get? b = some { cls := .type "tuple", data := .seq vs.toArray } ∧ u = .frz { cls := .type "tuple", data := .seq vs.toArray } (.tup (vs.map toV)))) := by
  obtain ⟨hb, hk⟩ := of_argH q
  obtain ⟨vs, h1, h2, h3⟩ := ar b hb
  refine ⟨hk, vs, h1, h2, ?_⟩
  rcases h3 with e | e
  · rw [argH_at hb hk e, hoOf_lst] at q
    exact .inl ⟨e, (Option.some.inj q).symm⟩
  · rw [argH_at hb hk e, hoOf_tup] at q
    exact .inr ⟨e, (Option.some.inj q).symm⟩
theorem argH_only (ar : ∀ a ∈ A, ArgOb h A a) : OnlyF (argH K h A) := fun b => by
  cases q : argH K h A b with
  | none => exact .inl rfl
  | some u =>
    obtain ⟨_, vs, _, _, ⟨_, e⟩ | ⟨_, e⟩⟩ := argH_is ar q
    · exact .inr ⟨_, _, by rw [e]⟩
    · exact .inr ⟨_, _, by rw [e]⟩
theorem argH_ok (ar : ∀ a ∈ A, ArgOb h A a) : HOk P w (argH K h A) h := fun b u q => by
  obtain ⟨_, vs, h1, h2, ⟨e, rfl⟩ | ⟨e, rfl⟩⟩ := argH_is ar q
  · exact ⟨e, by rw [List.length_map]; exact h1, vs, _, vals_toV h2, e⟩
  · exact ⟨e, by rw [List.length_map]; exact h1, vs, vals_toV h2, _, e, rfl, _, rfl⟩
theorem seq_inj {c c' : Value} {vs us : List Value} (e : (some { cls := c, data := .seq vs.toArray } : Option Obj) = some { cls := c', data := .seq us.toArray }) : c = c' ∧ vs = us := by
  have e1 := Option.some.inj e
  have e2 : c = c' := congrArg Obj.cls e1
  have e3 : Data.seq vs.toArray = Data.seq us.toArray := congrArg Obj.data e1
  injection e3 with e4
  refine ⟨e2, ?_⟩
  have e5 := congrArg Array.toList e4
  simpa using e5
/-- a list argument -/
theorem argL (KX : K.In h) (ar : ∀ a ∈ A, ArgOb h A a) {a : Addr} {vs : List Value} (ha : a ∈ A) (e : h.get? a = some { cls := .type "list", data := .seq vs.toArray }) : (∀ u ∈ vs, OkU A u) ∧ SqL K (argH K h A) a (vs.map toV) := by
  obtain ⟨us, h1, h2, h3⟩ := ar a ha
  have hu : us = vs := by
    rcases h3 with q | q
    · rw [e] at q
      exact (seq_inj q).2.symm
    · rw [e] at q
      exact absurd (Value.type.inj (seq_inj q).1) (by decide)
  subst hu
  refine ⟨h2, ?_⟩
  cases hk : K.lookup a with
  | none => exact .inl (.inr ⟨_, by rw [argH_at ha hk e, hoOf_lst]⟩)
  | some o =>
    have e2 := KX a o hk
    rw [e] at e2
    obtain rfl := Option.some.inj e2
    exact .inr ⟨_, us.toArray, _, hk, rfl, rfl, rfl, by rw [List.size_toArray]; exact h1, by simpa using vals_toV h2⟩
theorem argT (KX : K.In h) (ar : ∀ a ∈ A, ArgOb h A a) {a : Addr} {vs : List Value} (ha : a ∈ A) (e : h.get? a = some { cls := .type "tuple", data := .seq vs.toArray }) : (∀ u ∈ vs, OkU A u) ∧ SqT K (argH K h A) a (vs.map toV) := by
  obtain ⟨us, h1, h2, h3⟩ := ar a ha
  have hu : us = vs := by
    rcases h3 with q | q
    · rw [e] at q
      exact absurd (Value.type.inj (seq_inj q).1) (by decide)
    · rw [e] at q
      exact (seq_inj q).2.symm
  subst hu
  refine ⟨h2, ?_⟩
  cases hk : K.lookup a with
  | none => exact .inl (.inr ⟨_, by rw [argH_at ha hk e, hoOf_tup]⟩)
  | some o =>
    have e2 := KX a o hk
    rw [e] at e2
    obtain rfl := Option.some.inj e2
    exact .inr ⟨_, us.toArray, _, hk, rfl, rfl, by rw [List.size_toArray]; exact h1, by simpa using vals_toV h2⟩
mutual
theorem dw_one {Pm : Params} (KX : K.In h) (ar : ∀ a ∈ A, ArgOb h A a) : ∀ (d : WData) (v : Value), Well Pm h v d → plW d = true → OkU A v → Dw K (argH K h A) (toV v) d
  | .none, _, x, _, _ => by
    cases x
    exact .non
  | .bool b, _, x, _, _ => by
    cases x
    exact .bl b
  | .int i, _, x, _, _ => by
    cases x
    exact .int i
  | .str s, _, x, _, _ => by
    cases x
    exact .str s
  | .bytes b, _, x, _, _ => by
    cases x
    have z := Dw.byt (K := K) (H := argH K h A) b.toArray
    exact z
  | .list ds, _, x, p, hu => by
    obtain ⟨a, vs, rfl, ho, hall⟩ := well_list x
    obtain ⟨h2, hs⟩ := argL KX ar hu ho
    exact .lst hs (dw_all KX ar ds _ hall p h2)
  | .tuple ds, _, x, p, hu => by
    obtain ⟨a, vs, rfl, ho, hall⟩ := well_tuple x
    obtain ⟨h2, hs⟩ := argT KX ar hu ho
    exact .tup hs (dw_all KX ar ds _ hall p h2)
  | .float _, _, _, p, _ => Bool.noConfusion (show false = true from p)
  | .dict _, _, _, p, _ => Bool.noConfusion (show false = true from p)
  | .bytearray _, _, _, p, _ => Bool.noConfusion (show false = true from p)
  | .set _, _, _, p, _ => Bool.noConfusion (show false = true from p)
  | .frozenset _, _, _, p, _ => Bool.noConfusion (show false = true from p)
  | .obj _ _, _, _, p, _ => Bool.noConfusion (show false = true from p)
theorem dw_all {Pm : Params} (KX : K.In h) (ar : ∀ a ∈ A, ArgOb h A a) : ∀ (ds : List WData) (vs : List Value), WellAll Pm h vs ds → plWs ds = true → (∀ u ∈ vs, OkU A u) → DwAll K (argH K h A) (vs.map toV) ds
  | [], _, x, _, _ => by
    cases x
    exact .nil
  | d :: ds, _, x, p, hu => by
    obtain ⟨v, vs, rfl, x1, x2⟩ := well_cons x
    have q : plW d = true ∧ plWs ds = true := Bool.and_eq_true_iff.mp p
    exact .cons (dw_one KX ar d v x1 q.1 (hu _ (List.mem_cons_self ..))) (dw_all KX ar ds vs x2 q.2 fun u m => hu u (List.mem_cons_of_mem _ m))
end
end
theorem spec_call {P : Program} {w : World} {K : PySem.W.Frag} {mg mb : Str → Option Value} {CX : CXT} {k : Nat} {fa : Addr} {fd : FuncData} {ps : List Str} {sp : Sp} {s₁ : Shared} {vals : List Value} {ds : List WData} {R : PySem.W.WRecords} {cl : Str → Option Addr} {d0 : WData}
    (KX : K.In s₁.heap) (hns : s₁.heap.Ns mainGlobals mg) (hb : s₁.heap.Ns builtinsNs mb) (hbb : ∀ x : Str, x ≠ "__name__" → mb x = bootBuiltins x) (hlim : s₁.heap.NoLimit) (hg : s₁.gens = #[])
    (hwl : WellAll w.params s₁.heap vals ds) (hpl : plWs ds = true) (hwt : ∀ d ∈ ds, d.weight ≤ 1048576) (hr : Room k callerA)
    (F : ∀ base : Heap, K.In base → base.Ns mainGlobals mg → FnOk P w K mg base CX k fa fd ps sp) (hbind : ∀ (s : Shared) (us : List Value), us.length = ps.length → BindsTo s fd ⟨us, []⟩ (ps.zip us)) (hlen : ds.length = ps.length)
    (hsp : ∀ (H : Hp) (xs : List V), OnlyF H → DwAll K H xs ds → sp xs H (fun v H' => Dw K H' v d0) fun _ _ _ => False)
    (hCX : ∀ H e s', CX [] H s₁ (fun _ _ _ => False) e s' → False) :
    codeAny (model P w) callerA (.call (.ref fa) ⟨vals, []⟩) (fun r s' => ∃ u as, r = .ok (.ret u) ∧ ReadsW R cl s'.heap u d0 as ∧ OldK s₁.heap s'.heap ∧ s'.os = s₁.os ∧ AllBare s'.gens) s₁ := by
  obtain ⟨A, ho, ar⟩ := area_all ds vals hwl hpl hwt
  have hO : OnlyF (argH K s₁.heap A) := argH_only ar
  have hok : HOk P w (argH K s₁.heap A) s₁.heap := argH_ok ar
  have hS := dw_all KX ar ds vals hwl hpl ho
  have hV := vals_toV ho
  have hK : ∀ b u, argH K s₁.heap A b = some u → K.lookup b = none := fun b u q => (argH_is ar q).1
  have noA : ∀ {b : Addr} {o : Obj} {es : Array DictEntry} {ep : Nat}, s₁.heap.get? b = some o → o.data = .dict es ep → argH K s₁.heap A b = none := fun {b o es ep} e d => by
    cases q : argH K s₁.heap A b with
    | none => rfl
    | some u =>
      obtain ⟨_, vs, _, _, ⟨e2, _⟩ | ⟨e2, _⟩⟩ := argH_is ar q
      · rw [e2] at e
        cases e
        have d' : Data.seq vs.toArray _ = Data.dict es ep := d
        cases d'
      · rw [e2] at e
        cases e
        have d' : Data.seq vs.toArray _ = Data.dict es ep := d
        cases d'
  generalize argH K s₁.heap A = H at hO hok hS hK noA
  have base_of : ∀ {b : Addr} {o : Obj}, s₁.heap.get? b = some o → H b = none → (hidT s₁.heap H).get? b = some o := fun e n => hidT_get e n
  have nsK : ∀ {b : Addr} {m : Str → Option Value}, s₁.heap.Ns b m → (hidT s₁.heap H).Ns b m := fun {b m} ⟨o, es, ep, e, d, r⟩ => ⟨o, es, ep, base_of e (noA e d), d, r⟩
  have nK : ∀ b o, K.lookup b = some o → H b = none := fun b o e => by
    cases q : H b with
    | none => rfl
    | some u =>
      rw [hK b u q] at e
      cases e
  have hKb : K.In (hidT s₁.heap H) := fun b o e => base_of (KX b o e) (nK b o e)
  have hM : Mod K mg (hidT s₁.heap H) := ⟨hKb, nsK hns, ⟨mb, nsK hb, hbb⟩, let ⟨mc, h1, h2⟩ := hlim; ⟨mc, nsK h1, h2⟩⟩
  have e0 : Env0 P w K mg (hidT s₁.heap H) callerA [] s₁ H := ⟨rfl, hM, fun b o e => of_hidT e, Nat.le_of_eq (hidT_size _ _), trivial, fun b hb => absurd (show b ∈ ([] : List Addr) from hb) (by simp), hok, .of_eq hg⟩
  have hl : vals.length = ps.length := by rw [wellAll_len hwl]; exact hlen
  refine codeAny_mono ((F _ hKb (nsK hns)).run callerA [] s₁ H ⟨vals, []⟩ vals (vals.map toV) _ _ hr e0 (hbind s₁ vals hl) hV (hsp H _ hO hS)) fun r s' x => ?_
  cases r with
  | error e => exact (hCX H e s' x).elim
  | ok fl =>
    cases fl with
    | next => exact False.elim x
    | brk => exact False.elim x
    | cont => exact False.elim x
    | ret u =>
      obtain ⟨v, H', os, bare, un, hok', r', q⟩ := x
      have kept : ∀ b o, s₁.heap.get? b = some o → s'.heap.get? b = some o := fun b o e => by
        cases q2 : H b with
        | none => exact un.keep b o e q2 (by intro z; exact absurd (show b ∈ ([] : List Addr) from z) (by simp)) (by simp)
        | some u2 =>
          rcases hO b with z | ⟨ob, u3, z⟩
          · rw [q2] at z
            cases z
          · have z2 := un.frzs b ob _ z
            obtain ⟨e1, _⟩ := hok b _ z
            obtain ⟨e2, _⟩ := hok' b _ z2
            rw [e] at e1
            cases e1
            exact e2
      have KX' : K.In s'.heap := fun b o e => kept b o (KX b o e)
      obtain ⟨as, hrd⟩ := Dw.reads (R := R) (cl := cl) hok' KX' d0 v u q r'
      exact ⟨u, as, rfl, hrd, OldK.of_keep kept, os, bare⟩
theorem layable_weight {ds : List WData} (h : WData.layableAll ds = true) : ∀ d ∈ ds, d.weight ≤ 1048576 := fun d hd =>
  (PySem.W.layableW_iff.mp (List.all_eq_true.mp h d hd)).2.2
theorem encAll_len : ∀ (cs : List Codec) (a : Codec.denoteAll cs), (Codec.encAll cs a).length = cs.length
  | [], _ => rfl
  | c :: cs, a => by
    show (Codec.encAll cs a.2).length + 1 = cs.length + 1
    rw [encAll_len cs a.2]
/-- the goal that k_headS leaves (case hc), from the promise of the row's def: whatever the arguments that the codecs let and the row asks for, the def gives what stands for enc (f ..) -/
theorem walk_spec {r : OpenSpec} {k : Nat} {q : Program} {loose : List Str} {XP : (Str → Option Value) → Heap → Prop} {YP : World → Heap → Prop} {d : DefRec} {K : Params → PySem.W.Frag} {CX : World → CXT} {ps : List Str} {sp : World → Sp}
    (hwell : r.wellSaid = true) (hdf : d.params.defaults = []) (hlen : r.args.length = ps.length) (hr : Room k callerA)
    (hY : ∀ (w : World) (h : Heap), YP w h → (K w.params).In h)
    (F : ∀ (w : World) (mg : Str → Option Value) (fa : Addr) (h : Heap), YP w h → (K w.params).In h → h.Ns mainGlobals mg → mg d.name = some (.ref fa) →
      ∃ fd : FuncData, (∀ (s : Shared) (us : List Value), us.length = ps.length → BindsTo s fd ⟨us, []⟩ (ps.zip us)) ∧
        ∀ base : Heap, (K w.params).In base → base.Ns mainGlobals mg → FnOk r.prog w (K w.params) mg base (CX w) k fa fd ps (sp w))
    (hsp : ∀ (w : World) (H : Hp) (xs : List V) (a : Codec.denoteAll r.args), OnlyF H → Codec.withinAll r.args a = true → Codec.app r.args r.asked a = true → DwAll (K w.params) H xs (Codec.encAll r.args a) →
      sp w xs H (fun v H' => Dw (K w.params) H' v (r.ret.enc (Codec.app r.args r.f a))) fun _ _ _ => False)
    (hCX : ∀ (w : World) (H : Hp) (s : Shared) (e : Value) (s' : Shared), CX w [] H s (fun _ _ _ => False) e s' → False) :
    PySem.W.WalkOS q loose XP YP r d [] (fun f vs => PySem.call f vs) := by
  intro w s_0 s₁ mg mb G Y fa o pm cd doc dV kV ho hd hcd hD hmg hg args vals as hpre hlay hrd hwl hlo
  obtain ⟨a, e1, e2⟩ := PySem.W.os_pre_some hpre
  obtain ⟨e3, hwi⟩ := Codec.encAll_of_decAll r.args args a e1
  subst e3
  have KX := hY w _ Y
  obtain ⟨fd, hb, hF⟩ := F w mg fa _ Y KX G.T.g hmg
  refine PySem.W.enter_call (codeAny_mono (spec_call (R := []) (cl := classAt s_0.heap) (d0 := r.ret.enc (Codec.app r.args r.f a)) KX G.T.g G.T.b G.T.builtins G.T.nolimit hg hwl (pl_encAll _ _) (layable_weight hlay) hr hF hb (by rw [encAll_len]; exact hlen)
    (fun H xs hO hS => hsp w H xs a hO hwi e2 hS) fun H e s' => hCX w H s₁ e s') fun r' s' hq => ?_)
  obtain ⟨u, as', rfl, h1, h2, h3, h4⟩ := hq
  exact ⟨.inl ⟨u, _, as', rfl, fun _ => rfl, h1, (OpenSpec.post_iff hwell hwi _ _).mpr rfl, fun z => Bool.noConfusion (show false = true from z)⟩, h2, h3, h4⟩
/-- the same where the promise hangs on the written part alone -/
theorem walk_specK {r : OpenSpec} {k : Nat} {q : Program} {loose : List Str} {XP : (Str → Option Value) → Heap → Prop} {YP : World → Heap → Prop} {d : DefRec} {K : Params → PySem.W.Frag} {CX : CXT} {ps : List Str} {sp : PySem.W.Frag → Sp}
    (hwell : r.wellSaid = true) (hdf : d.params.defaults = []) (hlen : r.args.length = ps.length) (hr : Room k callerA)
    (hY : ∀ (w : World) (h : Heap), YP w h → (K w.params).In h)
    (F : ∀ (w : World) (mg : Str → Option Value) (fa : Addr) (h : Heap), YP w h → (K w.params).In h → h.Ns mainGlobals mg → mg d.name = some (.ref fa) →
      ∃ fd : FuncData, (∀ (s : Shared) (us : List Value), us.length = ps.length → BindsTo s fd ⟨us, []⟩ (ps.zip us)) ∧
        ∀ base : Heap, (K w.params).In base → base.Ns mainGlobals mg → FnOk r.prog w (K w.params) mg base CX k fa fd ps (sp (K w.params)))
    (hsp : ∀ (K : PySem.W.Frag) (H : Hp) (xs : List V) (a : Codec.denoteAll r.args), OnlyF H → Codec.withinAll r.args a = true → Codec.app r.args r.asked a = true → DwAll K H xs (Codec.encAll r.args a) →
      sp K xs H (fun v H' => Dw K H' v (r.ret.enc (Codec.app r.args r.f a))) fun _ _ _ => False)
    (hCX : ∀ (H : Hp) (s : Shared) (e : Value) (s' : Shared), CX [] H s (fun _ _ _ => False) e s' → False) :
    PySem.W.WalkOS q loose XP YP r d [] (fun f vs => PySem.call f vs) :=
  walk_spec (K := K) (CX := fun _ => CX) (sp := fun w => sp (K w.params)) hwell hdf hlen hr hY F (fun w H xs a h1 h2 h3 h4 => hsp (K w.params) H xs a h1 h2 h3 h4) fun _ H s e s' => hCX H s e s'
end L2
-- rests on (row put in by the clerk, for the bench that shows a file only what it spells): KE.SpHead KE.OsShapes
end

section
set_option linter.all false
namespace SL
open Km445 (Area Craft Plan Sea)
/-! ### the specification's parts by area and craft alone -/
def cov (r : Area) (cs : List Craft) (b : Bool) (t : Nat) : Nat := Km445.sum (cs.map fun c => c.legs (r.long b) (r.across b) t * c.strip)
def soon (r : Area) (cs : List Craft) (b : Bool) : Option Nat := (List.range (Km445.LATEST + 1)).find? fun t => decide (r.across b ≤ cov r cs b t)
def plan (r : Area) (cs : List Craft) : Option Plan := Sea.planned ⟨r, cs, none, 0⟩
def bef (cs : List Craft) (p : Plan) (k : Nat) : Nat := Km445.sum ((List.range k).map fun i => p.legs.getD i 0 * (cs.getD i ⟨1, 0, 0⟩).strip)
def okA (r : Area) : Prop := 1 ≤ r.wide ∧ r.wide ≤ 500 ∧ 1 ≤ r.high ∧ r.high ≤ 500
def okC (c : Craft) : Prop := 1 ≤ c.speed ∧ c.speed ≤ 500 ∧ c.see ≤ 200 ∧ 1 ≤ c.hours ∧ c.hours ≤ 100
theorem strip_pos (c : Craft) : 0 < c.strip := by unfold Craft.strip; omega
theorem strip_le {c : Craft} (h : okC c) : c.strip ≤ 401 := by unfold Craft.strip; have := h.2.2.1; omega
theorem long_pos {r : Area} (h : okA r) (b : Bool) : 1 ≤ r.long b ∧ r.long b ≤ 500 := by
  unfold Area.long; obtain ⟨h1, h2, h3, h4⟩ := h; cases b <;> simp <;> omega
theorem across_pos {r : Area} (h : okA r) (b : Bool) : 2 ≤ r.across b ∧ r.across b ≤ 501 := by
  unfold Area.across; obtain ⟨h1, h2, h3, h4⟩ := h; cases b <;> simp <;> omega
/-! ### sums -/
theorem foldl_add (l : List Nat) (x : Nat) : l.foldl (· + ·) x = x + l.foldl (· + ·) 0 := by
  induction l generalizing x with
  | nil => simp
  | cons a l ih => rw [List.foldl_cons, List.foldl_cons, ih, ih (0 + a)]; omega
theorem sum_nil : Km445.sum [] = 0 := rfl
theorem sum_cons (x : Nat) (l : List Nat) : Km445.sum (x :: l) = x + Km445.sum l := by
  unfold Km445.sum; rw [List.foldl_cons, foldl_add]; omega
theorem sum_append (l m : List Nat) : Km445.sum (l ++ m) = Km445.sum l + Km445.sum m := by
  induction l with
  | nil => rw [List.nil_append, sum_nil]; omega
  | cons a l ih => rw [List.cons_append, sum_cons, sum_cons, ih]; omega
theorem sum_int (l : List Nat) : ((l.map fun (n : Nat) => (n : Int)).sum) = ((Km445.sum l : Nat) : Int) := by
  induction l with
  | nil => rfl
  | cons a l ih => rw [List.map_cons, List.sum_cons, sum_cons, ih]; omega
/-! ### legs in so many hours -/
theorem far_le (c : Craft) (long R i : Nat) (hL : 0 < long + c.strip) : c.far long i ≤ R ↔ i ≤ (R + c.strip) / (long + c.strip) := by
  rw [Nat.le_div_iff_mul_le hL]
  unfold Craft.far
  cases i with
  | zero => simp
  | succ k =>
    rw [if_neg (by omega)]
    have e : (k + 1) * (long + c.strip) = (k + 1) * long + (k + 1 - 1) * c.strip + c.strip := by
      rw [Nat.mul_add, Nat.add_sub_cancel, Nat.succ_mul k c.strip]; omega
    omega
theorem legs_eq (c : Craft) (long across t : Nat) : c.legs long across t = min ((c.speed * min t c.hours + c.strip) / (long + c.strip)) across := by
  have hL : 0 < long + c.strip := by have := strip_pos c; omega
  unfold Craft.legs
  induction across with
  | zero => simp
  | succ n ih =>
    rw [List.range_succ, List.foldl_append, ih, List.foldl_cons, List.foldl_nil]
    by_cases h : c.far long (n + 1) ≤ c.speed * min t c.hours
    · rw [if_pos h]
      have := (far_le c long _ (n + 1) hL).mp h
      omega
    · rw [if_neg h]
      have : ¬ (n + 1 ≤ (c.speed * min t c.hours + c.strip) / (long + c.strip)) := fun q => h ((far_le c long _ (n + 1) hL).mpr q)
      omega
theorem legs_le (c : Craft) (long across t : Nat) : c.legs long across t ≤ across := by rw [legs_eq]; omega
theorem legs_mono (c : Craft) (long across : Nat) {t u : Nat} (h : t ≤ u) : c.legs long across t ≤ c.legs long across u := by
  rw [legs_eq, legs_eq]
  have h1 : c.speed * min t c.hours ≤ c.speed * min u c.hours := Nat.mul_le_mul_left _ (by omega)
  have h2 : (c.speed * min t c.hours + c.strip) / (long + c.strip) ≤ (c.speed * min u c.hours + c.strip) / (long + c.strip) := Nat.div_le_div_right (by omega)
  omega
theorem cov_mono (r : Area) (cs : List Craft) (b : Bool) {t u : Nat} (h : t ≤ u) : cov r cs b t ≤ cov r cs b u := by
  unfold cov
  induction cs with
  | nil => simp
  | cons c cs ih =>
    rw [List.map_cons, List.map_cons, sum_cons, sum_cons]
    have := Nat.mul_le_mul_right c.strip (legs_mono c (r.long b) (r.across b) h)
    omega
theorem legs_zero {c : Craft} {long : Nat} (across : Nat) (hl : 1 ≤ long) : c.legs long across 0 = 0 := by
  rw [legs_eq]
  have e : (c.speed * min 0 c.hours + c.strip) / (long + c.strip) = 0 := by
    rw [Nat.zero_min, Nat.mul_zero, Nat.zero_add]
    exact Nat.div_eq_of_lt (by omega)
  rw [e]; omega
theorem cov_zero {r : Area} (cs : List Craft) (b : Bool) (h : okA r) : cov r cs b 0 = 0 := by
  unfold cov
  induction cs with
  | nil => rfl
  | cons c cs ih =>
    rw [List.map_cons, sum_cons, ih, legs_zero _ (long_pos h b).1]; simp
theorem cov_le {r : Area} {cs : List Craft} (b : Bool) (t : Nat) (h : okA r) (hc : ∀ c ∈ cs, okC c) : cov r cs b t ≤ cs.length * 200901 := by
  unfold cov
  induction cs with
  | nil => simp [sum_nil]
  | cons c cs ih =>
    rw [List.map_cons, sum_cons, List.length_cons, Nat.succ_mul]
    have i1 := ih (fun c hc' => hc c (List.mem_cons_of_mem _ hc'))
    have i2 : c.legs (r.long b) (r.across b) t * c.strip ≤ 501 * 401 := Nat.mul_le_mul (Nat.le_trans (legs_le _ _ _ _) (across_pos h b).2) (strip_le (hc c List.mem_cons_self))
    omega
/-! ### the least hours -/
theorem find_range {p : Nat → Bool} {n t : Nat} (ht : t < n) (hp : p t = true) (hl : ∀ s, s < t → p s = false) : (List.range n).find? p = some t := by
  induction n with
  | zero => omega
  | succ n ih =>
    rw [List.range_succ, List.find?_append]
    by_cases h : t < n
    · rw [ih h]; rfl
    · have e : t = n := by omega
      subst e
      have : (List.range t).find? p = none := by
        rw [List.find?_eq_none]
        intro s hs
        rw [hl s (List.mem_range.mp hs)]; simp
      rw [this, List.find?_cons, hp]; rfl
theorem soon_some {r : Area} {cs : List Craft} {b : Bool} {t : Nat} (h1 : t ≤ 100) (h2 : r.across b ≤ cov r cs b t) (h3 : 0 < t → ¬ r.across b ≤ cov r cs b (t - 1)) : soon r cs b = some t := by
  refine find_range (by unfold Km445.LATEST; omega) (decide_eq_true h2) fun s hs => decide_eq_false fun q => h3 (by omega) (Nat.le_trans q (cov_mono r cs b (by omega)))
theorem soon_none {r : Area} {cs : List Craft} {b : Bool} (h : ¬ r.across b ≤ cov r cs b 100) : soon r cs b = none := by
  unfold soon
  rw [List.find?_eq_none]
  intro s hs q
  have hs' : s < 101 := List.mem_range.mp hs
  exact h (Nat.le_trans (of_decide_eq_true q) (cov_mono r cs b (by omega)))
theorem soon_is {r : Area} {cs : List Craft} {b : Bool} {t : Nat} (h : soon r cs b = some t) : t ≤ 100 ∧ r.across b ≤ cov r cs b t := by
  unfold soon at h
  refine ⟨?_, ?_⟩
  · have := List.mem_of_find?_eq_some h
    have := List.mem_range.mp this
    unfold Km445.LATEST at this; omega
  · have q : (fun t => decide (r.across b ≤ cov r cs b t)) t = true := List.find?_some (p := fun t => decide (r.across b ≤ cov r cs b t)) h
    exact of_decide_eq_true q
/-! ### the plan -/
def go (r : Area) (cs : List Craft) (b : Bool) (t : Nat) : Plan := ⟨b, Km445.share (r.long b) (r.across b) t (r.across b) cs, t⟩
theorem plan_eq (r : Area) (cs : List Craft) : plan r cs = match soon r cs true, soon r cs false with
  | some t, some u => some (if t ≤ u then go r cs true t else go r cs false u)
  | some t, none => some (go r cs true t)
  | none, some u => some (go r cs false u)
  | none, none => none := rfl
theorem share_length (long across t : Nat) : ∀ (left : Nat) (cs : List Craft), (Km445.share long across t left cs).length = cs.length
  | _, [] => rfl
  | left, c :: cs => by rw [Km445.share]; simp [share_length long across t _ cs]
theorem share_le (long across t : Nat) : ∀ (left : Nat) (cs : List Craft), ∀ m ∈ Km445.share long across t left cs, m ≤ across
  | _, [] => by intro m hm; simp [Km445.share] at hm
  | left, c :: cs => by
    intro m hm
    rw [Km445.share] at hm
    rcases List.mem_cons.mp hm with rfl | hm
    · have := legs_le c long across t; omega
    · exact share_le long across t _ cs m hm
theorem plan_is {r : Area} {cs : List Craft} {p : Plan} (h : plan r cs = some p) : ∃ b t, p = go r cs b t ∧ soon r cs b = some t := by
  rw [plan_eq] at h
  cases e1 : soon r cs true with
  | none =>
    cases e2 : soon r cs false with
    | none => rw [e1, e2] at h; simp at h
    | some u => rw [e1, e2] at h; simp at h; exact ⟨false, u, h.symm, e2⟩
  | some t =>
    cases e2 : soon r cs false with
    | none => rw [e1, e2] at h; simp at h; exact ⟨true, t, h.symm, e1⟩
    | some u =>
      rw [e1, e2] at h; simp at h
      by_cases q : t ≤ u
      · rw [if_pos q] at h; exact ⟨true, t, h.symm, e1⟩
      · rw [if_neg q] at h; exact ⟨false, u, h.symm, e2⟩
theorem bef_succ (cs : List Craft) (p : Plan) (k : Nat) : bef cs p (k + 1) = bef cs p k + p.legs.getD k 0 * (cs.getD k ⟨1, 0, 0⟩).strip := by
  unfold bef
  rw [List.range_succ, List.map_append, sum_append, List.map_cons, List.map_nil, sum_cons, sum_nil]; omega
theorem cov_take {r : Area} {cs : List Craft} {c : Craft} {b : Bool} {t i : Nat} (h : cs[i]? = some c) : cov r (cs.take (i + 1)) b t = cov r (cs.take i) b t + c.legs (r.long b) (r.across b) t * c.strip := by
  obtain ⟨hi, e⟩ := List.getElem?_eq_some_iff.mp h
  unfold cov
  rw [List.take_succ, h, Option.toList_some, List.map_append, sum_append, List.map_cons, List.map_nil, sum_cons, sum_nil]; omega
end SL

end
section
set_option linter.all false
namespace SL
open Km445 (Area Craft Plan Sea Desk)
open Km445Neutral (step may asked1)
/-- how many numbers stand behind each call's number -/
def sizes : List Nat := [4, 3, 4, 1, 0, 1, 2, 0, 2, 0, 1, 2, 1, 2, 2, 3, 1, 0, 0, 0, 0, 0]
theorem shape_is {p : Int} {n k : Nat} (h : PyKm445.shape p = some (n, k)) : k = 0 ∧ ∃ j : Nat, p = (j : Int) ∧ sizes[j]? = some n ∧ j < 22 := by
  unfold PyKm445.shape at h
  by_cases e0 : p = 0
  · rw [if_pos e0] at h; cases h; exact ⟨rfl, 0, e0, rfl, by decide⟩
  rw [if_neg e0] at h
  by_cases e1 : p = 1
  · rw [if_pos e1] at h; cases h; exact ⟨rfl, 1, e1, rfl, by decide⟩
  rw [if_neg e1] at h
  by_cases e2 : p = 2
  · rw [if_pos e2] at h; cases h; exact ⟨rfl, 2, e2, rfl, by decide⟩
  rw [if_neg e2] at h
  by_cases e3 : p = 3
  · rw [if_pos e3] at h; cases h; exact ⟨rfl, 3, e3, rfl, by decide⟩
  rw [if_neg e3] at h
  by_cases e4 : p = 4
  · rw [if_pos e4] at h; cases h; exact ⟨rfl, 4, e4, rfl, by decide⟩
  rw [if_neg e4] at h
  by_cases e5 : p = 5
  · rw [if_pos e5] at h; cases h; exact ⟨rfl, 5, e5, rfl, by decide⟩
  rw [if_neg e5] at h
  by_cases e6 : p = 6
  · rw [if_pos e6] at h; cases h; exact ⟨rfl, 6, e6, rfl, by decide⟩
  rw [if_neg e6] at h
  by_cases e7 : p = 7
  · rw [if_pos e7] at h; cases h; exact ⟨rfl, 7, e7, rfl, by decide⟩
  rw [if_neg e7] at h
  by_cases e8 : p = 8
  · rw [if_pos e8] at h; cases h; exact ⟨rfl, 8, e8, rfl, by decide⟩
  rw [if_neg e8] at h
  by_cases e9 : p = 9
  · rw [if_pos e9] at h; cases h; exact ⟨rfl, 9, e9, rfl, by decide⟩
  rw [if_neg e9] at h
  by_cases e10 : p = 10
  · rw [if_pos e10] at h; cases h; exact ⟨rfl, 10, e10, rfl, by decide⟩
  rw [if_neg e10] at h
  by_cases e11 : p = 11
  · rw [if_pos e11] at h; cases h; exact ⟨rfl, 11, e11, rfl, by decide⟩
  rw [if_neg e11] at h
  by_cases e12 : p = 12
  · rw [if_pos e12] at h; cases h; exact ⟨rfl, 12, e12, rfl, by decide⟩
  rw [if_neg e12] at h
  by_cases e13 : p = 13
  · rw [if_pos e13] at h; cases h; exact ⟨rfl, 13, e13, rfl, by decide⟩
  rw [if_neg e13] at h
  by_cases e14 : p = 14
  · rw [if_pos e14] at h; cases h; exact ⟨rfl, 14, e14, rfl, by decide⟩
  rw [if_neg e14] at h
  by_cases e15 : p = 15
  · rw [if_pos e15] at h; cases h; exact ⟨rfl, 15, e15, rfl, by decide⟩
  rw [if_neg e15] at h
  by_cases e16 : p = 16
  · rw [if_pos e16] at h; cases h; exact ⟨rfl, 16, e16, rfl, by decide⟩
  rw [if_neg e16] at h
  by_cases e17 : p = 17
  · rw [if_pos e17] at h; cases h; exact ⟨rfl, 17, e17, rfl, by decide⟩
  rw [if_neg e17] at h
  by_cases e18 : p = 18
  · rw [if_pos e18] at h; cases h; exact ⟨rfl, 18, e18, rfl, by decide⟩
  rw [if_neg e18] at h
  by_cases e19 : p = 19
  · rw [if_pos e19] at h; cases h; exact ⟨rfl, 19, e19, rfl, by decide⟩
  rw [if_neg e19] at h
  by_cases e20 : p = 20
  · rw [if_pos e20] at h; cases h; exact ⟨rfl, 20, e20, rfl, by decide⟩
  rw [if_neg e20] at h
  by_cases e21 : p = 21
  · rw [if_pos e21] at h; cases h; exact ⟨rfl, 21, e21, rfl, by decide⟩
  rw [if_neg e21] at h
  cases h
theorem call_is {p : Int} {r : List Int} {c : List (List Int)} {t : List Int} (h : PyFlat.call PyKm445.shape (p :: r) = some (c, t)) :
    ∃ n j : Nat, p = (j : Int) ∧ sizes[j]? = some n ∧ j < 22 ∧ n ≤ r.length ∧ c = [p :: r.take n] ∧ t = r.drop n := by
  unfold PyFlat.call at h
  dsimp only at h
  cases e : PyKm445.shape p with
  | none => rw [e] at h; cases h
  | some x =>
    obtain ⟨n, k⟩ := x
    rw [e] at h
    obtain ⟨rfl, j, hj, hs, hl⟩ := shape_is e
    dsimp only at h
    by_cases q : r.length < n
    · rw [if_pos q] at h; cases h
    · rw [if_neg q, PyFlat.rows] at h
      cases h
      exact ⟨n, j, hj, hs, hl, by omega, rfl, rfl⟩
theorem calls_cons {f : Nat} {p : Int} {r : List Int} {cs : List (List (List Int))} (h : PyFlat.calls PyKm445.shape f (p :: r) = some cs) :
    ∃ n j f' cs', p = ((j : Nat) : Int) ∧ sizes[j]? = some n ∧ j < 22 ∧ n ≤ r.length ∧ cs = [p :: r.take n] :: cs' ∧ PyFlat.calls PyKm445.shape f' (r.drop n) = some cs' := by
  cases f with
  | zero => rw [PyFlat.calls] at h; cases h
  | succ f =>
    rw [PyFlat.calls] at h
    cases e : PyFlat.call PyKm445.shape (p :: r) with
    | none => rw [e] at h; cases h
    | some x =>
      obtain ⟨c, t⟩ := x
      rw [e] at h
      obtain ⟨n, j, h1, h2, h3, h4, rfl, rfl⟩ := call_is e
      dsimp only at h
      cases e2 : PyFlat.calls PyKm445.shape f (r.drop n) with
      | none => rw [e2] at h; cases h
      | some cs' => rw [e2] at h; cases h; exact ⟨n, j, f, cs', h1, h2, h3, h4, rfl, e2⟩
theorem calls_nil {f : Nat} {cs : List (List (List Int))} (h : PyFlat.calls PyKm445.shape f [] = some cs) : cs = [] := by
  cases f <;> (rw [PyFlat.calls] at h; cases h; rfl)
/-- a call as it is read: whole -/
theorem whole_of {j n : Nat} {l : List Int} (h : sizes[j]? = some n) (hl : l.length = n) (hj : j < 22) : PyKm445.whole [(j : Int) :: l] = [(j : Int) :: l] := by
  match j, hj, h with
  | 0, _, h =>
    obtain rfl : 4 = n := Option.some.inj h
    match l, hl with
    | [_, _, _, _], _ => rfl
  | 1, _, h =>
    obtain rfl : 3 = n := Option.some.inj h
    match l, hl with
    | [_, _, _], _ => rfl
  | 2, _, h =>
    obtain rfl : 4 = n := Option.some.inj h
    match l, hl with
    | [_, _, _, _], _ => rfl
  | 3, _, h =>
    obtain rfl : 1 = n := Option.some.inj h
    match l, hl with
    | [_], _ => rfl
  | 4, _, h =>
    obtain rfl : 0 = n := Option.some.inj h
    match l, hl with
    | [], _ => rfl
  | 5, _, h =>
    obtain rfl : 1 = n := Option.some.inj h
    match l, hl with
    | [_], _ => rfl
  | 6, _, h =>
    obtain rfl : 2 = n := Option.some.inj h
    match l, hl with
    | [_, _], _ => rfl
  | 7, _, h =>
    obtain rfl : 0 = n := Option.some.inj h
    match l, hl with
    | [], _ => rfl
  | 8, _, h =>
    obtain rfl : 2 = n := Option.some.inj h
    match l, hl with
    | [_, _], _ => rfl
  | 9, _, h =>
    obtain rfl : 0 = n := Option.some.inj h
    match l, hl with
    | [], _ => rfl
  | 10, _, h =>
    obtain rfl : 1 = n := Option.some.inj h
    match l, hl with
    | [_], _ => rfl
  | 11, _, h =>
    obtain rfl : 2 = n := Option.some.inj h
    match l, hl with
    | [_, _], _ => rfl
  | 12, _, h =>
    obtain rfl : 1 = n := Option.some.inj h
    match l, hl with
    | [_], _ => rfl
  | 13, _, h =>
    obtain rfl : 2 = n := Option.some.inj h
    match l, hl with
    | [_, _], _ => rfl
  | 14, _, h =>
    obtain rfl : 2 = n := Option.some.inj h
    match l, hl with
    | [_, _], _ => rfl
  | 15, _, h =>
    obtain rfl : 3 = n := Option.some.inj h
    match l, hl with
    | [_, _, _], _ => rfl
  | 16, _, h =>
    obtain rfl : 1 = n := Option.some.inj h
    match l, hl with
    | [_], _ => rfl
  | 17, _, h =>
    obtain rfl : 0 = n := Option.some.inj h
    match l, hl with
    | [], _ => rfl
  | 18, _, h =>
    obtain rfl : 0 = n := Option.some.inj h
    match l, hl with
    | [], _ => rfl
  | 19, _, h =>
    obtain rfl : 0 = n := Option.some.inj h
    match l, hl with
    | [], _ => rfl
  | 20, _, h =>
    obtain rfl : 0 = n := Option.some.inj h
    match l, hl with
    | [], _ => rfl
  | 21, _, h =>
    obtain rfl : 0 = n := Option.some.inj h
    match l, hl with
    | [], _ => rfl
theorem map_whole : ∀ (k : Nat) {ns : List Int} {f : Nat} {cs : List (List (List Int))}, ns.length ≤ k → PyFlat.calls PyKm445.shape f ns = some cs → cs.map PyKm445.whole = cs
  | _, [], _, _, _, h => by rw [calls_nil h]; rfl
  | 0, _ :: _, _, _, hk, _ => absurd hk (by simp)
  | k + 1, p :: r, f, cs, hk, h => by
    obtain ⟨n, j, f', cs', h1, h2, h3, h4, rfl, h5⟩ := calls_cons h
    have hr : (r.drop n).length ≤ k := by rw [List.length_drop]; simp at hk; omega
    rw [List.map_cons, map_whole k hr h5, h1, whole_of h2 (by rw [List.length_take]; omega) h3]
/-- what is asked of the request, in parts -/
theorem asked_is {ns : List Int} (h : PyKm445.answers_asked ns = true) : ∃ cs, PyFlat.calls PyKm445.shape ns.length ns = some cs ∧ cs.all asked1 = true ∧ may Km445Neutral.start cs = true ∧
    PyKm445.answers ns = PyFlat.told (PyFlat.played step Km445Neutral.start cs) ∧ (PyKm445.answers ns).length ≤ 10000000 := by
  unfold PyKm445.answers_asked at h
  cases e : PyFlat.calls PyKm445.shape ns.length ns with
  | none => rw [e] at h; cases h
  | some cs =>
    rw [e] at h
    dsimp only at h
    rw [map_whole _ (Nat.le_refl _) e] at h
    simp only [Bool.and_eq_true] at h
    obtain ⟨⟨⟨⟨h1, h2⟩, h3⟩, h4⟩, h5⟩ := h
    unfold Km445Neutral.asked at h4
    simp only [Bool.and_eq_true] at h4
    refine ⟨cs, rfl, h4.2.2.1, h4.2.2.2, ?_, ?_⟩
    · unfold PyKm445.answers PyKm445.calls
      rw [e]
      dsimp only
      rw [map_whole _ (Nat.le_refl _) e]
    · unfold PyFlat.short at h5
      exact of_decide_eq_true h5
theorem told_cons (x : List Int) (l : List (List Int)) : PyFlat.told (x :: l) = ((x.length : Int) :: x) ++ PyFlat.told l := rfl
theorem played_cons (s : Km445Neutral.S) (c : List (List Int)) (cs : List (List (List Int))) : PyFlat.played step s (c :: cs) = (step s c).2 :: PyFlat.played step (step s c).1 cs := rfl
theorem may_cons {s : Km445Neutral.S} {c : List (List Int)} {cs : List (List (List Int))} (h : may s (c :: cs) = true) : (step s c).2 ≠ [] ∧ may (step s c).1 cs = true := by
  rw [may, Bool.and_eq_true] at h
  refine ⟨fun e => ?_, h.2⟩
  rw [e] at h; simp at h
end SL

end
section
set_option linter.all false
namespace SL
open Km445 (Area Craft Plan Sea Desk Call act)
/-! ### what holds of a search, at any time -/
structure SeaOk (s : Sea) : Prop where
  area : okA s.area
  craft : ∀ c ∈ s.craft, okC c
  len : s.craft.length ≤ 4
  plan : ∀ p, s.plan = some p → plan s.area s.craft = some p
  time : ∀ p, s.plan = some p → s.time ≤ p.hours
  t0 : s.plan = none → s.time = 0
structure DeskOk (d : Desk) : Prop where
  now : SeaOk d.now
  past : ∀ s ∈ d.past, SeaOk s
  future : ∀ s ∈ d.future, SeaOk s
  len : d.past.length + d.future.length ≤ 20
theorem okArea_is {x y : Int} {w h : Nat} (e : Km445.okArea x y w h = true) : 1 ≤ w ∧ w ≤ 500 ∧ 1 ≤ h ∧ h ≤ 500 := by
  unfold Km445.okArea Km445.SIDE at e
  simp only [Bool.and_eq_true, decide_eq_true_eq] at e
  omega
theorem opened_ok {x y : Int} {w h : Nat} (e : Km445.okArea x y w h = true) : SeaOk (Km445.opened x y w h) where
  area := okArea_is e
  craft := by intro c hc; cases hc
  len := by show 0 ≤ 4; omega
  plan := by intro p hp; cases hp
  time := by intro p hp; cases hp
  t0 := fun _ => rfl
theorem become_ok {d : Desk} {s : Sea} (h : DeskOk d) (hs : SeaOk s) : DeskOk (d.become s) where
  now := hs
  past := by
    intro q hq
    have := List.mem_of_mem_take hq
    rcases List.mem_cons.mp this with rfl | h'
    · exact h.now
    · exact h.past q h'
  future := by intro q hq; cases hq
  len := by
    show ((d.now :: d.past).take 20).length + 0 ≤ 20
    rw [List.length_take]; omega
theorem eraseIdx_sub {α : Type} {l : List α} {k : Nat} {x : α} (h : x ∈ l.eraseIdx k) : x ∈ l := List.mem_of_mem_eraseIdx h
theorem planned_eq (s : Sea) : s.planned = plan s.area s.craft := rfl
theorem start_ok {d : Desk} {x y : Int} {w h : Nat} (hd : DeskOk d) : DeskOk (act d (.start x y w h)).1 := by
  unfold act; dsimp only
  by_cases e : Km445.okArea x y w h = false
  · rw [if_pos e]; exact hd
  · rw [if_neg e]
    exact ⟨opened_ok (by simpa using e), (by intro s hs; cases hs), (by intro s hs; cases hs), by show 0 + 0 ≤ 20; omega⟩
theorem act_ok {d : Desk} (hd : DeskOk d) (c : Call) : DeskOk (act d c).1 := by
  have hn := hd.now
  cases c with
  | start x y w h => exact start_ok hd
  | craft v e t =>
    unfold act; dsimp only
    split
    · exact hd
    · split
      · exact hd
      · split
        · exact hd
        · rename_i h1 h2 h3
          have hp : d.now.plan = none := by cases q : d.now.plan with | none => rfl | some p => rw [q] at h3; simp at h3
          refine become_ok hd ⟨hn.area, ?_, ?_, ?_, ?_, fun _ => hn.t0 hp⟩
          · intro c hc
            rcases List.mem_append.mp hc with hc | hc
            · exact hn.craft c hc
            · rw [List.mem_singleton] at hc; subst hc; unfold okC; dsimp only; omega
          · show (d.now.craft ++ [_]).length ≤ 4
            rw [List.length_append]; unfold Km445.CRAFT at h2; simp; omega
          · intro p hp'; dsimp only at hp'; rw [hp] at hp'; cases hp'
          · intro p hp'; dsimp only at hp'; rw [hp] at hp'; cases hp'
  | area x y w h =>
    unfold act; dsimp only
    split
    · exact hd
    · split
      · exact hd
      · rename_i h1 h3
        have hp : d.now.plan = none := by cases q : d.now.plan with | none => rfl | some p => rw [q] at h3; simp at h3
        refine become_ok hd ⟨okArea_is (by simpa using h1), hn.craft, hn.len, ?_, ?_, fun _ => hn.t0 hp⟩
        · intro p hp'; dsimp only at hp'; rw [hp] at hp'; cases hp'
        · intro p hp'; dsimp only at hp'; rw [hp] at hp'; cases hp'
  | drop k =>
    unfold act; dsimp only
    split
    · exact hd
    · refine become_ok hd ⟨hn.area, fun c hc => hn.craft c (eraseIdx_sub hc), ?_, ?_, ?_, fun _ => rfl⟩
      · show (d.now.craft.eraseIdx k).length ≤ 4
        have := hn.len
        have := List.length_eraseIdx_le d.now.craft k
        omega
      · intro p hp; cases hp
      · intro p hp; cases hp
  | take =>
    unfold act; dsimp only
    split
    · exact hd
    · split
      · exact hd
      · rename_i p hp
        refine become_ok hd ⟨hn.area, hn.craft, hn.len, ?_, ?_, ?_⟩
        · intro q hq; cases hq; exact hp
        · intro q hq; exact Nat.zero_le _
        · intro q; cases q
  | hours n =>
    unfold act; dsimp only
    split
    · exact hd
    · split
      · exact hd
      · split
        · exact hd
        · rename_i p hp h3
          refine become_ok hd ⟨hn.area, hn.craft, hn.len, hn.plan, ?_, ?_⟩
          · intro q hq; dsimp only at hq ⊢; rw [hp] at hq; cases hq; omega
          · intro q; dsimp only at q; rw [hp] at q; cases q
  | back =>
    unfold act; dsimp only
    split
    · exact hd
    · rename_i k r e
      have hl := hd.len
      rw [e] at hl
      refine ⟨hd.past k (by rw [e]; exact List.mem_cons_self), fun s hs => hd.past s (by rw [e]; exact List.mem_cons_of_mem _ hs), ?_, ?_⟩
      · intro s hs
        rcases List.mem_cons.mp hs with rfl | hs
        · exact hn
        · exact hd.future s hs
      · simp at hl ⊢; omega
  | again =>
    unfold act; dsimp only
    split
    · exact hd
    · rename_i k r e
      have hl := hd.len
      rw [e] at hl
      refine ⟨hd.future k (by rw [e]; exact List.mem_cons_self), ?_, fun s hs => hd.future s (by rw [e]; exact List.mem_cons_of_mem _ hs), ?_⟩
      · intro s hs
        rcases List.mem_cons.mp (List.mem_of_mem_take hs) with rfl | hs
        · exact hn
        · exact hd.past s hs
      · rw [List.length_take]; simp at hl ⊢; omega
  | _ => exact hd
/-! ### facts of a plan -/
theorem plan_facts {s : Sea} (h : SeaOk s) {p : Plan} (e : s.plan = some p) : p.legs.length = s.craft.length ∧ p.hours ≤ 100 ∧ p = go s.area s.craft p.along p.hours ∧ (∀ m ∈ p.legs, m ≤ 501) := by
  obtain ⟨b, t, rfl, hs⟩ := plan_is (h.plan p e)
  refine ⟨share_length _ _ _ _ _, (soon_is hs).1, rfl, fun m hm => ?_⟩
  have := share_le _ _ _ _ _ m hm
  have := (across_pos h.area b).2
  omega
end SL

end
section
set_option linter.all false
set_option maxRecDepth 10000
namespace SL
open Km445 (Desk act)
open Km445Neutral (step asked1 callOf told isStart)
theorem nat_of {z : Int} (h : Km445Neutral.natural z 32 = true) : ∃ n : Nat, z = (n : Int) := by
  unfold Km445Neutral.natural at h
  rw [Bool.and_eq_true] at h
  exact ⟨z.toNat, (Int.toNat_of_nonneg (of_decide_eq_true h.1)).symm⟩
theorem form_0 {args : List Int} (h : asked1 [0 :: args] = true) : ∃ (b0 : Int) (b1 : Int) (b2 : Nat) (b3 : Nat), args = [b0, b1, (b2 : Int), (b3 : Int)] ∧ callOf [0 :: args] = some (.start b0 b1 b2 b3) := by
  match args, h with
  | [], h => exact absurd (show false = true from h) (by decide)
  | [c0], h => exact absurd (show false = true from h) (by decide)
  | [c0, c1], h => exact absurd (show false = true from h) (by decide)
  | [c0, c1, c2], h => exact absurd (show false = true from h) (by decide)
  | [c0, c1, c2, c3], h =>
    have h : (Km445Neutral.whole32 c0 && Km445Neutral.whole32 c1 && Km445Neutral.natural c2 32 && Km445Neutral.natural c3 32) = true := h
    simp only [Bool.and_eq_true] at h
    obtain ⟨n2, rfl⟩ := nat_of h.1.2
    obtain ⟨n3, rfl⟩ := nat_of h.2
    exact ⟨c0, c1, n2, n3, rfl, rfl⟩
  | c0 :: c1 :: c2 :: c3 :: c4 :: r, h => exact absurd (show false = true from h) (by decide)
theorem form_1 {args : List Int} (h : asked1 [1 :: args] = true) : ∃ (b0 : Nat) (b1 : Nat) (b2 : Nat), args = [(b0 : Int), (b1 : Int), (b2 : Int)] ∧ callOf [1 :: args] = some (.craft b0 b1 b2) := by
  match args, h with
  | [], h => exact absurd (show false = true from h) (by decide)
  | [c0], h => exact absurd (show false = true from h) (by decide)
  | [c0, c1], h => exact absurd (show false = true from h) (by decide)
  | [c0, c1, c2], h =>
    have h : (Km445Neutral.natural c0 32 && Km445Neutral.natural c1 32 && Km445Neutral.natural c2 32) = true := h
    simp only [Bool.and_eq_true] at h
    obtain ⟨n0, rfl⟩ := nat_of h.1.1
    obtain ⟨n1, rfl⟩ := nat_of h.1.2
    obtain ⟨n2, rfl⟩ := nat_of h.2
    exact ⟨n0, n1, n2, rfl, rfl⟩
  | [c0, c1, c2, c3], h => exact absurd (show false = true from h) (by decide)
  | c0 :: c1 :: c2 :: c3 :: c4 :: r, h => exact absurd (show false = true from h) (by decide)
theorem form_2 {args : List Int} (h : asked1 [2 :: args] = true) : ∃ (b0 : Int) (b1 : Int) (b2 : Nat) (b3 : Nat), args = [b0, b1, (b2 : Int), (b3 : Int)] ∧ callOf [2 :: args] = some (.area b0 b1 b2 b3) := by
  match args, h with
  | [], h => exact absurd (show false = true from h) (by decide)
  | [c0], h => exact absurd (show false = true from h) (by decide)
  | [c0, c1], h => exact absurd (show false = true from h) (by decide)
  | [c0, c1, c2], h => exact absurd (show false = true from h) (by decide)
  | [c0, c1, c2, c3], h =>
    have h : (Km445Neutral.whole32 c0 && Km445Neutral.whole32 c1 && Km445Neutral.natural c2 32 && Km445Neutral.natural c3 32) = true := h
    simp only [Bool.and_eq_true] at h
    obtain ⟨n2, rfl⟩ := nat_of h.1.2
    obtain ⟨n3, rfl⟩ := nat_of h.2
    exact ⟨c0, c1, n2, n3, rfl, rfl⟩
  | c0 :: c1 :: c2 :: c3 :: c4 :: r, h => exact absurd (show false = true from h) (by decide)
theorem form_3 {args : List Int} (h : asked1 [3 :: args] = true) : ∃ (b0 : Nat), args = [(b0 : Int)] ∧ callOf [3 :: args] = some (.drop b0) := by
  match args, h with
  | [], h => exact absurd (show false = true from h) (by decide)
  | [c0], h =>
    have h : (Km445Neutral.natural c0 32) = true := h
    obtain ⟨n0, rfl⟩ := nat_of h
    exact ⟨n0, rfl, rfl⟩
  | [c0, c1], h => exact absurd (show false = true from h) (by decide)
  | [c0, c1, c2], h => exact absurd (show false = true from h) (by decide)
  | [c0, c1, c2, c3], h => exact absurd (show false = true from h) (by decide)
  | c0 :: c1 :: c2 :: c3 :: c4 :: r, h => exact absurd (show false = true from h) (by decide)
theorem form_4 {args : List Int} (h : asked1 [4 :: args] = true) : args = [] ∧ callOf [4 :: args] = some .take := by
  match args, h with
  | [], h =>
    exact ⟨rfl, rfl⟩
  | [c0], h => exact absurd (show false = true from h) (by decide)
  | [c0, c1], h => exact absurd (show false = true from h) (by decide)
  | [c0, c1, c2], h => exact absurd (show false = true from h) (by decide)
  | [c0, c1, c2, c3], h => exact absurd (show false = true from h) (by decide)
  | c0 :: c1 :: c2 :: c3 :: c4 :: r, h => exact absurd (show false = true from h) (by decide)
theorem form_5 {args : List Int} (h : asked1 [5 :: args] = true) : ∃ (b0 : Nat), args = [(b0 : Int)] ∧ callOf [5 :: args] = some (.hours b0) := by
  match args, h with
  | [], h => exact absurd (show false = true from h) (by decide)
  | [c0], h =>
    have h : (Km445Neutral.natural c0 32) = true := h
    obtain ⟨n0, rfl⟩ := nat_of h
    exact ⟨n0, rfl, rfl⟩
  | [c0, c1], h => exact absurd (show false = true from h) (by decide)
  | [c0, c1, c2], h => exact absurd (show false = true from h) (by decide)
  | [c0, c1, c2, c3], h => exact absurd (show false = true from h) (by decide)
  | c0 :: c1 :: c2 :: c3 :: c4 :: r, h => exact absurd (show false = true from h) (by decide)
theorem form_6 {args : List Int} (h : asked1 [6 :: args] = true) : ∃ (b0 : Nat) (b1 : Nat), args = [(b0 : Int), (b1 : Int)] ∧ callOf [6 :: args] = some (.alone b0 b1) := by
  match args, h with
  | [], h => exact absurd (show false = true from h) (by decide)
  | [c0], h => exact absurd (show false = true from h) (by decide)
  | [c0, c1], h =>
    have h : (Km445Neutral.natural c0 32 && Km445Neutral.natural c1 32) = true := h
    simp only [Bool.and_eq_true] at h
    obtain ⟨n0, rfl⟩ := nat_of h.1
    obtain ⟨n1, rfl⟩ := nat_of h.2
    exact ⟨n0, n1, rfl, rfl⟩
  | [c0, c1, c2], h => exact absurd (show false = true from h) (by decide)
  | [c0, c1, c2, c3], h => exact absurd (show false = true from h) (by decide)
  | c0 :: c1 :: c2 :: c3 :: c4 :: r, h => exact absurd (show false = true from h) (by decide)
theorem form_7 {args : List Int} (h : asked1 [7 :: args] = true) : args = [] ∧ callOf [7 :: args] = some .soonest := by
  match args, h with
  | [], h =>
    exact ⟨rfl, rfl⟩
  | [c0], h => exact absurd (show false = true from h) (by decide)
  | [c0, c1], h => exact absurd (show false = true from h) (by decide)
  | [c0, c1, c2], h => exact absurd (show false = true from h) (by decide)
  | [c0, c1, c2, c3], h => exact absurd (show false = true from h) (by decide)
  | c0 :: c1 :: c2 :: c3 :: c4 :: r, h => exact absurd (show false = true from h) (by decide)
theorem form_8 {args : List Int} (h : asked1 [8 :: args] = true) : ∃ (b0 : Nat) (b1 : Nat), args = [(b0 : Int), (b1 : Int)] ∧ callOf [8 :: args] = some (.by_ b0 b1) := by
  match args, h with
  | [], h => exact absurd (show false = true from h) (by decide)
  | [c0], h => exact absurd (show false = true from h) (by decide)
  | [c0, c1], h =>
    have h : (Km445Neutral.natural c0 32 && Km445Neutral.natural c1 32) = true := h
    simp only [Bool.and_eq_true] at h
    obtain ⟨n0, rfl⟩ := nat_of h.1
    obtain ⟨n1, rfl⟩ := nat_of h.2
    exact ⟨n0, n1, rfl, rfl⟩
  | [c0, c1, c2], h => exact absurd (show false = true from h) (by decide)
  | [c0, c1, c2, c3], h => exact absurd (show false = true from h) (by decide)
  | c0 :: c1 :: c2 :: c3 :: c4 :: r, h => exact absurd (show false = true from h) (by decide)
theorem form_9 {args : List Int} (h : asked1 [9 :: args] = true) : args = [] ∧ callOf [9 :: args] = some .plan := by
  match args, h with
  | [], h =>
    exact ⟨rfl, rfl⟩
  | [c0], h => exact absurd (show false = true from h) (by decide)
  | [c0, c1], h => exact absurd (show false = true from h) (by decide)
  | [c0, c1, c2], h => exact absurd (show false = true from h) (by decide)
  | [c0, c1, c2, c3], h => exact absurd (show false = true from h) (by decide)
  | c0 :: c1 :: c2 :: c3 :: c4 :: r, h => exact absurd (show false = true from h) (by decide)
theorem form_10 {args : List Int} (h : asked1 [10 :: args] = true) : ∃ (b0 : Nat), args = [(b0 : Int)] ∧ callOf [10 :: args] = some (.legsOf b0) := by
  match args, h with
  | [], h => exact absurd (show false = true from h) (by decide)
  | [c0], h =>
    have h : (Km445Neutral.natural c0 32) = true := h
    obtain ⟨n0, rfl⟩ := nat_of h
    exact ⟨n0, rfl, rfl⟩
  | [c0, c1], h => exact absurd (show false = true from h) (by decide)
  | [c0, c1, c2], h => exact absurd (show false = true from h) (by decide)
  | [c0, c1, c2, c3], h => exact absurd (show false = true from h) (by decide)
  | c0 :: c1 :: c2 :: c3 :: c4 :: r, h => exact absurd (show false = true from h) (by decide)
theorem form_11 {args : List Int} (h : asked1 [11 :: args] = true) : ∃ (b0 : Nat) (b1 : Nat), args = [(b0 : Int), (b1 : Int)] ∧ callOf [11 :: args] = some (.leg b0 b1) := by
  match args, h with
  | [], h => exact absurd (show false = true from h) (by decide)
  | [c0], h => exact absurd (show false = true from h) (by decide)
  | [c0, c1], h =>
    have h : (Km445Neutral.natural c0 32 && Km445Neutral.natural c1 32) = true := h
    simp only [Bool.and_eq_true] at h
    obtain ⟨n0, rfl⟩ := nat_of h.1
    obtain ⟨n1, rfl⟩ := nat_of h.2
    exact ⟨n0, n1, rfl, rfl⟩
  | [c0, c1, c2], h => exact absurd (show false = true from h) (by decide)
  | [c0, c1, c2, c3], h => exact absurd (show false = true from h) (by decide)
  | c0 :: c1 :: c2 :: c3 :: c4 :: r, h => exact absurd (show false = true from h) (by decide)
theorem form_12 {args : List Int} (h : asked1 [12 :: args] = true) : ∃ (b0 : Nat), args = [(b0 : Int)] ∧ callOf [12 :: args] = some (.where_ b0) := by
  match args, h with
  | [], h => exact absurd (show false = true from h) (by decide)
  | [c0], h =>
    have h : (Km445Neutral.natural c0 32) = true := h
    obtain ⟨n0, rfl⟩ := nat_of h
    exact ⟨n0, rfl, rfl⟩
  | [c0, c1], h => exact absurd (show false = true from h) (by decide)
  | [c0, c1, c2], h => exact absurd (show false = true from h) (by decide)
  | [c0, c1, c2, c3], h => exact absurd (show false = true from h) (by decide)
  | c0 :: c1 :: c2 :: c3 :: c4 :: r, h => exact absurd (show false = true from h) (by decide)
theorem form_13 {args : List Int} (h : asked1 [13 :: args] = true) : ∃ (b0 : Int) (b1 : Int), args = [b0, b1] ∧ callOf [13 :: args] = some (.when b0 b1) := by
  match args, h with
  | [], h => exact absurd (show false = true from h) (by decide)
  | [c0], h => exact absurd (show false = true from h) (by decide)
  | [c0, c1], h =>
    have h : (Km445Neutral.whole32 c0 && Km445Neutral.whole32 c1) = true := h
    simp only [Bool.and_eq_true] at h
    exact ⟨c0, c1, rfl, rfl⟩
  | [c0, c1, c2], h => exact absurd (show false = true from h) (by decide)
  | [c0, c1, c2, c3], h => exact absurd (show false = true from h) (by decide)
  | c0 :: c1 :: c2 :: c3 :: c4 :: r, h => exact absurd (show false = true from h) (by decide)
theorem form_14 {args : List Int} (h : asked1 [14 :: args] = true) : ∃ (b0 : Int) (b1 : Int), args = [b0, b1] ∧ callOf [14 :: args] = some (.seen b0 b1) := by
  match args, h with
  | [], h => exact absurd (show false = true from h) (by decide)
  | [c0], h => exact absurd (show false = true from h) (by decide)
  | [c0, c1], h =>
    have h : (Km445Neutral.whole32 c0 && Km445Neutral.whole32 c1) = true := h
    simp only [Bool.and_eq_true] at h
    exact ⟨c0, c1, rfl, rfl⟩
  | [c0, c1, c2], h => exact absurd (show false = true from h) (by decide)
  | [c0, c1, c2, c3], h => exact absurd (show false = true from h) (by decide)
  | c0 :: c1 :: c2 :: c3 :: c4 :: r, h => exact absurd (show false = true from h) (by decide)
theorem form_15 {args : List Int} (h : asked1 [15 :: args] = true) : ∃ (b0 : Nat) (b1 : Nat) (b2 : Nat), args = [(b0 : Int), (b1 : Int), (b2 : Int)] ∧ callOf [15 :: args] = some (.most b0 b1 b2) := by
  match args, h with
  | [], h => exact absurd (show false = true from h) (by decide)
  | [c0], h => exact absurd (show false = true from h) (by decide)
  | [c0, c1], h => exact absurd (show false = true from h) (by decide)
  | [c0, c1, c2], h =>
    have h : (Km445Neutral.natural c0 32 && Km445Neutral.natural c1 32 && Km445Neutral.natural c2 32) = true := h
    simp only [Bool.and_eq_true] at h
    obtain ⟨n0, rfl⟩ := nat_of h.1.1
    obtain ⟨n1, rfl⟩ := nat_of h.1.2
    obtain ⟨n2, rfl⟩ := nat_of h.2
    exact ⟨n0, n1, n2, rfl, rfl⟩
  | [c0, c1, c2, c3], h => exact absurd (show false = true from h) (by decide)
  | c0 :: c1 :: c2 :: c3 :: c4 :: r, h => exact absurd (show false = true from h) (by decide)
theorem form_16 {args : List Int} (h : asked1 [16 :: args] = true) : ∃ (b0 : Nat), args = [(b0 : Int)] ∧ callOf [16 :: args] = some (.look b0) := by
  match args, h with
  | [], h => exact absurd (show false = true from h) (by decide)
  | [c0], h =>
    have h : (Km445Neutral.natural c0 32) = true := h
    obtain ⟨n0, rfl⟩ := nat_of h
    exact ⟨n0, rfl, rfl⟩
  | [c0, c1], h => exact absurd (show false = true from h) (by decide)
  | [c0, c1, c2], h => exact absurd (show false = true from h) (by decide)
  | [c0, c1, c2, c3], h => exact absurd (show false = true from h) (by decide)
  | c0 :: c1 :: c2 :: c3 :: c4 :: r, h => exact absurd (show false = true from h) (by decide)
theorem form_17 {args : List Int} (h : asked1 [17 :: args] = true) : args = [] ∧ callOf [17 :: args] = some .size := by
  match args, h with
  | [], h =>
    exact ⟨rfl, rfl⟩
  | [c0], h => exact absurd (show false = true from h) (by decide)
  | [c0, c1], h => exact absurd (show false = true from h) (by decide)
  | [c0, c1, c2], h => exact absurd (show false = true from h) (by decide)
  | [c0, c1, c2, c3], h => exact absurd (show false = true from h) (by decide)
  | c0 :: c1 :: c2 :: c3 :: c4 :: r, h => exact absurd (show false = true from h) (by decide)
theorem form_18 {args : List Int} (h : asked1 [18 :: args] = true) : args = [] ∧ callOf [18 :: args] = some .ends := by
  match args, h with
  | [], h =>
    exact ⟨rfl, rfl⟩
  | [c0], h => exact absurd (show false = true from h) (by decide)
  | [c0, c1], h => exact absurd (show false = true from h) (by decide)
  | [c0, c1, c2], h => exact absurd (show false = true from h) (by decide)
  | [c0, c1, c2, c3], h => exact absurd (show false = true from h) (by decide)
  | c0 :: c1 :: c2 :: c3 :: c4 :: r, h => exact absurd (show false = true from h) (by decide)
theorem form_19 {args : List Int} (h : asked1 [19 :: args] = true) : args = [] ∧ callOf [19 :: args] = some .back := by
  match args, h with
  | [], h =>
    exact ⟨rfl, rfl⟩
  | [c0], h => exact absurd (show false = true from h) (by decide)
  | [c0, c1], h => exact absurd (show false = true from h) (by decide)
  | [c0, c1, c2], h => exact absurd (show false = true from h) (by decide)
  | [c0, c1, c2, c3], h => exact absurd (show false = true from h) (by decide)
  | c0 :: c1 :: c2 :: c3 :: c4 :: r, h => exact absurd (show false = true from h) (by decide)
theorem form_20 {args : List Int} (h : asked1 [20 :: args] = true) : args = [] ∧ callOf [20 :: args] = some .again := by
  match args, h with
  | [], h =>
    exact ⟨rfl, rfl⟩
  | [c0], h => exact absurd (show false = true from h) (by decide)
  | [c0, c1], h => exact absurd (show false = true from h) (by decide)
  | [c0, c1, c2], h => exact absurd (show false = true from h) (by decide)
  | [c0, c1, c2, c3], h => exact absurd (show false = true from h) (by decide)
  | c0 :: c1 :: c2 :: c3 :: c4 :: r, h => exact absurd (show false = true from h) (by decide)
theorem form_21 {args : List Int} (h : asked1 [21 :: args] = true) : args = [] ∧ callOf [21 :: args] = some .state := by
  match args, h with
  | [], h =>
    exact ⟨rfl, rfl⟩
  | [c0], h => exact absurd (show false = true from h) (by decide)
  | [c0, c1], h => exact absurd (show false = true from h) (by decide)
  | [c0, c1, c2], h => exact absurd (show false = true from h) (by decide)
  | [c0, c1, c2, c3], h => exact absurd (show false = true from h) (by decide)
  | c0 :: c1 :: c2 :: c3 :: c4 :: r, h => exact absurd (show false = true from h) (by decide)
theorem step_some {d : Desk} {c : List (List Int)} {x : Km445.Call} (h : callOf c = some x) : step (some d) c = (some (act d x).1, told (act d x).2) := by
  unfold step; rw [h]
theorem step_none {c : List (List Int)} {x : Km445.Call} (h : callOf c = some x) (n : isStart x = false) : (step none c).2 = [] := by
  unfold step; rw [h]; dsimp only; rw [n]; rfl
theorem act_start (d : Desk) (x y : Int) (w hh : Nat) : act d (.start x y w hh) = if Km445.okArea x y w hh = false then (d, Km445.only (-22)) else (Km445.fresh x y w hh, Km445.only 0) := rfl
theorem step_start {S : Option Desk} {c : List (List Int)} {x y : Int} {w hh : Nat} (h : callOf c = some (.start x y w hh)) : step S c = if Km445.okArea x y w hh = false then (S, [-22]) else (some (Km445.fresh x y w hh), [0]) := by
  cases e : Km445.okArea x y w hh with
  | false =>
    have e1 : ∀ d, act d (.start x y w hh) = (d, Km445.only (-22)) := fun d => by rw [act_start, e]; rfl
    cases S with
    | none =>
      unfold step; rw [h]
      show (if (told (act (Km445.fresh 0 0 1 1) (.start x y w hh)).2).headD 0 < 0 then none else some (act (Km445.fresh 0 0 1 1) (.start x y w hh)).1, told (act (Km445.fresh 0 0 1 1) (.start x y w hh)).2) = _
      rw [e1]; rfl
    | some d => rw [step_some h, e1]; rfl
  | true =>
    have e1 : ∀ d, act d (.start x y w hh) = (Km445.fresh x y w hh, Km445.only 0) := fun d => by rw [act_start, e]; rfl
    cases S with
    | none =>
      unfold step; rw [h]
      show (if (told (act (Km445.fresh 0 0 1 1) (.start x y w hh)).2).headD 0 < 0 then none else some (act (Km445.fresh 0 0 1 1) (.start x y w hh)).1, told (act (Km445.fresh 0 0 1 1) (.start x y w hh)).2) = _
      rw [e1]; rfl
    | some d => rw [step_some h, e1]; rfl
theorem step_is {S : Option Desk} {c : List (List Int)} {x : Km445.Call} (h : callOf c = some x) (n : isStart x = false) (hne : (step S c).2 ≠ []) : ∃ d, S = some d := by
  cases S with
  | none => exact absurd (step_none h n) hne
  | some d => exact ⟨d, rfl⟩
end SL

end
section
set_option linter.all false
namespace SL
open Km445 (Area Craft Plan Sea Desk Call act)
/-! ### legs flown -/
theorem flown_count (c : Craft) (long R m : Nat) (hL : 0 < long + c.strip) : ((List.range (m + 1)).filter fun i => decide (c.far long i ≤ R)).length = min m ((R + c.strip) / (long + c.strip)) + 1 := by
  induction m with
  | zero =>
    have : c.far long 0 ≤ R := by unfold Craft.far; simp
    simp [List.range_succ, this]
  | succ n ih =>
    rw [List.range_succ, List.filter_append, List.length_append, ih]
    by_cases h : c.far long (n + 1) ≤ R
    · have := (far_le c long R (n + 1) hL).mp h
      rw [List.filter_cons, if_pos (decide_eq_true h)]
      simp; omega
    · have : ¬ (n + 1 ≤ (R + c.strip) / (long + c.strip)) := fun q => h ((far_le c long _ (n + 1) hL).mpr q)
      rw [List.filter_cons, if_neg (by simpa using h)]
      simp; omega
theorem flown_eq (s : Sea) (p : Plan) (k : Nat) : s.flown p k = min (p.legs.getD k 0) (((s.one k).speed * s.time + (s.one k).strip) / (s.area.long p.along + (s.one k).strip)) := by
  unfold Sea.flown
  rw [flown_count _ _ _ _ (by have := strip_pos (s.one k); omega)]
  exact Nat.add_sub_cancel _ _
/-! ### every place is seen -/
theorem share_covers (long across t : Nat) : ∀ (cs : List Craft) (left : Nat), left ≤ Km445.sum (cs.map fun c => c.legs long across t * c.strip) →
    ∀ a, a < left → ∃ (k : Nat) (c : Craft) (m B : Nat), cs[k]? = some c ∧ (Km445.share long across t left cs)[k]? = some m ∧ B = Km445.sum ((List.range k).map fun i => (Km445.share long across t left cs).getD i 0 * (cs.getD i ⟨1, 0, 0⟩).strip) ∧ B ≤ a ∧ a < B + m * c.strip
  | [], left, h, a, ha => by simp [sum_nil] at h; omega
  | c :: cs, left, h, a, ha => by
    rw [List.map_cons, sum_cons] at h
    have hs := strip_pos c
    rw [Km445.share]
    by_cases q : a < min (c.legs long across t) ((left + c.strip - 1) / c.strip) * c.strip
    · exact ⟨0, c, _, 0, rfl, rfl, rfl, Nat.zero_le _, by omega⟩
    · have hm : min (c.legs long across t) ((left + c.strip - 1) / c.strip) = c.legs long across t := by
        by_cases z : c.legs long across t ≤ (left + c.strip - 1) / c.strip
        · omega
        · exfalso
          rw [Nat.min_eq_right (by omega)] at q
          have := Nat.div_add_mod (left + c.strip - 1) c.strip
          have := Nat.mod_lt (left + c.strip - 1) hs
          rw [Nat.mul_comm] at q
          omega
      obtain ⟨k, c', m, B, h1, h2, h3, h4, h5⟩ := share_covers long across t cs (left - min (c.legs long across t) ((left + c.strip - 1) / c.strip) * c.strip) (by rw [hm]; omega) (a - min (c.legs long across t) ((left + c.strip - 1) / c.strip) * c.strip) (by omega)
      refine ⟨k + 1, c', m, min (c.legs long across t) ((left + c.strip - 1) / c.strip) * c.strip + B, by simpa using h1, by simpa using h2, ?_, by omega, by omega⟩
      rw [List.range_succ_eq_map, List.map_cons, sum_cons, List.map_map, h3]
      rfl
theorem lane_sees {s : Sea} {p : Plan} {k i a m B : Nat} {c : Craft} (hc : s.one k = c) (hB : s.before p k = B) (h1 : B ≤ a) (h2 : a < B + m * c.strip) (ha : a < s.area.across p.along) :
    (a - B) / c.strip < m ∧ a ≤ s.lane p k ((a - B) / c.strip) + c.see ∧ s.lane p k ((a - B) / c.strip) ≤ a + c.see := by
  have hs := strip_pos c
  have e1 := Nat.div_add_mod (a - B) c.strip
  have e2 := Nat.mod_lt (a - B) hs
  have e3 : c.strip = 2 * c.see + 1 := rfl
  refine ⟨?_, ?_, ?_⟩
  · rw [Nat.div_lt_iff_lt_mul hs]; omega
  · unfold Sea.lane; rw [hc, hB]
    rw [Nat.mul_comm] at e1
    generalize (a - B) / c.strip * c.strip = z at e1 ⊢
    omega
  · unfold Sea.lane; rw [hc, hB]
    rw [Nat.mul_comm] at e1
    generalize (a - B) / c.strip * c.strip = z at e1 ⊢
    omega
theorem findSome_range {α : Type} {f : Nat → Option α} {n i : Nat} (h : i < n) (hf : (f i).isSome = true) : ((List.range n).findSome? f).isSome = true := by
  rw [List.findSome?_isSome_iff]
  exact ⟨i, List.mem_range.mpr h, hf⟩
/-- some craft sees each place -/
theorem seen_by {s : Sea} (hs : SeaOk s) {p : Plan} (e : s.plan = some p) {x y : Int} (hx : s.area.has x y = true) : ∃ k, k < s.craft.length ∧ (s.sees p k x y).isSome = true := by
  obtain ⟨b, t, rfl, hb⟩ := plan_is (hs.plan p e)
  have hcov := (soon_is hb).2
  unfold Area.has at hx
  simp only [Bool.and_eq_true, decide_eq_true_eq] at hx
  have ha : (if b = true then y - s.area.y else x - s.area.x).toNat < s.area.across b := by
    unfold Area.across
    cases b <;> simp <;> omega
  obtain ⟨k, c, m, B, h1, h2, h3, h4, h5⟩ := share_covers (s.area.long b) (s.area.across b) t s.craft (s.area.across b) hcov _ ha
  have hk := (List.getElem?_eq_some_iff.mp h1).1
  have h1' : s.one k = c := by unfold Sea.one; rw [List.getD_eq_getElem?_getD, h1]; rfl
  have hm : (go s.area s.craft b t).legs.getD k 0 = m := by rw [List.getD_eq_getElem?_getD]; show ((Km445.share _ _ _ _ _)[k]?).getD 0 = m; rw [h2]; rfl
  obtain ⟨g1, g2, g3⟩ := lane_sees (s := s) (p := go s.area s.craft b t) (k := k) (i := 0) h1' h3.symm h4 h5 ha
  refine ⟨k, hk, ?_⟩
  unfold Sea.sees
  refine findSome_range (i := _) (by rw [hm]; exact g1) ?_
  rw [h1']
  dsimp only
  rw [if_pos]
  · rfl
  · exact ⟨g2, g3⟩
theorem foldl_keeps {α β : Type} (f : Option α → β → Option α) (hf : ∀ r x, r.isSome = true → (f r x).isSome = true) : ∀ (l : List β) (r : Option α), r.isSome = true → (l.foldl f r).isSome = true
  | [], r, h => h
  | x :: l, r, h => foldl_keeps f hf l (f r x) (hf r x h)
theorem foldl_some {α β : Type} (f : Option α → β → Option α) (hf : ∀ r x, r.isSome = true → (f r x).isSome = true) : ∀ (l : List β) (r : Option α) (x : β), x ∈ l → (∀ r, (f r x).isSome = true) → (l.foldl f r).isSome = true
  | [], r, x, h, _ => by cases h
  | y :: l, r, x, h, g => by
    rcases List.mem_cons.mp h with rfl | h
    · exact foldl_keeps f hf l _ (g r)
    · exact foldl_some f hf l _ x h g
theorem when_some {s : Sea} (hs : SeaOk s) {p : Plan} (e : s.plan = some p) {x y : Int} (hx : s.area.has x y = true) : ∃ t k, s.when p x y = some (t, k) := by
  obtain ⟨k, hk, hsee⟩ := seen_by hs e hx
  have : (s.when p x y).isSome = true := by
    unfold Sea.when
    refine foldl_some _ (fun r j hr => ?_) _ _ k (List.mem_range.mpr hk) (fun r => ?_)
    · cases q : s.sees p j x y with
      | none => exact hr
      | some d =>
        cases r with
        | none => rfl
        | some u => dsimp only; split <;> rfl
    · cases q : s.sees p k x y with
      | none => rw [q] at hsee; cases hsee
      | some d =>
        cases r with
        | none => rfl
        | some u => dsimp only; split <;> rfl
  obtain ⟨⟨t, j⟩, h⟩ := Option.isSome_iff_exists.mp this
  exact ⟨t, j, h⟩
end SL

end
section
set_option linter.all false
namespace SL
open Km445 (Area Craft Plan Sea Desk Call act)
/-! ### the legs of one craft -/
structure Cs where
  r : Area
  c : Craft
  b : Bool
  m : Nat
  B : Nat
namespace Cs
def long (s : Cs) : Nat := s.r.long s.b
def pitch (s : Cs) : Nat := s.long + s.c.strip
def line (s : Cs) (i : Nat) : Nat := min (s.B + i * s.c.strip + s.c.see) (s.r.across s.b - 1)
def along (s : Cs) (i far : Nat) : Nat := if i % 2 = 0 then far else s.long - far
def place (s : Cs) (i far : Nat) : Int × Int := if s.b = true then (s.r.x + (s.along i far : Int), s.r.y + (s.line i : Int)) else (s.r.x + (s.line i : Int), s.r.y + (s.along i far : Int))
def gone (s : Cs) (t : Nat) : Nat := min (s.c.speed * t) (s.c.far s.long s.m)
def sees (s : Cs) (a i : Nat) : Prop := a ≤ s.line i + s.c.see ∧ s.line i ≤ a + s.c.see
instance (s : Cs) (a i : Nat) : Decidable (s.sees a i) := inferInstanceAs (Decidable (_ ∧ _))
def first (s : Cs) (a : Nat) : Option Nat := (List.range s.m).find? fun i => decide (s.sees a i)
def o (s : Cs) (x y : Int) : Nat := (if s.b = true then x - s.r.x else y - s.r.y).toNat
def a (s : Cs) (x y : Int) : Nat := (if s.b = true then y - s.r.y else x - s.r.x).toNat
def dist (s : Cs) (x y : Int) : Option Nat := (s.first (s.a x y)).map fun i => i * s.pitch + s.along i (s.o x y)
def hrs (s : Cs) (x y : Int) : Option Nat := (s.dist x y).map fun d => (d + s.c.speed - 1) / s.c.speed
structure Ok (s : Cs) : Prop where
  r : okA s.r
  c : okC s.c
  m : s.m ≤ 501
  B : s.m = 0 ∨ s.B + (s.m - 1) * s.c.strip < s.r.across s.b
end Cs
def cs (s : Sea) (p : Plan) (k : Nat) : Cs := ⟨s.area, s.one k, p.along, p.legs.getD k 0, s.before p k⟩
theorem lane_cs (s : Sea) (p : Plan) (k i : Nat) : s.lane p k i = (cs s p k).line i := rfl
theorem place_cs (s : Sea) (p : Plan) (k i f : Nat) : s.place p k i f = (cs s p k).place i f := rfl
theorem findSome_if {P : Nat → Prop} [DecidablePred P] (f : Nat → Nat) : ∀ l : List Nat, (l.findSome? fun i => if P i then some (f i) else none) = (l.find? fun i => decide (P i)).map f
  | [] => rfl
  | i :: l => by
    rw [List.findSome?_cons, List.find?_cons]
    by_cases h : P i
    · simp [h]
    · simp [h]; exact findSome_if f l
theorem sees_cs (s : Sea) (p : Plan) (k : Nat) (x y : Int) : s.sees p k x y = (cs s p k).dist x y := by
  unfold Sea.sees Cs.dist Cs.first
  exact findSome_if (P := fun i => (cs s p k).sees ((cs s p k).a x y) i) (fun i => i * (cs s p k).pitch + (cs s p k).along i ((cs s p k).o x y)) _
theorem far_cs (c : Craft) (long m : Nat) (h : 0 < m) : c.far long m = (m - 1) * (long + c.strip) + long := by
  unfold Craft.far
  rw [if_neg (by omega), Nat.mul_add]
  obtain ⟨n, rfl⟩ : ∃ n, m = n + 1 := ⟨m - 1, by omega⟩
  rw [Nat.add_sub_cancel, Nat.succ_mul]; omega
theorem at_cs (s : Sea) (p : Plan) (k t : Nat) (hm : 0 < p.legs.getD k 0) : s.at_ p k ((s.one k).speed * t) = ((cs s p k).gone t / (cs s p k).pitch, min ((cs s p k).gone t % (cs s p k).pitch) (cs s p k).long) := by
  have hs := strip_pos (s.one k)
  unfold Sea.at_ Cs.gone Cs.pitch Cs.long cs
  dsimp only
  rw [far_cs _ _ _ hm]
  generalize (s.one k).speed * t = d
  generalize p.legs.getD k 0 = m at hm
  generalize s.area.long p.along = l
  generalize (s.one k).strip = st at hs
  by_cases h : d ≤ (m - 1) * (l + st) + l
  · rw [Nat.min_eq_left h, if_neg, Nat.min_comm]
    intro q
    rw [Nat.le_div_iff_mul_le (by omega)] at q
    obtain ⟨n, rfl⟩ : ∃ n, m = n + 1 := ⟨m - 1, by omega⟩
    rw [Nat.add_sub_cancel] at h
    rw [Nat.succ_mul] at q
    omega
  · rw [Nat.min_eq_right (show (m - 1) * (l + st) + l ≤ d by omega)]
    have e1 : ((m - 1) * (l + st) + l) / (l + st) = m - 1 := by
      rw [Nat.add_comm, Nat.add_mul_div_right _ _ (by omega), Nat.div_eq_of_lt (by omega), Nat.zero_add]
    have e2 : ((m - 1) * (l + st) + l) % (l + st) = l := by
      rw [Nat.add_comm, Nat.add_mul_mod_self_right, Nat.mod_eq_of_lt (by omega)]
    rw [e1, e2, Nat.min_self]
    by_cases q : m ≤ d / (l + st)
    · rw [if_pos q]
    · rw [if_neg q]
      have g1 := Nat.div_add_mod d (l + st)
      have g3 : m - 1 ≤ d / (l + st) := by rw [Nat.le_div_iff_mul_le (by omega)]; omega
      have g4 : d / (l + st) = m - 1 := by omega
      rw [g4, Nat.mul_comm] at g1
      rw [g4, Nat.min_eq_left (show l ≤ d % (l + st) by omega)]
/-- of the legs but the last each sees its own strip -/
theorem sees_own {s : Cs} (h : s.Ok) {a i : Nat} (hi : i + 1 < s.m) : s.sees a i ↔ s.B + i * s.c.strip ≤ a ∧ a < s.B + (i + 1) * s.c.strip := by
  have hs : s.c.strip = 2 * s.c.see + 1 := rfl
  have hB : s.B + (s.m - 1) * s.c.strip < s.r.across s.b := h.B.resolve_left (by omega)
  have g : (i + 1) * s.c.strip ≤ (s.m - 1) * s.c.strip := Nat.mul_le_mul_right _ (by omega)
  have e : s.line i = s.B + i * s.c.strip + s.c.see := by
    unfold Cs.line
    rw [Nat.succ_mul] at g
    omega
  unfold Cs.sees
  rw [e, Nat.succ_mul]
  omega
theorem find_none_range {p : Nat → Bool} {n : Nat} (h : ∀ i, i < n → p i = false) : (List.range n).find? p = none := by
  rw [List.find?_eq_none]
  intro i hi
  rw [h i (List.mem_range.mp hi)]; decide
theorem first_own {s : Cs} (h : s.Ok) {a i : Nat} (hi : i < s.m) (h1 : s.B + i * s.c.strip ≤ a) (hs : s.sees a i) : s.first a = some i := by
  unfold Cs.first
  refine find_range hi (decide_eq_true hs) fun j hj => decide_eq_false fun q => ?_
  have := (sees_own h (by omega)).mp q
  have g : (j + 1) * s.c.strip ≤ i * s.c.strip := Nat.mul_le_mul_right _ (by omega)
  omega
/-- the leg whose strip it is -/
theorem own_is {s : Cs} {a i : Nat} (h1 : s.B + i * s.c.strip ≤ a) (h2 : a < s.B + (i + 1) * s.c.strip) : ((a : Int) - (s.B : Int)) / (s.c.strip : Int) = (i : Int) := by
  have hs := strip_pos s.c
  rw [Nat.succ_mul] at h2
  rw [← Int.natCast_sub (by omega), ← Int.natCast_ediv]
  have : (a - s.B) / s.c.strip = i := by
    apply Nat.div_eq_of_lt_le
    · omega
    · rw [Nat.succ_mul]; omega
  rw [this]
theorem own_ge {s : Cs} {a i : Nat} (h : ((a : Int) - (s.B : Int)) / (s.c.strip : Int) = (i : Int)) : s.B + i * s.c.strip ≤ a := by
  have hs := strip_pos s.c
  have e := Int.emod_add_mul_ediv ((a : Int) - (s.B : Int)) (s.c.strip : Int)
  have g := Int.emod_nonneg ((a : Int) - (s.B : Int)) (show (s.c.strip : Int) ≠ 0 by omega)
  rw [h] at e
  have e' : (i : Int) * (s.c.strip : Int) = ((i * s.c.strip : Nat) : Int) := by rw [Int.natCast_mul]
  rw [Int.mul_comm, e'] at e
  omega
/-- what the first turn asks of a leg -/
def okTurn (s : Cs) (a : Nat) (i : Int) : Prop := ∃ n : Nat, i = (n : Int) ∧ n < s.m ∧ s.sees a n
theorem first_turn1 {s : Cs} (h : s.Ok) {a n : Nat} (hn : n < s.m) (hs : s.sees a n) (e : ((a : Int) - (s.B : Int)) / (s.c.strip : Int) = (n : Int)) : s.first a = some n :=
  first_own h hn (own_ge e) hs
theorem first_turn2 {s : Cs} (h : s.Ok) {a n : Nat} (hno : ¬ okTurn s a (((a : Int) - (s.B : Int)) / (s.c.strip : Int))) (hn : n + 1 = s.m) (hs : s.sees a n) : s.first a = some n := by
  unfold Cs.first
  refine find_range (by omega) (decide_eq_true hs) fun j hj => decide_eq_false fun q => hno ?_
  have g := (sees_own h (by omega)).mp q
  exact ⟨j, own_is g.1 g.2, by omega, q⟩
theorem first_turn3 {s : Cs} (h : s.Ok) {a : Nat} (hno : ¬ okTurn s a (((a : Int) - (s.B : Int)) / (s.c.strip : Int))) (hl : ∀ n, n + 1 = s.m → ¬ s.sees a n) : s.first a = none := by
  unfold Cs.first
  refine find_none_range fun j hj => decide_eq_false fun q => ?_
  by_cases z : j + 1 = s.m
  · exact hl j z q
  · have g := (sees_own h (by omega)).mp q
    exact hno ⟨j, own_is g.1 g.2, hj, q⟩
/-! ### what a share is -/
theorem share_facts (long across t : Nat) : ∀ (l : List Craft) (left k m : Nat) (c : Craft), l[k]? = some c → (Km445.share long across t left l)[k]? = some m →
    m ≤ c.legs long across t ∧ (m = 0 ∨ Km445.sum ((List.range k).map fun i => (Km445.share long across t left l).getD i 0 * (l.getD i ⟨1, 0, 0⟩).strip) + (m - 1) * c.strip < left)
  | [], left, k, m, c, h, _ => by simp at h
  | d :: l, left, 0, m, c, h, h2 => by
    simp at h; subst h
    rw [Km445.share] at h2
    simp at h2; subst h2
    have hs := strip_pos d
    refine ⟨by omega, ?_⟩
    rw [show List.range 0 = [] from rfl, List.map_nil, sum_nil, Nat.zero_add]
    generalize hm : min (d.legs long across t) ((left + d.strip - 1) / d.strip) = m
    have g : m ≤ (left + d.strip - 1) / d.strip := by omega
    rw [Nat.le_div_iff_mul_le hs] at g
    by_cases z : m = 0
    · exact .inl z
    · right
      obtain ⟨n, rfl⟩ : ∃ n, m = n + 1 := ⟨m - 1, by omega⟩
      rw [Nat.succ_mul] at g
      rw [Nat.add_sub_cancel]
      omega
  | d :: l, left, k + 1, m, c, h, h2 => by
    rw [Km445.share] at h2 ⊢
    have ih := share_facts long across t l (left - min (d.legs long across t) ((left + d.strip - 1) / d.strip) * d.strip) k m c (by simpa using h) (by simpa using h2)
    refine ⟨ih.1, ?_⟩
    rcases ih.2 with z | z
    · exact .inl z
    · right
      rw [List.range_succ_eq_map, List.map_cons, sum_cons, List.map_map]
      show min (d.legs long across t) ((left + d.strip - 1) / d.strip) * d.strip + Km445.sum ((List.range k).map fun i => (Km445.share long across t (left - min (d.legs long across t) ((left + d.strip - 1) / d.strip) * d.strip) l).getD i 0 * (l.getD i ⟨1, 0, 0⟩).strip) + (m - 1) * c.strip < left
      omega
theorem cs_ok {s : Sea} (hs : SeaOk s) {p : Plan} (e : s.plan = some p) {k : Nat} (hk : k < s.craft.length) : (cs s p k).Ok ∧ (cs s p k).m ≤ (cs s p k).c.legs (cs s p k).long (s.area.across p.along) p.hours := by
  obtain ⟨b, t, rfl, hb⟩ := plan_is (hs.plan p e)
  obtain ⟨c, hc⟩ : ∃ c, s.craft[k]? = some c := ⟨_, List.getElem?_eq_getElem hk⟩
  have h1 : s.one k = c := by unfold Sea.one; rw [List.getD_eq_getElem?_getD, hc]; rfl
  have hl : k < (Km445.share (s.area.long b) (s.area.across b) t (s.area.across b) s.craft).length := by rw [share_length]; exact hk
  obtain ⟨m, hm⟩ : ∃ m, (Km445.share (s.area.long b) (s.area.across b) t (s.area.across b) s.craft)[k]? = some m := ⟨_, List.getElem?_eq_getElem hl⟩
  have h2 : (go s.area s.craft b t).legs.getD k 0 = m := by rw [List.getD_eq_getElem?_getD]; show ((Km445.share _ _ _ _ _)[k]?).getD 0 = m; rw [hm]; rfl
  have f := share_facts _ _ _ _ _ _ _ _ hc hm
  have okc := hs.craft c (List.mem_of_getElem? hc)
  have le := share_le _ _ _ _ _ m (List.mem_of_getElem? hm)
  have ac := (across_pos hs.area b).2
  refine ⟨⟨hs.area, by show okC (s.one k); rw [h1]; exact okc, by show (go s.area s.craft b t).legs.getD k 0 ≤ 501; rw [h2]; omega, ?_⟩, ?_⟩
  · show (go s.area s.craft b t).legs.getD k 0 = 0 ∨ _ + ((go s.area s.craft b t).legs.getD k 0 - 1) * (s.one k).strip < _
    rw [h1, h2]
    exact f.2
  · show (go s.area s.craft b t).legs.getD k 0 ≤ (s.one k).legs _ _ _
    rw [h1, h2]; exact f.1
theorem flown_cs {s : Sea} (hs : SeaOk s) {p : Plan} (e : s.plan = some p) {k : Nat} (hk : k < s.craft.length) : s.flown p k = min (p.legs.getD k 0) ((s.one k).legs (s.area.long p.along) (s.area.across p.along) s.time) := by
  have f := (cs_ok hs e hk).2
  have ht := hs.time p e
  rw [flown_eq]
  have f' : p.legs.getD k 0 ≤ (s.one k).legs (s.area.long p.along) (s.area.across p.along) p.hours := f
  rw [legs_eq] at f' ⊢
  have hp : 0 < s.area.long p.along + (s.one k).strip := by have := strip_pos (s.one k); omega
  by_cases h : s.time ≤ (s.one k).hours
  · rw [Nat.min_eq_left h]; omega
  · rw [Nat.min_eq_right (show (s.one k).hours ≤ s.time by omega)]
    rw [Nat.min_eq_right (show (s.one k).hours ≤ p.hours by omega)] at f'
    have g : ((s.one k).speed * (s.one k).hours + (s.one k).strip) / (s.area.long p.along + (s.one k).strip) ≤ ((s.one k).speed * s.time + (s.one k).strip) / (s.area.long p.along + (s.one k).strip) := by
      apply Nat.div_le_div_right
      have := Nat.mul_le_mul_left (s.one k).speed (show (s.one k).hours ≤ s.time by omega)
      omega
    omega
theorem ceil_le {z v t : Nat} (hv : 1 ≤ v) : (z + v - 1) / v ≤ t ↔ z ≤ v * t := by
  rw [← Nat.lt_succ_iff, Nat.div_lt_iff_lt_mul (by omega), Nat.succ_mul, Nat.mul_comm]
  omega
/-! ### who sees it first -/
theorem fold_when (h : Nat → Option Nat) : ∀ (n : Nat) (t k : Nat), (List.range n).foldl (fun (r : Option (Nat × Nat)) k => match h k with
      | none => r
      | some t => match r with
        | none => some (t, k)
        | some (u, j) => if t < u then some (t, k) else some (u, j)) none = some (t, k) →
    k < n ∧ h k = some t ∧ (∀ i u, i < n → h i = some u → t ≤ u) ∧ (∀ i u, i < k → h i = some u → t < u)
  := by
  have main : ∀ n : Nat, (∀ t k, (List.range n).foldl (fun (r : Option (Nat × Nat)) k => match h k with
      | none => r
      | some t => match r with
        | none => some (t, k)
        | some (u, j) => if t < u then some (t, k) else some (u, j)) none = some (t, k) → k < n ∧ h k = some t ∧ (∀ i u, i < n → h i = some u → t ≤ u) ∧ (∀ i u, i < k → h i = some u → t < u)) ∧
      ((List.range n).foldl (fun (r : Option (Nat × Nat)) k => match h k with
      | none => r
      | some t => match r with
        | none => some (t, k)
        | some (u, j) => if t < u then some (t, k) else some (u, j)) none = none → ∀ i, i < n → h i = none) := by
    intro n
    induction n with
    | zero => exact ⟨fun t k e => by simp at e, fun _ i hi => by omega⟩
    | succ n ih =>
      rw [List.range_succ, List.foldl_append, List.foldl_cons, List.foldl_nil]
      generalize (List.range n).foldl (fun (r : Option (Nat × Nat)) k => match h k with
        | none => r
        | some t => match r with
          | none => some (t, k)
          | some (u, j) => if t < u then some (t, k) else some (u, j)) none = r at ih
      cases hn : h n with
      | none =>
        refine ⟨fun t k e => ?_, fun e i hi => ?_⟩
        · obtain ⟨g1, g2, g3, g4⟩ := ih.1 t k e
          refine ⟨by omega, g2, fun i u hi hu => ?_, g4⟩
          by_cases z : i = n
          · subst z; rw [hn] at hu; cases hu
          · exact g3 i u (by omega) hu
        · by_cases z : i = n
          · subst z; exact hn
          · exact ih.2 e i (by omega)
      | some v =>
        cases r with
        | none =>
          have no := ih.2 rfl
          refine ⟨fun t k e => ?_, fun e => by cases e⟩
          cases e
          refine ⟨by omega, hn, fun i u hi hu => ?_, fun i u hi hu => ?_⟩
          · by_cases z : i = n
            · subst z; rw [hn] at hu; cases hu; exact Nat.le_refl _
            · rw [no i (by omega)] at hu; cases hu
          · rw [no i (by omega)] at hu; cases hu
        | some w =>
          obtain ⟨u0, j⟩ := w
          obtain ⟨g1, g2, g3, g4⟩ := ih.1 u0 j rfl
          refine ⟨fun t k e => ?_, fun e => ?_⟩
          · dsimp only at e
            by_cases z : v < u0
            · rw [if_pos z] at e; cases e
              refine ⟨by omega, hn, fun i u hi hu => ?_, fun i u hi hu => ?_⟩
              · by_cases z : i = n
                · subst z; rw [hn] at hu; cases hu; exact Nat.le_refl _
                · have := g3 i u (by omega) hu; omega
              · have := g3 i u (by omega) hu; omega
            · rw [if_neg z] at e; cases e
              refine ⟨by omega, g2, fun i u hi hu => ?_, g4⟩
              by_cases z : i = n
              · subst z; rw [hn] at hu; cases hu; omega
              · exact g3 i u (by omega) hu
          · dsimp only at e; split at e <;> cases e
  intro n t k e
  exact (main n).1 t k e
theorem when_is {s : Sea} {p : Plan} {x y : Int} {t k : Nat} (e : s.when p x y = some (t, k)) : k < s.craft.length ∧ (cs s p k).hrs x y = some t ∧ (∀ i u, i < s.craft.length → (cs s p i).hrs x y = some u → t ≤ u) ∧ (∀ i u, i < k → (cs s p i).hrs x y = some u → t < u) := by
  refine fold_when (fun i => (cs s p i).hrs x y) _ t k ?_
  rw [← e]
  unfold Sea.when
  congr 1
  funext r j
  unfold Cs.hrs
  rw [sees_cs]
  cases (cs s p j).dist x y with
  | none => rfl
  | some d => rfl
theorem seen_cs {s : Sea} (hs : SeaOk s) {p : Plan} (e : s.plan = some p) (x y : Int) : ((List.range s.craft.length).filter fun k => match s.sees p k x y with
        | none => false
        | some z => decide (z ≤ (s.one k).speed * s.time)).length = ((List.range s.craft.length).filter fun k => match (cs s p k).hrs x y with
        | none => false
        | some u => decide (u ≤ s.time)).length := by
  congr 1
  refine List.filter_congr fun k hk => ?_
  have okc := (cs_ok hs e (List.mem_range.mp hk)).1.c
  unfold Cs.hrs
  rw [sees_cs]
  cases (cs s p k).dist x y with
  | none => rfl
  | some d =>
    show decide _ = decide _
    exact decide_eq_decide.mpr (ceil_le okc.1).symm
end SL

end
section
set_option Elab.async false
set_option linter.all false
set_option maxRecDepth 100000
set_option maxHeartbeats 2000000
namespace SL
open PySem PySem.Spec PyProof.Rows L2
def top (i : Nat) : Stmt := PySem.Challenge.pw_searchlegs_s01_answers.main.body.getD i (.Pass ⟨0, 0, 0, 0⟩)
abbrev s_Changes_init : Stmt := inClass (top 2) 0
abbrev s_Changes_made : Stmt := inClass (top 2) 1
abbrev s_Changes_take_back : Stmt := inClass (top 2) 2
abbrev s_Changes_do_again : Stmt := inClass (top 2) 3
abbrev s_Area_init : Stmt := inClass (top 5) 0
abbrev s_Craft_init : Stmt := inClass (top 6) 0
abbrev s_Plan_init : Stmt := inClass (top 7) 0
abbrev s_leg_length : Stmt := top 8
abbrev s_places_across : Stmt := top 9
abbrev s_distance_of_legs : Stmt := top 10
abbrev s_most_legs : Stmt := top 11
abbrev s_places_seen : Stmt := top 12
abbrev s_is_done : Stmt := top 13
abbrev s_least_hours : Stmt := top 14
abbrev s_legs_needed : Stmt := top 15
abbrev s_shared_out : Stmt := top 16
abbrev s_best_plan : Stmt := top 17
abbrev s_places_before : Stmt := top 18
abbrev s_is_within : Stmt := top 20
abbrev s_legs_done : Stmt := top 21
abbrev s_Course_init : Stmt := inClass (top 22) 0
abbrev s_Course_line_of : Stmt := inClass (top 22) 1
abbrev s_Course_along_leg : Stmt := inClass (top 22) 2
abbrev s_Course_place_on : Stmt := inClass (top 22) 3
abbrev s_Course_gone_by : Stmt := inClass (top 22) 4
abbrev s_Course_leg_by : Stmt := inClass (top 22) 5
abbrev s_Course_place_by : Stmt := inClass (top 22) 6
abbrev s_Course_first_leg_seeing : Stmt := inClass (top 22) 7
abbrev s_Course_hours_to_see : Stmt := inClass (top 22) 8
abbrev s_is_area : Stmt := top 40
abbrev s_is_craft : Stmt := top 41
abbrev s_way_sign : Stmt := top 42
abbrev s_Search_init : Stmt := inClass (top 43) 0
abbrev s_Search_standing : Stmt := inClass (top 43) 1
abbrev s_Search_put : Stmt := inClass (top 43) 2
abbrev s_Search_change : Stmt := inClass (top 43) 3
abbrev s_Search_sl_start : Stmt := inClass (top 43) 4
abbrev s_Search_sl_craft : Stmt := inClass (top 43) 5
abbrev s_Search_sl_area : Stmt := inClass (top 43) 6
abbrev s_Search_sl_drop : Stmt := inClass (top 43) 7
abbrev s_Search_sl_take : Stmt := inClass (top 43) 8
abbrev s_Search_sl_hours : Stmt := inClass (top 43) 9
abbrev s_Search_sl_alone : Stmt := inClass (top 43) 10
abbrev s_Search_sl_soonest : Stmt := inClass (top 43) 11
abbrev s_Search_sl_by : Stmt := inClass (top 43) 12
abbrev s_Search_sl_plan : Stmt := inClass (top 43) 13
abbrev s_Search_sl_legs : Stmt := inClass (top 43) 14
abbrev s_Search_course_of : Stmt := inClass (top 43) 15
abbrev s_Search_sights_of : Stmt := inClass (top 43) 16
abbrev s_Search_sl_leg : Stmt := inClass (top 43) 17
abbrev s_Search_sl_where : Stmt := inClass (top 43) 18
abbrev s_Search_sl_when : Stmt := inClass (top 43) 19
abbrev s_Search_sl_seen : Stmt := inClass (top 43) 20
abbrev s_Search_sl_most : Stmt := inClass (top 43) 21
abbrev s_Search_sl_look : Stmt := inClass (top 43) 22
abbrev s_Search_sl_size : Stmt := inClass (top 43) 23
abbrev s_Search_sl_ends : Stmt := inClass (top 43) 24
abbrev s_Search_sl_back : Stmt := inClass (top 43) 25
abbrev s_Search_sl_again : Stmt := inClass (top 43) 26
abbrev s_Search_sl_state : Stmt := inClass (top 43) 27
abbrev s_answer_change : Stmt := top 46
abbrev s_answer_about_hours : Stmt := top 47
abbrev s_answer_about_legs : Stmt := top 48
abbrev s_answer_about_sizes : Stmt := top 49
abbrev s_answer_about_changes : Stmt := top 50
abbrev s_answer_call : Stmt := top 51
abbrev s_answers : Stmt := top 52
abbrev n_Changes_init : List Str := ["self"]
abbrev p_Changes_init : List Str := ["self"]
theorem sc_Changes_init : FnScope n_Changes_init p_Changes_init (defScope s_Changes_init) := ⟨rfl, rfl, rfl, by decide +kernel, rfl, by decide +kernel, by decide +kernel⟩
abbrev n_Changes_made : List Str := ["self", "was"]
abbrev p_Changes_made : List Str := ["self", "was"]
theorem sc_Changes_made : FnScope n_Changes_made p_Changes_made (defScope s_Changes_made) := ⟨rfl, rfl, rfl, by decide +kernel, rfl, by decide +kernel, by decide +kernel⟩
abbrev n_Changes_take_back : List Str := ["self", "standing"]
abbrev p_Changes_take_back : List Str := ["self", "standing"]
theorem sc_Changes_take_back : FnScope n_Changes_take_back p_Changes_take_back (defScope s_Changes_take_back) := ⟨rfl, rfl, rfl, by decide +kernel, rfl, by decide +kernel, by decide +kernel⟩
abbrev n_Changes_do_again : List Str := ["self", "standing"]
abbrev p_Changes_do_again : List Str := ["self", "standing"]
theorem sc_Changes_do_again : FnScope n_Changes_do_again p_Changes_do_again (defScope s_Changes_do_again) := ⟨rfl, rfl, rfl, by decide +kernel, rfl, by decide +kernel, by decide +kernel⟩
abbrev n_Area_init : List Str := ["self", "x", "y", "wide", "high"]
abbrev p_Area_init : List Str := ["self", "x", "y", "wide", "high"]
theorem sc_Area_init : FnScope n_Area_init p_Area_init (defScope s_Area_init) := ⟨rfl, rfl, rfl, by decide +kernel, rfl, by decide +kernel, by decide +kernel⟩
abbrev n_Craft_init : List Str := ["self", "speed", "see", "hours"]
abbrev p_Craft_init : List Str := ["self", "speed", "see", "hours"]
theorem sc_Craft_init : FnScope n_Craft_init p_Craft_init (defScope s_Craft_init) := ⟨rfl, rfl, rfl, by decide +kernel, rfl, by decide +kernel, by decide +kernel⟩
abbrev n_Plan_init : List Str := ["self", "way", "hours", "shares"]
abbrev p_Plan_init : List Str := ["self", "way", "hours", "shares"]
theorem sc_Plan_init : FnScope n_Plan_init p_Plan_init (defScope s_Plan_init) := ⟨rfl, rfl, rfl, by decide +kernel, rfl, by decide +kernel, by decide +kernel⟩
abbrev n_leg_length : List Str := ["area", "way"]
abbrev p_leg_length : List Str := ["area", "way"]
theorem sc_leg_length : FnScope n_leg_length p_leg_length (defScope s_leg_length) := ⟨rfl, rfl, rfl, by decide +kernel, rfl, by decide +kernel, by decide +kernel⟩
abbrev n_places_across : List Str := ["area", "way"]
abbrev p_places_across : List Str := ["area", "way"]
theorem sc_places_across : FnScope n_places_across p_places_across (defScope s_places_across) := ⟨rfl, rfl, rfl, by decide +kernel, rfl, by decide +kernel, by decide +kernel⟩
abbrev n_distance_of_legs : List Str := ["area", "craft", "way", "legs"]
abbrev p_distance_of_legs : List Str := ["area", "craft", "way", "legs"]
theorem sc_distance_of_legs : FnScope n_distance_of_legs p_distance_of_legs (defScope s_distance_of_legs) := ⟨rfl, rfl, rfl, by decide +kernel, rfl, by decide +kernel, by decide +kernel⟩
abbrev n_most_legs : List Str := ["area", "craft", "way", "t", "reach", "legs"]
abbrev p_most_legs : List Str := ["area", "craft", "way", "t"]
theorem sc_most_legs : FnScope n_most_legs p_most_legs (defScope s_most_legs) := ⟨rfl, rfl, rfl, by decide +kernel, rfl, by decide +kernel, by decide +kernel⟩
abbrev n_places_seen : List Str := ["area", "crafts", "way", "t", "craft"]
abbrev p_places_seen : List Str := ["area", "crafts", "way", "t"]
theorem sc_places_seen : FnScope n_places_seen p_places_seen (defScope s_places_seen) := ⟨rfl, rfl, rfl, by decide +kernel, rfl, by decide +kernel, by decide +kernel⟩
abbrev n_is_done : List Str := ["area", "crafts", "way", "t"]
abbrev p_is_done : List Str := ["area", "crafts", "way", "t"]
theorem sc_is_done : FnScope n_is_done p_is_done (defScope s_is_done) := ⟨rfl, rfl, rfl, by decide +kernel, rfl, by decide +kernel, by decide +kernel⟩
abbrev n_least_hours : List Str := ["area", "crafts", "way", "too_few", "enough", "middle"]
abbrev p_least_hours : List Str := ["area", "crafts", "way"]
theorem sc_least_hours : FnScope n_least_hours p_least_hours (defScope s_least_hours) := ⟨rfl, rfl, rfl, by decide +kernel, rfl, by decide +kernel, by decide +kernel⟩
abbrev n_legs_needed : List Str := ["craft", "places"]
abbrev p_legs_needed : List Str := ["craft", "places"]
theorem sc_legs_needed : FnScope n_legs_needed p_legs_needed (defScope s_legs_needed) := ⟨rfl, rfl, rfl, by decide +kernel, rfl, by decide +kernel, by decide +kernel⟩
abbrev n_shared_out : List Str := ["area", "crafts", "way", "hours", "shares", "left", "craft", "legs"]
abbrev p_shared_out : List Str := ["area", "crafts", "way", "hours"]
theorem sc_shared_out : FnScope n_shared_out p_shared_out (defScope s_shared_out) := ⟨rfl, rfl, rfl, by decide +kernel, rfl, by decide +kernel, by decide +kernel⟩
abbrev n_best_plan : List Str := ["area", "crafts", "best_way", "best_hours", "way", "hours"]
abbrev p_best_plan : List Str := ["area", "crafts"]
theorem sc_best_plan : FnScope n_best_plan p_best_plan (defScope s_best_plan) := ⟨rfl, rfl, rfl, by decide +kernel, rfl, by decide +kernel, by decide +kernel⟩
abbrev n_places_before : List Str := ["crafts", "plan", "k", "j"]
abbrev p_places_before : List Str := ["crafts", "plan", "k"]
theorem sc_places_before : FnScope n_places_before p_places_before (defScope s_places_before) := ⟨rfl, rfl, rfl, by decide +kernel, rfl, by decide +kernel, by decide +kernel⟩
abbrev n_is_within : List Str := ["area", "x", "y"]
abbrev p_is_within : List Str := ["area", "x", "y"]
theorem sc_is_within : FnScope n_is_within p_is_within (defScope s_is_within) := ⟨rfl, rfl, rfl, by decide +kernel, rfl, by decide +kernel, by decide +kernel⟩
abbrev n_legs_done : List Str := ["area", "craft", "plan", "k", "hour"]
abbrev p_legs_done : List Str := ["area", "craft", "plan", "k", "hour"]
theorem sc_legs_done : FnScope n_legs_done p_legs_done (defScope s_legs_done) := ⟨rfl, rfl, rfl, by decide +kernel, rfl, by decide +kernel, by decide +kernel⟩
abbrev n_Course_init : List Str := ["self", "area", "crafts", "plan", "k"]
abbrev p_Course_init : List Str := ["self", "area", "crafts", "plan", "k"]
theorem sc_Course_init : FnScope n_Course_init p_Course_init (defScope s_Course_init) := ⟨rfl, rfl, rfl, by decide +kernel, rfl, by decide +kernel, by decide +kernel⟩
abbrev n_Course_line_of : List Str := ["self", "i", "middle"]
abbrev p_Course_line_of : List Str := ["self", "i"]
theorem sc_Course_line_of : FnScope n_Course_line_of p_Course_line_of (defScope s_Course_line_of) := ⟨rfl, rfl, rfl, by decide +kernel, rfl, by decide +kernel, by decide +kernel⟩
abbrev n_Course_along_leg : List Str := ["self", "i", "far"]
abbrev p_Course_along_leg : List Str := ["self", "i", "far"]
theorem sc_Course_along_leg : FnScope n_Course_along_leg p_Course_along_leg (defScope s_Course_along_leg) := ⟨rfl, rfl, rfl, by decide +kernel, rfl, by decide +kernel, by decide +kernel⟩
abbrev n_Course_place_on : List Str := ["self", "i", "far", "along", "across"]
abbrev p_Course_place_on : List Str := ["self", "i", "far"]
theorem sc_Course_place_on : FnScope n_Course_place_on p_Course_place_on (defScope s_Course_place_on) := ⟨rfl, rfl, rfl, by decide +kernel, rfl, by decide +kernel, by decide +kernel⟩
abbrev n_Course_gone_by : List Str := ["self", "hour", "whole"]
abbrev p_Course_gone_by : List Str := ["self", "hour"]
theorem sc_Course_gone_by : FnScope n_Course_gone_by p_Course_gone_by (defScope s_Course_gone_by) := ⟨rfl, rfl, rfl, by decide +kernel, rfl, by decide +kernel, by decide +kernel⟩
abbrev n_Course_leg_by : List Str := ["self", "hour"]
abbrev p_Course_leg_by : List Str := ["self", "hour"]
theorem sc_Course_leg_by : FnScope n_Course_leg_by p_Course_leg_by (defScope s_Course_leg_by) := ⟨rfl, rfl, rfl, by decide +kernel, rfl, by decide +kernel, by decide +kernel⟩
abbrev n_Course_place_by : List Str := ["self", "hour", "far"]
abbrev p_Course_place_by : List Str := ["self", "hour"]
theorem sc_Course_place_by : FnScope n_Course_place_by p_Course_place_by (defScope s_Course_place_by) := ⟨rfl, rfl, rfl, by decide +kernel, rfl, by decide +kernel, by decide +kernel⟩
abbrev n_Course_first_leg_seeing : List Str := ["self", "across", "own", "i"]
abbrev p_Course_first_leg_seeing : List Str := ["self", "across"]
theorem sc_Course_first_leg_seeing : FnScope n_Course_first_leg_seeing p_Course_first_leg_seeing (defScope s_Course_first_leg_seeing) := ⟨rfl, rfl, rfl, by decide +kernel, rfl, by decide +kernel, by decide +kernel⟩
abbrev n_Course_hours_to_see : List Str := ["self", "x", "y", "east", "north", "i", "far"]
abbrev p_Course_hours_to_see : List Str := ["self", "x", "y"]
theorem sc_Course_hours_to_see : FnScope n_Course_hours_to_see p_Course_hours_to_see (defScope s_Course_hours_to_see) := ⟨rfl, rfl, rfl, by decide +kernel, rfl, by decide +kernel, by decide +kernel⟩
abbrev n_is_area : List Str := ["x", "y", "wide", "high"]
abbrev p_is_area : List Str := ["x", "y", "wide", "high"]
theorem sc_is_area : FnScope n_is_area p_is_area (defScope s_is_area) := ⟨rfl, rfl, rfl, by decide +kernel, rfl, by decide +kernel, by decide +kernel⟩
abbrev n_is_craft : List Str := ["speed", "see", "hours"]
abbrev p_is_craft : List Str := ["speed", "see", "hours"]
theorem sc_is_craft : FnScope n_is_craft p_is_craft (defScope s_is_craft) := ⟨rfl, rfl, rfl, by decide +kernel, rfl, by decide +kernel, by decide +kernel⟩
abbrev n_way_sign : List Str := ["way"]
abbrev p_way_sign : List Str := ["way"]
theorem sc_way_sign : FnScope n_way_sign p_way_sign (defScope s_way_sign) := ⟨rfl, rfl, rfl, by decide +kernel, rfl, by decide +kernel, by decide +kernel⟩
abbrev n_Search_init : List Str := ["self"]
abbrev p_Search_init : List Str := ["self"]
theorem sc_Search_init : FnScope n_Search_init p_Search_init (defScope s_Search_init) := ⟨rfl, rfl, rfl, by decide +kernel, rfl, by decide +kernel, by decide +kernel⟩
abbrev n_Search_standing : List Str := ["self"]
abbrev p_Search_standing : List Str := ["self"]
theorem sc_Search_standing : FnScope n_Search_standing p_Search_standing (defScope s_Search_standing) := ⟨rfl, rfl, rfl, by decide +kernel, rfl, by decide +kernel, by decide +kernel⟩
abbrev n_Search_put : List Str := ["self", "parts"]
abbrev p_Search_put : List Str := ["self", "parts"]
theorem sc_Search_put : FnScope n_Search_put p_Search_put (defScope s_Search_put) := ⟨rfl, rfl, rfl, by decide +kernel, rfl, by decide +kernel, by decide +kernel⟩
abbrev n_Search_change : List Str := ["self", "area", "crafts", "plan", "hour"]
abbrev p_Search_change : List Str := ["self", "area", "crafts", "plan", "hour"]
theorem sc_Search_change : FnScope n_Search_change p_Search_change (defScope s_Search_change) := ⟨rfl, rfl, rfl, by decide +kernel, rfl, by decide +kernel, by decide +kernel⟩
abbrev n_Search_sl_start : List Str := ["self", "x", "y", "wide", "high"]
abbrev p_Search_sl_start : List Str := ["self", "x", "y", "wide", "high"]
theorem sc_Search_sl_start : FnScope n_Search_sl_start p_Search_sl_start (defScope s_Search_sl_start) := ⟨rfl, rfl, rfl, by decide +kernel, rfl, by decide +kernel, by decide +kernel⟩
abbrev n_Search_sl_craft : List Str := ["self", "speed", "see", "hours"]
abbrev p_Search_sl_craft : List Str := ["self", "speed", "see", "hours"]
theorem sc_Search_sl_craft : FnScope n_Search_sl_craft p_Search_sl_craft (defScope s_Search_sl_craft) := ⟨rfl, rfl, rfl, by decide +kernel, rfl, by decide +kernel, by decide +kernel⟩
abbrev n_Search_sl_area : List Str := ["self", "x", "y", "wide", "high"]
abbrev p_Search_sl_area : List Str := ["self", "x", "y", "wide", "high"]
theorem sc_Search_sl_area : FnScope n_Search_sl_area p_Search_sl_area (defScope s_Search_sl_area) := ⟨rfl, rfl, rfl, by decide +kernel, rfl, by decide +kernel, by decide +kernel⟩
abbrev n_Search_sl_drop : List Str := ["self", "k"]
abbrev p_Search_sl_drop : List Str := ["self", "k"]
theorem sc_Search_sl_drop : FnScope n_Search_sl_drop p_Search_sl_drop (defScope s_Search_sl_drop) := ⟨rfl, rfl, rfl, by decide +kernel, rfl, by decide +kernel, by decide +kernel⟩
abbrev n_Search_sl_take : List Str := ["self", "plan"]
abbrev p_Search_sl_take : List Str := ["self"]
theorem sc_Search_sl_take : FnScope n_Search_sl_take p_Search_sl_take (defScope s_Search_sl_take) := ⟨rfl, rfl, rfl, by decide +kernel, rfl, by decide +kernel, by decide +kernel⟩
abbrev n_Search_sl_hours : List Str := ["self", "n"]
abbrev p_Search_sl_hours : List Str := ["self", "n"]
theorem sc_Search_sl_hours : FnScope n_Search_sl_hours p_Search_sl_hours (defScope s_Search_sl_hours) := ⟨rfl, rfl, rfl, by decide +kernel, rfl, by decide +kernel, by decide +kernel⟩
abbrev n_Search_sl_alone : List Str := ["self", "k", "way", "craft", "hours"]
abbrev p_Search_sl_alone : List Str := ["self", "k", "way"]
theorem sc_Search_sl_alone : FnScope n_Search_sl_alone p_Search_sl_alone (defScope s_Search_sl_alone) := ⟨rfl, rfl, rfl, by decide +kernel, rfl, by decide +kernel, by decide +kernel⟩
abbrev n_Search_sl_soonest : List Str := ["self", "plan"]
abbrev p_Search_sl_soonest : List Str := ["self"]
theorem sc_Search_sl_soonest : FnScope n_Search_sl_soonest p_Search_sl_soonest (defScope s_Search_sl_soonest) := ⟨rfl, rfl, rfl, by decide +kernel, rfl, by decide +kernel, by decide +kernel⟩
abbrev n_Search_sl_by : List Str := ["self", "way", "t", "across"]
abbrev p_Search_sl_by : List Str := ["self", "way", "t"]
theorem sc_Search_sl_by : FnScope n_Search_sl_by p_Search_sl_by (defScope s_Search_sl_by) := ⟨rfl, rfl, rfl, by decide +kernel, rfl, by decide +kernel, by decide +kernel⟩
abbrev n_Search_sl_plan : List Str := ["self", "missing"]
abbrev p_Search_sl_plan : List Str := ["self"]
theorem sc_Search_sl_plan : FnScope n_Search_sl_plan p_Search_sl_plan (defScope s_Search_sl_plan) := ⟨rfl, rfl, rfl, by decide +kernel, rfl, by decide +kernel, by decide +kernel⟩
abbrev n_Search_sl_legs : List Str := ["self", "k", "legs", "distance"]
abbrev p_Search_sl_legs : List Str := ["self", "k"]
theorem sc_Search_sl_legs : FnScope n_Search_sl_legs p_Search_sl_legs (defScope s_Search_sl_legs) := ⟨rfl, rfl, rfl, by decide +kernel, rfl, by decide +kernel, by decide +kernel⟩
abbrev n_Search_course_of : List Str := ["self", "k"]
abbrev p_Search_course_of : List Str := ["self", "k"]
theorem sc_Search_course_of : FnScope n_Search_course_of p_Search_course_of (defScope s_Search_course_of) := ⟨rfl, rfl, rfl, by decide +kernel, rfl, by decide +kernel, by decide +kernel⟩
abbrev n_Search_sights_of : List Str := ["self", "x", "y", "k"]
abbrev p_Search_sights_of : List Str := ["self", "x", "y"]
theorem sc_Search_sights_of : FnScope n_Search_sights_of p_Search_sights_of (defScope s_Search_sights_of) := ⟨rfl, rfl, rfl, by decide +kernel, rfl, by decide +kernel, by decide +kernel⟩
abbrev n_Search_sl_leg : List Str := ["self", "k", "i", "course"]
abbrev p_Search_sl_leg : List Str := ["self", "k", "i"]
theorem sc_Search_sl_leg : FnScope n_Search_sl_leg p_Search_sl_leg (defScope s_Search_sl_leg) := ⟨rfl, rfl, rfl, by decide +kernel, rfl, by decide +kernel, by decide +kernel⟩
abbrev n_Search_sl_where : List Str := ["self", "k", "course", "done"]
abbrev p_Search_sl_where : List Str := ["self", "k"]
theorem sc_Search_sl_where : FnScope n_Search_sl_where p_Search_sl_where (defScope s_Search_sl_where) := ⟨rfl, rfl, rfl, by decide +kernel, rfl, by decide +kernel, by decide +kernel⟩
abbrev n_Search_sl_when : List Str := ["self", "x", "y", "sights", "first", "hours"]
abbrev p_Search_sl_when : List Str := ["self", "x", "y"]
theorem sc_Search_sl_when : FnScope n_Search_sl_when p_Search_sl_when (defScope s_Search_sl_when) := ⟨rfl, rfl, rfl, by decide +kernel, rfl, by decide +kernel, by decide +kernel⟩
abbrev n_Search_sl_seen : List Str := ["self", "x", "y", "sights", "hours"]
abbrev p_Search_sl_seen : List Str := ["self", "x", "y"]
theorem sc_Search_sl_seen : FnScope n_Search_sl_seen p_Search_sl_seen (defScope s_Search_sl_seen) := ⟨rfl, rfl, rfl, by decide +kernel, rfl, by decide +kernel, by decide +kernel⟩
abbrev n_Search_sl_most : List Str := ["self", "k", "way", "t", "craft", "legs"]
abbrev p_Search_sl_most : List Str := ["self", "k", "way", "t"]
theorem sc_Search_sl_most : FnScope n_Search_sl_most p_Search_sl_most (defScope s_Search_sl_most) := ⟨rfl, rfl, rfl, by decide +kernel, rfl, by decide +kernel, by decide +kernel⟩
abbrev n_Search_sl_look : List Str := ["self", "k", "craft"]
abbrev p_Search_sl_look : List Str := ["self", "k"]
theorem sc_Search_sl_look : FnScope n_Search_sl_look p_Search_sl_look (defScope s_Search_sl_look) := ⟨rfl, rfl, rfl, by decide +kernel, rfl, by decide +kernel, by decide +kernel⟩
abbrev n_Search_sl_size : List Str := ["self", "area"]
abbrev p_Search_sl_size : List Str := ["self"]
theorem sc_Search_sl_size : FnScope n_Search_sl_size p_Search_sl_size (defScope s_Search_sl_size) := ⟨rfl, rfl, rfl, by decide +kernel, rfl, by decide +kernel, by decide +kernel⟩
abbrev n_Search_sl_ends : List Str := ["self", "done", "k", "craft"]
abbrev p_Search_sl_ends : List Str := ["self"]
theorem sc_Search_sl_ends : FnScope n_Search_sl_ends p_Search_sl_ends (defScope s_Search_sl_ends) := ⟨rfl, rfl, rfl, by decide +kernel, rfl, by decide +kernel, by decide +kernel⟩
abbrev n_Search_sl_back : List Str := ["self"]
abbrev p_Search_sl_back : List Str := ["self"]
theorem sc_Search_sl_back : FnScope n_Search_sl_back p_Search_sl_back (defScope s_Search_sl_back) := ⟨rfl, rfl, rfl, by decide +kernel, rfl, by decide +kernel, by decide +kernel⟩
abbrev n_Search_sl_again : List Str := ["self"]
abbrev p_Search_sl_again : List Str := ["self"]
theorem sc_Search_sl_again : FnScope n_Search_sl_again p_Search_sl_again (defScope s_Search_sl_again) := ⟨rfl, rfl, rfl, by decide +kernel, rfl, by decide +kernel, by decide +kernel⟩
abbrev n_Search_sl_state : List Str := ["self", "planned"]
abbrev p_Search_sl_state : List Str := ["self"]
theorem sc_Search_sl_state : FnScope n_Search_sl_state p_Search_sl_state (defScope s_Search_sl_state) := ⟨rfl, rfl, rfl, by decide +kernel, rfl, by decide +kernel, by decide +kernel⟩
abbrev n_answer_change : List Str := ["search", "number", "given"]
abbrev p_answer_change : List Str := ["search", "number", "given"]
theorem sc_answer_change : FnScope n_answer_change p_answer_change (defScope s_answer_change) := ⟨rfl, rfl, rfl, by decide +kernel, rfl, by decide +kernel, by decide +kernel⟩
abbrev n_answer_about_hours : List Str := ["search", "number", "given"]
abbrev p_answer_about_hours : List Str := ["search", "number", "given"]
theorem sc_answer_about_hours : FnScope n_answer_about_hours p_answer_about_hours (defScope s_answer_about_hours) := ⟨rfl, rfl, rfl, by decide +kernel, rfl, by decide +kernel, by decide +kernel⟩
abbrev n_answer_about_legs : List Str := ["search", "number", "given"]
abbrev p_answer_about_legs : List Str := ["search", "number", "given"]
theorem sc_answer_about_legs : FnScope n_answer_about_legs p_answer_about_legs (defScope s_answer_about_legs) := ⟨rfl, rfl, rfl, by decide +kernel, rfl, by decide +kernel, by decide +kernel⟩
abbrev n_answer_about_sizes : List Str := ["search", "number", "given"]
abbrev p_answer_about_sizes : List Str := ["search", "number", "given"]
theorem sc_answer_about_sizes : FnScope n_answer_about_sizes p_answer_about_sizes (defScope s_answer_about_sizes) := ⟨rfl, rfl, rfl, by decide +kernel, rfl, by decide +kernel, by decide +kernel⟩
abbrev n_answer_about_changes : List Str := ["search", "number"]
abbrev p_answer_about_changes : List Str := ["search", "number"]
theorem sc_answer_about_changes : FnScope n_answer_about_changes p_answer_about_changes (defScope s_answer_about_changes) := ⟨rfl, rfl, rfl, by decide +kernel, rfl, by decide +kernel, by decide +kernel⟩
abbrev n_answer_call : List Str := ["search", "number", "given"]
abbrev p_answer_call : List Str := ["search", "number", "given"]
theorem sc_answer_call : FnScope n_answer_call p_answer_call (defScope s_answer_call) := ⟨rfl, rfl, rfl, by decide +kernel, rfl, by decide +kernel, by decide +kernel⟩
abbrev n_answers : List Str := ["calls", "search", "told", "at", "number", "end", "answer"]
abbrev p_answers : List Str := ["calls"]
theorem sc_answers : FnScope n_answers p_answers (defScope s_answers) := ⟨rfl, rfl, rfl, by decide +kernel, rfl, by decide +kernel, by decide +kernel⟩
structure Ad where
  c_Changes : Addr
  c_Area : Addr
  c_Craft : Addr
  c_Plan : Addr
  c_Course : Addr
  c_Search : Addr
  t_SIZES : Addr
  f_Changes_init : Addr
  d_Changes_init : FuncData
  f_Changes_made : Addr
  d_Changes_made : FuncData
  f_Changes_take_back : Addr
  d_Changes_take_back : FuncData
  f_Changes_do_again : Addr
  d_Changes_do_again : FuncData
  f_Area_init : Addr
  d_Area_init : FuncData
  f_Craft_init : Addr
  d_Craft_init : FuncData
  f_Plan_init : Addr
  d_Plan_init : FuncData
  f_leg_length : Addr
  d_leg_length : FuncData
  f_places_across : Addr
  d_places_across : FuncData
  f_distance_of_legs : Addr
  d_distance_of_legs : FuncData
  f_most_legs : Addr
  d_most_legs : FuncData
  f_places_seen : Addr
  d_places_seen : FuncData
  f_is_done : Addr
  d_is_done : FuncData
  f_least_hours : Addr
  d_least_hours : FuncData
  f_legs_needed : Addr
  d_legs_needed : FuncData
  f_shared_out : Addr
  d_shared_out : FuncData
  f_best_plan : Addr
  d_best_plan : FuncData
  f_places_before : Addr
  d_places_before : FuncData
  f_is_within : Addr
  d_is_within : FuncData
  f_legs_done : Addr
  d_legs_done : FuncData
  f_Course_init : Addr
  d_Course_init : FuncData
  f_Course_line_of : Addr
  d_Course_line_of : FuncData
  f_Course_along_leg : Addr
  d_Course_along_leg : FuncData
  f_Course_place_on : Addr
  d_Course_place_on : FuncData
  f_Course_gone_by : Addr
  d_Course_gone_by : FuncData
  f_Course_leg_by : Addr
  d_Course_leg_by : FuncData
  f_Course_place_by : Addr
  d_Course_place_by : FuncData
  f_Course_first_leg_seeing : Addr
  d_Course_first_leg_seeing : FuncData
  f_Course_hours_to_see : Addr
  d_Course_hours_to_see : FuncData
  f_is_area : Addr
  d_is_area : FuncData
  f_is_craft : Addr
  d_is_craft : FuncData
  f_way_sign : Addr
  d_way_sign : FuncData
  f_Search_init : Addr
  d_Search_init : FuncData
  f_Search_standing : Addr
  d_Search_standing : FuncData
  f_Search_put : Addr
  d_Search_put : FuncData
  f_Search_change : Addr
  d_Search_change : FuncData
  f_Search_sl_start : Addr
  d_Search_sl_start : FuncData
  f_Search_sl_craft : Addr
  d_Search_sl_craft : FuncData
  f_Search_sl_area : Addr
  d_Search_sl_area : FuncData
  f_Search_sl_drop : Addr
  d_Search_sl_drop : FuncData
  f_Search_sl_take : Addr
  d_Search_sl_take : FuncData
  f_Search_sl_hours : Addr
  d_Search_sl_hours : FuncData
  f_Search_sl_alone : Addr
  d_Search_sl_alone : FuncData
  f_Search_sl_soonest : Addr
  d_Search_sl_soonest : FuncData
  f_Search_sl_by : Addr
  d_Search_sl_by : FuncData
  f_Search_sl_plan : Addr
  d_Search_sl_plan : FuncData
  f_Search_sl_legs : Addr
  d_Search_sl_legs : FuncData
  f_Search_course_of : Addr
  d_Search_course_of : FuncData
  f_Search_sights_of : Addr
  d_Search_sights_of : FuncData
  f_Search_sl_leg : Addr
  d_Search_sl_leg : FuncData
  f_Search_sl_where : Addr
  d_Search_sl_where : FuncData
  f_Search_sl_when : Addr
  d_Search_sl_when : FuncData
  f_Search_sl_seen : Addr
  d_Search_sl_seen : FuncData
  f_Search_sl_most : Addr
  d_Search_sl_most : FuncData
  f_Search_sl_look : Addr
  d_Search_sl_look : FuncData
  f_Search_sl_size : Addr
  d_Search_sl_size : FuncData
  f_Search_sl_ends : Addr
  d_Search_sl_ends : FuncData
  f_Search_sl_back : Addr
  d_Search_sl_back : FuncData
  f_Search_sl_again : Addr
  d_Search_sl_again : FuncData
  f_Search_sl_state : Addr
  d_Search_sl_state : FuncData
  f_answer_change : Addr
  d_answer_change : FuncData
  f_answer_about_hours : Addr
  d_answer_about_hours : FuncData
  f_answer_about_legs : Addr
  d_answer_about_legs : FuncData
  f_answer_about_sizes : Addr
  d_answer_about_sizes : FuncData
  f_answer_about_changes : Addr
  d_answer_about_changes : FuncData
  f_answer_call : Addr
  d_answer_call : FuncData
  f_answers : Addr
  d_answers : FuncData
structure Txt (K : PySem.W.Frag) (mg : Str → Option Value) (a : Ad) : Prop where
  cl_Changes : Cls K a.c_Changes
  g_Changes : mg "Changes" = some (.ref a.c_Changes)
  mk_Changes : Mk K a.c_Changes a.f_Changes_init
  na_Changes_behind : NoAttr K a.c_Changes "behind"
  na_Changes_ahead : NoAttr K a.c_Changes "ahead"
  me_Changes_made : Meth K a.c_Changes "made" a.f_Changes_made
  me_Changes_take_back : Meth K a.c_Changes "take_back" a.f_Changes_take_back
  me_Changes_do_again : Meth K a.c_Changes "do_again" a.f_Changes_do_again
  cl_Area : Cls K a.c_Area
  g_Area : mg "Area" = some (.ref a.c_Area)
  mk_Area : Mk K a.c_Area a.f_Area_init
  na_Area_x : NoAttr K a.c_Area "x"
  na_Area_y : NoAttr K a.c_Area "y"
  na_Area_wide : NoAttr K a.c_Area "wide"
  na_Area_high : NoAttr K a.c_Area "high"
  cl_Craft : Cls K a.c_Craft
  g_Craft : mg "Craft" = some (.ref a.c_Craft)
  mk_Craft : Mk K a.c_Craft a.f_Craft_init
  na_Craft_speed : NoAttr K a.c_Craft "speed"
  na_Craft_see : NoAttr K a.c_Craft "see"
  na_Craft_hours : NoAttr K a.c_Craft "hours"
  na_Craft_strip : NoAttr K a.c_Craft "strip"
  cl_Plan : Cls K a.c_Plan
  g_Plan : mg "Plan" = some (.ref a.c_Plan)
  mk_Plan : Mk K a.c_Plan a.f_Plan_init
  na_Plan_way : NoAttr K a.c_Plan "way"
  na_Plan_hours : NoAttr K a.c_Plan "hours"
  na_Plan_shares : NoAttr K a.c_Plan "shares"
  cl_Course : Cls K a.c_Course
  g_Course : mg "Course" = some (.ref a.c_Course)
  mk_Course : Mk K a.c_Course a.f_Course_init
  na_Course_area : NoAttr K a.c_Course "area"
  na_Course_craft : NoAttr K a.c_Course "craft"
  na_Course_way : NoAttr K a.c_Course "way"
  na_Course_legs : NoAttr K a.c_Course "legs"
  na_Course_before : NoAttr K a.c_Course "before"
  na_Course_long : NoAttr K a.c_Course "long"
  na_Course_pitch : NoAttr K a.c_Course "pitch"
  me_Course_line_of : Meth K a.c_Course "line_of" a.f_Course_line_of
  me_Course_along_leg : Meth K a.c_Course "along_leg" a.f_Course_along_leg
  me_Course_place_on : Meth K a.c_Course "place_on" a.f_Course_place_on
  me_Course_gone_by : Meth K a.c_Course "gone_by" a.f_Course_gone_by
  me_Course_leg_by : Meth K a.c_Course "leg_by" a.f_Course_leg_by
  me_Course_place_by : Meth K a.c_Course "place_by" a.f_Course_place_by
  me_Course_first_leg_seeing : Meth K a.c_Course "first_leg_seeing" a.f_Course_first_leg_seeing
  me_Course_hours_to_see : Meth K a.c_Course "hours_to_see" a.f_Course_hours_to_see
  cl_Search : Cls K a.c_Search
  g_Search : mg "Search" = some (.ref a.c_Search)
  mk_Search : Mk K a.c_Search a.f_Search_init
  na_Search_changes : NoAttr K a.c_Search "changes"
  na_Search_area : NoAttr K a.c_Search "area"
  na_Search_crafts : NoAttr K a.c_Search "crafts"
  na_Search_plan : NoAttr K a.c_Search "plan"
  na_Search_hour : NoAttr K a.c_Search "hour"
  me_Search_standing : Meth K a.c_Search "standing" a.f_Search_standing
  me_Search_put : Meth K a.c_Search "put" a.f_Search_put
  me_Search_change : Meth K a.c_Search "change" a.f_Search_change
  me_Search_sl_start : Meth K a.c_Search "sl_start" a.f_Search_sl_start
  me_Search_sl_craft : Meth K a.c_Search "sl_craft" a.f_Search_sl_craft
  me_Search_sl_area : Meth K a.c_Search "sl_area" a.f_Search_sl_area
  me_Search_sl_drop : Meth K a.c_Search "sl_drop" a.f_Search_sl_drop
  me_Search_sl_take : Meth K a.c_Search "sl_take" a.f_Search_sl_take
  me_Search_sl_hours : Meth K a.c_Search "sl_hours" a.f_Search_sl_hours
  me_Search_sl_alone : Meth K a.c_Search "sl_alone" a.f_Search_sl_alone
  me_Search_sl_soonest : Meth K a.c_Search "sl_soonest" a.f_Search_sl_soonest
  me_Search_sl_by : Meth K a.c_Search "sl_by" a.f_Search_sl_by
  me_Search_sl_plan : Meth K a.c_Search "sl_plan" a.f_Search_sl_plan
  me_Search_sl_legs : Meth K a.c_Search "sl_legs" a.f_Search_sl_legs
  me_Search_course_of : Meth K a.c_Search "course_of" a.f_Search_course_of
  me_Search_sights_of : Meth K a.c_Search "sights_of" a.f_Search_sights_of
  me_Search_sl_leg : Meth K a.c_Search "sl_leg" a.f_Search_sl_leg
  me_Search_sl_where : Meth K a.c_Search "sl_where" a.f_Search_sl_where
  me_Search_sl_when : Meth K a.c_Search "sl_when" a.f_Search_sl_when
  me_Search_sl_seen : Meth K a.c_Search "sl_seen" a.f_Search_sl_seen
  me_Search_sl_most : Meth K a.c_Search "sl_most" a.f_Search_sl_most
  me_Search_sl_look : Meth K a.c_Search "sl_look" a.f_Search_sl_look
  me_Search_sl_size : Meth K a.c_Search "sl_size" a.f_Search_sl_size
  me_Search_sl_ends : Meth K a.c_Search "sl_ends" a.f_Search_sl_ends
  me_Search_sl_back : Meth K a.c_Search "sl_back" a.f_Search_sl_back
  me_Search_sl_again : Meth K a.c_Search "sl_again" a.f_Search_sl_again
  me_Search_sl_state : Meth K a.c_Search "sl_state" a.f_Search_sl_state
  k_MOST_CHANGES : ∃ t, mg "MOST_CHANGES" = some (.int (20) t)
  k_MOST_HOURS : ∃ t, mg "MOST_HOURS" = some (.int (100) t)
  k_NO_SUCH_CRAFT : ∃ t, mg "NO_SUCH_CRAFT" = some (.int (-2) t)
  k_NO_SUCH_LEG : ∃ t, mg "NO_SUCH_LEG" = some (.int (-2) t)
  k_NO_SUCH_CHANGE : ∃ t, mg "NO_SUCH_CHANGE" = some (.int (-2) t)
  k_NO_PLAN : ∃ t, mg "NO_PLAN" = some (.int (-6) t)
  k_PLAN_STANDS : ∃ t, mg "PLAN_STANDS" = some (.int (-16) t)
  k_PLAN_TAKEN : ∃ t, mg "PLAN_TAKEN" = some (.int (-17) t)
  k_NOT_AS_TOLD : ∃ t, mg "NOT_AS_TOLD" = some (.int (-22) t)
  k_NO_MORE_CRAFT : ∃ t, mg "NO_MORE_CRAFT" = some (.int (-28) t)
  k_CANNOT_BE_DONE : ∃ t, mg "CANNOT_BE_DONE" = some (.int (-33) t)
  k_NO_LEGS : ∃ t, mg "NO_LEGS" = some (.int (-33) t)
  k_BEYOND_PLAN : ∃ t, mg "BEYOND_PLAN" = some (.int (-75) t)
  k_FARTHEST_PLACE : ∃ t, mg "FARTHEST_PLACE" = some (.int (100000) t)
  k_LONGEST_SIDE : ∃ t, mg "LONGEST_SIDE" = some (.int (500) t)
  k_MOST_CRAFT : ∃ t, mg "MOST_CRAFT" = some (.int (4) t)
  k_MOST_SPEED : ∃ t, mg "MOST_SPEED" = some (.int (500) t)
  k_MOST_SEE : ∃ t, mg "MOST_SEE" = some (.int (200) t)
  g_SIZES : mg "SIZES" = some (.ref a.t_SIZES)
  q_SIZES : ∀ H, SqT K H a.t_SIZES [.int (4), .int (3), .int (4), .int (1), .int (0), .int (1), .int (2), .int (0), .int (2), .int (0), .int (1), .int (2), .int (1), .int (2), .int (2), .int (3), .int (1), .int (0), .int (0), .int (0), .int (0), .int (0)]
  b_abs : mg "abs" = none
  b_enumerate : mg "enumerate" = none
  b_len : mg "len" = none
  b_max : mg "max" = none
  b_min : mg "min" = none
  b_range : mg "range" = none
  b_sum : mg "sum" = none
  F_Changes_init : Fun K "__init__" "Changes.__init__" s_Changes_init a.f_Changes_init a.d_Changes_init
  B_Changes_init : Binds K a.d_Changes_init p_Changes_init []
  F_Changes_made : Fun K "made" "Changes.made" s_Changes_made a.f_Changes_made a.d_Changes_made
  B_Changes_made : Binds K a.d_Changes_made p_Changes_made []
  F_Changes_take_back : Fun K "take_back" "Changes.take_back" s_Changes_take_back a.f_Changes_take_back a.d_Changes_take_back
  B_Changes_take_back : Binds K a.d_Changes_take_back p_Changes_take_back []
  F_Changes_do_again : Fun K "do_again" "Changes.do_again" s_Changes_do_again a.f_Changes_do_again a.d_Changes_do_again
  B_Changes_do_again : Binds K a.d_Changes_do_again p_Changes_do_again []
  F_Area_init : Fun K "__init__" "Area.__init__" s_Area_init a.f_Area_init a.d_Area_init
  B_Area_init : Binds K a.d_Area_init p_Area_init []
  F_Craft_init : Fun K "__init__" "Craft.__init__" s_Craft_init a.f_Craft_init a.d_Craft_init
  B_Craft_init : Binds K a.d_Craft_init p_Craft_init []
  F_Plan_init : Fun K "__init__" "Plan.__init__" s_Plan_init a.f_Plan_init a.d_Plan_init
  B_Plan_init : Binds K a.d_Plan_init p_Plan_init []
  F_leg_length : Fun K "leg_length" "leg_length" s_leg_length a.f_leg_length a.d_leg_length
  B_leg_length : Binds K a.d_leg_length p_leg_length []
  g_leg_length : mg "leg_length" = some (.ref a.f_leg_length)
  F_places_across : Fun K "places_across" "places_across" s_places_across a.f_places_across a.d_places_across
  B_places_across : Binds K a.d_places_across p_places_across []
  g_places_across : mg "places_across" = some (.ref a.f_places_across)
  F_distance_of_legs : Fun K "distance_of_legs" "distance_of_legs" s_distance_of_legs a.f_distance_of_legs a.d_distance_of_legs
  B_distance_of_legs : Binds K a.d_distance_of_legs p_distance_of_legs []
  g_distance_of_legs : mg "distance_of_legs" = some (.ref a.f_distance_of_legs)
  F_most_legs : Fun K "most_legs" "most_legs" s_most_legs a.f_most_legs a.d_most_legs
  B_most_legs : Binds K a.d_most_legs p_most_legs []
  g_most_legs : mg "most_legs" = some (.ref a.f_most_legs)
  F_places_seen : Fun K "places_seen" "places_seen" s_places_seen a.f_places_seen a.d_places_seen
  B_places_seen : Binds K a.d_places_seen p_places_seen []
  g_places_seen : mg "places_seen" = some (.ref a.f_places_seen)
  F_is_done : Fun K "is_done" "is_done" s_is_done a.f_is_done a.d_is_done
  B_is_done : Binds K a.d_is_done p_is_done []
  g_is_done : mg "is_done" = some (.ref a.f_is_done)
  F_least_hours : Fun K "least_hours" "least_hours" s_least_hours a.f_least_hours a.d_least_hours
  B_least_hours : Binds K a.d_least_hours p_least_hours []
  g_least_hours : mg "least_hours" = some (.ref a.f_least_hours)
  F_legs_needed : Fun K "legs_needed" "legs_needed" s_legs_needed a.f_legs_needed a.d_legs_needed
  B_legs_needed : Binds K a.d_legs_needed p_legs_needed []
  g_legs_needed : mg "legs_needed" = some (.ref a.f_legs_needed)
  F_shared_out : Fun K "shared_out" "shared_out" s_shared_out a.f_shared_out a.d_shared_out
  B_shared_out : Binds K a.d_shared_out p_shared_out []
  g_shared_out : mg "shared_out" = some (.ref a.f_shared_out)
  F_best_plan : Fun K "best_plan" "best_plan" s_best_plan a.f_best_plan a.d_best_plan
  B_best_plan : Binds K a.d_best_plan p_best_plan []
  g_best_plan : mg "best_plan" = some (.ref a.f_best_plan)
  F_places_before : Fun K "places_before" "places_before" s_places_before a.f_places_before a.d_places_before
  B_places_before : Binds K a.d_places_before p_places_before []
  g_places_before : mg "places_before" = some (.ref a.f_places_before)
  F_is_within : Fun K "is_within" "is_within" s_is_within a.f_is_within a.d_is_within
  B_is_within : Binds K a.d_is_within p_is_within []
  g_is_within : mg "is_within" = some (.ref a.f_is_within)
  F_legs_done : Fun K "legs_done" "legs_done" s_legs_done a.f_legs_done a.d_legs_done
  B_legs_done : Binds K a.d_legs_done p_legs_done []
  g_legs_done : mg "legs_done" = some (.ref a.f_legs_done)
  F_Course_init : Fun K "__init__" "Course.__init__" s_Course_init a.f_Course_init a.d_Course_init
  B_Course_init : Binds K a.d_Course_init p_Course_init []
  F_Course_line_of : Fun K "line_of" "Course.line_of" s_Course_line_of a.f_Course_line_of a.d_Course_line_of
  B_Course_line_of : Binds K a.d_Course_line_of p_Course_line_of []
  F_Course_along_leg : Fun K "along_leg" "Course.along_leg" s_Course_along_leg a.f_Course_along_leg a.d_Course_along_leg
  B_Course_along_leg : Binds K a.d_Course_along_leg p_Course_along_leg []
  F_Course_place_on : Fun K "place_on" "Course.place_on" s_Course_place_on a.f_Course_place_on a.d_Course_place_on
  B_Course_place_on : Binds K a.d_Course_place_on p_Course_place_on []
  F_Course_gone_by : Fun K "gone_by" "Course.gone_by" s_Course_gone_by a.f_Course_gone_by a.d_Course_gone_by
  B_Course_gone_by : Binds K a.d_Course_gone_by p_Course_gone_by []
  F_Course_leg_by : Fun K "leg_by" "Course.leg_by" s_Course_leg_by a.f_Course_leg_by a.d_Course_leg_by
  B_Course_leg_by : Binds K a.d_Course_leg_by p_Course_leg_by []
  F_Course_place_by : Fun K "place_by" "Course.place_by" s_Course_place_by a.f_Course_place_by a.d_Course_place_by
  B_Course_place_by : Binds K a.d_Course_place_by p_Course_place_by []
  F_Course_first_leg_seeing : Fun K "first_leg_seeing" "Course.first_leg_seeing" s_Course_first_leg_seeing a.f_Course_first_leg_seeing a.d_Course_first_leg_seeing
  B_Course_first_leg_seeing : Binds K a.d_Course_first_leg_seeing p_Course_first_leg_seeing []
  F_Course_hours_to_see : Fun K "hours_to_see" "Course.hours_to_see" s_Course_hours_to_see a.f_Course_hours_to_see a.d_Course_hours_to_see
  B_Course_hours_to_see : Binds K a.d_Course_hours_to_see p_Course_hours_to_see []
  F_is_area : Fun K "is_area" "is_area" s_is_area a.f_is_area a.d_is_area
  B_is_area : Binds K a.d_is_area p_is_area []
  g_is_area : mg "is_area" = some (.ref a.f_is_area)
  F_is_craft : Fun K "is_craft" "is_craft" s_is_craft a.f_is_craft a.d_is_craft
  B_is_craft : Binds K a.d_is_craft p_is_craft []
  g_is_craft : mg "is_craft" = some (.ref a.f_is_craft)
  F_way_sign : Fun K "way_sign" "way_sign" s_way_sign a.f_way_sign a.d_way_sign
  B_way_sign : Binds K a.d_way_sign p_way_sign []
  g_way_sign : mg "way_sign" = some (.ref a.f_way_sign)
  F_Search_init : Fun K "__init__" "Search.__init__" s_Search_init a.f_Search_init a.d_Search_init
  B_Search_init : Binds K a.d_Search_init p_Search_init []
  F_Search_standing : Fun K "standing" "Search.standing" s_Search_standing a.f_Search_standing a.d_Search_standing
  B_Search_standing : Binds K a.d_Search_standing p_Search_standing []
  F_Search_put : Fun K "put" "Search.put" s_Search_put a.f_Search_put a.d_Search_put
  B_Search_put : Binds K a.d_Search_put p_Search_put []
  F_Search_change : Fun K "change" "Search.change" s_Search_change a.f_Search_change a.d_Search_change
  B_Search_change : Binds K a.d_Search_change p_Search_change []
  F_Search_sl_start : Fun K "sl_start" "Search.sl_start" s_Search_sl_start a.f_Search_sl_start a.d_Search_sl_start
  B_Search_sl_start : Binds K a.d_Search_sl_start p_Search_sl_start []
  F_Search_sl_craft : Fun K "sl_craft" "Search.sl_craft" s_Search_sl_craft a.f_Search_sl_craft a.d_Search_sl_craft
  B_Search_sl_craft : Binds K a.d_Search_sl_craft p_Search_sl_craft []
  F_Search_sl_area : Fun K "sl_area" "Search.sl_area" s_Search_sl_area a.f_Search_sl_area a.d_Search_sl_area
  B_Search_sl_area : Binds K a.d_Search_sl_area p_Search_sl_area []
  F_Search_sl_drop : Fun K "sl_drop" "Search.sl_drop" s_Search_sl_drop a.f_Search_sl_drop a.d_Search_sl_drop
  B_Search_sl_drop : Binds K a.d_Search_sl_drop p_Search_sl_drop []
  F_Search_sl_take : Fun K "sl_take" "Search.sl_take" s_Search_sl_take a.f_Search_sl_take a.d_Search_sl_take
  B_Search_sl_take : Binds K a.d_Search_sl_take p_Search_sl_take []
  F_Search_sl_hours : Fun K "sl_hours" "Search.sl_hours" s_Search_sl_hours a.f_Search_sl_hours a.d_Search_sl_hours
  B_Search_sl_hours : Binds K a.d_Search_sl_hours p_Search_sl_hours []
  F_Search_sl_alone : Fun K "sl_alone" "Search.sl_alone" s_Search_sl_alone a.f_Search_sl_alone a.d_Search_sl_alone
  B_Search_sl_alone : Binds K a.d_Search_sl_alone p_Search_sl_alone []
  F_Search_sl_soonest : Fun K "sl_soonest" "Search.sl_soonest" s_Search_sl_soonest a.f_Search_sl_soonest a.d_Search_sl_soonest
  B_Search_sl_soonest : Binds K a.d_Search_sl_soonest p_Search_sl_soonest []
  F_Search_sl_by : Fun K "sl_by" "Search.sl_by" s_Search_sl_by a.f_Search_sl_by a.d_Search_sl_by
  B_Search_sl_by : Binds K a.d_Search_sl_by p_Search_sl_by []
  F_Search_sl_plan : Fun K "sl_plan" "Search.sl_plan" s_Search_sl_plan a.f_Search_sl_plan a.d_Search_sl_plan
  B_Search_sl_plan : Binds K a.d_Search_sl_plan p_Search_sl_plan []
  F_Search_sl_legs : Fun K "sl_legs" "Search.sl_legs" s_Search_sl_legs a.f_Search_sl_legs a.d_Search_sl_legs
  B_Search_sl_legs : Binds K a.d_Search_sl_legs p_Search_sl_legs []
  F_Search_course_of : Fun K "course_of" "Search.course_of" s_Search_course_of a.f_Search_course_of a.d_Search_course_of
  B_Search_course_of : Binds K a.d_Search_course_of p_Search_course_of []
  F_Search_sights_of : Fun K "sights_of" "Search.sights_of" s_Search_sights_of a.f_Search_sights_of a.d_Search_sights_of
  B_Search_sights_of : Binds K a.d_Search_sights_of p_Search_sights_of []
  F_Search_sl_leg : Fun K "sl_leg" "Search.sl_leg" s_Search_sl_leg a.f_Search_sl_leg a.d_Search_sl_leg
  B_Search_sl_leg : Binds K a.d_Search_sl_leg p_Search_sl_leg []
  F_Search_sl_where : Fun K "sl_where" "Search.sl_where" s_Search_sl_where a.f_Search_sl_where a.d_Search_sl_where
  B_Search_sl_where : Binds K a.d_Search_sl_where p_Search_sl_where []
  F_Search_sl_when : Fun K "sl_when" "Search.sl_when" s_Search_sl_when a.f_Search_sl_when a.d_Search_sl_when
  B_Search_sl_when : Binds K a.d_Search_sl_when p_Search_sl_when []
  F_Search_sl_seen : Fun K "sl_seen" "Search.sl_seen" s_Search_sl_seen a.f_Search_sl_seen a.d_Search_sl_seen
  B_Search_sl_seen : Binds K a.d_Search_sl_seen p_Search_sl_seen []
  F_Search_sl_most : Fun K "sl_most" "Search.sl_most" s_Search_sl_most a.f_Search_sl_most a.d_Search_sl_most
  B_Search_sl_most : Binds K a.d_Search_sl_most p_Search_sl_most []
  F_Search_sl_look : Fun K "sl_look" "Search.sl_look" s_Search_sl_look a.f_Search_sl_look a.d_Search_sl_look
  B_Search_sl_look : Binds K a.d_Search_sl_look p_Search_sl_look []
  F_Search_sl_size : Fun K "sl_size" "Search.sl_size" s_Search_sl_size a.f_Search_sl_size a.d_Search_sl_size
  B_Search_sl_size : Binds K a.d_Search_sl_size p_Search_sl_size []
  F_Search_sl_ends : Fun K "sl_ends" "Search.sl_ends" s_Search_sl_ends a.f_Search_sl_ends a.d_Search_sl_ends
  B_Search_sl_ends : Binds K a.d_Search_sl_ends p_Search_sl_ends []
  F_Search_sl_back : Fun K "sl_back" "Search.sl_back" s_Search_sl_back a.f_Search_sl_back a.d_Search_sl_back
  B_Search_sl_back : Binds K a.d_Search_sl_back p_Search_sl_back []
  F_Search_sl_again : Fun K "sl_again" "Search.sl_again" s_Search_sl_again a.f_Search_sl_again a.d_Search_sl_again
  B_Search_sl_again : Binds K a.d_Search_sl_again p_Search_sl_again []
  F_Search_sl_state : Fun K "sl_state" "Search.sl_state" s_Search_sl_state a.f_Search_sl_state a.d_Search_sl_state
  B_Search_sl_state : Binds K a.d_Search_sl_state p_Search_sl_state []
  F_answer_change : Fun K "answer_change" "answer_change" s_answer_change a.f_answer_change a.d_answer_change
  B_answer_change : Binds K a.d_answer_change p_answer_change []
  g_answer_change : mg "answer_change" = some (.ref a.f_answer_change)
  F_answer_about_hours : Fun K "answer_about_hours" "answer_about_hours" s_answer_about_hours a.f_answer_about_hours a.d_answer_about_hours
  B_answer_about_hours : Binds K a.d_answer_about_hours p_answer_about_hours []
  g_answer_about_hours : mg "answer_about_hours" = some (.ref a.f_answer_about_hours)
  F_answer_about_legs : Fun K "answer_about_legs" "answer_about_legs" s_answer_about_legs a.f_answer_about_legs a.d_answer_about_legs
  B_answer_about_legs : Binds K a.d_answer_about_legs p_answer_about_legs []
  g_answer_about_legs : mg "answer_about_legs" = some (.ref a.f_answer_about_legs)
  F_answer_about_sizes : Fun K "answer_about_sizes" "answer_about_sizes" s_answer_about_sizes a.f_answer_about_sizes a.d_answer_about_sizes
  B_answer_about_sizes : Binds K a.d_answer_about_sizes p_answer_about_sizes []
  g_answer_about_sizes : mg "answer_about_sizes" = some (.ref a.f_answer_about_sizes)
  F_answer_about_changes : Fun K "answer_about_changes" "answer_about_changes" s_answer_about_changes a.f_answer_about_changes a.d_answer_about_changes
  B_answer_about_changes : Binds K a.d_answer_about_changes p_answer_about_changes []
  g_answer_about_changes : mg "answer_about_changes" = some (.ref a.f_answer_about_changes)
  F_answer_call : Fun K "answer_call" "answer_call" s_answer_call a.f_answer_call a.d_answer_call
  B_answer_call : Binds K a.d_answer_call p_answer_call []
  g_answer_call : mg "answer_call" = some (.ref a.f_answer_call)
  F_answers : Fun K "answers" "answers" s_answers a.f_answers a.d_answers
  B_answers : Binds K a.d_answers p_answers []
  g_answers : mg "answers" = some (.ref a.f_answers)
theorem pe_gint {X : Cx} {x : Str} {z : Int} {pos : Pos} (hg : Gl X x) (h : ∃ t, X.mg x = some (.int z t)) (hd : (x == ("__debug__" : Str)) = false := by decide) : PE X (.Name x pos) (tC (.int z)) := by
  obtain ⟨t, h⟩ := h
  exact pe_glob hg h ⟨t, rfl⟩ hd
end SL

end
section
set_option Elab.async false
set_option linter.all false
set_option maxRecDepth 100000
set_option maxHeartbeats 4000000
namespace SL
open PySem PySem.Spec PyProof.Rows L2
/-! ### data in the heap -/
abbrev nV (n : Nat) : V := .int (n : Int)
def wayI (b : Bool) : Int := if b = true then 0 else 1
def fArea (r : Km445.Area) : List (Str × V) := [("x", .int r.x), ("y", .int r.y), ("wide", nV r.wide), ("high", nV r.high)]
def AreaAt (a : Ad) (H : Hp) (p : Addr) (r : Km445.Area) : Prop := ∃ dx, H p = some (.ins a.c_Area dx (fArea r))
def fCraft (c : Km445.Craft) : List (Str × V) := [("speed", nV c.speed), ("see", nV c.see), ("hours", nV c.hours), ("strip", nV c.strip)]
def CraftAt (a : Ad) (H : Hp) (p : Addr) (c : Km445.Craft) : Prop := ∃ dx, H p = some (.ins a.c_Craft dx (fCraft c))
def CrL (a : Ad) (H : Hp) : List Addr → List Km445.Craft → Prop
  | [], [] => True
  | p :: ps, c :: cs => CraftAt a H p c ∧ CrL a H ps cs
  | _, _ => False
def CraftsAt (a : Ad) (H : Hp) (l : Addr) (cs : List Km445.Craft) : Prop := ∃ ps : List Addr, H l = some (.lst (ps.map V.ref)) ∧ CrL a H ps cs
def PlanAt (a : Ad) (H : Hp) (q : Addr) (p : Km445.Plan) : Prop := ∃ dx l, H q = some (.ins a.c_Plan dx [("way", .int (wayI p.along)), ("hours", nV p.hours), ("shares", .ref l)]) ∧ H l = some (.lst (p.legs.map nV))
/-- a plan made anew -/
def PlanNew (a : Ad) (H H' : Hp) (q : Addr) (p : Km445.Plan) : Prop := ∃ dx l, H q = none ∧ H l = none ∧ H' q = some (.ins a.c_Plan dx [("way", .int (wayI p.along)), ("hours", nV p.hours), ("shares", .ref l)]) ∧ H' l = some (.lst (p.legs.map nV))
def optV : Option Nat → V
  | none => .non
  | some t => nV t
/-! ### what each def promises -/
def sp_Area_init (_ : PySem.W.Frag) (a : Ad) : Sp := fun vs H Q _ => ∃ (p dx : Addr) (x y w h : V), vs = [.ref p, x, y, w, h] ∧ H p = some (.ins a.c_Area dx []) ∧ Q .non (upd H p (.ins a.c_Area dx [("x", x), ("y", y), ("wide", w), ("high", h)]))
def sp_Craft_init (_ : PySem.W.Frag) (a : Ad) : Sp := fun vs H Q _ => ∃ (p dx : Addr) (v e t : Nat), vs = [.ref p, nV v, nV e, nV t] ∧ H p = some (.ins a.c_Craft dx []) ∧ e ≤ 200 ∧ Q .non (upd H p (.ins a.c_Craft dx (fCraft ⟨v, e, t⟩)))
def sp_Plan_init (_ : PySem.W.Frag) (a : Ad) : Sp := fun vs H Q _ => ∃ (p dx : Addr) (x y z : V), vs = [.ref p, x, y, z] ∧ H p = some (.ins a.c_Plan dx []) ∧ Q .non (upd H p (.ins a.c_Plan dx [("way", x), ("hours", y), ("shares", z)]))
def sp_leg_length (_ : PySem.W.Frag) (a : Ad) : Sp := fun vs H Q _ => ∃ (p : Addr) (r : Km445.Area) (b : Bool), vs = [.ref p, .int (wayI b)] ∧ AreaAt a H p r ∧ Q (nV (r.long b)) H
def sp_places_across (_ : PySem.W.Frag) (a : Ad) : Sp := fun vs H Q _ => ∃ (p : Addr) (r : Km445.Area) (b : Bool), vs = [.ref p, .int (wayI b)] ∧ AreaAt a H p r ∧ Q (nV (r.across b)) H
def sp_distance_of_legs (_ : PySem.W.Frag) (a : Ad) : Sp := fun vs H Q _ => ∃ (p q : Addr) (r : Km445.Area) (c : Km445.Craft) (b : Bool) (m : Nat), vs = [.ref p, .ref q, .int (wayI b), nV m] ∧ AreaAt a H p r ∧ CraftAt a H q c ∧ okA r ∧ okC c ∧ Q (nV (c.far (r.long b) m)) H
def sp_most_legs (_ : PySem.W.Frag) (a : Ad) : Sp := fun vs H Q _ => ∃ (p q : Addr) (r : Km445.Area) (c : Km445.Craft) (b : Bool) (t : Nat), vs = [.ref p, .ref q, .int (wayI b), nV t] ∧ AreaAt a H p r ∧ CraftAt a H q c ∧ okA r ∧ okC c ∧ Q (nV (c.legs (r.long b) (r.across b) t)) H
def sp_places_seen (_ : PySem.W.Frag) (a : Ad) : Sp := fun vs H Q _ => ∃ (p l : Addr) (r : Km445.Area) (cs : List Km445.Craft) (b : Bool) (t : Nat), vs = [.ref p, .ref l, .int (wayI b), nV t] ∧ AreaAt a H p r ∧ CraftsAt a H l cs ∧ okA r ∧ (∀ c ∈ cs, okC c) ∧ cs.length ≤ 4 ∧ ∀ H', Same H H' → Q (nV (cov r cs b t)) H'
def sp_is_done (_ : PySem.W.Frag) (a : Ad) : Sp := fun vs H Q _ => ∃ (p l : Addr) (r : Km445.Area) (cs : List Km445.Craft) (b : Bool) (t : Nat), vs = [.ref p, .ref l, .int (wayI b), nV t] ∧ AreaAt a H p r ∧ CraftsAt a H l cs ∧ okA r ∧ (∀ c ∈ cs, okC c) ∧ cs.length ≤ 4 ∧ ∀ H', Same H H' → Q (.bl (decide (r.across b ≤ cov r cs b t))) H'
def sp_least_hours (_ : PySem.W.Frag) (a : Ad) : Sp := fun vs H Q _ => ∃ (p l : Addr) (r : Km445.Area) (cs : List Km445.Craft) (b : Bool), vs = [.ref p, .ref l, .int (wayI b)] ∧ AreaAt a H p r ∧ CraftsAt a H l cs ∧ okA r ∧ (∀ c ∈ cs, okC c) ∧ cs.length ≤ 4 ∧ ∀ H', Same H H' → Q (optV (soon r cs b)) H'
def sp_legs_needed (_ : PySem.W.Frag) (a : Ad) : Sp := fun vs H Q _ => ∃ (q : Addr) (c : Km445.Craft) (n : Nat), vs = [.ref q, nV n] ∧ CraftAt a H q c ∧ okC c ∧ Q (nV ((n + c.strip - 1) / c.strip)) H
def sp_shared_out (_ : PySem.W.Frag) (a : Ad) : Sp := fun vs H Q _ => ∃ (p l : Addr) (r : Km445.Area) (cs : List Km445.Craft) (b : Bool) (t : Nat), vs = [.ref p, .ref l, .int (wayI b), nV t] ∧ AreaAt a H p r ∧ CraftsAt a H l cs ∧ okA r ∧ (∀ c ∈ cs, okC c) ∧ cs.length ≤ 4 ∧ ∀ (H' : Hp) (q : Addr), Same H H' → H q = none → H' q = some (.lst ((Km445.share (r.long b) (r.across b) t (r.across b) cs).map nV)) → Q (.ref q) H'
def sp_best_plan (_ : PySem.W.Frag) (a : Ad) : Sp := fun vs H Q _ => ∃ (p l : Addr) (r : Km445.Area) (cs : List Km445.Craft), vs = [.ref p, .ref l] ∧ AreaAt a H p r ∧ CraftsAt a H l cs ∧ okA r ∧ (∀ c ∈ cs, okC c) ∧ cs.length ≤ 4 ∧
  (plan r cs = none → ∀ H', Same H H' → Q .non H') ∧ ∀ pl, plan r cs = some pl → ∀ (H' : Hp) (q : Addr), Same H H' → PlanNew a H H' q pl → Q (.ref q) H'
def sp_places_before (_ : PySem.W.Frag) (a : Ad) : Sp := fun vs H Q _ => ∃ (l q : Addr) (cs : List Km445.Craft) (pl : Km445.Plan) (k : Nat), vs = [.ref l, .ref q, nV k] ∧ CraftsAt a H l cs ∧ PlanAt a H q pl ∧ (∀ c ∈ cs, okC c) ∧ pl.legs.length = cs.length ∧ k ≤ cs.length ∧ cs.length ≤ 4 ∧ ∀ H', Same H H' → Q (nV (bef cs pl k)) H'
def sp_is_area (_ : PySem.W.Frag) (_ : Ad) : Sp := fun vs H Q _ => ∃ (x y : Int) (w h : Nat), vs = [.int x, .int y, nV w, nV h] ∧ Q (.bl (Km445.okArea x y w h)) H
def sp_is_craft (_ : PySem.W.Frag) (_ : Ad) : Sp := fun vs H Q _ => ∃ (v e t : Nat), vs = [nV v, nV e, nV t] ∧ Q (.bl (decide (1 ≤ v ∧ v ≤ 500 ∧ e ≤ 200 ∧ 1 ≤ t ∧ t ≤ 100))) H
def sp_way_sign (_ : PySem.W.Frag) (_ : Ad) : Sp := fun vs H Q _ => ∃ b : Bool, vs = [.int (wayI b)] ∧ Q (nV (Km445.bit b)) H
/-! ### the Search object -/
/-- without what changes -/
def rem (H : Hp) (M : List Addr) : Hp := fun x => if x ∈ M then none else H x
/-- of H' what H_0 had, and what is new against H -/
def Res (H_0 H H' : Hp) : Hp := fun x => if ((H_0 x).isSome || (H x).isNone) = true then H' x else none
/-- what isn't H_0's stays -/
def Keep (H_0 H H' : Hp) : Prop := ∀ b o, H b = some o → H_0 b = none → H' b = some o
/-- only what is in M changes, and nothing is gone -/
def Chg (M : List Addr) (H H' : Hp) : Prop := (∀ b o, H b = some o → b ∉ M → H' b = some o) ∧ ∀ b, H' b = none → H b = none
/-- what H_0 has but M, and what H1 has new against H -/
def Own (H_0 : Hp) (M : List Addr) (H H1 : Hp) : Hp := fun x => if ((rem H_0 M x).isSome || (H x).isNone) = true then H1 x else none
def planV (a : Ad) (H : Hp) (vp : V) : Option Km445.Plan → Prop
  | none => vp = .non
  | some pl => ∃ q, vp = .ref q ∧ PlanAt a H q pl
structure SeaAt (a : Ad) (H : Hp) (va vc vp vh : V) (s : Km445.Sea) : Prop where
  area : ∃ p, va = .ref p ∧ AreaAt a H p s.area
  craft : ∃ l, vc = .ref l ∧ CraftsAt a H l s.craft
  plan : planV a H vp s.plan
  hour : vh = nV s.time
def TupAt (a : Ad) (H : Hp) (v : V) (s : Km445.Sea) : Prop := ∃ t va vc vp vh, v = .ref t ∧ H t = some (.tup [va, vc, vp, vh]) ∧ SeaAt a H va vc vp vh s
def TupsAt (a : Ad) (H : Hp) : List V → List Km445.Sea → Prop
  | [], [] => True
  | v :: vs, s :: ss => TupAt a H v s ∧ TupsAt a H vs ss
  | _, _ => False
def fSe (va vc vp vh : V) (ch : Addr) : List (Str × V) := [("area", va), ("crafts", vc), ("plan", vp), ("hour", vh), ("changes", .ref ch)]
def fCh (lb la : Addr) : List (Str × V) := [("behind", .ref lb), ("ahead", .ref la)]
/-- what changes: the search, its changes, the two lists of these (the newest first) -/
structure SMut (a : Ad) (H : Hp) (se dx ch dc lb la : Addr) (va vc vp vh : V) (bs fs : List V) : Prop where
  fse : H se = some (.ins a.c_Search dx (fSe va vc vp vh ch))
  fch : H ch = some (.ins a.c_Changes dc (fCh lb la))
  flb : H lb = some (.lst bs.reverse)
  fla : H la = some (.lst fs.reverse)
  fne : lb ≠ la
def SeAt (a : Ad) (H : Hp) (se : Addr) : Option Km445.Desk → Prop
  | none => ∃ dx va vc vp vh ch, H se = some (.ins a.c_Search dx (fSe va vc vp vh ch))
  | some d => DeskOk d ∧ ∃ dx ch dc lb la va vc vp vh bs fs, SMut a H se dx ch dc lb la va vc vp vh bs fs ∧ SeaAt a (rem H [se, ch, lb, la]) va vc vp vh d.now ∧ TupsAt a (rem H [se, ch, lb, la]) bs d.past ∧ TupsAt a (rem H [se, ch, lb, la]) fs d.future
/-- the end of a call: the state S, the answer l -/
def Ends1 (a : Ad) (H_0 H : Hp) (se : Addr) (Q : VK) (S : Option Km445.Desk) (l : List Int) : Prop :=
  ∀ (H' : Hp) (q : Addr), SeAt a (Res H_0 H H') se S → Keep H_0 H H' → H q = none → H' q = some (.lst (l.map V.int)) → Q (.ref q) H'
def spCall (a : Ad) (c : Km445.Call) (se : Addr) (H : Hp) (Q : VK) : Prop := ∃ (H_0 : Hp) (d : Km445.Desk), SeAt a H_0 se (some d) ∧ Same H_0 H ∧ Ends1 a H_0 H se Q (some (Km445.act d c).1) (Km445Neutral.told (Km445.act d c).2)
/-! ### changes -/
def sp_Changes_init (_ : PySem.W.Frag) (a : Ad) : Sp := fun vs H Q _ => ∃ (p dx : Addr), vs = [.ref p] ∧ H p = some (.ins a.c_Changes dx []) ∧ ∀ (H' : Hp) (lb la : Addr), H lb = none → H la = none → lb ≠ la → H' p = some (.ins a.c_Changes dx (fCh lb la)) → H' lb = some (.lst []) → H' la = some (.lst []) → Chg [p] H H' → Q .non H'
def sp_Changes_made (_ : PySem.W.Frag) (a : Ad) : Sp := fun vs H Q _ => ∃ (ch dc lb la : Addr) (v : V) (bs : List V), vs = [.ref ch, v] ∧ H ch = some (.ins a.c_Changes dc (fCh lb la)) ∧ H lb = some (.lst bs.reverse) ∧ bs.length ≤ 20 ∧ ∀ (H' : Hp) (lb' la' : Addr), H lb' = none → H la' = none → lb' ≠ la' → H' ch = some (.ins a.c_Changes dc (fCh lb' la')) → H' lb' = some (.lst ((v :: bs).take 20).reverse) → H' la' = some (.lst []) → Chg [ch] H H' → Q .non H'
def sp_Changes_take_back (_ : PySem.W.Frag) (a : Ad) : Sp := fun vs H Q _ => ∃ (ch dc lb la : Addr) (v w : V) (bs fs : List V), vs = [.ref ch, v] ∧ H ch = some (.ins a.c_Changes dc (fCh lb la)) ∧ H lb = some (.lst (w :: bs).reverse) ∧ H la = some (.lst fs.reverse) ∧ lb ≠ la ∧ fs.length ≤ 20 ∧ Q w (upd (upd H la (.lst (v :: fs).reverse)) lb (.lst bs.reverse))
def sp_Changes_do_again (_ : PySem.W.Frag) (a : Ad) : Sp := fun vs H Q _ => ∃ (ch dc lb la : Addr) (v w : V) (bs fs : List V), vs = [.ref ch, v] ∧ H ch = some (.ins a.c_Changes dc (fCh lb la)) ∧ H lb = some (.lst bs.reverse) ∧ H la = some (.lst (w :: fs).reverse) ∧ lb ≠ la ∧ bs.length ≤ 20 ∧ Q w (upd (upd H lb (.lst (v :: bs).reverse)) la (.lst fs.reverse))
def sp_Search_init (_ : PySem.W.Frag) (a : Ad) : Sp := fun vs H Q _ => ∃ (se dx : Addr), vs = [.ref se] ∧ H se = some (.ins a.c_Search dx []) ∧ ∀ (H' : Hp) (va vc vp vh : V) (ch : Addr), H' se = some (.ins a.c_Search dx (fSe va vc vp vh ch)) → Chg [se] H H' → Q .non H'
def sp_Search_standing (_ : PySem.W.Frag) (a : Ad) : Sp := fun vs H Q _ => ∃ (se dx : Addr) (va vc vp vh : V) (ch : Addr), vs = [.ref se] ∧ H se = some (.ins a.c_Search dx (fSe va vc vp vh ch)) ∧ ∀ t, H t = none → Q (.ref t) (upd H t (.tup [va, vc, vp, vh]))
def sp_Search_put (_ : PySem.W.Frag) (a : Ad) : Sp := fun vs H Q _ => ∃ (se dx t : Addr) (va vc vp vh : V), vs = [.ref se, .ref t] ∧ H t = some (.tup [va, vc, vp, vh]) ∧ ((H se = some (.ins a.c_Search dx []) ∧ Q .non (upd H se (.ins a.c_Search dx [("area", va), ("crafts", vc), ("plan", vp), ("hour", vh)]))) ∨
  ∃ (va0 vc0 vp0 vh0 : V) (ch : Addr), H se = some (.ins a.c_Search dx (fSe va0 vc0 vp0 vh0 ch)) ∧ Q .non (upd H se (.ins a.c_Search dx (fSe va vc vp vh ch))))
def sp_Search_change (_ : PySem.W.Frag) (a : Ad) : Sp := fun vs H Q _ => ∃ (se dx ch dc lb la : Addr) (va vc vp vh va' vc' vp' vh' : V) (bs fs : List V), vs = [.ref se, va', vc', vp', vh'] ∧ SMut a H se dx ch dc lb la va vc vp vh bs fs ∧ bs.length ≤ 20 ∧
  ∀ (H' : Hp) (lb' la' t : Addr), H lb' = none → H la' = none → H t = none → SMut a H' se dx ch dc lb' la' va' vc' vp' vh' ((.ref t :: bs).take 20) [] → H' t = some (.tup [va, vc, vp, vh]) → Chg [se, ch] H H' → Q .non H'
/-! ### courses -/
def fCo (pa pc : Addr) (s : Cs) : List (Str × V) := [("area", .ref pa), ("craft", .ref pc), ("way", .int (wayI s.b)), ("legs", nV s.m), ("before", nV s.B), ("long", nV s.long), ("pitch", nV s.pitch)]
def CoAt (a : Ad) (H : Hp) (p : Addr) (s : Cs) : Prop := ∃ dx pa pc, H p = some (.ins a.c_Course dx (fCo pa pc s)) ∧ AreaAt a H pa s.r ∧ CraftAt a H pc s.c
/-- a search with a plan -/
structure SeP (a : Ad) (H : Hp) (se dx pa l q : Addr) (vh : V) (ch : Addr) (s : Km445.Sea) (p : Km445.Plan) : Prop where
  se : H se = some (.ins a.c_Search dx (fSe (.ref pa) (.ref l) (.ref q) vh ch))
  area : AreaAt a H pa s.area
  craft : CraftsAt a H l s.craft
  plan : PlanAt a H q p
  ok : SeaOk s
  e : s.plan = some p
  hour : vh = nV s.time
def sp_is_within (_ : PySem.W.Frag) (a : Ad) : Sp := fun vs H Q _ => ∃ (p : Addr) (r : Km445.Area) (x y : Int), vs = [.ref p, .int x, .int y] ∧ AreaAt a H p r ∧ Q (.bl (r.has x y)) H
def sp_legs_done (_ : PySem.W.Frag) (a : Ad) : Sp := fun vs H Q _ => ∃ (pa pc q : Addr) (r : Km445.Area) (c : Km445.Craft) (pl : Km445.Plan) (k t m : Nat), vs = [.ref pa, .ref pc, .ref q, nV k, nV t] ∧ AreaAt a H pa r ∧ CraftAt a H pc c ∧ PlanAt a H q pl ∧ okA r ∧ okC c ∧ pl.legs[k]? = some m ∧ Q (nV (min m (c.legs (r.long pl.along) (r.across pl.along) t))) H
def sp_Course_init (_ : PySem.W.Frag) (a : Ad) : Sp := fun vs H Q _ => ∃ (p dx pa l q : Addr) (s : Km445.Sea) (pl : Km445.Plan) (k : Nat) (Hb : Hp), vs = [.ref p, .ref pa, .ref l, .ref q, nV k] ∧ H p = some (.ins a.c_Course dx []) ∧ Hb p = none ∧ Same Hb H ∧ AreaAt a Hb pa s.area ∧ CraftsAt a Hb l s.craft ∧ PlanAt a Hb q pl ∧ SeaOk s ∧ s.plan = some pl ∧ k < s.craft.length ∧
  ∀ (H' : Hp) (pc : Addr), CraftAt a Hb pc (s.one k) → Same Hb H' → H' p = some (.ins a.c_Course dx (fCo pa pc (cs s pl k))) → Q .non H'
def sp_Course_line_of (_ : PySem.W.Frag) (a : Ad) : Sp := fun vs H Q _ => ∃ (p : Addr) (s : Cs) (i : Nat), vs = [.ref p, nV i] ∧ CoAt a H p s ∧ s.Ok ∧ Q (nV (s.line i)) H
def sp_Course_along_leg (_ : PySem.W.Frag) (a : Ad) : Sp := fun vs H Q _ => ∃ (p : Addr) (s : Cs) (i f : Nat), vs = [.ref p, nV i, nV f] ∧ CoAt a H p s ∧ f ≤ s.long ∧ Q (nV (s.along i f)) H
def sp_Course_place_on (_ : PySem.W.Frag) (a : Ad) : Sp := fun vs H Q _ => ∃ (p : Addr) (s : Cs) (i f : Nat), vs = [.ref p, nV i, nV f] ∧ CoAt a H p s ∧ s.Ok ∧ f ≤ s.long ∧ ∀ q, H q = none → Q (.ref q) (upd H q (.lst [.int (s.place i f).1, .int (s.place i f).2]))
def sp_Course_gone_by (_ : PySem.W.Frag) (a : Ad) : Sp := fun vs H Q _ => ∃ (p : Addr) (s : Cs) (t : Nat), vs = [.ref p, nV t] ∧ CoAt a H p s ∧ s.Ok ∧ Q (nV (s.gone t)) H
def sp_Course_leg_by (_ : PySem.W.Frag) (a : Ad) : Sp := fun vs H Q _ => ∃ (p : Addr) (s : Cs) (t : Nat), vs = [.ref p, nV t] ∧ CoAt a H p s ∧ s.Ok ∧ Q (nV (s.gone t / s.pitch)) H
def sp_Course_place_by (_ : PySem.W.Frag) (a : Ad) : Sp := fun vs H Q _ => ∃ (p : Addr) (s : Cs) (t : Nat), vs = [.ref p, nV t] ∧ CoAt a H p s ∧ s.Ok ∧ ∀ q, H q = none → Q (.ref q) (upd H q (.lst [.int (s.place (s.gone t / s.pitch) (min (s.gone t % s.pitch) s.long)).1, .int (s.place (s.gone t / s.pitch) (min (s.gone t % s.pitch) s.long)).2]))
def sp_Course_first_leg_seeing (_ : PySem.W.Frag) (a : Ad) : Sp := fun vs H Q _ => ∃ (p : Addr) (s : Cs) (n : Nat), vs = [.ref p, nV n] ∧ CoAt a H p s ∧ s.Ok ∧ ∀ H', Same H H' → Q (optV (s.first n)) H'
def sp_Course_hours_to_see (_ : PySem.W.Frag) (a : Ad) : Sp := fun vs H Q _ => ∃ (p : Addr) (s : Cs) (x y : Int), vs = [.ref p, .int x, .int y] ∧ CoAt a H p s ∧ s.Ok ∧ s.r.has x y = true ∧ ∀ H', Same H H' → Q (optV (s.hrs x y)) H'
def sp_Search_course_of (_ : PySem.W.Frag) (a : Ad) : Sp := fun vs H Q _ => ∃ (se dx pa l q : Addr) (vh : V) (ch : Addr) (s : Km445.Sea) (p : Km445.Plan) (k : Nat), vs = [.ref se, nV k] ∧ SeP a H se dx pa l q vh ch s p ∧ k < s.craft.length ∧ ∀ (H' : Hp) (x : Addr), Same H H' → H x = none → CoAt a H' x (cs s p k) → Q (.ref x) H'
def sp_Search_sights_of (_ : PySem.W.Frag) (a : Ad) : Sp := fun vs H Q _ => ∃ (se dx pa l q : Addr) (vh : V) (ch : Addr) (s : Km445.Sea) (p : Km445.Plan) (x y : Int), vs = [.ref se, .int x, .int y] ∧ SeP a H se dx pa l q vh ch s p ∧ s.area.has x y = true ∧ ∀ (H' : Hp) (D : Addr), Same H H' → H D = none → H' D = some (.lst ((List.range s.craft.length).map fun k => optV ((cs s p k).hrs x y))) → Q (.ref D) H'
/-! ### the calls -/
def sp_Search_sl_start (_ : PySem.W.Frag) (a : Ad) : Sp := fun vs H Q _ => ∃ (se : Addr) (x y : Int) (w h : Nat), vs = [.ref se, .int x, .int y, nV w, nV h] ∧ ∃ (H_0 : Hp) (S : Option Km445.Desk), SeAt a H_0 se S ∧ Same H_0 H ∧
  (Km445.okArea x y w h = false → Ends1 a H_0 H se Q S [-22]) ∧ (Km445.okArea x y w h = true → Ends1 a H_0 H se Q (some (Km445.fresh x y w h)) [0])
def sp_Search_sl_craft (_ : PySem.W.Frag) (a : Ad) : Sp := fun vs H Q _ => ∃ (se : Addr) (b0 : Nat) (b1 : Nat) (b2 : Nat), vs = [.ref se, nV b0, nV b1, nV b2] ∧ spCall a (.craft b0 b1 b2) se H Q
def sp_Search_sl_area (_ : PySem.W.Frag) (a : Ad) : Sp := fun vs H Q _ => ∃ (se : Addr) (b0 : Int) (b1 : Int) (b2 : Nat) (b3 : Nat), vs = [.ref se, .int b0, .int b1, nV b2, nV b3] ∧ spCall a (.area b0 b1 b2 b3) se H Q
def sp_Search_sl_drop (_ : PySem.W.Frag) (a : Ad) : Sp := fun vs H Q _ => ∃ (se : Addr) (b0 : Nat), vs = [.ref se, nV b0] ∧ spCall a (.drop b0) se H Q
def sp_Search_sl_take (_ : PySem.W.Frag) (a : Ad) : Sp := fun vs H Q _ => ∃ (se : Addr), vs = [.ref se] ∧ spCall a .take se H Q
def sp_Search_sl_hours (_ : PySem.W.Frag) (a : Ad) : Sp := fun vs H Q _ => ∃ (se : Addr) (b0 : Nat), vs = [.ref se, nV b0] ∧ spCall a (.hours b0) se H Q
def sp_Search_sl_alone (_ : PySem.W.Frag) (a : Ad) : Sp := fun vs H Q _ => ∃ (se : Addr) (b0 : Nat) (b1 : Nat), vs = [.ref se, nV b0, nV b1] ∧ spCall a (.alone b0 b1) se H Q
def sp_Search_sl_soonest (_ : PySem.W.Frag) (a : Ad) : Sp := fun vs H Q _ => ∃ (se : Addr), vs = [.ref se] ∧ spCall a .soonest se H Q
def sp_Search_sl_by (_ : PySem.W.Frag) (a : Ad) : Sp := fun vs H Q _ => ∃ (se : Addr) (b0 : Nat) (b1 : Nat), vs = [.ref se, nV b0, nV b1] ∧ spCall a (.by_ b0 b1) se H Q
def sp_Search_sl_plan (_ : PySem.W.Frag) (a : Ad) : Sp := fun vs H Q _ => ∃ (se : Addr), vs = [.ref se] ∧ spCall a .plan se H Q
def sp_Search_sl_legs (_ : PySem.W.Frag) (a : Ad) : Sp := fun vs H Q _ => ∃ (se : Addr) (b0 : Nat), vs = [.ref se, nV b0] ∧ spCall a (.legsOf b0) se H Q
def sp_Search_sl_leg (_ : PySem.W.Frag) (a : Ad) : Sp := fun vs H Q _ => ∃ (se : Addr) (b0 : Nat) (b1 : Nat), vs = [.ref se, nV b0, nV b1] ∧ spCall a (.leg b0 b1) se H Q
def sp_Search_sl_where (_ : PySem.W.Frag) (a : Ad) : Sp := fun vs H Q _ => ∃ (se : Addr) (b0 : Nat), vs = [.ref se, nV b0] ∧ spCall a (.where_ b0) se H Q
def sp_Search_sl_when (_ : PySem.W.Frag) (a : Ad) : Sp := fun vs H Q _ => ∃ (se : Addr) (b0 : Int) (b1 : Int), vs = [.ref se, .int b0, .int b1] ∧ spCall a (.when b0 b1) se H Q
def sp_Search_sl_seen (_ : PySem.W.Frag) (a : Ad) : Sp := fun vs H Q _ => ∃ (se : Addr) (b0 : Int) (b1 : Int), vs = [.ref se, .int b0, .int b1] ∧ spCall a (.seen b0 b1) se H Q
def sp_Search_sl_most (_ : PySem.W.Frag) (a : Ad) : Sp := fun vs H Q _ => ∃ (se : Addr) (b0 : Nat) (b1 : Nat) (b2 : Nat), vs = [.ref se, nV b0, nV b1, nV b2] ∧ spCall a (.most b0 b1 b2) se H Q
def sp_Search_sl_look (_ : PySem.W.Frag) (a : Ad) : Sp := fun vs H Q _ => ∃ (se : Addr) (b0 : Nat), vs = [.ref se, nV b0] ∧ spCall a (.look b0) se H Q
def sp_Search_sl_size (_ : PySem.W.Frag) (a : Ad) : Sp := fun vs H Q _ => ∃ (se : Addr), vs = [.ref se] ∧ spCall a .size se H Q
def sp_Search_sl_ends (_ : PySem.W.Frag) (a : Ad) : Sp := fun vs H Q _ => ∃ (se : Addr), vs = [.ref se] ∧ spCall a .ends se H Q
def sp_Search_sl_back (_ : PySem.W.Frag) (a : Ad) : Sp := fun vs H Q _ => ∃ (se : Addr), vs = [.ref se] ∧ spCall a .back se H Q
def sp_Search_sl_again (_ : PySem.W.Frag) (a : Ad) : Sp := fun vs H Q _ => ∃ (se : Addr), vs = [.ref se] ∧ spCall a .again se H Q
def sp_Search_sl_state (_ : PySem.W.Frag) (a : Ad) : Sp := fun vs H Q _ => ∃ (se : Addr), vs = [.ref se] ∧ spCall a .state se H Q
/-- one call by its numbers, from the state S -/
def spStep (lo hi : Int) (a : Ad) : Sp := fun vs H Q _ => ∃ (se g : Addr) (H_0 : Hp) (S : Option Km445.Desk) (p : Int) (args : List Int), vs = [.ref se, .int p, .ref g] ∧ lo ≤ p ∧ p ≤ hi ∧ H g = some (.lst (args.map V.int)) ∧ SeAt a H_0 se S ∧ Same H_0 H ∧
  Km445Neutral.asked1 [p :: args] = true ∧ (Km445Neutral.step S [p :: args]).2 ≠ [] ∧ Ends1 a H_0 H se Q (Km445Neutral.step S [p :: args]).1 (Km445Neutral.step S [p :: args]).2
/-- one without numbers -/
def spStep0 (lo hi : Int) (a : Ad) : Sp := fun vs H Q _ => ∃ (se : Addr) (H_0 : Hp) (S : Option Km445.Desk) (p : Int) (args : List Int), vs = [.ref se, .int p] ∧ lo ≤ p ∧ p ≤ hi ∧ SeAt a H_0 se S ∧ Same H_0 H ∧
  Km445Neutral.asked1 [p :: args] = true ∧ (Km445Neutral.step S [p :: args]).2 ≠ [] ∧ Ends1 a H_0 H se Q (Km445Neutral.step S [p :: args]).1 (Km445Neutral.step S [p :: args]).2
def sp_answer_change (_ : PySem.W.Frag) (a : Ad) : Sp := spStep 0 5 a
def sp_answer_about_hours (_ : PySem.W.Frag) (a : Ad) : Sp := spStep 6 10 a
def sp_answer_about_legs (_ : PySem.W.Frag) (a : Ad) : Sp := spStep 11 15 a
def sp_answer_about_sizes (_ : PySem.W.Frag) (a : Ad) : Sp := spStep 16 18 a
def sp_answer_about_changes (_ : PySem.W.Frag) (a : Ad) : Sp := spStep0 19 21 a
def sp_answer_call (_ : PySem.W.Frag) (a : Ad) : Sp := spStep 0 21 a
/-- the program's table of sizes -/
def sizesV : List V := sizes.map nV
def spAns (K : PySem.W.Frag) : Sp := fun vs H Q _ => ∃ (a : Addr) (ns : List Int), vs = [.ref a] ∧ SqL K H a (ns.map V.int) ∧ ns.length ≤ 29000 ∧ PyKm445.answers_asked ns = true ∧ ∀ (H' : Hp) (p : Addr), H' p = some (.lst ((PyKm445.answers ns).map V.int)) → Q (.ref p) H'
def sp_answers (K : PySem.W.Frag) (_ : Ad) : Sp := spAns K
end SL

end
section
set_option Elab.async false
set_option linter.all false
set_option maxRecDepth 100000
set_option maxHeartbeats 4000000
namespace SL
open PySem PySem.Spec PyProof.Rows L2
section
variable {P : Program} {w : World} {K : PySem.W.Frag} {mg : Str → Option Value} {base : Heap} {a : Ad}
def t_Changes_init (K : PySem.W.Frag) (a : Ad) : TS := tSeq (sFld K (tVar 0) (tLst (tNil)) "behind") (sFld K (tVar 0) (tLst (tNil)) "ahead")
theorem ps_Changes_init (T : Txt K mg a)  {cdv : Value} {A : Around} {outer : List Env} {s : Shared} {H : Hp} {E : XK} (hr : Room 0 (A.deeper (envOfC "Changes.__init__" (defScope s_Changes_init) s.heap.objs.size a.f_Changes_init cdv))) :
    PSs (cxOf CX0 P w K mg base n_Changes_init "Changes.__init__" (defScope s_Changes_init) a.f_Changes_init cdv A outer s H E).nox (defBody s_Changes_init) (t_Changes_init K a) :=
  pss_cons (ps_fld (pv 0) (pe_lst (pa_nil)) rfl) (pss_one (ps_fld (pv 0) (pe_lst (pa_nil)) rfl))
def t_Changes_made (K : PySem.W.Frag) (a : Ad) : TS := tSeq (sFld K (tVar 0) (tSl (rSlL K) (tOp rCat (tFld K (tVar 0) "behind") (tLst (tCons (tVar 1) (tNil)))) (tPart (tUn (rU fun i => .int (-i)) (tC (.int (20))))) (tNoPart)) "behind") (sFld K (tVar 0) (tLst (tNil)) "ahead")
theorem ps_Changes_made (T : Txt K mg a)  {cdv : Value} {A : Around} {outer : List Env} {s : Shared} {H : Hp} {E : XK} (hr : Room 0 (A.deeper (envOfC "Changes.made" (defScope s_Changes_made) s.heap.objs.size a.f_Changes_made cdv))) :
    PSs (cxOf CX0 P w K mg base n_Changes_made "Changes.made" (defScope s_Changes_made) a.f_Changes_made cdv A outer s H E).nox (defBody s_Changes_made) (t_Changes_made K a) :=
  pss_cons (ps_fld (pv 0) (pe_slice sl_list (pe_op op_cat (pe_fld (pv 0) rfl) (pe_lst (pa_cons (pv 1) (pa_nil)))) (po_some (pe_un un_neg (pe_gint (by rfl) T.k_MOST_CHANGES))) (po_none)) rfl) (pss_one (ps_fld (pv 0) (pe_lst (pa_nil)) rfl))
def t_Changes_take_back (K : PySem.W.Frag) (a : Ad) : TS := tSeq (tDrop (tBM K "list" rAppend (tFld K (tVar 0) "ahead") (tCons (tVar 1) (tNil)))) (tRet (tBM0 K "list" rPop (tFld K (tVar 0) "behind")))
theorem ps_Changes_take_back (T : Txt K mg a)  {cdv : Value} {A : Around} {outer : List Env} {s : Shared} {H : Hp} {E : XK} (hr : Room 0 (A.deeper (envOfC "Changes.take_back" (defScope s_Changes_take_back) s.heap.objs.size a.f_Changes_take_back cdv))) :
    PSs (cxOf CX0 P w K mg base n_Changes_take_back "Changes.take_back" (defScope s_Changes_take_back) a.f_Changes_take_back cdv A outer s H E).nox (defBody s_Changes_take_back) (t_Changes_take_back K a) :=
  pss_cons (ps_expr (pe_bm PySem.F.plainAttrs_list PySem.F.slot_list_append PySem.F.type_list_append mt_append (pe_fld (pv 0) rfl) (pa_cons (pv 1) (pa_nil)))) (pss_one (ps_ret (pe_bm0 PySem.F.plainAttrs_list PySem.F.slot_list_pop PySem.F.type_list_pop mt_pop (pe_fld (pv 0) rfl))))
def t_Changes_do_again (K : PySem.W.Frag) (a : Ad) : TS := tSeq (tDrop (tBM K "list" rAppend (tFld K (tVar 0) "behind") (tCons (tVar 1) (tNil)))) (tRet (tBM0 K "list" rPop (tFld K (tVar 0) "ahead")))
theorem ps_Changes_do_again (T : Txt K mg a)  {cdv : Value} {A : Around} {outer : List Env} {s : Shared} {H : Hp} {E : XK} (hr : Room 0 (A.deeper (envOfC "Changes.do_again" (defScope s_Changes_do_again) s.heap.objs.size a.f_Changes_do_again cdv))) :
    PSs (cxOf CX0 P w K mg base n_Changes_do_again "Changes.do_again" (defScope s_Changes_do_again) a.f_Changes_do_again cdv A outer s H E).nox (defBody s_Changes_do_again) (t_Changes_do_again K a) :=
  pss_cons (ps_expr (pe_bm PySem.F.plainAttrs_list PySem.F.slot_list_append PySem.F.type_list_append mt_append (pe_fld (pv 0) rfl) (pa_cons (pv 1) (pa_nil)))) (pss_one (ps_ret (pe_bm0 PySem.F.plainAttrs_list PySem.F.slot_list_pop PySem.F.type_list_pop mt_pop (pe_fld (pv 0) rfl))))
def t_Area_init (K : PySem.W.Frag) (a : Ad) : TS := tSeq (sFld K (tVar 0) (tVar 1) "x") (tSeq (sFld K (tVar 0) (tVar 2) "y") (tSeq (sFld K (tVar 0) (tVar 3) "wide") (sFld K (tVar 0) (tVar 4) "high")))
theorem ps_Area_init (T : Txt K mg a)  {cdv : Value} {A : Around} {outer : List Env} {s : Shared} {H : Hp} {E : XK} (hr : Room 0 (A.deeper (envOfC "Area.__init__" (defScope s_Area_init) s.heap.objs.size a.f_Area_init cdv))) :
    PSs (cxOf CX0 P w K mg base n_Area_init "Area.__init__" (defScope s_Area_init) a.f_Area_init cdv A outer s H E).nox (defBody s_Area_init) (t_Area_init K a) :=
  pss_cons (ps_fld (pv 0) (pv 1) rfl) (pss_cons (ps_fld (pv 0) (pv 2) rfl) (pss_cons (ps_fld (pv 0) (pv 3) rfl) (pss_one (ps_fld (pv 0) (pv 4) rfl))))
def t_Craft_init (K : PySem.W.Frag) (a : Ad) : TS := tSeq (sFld K (tVar 0) (tVar 1) "speed") (tSeq (sFld K (tVar 0) (tVar 2) "see") (tSeq (sFld K (tVar 0) (tVar 3) "hours") (sFld K (tVar 0) (tOp (rI0 fun i j => .int (i + j)) (tOp (rI CMul fun i j => .int (i * j)) (tC (.int (2))) (tVar 2)) (tC (.int (1)))) "strip")))
theorem ps_Craft_init (T : Txt K mg a)  {cdv : Value} {A : Around} {outer : List Env} {s : Shared} {H : Hp} {E : XK} (hr : Room 0 (A.deeper (envOfC "Craft.__init__" (defScope s_Craft_init) s.heap.objs.size a.f_Craft_init cdv))) :
    PSs (cxOf CX0 P w K mg base n_Craft_init "Craft.__init__" (defScope s_Craft_init) a.f_Craft_init cdv A outer s H E).nox (defBody s_Craft_init) (t_Craft_init K a) :=
  pss_cons (ps_fld (pv 0) (pv 1) rfl) (pss_cons (ps_fld (pv 0) (pv 2) rfl) (pss_cons (ps_fld (pv 0) (pv 3) rfl) (pss_one (ps_fld (pv 0) (pe_op op_add (pe_op op_mul (pe_int) (pv 2)) (pe_int)) rfl))))
def t_Plan_init (K : PySem.W.Frag) (a : Ad) : TS := tSeq (sFld K (tVar 0) (tVar 1) "way") (tSeq (sFld K (tVar 0) (tVar 2) "hours") (sFld K (tVar 0) (tVar 3) "shares"))
theorem ps_Plan_init (T : Txt K mg a)  {cdv : Value} {A : Around} {outer : List Env} {s : Shared} {H : Hp} {E : XK} (hr : Room 0 (A.deeper (envOfC "Plan.__init__" (defScope s_Plan_init) s.heap.objs.size a.f_Plan_init cdv))) :
    PSs (cxOf CX0 P w K mg base n_Plan_init "Plan.__init__" (defScope s_Plan_init) a.f_Plan_init cdv A outer s H E).nox (defBody s_Plan_init) (t_Plan_init K a) :=
  pss_cons (ps_fld (pv 0) (pv 1) rfl) (pss_cons (ps_fld (pv 0) (pv 2) rfl) (pss_one (ps_fld (pv 0) (pv 3) rfl)))
def t_leg_length (K : PySem.W.Frag) (a : Ad) : TS := tRet (tIf (tTest (tOp rEq (tVar 1) (tC (.int (0))))) (tFld K (tVar 0) "wide") (tFld K (tVar 0) "high"))
theorem ps_leg_length (T : Txt K mg a)  {cdv : Value} {A : Around} {outer : List Env} {s : Shared} {H : Hp} {E : XK} (hr : Room 0 (A.deeper (envOfC "leg_length" (defScope s_leg_length) s.heap.objs.size a.f_leg_length cdv))) :
    PSs (cxOf CX0 P w K mg base n_leg_length "leg_length" (defScope s_leg_length) a.f_leg_length cdv A outer s H E).nox (defBody s_leg_length) (t_leg_length K a) :=
  pss_one (ps_ret (pe_ifExp (pt_cmpR op_eq (pv 1) (pe_int) (nomark _)) (pe_fld (pv 0) rfl) (pe_fld (pv 0) rfl)))
def t_places_across (K : PySem.W.Frag) (a : Ad) : TS := tRet (tIf (tTest (tOp rEq (tVar 1) (tC (.int (0))))) (tOp (rI0 fun i j => .int (i + j)) (tFld K (tVar 0) "high") (tC (.int (1)))) (tOp (rI0 fun i j => .int (i + j)) (tFld K (tVar 0) "wide") (tC (.int (1)))))
theorem ps_places_across (T : Txt K mg a)  {cdv : Value} {A : Around} {outer : List Env} {s : Shared} {H : Hp} {E : XK} (hr : Room 0 (A.deeper (envOfC "places_across" (defScope s_places_across) s.heap.objs.size a.f_places_across cdv))) :
    PSs (cxOf CX0 P w K mg base n_places_across "places_across" (defScope s_places_across) a.f_places_across cdv A outer s H E).nox (defBody s_places_across) (t_places_across K a) :=
  pss_one (ps_ret (pe_ifExp (pt_cmpR op_eq (pv 1) (pe_int) (nomark _)) (pe_op op_add (pe_fld (pv 0) rfl) (pe_int)) (pe_op op_add (pe_fld (pv 0) rfl) (pe_int))))
def t_distance_of_legs (K : PySem.W.Frag) (a : Ad) : TS := tSeq (tIfS (tTest (tOp rEq (tVar 3) (tC (.int (0))))) (tRet (tC (.int (0)))) (tNext)) (tRet (tOp (rI0 fun i j => .int (i + j)) (tOp (rI CMul fun i j => .int (i * j)) (tVar 3) (tCall (sp_leg_length K a) [] E0 (tCons (tVar 0) (tCons (tVar 2) (tNil))))) (tOp (rI CMul fun i j => .int (i * j)) (tOp (rI0 fun i j => .int (i - j)) (tVar 3) (tC (.int (1)))) (tFld K (tVar 1) "strip"))))
theorem ps_distance_of_legs (T : Txt K mg a) (G_leg_length : FnOk P w K mg base CX0 1 a.f_leg_length a.d_leg_length p_leg_length (sp_leg_length K a)) {cdv : Value} {A : Around} {outer : List Env} {s : Shared} {H : Hp} {E : XK} (hr : Room 1 (A.deeper (envOfC "distance_of_legs" (defScope s_distance_of_legs) s.heap.objs.size a.f_distance_of_legs cdv))) :
    PSs (cxOf CX0 P w K mg base n_distance_of_legs "distance_of_legs" (defScope s_distance_of_legs) a.f_distance_of_legs cdv A outer s H E).nox (defBody s_distance_of_legs) (t_distance_of_legs K a) :=
  pss_cons (ps_if (pt_cmpR op_eq (pv 3) (pe_int) (nomark _)) (pss_one (ps_ret (pe_int))) (pss_nil)) (pss_one (ps_ret (pe_op op_add (pe_op op_mul (pv 3) (pe_call G_leg_length (hr.mono (by decide)) rfl T.g_leg_length T.F_leg_length.kp T.B_leg_length .nil pass0 (pa_cons (pv 0) (pa_cons (pv 2) (pa_nil))))) (pe_op op_mul (pe_op op_sub (pv 3) (pe_int)) (pe_fld (pv 1) rfl)))))
def t_most_legs (K : PySem.W.Frag) (a : Ad) : TS := tSeq (tAsg (tOp (rI CMul fun i j => .int (i * j)) (tFld K (tVar 1) "speed") (tCB (fun xs H Q => ∃ i j, xs = [.int i, .int j] ∧ Q (.int (if j < i then j else i)) H) (tCons (tVar 3) (tCons (tFld K (tVar 1) "hours") (tNil))))) (gName 4)) (tSeq (tAsg (tOp (rI CDiv fun i j => .int (i / j)) (tOp (rI0 fun i j => .int (i + j)) (tVar 4) (tFld K (tVar 1) "strip")) (tOp (rI0 fun i j => .int (i + j)) (tCall (sp_leg_length K a) [] E0 (tCons (tVar 0) (tCons (tVar 2) (tNil)))) (tFld K (tVar 1) "strip"))) (gName 5)) (tRet (tCB (fun xs H Q => ∃ i j, xs = [.int i, .int j] ∧ Q (.int (if j < i then j else i)) H) (tCons (tVar 5) (tCons (tCall (sp_places_across K a) [] E0 (tCons (tVar 0) (tCons (tVar 2) (tNil)))) (tNil))))))
theorem ps_most_legs (T : Txt K mg a) (G_leg_length : FnOk P w K mg base CX0 1 a.f_leg_length a.d_leg_length p_leg_length (sp_leg_length K a)) (G_places_across : FnOk P w K mg base CX0 1 a.f_places_across a.d_places_across p_places_across (sp_places_across K a)) {cdv : Value} {A : Around} {outer : List Env} {s : Shared} {H : Hp} {E : XK} (hr : Room 1 (A.deeper (envOfC "most_legs" (defScope s_most_legs) s.heap.objs.size a.f_most_legs cdv))) :
    PSs (cxOf CX0 P w K mg base n_most_legs "most_legs" (defScope s_most_legs) a.f_most_legs cdv A outer s H E).nox (defBody s_most_legs) (t_most_legs K a) :=
  pss_cons (ps_set (i := 4) sc_most_legs.nd rfl (Or.inl rfl) (pe_op op_mul (pe_fld (pv 1) rfl) (pe_callB (call_min2 rfl) (by rfl) T.b_min boot_min (pa_cons (pv 3) (pa_cons (pe_fld (pv 1) rfl) (pa_nil)))))) (pss_cons (ps_set (i := 5) sc_most_legs.nd rfl (Or.inl rfl) (pe_op op_fdiv (pe_op op_add (pv 4) (pe_fld (pv 1) rfl)) (pe_op op_add (pe_call G_leg_length (hr.mono (by decide)) rfl T.g_leg_length T.F_leg_length.kp T.B_leg_length .nil pass0 (pa_cons (pv 0) (pa_cons (pv 2) (pa_nil)))) (pe_fld (pv 1) rfl)))) (pss_one (ps_ret (pe_callB (call_min2 rfl) (by rfl) T.b_min boot_min (pa_cons (pv 5) (pa_cons (pe_call G_places_across (hr.mono (by decide)) rfl T.g_places_across T.F_places_across.kp T.B_places_across .nil pass0 (pa_cons (pv 0) (pa_cons (pv 2) (pa_nil)))) (pa_nil)))))))
def t_places_seen (K : PySem.W.Frag) (a : Ad) : TS := tRet (tCB (rSum K) (tCons (tLc (iList K (tVar 1)) (gName 4) (tYes) (tOp (rI CMul fun i j => .int (i * j)) (tCall (sp_most_legs K a) [] E0 (tCons (tVar 0) (tCons (tVar 4) (tCons (tVar 2) (tCons (tVar 3) (tNil)))))) (tFld K (tVar 4) "strip")) [4]) (tNil)))
theorem ps_places_seen (T : Txt K mg a) (G_most_legs : FnOk P w K mg base CX0 2 a.f_most_legs a.d_most_legs p_most_legs (sp_most_legs K a)) {cdv : Value} {A : Around} {outer : List Env} {s : Shared} {H : Hp} {E : XK} (hr : Room 2 (A.deeper (envOfC "places_seen" (defScope s_places_seen) s.heap.objs.size a.f_places_seen cdv))) :
    PSs (cxOf CX0 P w K mg base n_places_seen "places_seen" (defScope s_places_seen) a.f_places_seen cdv A outer s H E).nox (defBody s_places_seen) (t_places_seen K a) :=
  pss_one (ps_ret (pe_callB (cr_sum rfl) (by rfl) T.b_sum boot_sum (pa_cons (pe_lc (own := [("craft", 4)]) rfl sc_places_seen.nd (pi_list (pv 1)) (blkOk_by (by show blkC n_places_seen (defScope s_places_seen) _ _ = true; decide +kernel)) (fun _ _ _ _ _ => pg_name (i := 4) sc_places_seen.nd rfl (Or.inl rfl)) (fun _ _ _ _ _ => pts_nil) (fun _ _ _ _ _ => pe_op op_mul (pe_call G_most_legs (hr.mono (by decide)) rfl T.g_most_legs T.F_most_legs.kp T.B_most_legs .nil pass0 (pa_cons (pv 0) (pa_cons (pv 4) (pa_cons (pv 2) (pa_cons (pv 3) (pa_nil)))))) (pe_fld (pv 4) rfl))) (pa_nil))))
def t_is_done (K : PySem.W.Frag) (a : Ad) : TS := tRet (tOp (rI0 fun i j => .bl (decide (j ≤ i))) (tCall (sp_places_seen K a) [] E0 (tCons (tVar 0) (tCons (tVar 1) (tCons (tVar 2) (tCons (tVar 3) (tNil)))))) (tCall (sp_places_across K a) [] E0 (tCons (tVar 0) (tCons (tVar 2) (tNil)))))
theorem ps_is_done (T : Txt K mg a) (G_places_across : FnOk P w K mg base CX0 1 a.f_places_across a.d_places_across p_places_across (sp_places_across K a)) (G_places_seen : FnOk P w K mg base CX0 3 a.f_places_seen a.d_places_seen p_places_seen (sp_places_seen K a)) {cdv : Value} {A : Around} {outer : List Env} {s : Shared} {H : Hp} {E : XK} (hr : Room 3 (A.deeper (envOfC "is_done" (defScope s_is_done) s.heap.objs.size a.f_is_done cdv))) :
    PSs (cxOf CX0 P w K mg base n_is_done "is_done" (defScope s_is_done) a.f_is_done cdv A outer s H E).nox (defBody s_is_done) (t_is_done K a) :=
  pss_one (ps_ret (pe_cmpR op_ge (pe_call G_places_seen (hr.mono (by decide)) rfl T.g_places_seen T.F_places_seen.kp T.B_places_seen .nil pass0 (pa_cons (pv 0) (pa_cons (pv 1) (pa_cons (pv 2) (pa_cons (pv 3) (pa_nil)))))) (pe_call G_places_across (hr.mono (by decide)) rfl T.g_places_across T.F_places_across.kp T.B_places_across .nil pass0 (pa_cons (pv 0) (pa_cons (pv 2) (pa_nil)))) (nomark _)))
def t_least_hours (K : PySem.W.Frag) (a : Ad) : TS := tSeq (tIfS (tNot (tB (tCall (sp_is_done K a) [] E0 (tCons (tVar 0) (tCons (tVar 1) (tCons (tVar 2) (tCons (tC (.int (100))) (tNil)))))))) (tRet (tC .non)) (tNext)) (tSeq (tAsg (tC (.int (0))) (gName 3)) (tSeq (tAsg (tC (.int (100))) (gName 4)) (tSeq (tWhile (tTest (tOp (rI0 fun i j => .bl (decide (j < i))) (tOp (rI0 fun i j => .int (i - j)) (tVar 4) (tVar 3)) (tC (.int (1))))) (tSeq (tAsg (tOp (rI CDiv fun i j => .int (i / j)) (tOp (rI0 fun i j => .int (i + j)) (tVar 3) (tVar 4)) (tC (.int (2)))) (gName 5)) (tIfS (tB (tCall (sp_is_done K a) [] E0 (tCons (tVar 0) (tCons (tVar 1) (tCons (tVar 2) (tCons (tVar 5) (tNil))))))) (tAsg (tVar 5) (gName 4)) (tAsg (tVar 5) (gName 3))))) (tRet (tVar 4)))))
theorem ps_least_hours (T : Txt K mg a) (G_is_done : FnOk P w K mg base CX0 4 a.f_is_done a.d_is_done p_is_done (sp_is_done K a)) {cdv : Value} {A : Around} {outer : List Env} {s : Shared} {H : Hp} {E : XK} (hr : Room 4 (A.deeper (envOfC "least_hours" (defScope s_least_hours) s.heap.objs.size a.f_least_hours cdv))) :
    PSs (cxOf CX0 P w K mg base n_least_hours "least_hours" (defScope s_least_hours) a.f_least_hours cdv A outer s H E).nox (defBody s_least_hours) (t_least_hours K a) :=
  pss_cons (ps_if (pt_not (pt_val (pe_call G_is_done (hr.mono (by decide)) rfl T.g_is_done T.F_is_done.kp T.B_is_done .nil pass0 (pa_cons (pv 0) (pa_cons (pv 1) (pa_cons (pv 2) (pa_cons (pe_gint (by rfl) T.k_MOST_HOURS) (pa_nil)))))))) (pss_one (ps_ret (pe_non))) (pss_nil)) (pss_cons (ps_set (i := 3) sc_least_hours.nd rfl (Or.inl rfl) (pe_int)) (pss_cons (ps_set (i := 4) sc_least_hours.nd rfl (Or.inl rfl) (pe_gint (by rfl) T.k_MOST_HOURS)) (pss_cons (ps_while PassesOwn.never (pt_cmpR op_gt (pe_op op_sub (pv 4) (pv 3)) (pe_int) (nomark _)) (pss_cons (ps_set (i := 5) sc_least_hours.nd rfl (Or.inl rfl) (pe_op op_fdiv (pe_op op_add (pv 3) (pv 4)) (pe_int))) (pss_one (ps_if (pt_val (pe_call G_is_done (hr.mono (by decide)) rfl T.g_is_done T.F_is_done.kp T.B_is_done .nil pass0 (pa_cons (pv 0) (pa_cons (pv 1) (pa_cons (pv 2) (pa_cons (pv 5) (pa_nil))))))) (pss_one (ps_set (i := 4) sc_least_hours.nd rfl (Or.inl rfl) (pv 5))) (pss_one (ps_set (i := 3) sc_least_hours.nd rfl (Or.inl rfl) (pv 5))))))) (pss_one (ps_ret (pv 4))))))
def t_legs_needed (K : PySem.W.Frag) (a : Ad) : TS := tRet (tOp (rI CDiv fun i j => .int (i / j)) (tOp (rI0 fun i j => .int (i - j)) (tOp (rI0 fun i j => .int (i + j)) (tVar 1) (tFld K (tVar 0) "strip")) (tC (.int (1)))) (tFld K (tVar 0) "strip"))
theorem ps_legs_needed (T : Txt K mg a)  {cdv : Value} {A : Around} {outer : List Env} {s : Shared} {H : Hp} {E : XK} (hr : Room 0 (A.deeper (envOfC "legs_needed" (defScope s_legs_needed) s.heap.objs.size a.f_legs_needed cdv))) :
    PSs (cxOf CX0 P w K mg base n_legs_needed "legs_needed" (defScope s_legs_needed) a.f_legs_needed cdv A outer s H E).nox (defBody s_legs_needed) (t_legs_needed K a) :=
  pss_one (ps_ret (pe_op op_fdiv (pe_op op_sub (pe_op op_add (pv 1) (pe_fld (pv 0) rfl)) (pe_int)) (pe_fld (pv 0) rfl)))
def t_shared_out (K : PySem.W.Frag) (a : Ad) : TS := tSeq (tAsg (tLst (tNil)) (gName 4)) (tSeq (tAsg (tCall (sp_places_across K a) [] E0 (tCons (tVar 0) (tCons (tVar 2) (tNil)))) (gName 5)) (tSeq (tFor (iList K (tVar 1)) (gName 6) (tSeq (tAsg (tCB (fun xs H Q => ∃ i j, xs = [.int i, .int j] ∧ Q (.int (if j < i then j else i)) H) (tCons (tCall (sp_most_legs K a) [] E0 (tCons (tVar 0) (tCons (tVar 6) (tCons (tVar 2) (tCons (tVar 3) (tNil)))))) (tCons (tCall (sp_legs_needed K a) [] E0 (tCons (tVar 6) (tCons (tVar 5) (tNil)))) (tNil)))) (gName 7)) (tSeq (tDrop (tBM K "list" rAppend (tVar 4) (tCons (tVar 7) (tNil)))) (tAsg (tCB (fun xs H Q => ∃ i j, xs = [.int i, .int j] ∧ Q (.int (if j > i then j else i)) H) (tCons (tC (.int (0))) (tCons (tOp (rI0 fun i j => .int (i - j)) (tVar 5) (tOp (rI CMul fun i j => .int (i * j)) (tVar 7) (tFld K (tVar 6) "strip"))) (tNil)))) (gName 5))))) (tRet (tVar 4))))
theorem ps_shared_out (T : Txt K mg a) (G_legs_needed : FnOk P w K mg base CX0 1 a.f_legs_needed a.d_legs_needed p_legs_needed (sp_legs_needed K a)) (G_most_legs : FnOk P w K mg base CX0 2 a.f_most_legs a.d_most_legs p_most_legs (sp_most_legs K a)) (G_places_across : FnOk P w K mg base CX0 1 a.f_places_across a.d_places_across p_places_across (sp_places_across K a)) {cdv : Value} {A : Around} {outer : List Env} {s : Shared} {H : Hp} {E : XK} (hr : Room 2 (A.deeper (envOfC "shared_out" (defScope s_shared_out) s.heap.objs.size a.f_shared_out cdv))) :
    PSs (cxOf CX0 P w K mg base n_shared_out "shared_out" (defScope s_shared_out) a.f_shared_out cdv A outer s H E).nox (defBody s_shared_out) (t_shared_out K a) :=
  pss_cons (ps_set (i := 4) sc_shared_out.nd rfl (Or.inl rfl) (pe_lst (pa_nil))) (pss_cons (ps_set (i := 5) sc_shared_out.nd rfl (Or.inl rfl) (pe_call G_places_across (hr.mono (by decide)) rfl T.g_places_across T.F_places_across.kp T.B_places_across .nil pass0 (pa_cons (pv 0) (pa_cons (pv 2) (pa_nil))))) (pss_cons (ps_for PassesOwn.never rfl (pi_list (pv 1)) (pg_name (i := 6) sc_shared_out.nd rfl (Or.inl rfl)) (pss_cons (ps_set (i := 7) sc_shared_out.nd rfl (Or.inl rfl) (pe_callB (call_min2 rfl) (by rfl) T.b_min boot_min (pa_cons (pe_call G_most_legs (hr.mono (by decide)) rfl T.g_most_legs T.F_most_legs.kp T.B_most_legs .nil pass0 (pa_cons (pv 0) (pa_cons (pv 6) (pa_cons (pv 2) (pa_cons (pv 3) (pa_nil)))))) (pa_cons (pe_call G_legs_needed (hr.mono (by decide)) rfl T.g_legs_needed T.F_legs_needed.kp T.B_legs_needed .nil pass0 (pa_cons (pv 6) (pa_cons (pv 5) (pa_nil)))) (pa_nil))))) (pss_cons (ps_expr (pe_bm PySem.F.plainAttrs_list PySem.F.slot_list_append PySem.F.type_list_append mt_append (pv 4) (pa_cons (pv 7) (pa_nil)))) (pss_one (ps_set (i := 5) sc_shared_out.nd rfl (Or.inl rfl) (pe_callB (call_max2 rfl) (by rfl) T.b_max boot_max (pa_cons (pe_int) (pa_cons (pe_op op_sub (pv 5) (pe_op op_mul (pv 7) (pe_fld (pv 6) rfl))) (pa_nil))))))))) (pss_one (ps_ret (pv 4)))))
def t_best_plan (K : PySem.W.Frag) (a : Ad) : TS := tSeq (tAsg (tC .non) (gName 2)) (tSeq (tAsg (tC .non) (gName 3)) (tSeq (tFor (iTup K (tTup (tCons (tC (.int (0))) (tCons (tC (.int (1))) (tNil))))) (gName 4) (tSeq (tAsg (tCall (sp_least_hours K a) [] E0 (tCons (tVar 0) (tCons (tVar 1) (tCons (tVar 4) (tNil))))) (gName 5)) (tIfS (tAnd (tTest (tOp (fun x y H Q => y = .non ∧ Q (.bl (!decide (x = .non))) H) (tVar 5) (tC .non))) (tOr (tTest (tOp (fun x y H Q => y = .non ∧ Q (.bl (decide (x = .non))) H) (tVar 3) (tC .non))) (tTest (tOp (rI0 fun i j => .bl (decide (i < j))) (tVar 5) (tVar 3))))) (tSeq (tAsg (tVar 4) (gName 2)) (tAsg (tVar 5) (gName 3))) (tNext)))) (tSeq (tIfS (tTest (tOp (fun x y H Q => y = .non ∧ Q (.bl (decide (x = .non))) H) (tVar 2) (tC .non))) (tRet (tC .non)) (tNext)) (tRet (tMake a.c_Plan (sp_Plan_init K a) [] E0 (tCons (tVar 2) (tCons (tVar 3) (tCons (tCall (sp_shared_out K a) [] E0 (tCons (tVar 0) (tCons (tVar 1) (tCons (tVar 2) (tCons (tVar 3) (tNil)))))) (tNil)))))))))
theorem ps_best_plan (T : Txt K mg a) (G_Plan_init : FnOk P w K mg base CX0 1 a.f_Plan_init a.d_Plan_init p_Plan_init (sp_Plan_init K a)) (G_least_hours : FnOk P w K mg base CX0 5 a.f_least_hours a.d_least_hours p_least_hours (sp_least_hours K a)) (G_shared_out : FnOk P w K mg base CX0 3 a.f_shared_out a.d_shared_out p_shared_out (sp_shared_out K a)) {cdv : Value} {A : Around} {outer : List Env} {s : Shared} {H : Hp} {E : XK} (hr : Room 5 (A.deeper (envOfC "best_plan" (defScope s_best_plan) s.heap.objs.size a.f_best_plan cdv))) :
    PSs (cxOf CX0 P w K mg base n_best_plan "best_plan" (defScope s_best_plan) a.f_best_plan cdv A outer s H E).nox (defBody s_best_plan) (t_best_plan K a) :=
  pss_cons (ps_set (i := 2) sc_best_plan.nd rfl (Or.inl rfl) (pe_non)) (pss_cons (ps_set (i := 3) sc_best_plan.nd rfl (Or.inl rfl) (pe_non)) (pss_cons (ps_for PassesOwn.never rfl (pi_tup (pe_tup (pa_cons (pe_int) (pa_cons (pe_int) (pa_nil))))) (pg_name (i := 4) sc_best_plan.nd rfl (Or.inl rfl)) (pss_cons (ps_set (i := 5) sc_best_plan.nd rfl (Or.inl rfl) (pe_call G_least_hours (hr.mono (by decide)) rfl T.g_least_hours T.F_least_hours.kp T.B_least_hours .nil pass0 (pa_cons (pv 0) (pa_cons (pv 1) (pa_cons (pv 4) (pa_nil)))))) (pss_one (ps_if ((pw_and (pt_cmpR op_notN (pv 5) (pe_non) (nomark _)) (pw_and1 ((pw_or (pt_cmpR op_isN (pv 3) (pe_non) (nomark _)) (pw_or1 (pt_cmpR op_lt (pv 5) (pv 3) (nomark _)))).pt))).pt) (pss_cons (ps_set (i := 2) sc_best_plan.nd rfl (Or.inl rfl) (pv 4)) (pss_one (ps_set (i := 3) sc_best_plan.nd rfl (Or.inl rfl) (pv 5)))) (pss_nil))))) (pss_cons (ps_if (pt_cmpR op_isN (pv 2) (pe_non) (nomark _)) (pss_one (ps_ret (pe_non))) (pss_nil)) (pss_one (ps_ret (pe_make T.mk_Plan G_Plan_init (hr.mono (by decide)) rfl T.g_Plan T.B_Plan_init .nil pass0 (pa_cons (pv 2) (pa_cons (pv 3) (pa_cons (pe_call G_shared_out (hr.mono (by decide)) rfl T.g_shared_out T.F_shared_out.kp T.B_shared_out .nil pass0 (pa_cons (pv 0) (pa_cons (pv 1) (pa_cons (pv 2) (pa_cons (pv 3) (pa_nil)))))) (pa_nil))))))))))
def t_places_before (K : PySem.W.Frag) (a : Ad) : TS := tRet (tCB (rSum K) (tCons (tLc (iRng1 (tCons (tVar 2) (tNil))) (gName 3) (tYes) (tOp (rI CMul fun i j => .int (i * j)) (tOp (rIxL K) (tFld K (tVar 1) "shares") (tVar 3)) (tFld K (tOp (rIxL K) (tVar 0) (tVar 3)) "strip")) [3]) (tNil)))
theorem ps_places_before (T : Txt K mg a)  {cdv : Value} {A : Around} {outer : List Env} {s : Shared} {H : Hp} {E : XK} (hr : Room 0 (A.deeper (envOfC "places_before" (defScope s_places_before) s.heap.objs.size a.f_places_before cdv))) :
    PSs (cxOf CX0 P w K mg base n_places_before "places_before" (defScope s_places_before) a.f_places_before cdv A outer s H E).nox (defBody s_places_before) (t_places_before K a) :=
  pss_one (ps_ret (pe_callB (cr_sum rfl) (by rfl) T.b_sum boot_sum (pa_cons (pe_lc (own := [("j", 3)]) rfl sc_places_before.nd (pi_range1 rfl T.b_range (pa_cons (pv 2) (pa_nil))) (blkOk_by (by show blkC n_places_before (defScope s_places_before) _ _ = true; decide +kernel)) (fun _ _ _ _ _ => pg_name (i := 3) sc_places_before.nd rfl (Or.inl rfl)) (fun _ _ _ _ _ => pts_nil) (fun _ _ _ _ _ => pe_op op_mul (pe_ix ix_list (pe_fld (pv 1) rfl) (pv 3) (fun _ _ => rfl)) (pe_fld (pe_ix ix_list (pv 0) (pv 3) (fun _ _ => rfl)) rfl))) (pa_nil))))
def t_is_within (K : PySem.W.Frag) (a : Ad) : TS := tRet (tAndV (tChain (rI0 fun i j => .bl (decide (i ≤ j))) (rI0 fun i j => .bl (decide (i ≤ j))) (tFld K (tVar 0) "x") (tVar 1) (tOp (rI0 fun i j => .int (i + j)) (tFld K (tVar 0) "x") (tFld K (tVar 0) "wide"))) (tChain (rI0 fun i j => .bl (decide (i ≤ j))) (rI0 fun i j => .bl (decide (i ≤ j))) (tFld K (tVar 0) "y") (tVar 2) (tOp (rI0 fun i j => .int (i + j)) (tFld K (tVar 0) "y") (tFld K (tVar 0) "high"))))
theorem ps_is_within (T : Txt K mg a)  {cdv : Value} {A : Around} {outer : List Env} {s : Shared} {H : Hp} {E : XK} (hr : Room 0 (A.deeper (envOfC "is_within" (defScope s_is_within) s.heap.objs.size a.f_is_within cdv))) :
    PSs (cxOf CX0 P w K mg base n_is_within "is_within" (defScope s_is_within) a.f_is_within cdv A outer s H E).nox (defBody s_is_within) (t_is_within K a) :=
  pss_one (ps_ret (pe_and (pe_chain op_le op_le (pe_fld (pv 0) rfl) (pv 1) (pe_op op_add (pe_fld (pv 0) rfl) (pe_fld (pv 0) rfl))) (pe_one (pe_chain op_le op_le (pe_fld (pv 0) rfl) (pv 2) (pe_op op_add (pe_fld (pv 0) rfl) (pe_fld (pv 0) rfl))))))
def t_legs_done (K : PySem.W.Frag) (a : Ad) : TS := tRet (tCB (fun xs H Q => ∃ i j, xs = [.int i, .int j] ∧ Q (.int (if j < i then j else i)) H) (tCons (tOp (rIxL K) (tFld K (tVar 2) "shares") (tVar 3)) (tCons (tCall (sp_most_legs K a) [] E0 (tCons (tVar 0) (tCons (tVar 1) (tCons (tFld K (tVar 2) "way") (tCons (tVar 4) (tNil)))))) (tNil))))
theorem ps_legs_done (T : Txt K mg a) (G_most_legs : FnOk P w K mg base CX0 2 a.f_most_legs a.d_most_legs p_most_legs (sp_most_legs K a)) {cdv : Value} {A : Around} {outer : List Env} {s : Shared} {H : Hp} {E : XK} (hr : Room 2 (A.deeper (envOfC "legs_done" (defScope s_legs_done) s.heap.objs.size a.f_legs_done cdv))) :
    PSs (cxOf CX0 P w K mg base n_legs_done "legs_done" (defScope s_legs_done) a.f_legs_done cdv A outer s H E).nox (defBody s_legs_done) (t_legs_done K a) :=
  pss_one (ps_ret (pe_callB (call_min2 rfl) (by rfl) T.b_min boot_min (pa_cons (pe_ix ix_list (pe_fld (pv 2) rfl) (pv 3) (fun _ _ => rfl)) (pa_cons (pe_call G_most_legs (hr.mono (by decide)) rfl T.g_most_legs T.F_most_legs.kp T.B_most_legs .nil pass0 (pa_cons (pv 0) (pa_cons (pv 1) (pa_cons (pe_fld (pv 2) rfl) (pa_cons (pv 4) (pa_nil)))))) (pa_nil)))))
def t_Course_init (K : PySem.W.Frag) (a : Ad) : TS := tSeq (sFld K (tVar 0) (tVar 1) "area") (tSeq (sFld K (tVar 0) (tOp (rIxL K) (tVar 2) (tVar 4)) "craft") (tSeq (sFld K (tVar 0) (tFld K (tVar 3) "way") "way") (tSeq (sFld K (tVar 0) (tOp (rIxL K) (tFld K (tVar 3) "shares") (tVar 4)) "legs") (tSeq (sFld K (tVar 0) (tCall (sp_places_before K a) [] E0 (tCons (tVar 2) (tCons (tVar 3) (tCons (tVar 4) (tNil))))) "before") (tSeq (sFld K (tVar 0) (tCall (sp_leg_length K a) [] E0 (tCons (tVar 1) (tCons (tFld K (tVar 3) "way") (tNil)))) "long") (sFld K (tVar 0) (tOp (rI0 fun i j => .int (i + j)) (tFld K (tVar 0) "long") (tFld K (tFld K (tVar 0) "craft") "strip")) "pitch"))))))
theorem ps_Course_init (T : Txt K mg a) (G_leg_length : FnOk P w K mg base CX0 1 a.f_leg_length a.d_leg_length p_leg_length (sp_leg_length K a)) (G_places_before : FnOk P w K mg base CX0 1 a.f_places_before a.d_places_before p_places_before (sp_places_before K a)) {cdv : Value} {A : Around} {outer : List Env} {s : Shared} {H : Hp} {E : XK} (hr : Room 1 (A.deeper (envOfC "Course.__init__" (defScope s_Course_init) s.heap.objs.size a.f_Course_init cdv))) :
    PSs (cxOf CX0 P w K mg base n_Course_init "Course.__init__" (defScope s_Course_init) a.f_Course_init cdv A outer s H E).nox (defBody s_Course_init) (t_Course_init K a) :=
  pss_cons (ps_fld (pv 0) (pv 1) rfl) (pss_cons (ps_fld (pv 0) (pe_ix ix_list (pv 2) (pv 4) (fun _ _ => rfl)) rfl) (pss_cons (ps_fld (pv 0) (pe_fld (pv 3) rfl) rfl) (pss_cons (ps_fld (pv 0) (pe_ix ix_list (pe_fld (pv 3) rfl) (pv 4) (fun _ _ => rfl)) rfl) (pss_cons (ps_fld (pv 0) (pe_call G_places_before (hr.mono (by decide)) rfl T.g_places_before T.F_places_before.kp T.B_places_before .nil pass0 (pa_cons (pv 2) (pa_cons (pv 3) (pa_cons (pv 4) (pa_nil))))) rfl) (pss_cons (ps_fld (pv 0) (pe_call G_leg_length (hr.mono (by decide)) rfl T.g_leg_length T.F_leg_length.kp T.B_leg_length .nil pass0 (pa_cons (pv 1) (pa_cons (pe_fld (pv 3) rfl) (pa_nil)))) rfl) (pss_one (ps_fld (pv 0) (pe_op op_add (pe_fld (pv 0) rfl) (pe_fld (pe_fld (pv 0) rfl) rfl)) rfl)))))))
def t_Course_line_of (K : PySem.W.Frag) (a : Ad) : TS := tSeq (tAsg (tOp (rI0 fun i j => .int (i + j)) (tOp (rI0 fun i j => .int (i + j)) (tFld K (tVar 0) "before") (tOp (rI CMul fun i j => .int (i * j)) (tVar 1) (tFld K (tFld K (tVar 0) "craft") "strip"))) (tFld K (tFld K (tVar 0) "craft") "see")) (gName 2)) (tRet (tCB (fun xs H Q => ∃ i j, xs = [.int i, .int j] ∧ Q (.int (if j < i then j else i)) H) (tCons (tVar 2) (tCons (tOp (rI0 fun i j => .int (i - j)) (tCall (sp_places_across K a) [] E0 (tCons (tFld K (tVar 0) "area") (tCons (tFld K (tVar 0) "way") (tNil)))) (tC (.int (1)))) (tNil)))))
theorem ps_Course_line_of (T : Txt K mg a) (G_places_across : FnOk P w K mg base CX0 1 a.f_places_across a.d_places_across p_places_across (sp_places_across K a)) {cdv : Value} {A : Around} {outer : List Env} {s : Shared} {H : Hp} {E : XK} (hr : Room 1 (A.deeper (envOfC "Course.line_of" (defScope s_Course_line_of) s.heap.objs.size a.f_Course_line_of cdv))) :
    PSs (cxOf CX0 P w K mg base n_Course_line_of "Course.line_of" (defScope s_Course_line_of) a.f_Course_line_of cdv A outer s H E).nox (defBody s_Course_line_of) (t_Course_line_of K a) :=
  pss_cons (ps_set (i := 2) sc_Course_line_of.nd rfl (Or.inl rfl) (pe_op op_add (pe_op op_add (pe_fld (pv 0) rfl) (pe_op op_mul (pv 1) (pe_fld (pe_fld (pv 0) rfl) rfl))) (pe_fld (pe_fld (pv 0) rfl) rfl))) (pss_one (ps_ret (pe_callB (call_min2 rfl) (by rfl) T.b_min boot_min (pa_cons (pv 2) (pa_cons (pe_op op_sub (pe_call G_places_across (hr.mono (by decide)) rfl T.g_places_across T.F_places_across.kp T.B_places_across .nil pass0 (pa_cons (pe_fld (pv 0) rfl) (pa_cons (pe_fld (pv 0) rfl) (pa_nil)))) (pe_int)) (pa_nil))))))
def t_Course_along_leg (K : PySem.W.Frag) (a : Ad) : TS := tRet (tIf (tTest (tOp rEq (tOp (rI (fun _ j => 0 < j) fun i j => .int (i % j)) (tVar 1) (tC (.int (2)))) (tC (.int (0))))) (tVar 2) (tOp (rI0 fun i j => .int (i - j)) (tFld K (tVar 0) "long") (tVar 2)))
theorem ps_Course_along_leg (T : Txt K mg a)  {cdv : Value} {A : Around} {outer : List Env} {s : Shared} {H : Hp} {E : XK} (hr : Room 0 (A.deeper (envOfC "Course.along_leg" (defScope s_Course_along_leg) s.heap.objs.size a.f_Course_along_leg cdv))) :
    PSs (cxOf CX0 P w K mg base n_Course_along_leg "Course.along_leg" (defScope s_Course_along_leg) a.f_Course_along_leg cdv A outer s H E).nox (defBody s_Course_along_leg) (t_Course_along_leg K a) :=
  pss_one (ps_ret (pe_ifExp (pt_cmpR op_eq (pe_op op_mod (pv 1) (pe_int)) (pe_int) (nomark _)) (pv 2) (pe_op op_sub (pe_fld (pv 0) rfl) (pv 2))))
def t_Course_place_on (K : PySem.W.Frag) (a : Ad) : TS := tSeq (tAsg (tMeth a.c_Course "along_leg" (sp_Course_along_leg K a) [] E0 (tVar 0) (tCons (tVar 1) (tCons (tVar 2) (tNil)))) (gName 3)) (tSeq (tAsg (tMeth a.c_Course "line_of" (sp_Course_line_of K a) [] E0 (tVar 0) (tCons (tVar 1) (tNil))) (gName 4)) (tSeq (tIfS (tTest (tOp rEq (tFld K (tVar 0) "way") (tC (.int (0))))) (tRet (tLst (tCons (tOp (rI0 fun i j => .int (i + j)) (tFld K (tFld K (tVar 0) "area") "x") (tVar 3)) (tCons (tOp (rI0 fun i j => .int (i + j)) (tFld K (tFld K (tVar 0) "area") "y") (tVar 4)) (tNil))))) (tNext)) (tRet (tLst (tCons (tOp (rI0 fun i j => .int (i + j)) (tFld K (tFld K (tVar 0) "area") "x") (tVar 4)) (tCons (tOp (rI0 fun i j => .int (i + j)) (tFld K (tFld K (tVar 0) "area") "y") (tVar 3)) (tNil)))))))
theorem ps_Course_place_on (T : Txt K mg a) (G_Course_along_leg : FnOk P w K mg base CX0 1 a.f_Course_along_leg a.d_Course_along_leg p_Course_along_leg (sp_Course_along_leg K a)) (G_Course_line_of : FnOk P w K mg base CX0 2 a.f_Course_line_of a.d_Course_line_of p_Course_line_of (sp_Course_line_of K a)) {cdv : Value} {A : Around} {outer : List Env} {s : Shared} {H : Hp} {E : XK} (hr : Room 2 (A.deeper (envOfC "Course.place_on" (defScope s_Course_place_on) s.heap.objs.size a.f_Course_place_on cdv))) :
    PSs (cxOf CX0 P w K mg base n_Course_place_on "Course.place_on" (defScope s_Course_place_on) a.f_Course_place_on cdv A outer s H E).nox (defBody s_Course_place_on) (t_Course_place_on K a) :=
  pss_cons (ps_set (i := 3) sc_Course_place_on.nd rfl (Or.inl rfl) (pe_meth (pv 0) T.cl_Course T.me_Course_along_leg G_Course_along_leg (hr.mono (by decide)) T.B_Course_along_leg .nil pass0 (pa_cons (pv 1) (pa_cons (pv 2) (pa_nil))))) (pss_cons (ps_set (i := 4) sc_Course_place_on.nd rfl (Or.inl rfl) (pe_meth (pv 0) T.cl_Course T.me_Course_line_of G_Course_line_of (hr.mono (by decide)) T.B_Course_line_of .nil pass0 (pa_cons (pv 1) (pa_nil)))) (pss_cons (ps_if (pt_cmpR op_eq (pe_fld (pv 0) rfl) (pe_int) (nomark _)) (pss_one (ps_ret (pe_lst (pa_cons (pe_op op_add (pe_fld (pe_fld (pv 0) rfl) rfl) (pv 3)) (pa_cons (pe_op op_add (pe_fld (pe_fld (pv 0) rfl) rfl) (pv 4)) (pa_nil)))))) (pss_nil)) (pss_one (ps_ret (pe_lst (pa_cons (pe_op op_add (pe_fld (pe_fld (pv 0) rfl) rfl) (pv 4)) (pa_cons (pe_op op_add (pe_fld (pe_fld (pv 0) rfl) rfl) (pv 3)) (pa_nil))))))))
def t_Course_gone_by (K : PySem.W.Frag) (a : Ad) : TS := tSeq (tAsg (tCall (sp_distance_of_legs K a) [] E0 (tCons (tFld K (tVar 0) "area") (tCons (tFld K (tVar 0) "craft") (tCons (tFld K (tVar 0) "way") (tCons (tFld K (tVar 0) "legs") (tNil)))))) (gName 2)) (tRet (tCB (fun xs H Q => ∃ i j, xs = [.int i, .int j] ∧ Q (.int (if j < i then j else i)) H) (tCons (tOp (rI CMul fun i j => .int (i * j)) (tFld K (tFld K (tVar 0) "craft") "speed") (tVar 1)) (tCons (tVar 2) (tNil)))))
theorem ps_Course_gone_by (T : Txt K mg a) (G_distance_of_legs : FnOk P w K mg base CX0 2 a.f_distance_of_legs a.d_distance_of_legs p_distance_of_legs (sp_distance_of_legs K a)) {cdv : Value} {A : Around} {outer : List Env} {s : Shared} {H : Hp} {E : XK} (hr : Room 2 (A.deeper (envOfC "Course.gone_by" (defScope s_Course_gone_by) s.heap.objs.size a.f_Course_gone_by cdv))) :
    PSs (cxOf CX0 P w K mg base n_Course_gone_by "Course.gone_by" (defScope s_Course_gone_by) a.f_Course_gone_by cdv A outer s H E).nox (defBody s_Course_gone_by) (t_Course_gone_by K a) :=
  pss_cons (ps_set (i := 2) sc_Course_gone_by.nd rfl (Or.inl rfl) (pe_call G_distance_of_legs (hr.mono (by decide)) rfl T.g_distance_of_legs T.F_distance_of_legs.kp T.B_distance_of_legs .nil pass0 (pa_cons (pe_fld (pv 0) rfl) (pa_cons (pe_fld (pv 0) rfl) (pa_cons (pe_fld (pv 0) rfl) (pa_cons (pe_fld (pv 0) rfl) (pa_nil))))))) (pss_one (ps_ret (pe_callB (call_min2 rfl) (by rfl) T.b_min boot_min (pa_cons (pe_op op_mul (pe_fld (pe_fld (pv 0) rfl) rfl) (pv 1)) (pa_cons (pv 2) (pa_nil))))))
def t_Course_leg_by (K : PySem.W.Frag) (a : Ad) : TS := tRet (tOp (rI CDiv fun i j => .int (i / j)) (tMeth a.c_Course "gone_by" (sp_Course_gone_by K a) [] E0 (tVar 0) (tCons (tVar 1) (tNil))) (tFld K (tVar 0) "pitch"))
theorem ps_Course_leg_by (T : Txt K mg a) (G_Course_gone_by : FnOk P w K mg base CX0 3 a.f_Course_gone_by a.d_Course_gone_by p_Course_gone_by (sp_Course_gone_by K a)) {cdv : Value} {A : Around} {outer : List Env} {s : Shared} {H : Hp} {E : XK} (hr : Room 3 (A.deeper (envOfC "Course.leg_by" (defScope s_Course_leg_by) s.heap.objs.size a.f_Course_leg_by cdv))) :
    PSs (cxOf CX0 P w K mg base n_Course_leg_by "Course.leg_by" (defScope s_Course_leg_by) a.f_Course_leg_by cdv A outer s H E).nox (defBody s_Course_leg_by) (t_Course_leg_by K a) :=
  pss_one (ps_ret (pe_op op_fdiv (pe_meth (pv 0) T.cl_Course T.me_Course_gone_by G_Course_gone_by (hr.mono (by decide)) T.B_Course_gone_by .nil pass0 (pa_cons (pv 1) (pa_nil))) (pe_fld (pv 0) rfl)))
def t_Course_place_by (K : PySem.W.Frag) (a : Ad) : TS := tSeq (tAsg (tOp (rI (fun _ j => 0 < j) fun i j => .int (i % j)) (tMeth a.c_Course "gone_by" (sp_Course_gone_by K a) [] E0 (tVar 0) (tCons (tVar 1) (tNil))) (tFld K (tVar 0) "pitch")) (gName 2)) (tRet (tMeth a.c_Course "place_on" (sp_Course_place_on K a) [] E0 (tVar 0) (tCons (tMeth a.c_Course "leg_by" (sp_Course_leg_by K a) [] E0 (tVar 0) (tCons (tVar 1) (tNil))) (tCons (tCB (fun xs H Q => ∃ i j, xs = [.int i, .int j] ∧ Q (.int (if j < i then j else i)) H) (tCons (tVar 2) (tCons (tFld K (tVar 0) "long") (tNil)))) (tNil)))))
theorem ps_Course_place_by (T : Txt K mg a) (G_Course_gone_by : FnOk P w K mg base CX0 3 a.f_Course_gone_by a.d_Course_gone_by p_Course_gone_by (sp_Course_gone_by K a)) (G_Course_leg_by : FnOk P w K mg base CX0 4 a.f_Course_leg_by a.d_Course_leg_by p_Course_leg_by (sp_Course_leg_by K a)) (G_Course_place_on : FnOk P w K mg base CX0 3 a.f_Course_place_on a.d_Course_place_on p_Course_place_on (sp_Course_place_on K a)) {cdv : Value} {A : Around} {outer : List Env} {s : Shared} {H : Hp} {E : XK} (hr : Room 4 (A.deeper (envOfC "Course.place_by" (defScope s_Course_place_by) s.heap.objs.size a.f_Course_place_by cdv))) :
    PSs (cxOf CX0 P w K mg base n_Course_place_by "Course.place_by" (defScope s_Course_place_by) a.f_Course_place_by cdv A outer s H E).nox (defBody s_Course_place_by) (t_Course_place_by K a) :=
  pss_cons (ps_set (i := 2) sc_Course_place_by.nd rfl (Or.inl rfl) (pe_op op_mod (pe_meth (pv 0) T.cl_Course T.me_Course_gone_by G_Course_gone_by (hr.mono (by decide)) T.B_Course_gone_by .nil pass0 (pa_cons (pv 1) (pa_nil))) (pe_fld (pv 0) rfl))) (pss_one (ps_ret (pe_meth (pv 0) T.cl_Course T.me_Course_place_on G_Course_place_on (hr.mono (by decide)) T.B_Course_place_on .nil pass0 (pa_cons (pe_meth (pv 0) T.cl_Course T.me_Course_leg_by G_Course_leg_by (hr.mono (by decide)) T.B_Course_leg_by .nil pass0 (pa_cons (pv 1) (pa_nil))) (pa_cons (pe_callB (call_min2 rfl) (by rfl) T.b_min boot_min (pa_cons (pv 2) (pa_cons (pe_fld (pv 0) rfl) (pa_nil)))) (pa_nil))))))
def t_Course_first_leg_seeing (K : PySem.W.Frag) (a : Ad) : TS := tSeq (tAsg (tOp (rI CDiv fun i j => .int (i / j)) (tOp (rI0 fun i j => .int (i - j)) (tVar 1) (tFld K (tVar 0) "before")) (tFld K (tFld K (tVar 0) "craft") "strip")) (gName 2)) (tSeq (tFor (iTup K (tTup (tCons (tVar 2) (tCons (tOp (rI0 fun i j => .int (i - j)) (tFld K (tVar 0) "legs") (tC (.int (1)))) (tNil))))) (gName 3) (tIfS (tAnd (tTest (tChain (rI0 fun i j => .bl (decide (i ≤ j))) (rI0 fun i j => .bl (decide (i < j))) (tC (.int (0))) (tVar 3) (tFld K (tVar 0) "legs"))) (tTest (tOp (rI0 fun i j => .bl (decide (i ≤ j))) (tCB (fun xs H Q => ∃ i, xs = [.int i] ∧ Q (.int (if i < 0 then -i else i)) H) (tCons (tOp (rI0 fun i j => .int (i - j)) (tVar 1) (tMeth a.c_Course "line_of" (sp_Course_line_of K a) [] E0 (tVar 0) (tCons (tVar 3) (tNil)))) (tNil))) (tFld K (tFld K (tVar 0) "craft") "see")))) (tRet (tVar 3)) (tNext))) (tRet (tC .non)))
theorem ps_Course_first_leg_seeing (T : Txt K mg a) (G_Course_line_of : FnOk P w K mg base CX0 2 a.f_Course_line_of a.d_Course_line_of p_Course_line_of (sp_Course_line_of K a)) {cdv : Value} {A : Around} {outer : List Env} {s : Shared} {H : Hp} {E : XK} (hr : Room 2 (A.deeper (envOfC "Course.first_leg_seeing" (defScope s_Course_first_leg_seeing) s.heap.objs.size a.f_Course_first_leg_seeing cdv))) :
    PSs (cxOf CX0 P w K mg base n_Course_first_leg_seeing "Course.first_leg_seeing" (defScope s_Course_first_leg_seeing) a.f_Course_first_leg_seeing cdv A outer s H E).nox (defBody s_Course_first_leg_seeing) (t_Course_first_leg_seeing K a) :=
  pss_cons (ps_set (i := 2) sc_Course_first_leg_seeing.nd rfl (Or.inl rfl) (pe_op op_fdiv (pe_op op_sub (pv 1) (pe_fld (pv 0) rfl)) (pe_fld (pe_fld (pv 0) rfl) rfl))) (pss_cons (ps_for PassesOwn.never rfl (pi_tup (pe_tup (pa_cons (pv 2) (pa_cons (pe_op op_sub (pe_fld (pv 0) rfl) (pe_int)) (pa_nil))))) (pg_name (i := 3) sc_Course_first_leg_seeing.nd rfl (Or.inl rfl)) (pss_one (ps_if ((pw_and (pt_chain op_le op_lt (pe_int) (pv 3) (pe_fld (pv 0) rfl)) (pw_and1 (pt_cmpR op_le (pe_callB call_abs (by rfl) T.b_abs boot_abs (pa_cons (pe_op op_sub (pv 1) (pe_meth (pv 0) T.cl_Course T.me_Course_line_of G_Course_line_of (hr.mono (by decide)) T.B_Course_line_of .nil pass0 (pa_cons (pv 3) (pa_nil)))) (pa_nil))) (pe_fld (pe_fld (pv 0) rfl) rfl) (nomark _)))).pt) (pss_one (ps_ret (pv 3))) (pss_nil)))) (pss_one (ps_ret (pe_non))))
def t_Course_hours_to_see (K : PySem.W.Frag) (a : Ad) : TS := tSeq (tAsg (tOp (rI0 fun i j => .int (i - j)) (tVar 1) (tFld K (tFld K (tVar 0) "area") "x")) (gName 3)) (tSeq (tAsg (tOp (rI0 fun i j => .int (i - j)) (tVar 2) (tFld K (tFld K (tVar 0) "area") "y")) (gName 4)) (tSeq (tAsg (tMeth a.c_Course "first_leg_seeing" (sp_Course_first_leg_seeing K a) [] E0 (tVar 0) (tCons (tIf (tTest (tOp rEq (tFld K (tVar 0) "way") (tC (.int (0))))) (tVar 4) (tVar 3)) (tNil))) (gName 5)) (tSeq (tIfS (tTest (tOp (fun x y H Q => y = .non ∧ Q (.bl (decide (x = .non))) H) (tVar 5) (tC .non))) (tRet (tC .non)) (tNext)) (tSeq (tAsg (tOp (rI0 fun i j => .int (i + j)) (tOp (rI CMul fun i j => .int (i * j)) (tVar 5) (tFld K (tVar 0) "pitch")) (tMeth a.c_Course "along_leg" (sp_Course_along_leg K a) [] E0 (tVar 0) (tCons (tVar 5) (tCons (tIf (tTest (tOp rEq (tFld K (tVar 0) "way") (tC (.int (0))))) (tVar 3) (tVar 4)) (tNil))))) (gName 6)) (tRet (tOp (rI CDiv fun i j => .int (i / j)) (tOp (rI0 fun i j => .int (i - j)) (tOp (rI0 fun i j => .int (i + j)) (tVar 6) (tFld K (tFld K (tVar 0) "craft") "speed")) (tC (.int (1)))) (tFld K (tFld K (tVar 0) "craft") "speed")))))))
theorem ps_Course_hours_to_see (T : Txt K mg a) (G_Course_along_leg : FnOk P w K mg base CX0 1 a.f_Course_along_leg a.d_Course_along_leg p_Course_along_leg (sp_Course_along_leg K a)) (G_Course_first_leg_seeing : FnOk P w K mg base CX0 3 a.f_Course_first_leg_seeing a.d_Course_first_leg_seeing p_Course_first_leg_seeing (sp_Course_first_leg_seeing K a)) {cdv : Value} {A : Around} {outer : List Env} {s : Shared} {H : Hp} {E : XK} (hr : Room 3 (A.deeper (envOfC "Course.hours_to_see" (defScope s_Course_hours_to_see) s.heap.objs.size a.f_Course_hours_to_see cdv))) :
    PSs (cxOf CX0 P w K mg base n_Course_hours_to_see "Course.hours_to_see" (defScope s_Course_hours_to_see) a.f_Course_hours_to_see cdv A outer s H E).nox (defBody s_Course_hours_to_see) (t_Course_hours_to_see K a) :=
  pss_cons (ps_set (i := 3) sc_Course_hours_to_see.nd rfl (Or.inl rfl) (pe_op op_sub (pv 1) (pe_fld (pe_fld (pv 0) rfl) rfl))) (pss_cons (ps_set (i := 4) sc_Course_hours_to_see.nd rfl (Or.inl rfl) (pe_op op_sub (pv 2) (pe_fld (pe_fld (pv 0) rfl) rfl))) (pss_cons (ps_set (i := 5) sc_Course_hours_to_see.nd rfl (Or.inl rfl) (pe_meth (pv 0) T.cl_Course T.me_Course_first_leg_seeing G_Course_first_leg_seeing (hr.mono (by decide)) T.B_Course_first_leg_seeing .nil pass0 (pa_cons (pe_ifExp (pt_cmpR op_eq (pe_fld (pv 0) rfl) (pe_int) (nomark _)) (pv 4) (pv 3)) (pa_nil)))) (pss_cons (ps_if (pt_cmpR op_isN (pv 5) (pe_non) (nomark _)) (pss_one (ps_ret (pe_non))) (pss_nil)) (pss_cons (ps_set (i := 6) sc_Course_hours_to_see.nd rfl (Or.inl rfl) (pe_op op_add (pe_op op_mul (pv 5) (pe_fld (pv 0) rfl)) (pe_meth (pv 0) T.cl_Course T.me_Course_along_leg G_Course_along_leg (hr.mono (by decide)) T.B_Course_along_leg .nil pass0 (pa_cons (pv 5) (pa_cons (pe_ifExp (pt_cmpR op_eq (pe_fld (pv 0) rfl) (pe_int) (nomark _)) (pv 3) (pv 4)) (pa_nil)))))) (pss_one (ps_ret (pe_op op_fdiv (pe_op op_sub (pe_op op_add (pv 6) (pe_fld (pe_fld (pv 0) rfl) rfl)) (pe_int)) (pe_fld (pe_fld (pv 0) rfl) rfl))))))))
def t_is_area (K : PySem.W.Frag) (a : Ad) : TS := tRet (tAndV (tChain (rI0 fun i j => .bl (decide (i ≤ j))) (rI0 fun i j => .bl (decide (i ≤ j))) (tUn (rU fun i => .int (-i)) (tC (.int (100000)))) (tVar 0) (tC (.int (100000)))) (tAndV (tChain (rI0 fun i j => .bl (decide (i ≤ j))) (rI0 fun i j => .bl (decide (i ≤ j))) (tUn (rU fun i => .int (-i)) (tC (.int (100000)))) (tVar 1) (tC (.int (100000)))) (tAndV (tChain (rI0 fun i j => .bl (decide (i ≤ j))) (rI0 fun i j => .bl (decide (i ≤ j))) (tC (.int (1))) (tVar 2) (tC (.int (500)))) (tChain (rI0 fun i j => .bl (decide (i ≤ j))) (rI0 fun i j => .bl (decide (i ≤ j))) (tC (.int (1))) (tVar 3) (tC (.int (500)))))))
theorem ps_is_area (T : Txt K mg a)  {cdv : Value} {A : Around} {outer : List Env} {s : Shared} {H : Hp} {E : XK} (hr : Room 0 (A.deeper (envOfC "is_area" (defScope s_is_area) s.heap.objs.size a.f_is_area cdv))) :
    PSs (cxOf CX0 P w K mg base n_is_area "is_area" (defScope s_is_area) a.f_is_area cdv A outer s H E).nox (defBody s_is_area) (t_is_area K a) :=
  pss_one (ps_ret (pe_and (pe_chain op_le op_le (pe_un un_neg (pe_gint (by rfl) T.k_FARTHEST_PLACE)) (pv 0) (pe_gint (by rfl) T.k_FARTHEST_PLACE)) (pe_and (pe_chain op_le op_le (pe_un un_neg (pe_gint (by rfl) T.k_FARTHEST_PLACE)) (pv 1) (pe_gint (by rfl) T.k_FARTHEST_PLACE)) (pe_and (pe_chain op_le op_le (pe_int) (pv 2) (pe_gint (by rfl) T.k_LONGEST_SIDE)) (pe_one (pe_chain op_le op_le (pe_int) (pv 3) (pe_gint (by rfl) T.k_LONGEST_SIDE)))))))
def t_is_craft (K : PySem.W.Frag) (a : Ad) : TS := tRet (tAndV (tChain (rI0 fun i j => .bl (decide (i ≤ j))) (rI0 fun i j => .bl (decide (i ≤ j))) (tC (.int (1))) (tVar 0) (tC (.int (500)))) (tAndV (tChain (rI0 fun i j => .bl (decide (i ≤ j))) (rI0 fun i j => .bl (decide (i ≤ j))) (tC (.int (0))) (tVar 1) (tC (.int (200)))) (tChain (rI0 fun i j => .bl (decide (i ≤ j))) (rI0 fun i j => .bl (decide (i ≤ j))) (tC (.int (1))) (tVar 2) (tC (.int (100))))))
theorem ps_is_craft (T : Txt K mg a)  {cdv : Value} {A : Around} {outer : List Env} {s : Shared} {H : Hp} {E : XK} (hr : Room 0 (A.deeper (envOfC "is_craft" (defScope s_is_craft) s.heap.objs.size a.f_is_craft cdv))) :
    PSs (cxOf CX0 P w K mg base n_is_craft "is_craft" (defScope s_is_craft) a.f_is_craft cdv A outer s H E).nox (defBody s_is_craft) (t_is_craft K a) :=
  pss_one (ps_ret (pe_and (pe_chain op_le op_le (pe_int) (pv 0) (pe_gint (by rfl) T.k_MOST_SPEED)) (pe_and (pe_chain op_le op_le (pe_int) (pv 1) (pe_gint (by rfl) T.k_MOST_SEE)) (pe_one (pe_chain op_le op_le (pe_int) (pv 2) (pe_gint (by rfl) T.k_MOST_HOURS))))))
def t_way_sign (K : PySem.W.Frag) (a : Ad) : TS := tRet (tIf (tTest (tOp rEq (tVar 0) (tC (.int (0))))) (tC (.int (1))) (tC (.int (0))))
theorem ps_way_sign (T : Txt K mg a)  {cdv : Value} {A : Around} {outer : List Env} {s : Shared} {H : Hp} {E : XK} (hr : Room 0 (A.deeper (envOfC "way_sign" (defScope s_way_sign) s.heap.objs.size a.f_way_sign cdv))) :
    PSs (cxOf CX0 P w K mg base n_way_sign "way_sign" (defScope s_way_sign) a.f_way_sign cdv A outer s H E).nox (defBody s_way_sign) (t_way_sign K a) :=
  pss_one (ps_ret (pe_ifExp (pt_cmpR op_eq (pv 0) (pe_int) (nomark _)) (pe_int) (pe_int)))
def t_Search_init (K : PySem.W.Frag) (a : Ad) : TS := tSeq (tDrop (tMeth a.c_Search "put" (sp_Search_put K a) [] E0 (tVar 0) (tCons (tTup (tCons (tC .non) (tCons (tLst (tNil)) (tCons (tC .non) (tCons (tC (.int (0))) (tNil)))))) (tNil)))) (sFld K (tVar 0) (tMake a.c_Changes (sp_Changes_init K a) [] E0 (tNil)) "changes")
theorem ps_Search_init (T : Txt K mg a) (G_Changes_init : FnOk P w K mg base CX0 1 a.f_Changes_init a.d_Changes_init p_Changes_init (sp_Changes_init K a)) (G_Search_put : FnOk P w K mg base CX0 1 a.f_Search_put a.d_Search_put p_Search_put (sp_Search_put K a)) {cdv : Value} {A : Around} {outer : List Env} {s : Shared} {H : Hp} {E : XK} (hr : Room 2 (A.deeper (envOfC "Search.__init__" (defScope s_Search_init) s.heap.objs.size a.f_Search_init cdv))) :
    PSs (cxOf CX0 P w K mg base n_Search_init "Search.__init__" (defScope s_Search_init) a.f_Search_init cdv A outer s H E).nox (defBody s_Search_init) (t_Search_init K a) :=
  pss_cons (ps_expr (pe_meth (pv 0) T.cl_Search T.me_Search_put G_Search_put (hr.mono (by decide)) T.B_Search_put .nil pass0 (pa_cons (pe_tup (pa_cons (pe_non) (pa_cons (pe_lst (pa_nil)) (pa_cons (pe_non) (pa_cons (pe_int) (pa_nil)))))) (pa_nil)))) (pss_one (ps_fld (pv 0) (pe_make0 T.mk_Changes G_Changes_init (hr.mono (by decide)) rfl T.g_Changes T.B_Changes_init .nil pass0) rfl))
def t_Search_standing (K : PySem.W.Frag) (a : Ad) : TS := tRet (tTup (tCons (tFld K (tVar 0) "area") (tCons (tFld K (tVar 0) "crafts") (tCons (tFld K (tVar 0) "plan") (tCons (tFld K (tVar 0) "hour") (tNil))))))
theorem ps_Search_standing (T : Txt K mg a)  {cdv : Value} {A : Around} {outer : List Env} {s : Shared} {H : Hp} {E : XK} (hr : Room 0 (A.deeper (envOfC "Search.standing" (defScope s_Search_standing) s.heap.objs.size a.f_Search_standing cdv))) :
    PSs (cxOf CX0 P w K mg base n_Search_standing "Search.standing" (defScope s_Search_standing) a.f_Search_standing cdv A outer s H E).nox (defBody s_Search_standing) (t_Search_standing K a) :=
  pss_one (ps_ret (pe_tup (pa_cons (pe_fld (pv 0) rfl) (pa_cons (pe_fld (pv 0) rfl) (pa_cons (pe_fld (pv 0) rfl) (pa_cons (pe_fld (pv 0) rfl) (pa_nil)))))))
def t_Search_put (K : PySem.W.Frag) (a : Ad) : TS := tSeq (sFld K (tVar 0) (tOp (rIxT K) (tVar 1) (tC (.int (0)))) "area") (tSeq (sFld K (tVar 0) (tOp (rIxT K) (tVar 1) (tC (.int (1)))) "crafts") (tSeq (sFld K (tVar 0) (tOp (rIxT K) (tVar 1) (tC (.int (2)))) "plan") (sFld K (tVar 0) (tOp (rIxT K) (tVar 1) (tC (.int (3)))) "hour")))
theorem ps_Search_put (T : Txt K mg a)  {cdv : Value} {A : Around} {outer : List Env} {s : Shared} {H : Hp} {E : XK} (hr : Room 0 (A.deeper (envOfC "Search.put" (defScope s_Search_put) s.heap.objs.size a.f_Search_put cdv))) :
    PSs (cxOf CX0 P w K mg base n_Search_put "Search.put" (defScope s_Search_put) a.f_Search_put cdv A outer s H E).nox (defBody s_Search_put) (t_Search_put K a) :=
  pss_cons (ps_fld (pv 0) (pe_ix ix_tup (pv 1) (pe_int) (fun _ _ => rfl)) rfl) (pss_cons (ps_fld (pv 0) (pe_ix ix_tup (pv 1) (pe_int) (fun _ _ => rfl)) rfl) (pss_cons (ps_fld (pv 0) (pe_ix ix_tup (pv 1) (pe_int) (fun _ _ => rfl)) rfl) (pss_one (ps_fld (pv 0) (pe_ix ix_tup (pv 1) (pe_int) (fun _ _ => rfl)) rfl))))
def t_Search_change (K : PySem.W.Frag) (a : Ad) : TS := tSeq (tDrop (tMeth a.c_Changes "made" (sp_Changes_made K a) [] E0 (tFld K (tVar 0) "changes") (tCons (tMeth a.c_Search "standing" (sp_Search_standing K a) [] E0 (tVar 0) (tNil)) (tNil)))) (tDrop (tMeth a.c_Search "put" (sp_Search_put K a) [] E0 (tVar 0) (tCons (tTup (tCons (tVar 1) (tCons (tVar 2) (tCons (tVar 3) (tCons (tVar 4) (tNil)))))) (tNil))))
theorem ps_Search_change (T : Txt K mg a) (G_Changes_made : FnOk P w K mg base CX0 1 a.f_Changes_made a.d_Changes_made p_Changes_made (sp_Changes_made K a)) (G_Search_put : FnOk P w K mg base CX0 1 a.f_Search_put a.d_Search_put p_Search_put (sp_Search_put K a)) (G_Search_standing : FnOk P w K mg base CX0 1 a.f_Search_standing a.d_Search_standing p_Search_standing (sp_Search_standing K a)) {cdv : Value} {A : Around} {outer : List Env} {s : Shared} {H : Hp} {E : XK} (hr : Room 1 (A.deeper (envOfC "Search.change" (defScope s_Search_change) s.heap.objs.size a.f_Search_change cdv))) :
    PSs (cxOf CX0 P w K mg base n_Search_change "Search.change" (defScope s_Search_change) a.f_Search_change cdv A outer s H E).nox (defBody s_Search_change) (t_Search_change K a) :=
  pss_cons (ps_expr (pe_meth (pe_fld (pv 0) rfl) T.cl_Changes T.me_Changes_made G_Changes_made (hr.mono (by decide)) T.B_Changes_made .nil pass0 (pa_cons (pe_meth0 (pv 0) T.cl_Search T.me_Search_standing G_Search_standing (hr.mono (by decide)) T.B_Search_standing .nil pass0) (pa_nil)))) (pss_one (ps_expr (pe_meth (pv 0) T.cl_Search T.me_Search_put G_Search_put (hr.mono (by decide)) T.B_Search_put .nil pass0 (pa_cons (pe_tup (pa_cons (pv 1) (pa_cons (pv 2) (pa_cons (pv 3) (pa_cons (pv 4) (pa_nil)))))) (pa_nil)))))
def t_Search_sl_start (K : PySem.W.Frag) (a : Ad) : TS := tSeq (tIfS (tNot (tB (tCall (sp_is_area K a) [] E0 (tCons (tVar 1) (tCons (tVar 2) (tCons (tVar 3) (tCons (tVar 4) (tNil)))))))) (tRet (tLst (tCons (tC (.int (-22))) (tNil)))) (tNext)) (tSeq (tDrop (tMeth a.c_Search "put" (sp_Search_put K a) [] E0 (tVar 0) (tCons (tTup (tCons (tMake a.c_Area (sp_Area_init K a) [] E0 (tCons (tVar 1) (tCons (tVar 2) (tCons (tVar 3) (tCons (tVar 4) (tNil)))))) (tCons (tLst (tNil)) (tCons (tC .non) (tCons (tC (.int (0))) (tNil)))))) (tNil)))) (tSeq (sFld K (tVar 0) (tMake a.c_Changes (sp_Changes_init K a) [] E0 (tNil)) "changes") (tRet (tLst (tCons (tC (.int (0))) (tNil))))))
theorem ps_Search_sl_start (T : Txt K mg a) (G_Area_init : FnOk P w K mg base CX0 1 a.f_Area_init a.d_Area_init p_Area_init (sp_Area_init K a)) (G_Changes_init : FnOk P w K mg base CX0 1 a.f_Changes_init a.d_Changes_init p_Changes_init (sp_Changes_init K a)) (G_Search_put : FnOk P w K mg base CX0 1 a.f_Search_put a.d_Search_put p_Search_put (sp_Search_put K a)) (G_is_area : FnOk P w K mg base CX0 1 a.f_is_area a.d_is_area p_is_area (sp_is_area K a)) {cdv : Value} {A : Around} {outer : List Env} {s : Shared} {H : Hp} {E : XK} (hr : Room 2 (A.deeper (envOfC "Search.sl_start" (defScope s_Search_sl_start) s.heap.objs.size a.f_Search_sl_start cdv))) :
    PSs (cxOf CX0 P w K mg base n_Search_sl_start "Search.sl_start" (defScope s_Search_sl_start) a.f_Search_sl_start cdv A outer s H E).nox (defBody s_Search_sl_start) (t_Search_sl_start K a) :=
  pss_cons (ps_if (pt_not (pt_val (pe_call G_is_area (hr.mono (by decide)) rfl T.g_is_area T.F_is_area.kp T.B_is_area .nil pass0 (pa_cons (pv 1) (pa_cons (pv 2) (pa_cons (pv 3) (pa_cons (pv 4) (pa_nil)))))))) (pss_one (ps_ret (pe_lst (pa_cons (pe_gint (by rfl) T.k_NOT_AS_TOLD) (pa_nil))))) (pss_nil)) (pss_cons (ps_expr (pe_meth (pv 0) T.cl_Search T.me_Search_put G_Search_put (hr.mono (by decide)) T.B_Search_put .nil pass0 (pa_cons (pe_tup (pa_cons (pe_make T.mk_Area G_Area_init (hr.mono (by decide)) rfl T.g_Area T.B_Area_init .nil pass0 (pa_cons (pv 1) (pa_cons (pv 2) (pa_cons (pv 3) (pa_cons (pv 4) (pa_nil)))))) (pa_cons (pe_lst (pa_nil)) (pa_cons (pe_non) (pa_cons (pe_int) (pa_nil)))))) (pa_nil)))) (pss_cons (ps_fld (pv 0) (pe_make0 T.mk_Changes G_Changes_init (hr.mono (by decide)) rfl T.g_Changes T.B_Changes_init .nil pass0) rfl) (pss_one (ps_ret (pe_lst (pa_cons (pe_int) (pa_nil)))))))
def t_Search_sl_craft (K : PySem.W.Frag) (a : Ad) : TS := tSeq (tIfS (tNot (tB (tCall (sp_is_craft K a) [] E0 (tCons (tVar 1) (tCons (tVar 2) (tCons (tVar 3) (tNil))))))) (tRet (tLst (tCons (tC (.int (-22))) (tNil)))) (tNext)) (tSeq (tIfS (tTest (tOp rEq (tCB (fun xs H Q => ∃ p ys, xs = [.ref p] ∧ (SqL K H p ys ∨ SqT K H p ys) ∧ Q (.int ys.length) H) (tCons (tFld K (tVar 0) "crafts") (tNil))) (tC (.int (4))))) (tRet (tLst (tCons (tC (.int (-28))) (tNil)))) (tNext)) (tSeq (tIfS (tTest (tOp (fun x y H Q => y = .non ∧ Q (.bl (!decide (x = .non))) H) (tFld K (tVar 0) "plan") (tC .non))) (tRet (tLst (tCons (tC (.int (-16))) (tNil)))) (tNext)) (tSeq (tDrop (tMeth a.c_Search "change" (sp_Search_change K a) [] E0 (tVar 0) (tCons (tFld K (tVar 0) "area") (tCons (tOp rCat (tFld K (tVar 0) "crafts") (tLst (tCons (tMake a.c_Craft (sp_Craft_init K a) [] E0 (tCons (tVar 1) (tCons (tVar 2) (tCons (tVar 3) (tNil))))) (tNil)))) (tCons (tFld K (tVar 0) "plan") (tCons (tFld K (tVar 0) "hour") (tNil))))))) (tRet (tLst (tCons (tOp (rI0 fun i j => .int (i - j)) (tCB (fun xs H Q => ∃ p ys, xs = [.ref p] ∧ (SqL K H p ys ∨ SqT K H p ys) ∧ Q (.int ys.length) H) (tCons (tFld K (tVar 0) "crafts") (tNil))) (tC (.int (1)))) (tNil)))))))
theorem ps_Search_sl_craft (T : Txt K mg a) (G_Craft_init : FnOk P w K mg base CX0 1 a.f_Craft_init a.d_Craft_init p_Craft_init (sp_Craft_init K a)) (G_Search_change : FnOk P w K mg base CX0 2 a.f_Search_change a.d_Search_change p_Search_change (sp_Search_change K a)) (G_is_craft : FnOk P w K mg base CX0 1 a.f_is_craft a.d_is_craft p_is_craft (sp_is_craft K a)) {cdv : Value} {A : Around} {outer : List Env} {s : Shared} {H : Hp} {E : XK} (hr : Room 2 (A.deeper (envOfC "Search.sl_craft" (defScope s_Search_sl_craft) s.heap.objs.size a.f_Search_sl_craft cdv))) :
    PSs (cxOf CX0 P w K mg base n_Search_sl_craft "Search.sl_craft" (defScope s_Search_sl_craft) a.f_Search_sl_craft cdv A outer s H E).nox (defBody s_Search_sl_craft) (t_Search_sl_craft K a) :=
  pss_cons (ps_if (pt_not (pt_val (pe_call G_is_craft (hr.mono (by decide)) rfl T.g_is_craft T.F_is_craft.kp T.B_is_craft .nil pass0 (pa_cons (pv 1) (pa_cons (pv 2) (pa_cons (pv 3) (pa_nil))))))) (pss_one (ps_ret (pe_lst (pa_cons (pe_gint (by rfl) T.k_NOT_AS_TOLD) (pa_nil))))) (pss_nil)) (pss_cons (ps_if (pt_cmpR op_eq (pe_callB call_len_seq (by rfl) T.b_len PySem.boot_len (pa_cons (pe_fld (pv 0) rfl) (pa_nil))) (pe_gint (by rfl) T.k_MOST_CRAFT) (nomark _)) (pss_one (ps_ret (pe_lst (pa_cons (pe_gint (by rfl) T.k_NO_MORE_CRAFT) (pa_nil))))) (pss_nil)) (pss_cons (ps_if (pt_cmpR op_notN (pe_fld (pv 0) rfl) (pe_non) (nomark _)) (pss_one (ps_ret (pe_lst (pa_cons (pe_gint (by rfl) T.k_PLAN_STANDS) (pa_nil))))) (pss_nil)) (pss_cons (ps_expr (pe_meth (pv 0) T.cl_Search T.me_Search_change G_Search_change (hr.mono (by decide)) T.B_Search_change .nil pass0 (pa_cons (pe_fld (pv 0) rfl) (pa_cons (pe_op op_cat (pe_fld (pv 0) rfl) (pe_lst (pa_cons (pe_make T.mk_Craft G_Craft_init (hr.mono (by decide)) rfl T.g_Craft T.B_Craft_init .nil pass0 (pa_cons (pv 1) (pa_cons (pv 2) (pa_cons (pv 3) (pa_nil))))) (pa_nil)))) (pa_cons (pe_fld (pv 0) rfl) (pa_cons (pe_fld (pv 0) rfl) (pa_nil))))))) (pss_one (ps_ret (pe_lst (pa_cons (pe_op op_sub (pe_callB call_len_seq (by rfl) T.b_len PySem.boot_len (pa_cons (pe_fld (pv 0) rfl) (pa_nil))) (pe_int)) (pa_nil))))))))
def t_Search_sl_area (K : PySem.W.Frag) (a : Ad) : TS := tSeq (tIfS (tNot (tB (tCall (sp_is_area K a) [] E0 (tCons (tVar 1) (tCons (tVar 2) (tCons (tVar 3) (tCons (tVar 4) (tNil)))))))) (tRet (tLst (tCons (tC (.int (-22))) (tNil)))) (tNext)) (tSeq (tIfS (tTest (tOp (fun x y H Q => y = .non ∧ Q (.bl (!decide (x = .non))) H) (tFld K (tVar 0) "plan") (tC .non))) (tRet (tLst (tCons (tC (.int (-16))) (tNil)))) (tNext)) (tSeq (tDrop (tMeth a.c_Search "change" (sp_Search_change K a) [] E0 (tVar 0) (tCons (tMake a.c_Area (sp_Area_init K a) [] E0 (tCons (tVar 1) (tCons (tVar 2) (tCons (tVar 3) (tCons (tVar 4) (tNil)))))) (tCons (tFld K (tVar 0) "crafts") (tCons (tFld K (tVar 0) "plan") (tCons (tFld K (tVar 0) "hour") (tNil))))))) (tRet (tLst (tCons (tC (.int (0))) (tNil))))))
theorem ps_Search_sl_area (T : Txt K mg a) (G_Area_init : FnOk P w K mg base CX0 1 a.f_Area_init a.d_Area_init p_Area_init (sp_Area_init K a)) (G_Search_change : FnOk P w K mg base CX0 2 a.f_Search_change a.d_Search_change p_Search_change (sp_Search_change K a)) (G_is_area : FnOk P w K mg base CX0 1 a.f_is_area a.d_is_area p_is_area (sp_is_area K a)) {cdv : Value} {A : Around} {outer : List Env} {s : Shared} {H : Hp} {E : XK} (hr : Room 2 (A.deeper (envOfC "Search.sl_area" (defScope s_Search_sl_area) s.heap.objs.size a.f_Search_sl_area cdv))) :
    PSs (cxOf CX0 P w K mg base n_Search_sl_area "Search.sl_area" (defScope s_Search_sl_area) a.f_Search_sl_area cdv A outer s H E).nox (defBody s_Search_sl_area) (t_Search_sl_area K a) :=
  pss_cons (ps_if (pt_not (pt_val (pe_call G_is_area (hr.mono (by decide)) rfl T.g_is_area T.F_is_area.kp T.B_is_area .nil pass0 (pa_cons (pv 1) (pa_cons (pv 2) (pa_cons (pv 3) (pa_cons (pv 4) (pa_nil)))))))) (pss_one (ps_ret (pe_lst (pa_cons (pe_gint (by rfl) T.k_NOT_AS_TOLD) (pa_nil))))) (pss_nil)) (pss_cons (ps_if (pt_cmpR op_notN (pe_fld (pv 0) rfl) (pe_non) (nomark _)) (pss_one (ps_ret (pe_lst (pa_cons (pe_gint (by rfl) T.k_PLAN_STANDS) (pa_nil))))) (pss_nil)) (pss_cons (ps_expr (pe_meth (pv 0) T.cl_Search T.me_Search_change G_Search_change (hr.mono (by decide)) T.B_Search_change .nil pass0 (pa_cons (pe_make T.mk_Area G_Area_init (hr.mono (by decide)) rfl T.g_Area T.B_Area_init .nil pass0 (pa_cons (pv 1) (pa_cons (pv 2) (pa_cons (pv 3) (pa_cons (pv 4) (pa_nil)))))) (pa_cons (pe_fld (pv 0) rfl) (pa_cons (pe_fld (pv 0) rfl) (pa_cons (pe_fld (pv 0) rfl) (pa_nil))))))) (pss_one (ps_ret (pe_lst (pa_cons (pe_int) (pa_nil)))))))
def t_Search_sl_drop (K : PySem.W.Frag) (a : Ad) : TS := tSeq (tIfS (tTest (tOp (rI0 fun i j => .bl (decide (j ≤ i))) (tVar 1) (tCB (fun xs H Q => ∃ p ys, xs = [.ref p] ∧ (SqL K H p ys ∨ SqT K H p ys) ∧ Q (.int ys.length) H) (tCons (tFld K (tVar 0) "crafts") (tNil))))) (tRet (tLst (tCons (tC (.int (-2))) (tNil)))) (tNext)) (tSeq (tDrop (tMeth a.c_Search "change" (sp_Search_change K a) [] E0 (tVar 0) (tCons (tFld K (tVar 0) "area") (tCons (tOp rCat (tSl (rSlL K) (tFld K (tVar 0) "crafts") (tNoPart) (tPart (tVar 1))) (tSl (rSlL K) (tFld K (tVar 0) "crafts") (tPart (tOp (rI0 fun i j => .int (i + j)) (tVar 1) (tC (.int (1))))) (tNoPart))) (tCons (tC .non) (tCons (tC (.int (0))) (tNil))))))) (tRet (tLst (tCons (tCB (fun xs H Q => ∃ p ys, xs = [.ref p] ∧ (SqL K H p ys ∨ SqT K H p ys) ∧ Q (.int ys.length) H) (tCons (tFld K (tVar 0) "crafts") (tNil))) (tNil)))))
theorem ps_Search_sl_drop (T : Txt K mg a) (G_Search_change : FnOk P w K mg base CX0 2 a.f_Search_change a.d_Search_change p_Search_change (sp_Search_change K a)) {cdv : Value} {A : Around} {outer : List Env} {s : Shared} {H : Hp} {E : XK} (hr : Room 2 (A.deeper (envOfC "Search.sl_drop" (defScope s_Search_sl_drop) s.heap.objs.size a.f_Search_sl_drop cdv))) :
    PSs (cxOf CX0 P w K mg base n_Search_sl_drop "Search.sl_drop" (defScope s_Search_sl_drop) a.f_Search_sl_drop cdv A outer s H E).nox (defBody s_Search_sl_drop) (t_Search_sl_drop K a) :=
  pss_cons (ps_if (pt_cmpR op_ge (pv 1) (pe_callB call_len_seq (by rfl) T.b_len PySem.boot_len (pa_cons (pe_fld (pv 0) rfl) (pa_nil))) (nomark _)) (pss_one (ps_ret (pe_lst (pa_cons (pe_gint (by rfl) T.k_NO_SUCH_CRAFT) (pa_nil))))) (pss_nil)) (pss_cons (ps_expr (pe_meth (pv 0) T.cl_Search T.me_Search_change G_Search_change (hr.mono (by decide)) T.B_Search_change .nil pass0 (pa_cons (pe_fld (pv 0) rfl) (pa_cons (pe_op op_cat (pe_slice sl_list (pe_fld (pv 0) rfl) (po_none) (po_some (pv 1))) (pe_slice sl_list (pe_fld (pv 0) rfl) (po_some (pe_op op_add (pv 1) (pe_int))) (po_none))) (pa_cons (pe_non) (pa_cons (pe_int) (pa_nil))))))) (pss_one (ps_ret (pe_lst (pa_cons (pe_callB call_len_seq (by rfl) T.b_len PySem.boot_len (pa_cons (pe_fld (pv 0) rfl) (pa_nil))) (pa_nil))))))
def t_Search_sl_take (K : PySem.W.Frag) (a : Ad) : TS := tSeq (tIfS (tTest (tOp (fun x y H Q => y = .non ∧ Q (.bl (!decide (x = .non))) H) (tFld K (tVar 0) "plan") (tC .non))) (tRet (tLst (tCons (tC (.int (-17))) (tNil)))) (tNext)) (tSeq (tAsg (tCall (sp_best_plan K a) [] E0 (tCons (tFld K (tVar 0) "area") (tCons (tFld K (tVar 0) "crafts") (tNil)))) (gName 1)) (tSeq (tIfS (tTest (tOp (fun x y H Q => y = .non ∧ Q (.bl (decide (x = .non))) H) (tVar 1) (tC .non))) (tRet (tLst (tCons (tC (.int (-33))) (tNil)))) (tNext)) (tSeq (tDrop (tMeth a.c_Search "change" (sp_Search_change K a) [] E0 (tVar 0) (tCons (tFld K (tVar 0) "area") (tCons (tFld K (tVar 0) "crafts") (tCons (tVar 1) (tCons (tC (.int (0))) (tNil))))))) (tRet (tLst (tCons (tFld K (tVar 1) "hours") (tCons (tCall (sp_way_sign K a) [] E0 (tCons (tFld K (tVar 1) "way") (tNil))) (tNil))))))))
theorem ps_Search_sl_take (T : Txt K mg a) (G_Search_change : FnOk P w K mg base CX0 2 a.f_Search_change a.d_Search_change p_Search_change (sp_Search_change K a)) (G_best_plan : FnOk P w K mg base CX0 6 a.f_best_plan a.d_best_plan p_best_plan (sp_best_plan K a)) (G_way_sign : FnOk P w K mg base CX0 1 a.f_way_sign a.d_way_sign p_way_sign (sp_way_sign K a)) {cdv : Value} {A : Around} {outer : List Env} {s : Shared} {H : Hp} {E : XK} (hr : Room 6 (A.deeper (envOfC "Search.sl_take" (defScope s_Search_sl_take) s.heap.objs.size a.f_Search_sl_take cdv))) :
    PSs (cxOf CX0 P w K mg base n_Search_sl_take "Search.sl_take" (defScope s_Search_sl_take) a.f_Search_sl_take cdv A outer s H E).nox (defBody s_Search_sl_take) (t_Search_sl_take K a) :=
  pss_cons (ps_if (pt_cmpR op_notN (pe_fld (pv 0) rfl) (pe_non) (nomark _)) (pss_one (ps_ret (pe_lst (pa_cons (pe_gint (by rfl) T.k_PLAN_TAKEN) (pa_nil))))) (pss_nil)) (pss_cons (ps_set (i := 1) sc_Search_sl_take.nd rfl (Or.inl rfl) (pe_call G_best_plan (hr.mono (by decide)) rfl T.g_best_plan T.F_best_plan.kp T.B_best_plan .nil pass0 (pa_cons (pe_fld (pv 0) rfl) (pa_cons (pe_fld (pv 0) rfl) (pa_nil))))) (pss_cons (ps_if (pt_cmpR op_isN (pv 1) (pe_non) (nomark _)) (pss_one (ps_ret (pe_lst (pa_cons (pe_gint (by rfl) T.k_CANNOT_BE_DONE) (pa_nil))))) (pss_nil)) (pss_cons (ps_expr (pe_meth (pv 0) T.cl_Search T.me_Search_change G_Search_change (hr.mono (by decide)) T.B_Search_change .nil pass0 (pa_cons (pe_fld (pv 0) rfl) (pa_cons (pe_fld (pv 0) rfl) (pa_cons (pv 1) (pa_cons (pe_int) (pa_nil))))))) (pss_one (ps_ret (pe_lst (pa_cons (pe_fld (pv 1) rfl) (pa_cons (pe_call G_way_sign (hr.mono (by decide)) rfl T.g_way_sign T.F_way_sign.kp T.B_way_sign .nil pass0 (pa_cons (pe_fld (pv 1) rfl) (pa_nil))) (pa_nil)))))))))
def t_Search_sl_hours (K : PySem.W.Frag) (a : Ad) : TS := tSeq (tIfS (tNot (tTest (tChain (rI0 fun i j => .bl (decide (i ≤ j))) (rI0 fun i j => .bl (decide (i ≤ j))) (tC (.int (1))) (tVar 1) (tC (.int (100)))))) (tRet (tLst (tCons (tC (.int (-22))) (tNil)))) (tNext)) (tSeq (tIfS (tTest (tOp (fun x y H Q => y = .non ∧ Q (.bl (decide (x = .non))) H) (tFld K (tVar 0) "plan") (tC .non))) (tRet (tLst (tCons (tC (.int (-6))) (tNil)))) (tNext)) (tSeq (tIfS (tTest (tOp (rI0 fun i j => .bl (decide (j < i))) (tOp (rI0 fun i j => .int (i + j)) (tFld K (tVar 0) "hour") (tVar 1)) (tFld K (tFld K (tVar 0) "plan") "hours"))) (tRet (tLst (tCons (tC (.int (-75))) (tNil)))) (tNext)) (tSeq (tDrop (tMeth a.c_Search "change" (sp_Search_change K a) [] E0 (tVar 0) (tCons (tFld K (tVar 0) "area") (tCons (tFld K (tVar 0) "crafts") (tCons (tFld K (tVar 0) "plan") (tCons (tOp (rI0 fun i j => .int (i + j)) (tFld K (tVar 0) "hour") (tVar 1)) (tNil))))))) (tRet (tLst (tCons (tFld K (tVar 0) "hour") (tNil)))))))
theorem ps_Search_sl_hours (T : Txt K mg a) (G_Search_change : FnOk P w K mg base CX0 2 a.f_Search_change a.d_Search_change p_Search_change (sp_Search_change K a)) {cdv : Value} {A : Around} {outer : List Env} {s : Shared} {H : Hp} {E : XK} (hr : Room 2 (A.deeper (envOfC "Search.sl_hours" (defScope s_Search_sl_hours) s.heap.objs.size a.f_Search_sl_hours cdv))) :
    PSs (cxOf CX0 P w K mg base n_Search_sl_hours "Search.sl_hours" (defScope s_Search_sl_hours) a.f_Search_sl_hours cdv A outer s H E).nox (defBody s_Search_sl_hours) (t_Search_sl_hours K a) :=
  pss_cons (ps_if (pt_not (pt_chain op_le op_le (pe_int) (pv 1) (pe_gint (by rfl) T.k_MOST_HOURS))) (pss_one (ps_ret (pe_lst (pa_cons (pe_gint (by rfl) T.k_NOT_AS_TOLD) (pa_nil))))) (pss_nil)) (pss_cons (ps_if (pt_cmpR op_isN (pe_fld (pv 0) rfl) (pe_non) (nomark _)) (pss_one (ps_ret (pe_lst (pa_cons (pe_gint (by rfl) T.k_NO_PLAN) (pa_nil))))) (pss_nil)) (pss_cons (ps_if (pt_cmpR op_gt (pe_op op_add (pe_fld (pv 0) rfl) (pv 1)) (pe_fld (pe_fld (pv 0) rfl) rfl) (nomark _)) (pss_one (ps_ret (pe_lst (pa_cons (pe_gint (by rfl) T.k_BEYOND_PLAN) (pa_nil))))) (pss_nil)) (pss_cons (ps_expr (pe_meth (pv 0) T.cl_Search T.me_Search_change G_Search_change (hr.mono (by decide)) T.B_Search_change .nil pass0 (pa_cons (pe_fld (pv 0) rfl) (pa_cons (pe_fld (pv 0) rfl) (pa_cons (pe_fld (pv 0) rfl) (pa_cons (pe_op op_add (pe_fld (pv 0) rfl) (pv 1)) (pa_nil))))))) (pss_one (ps_ret (pe_lst (pa_cons (pe_fld (pv 0) rfl) (pa_nil))))))))
def t_Search_sl_alone (K : PySem.W.Frag) (a : Ad) : TS := tSeq (tIfS (tTest (tOp (rI0 fun i j => .bl (decide (j ≤ i))) (tVar 1) (tCB (fun xs H Q => ∃ p ys, xs = [.ref p] ∧ (SqL K H p ys ∨ SqT K H p ys) ∧ Q (.int ys.length) H) (tCons (tFld K (tVar 0) "crafts") (tNil))))) (tRet (tLst (tCons (tC (.int (-2))) (tNil)))) (tNext)) (tSeq (tIfS (tTest (tOp (rI0 fun i j => .bl (decide (j < i))) (tVar 2) (tC (.int (1))))) (tRet (tLst (tCons (tC (.int (-22))) (tNil)))) (tNext)) (tSeq (tAsg (tOp (rIxL K) (tFld K (tVar 0) "crafts") (tVar 1)) (gName 3)) (tSeq (tAsg (tCall (sp_least_hours K a) [] E0 (tCons (tFld K (tVar 0) "area") (tCons (tLst (tCons (tVar 3) (tNil))) (tCons (tVar 2) (tNil))))) (gName 4)) (tSeq (tIfS (tTest (tOp (fun x y H Q => y = .non ∧ Q (.bl (decide (x = .non))) H) (tVar 4) (tC .non))) (tRet (tLst (tCons (tC (.int (-33))) (tNil)))) (tNext)) (tRet (tLst (tCons (tVar 4) (tCons (tCall (sp_legs_needed K a) [] E0 (tCons (tVar 3) (tCons (tCall (sp_places_across K a) [] E0 (tCons (tFld K (tVar 0) "area") (tCons (tVar 2) (tNil)))) (tNil)))) (tNil)))))))))
theorem ps_Search_sl_alone (T : Txt K mg a) (G_least_hours : FnOk P w K mg base CX0 5 a.f_least_hours a.d_least_hours p_least_hours (sp_least_hours K a)) (G_legs_needed : FnOk P w K mg base CX0 1 a.f_legs_needed a.d_legs_needed p_legs_needed (sp_legs_needed K a)) (G_places_across : FnOk P w K mg base CX0 1 a.f_places_across a.d_places_across p_places_across (sp_places_across K a)) {cdv : Value} {A : Around} {outer : List Env} {s : Shared} {H : Hp} {E : XK} (hr : Room 5 (A.deeper (envOfC "Search.sl_alone" (defScope s_Search_sl_alone) s.heap.objs.size a.f_Search_sl_alone cdv))) :
    PSs (cxOf CX0 P w K mg base n_Search_sl_alone "Search.sl_alone" (defScope s_Search_sl_alone) a.f_Search_sl_alone cdv A outer s H E).nox (defBody s_Search_sl_alone) (t_Search_sl_alone K a) :=
  pss_cons (ps_if (pt_cmpR op_ge (pv 1) (pe_callB call_len_seq (by rfl) T.b_len PySem.boot_len (pa_cons (pe_fld (pv 0) rfl) (pa_nil))) (nomark _)) (pss_one (ps_ret (pe_lst (pa_cons (pe_gint (by rfl) T.k_NO_SUCH_CRAFT) (pa_nil))))) (pss_nil)) (pss_cons (ps_if (pt_cmpR op_gt (pv 2) (pe_int) (nomark _)) (pss_one (ps_ret (pe_lst (pa_cons (pe_gint (by rfl) T.k_NOT_AS_TOLD) (pa_nil))))) (pss_nil)) (pss_cons (ps_set (i := 3) sc_Search_sl_alone.nd rfl (Or.inl rfl) (pe_ix ix_list (pe_fld (pv 0) rfl) (pv 1) (fun _ _ => rfl))) (pss_cons (ps_set (i := 4) sc_Search_sl_alone.nd rfl (Or.inl rfl) (pe_call G_least_hours (hr.mono (by decide)) rfl T.g_least_hours T.F_least_hours.kp T.B_least_hours .nil pass0 (pa_cons (pe_fld (pv 0) rfl) (pa_cons (pe_lst (pa_cons (pv 3) (pa_nil))) (pa_cons (pv 2) (pa_nil)))))) (pss_cons (ps_if (pt_cmpR op_isN (pv 4) (pe_non) (nomark _)) (pss_one (ps_ret (pe_lst (pa_cons (pe_gint (by rfl) T.k_CANNOT_BE_DONE) (pa_nil))))) (pss_nil)) (pss_one (ps_ret (pe_lst (pa_cons (pv 4) (pa_cons (pe_call G_legs_needed (hr.mono (by decide)) rfl T.g_legs_needed T.F_legs_needed.kp T.B_legs_needed .nil pass0 (pa_cons (pv 3) (pa_cons (pe_call G_places_across (hr.mono (by decide)) rfl T.g_places_across T.F_places_across.kp T.B_places_across .nil pass0 (pa_cons (pe_fld (pv 0) rfl) (pa_cons (pv 2) (pa_nil)))) (pa_nil)))) (pa_nil))))))))))
def t_Search_sl_soonest (K : PySem.W.Frag) (a : Ad) : TS := tSeq (tAsg (tCall (sp_best_plan K a) [] E0 (tCons (tFld K (tVar 0) "area") (tCons (tFld K (tVar 0) "crafts") (tNil)))) (gName 1)) (tSeq (tIfS (tTest (tOp (fun x y H Q => y = .non ∧ Q (.bl (decide (x = .non))) H) (tVar 1) (tC .non))) (tRet (tLst (tCons (tC (.int (-33))) (tNil)))) (tNext)) (tRet (tLst (tCons (tFld K (tVar 1) "hours") (tCons (tCall (sp_way_sign K a) [] E0 (tCons (tFld K (tVar 1) "way") (tNil))) (tNil))))))
theorem ps_Search_sl_soonest (T : Txt K mg a) (G_best_plan : FnOk P w K mg base CX0 6 a.f_best_plan a.d_best_plan p_best_plan (sp_best_plan K a)) (G_way_sign : FnOk P w K mg base CX0 1 a.f_way_sign a.d_way_sign p_way_sign (sp_way_sign K a)) {cdv : Value} {A : Around} {outer : List Env} {s : Shared} {H : Hp} {E : XK} (hr : Room 6 (A.deeper (envOfC "Search.sl_soonest" (defScope s_Search_sl_soonest) s.heap.objs.size a.f_Search_sl_soonest cdv))) :
    PSs (cxOf CX0 P w K mg base n_Search_sl_soonest "Search.sl_soonest" (defScope s_Search_sl_soonest) a.f_Search_sl_soonest cdv A outer s H E).nox (defBody s_Search_sl_soonest) (t_Search_sl_soonest K a) :=
  pss_cons (ps_set (i := 1) sc_Search_sl_soonest.nd rfl (Or.inl rfl) (pe_call G_best_plan (hr.mono (by decide)) rfl T.g_best_plan T.F_best_plan.kp T.B_best_plan .nil pass0 (pa_cons (pe_fld (pv 0) rfl) (pa_cons (pe_fld (pv 0) rfl) (pa_nil))))) (pss_cons (ps_if (pt_cmpR op_isN (pv 1) (pe_non) (nomark _)) (pss_one (ps_ret (pe_lst (pa_cons (pe_gint (by rfl) T.k_CANNOT_BE_DONE) (pa_nil))))) (pss_nil)) (pss_one (ps_ret (pe_lst (pa_cons (pe_fld (pv 1) rfl) (pa_cons (pe_call G_way_sign (hr.mono (by decide)) rfl T.g_way_sign T.F_way_sign.kp T.B_way_sign .nil pass0 (pa_cons (pe_fld (pv 1) rfl) (pa_nil))) (pa_nil)))))))
def t_Search_sl_by (K : PySem.W.Frag) (a : Ad) : TS := tSeq (tIfS (tOr (tTest (tOp (rI0 fun i j => .bl (decide (j < i))) (tVar 1) (tC (.int (1))))) (tTest (tOp (rI0 fun i j => .bl (decide (j < i))) (tVar 2) (tC (.int (100)))))) (tRet (tLst (tCons (tC (.int (-22))) (tNil)))) (tNext)) (tSeq (tAsg (tCall (sp_places_across K a) [] E0 (tCons (tFld K (tVar 0) "area") (tCons (tVar 1) (tNil)))) (gName 3)) (tRet (tLst (tCons (tCB (fun xs H Q => ∃ i j, xs = [.int i, .int j] ∧ Q (.int (if j < i then j else i)) H) (tCons (tVar 3) (tCons (tCall (sp_places_seen K a) [] E0 (tCons (tFld K (tVar 0) "area") (tCons (tFld K (tVar 0) "crafts") (tCons (tVar 1) (tCons (tVar 2) (tNil)))))) (tNil)))) (tCons (tVar 3) (tNil))))))
theorem ps_Search_sl_by (T : Txt K mg a) (G_places_across : FnOk P w K mg base CX0 1 a.f_places_across a.d_places_across p_places_across (sp_places_across K a)) (G_places_seen : FnOk P w K mg base CX0 3 a.f_places_seen a.d_places_seen p_places_seen (sp_places_seen K a)) {cdv : Value} {A : Around} {outer : List Env} {s : Shared} {H : Hp} {E : XK} (hr : Room 3 (A.deeper (envOfC "Search.sl_by" (defScope s_Search_sl_by) s.heap.objs.size a.f_Search_sl_by cdv))) :
    PSs (cxOf CX0 P w K mg base n_Search_sl_by "Search.sl_by" (defScope s_Search_sl_by) a.f_Search_sl_by cdv A outer s H E).nox (defBody s_Search_sl_by) (t_Search_sl_by K a) :=
  pss_cons (ps_if ((pw_or (pt_cmpR op_gt (pv 1) (pe_int) (nomark _)) (pw_or1 (pt_cmpR op_gt (pv 2) (pe_gint (by rfl) T.k_MOST_HOURS) (nomark _)))).pt) (pss_one (ps_ret (pe_lst (pa_cons (pe_gint (by rfl) T.k_NOT_AS_TOLD) (pa_nil))))) (pss_nil)) (pss_cons (ps_set (i := 3) sc_Search_sl_by.nd rfl (Or.inl rfl) (pe_call G_places_across (hr.mono (by decide)) rfl T.g_places_across T.F_places_across.kp T.B_places_across .nil pass0 (pa_cons (pe_fld (pv 0) rfl) (pa_cons (pv 1) (pa_nil))))) (pss_one (ps_ret (pe_lst (pa_cons (pe_callB (call_min2 rfl) (by rfl) T.b_min boot_min (pa_cons (pv 3) (pa_cons (pe_call G_places_seen (hr.mono (by decide)) rfl T.g_places_seen T.F_places_seen.kp T.B_places_seen .nil pass0 (pa_cons (pe_fld (pv 0) rfl) (pa_cons (pe_fld (pv 0) rfl) (pa_cons (pv 1) (pa_cons (pv 2) (pa_nil)))))) (pa_nil)))) (pa_cons (pv 3) (pa_nil)))))))
def t_Search_sl_plan (K : PySem.W.Frag) (a : Ad) : TS := tSeq (tIfS (tTest (tOp (fun x y H Q => y = .non ∧ Q (.bl (decide (x = .non))) H) (tFld K (tVar 0) "plan") (tC .non))) (tRet (tLst (tCons (tC (.int (-6))) (tNil)))) (tNext)) (tSeq (tAsg (tOp rRep (tLst (tCons (tC (.int (0))) (tNil))) (tOp (rI0 fun i j => .int (i - j)) (tC (.int (4))) (tCB (fun xs H Q => ∃ p ys, xs = [.ref p] ∧ (SqL K H p ys ∨ SqT K H p ys) ∧ Q (.int ys.length) H) (tCons (tFld K (tVar 0) "crafts") (tNil))))) (gName 1)) (tRet (tOp rCat (tOp rCat (tLst (tCons (tFld K (tFld K (tVar 0) "plan") "hours") (tCons (tCall (sp_way_sign K a) [] E0 (tCons (tFld K (tFld K (tVar 0) "plan") "way") (tNil))) (tNil)))) (tFld K (tFld K (tVar 0) "plan") "shares")) (tVar 1))))
theorem ps_Search_sl_plan (T : Txt K mg a) (G_way_sign : FnOk P w K mg base CX0 1 a.f_way_sign a.d_way_sign p_way_sign (sp_way_sign K a)) {cdv : Value} {A : Around} {outer : List Env} {s : Shared} {H : Hp} {E : XK} (hr : Room 1 (A.deeper (envOfC "Search.sl_plan" (defScope s_Search_sl_plan) s.heap.objs.size a.f_Search_sl_plan cdv))) :
    PSs (cxOf CX0 P w K mg base n_Search_sl_plan "Search.sl_plan" (defScope s_Search_sl_plan) a.f_Search_sl_plan cdv A outer s H E).nox (defBody s_Search_sl_plan) (t_Search_sl_plan K a) :=
  pss_cons (ps_if (pt_cmpR op_isN (pe_fld (pv 0) rfl) (pe_non) (nomark _)) (pss_one (ps_ret (pe_lst (pa_cons (pe_gint (by rfl) T.k_NO_PLAN) (pa_nil))))) (pss_nil)) (pss_cons (ps_set (i := 1) sc_Search_sl_plan.nd rfl (Or.inl rfl) (pe_op op_rep (pe_lst (pa_cons (pe_int) (pa_nil))) (pe_op op_sub (pe_gint (by rfl) T.k_MOST_CRAFT) (pe_callB call_len_seq (by rfl) T.b_len PySem.boot_len (pa_cons (pe_fld (pv 0) rfl) (pa_nil)))))) (pss_one (ps_ret (pe_op op_cat (pe_op op_cat (pe_lst (pa_cons (pe_fld (pe_fld (pv 0) rfl) rfl) (pa_cons (pe_call G_way_sign (hr.mono (by decide)) rfl T.g_way_sign T.F_way_sign.kp T.B_way_sign .nil pass0 (pa_cons (pe_fld (pe_fld (pv 0) rfl) rfl) (pa_nil))) (pa_nil)))) (pe_fld (pe_fld (pv 0) rfl) rfl)) (pv 1)))))
def t_Search_sl_legs (K : PySem.W.Frag) (a : Ad) : TS := tSeq (tIfS (tTest (tOp (rI0 fun i j => .bl (decide (j ≤ i))) (tVar 1) (tCB (fun xs H Q => ∃ p ys, xs = [.ref p] ∧ (SqL K H p ys ∨ SqT K H p ys) ∧ Q (.int ys.length) H) (tCons (tFld K (tVar 0) "crafts") (tNil))))) (tRet (tLst (tCons (tC (.int (-2))) (tNil)))) (tNext)) (tSeq (tIfS (tTest (tOp (fun x y H Q => y = .non ∧ Q (.bl (decide (x = .non))) H) (tFld K (tVar 0) "plan") (tC .non))) (tRet (tLst (tCons (tC (.int (-6))) (tNil)))) (tNext)) (tSeq (tAsg (tOp (rIxL K) (tFld K (tFld K (tVar 0) "plan") "shares") (tVar 1)) (gName 2)) (tSeq (tAsg (tCall (sp_distance_of_legs K a) [] E0 (tCons (tFld K (tVar 0) "area") (tCons (tOp (rIxL K) (tFld K (tVar 0) "crafts") (tVar 1)) (tCons (tFld K (tFld K (tVar 0) "plan") "way") (tCons (tVar 2) (tNil)))))) (gName 3)) (tRet (tLst (tCons (tVar 2) (tCons (tVar 3) (tCons (tCall (sp_places_before K a) [] E0 (tCons (tFld K (tVar 0) "crafts") (tCons (tFld K (tVar 0) "plan") (tCons (tVar 1) (tNil))))) (tNil)))))))))
theorem ps_Search_sl_legs (T : Txt K mg a) (G_distance_of_legs : FnOk P w K mg base CX0 2 a.f_distance_of_legs a.d_distance_of_legs p_distance_of_legs (sp_distance_of_legs K a)) (G_places_before : FnOk P w K mg base CX0 1 a.f_places_before a.d_places_before p_places_before (sp_places_before K a)) {cdv : Value} {A : Around} {outer : List Env} {s : Shared} {H : Hp} {E : XK} (hr : Room 2 (A.deeper (envOfC "Search.sl_legs" (defScope s_Search_sl_legs) s.heap.objs.size a.f_Search_sl_legs cdv))) :
    PSs (cxOf CX0 P w K mg base n_Search_sl_legs "Search.sl_legs" (defScope s_Search_sl_legs) a.f_Search_sl_legs cdv A outer s H E).nox (defBody s_Search_sl_legs) (t_Search_sl_legs K a) :=
  pss_cons (ps_if (pt_cmpR op_ge (pv 1) (pe_callB call_len_seq (by rfl) T.b_len PySem.boot_len (pa_cons (pe_fld (pv 0) rfl) (pa_nil))) (nomark _)) (pss_one (ps_ret (pe_lst (pa_cons (pe_gint (by rfl) T.k_NO_SUCH_CRAFT) (pa_nil))))) (pss_nil)) (pss_cons (ps_if (pt_cmpR op_isN (pe_fld (pv 0) rfl) (pe_non) (nomark _)) (pss_one (ps_ret (pe_lst (pa_cons (pe_gint (by rfl) T.k_NO_PLAN) (pa_nil))))) (pss_nil)) (pss_cons (ps_set (i := 2) sc_Search_sl_legs.nd rfl (Or.inl rfl) (pe_ix ix_list (pe_fld (pe_fld (pv 0) rfl) rfl) (pv 1) (fun _ _ => rfl))) (pss_cons (ps_set (i := 3) sc_Search_sl_legs.nd rfl (Or.inl rfl) (pe_call G_distance_of_legs (hr.mono (by decide)) rfl T.g_distance_of_legs T.F_distance_of_legs.kp T.B_distance_of_legs .nil pass0 (pa_cons (pe_fld (pv 0) rfl) (pa_cons (pe_ix ix_list (pe_fld (pv 0) rfl) (pv 1) (fun _ _ => rfl)) (pa_cons (pe_fld (pe_fld (pv 0) rfl) rfl) (pa_cons (pv 2) (pa_nil))))))) (pss_one (ps_ret (pe_lst (pa_cons (pv 2) (pa_cons (pv 3) (pa_cons (pe_call G_places_before (hr.mono (by decide)) rfl T.g_places_before T.F_places_before.kp T.B_places_before .nil pass0 (pa_cons (pe_fld (pv 0) rfl) (pa_cons (pe_fld (pv 0) rfl) (pa_cons (pv 1) (pa_nil))))) (pa_nil))))))))))
def t_Search_course_of (K : PySem.W.Frag) (a : Ad) : TS := tRet (tMake a.c_Course (sp_Course_init K a) [] E0 (tCons (tFld K (tVar 0) "area") (tCons (tFld K (tVar 0) "crafts") (tCons (tFld K (tVar 0) "plan") (tCons (tVar 1) (tNil))))))
theorem ps_Search_course_of (T : Txt K mg a) (G_Course_init : FnOk P w K mg base CX0 2 a.f_Course_init a.d_Course_init p_Course_init (sp_Course_init K a)) {cdv : Value} {A : Around} {outer : List Env} {s : Shared} {H : Hp} {E : XK} (hr : Room 3 (A.deeper (envOfC "Search.course_of" (defScope s_Search_course_of) s.heap.objs.size a.f_Search_course_of cdv))) :
    PSs (cxOf CX0 P w K mg base n_Search_course_of "Search.course_of" (defScope s_Search_course_of) a.f_Search_course_of cdv A outer s H E).nox (defBody s_Search_course_of) (t_Search_course_of K a) :=
  pss_one (ps_ret (pe_make T.mk_Course G_Course_init (hr.mono (by decide)) rfl T.g_Course T.B_Course_init .nil pass0 (pa_cons (pe_fld (pv 0) rfl) (pa_cons (pe_fld (pv 0) rfl) (pa_cons (pe_fld (pv 0) rfl) (pa_cons (pv 1) (pa_nil)))))))
def t_Search_sights_of (K : PySem.W.Frag) (a : Ad) : TS := tRet (tLc (iRng1 (tCons (tCB (fun xs H Q => ∃ p ys, xs = [.ref p] ∧ (SqL K H p ys ∨ SqT K H p ys) ∧ Q (.int ys.length) H) (tCons (tFld K (tVar 0) "crafts") (tNil))) (tNil))) (gName 3) (tYes) (tMeth a.c_Course "hours_to_see" (sp_Course_hours_to_see K a) [] E0 (tMeth a.c_Search "course_of" (sp_Search_course_of K a) [] E0 (tVar 0) (tCons (tVar 3) (tNil))) (tCons (tVar 1) (tCons (tVar 2) (tNil)))) [3])
theorem ps_Search_sights_of (T : Txt K mg a) (G_Course_hours_to_see : FnOk P w K mg base CX0 4 a.f_Course_hours_to_see a.d_Course_hours_to_see p_Course_hours_to_see (sp_Course_hours_to_see K a)) (G_Search_course_of : FnOk P w K mg base CX0 4 a.f_Search_course_of a.d_Search_course_of p_Search_course_of (sp_Search_course_of K a)) {cdv : Value} {A : Around} {outer : List Env} {s : Shared} {H : Hp} {E : XK} (hr : Room 4 (A.deeper (envOfC "Search.sights_of" (defScope s_Search_sights_of) s.heap.objs.size a.f_Search_sights_of cdv))) :
    PSs (cxOf CX0 P w K mg base n_Search_sights_of "Search.sights_of" (defScope s_Search_sights_of) a.f_Search_sights_of cdv A outer s H E).nox (defBody s_Search_sights_of) (t_Search_sights_of K a) :=
  pss_one (ps_ret (pe_lc (own := [("k", 3)]) rfl sc_Search_sights_of.nd (pi_range1 rfl T.b_range (pa_cons (pe_callB call_len_seq (by rfl) T.b_len PySem.boot_len (pa_cons (pe_fld (pv 0) rfl) (pa_nil))) (pa_nil))) (blkOk_by (by show blkC n_Search_sights_of (defScope s_Search_sights_of) _ _ = true; decide +kernel)) (fun _ _ _ _ _ => pg_name (i := 3) sc_Search_sights_of.nd rfl (Or.inl rfl)) (fun _ _ _ _ _ => pts_nil) (fun _ _ _ _ _ => pe_meth (pe_meth (pv 0) T.cl_Search T.me_Search_course_of G_Search_course_of (hr.mono (by decide)) T.B_Search_course_of .nil pass0 (pa_cons (pv 3) (pa_nil))) T.cl_Course T.me_Course_hours_to_see G_Course_hours_to_see (hr.mono (by decide)) T.B_Course_hours_to_see .nil pass0 (pa_cons (pv 1) (pa_cons (pv 2) (pa_nil))))))
def t_Search_sl_leg (K : PySem.W.Frag) (a : Ad) : TS := tSeq (tIfS (tTest (tOp (rI0 fun i j => .bl (decide (j ≤ i))) (tVar 1) (tCB (fun xs H Q => ∃ p ys, xs = [.ref p] ∧ (SqL K H p ys ∨ SqT K H p ys) ∧ Q (.int ys.length) H) (tCons (tFld K (tVar 0) "crafts") (tNil))))) (tRet (tLst (tCons (tC (.int (-2))) (tNil)))) (tNext)) (tSeq (tIfS (tTest (tOp (fun x y H Q => y = .non ∧ Q (.bl (decide (x = .non))) H) (tFld K (tVar 0) "plan") (tC .non))) (tRet (tLst (tCons (tC (.int (-6))) (tNil)))) (tNext)) (tSeq (tAsg (tMeth a.c_Search "course_of" (sp_Search_course_of K a) [] E0 (tVar 0) (tCons (tVar 1) (tNil))) (gName 3)) (tSeq (tIfS (tTest (tOp (rI0 fun i j => .bl (decide (j ≤ i))) (tVar 2) (tFld K (tVar 3) "legs"))) (tRet (tLst (tCons (tC (.int (-2))) (tNil)))) (tNext)) (tRet (tOp rCat (tOp rCat (tLst (tCons (tC (.int (0))) (tNil))) (tMeth a.c_Course "place_on" (sp_Course_place_on K a) [] E0 (tVar 3) (tCons (tVar 2) (tCons (tC (.int (0))) (tNil))))) (tMeth a.c_Course "place_on" (sp_Course_place_on K a) [] E0 (tVar 3) (tCons (tVar 2) (tCons (tFld K (tVar 3) "long") (tNil)))))))))
theorem ps_Search_sl_leg (T : Txt K mg a) (G_Course_place_on : FnOk P w K mg base CX0 3 a.f_Course_place_on a.d_Course_place_on p_Course_place_on (sp_Course_place_on K a)) (G_Search_course_of : FnOk P w K mg base CX0 4 a.f_Search_course_of a.d_Search_course_of p_Search_course_of (sp_Search_course_of K a)) {cdv : Value} {A : Around} {outer : List Env} {s : Shared} {H : Hp} {E : XK} (hr : Room 4 (A.deeper (envOfC "Search.sl_leg" (defScope s_Search_sl_leg) s.heap.objs.size a.f_Search_sl_leg cdv))) :
    PSs (cxOf CX0 P w K mg base n_Search_sl_leg "Search.sl_leg" (defScope s_Search_sl_leg) a.f_Search_sl_leg cdv A outer s H E).nox (defBody s_Search_sl_leg) (t_Search_sl_leg K a) :=
  pss_cons (ps_if (pt_cmpR op_ge (pv 1) (pe_callB call_len_seq (by rfl) T.b_len PySem.boot_len (pa_cons (pe_fld (pv 0) rfl) (pa_nil))) (nomark _)) (pss_one (ps_ret (pe_lst (pa_cons (pe_gint (by rfl) T.k_NO_SUCH_CRAFT) (pa_nil))))) (pss_nil)) (pss_cons (ps_if (pt_cmpR op_isN (pe_fld (pv 0) rfl) (pe_non) (nomark _)) (pss_one (ps_ret (pe_lst (pa_cons (pe_gint (by rfl) T.k_NO_PLAN) (pa_nil))))) (pss_nil)) (pss_cons (ps_set (i := 3) sc_Search_sl_leg.nd rfl (Or.inl rfl) (pe_meth (pv 0) T.cl_Search T.me_Search_course_of G_Search_course_of (hr.mono (by decide)) T.B_Search_course_of .nil pass0 (pa_cons (pv 1) (pa_nil)))) (pss_cons (ps_if (pt_cmpR op_ge (pv 2) (pe_fld (pv 3) rfl) (nomark _)) (pss_one (ps_ret (pe_lst (pa_cons (pe_gint (by rfl) T.k_NO_SUCH_LEG) (pa_nil))))) (pss_nil)) (pss_one (ps_ret (pe_op op_cat (pe_op op_cat (pe_lst (pa_cons (pe_int) (pa_nil))) (pe_meth (pv 3) T.cl_Course T.me_Course_place_on G_Course_place_on (hr.mono (by decide)) T.B_Course_place_on .nil pass0 (pa_cons (pv 2) (pa_cons (pe_int) (pa_nil))))) (pe_meth (pv 3) T.cl_Course T.me_Course_place_on G_Course_place_on (hr.mono (by decide)) T.B_Course_place_on .nil pass0 (pa_cons (pv 2) (pa_cons (pe_fld (pv 3) rfl) (pa_nil))))))))))
def t_Search_sl_where (K : PySem.W.Frag) (a : Ad) : TS := tSeq (tIfS (tTest (tOp (rI0 fun i j => .bl (decide (j ≤ i))) (tVar 1) (tCB (fun xs H Q => ∃ p ys, xs = [.ref p] ∧ (SqL K H p ys ∨ SqT K H p ys) ∧ Q (.int ys.length) H) (tCons (tFld K (tVar 0) "crafts") (tNil))))) (tRet (tLst (tCons (tC (.int (-2))) (tNil)))) (tNext)) (tSeq (tIfS (tTest (tOp (fun x y H Q => y = .non ∧ Q (.bl (decide (x = .non))) H) (tFld K (tVar 0) "plan") (tC .non))) (tRet (tLst (tCons (tC (.int (-6))) (tNil)))) (tNext)) (tSeq (tAsg (tMeth a.c_Search "course_of" (sp_Search_course_of K a) [] E0 (tVar 0) (tCons (tVar 1) (tNil))) (gName 2)) (tSeq (tIfS (tTest (tOp rEq (tFld K (tVar 2) "legs") (tC (.int (0))))) (tRet (tLst (tCons (tC (.int (-33))) (tNil)))) (tNext)) (tSeq (tAsg (tCall (sp_legs_done K a) [] E0 (tCons (tFld K (tVar 0) "area") (tCons (tOp (rIxL K) (tFld K (tVar 0) "crafts") (tVar 1)) (tCons (tFld K (tVar 0) "plan") (tCons (tVar 1) (tCons (tFld K (tVar 0) "hour") (tNil))))))) (gName 3)) (tRet (tOp rCat (tOp rCat (tLst (tCons (tMeth a.c_Course "leg_by" (sp_Course_leg_by K a) [] E0 (tVar 2) (tCons (tFld K (tVar 0) "hour") (tNil))) (tNil))) (tMeth a.c_Course "place_by" (sp_Course_place_by K a) [] E0 (tVar 2) (tCons (tFld K (tVar 0) "hour") (tNil)))) (tLst (tCons (tVar 3) (tNil)))))))))
theorem ps_Search_sl_where (T : Txt K mg a) (G_Course_leg_by : FnOk P w K mg base CX0 4 a.f_Course_leg_by a.d_Course_leg_by p_Course_leg_by (sp_Course_leg_by K a)) (G_Course_place_by : FnOk P w K mg base CX0 5 a.f_Course_place_by a.d_Course_place_by p_Course_place_by (sp_Course_place_by K a)) (G_Search_course_of : FnOk P w K mg base CX0 4 a.f_Search_course_of a.d_Search_course_of p_Search_course_of (sp_Search_course_of K a)) (G_legs_done : FnOk P w K mg base CX0 3 a.f_legs_done a.d_legs_done p_legs_done (sp_legs_done K a)) {cdv : Value} {A : Around} {outer : List Env} {s : Shared} {H : Hp} {E : XK} (hr : Room 5 (A.deeper (envOfC "Search.sl_where" (defScope s_Search_sl_where) s.heap.objs.size a.f_Search_sl_where cdv))) :
    PSs (cxOf CX0 P w K mg base n_Search_sl_where "Search.sl_where" (defScope s_Search_sl_where) a.f_Search_sl_where cdv A outer s H E).nox (defBody s_Search_sl_where) (t_Search_sl_where K a) :=
  pss_cons (ps_if (pt_cmpR op_ge (pv 1) (pe_callB call_len_seq (by rfl) T.b_len PySem.boot_len (pa_cons (pe_fld (pv 0) rfl) (pa_nil))) (nomark _)) (pss_one (ps_ret (pe_lst (pa_cons (pe_gint (by rfl) T.k_NO_SUCH_CRAFT) (pa_nil))))) (pss_nil)) (pss_cons (ps_if (pt_cmpR op_isN (pe_fld (pv 0) rfl) (pe_non) (nomark _)) (pss_one (ps_ret (pe_lst (pa_cons (pe_gint (by rfl) T.k_NO_PLAN) (pa_nil))))) (pss_nil)) (pss_cons (ps_set (i := 2) sc_Search_sl_where.nd rfl (Or.inl rfl) (pe_meth (pv 0) T.cl_Search T.me_Search_course_of G_Search_course_of (hr.mono (by decide)) T.B_Search_course_of .nil pass0 (pa_cons (pv 1) (pa_nil)))) (pss_cons (ps_if (pt_cmpR op_eq (pe_fld (pv 2) rfl) (pe_int) (nomark _)) (pss_one (ps_ret (pe_lst (pa_cons (pe_gint (by rfl) T.k_NO_LEGS) (pa_nil))))) (pss_nil)) (pss_cons (ps_set (i := 3) sc_Search_sl_where.nd rfl (Or.inl rfl) (pe_call G_legs_done (hr.mono (by decide)) rfl T.g_legs_done T.F_legs_done.kp T.B_legs_done .nil pass0 (pa_cons (pe_fld (pv 0) rfl) (pa_cons (pe_ix ix_list (pe_fld (pv 0) rfl) (pv 1) (fun _ _ => rfl)) (pa_cons (pe_fld (pv 0) rfl) (pa_cons (pv 1) (pa_cons (pe_fld (pv 0) rfl) (pa_nil)))))))) (pss_one (ps_ret (pe_op op_cat (pe_op op_cat (pe_lst (pa_cons (pe_meth (pv 2) T.cl_Course T.me_Course_leg_by G_Course_leg_by (hr.mono (by decide)) T.B_Course_leg_by .nil pass0 (pa_cons (pe_fld (pv 0) rfl) (pa_nil))) (pa_nil))) (pe_meth (pv 2) T.cl_Course T.me_Course_place_by G_Course_place_by (hr.mono (by decide)) T.B_Course_place_by .nil pass0 (pa_cons (pe_fld (pv 0) rfl) (pa_nil)))) (pe_lst (pa_cons (pv 3) (pa_nil))))))))))
def t_Search_sl_when (K : PySem.W.Frag) (a : Ad) : TS := tSeq (tIfS (tNot (tB (tCall (sp_is_within K a) [] E0 (tCons (tFld K (tVar 0) "area") (tCons (tVar 1) (tCons (tVar 2) (tNil))))))) (tRet (tLst (tCons (tC (.int (-22))) (tNil)))) (tNext)) (tSeq (tIfS (tTest (tOp (fun x y H Q => y = .non ∧ Q (.bl (decide (x = .non))) H) (tFld K (tVar 0) "plan") (tC .non))) (tRet (tLst (tCons (tC (.int (-6))) (tNil)))) (tNext)) (tSeq (tAsg (tMeth a.c_Search "sights_of" (sp_Search_sights_of K a) [] E0 (tVar 0) (tCons (tVar 1) (tCons (tVar 2) (tNil)))) (gName 3)) (tSeq (tAsg (tCB (rMin K) (tCons (tLc (iList K (tVar 3)) (gName 5) (tTest (tOp (fun x y H Q => y = .non ∧ Q (.bl (!decide (x = .non))) H) (tVar 5) (tC .non))) (tVar 5) [5]) (tNil))) (gName 4)) (tRet (tLst (tCons (tVar 4) (tCons (tBM K "list" (rIndex K) (tVar 3) (tCons (tVar 4) (tNil))) (tNil))))))))
theorem ps_Search_sl_when (T : Txt K mg a) (G_Search_sights_of : FnOk P w K mg base CX0 5 a.f_Search_sights_of a.d_Search_sights_of p_Search_sights_of (sp_Search_sights_of K a)) (G_is_within : FnOk P w K mg base CX0 1 a.f_is_within a.d_is_within p_is_within (sp_is_within K a)) {cdv : Value} {A : Around} {outer : List Env} {s : Shared} {H : Hp} {E : XK} (hr : Room 5 (A.deeper (envOfC "Search.sl_when" (defScope s_Search_sl_when) s.heap.objs.size a.f_Search_sl_when cdv))) :
    PSs (cxOf CX0 P w K mg base n_Search_sl_when "Search.sl_when" (defScope s_Search_sl_when) a.f_Search_sl_when cdv A outer s H E).nox (defBody s_Search_sl_when) (t_Search_sl_when K a) :=
  pss_cons (ps_if (pt_not (pt_val (pe_call G_is_within (hr.mono (by decide)) rfl T.g_is_within T.F_is_within.kp T.B_is_within .nil pass0 (pa_cons (pe_fld (pv 0) rfl) (pa_cons (pv 1) (pa_cons (pv 2) (pa_nil))))))) (pss_one (ps_ret (pe_lst (pa_cons (pe_gint (by rfl) T.k_NOT_AS_TOLD) (pa_nil))))) (pss_nil)) (pss_cons (ps_if (pt_cmpR op_isN (pe_fld (pv 0) rfl) (pe_non) (nomark _)) (pss_one (ps_ret (pe_lst (pa_cons (pe_gint (by rfl) T.k_NO_PLAN) (pa_nil))))) (pss_nil)) (pss_cons (ps_set (i := 3) sc_Search_sl_when.nd rfl (Or.inl rfl) (pe_meth (pv 0) T.cl_Search T.me_Search_sights_of G_Search_sights_of (hr.mono (by decide)) T.B_Search_sights_of .nil pass0 (pa_cons (pv 1) (pa_cons (pv 2) (pa_nil))))) (pss_cons (ps_set (i := 4) sc_Search_sl_when.nd rfl (Or.inl rfl) (pe_callB (cr_min rfl) (by rfl) T.b_min boot_min (pa_cons (pe_lc (own := [("hours", 5)]) rfl sc_Search_sl_when.nd (pi_list (pv 3)) (blkOk_by (by show blkC n_Search_sl_when (defScope s_Search_sl_when) _ _ = true; decide +kernel)) (fun _ _ _ _ _ => pg_name (i := 5) sc_Search_sl_when.nd rfl (Or.inl rfl)) (fun _ _ _ _ _ => pts_one (pt_cmpR op_notN (pv 5) (pe_non) (nomark _))) (fun _ _ _ _ _ => pv 5)) (pa_nil)))) (pss_one (ps_ret (pe_lst (pa_cons (pv 4) (pa_cons (pe_bm PySem.F.plainAttrs_list PySem.F.slot_list_index PySem.F.type_list_index mt_index (pv 3) (pa_cons (pv 4) (pa_nil))) (pa_nil)))))))))
def t_Search_sl_seen (K : PySem.W.Frag) (a : Ad) : TS := tSeq (tIfS (tNot (tB (tCall (sp_is_within K a) [] E0 (tCons (tFld K (tVar 0) "area") (tCons (tVar 1) (tCons (tVar 2) (tNil))))))) (tRet (tLst (tCons (tC (.int (-22))) (tNil)))) (tNext)) (tSeq (tIfS (tTest (tOp (fun x y H Q => y = .non ∧ Q (.bl (decide (x = .non))) H) (tFld K (tVar 0) "plan") (tC .non))) (tRet (tLst (tCons (tC (.int (-6))) (tNil)))) (tNext)) (tSeq (tAsg (tMeth a.c_Search "sights_of" (sp_Search_sights_of K a) [] E0 (tVar 0) (tCons (tVar 1) (tCons (tVar 2) (tNil)))) (gName 3)) (tRet (tLst (tCons (tCB (fun xs H Q => ∃ p ys, xs = [.ref p] ∧ (SqL K H p ys ∨ SqT K H p ys) ∧ Q (.int ys.length) H) (tCons (tLc (iList K (tVar 3)) (gName 4) (tAnd (tTest (tOp (fun x y H Q => y = .non ∧ Q (.bl (!decide (x = .non))) H) (tVar 4) (tC .non))) (tTest (tOp (rI0 fun i j => .bl (decide (i ≤ j))) (tVar 4) (tFld K (tVar 0) "hour")))) (tVar 4) [4]) (tNil))) (tNil))))))
theorem ps_Search_sl_seen (T : Txt K mg a) (G_Search_sights_of : FnOk P w K mg base CX0 5 a.f_Search_sights_of a.d_Search_sights_of p_Search_sights_of (sp_Search_sights_of K a)) (G_is_within : FnOk P w K mg base CX0 1 a.f_is_within a.d_is_within p_is_within (sp_is_within K a)) {cdv : Value} {A : Around} {outer : List Env} {s : Shared} {H : Hp} {E : XK} (hr : Room 5 (A.deeper (envOfC "Search.sl_seen" (defScope s_Search_sl_seen) s.heap.objs.size a.f_Search_sl_seen cdv))) :
    PSs (cxOf CX0 P w K mg base n_Search_sl_seen "Search.sl_seen" (defScope s_Search_sl_seen) a.f_Search_sl_seen cdv A outer s H E).nox (defBody s_Search_sl_seen) (t_Search_sl_seen K a) :=
  pss_cons (ps_if (pt_not (pt_val (pe_call G_is_within (hr.mono (by decide)) rfl T.g_is_within T.F_is_within.kp T.B_is_within .nil pass0 (pa_cons (pe_fld (pv 0) rfl) (pa_cons (pv 1) (pa_cons (pv 2) (pa_nil))))))) (pss_one (ps_ret (pe_lst (pa_cons (pe_gint (by rfl) T.k_NOT_AS_TOLD) (pa_nil))))) (pss_nil)) (pss_cons (ps_if (pt_cmpR op_isN (pe_fld (pv 0) rfl) (pe_non) (nomark _)) (pss_one (ps_ret (pe_lst (pa_cons (pe_gint (by rfl) T.k_NO_PLAN) (pa_nil))))) (pss_nil)) (pss_cons (ps_set (i := 3) sc_Search_sl_seen.nd rfl (Or.inl rfl) (pe_meth (pv 0) T.cl_Search T.me_Search_sights_of G_Search_sights_of (hr.mono (by decide)) T.B_Search_sights_of .nil pass0 (pa_cons (pv 1) (pa_cons (pv 2) (pa_nil))))) (pss_one (ps_ret (pe_lst (pa_cons (pe_callB call_len_seq (by rfl) T.b_len PySem.boot_len (pa_cons (pe_lc (own := [("hours", 4)]) rfl sc_Search_sl_seen.nd (pi_list (pv 3)) (blkOk_by (by show blkC n_Search_sl_seen (defScope s_Search_sl_seen) _ _ = true; decide +kernel)) (fun _ _ _ _ _ => pg_name (i := 4) sc_Search_sl_seen.nd rfl (Or.inl rfl)) (fun _ _ _ _ _ => pts_one ((pw_and (pt_cmpR op_notN (pv 4) (pe_non) (nomark _)) (pw_and1 (pt_cmpR op_le (pv 4) (pe_fld (pv 0) rfl) (nomark _)))).pt)) (fun _ _ _ _ _ => pv 4)) (pa_nil))) (pa_nil)))))))
def t_Search_sl_most (K : PySem.W.Frag) (a : Ad) : TS := tSeq (tIfS (tTest (tOp (rI0 fun i j => .bl (decide (j ≤ i))) (tVar 1) (tCB (fun xs H Q => ∃ p ys, xs = [.ref p] ∧ (SqL K H p ys ∨ SqT K H p ys) ∧ Q (.int ys.length) H) (tCons (tFld K (tVar 0) "crafts") (tNil))))) (tRet (tLst (tCons (tC (.int (-2))) (tNil)))) (tNext)) (tSeq (tIfS (tOr (tTest (tOp (rI0 fun i j => .bl (decide (j < i))) (tVar 2) (tC (.int (1))))) (tTest (tOp (rI0 fun i j => .bl (decide (j < i))) (tVar 3) (tC (.int (100)))))) (tRet (tLst (tCons (tC (.int (-22))) (tNil)))) (tNext)) (tSeq (tAsg (tOp (rIxL K) (tFld K (tVar 0) "crafts") (tVar 1)) (gName 4)) (tSeq (tAsg (tCall (sp_most_legs K a) [] E0 (tCons (tFld K (tVar 0) "area") (tCons (tVar 4) (tCons (tVar 2) (tCons (tVar 3) (tNil)))))) (gName 5)) (tRet (tLst (tCons (tVar 5) (tCons (tCB (fun xs H Q => ∃ i j, xs = [.int i, .int j] ∧ Q (.int (if j < i then j else i)) H) (tCons (tCall (sp_places_across K a) [] E0 (tCons (tFld K (tVar 0) "area") (tCons (tVar 2) (tNil)))) (tCons (tOp (rI CMul fun i j => .int (i * j)) (tVar 5) (tFld K (tVar 4) "strip")) (tNil)))) (tNil))))))))
theorem ps_Search_sl_most (T : Txt K mg a) (G_most_legs : FnOk P w K mg base CX0 2 a.f_most_legs a.d_most_legs p_most_legs (sp_most_legs K a)) (G_places_across : FnOk P w K mg base CX0 1 a.f_places_across a.d_places_across p_places_across (sp_places_across K a)) {cdv : Value} {A : Around} {outer : List Env} {s : Shared} {H : Hp} {E : XK} (hr : Room 2 (A.deeper (envOfC "Search.sl_most" (defScope s_Search_sl_most) s.heap.objs.size a.f_Search_sl_most cdv))) :
    PSs (cxOf CX0 P w K mg base n_Search_sl_most "Search.sl_most" (defScope s_Search_sl_most) a.f_Search_sl_most cdv A outer s H E).nox (defBody s_Search_sl_most) (t_Search_sl_most K a) :=
  pss_cons (ps_if (pt_cmpR op_ge (pv 1) (pe_callB call_len_seq (by rfl) T.b_len PySem.boot_len (pa_cons (pe_fld (pv 0) rfl) (pa_nil))) (nomark _)) (pss_one (ps_ret (pe_lst (pa_cons (pe_gint (by rfl) T.k_NO_SUCH_CRAFT) (pa_nil))))) (pss_nil)) (pss_cons (ps_if ((pw_or (pt_cmpR op_gt (pv 2) (pe_int) (nomark _)) (pw_or1 (pt_cmpR op_gt (pv 3) (pe_gint (by rfl) T.k_MOST_HOURS) (nomark _)))).pt) (pss_one (ps_ret (pe_lst (pa_cons (pe_gint (by rfl) T.k_NOT_AS_TOLD) (pa_nil))))) (pss_nil)) (pss_cons (ps_set (i := 4) sc_Search_sl_most.nd rfl (Or.inl rfl) (pe_ix ix_list (pe_fld (pv 0) rfl) (pv 1) (fun _ _ => rfl))) (pss_cons (ps_set (i := 5) sc_Search_sl_most.nd rfl (Or.inl rfl) (pe_call G_most_legs (hr.mono (by decide)) rfl T.g_most_legs T.F_most_legs.kp T.B_most_legs .nil pass0 (pa_cons (pe_fld (pv 0) rfl) (pa_cons (pv 4) (pa_cons (pv 2) (pa_cons (pv 3) (pa_nil))))))) (pss_one (ps_ret (pe_lst (pa_cons (pv 5) (pa_cons (pe_callB (call_min2 rfl) (by rfl) T.b_min boot_min (pa_cons (pe_call G_places_across (hr.mono (by decide)) rfl T.g_places_across T.F_places_across.kp T.B_places_across .nil pass0 (pa_cons (pe_fld (pv 0) rfl) (pa_cons (pv 2) (pa_nil)))) (pa_cons (pe_op op_mul (pv 5) (pe_fld (pv 4) rfl)) (pa_nil)))) (pa_nil)))))))))
def t_Search_sl_look (K : PySem.W.Frag) (a : Ad) : TS := tSeq (tIfS (tTest (tOp (rI0 fun i j => .bl (decide (j ≤ i))) (tVar 1) (tCB (fun xs H Q => ∃ p ys, xs = [.ref p] ∧ (SqL K H p ys ∨ SqT K H p ys) ∧ Q (.int ys.length) H) (tCons (tFld K (tVar 0) "crafts") (tNil))))) (tRet (tLst (tCons (tC (.int (-2))) (tNil)))) (tNext)) (tSeq (tAsg (tOp (rIxL K) (tFld K (tVar 0) "crafts") (tVar 1)) (gName 2)) (tRet (tLst (tCons (tFld K (tVar 2) "speed") (tCons (tFld K (tVar 2) "see") (tCons (tFld K (tVar 2) "hours") (tCons (tFld K (tVar 2) "strip") (tNil))))))))
theorem ps_Search_sl_look (T : Txt K mg a)  {cdv : Value} {A : Around} {outer : List Env} {s : Shared} {H : Hp} {E : XK} (hr : Room 0 (A.deeper (envOfC "Search.sl_look" (defScope s_Search_sl_look) s.heap.objs.size a.f_Search_sl_look cdv))) :
    PSs (cxOf CX0 P w K mg base n_Search_sl_look "Search.sl_look" (defScope s_Search_sl_look) a.f_Search_sl_look cdv A outer s H E).nox (defBody s_Search_sl_look) (t_Search_sl_look K a) :=
  pss_cons (ps_if (pt_cmpR op_ge (pv 1) (pe_callB call_len_seq (by rfl) T.b_len PySem.boot_len (pa_cons (pe_fld (pv 0) rfl) (pa_nil))) (nomark _)) (pss_one (ps_ret (pe_lst (pa_cons (pe_gint (by rfl) T.k_NO_SUCH_CRAFT) (pa_nil))))) (pss_nil)) (pss_cons (ps_set (i := 2) sc_Search_sl_look.nd rfl (Or.inl rfl) (pe_ix ix_list (pe_fld (pv 0) rfl) (pv 1) (fun _ _ => rfl))) (pss_one (ps_ret (pe_lst (pa_cons (pe_fld (pv 2) rfl) (pa_cons (pe_fld (pv 2) rfl) (pa_cons (pe_fld (pv 2) rfl) (pa_cons (pe_fld (pv 2) rfl) (pa_nil)))))))))
def t_Search_sl_size (K : PySem.W.Frag) (a : Ad) : TS := tSeq (tAsg (tFld K (tVar 0) "area") (gName 1)) (tRet (tLst (tCons (tOp (rI CMul fun i j => .int (i * j)) (tOp (rI0 fun i j => .int (i + j)) (tFld K (tVar 1) "wide") (tC (.int (1)))) (tOp (rI0 fun i j => .int (i + j)) (tFld K (tVar 1) "high") (tC (.int (1))))) (tCons (tFld K (tVar 1) "x") (tCons (tFld K (tVar 1) "y") (tCons (tFld K (tVar 1) "wide") (tCons (tFld K (tVar 1) "high") (tNil))))))))
theorem ps_Search_sl_size (T : Txt K mg a)  {cdv : Value} {A : Around} {outer : List Env} {s : Shared} {H : Hp} {E : XK} (hr : Room 0 (A.deeper (envOfC "Search.sl_size" (defScope s_Search_sl_size) s.heap.objs.size a.f_Search_sl_size cdv))) :
    PSs (cxOf CX0 P w K mg base n_Search_sl_size "Search.sl_size" (defScope s_Search_sl_size) a.f_Search_sl_size cdv A outer s H E).nox (defBody s_Search_sl_size) (t_Search_sl_size K a) :=
  pss_cons (ps_set (i := 1) sc_Search_sl_size.nd rfl (Or.inl rfl) (pe_fld (pv 0) rfl)) (pss_one (ps_ret (pe_lst (pa_cons (pe_op op_mul (pe_op op_add (pe_fld (pv 1) rfl) (pe_int)) (pe_op op_add (pe_fld (pv 1) rfl) (pe_int))) (pa_cons (pe_fld (pv 1) rfl) (pa_cons (pe_fld (pv 1) rfl) (pa_cons (pe_fld (pv 1) rfl) (pa_cons (pe_fld (pv 1) rfl) (pa_nil)))))))))
def t_Search_sl_ends (K : PySem.W.Frag) (a : Ad) : TS := tSeq (tIfS (tTest (tOp (fun x y H Q => y = .non ∧ Q (.bl (decide (x = .non))) H) (tFld K (tVar 0) "plan") (tC .non))) (tRet (tLst (tCons (tC (.int (-6))) (tNil)))) (tNext)) (tSeq (tAsg (tLc (iEnum K (tCons (tFld K (tVar 0) "crafts") (tNil))) (gTup K 2 (gCons (gName 2) (gCons (gName 3) (gNil)))) (tYes) (tCall (sp_legs_done K a) [] E0 (tCons (tFld K (tVar 0) "area") (tCons (tVar 3) (tCons (tFld K (tVar 0) "plan") (tCons (tVar 2) (tCons (tFld K (tVar 0) "hour") (tNil))))))) [2, 3]) (gName 1)) (tRet (tLst (tCons (tOp (rI0 fun i j => .int (i - j)) (tFld K (tFld K (tVar 0) "plan") "hours") (tFld K (tVar 0) "hour")) (tCons (tCB (rSum K) (tCons (tVar 1) (tNil))) (tCons (tCB (rSum K) (tCons (tFld K (tFld K (tVar 0) "plan") "shares") (tNil))) (tNil)))))))
theorem ps_Search_sl_ends (T : Txt K mg a) (G_legs_done : FnOk P w K mg base CX0 3 a.f_legs_done a.d_legs_done p_legs_done (sp_legs_done K a)) {cdv : Value} {A : Around} {outer : List Env} {s : Shared} {H : Hp} {E : XK} (hr : Room 3 (A.deeper (envOfC "Search.sl_ends" (defScope s_Search_sl_ends) s.heap.objs.size a.f_Search_sl_ends cdv))) :
    PSs (cxOf CX0 P w K mg base n_Search_sl_ends "Search.sl_ends" (defScope s_Search_sl_ends) a.f_Search_sl_ends cdv A outer s H E).nox (defBody s_Search_sl_ends) (t_Search_sl_ends K a) :=
  pss_cons (ps_if (pt_cmpR op_isN (pe_fld (pv 0) rfl) (pe_non) (nomark _)) (pss_one (ps_ret (pe_lst (pa_cons (pe_gint (by rfl) T.k_NO_PLAN) (pa_nil))))) (pss_nil)) (pss_cons (ps_setLc (i := 1) (own := [("k", 2), ("craft", 3)]) rfl sc_Search_sl_ends.nd rfl rfl (sw_true rfl rfl rfl (by decide +kernel)) (pi_enum (by rfl) T.b_enumerate (pa_cons (pe_fld (pv 0) rfl) (pa_nil))) (blkOk_by (by show blkC n_Search_sl_ends (defScope s_Search_sl_ends) _ _ = true; decide +kernel)) (fun _ _ _ _ _ => pg_tup rfl (pgs_cons (pg_name (i := 2) sc_Search_sl_ends.nd rfl (Or.inl rfl)) (pgs_cons (pg_name (i := 3) sc_Search_sl_ends.nd rfl (Or.inl rfl)) (pgs_nil)))) (fun _ _ _ _ _ => pts_nil) (fun _ _ _ _ _ => pe_call G_legs_done (hr.mono (by decide)) rfl T.g_legs_done T.F_legs_done.kp T.B_legs_done .nil pass0 (pa_cons (pe_fld (pv 0) rfl) (pa_cons (pv 3) (pa_cons (pe_fld (pv 0) rfl) (pa_cons (pv 2) (pa_cons (pe_fld (pv 0) rfl) (pa_nil)))))))) (pss_one (ps_ret (pe_lst (pa_cons (pe_op op_sub (pe_fld (pe_fld (pv 0) rfl) rfl) (pe_fld (pv 0) rfl)) (pa_cons (pe_callB (cr_sum rfl) (by rfl) T.b_sum boot_sum (pa_cons (pv 1) (pa_nil))) (pa_cons (pe_callB (cr_sum rfl) (by rfl) T.b_sum boot_sum (pa_cons (pe_fld (pe_fld (pv 0) rfl) rfl) (pa_nil))) (pa_nil))))))))
def t_Search_sl_back (K : PySem.W.Frag) (a : Ad) : TS := tSeq (tIfS (tTest (tOp rEq (tCB (fun xs H Q => ∃ p ys, xs = [.ref p] ∧ (SqL K H p ys ∨ SqT K H p ys) ∧ Q (.int ys.length) H) (tCons (tFld K (tFld K (tVar 0) "changes") "behind") (tNil))) (tC (.int (0))))) (tRet (tLst (tCons (tC (.int (-2))) (tNil)))) (tNext)) (tSeq (tDrop (tMeth a.c_Search "put" (sp_Search_put K a) [] E0 (tVar 0) (tCons (tMeth a.c_Changes "take_back" (sp_Changes_take_back K a) [] E0 (tFld K (tVar 0) "changes") (tCons (tMeth a.c_Search "standing" (sp_Search_standing K a) [] E0 (tVar 0) (tNil)) (tNil))) (tNil)))) (tRet (tLst (tCons (tCB (fun xs H Q => ∃ p ys, xs = [.ref p] ∧ (SqL K H p ys ∨ SqT K H p ys) ∧ Q (.int ys.length) H) (tCons (tFld K (tFld K (tVar 0) "changes") "behind") (tNil))) (tNil)))))
theorem ps_Search_sl_back (T : Txt K mg a) (G_Changes_take_back : FnOk P w K mg base CX0 1 a.f_Changes_take_back a.d_Changes_take_back p_Changes_take_back (sp_Changes_take_back K a)) (G_Search_put : FnOk P w K mg base CX0 1 a.f_Search_put a.d_Search_put p_Search_put (sp_Search_put K a)) (G_Search_standing : FnOk P w K mg base CX0 1 a.f_Search_standing a.d_Search_standing p_Search_standing (sp_Search_standing K a)) {cdv : Value} {A : Around} {outer : List Env} {s : Shared} {H : Hp} {E : XK} (hr : Room 1 (A.deeper (envOfC "Search.sl_back" (defScope s_Search_sl_back) s.heap.objs.size a.f_Search_sl_back cdv))) :
    PSs (cxOf CX0 P w K mg base n_Search_sl_back "Search.sl_back" (defScope s_Search_sl_back) a.f_Search_sl_back cdv A outer s H E).nox (defBody s_Search_sl_back) (t_Search_sl_back K a) :=
  pss_cons (ps_if (pt_cmpR op_eq (pe_callB call_len_seq (by rfl) T.b_len PySem.boot_len (pa_cons (pe_fld (pe_fld (pv 0) rfl) rfl) (pa_nil))) (pe_int) (nomark _)) (pss_one (ps_ret (pe_lst (pa_cons (pe_gint (by rfl) T.k_NO_SUCH_CHANGE) (pa_nil))))) (pss_nil)) (pss_cons (ps_expr (pe_meth (pv 0) T.cl_Search T.me_Search_put G_Search_put (hr.mono (by decide)) T.B_Search_put .nil pass0 (pa_cons (pe_meth (pe_fld (pv 0) rfl) T.cl_Changes T.me_Changes_take_back G_Changes_take_back (hr.mono (by decide)) T.B_Changes_take_back .nil pass0 (pa_cons (pe_meth0 (pv 0) T.cl_Search T.me_Search_standing G_Search_standing (hr.mono (by decide)) T.B_Search_standing .nil pass0) (pa_nil))) (pa_nil)))) (pss_one (ps_ret (pe_lst (pa_cons (pe_callB call_len_seq (by rfl) T.b_len PySem.boot_len (pa_cons (pe_fld (pe_fld (pv 0) rfl) rfl) (pa_nil))) (pa_nil))))))
def t_Search_sl_again (K : PySem.W.Frag) (a : Ad) : TS := tSeq (tIfS (tTest (tOp rEq (tCB (fun xs H Q => ∃ p ys, xs = [.ref p] ∧ (SqL K H p ys ∨ SqT K H p ys) ∧ Q (.int ys.length) H) (tCons (tFld K (tFld K (tVar 0) "changes") "ahead") (tNil))) (tC (.int (0))))) (tRet (tLst (tCons (tC (.int (-2))) (tNil)))) (tNext)) (tSeq (tDrop (tMeth a.c_Search "put" (sp_Search_put K a) [] E0 (tVar 0) (tCons (tMeth a.c_Changes "do_again" (sp_Changes_do_again K a) [] E0 (tFld K (tVar 0) "changes") (tCons (tMeth a.c_Search "standing" (sp_Search_standing K a) [] E0 (tVar 0) (tNil)) (tNil))) (tNil)))) (tRet (tLst (tCons (tCB (fun xs H Q => ∃ p ys, xs = [.ref p] ∧ (SqL K H p ys ∨ SqT K H p ys) ∧ Q (.int ys.length) H) (tCons (tFld K (tFld K (tVar 0) "changes") "ahead") (tNil))) (tNil)))))
theorem ps_Search_sl_again (T : Txt K mg a) (G_Changes_do_again : FnOk P w K mg base CX0 1 a.f_Changes_do_again a.d_Changes_do_again p_Changes_do_again (sp_Changes_do_again K a)) (G_Search_put : FnOk P w K mg base CX0 1 a.f_Search_put a.d_Search_put p_Search_put (sp_Search_put K a)) (G_Search_standing : FnOk P w K mg base CX0 1 a.f_Search_standing a.d_Search_standing p_Search_standing (sp_Search_standing K a)) {cdv : Value} {A : Around} {outer : List Env} {s : Shared} {H : Hp} {E : XK} (hr : Room 1 (A.deeper (envOfC "Search.sl_again" (defScope s_Search_sl_again) s.heap.objs.size a.f_Search_sl_again cdv))) :
    PSs (cxOf CX0 P w K mg base n_Search_sl_again "Search.sl_again" (defScope s_Search_sl_again) a.f_Search_sl_again cdv A outer s H E).nox (defBody s_Search_sl_again) (t_Search_sl_again K a) :=
  pss_cons (ps_if (pt_cmpR op_eq (pe_callB call_len_seq (by rfl) T.b_len PySem.boot_len (pa_cons (pe_fld (pe_fld (pv 0) rfl) rfl) (pa_nil))) (pe_int) (nomark _)) (pss_one (ps_ret (pe_lst (pa_cons (pe_gint (by rfl) T.k_NO_SUCH_CHANGE) (pa_nil))))) (pss_nil)) (pss_cons (ps_expr (pe_meth (pv 0) T.cl_Search T.me_Search_put G_Search_put (hr.mono (by decide)) T.B_Search_put .nil pass0 (pa_cons (pe_meth (pe_fld (pv 0) rfl) T.cl_Changes T.me_Changes_do_again G_Changes_do_again (hr.mono (by decide)) T.B_Changes_do_again .nil pass0 (pa_cons (pe_meth0 (pv 0) T.cl_Search T.me_Search_standing G_Search_standing (hr.mono (by decide)) T.B_Search_standing .nil pass0) (pa_nil))) (pa_nil)))) (pss_one (ps_ret (pe_lst (pa_cons (pe_callB call_len_seq (by rfl) T.b_len PySem.boot_len (pa_cons (pe_fld (pe_fld (pv 0) rfl) rfl) (pa_nil))) (pa_nil))))))
def t_Search_sl_state (K : PySem.W.Frag) (a : Ad) : TS := tSeq (tAsg (tIf (tTest (tOp (fun x y H Q => y = .non ∧ Q (.bl (decide (x = .non))) H) (tFld K (tVar 0) "plan") (tC .non))) (tC (.int (0))) (tC (.int (1)))) (gName 1)) (tRet (tLst (tCons (tFld K (tVar 0) "hour") (tCons (tCB (fun xs H Q => ∃ p ys, xs = [.ref p] ∧ (SqL K H p ys ∨ SqT K H p ys) ∧ Q (.int ys.length) H) (tCons (tFld K (tVar 0) "crafts") (tNil))) (tCons (tVar 1) (tCons (tCB (fun xs H Q => ∃ p ys, xs = [.ref p] ∧ (SqL K H p ys ∨ SqT K H p ys) ∧ Q (.int ys.length) H) (tCons (tFld K (tFld K (tVar 0) "changes") "behind") (tNil))) (tCons (tCB (fun xs H Q => ∃ p ys, xs = [.ref p] ∧ (SqL K H p ys ∨ SqT K H p ys) ∧ Q (.int ys.length) H) (tCons (tFld K (tFld K (tVar 0) "changes") "ahead") (tNil))) (tNil))))))))
theorem ps_Search_sl_state (T : Txt K mg a)  {cdv : Value} {A : Around} {outer : List Env} {s : Shared} {H : Hp} {E : XK} (hr : Room 0 (A.deeper (envOfC "Search.sl_state" (defScope s_Search_sl_state) s.heap.objs.size a.f_Search_sl_state cdv))) :
    PSs (cxOf CX0 P w K mg base n_Search_sl_state "Search.sl_state" (defScope s_Search_sl_state) a.f_Search_sl_state cdv A outer s H E).nox (defBody s_Search_sl_state) (t_Search_sl_state K a) :=
  pss_cons (ps_set (i := 1) sc_Search_sl_state.nd rfl (Or.inl rfl) (pe_ifExp (pt_cmpR op_isN (pe_fld (pv 0) rfl) (pe_non) (nomark _)) (pe_int) (pe_int))) (pss_one (ps_ret (pe_lst (pa_cons (pe_fld (pv 0) rfl) (pa_cons (pe_callB call_len_seq (by rfl) T.b_len PySem.boot_len (pa_cons (pe_fld (pv 0) rfl) (pa_nil))) (pa_cons (pv 1) (pa_cons (pe_callB call_len_seq (by rfl) T.b_len PySem.boot_len (pa_cons (pe_fld (pe_fld (pv 0) rfl) rfl) (pa_nil))) (pa_cons (pe_callB call_len_seq (by rfl) T.b_len PySem.boot_len (pa_cons (pe_fld (pe_fld (pv 0) rfl) rfl) (pa_nil))) (pa_nil)))))))))
def t_answer_change (K : PySem.W.Frag) (a : Ad) : TS := tSeq (tIfS (tTest (tOp rEq (tVar 1) (tC (.int (0))))) (tRet (tMeth a.c_Search "sl_start" (sp_Search_sl_start K a) [] E0 (tVar 0) (tCons (tOp (rIxL K) (tVar 2) (tC (.int (0)))) (tCons (tOp (rIxL K) (tVar 2) (tC (.int (1)))) (tCons (tOp (rIxL K) (tVar 2) (tC (.int (2)))) (tCons (tOp (rIxL K) (tVar 2) (tC (.int (3)))) (tNil))))))) (tNext)) (tSeq (tIfS (tTest (tOp rEq (tVar 1) (tC (.int (1))))) (tRet (tMeth a.c_Search "sl_craft" (sp_Search_sl_craft K a) [] E0 (tVar 0) (tCons (tOp (rIxL K) (tVar 2) (tC (.int (0)))) (tCons (tOp (rIxL K) (tVar 2) (tC (.int (1)))) (tCons (tOp (rIxL K) (tVar 2) (tC (.int (2)))) (tNil)))))) (tNext)) (tSeq (tIfS (tTest (tOp rEq (tVar 1) (tC (.int (2))))) (tRet (tMeth a.c_Search "sl_area" (sp_Search_sl_area K a) [] E0 (tVar 0) (tCons (tOp (rIxL K) (tVar 2) (tC (.int (0)))) (tCons (tOp (rIxL K) (tVar 2) (tC (.int (1)))) (tCons (tOp (rIxL K) (tVar 2) (tC (.int (2)))) (tCons (tOp (rIxL K) (tVar 2) (tC (.int (3)))) (tNil))))))) (tNext)) (tSeq (tIfS (tTest (tOp rEq (tVar 1) (tC (.int (3))))) (tRet (tMeth a.c_Search "sl_drop" (sp_Search_sl_drop K a) [] E0 (tVar 0) (tCons (tOp (rIxL K) (tVar 2) (tC (.int (0)))) (tNil)))) (tNext)) (tSeq (tIfS (tTest (tOp rEq (tVar 1) (tC (.int (4))))) (tRet (tMeth a.c_Search "sl_take" (sp_Search_sl_take K a) [] E0 (tVar 0) (tNil))) (tNext)) (tRet (tMeth a.c_Search "sl_hours" (sp_Search_sl_hours K a) [] E0 (tVar 0) (tCons (tOp (rIxL K) (tVar 2) (tC (.int (0)))) (tNil))))))))
theorem ps_answer_change (T : Txt K mg a) (G_Search_sl_area : FnOk P w K mg base CX0 3 a.f_Search_sl_area a.d_Search_sl_area p_Search_sl_area (sp_Search_sl_area K a)) (G_Search_sl_craft : FnOk P w K mg base CX0 3 a.f_Search_sl_craft a.d_Search_sl_craft p_Search_sl_craft (sp_Search_sl_craft K a)) (G_Search_sl_drop : FnOk P w K mg base CX0 3 a.f_Search_sl_drop a.d_Search_sl_drop p_Search_sl_drop (sp_Search_sl_drop K a)) (G_Search_sl_hours : FnOk P w K mg base CX0 3 a.f_Search_sl_hours a.d_Search_sl_hours p_Search_sl_hours (sp_Search_sl_hours K a)) (G_Search_sl_start : FnOk P w K mg base CX0 3 a.f_Search_sl_start a.d_Search_sl_start p_Search_sl_start (sp_Search_sl_start K a)) (G_Search_sl_take : FnOk P w K mg base CX0 7 a.f_Search_sl_take a.d_Search_sl_take p_Search_sl_take (sp_Search_sl_take K a)) {cdv : Value} {A : Around} {outer : List Env} {s : Shared} {H : Hp} {E : XK} (hr : Room 7 (A.deeper (envOfC "answer_change" (defScope s_answer_change) s.heap.objs.size a.f_answer_change cdv))) :
    PSs (cxOf CX0 P w K mg base n_answer_change "answer_change" (defScope s_answer_change) a.f_answer_change cdv A outer s H E).nox (defBody s_answer_change) (t_answer_change K a) :=
  pss_cons (ps_if (pt_cmpR op_eq (pv 1) (pe_int) (nomark _)) (pss_one (ps_ret (pe_meth (pv 0) T.cl_Search T.me_Search_sl_start G_Search_sl_start (hr.mono (by decide)) T.B_Search_sl_start .nil pass0 (pa_cons (pe_ix ix_list (pv 2) (pe_int) (fun _ _ => rfl)) (pa_cons (pe_ix ix_list (pv 2) (pe_int) (fun _ _ => rfl)) (pa_cons (pe_ix ix_list (pv 2) (pe_int) (fun _ _ => rfl)) (pa_cons (pe_ix ix_list (pv 2) (pe_int) (fun _ _ => rfl)) (pa_nil)))))))) (pss_nil)) (pss_cons (ps_if (pt_cmpR op_eq (pv 1) (pe_int) (nomark _)) (pss_one (ps_ret (pe_meth (pv 0) T.cl_Search T.me_Search_sl_craft G_Search_sl_craft (hr.mono (by decide)) T.B_Search_sl_craft .nil pass0 (pa_cons (pe_ix ix_list (pv 2) (pe_int) (fun _ _ => rfl)) (pa_cons (pe_ix ix_list (pv 2) (pe_int) (fun _ _ => rfl)) (pa_cons (pe_ix ix_list (pv 2) (pe_int) (fun _ _ => rfl)) (pa_nil))))))) (pss_nil)) (pss_cons (ps_if (pt_cmpR op_eq (pv 1) (pe_int) (nomark _)) (pss_one (ps_ret (pe_meth (pv 0) T.cl_Search T.me_Search_sl_area G_Search_sl_area (hr.mono (by decide)) T.B_Search_sl_area .nil pass0 (pa_cons (pe_ix ix_list (pv 2) (pe_int) (fun _ _ => rfl)) (pa_cons (pe_ix ix_list (pv 2) (pe_int) (fun _ _ => rfl)) (pa_cons (pe_ix ix_list (pv 2) (pe_int) (fun _ _ => rfl)) (pa_cons (pe_ix ix_list (pv 2) (pe_int) (fun _ _ => rfl)) (pa_nil)))))))) (pss_nil)) (pss_cons (ps_if (pt_cmpR op_eq (pv 1) (pe_int) (nomark _)) (pss_one (ps_ret (pe_meth (pv 0) T.cl_Search T.me_Search_sl_drop G_Search_sl_drop (hr.mono (by decide)) T.B_Search_sl_drop .nil pass0 (pa_cons (pe_ix ix_list (pv 2) (pe_int) (fun _ _ => rfl)) (pa_nil))))) (pss_nil)) (pss_cons (ps_if (pt_cmpR op_eq (pv 1) (pe_int) (nomark _)) (pss_one (ps_ret (pe_meth0 (pv 0) T.cl_Search T.me_Search_sl_take G_Search_sl_take (hr.mono (by decide)) T.B_Search_sl_take .nil pass0))) (pss_nil)) (pss_one (ps_ret (pe_meth (pv 0) T.cl_Search T.me_Search_sl_hours G_Search_sl_hours (hr.mono (by decide)) T.B_Search_sl_hours .nil pass0 (pa_cons (pe_ix ix_list (pv 2) (pe_int) (fun _ _ => rfl)) (pa_nil)))))))))
def t_answer_about_hours (K : PySem.W.Frag) (a : Ad) : TS := tSeq (tIfS (tTest (tOp rEq (tVar 1) (tC (.int (6))))) (tRet (tMeth a.c_Search "sl_alone" (sp_Search_sl_alone K a) [] E0 (tVar 0) (tCons (tOp (rIxL K) (tVar 2) (tC (.int (0)))) (tCons (tOp (rIxL K) (tVar 2) (tC (.int (1)))) (tNil))))) (tNext)) (tSeq (tIfS (tTest (tOp rEq (tVar 1) (tC (.int (7))))) (tRet (tMeth a.c_Search "sl_soonest" (sp_Search_sl_soonest K a) [] E0 (tVar 0) (tNil))) (tNext)) (tSeq (tIfS (tTest (tOp rEq (tVar 1) (tC (.int (8))))) (tRet (tMeth a.c_Search "sl_by" (sp_Search_sl_by K a) [] E0 (tVar 0) (tCons (tOp (rIxL K) (tVar 2) (tC (.int (0)))) (tCons (tOp (rIxL K) (tVar 2) (tC (.int (1)))) (tNil))))) (tNext)) (tSeq (tIfS (tTest (tOp rEq (tVar 1) (tC (.int (9))))) (tRet (tMeth a.c_Search "sl_plan" (sp_Search_sl_plan K a) [] E0 (tVar 0) (tNil))) (tNext)) (tRet (tMeth a.c_Search "sl_legs" (sp_Search_sl_legs K a) [] E0 (tVar 0) (tCons (tOp (rIxL K) (tVar 2) (tC (.int (0)))) (tNil)))))))
theorem ps_answer_about_hours (T : Txt K mg a) (G_Search_sl_alone : FnOk P w K mg base CX0 6 a.f_Search_sl_alone a.d_Search_sl_alone p_Search_sl_alone (sp_Search_sl_alone K a)) (G_Search_sl_by : FnOk P w K mg base CX0 4 a.f_Search_sl_by a.d_Search_sl_by p_Search_sl_by (sp_Search_sl_by K a)) (G_Search_sl_legs : FnOk P w K mg base CX0 3 a.f_Search_sl_legs a.d_Search_sl_legs p_Search_sl_legs (sp_Search_sl_legs K a)) (G_Search_sl_plan : FnOk P w K mg base CX0 2 a.f_Search_sl_plan a.d_Search_sl_plan p_Search_sl_plan (sp_Search_sl_plan K a)) (G_Search_sl_soonest : FnOk P w K mg base CX0 7 a.f_Search_sl_soonest a.d_Search_sl_soonest p_Search_sl_soonest (sp_Search_sl_soonest K a)) {cdv : Value} {A : Around} {outer : List Env} {s : Shared} {H : Hp} {E : XK} (hr : Room 7 (A.deeper (envOfC "answer_about_hours" (defScope s_answer_about_hours) s.heap.objs.size a.f_answer_about_hours cdv))) :
    PSs (cxOf CX0 P w K mg base n_answer_about_hours "answer_about_hours" (defScope s_answer_about_hours) a.f_answer_about_hours cdv A outer s H E).nox (defBody s_answer_about_hours) (t_answer_about_hours K a) :=
  pss_cons (ps_if (pt_cmpR op_eq (pv 1) (pe_int) (nomark _)) (pss_one (ps_ret (pe_meth (pv 0) T.cl_Search T.me_Search_sl_alone G_Search_sl_alone (hr.mono (by decide)) T.B_Search_sl_alone .nil pass0 (pa_cons (pe_ix ix_list (pv 2) (pe_int) (fun _ _ => rfl)) (pa_cons (pe_ix ix_list (pv 2) (pe_int) (fun _ _ => rfl)) (pa_nil)))))) (pss_nil)) (pss_cons (ps_if (pt_cmpR op_eq (pv 1) (pe_int) (nomark _)) (pss_one (ps_ret (pe_meth0 (pv 0) T.cl_Search T.me_Search_sl_soonest G_Search_sl_soonest (hr.mono (by decide)) T.B_Search_sl_soonest .nil pass0))) (pss_nil)) (pss_cons (ps_if (pt_cmpR op_eq (pv 1) (pe_int) (nomark _)) (pss_one (ps_ret (pe_meth (pv 0) T.cl_Search T.me_Search_sl_by G_Search_sl_by (hr.mono (by decide)) T.B_Search_sl_by .nil pass0 (pa_cons (pe_ix ix_list (pv 2) (pe_int) (fun _ _ => rfl)) (pa_cons (pe_ix ix_list (pv 2) (pe_int) (fun _ _ => rfl)) (pa_nil)))))) (pss_nil)) (pss_cons (ps_if (pt_cmpR op_eq (pv 1) (pe_int) (nomark _)) (pss_one (ps_ret (pe_meth0 (pv 0) T.cl_Search T.me_Search_sl_plan G_Search_sl_plan (hr.mono (by decide)) T.B_Search_sl_plan .nil pass0))) (pss_nil)) (pss_one (ps_ret (pe_meth (pv 0) T.cl_Search T.me_Search_sl_legs G_Search_sl_legs (hr.mono (by decide)) T.B_Search_sl_legs .nil pass0 (pa_cons (pe_ix ix_list (pv 2) (pe_int) (fun _ _ => rfl)) (pa_nil))))))))
def t_answer_about_legs (K : PySem.W.Frag) (a : Ad) : TS := tSeq (tIfS (tTest (tOp rEq (tVar 1) (tC (.int (11))))) (tRet (tMeth a.c_Search "sl_leg" (sp_Search_sl_leg K a) [] E0 (tVar 0) (tCons (tOp (rIxL K) (tVar 2) (tC (.int (0)))) (tCons (tOp (rIxL K) (tVar 2) (tC (.int (1)))) (tNil))))) (tNext)) (tSeq (tIfS (tTest (tOp rEq (tVar 1) (tC (.int (12))))) (tRet (tMeth a.c_Search "sl_where" (sp_Search_sl_where K a) [] E0 (tVar 0) (tCons (tOp (rIxL K) (tVar 2) (tC (.int (0)))) (tNil)))) (tNext)) (tSeq (tIfS (tTest (tOp rEq (tVar 1) (tC (.int (13))))) (tRet (tMeth a.c_Search "sl_when" (sp_Search_sl_when K a) [] E0 (tVar 0) (tCons (tOp (rIxL K) (tVar 2) (tC (.int (0)))) (tCons (tOp (rIxL K) (tVar 2) (tC (.int (1)))) (tNil))))) (tNext)) (tSeq (tIfS (tTest (tOp rEq (tVar 1) (tC (.int (14))))) (tRet (tMeth a.c_Search "sl_seen" (sp_Search_sl_seen K a) [] E0 (tVar 0) (tCons (tOp (rIxL K) (tVar 2) (tC (.int (0)))) (tCons (tOp (rIxL K) (tVar 2) (tC (.int (1)))) (tNil))))) (tNext)) (tRet (tMeth a.c_Search "sl_most" (sp_Search_sl_most K a) [] E0 (tVar 0) (tCons (tOp (rIxL K) (tVar 2) (tC (.int (0)))) (tCons (tOp (rIxL K) (tVar 2) (tC (.int (1)))) (tCons (tOp (rIxL K) (tVar 2) (tC (.int (2)))) (tNil)))))))))
theorem ps_answer_about_legs (T : Txt K mg a) (G_Search_sl_leg : FnOk P w K mg base CX0 5 a.f_Search_sl_leg a.d_Search_sl_leg p_Search_sl_leg (sp_Search_sl_leg K a)) (G_Search_sl_most : FnOk P w K mg base CX0 3 a.f_Search_sl_most a.d_Search_sl_most p_Search_sl_most (sp_Search_sl_most K a)) (G_Search_sl_seen : FnOk P w K mg base CX0 6 a.f_Search_sl_seen a.d_Search_sl_seen p_Search_sl_seen (sp_Search_sl_seen K a)) (G_Search_sl_when : FnOk P w K mg base CX0 6 a.f_Search_sl_when a.d_Search_sl_when p_Search_sl_when (sp_Search_sl_when K a)) (G_Search_sl_where : FnOk P w K mg base CX0 6 a.f_Search_sl_where a.d_Search_sl_where p_Search_sl_where (sp_Search_sl_where K a)) {cdv : Value} {A : Around} {outer : List Env} {s : Shared} {H : Hp} {E : XK} (hr : Room 6 (A.deeper (envOfC "answer_about_legs" (defScope s_answer_about_legs) s.heap.objs.size a.f_answer_about_legs cdv))) :
    PSs (cxOf CX0 P w K mg base n_answer_about_legs "answer_about_legs" (defScope s_answer_about_legs) a.f_answer_about_legs cdv A outer s H E).nox (defBody s_answer_about_legs) (t_answer_about_legs K a) :=
  pss_cons (ps_if (pt_cmpR op_eq (pv 1) (pe_int) (nomark _)) (pss_one (ps_ret (pe_meth (pv 0) T.cl_Search T.me_Search_sl_leg G_Search_sl_leg (hr.mono (by decide)) T.B_Search_sl_leg .nil pass0 (pa_cons (pe_ix ix_list (pv 2) (pe_int) (fun _ _ => rfl)) (pa_cons (pe_ix ix_list (pv 2) (pe_int) (fun _ _ => rfl)) (pa_nil)))))) (pss_nil)) (pss_cons (ps_if (pt_cmpR op_eq (pv 1) (pe_int) (nomark _)) (pss_one (ps_ret (pe_meth (pv 0) T.cl_Search T.me_Search_sl_where G_Search_sl_where (hr.mono (by decide)) T.B_Search_sl_where .nil pass0 (pa_cons (pe_ix ix_list (pv 2) (pe_int) (fun _ _ => rfl)) (pa_nil))))) (pss_nil)) (pss_cons (ps_if (pt_cmpR op_eq (pv 1) (pe_int) (nomark _)) (pss_one (ps_ret (pe_meth (pv 0) T.cl_Search T.me_Search_sl_when G_Search_sl_when (hr.mono (by decide)) T.B_Search_sl_when .nil pass0 (pa_cons (pe_ix ix_list (pv 2) (pe_int) (fun _ _ => rfl)) (pa_cons (pe_ix ix_list (pv 2) (pe_int) (fun _ _ => rfl)) (pa_nil)))))) (pss_nil)) (pss_cons (ps_if (pt_cmpR op_eq (pv 1) (pe_int) (nomark _)) (pss_one (ps_ret (pe_meth (pv 0) T.cl_Search T.me_Search_sl_seen G_Search_sl_seen (hr.mono (by decide)) T.B_Search_sl_seen .nil pass0 (pa_cons (pe_ix ix_list (pv 2) (pe_int) (fun _ _ => rfl)) (pa_cons (pe_ix ix_list (pv 2) (pe_int) (fun _ _ => rfl)) (pa_nil)))))) (pss_nil)) (pss_one (ps_ret (pe_meth (pv 0) T.cl_Search T.me_Search_sl_most G_Search_sl_most (hr.mono (by decide)) T.B_Search_sl_most .nil pass0 (pa_cons (pe_ix ix_list (pv 2) (pe_int) (fun _ _ => rfl)) (pa_cons (pe_ix ix_list (pv 2) (pe_int) (fun _ _ => rfl)) (pa_cons (pe_ix ix_list (pv 2) (pe_int) (fun _ _ => rfl)) (pa_nil))))))))))
def t_answer_about_sizes (K : PySem.W.Frag) (a : Ad) : TS := tSeq (tIfS (tTest (tOp rEq (tVar 1) (tC (.int (16))))) (tRet (tMeth a.c_Search "sl_look" (sp_Search_sl_look K a) [] E0 (tVar 0) (tCons (tOp (rIxL K) (tVar 2) (tC (.int (0)))) (tNil)))) (tNext)) (tSeq (tIfS (tTest (tOp rEq (tVar 1) (tC (.int (17))))) (tRet (tMeth a.c_Search "sl_size" (sp_Search_sl_size K a) [] E0 (tVar 0) (tNil))) (tNext)) (tRet (tMeth a.c_Search "sl_ends" (sp_Search_sl_ends K a) [] E0 (tVar 0) (tNil))))
theorem ps_answer_about_sizes (T : Txt K mg a) (G_Search_sl_ends : FnOk P w K mg base CX0 4 a.f_Search_sl_ends a.d_Search_sl_ends p_Search_sl_ends (sp_Search_sl_ends K a)) (G_Search_sl_look : FnOk P w K mg base CX0 1 a.f_Search_sl_look a.d_Search_sl_look p_Search_sl_look (sp_Search_sl_look K a)) (G_Search_sl_size : FnOk P w K mg base CX0 1 a.f_Search_sl_size a.d_Search_sl_size p_Search_sl_size (sp_Search_sl_size K a)) {cdv : Value} {A : Around} {outer : List Env} {s : Shared} {H : Hp} {E : XK} (hr : Room 4 (A.deeper (envOfC "answer_about_sizes" (defScope s_answer_about_sizes) s.heap.objs.size a.f_answer_about_sizes cdv))) :
    PSs (cxOf CX0 P w K mg base n_answer_about_sizes "answer_about_sizes" (defScope s_answer_about_sizes) a.f_answer_about_sizes cdv A outer s H E).nox (defBody s_answer_about_sizes) (t_answer_about_sizes K a) :=
  pss_cons (ps_if (pt_cmpR op_eq (pv 1) (pe_int) (nomark _)) (pss_one (ps_ret (pe_meth (pv 0) T.cl_Search T.me_Search_sl_look G_Search_sl_look (hr.mono (by decide)) T.B_Search_sl_look .nil pass0 (pa_cons (pe_ix ix_list (pv 2) (pe_int) (fun _ _ => rfl)) (pa_nil))))) (pss_nil)) (pss_cons (ps_if (pt_cmpR op_eq (pv 1) (pe_int) (nomark _)) (pss_one (ps_ret (pe_meth0 (pv 0) T.cl_Search T.me_Search_sl_size G_Search_sl_size (hr.mono (by decide)) T.B_Search_sl_size .nil pass0))) (pss_nil)) (pss_one (ps_ret (pe_meth0 (pv 0) T.cl_Search T.me_Search_sl_ends G_Search_sl_ends (hr.mono (by decide)) T.B_Search_sl_ends .nil pass0))))
def t_answer_about_changes (K : PySem.W.Frag) (a : Ad) : TS := tSeq (tIfS (tTest (tOp rEq (tVar 1) (tC (.int (19))))) (tRet (tMeth a.c_Search "sl_back" (sp_Search_sl_back K a) [] E0 (tVar 0) (tNil))) (tNext)) (tSeq (tIfS (tTest (tOp rEq (tVar 1) (tC (.int (20))))) (tRet (tMeth a.c_Search "sl_again" (sp_Search_sl_again K a) [] E0 (tVar 0) (tNil))) (tNext)) (tRet (tMeth a.c_Search "sl_state" (sp_Search_sl_state K a) [] E0 (tVar 0) (tNil))))
theorem ps_answer_about_changes (T : Txt K mg a) (G_Search_sl_again : FnOk P w K mg base CX0 2 a.f_Search_sl_again a.d_Search_sl_again p_Search_sl_again (sp_Search_sl_again K a)) (G_Search_sl_back : FnOk P w K mg base CX0 2 a.f_Search_sl_back a.d_Search_sl_back p_Search_sl_back (sp_Search_sl_back K a)) (G_Search_sl_state : FnOk P w K mg base CX0 1 a.f_Search_sl_state a.d_Search_sl_state p_Search_sl_state (sp_Search_sl_state K a)) {cdv : Value} {A : Around} {outer : List Env} {s : Shared} {H : Hp} {E : XK} (hr : Room 2 (A.deeper (envOfC "answer_about_changes" (defScope s_answer_about_changes) s.heap.objs.size a.f_answer_about_changes cdv))) :
    PSs (cxOf CX0 P w K mg base n_answer_about_changes "answer_about_changes" (defScope s_answer_about_changes) a.f_answer_about_changes cdv A outer s H E).nox (defBody s_answer_about_changes) (t_answer_about_changes K a) :=
  pss_cons (ps_if (pt_cmpR op_eq (pv 1) (pe_int) (nomark _)) (pss_one (ps_ret (pe_meth0 (pv 0) T.cl_Search T.me_Search_sl_back G_Search_sl_back (hr.mono (by decide)) T.B_Search_sl_back .nil pass0))) (pss_nil)) (pss_cons (ps_if (pt_cmpR op_eq (pv 1) (pe_int) (nomark _)) (pss_one (ps_ret (pe_meth0 (pv 0) T.cl_Search T.me_Search_sl_again G_Search_sl_again (hr.mono (by decide)) T.B_Search_sl_again .nil pass0))) (pss_nil)) (pss_one (ps_ret (pe_meth0 (pv 0) T.cl_Search T.me_Search_sl_state G_Search_sl_state (hr.mono (by decide)) T.B_Search_sl_state .nil pass0))))
def t_answer_call (K : PySem.W.Frag) (a : Ad) : TS := tSeq (tIfS (tTest (tOp (rI0 fun i j => .bl (decide (i ≤ j))) (tVar 1) (tC (.int (5))))) (tRet (tCall (sp_answer_change K a) [] E0 (tCons (tVar 0) (tCons (tVar 1) (tCons (tVar 2) (tNil)))))) (tNext)) (tSeq (tIfS (tTest (tOp (rI0 fun i j => .bl (decide (i ≤ j))) (tVar 1) (tC (.int (10))))) (tRet (tCall (sp_answer_about_hours K a) [] E0 (tCons (tVar 0) (tCons (tVar 1) (tCons (tVar 2) (tNil)))))) (tNext)) (tSeq (tIfS (tTest (tOp (rI0 fun i j => .bl (decide (i ≤ j))) (tVar 1) (tC (.int (15))))) (tRet (tCall (sp_answer_about_legs K a) [] E0 (tCons (tVar 0) (tCons (tVar 1) (tCons (tVar 2) (tNil)))))) (tNext)) (tSeq (tIfS (tTest (tOp (rI0 fun i j => .bl (decide (i ≤ j))) (tVar 1) (tC (.int (18))))) (tRet (tCall (sp_answer_about_sizes K a) [] E0 (tCons (tVar 0) (tCons (tVar 1) (tCons (tVar 2) (tNil)))))) (tNext)) (tRet (tCall (sp_answer_about_changes K a) [] E0 (tCons (tVar 0) (tCons (tVar 1) (tNil))))))))
theorem ps_answer_call (T : Txt K mg a) (G_answer_about_changes : FnOk P w K mg base CX0 3 a.f_answer_about_changes a.d_answer_about_changes p_answer_about_changes (sp_answer_about_changes K a)) (G_answer_about_hours : FnOk P w K mg base CX0 8 a.f_answer_about_hours a.d_answer_about_hours p_answer_about_hours (sp_answer_about_hours K a)) (G_answer_about_legs : FnOk P w K mg base CX0 7 a.f_answer_about_legs a.d_answer_about_legs p_answer_about_legs (sp_answer_about_legs K a)) (G_answer_about_sizes : FnOk P w K mg base CX0 5 a.f_answer_about_sizes a.d_answer_about_sizes p_answer_about_sizes (sp_answer_about_sizes K a)) (G_answer_change : FnOk P w K mg base CX0 8 a.f_answer_change a.d_answer_change p_answer_change (sp_answer_change K a)) {cdv : Value} {A : Around} {outer : List Env} {s : Shared} {H : Hp} {E : XK} (hr : Room 8 (A.deeper (envOfC "answer_call" (defScope s_answer_call) s.heap.objs.size a.f_answer_call cdv))) :
    PSs (cxOf CX0 P w K mg base n_answer_call "answer_call" (defScope s_answer_call) a.f_answer_call cdv A outer s H E).nox (defBody s_answer_call) (t_answer_call K a) :=
  pss_cons (ps_if (pt_cmpR op_le (pv 1) (pe_int) (nomark _)) (pss_one (ps_ret (pe_call G_answer_change (hr.mono (by decide)) rfl T.g_answer_change T.F_answer_change.kp T.B_answer_change .nil pass0 (pa_cons (pv 0) (pa_cons (pv 1) (pa_cons (pv 2) (pa_nil))))))) (pss_nil)) (pss_cons (ps_if (pt_cmpR op_le (pv 1) (pe_int) (nomark _)) (pss_one (ps_ret (pe_call G_answer_about_hours (hr.mono (by decide)) rfl T.g_answer_about_hours T.F_answer_about_hours.kp T.B_answer_about_hours .nil pass0 (pa_cons (pv 0) (pa_cons (pv 1) (pa_cons (pv 2) (pa_nil))))))) (pss_nil)) (pss_cons (ps_if (pt_cmpR op_le (pv 1) (pe_int) (nomark _)) (pss_one (ps_ret (pe_call G_answer_about_legs (hr.mono (by decide)) rfl T.g_answer_about_legs T.F_answer_about_legs.kp T.B_answer_about_legs .nil pass0 (pa_cons (pv 0) (pa_cons (pv 1) (pa_cons (pv 2) (pa_nil))))))) (pss_nil)) (pss_cons (ps_if (pt_cmpR op_le (pv 1) (pe_int) (nomark _)) (pss_one (ps_ret (pe_call G_answer_about_sizes (hr.mono (by decide)) rfl T.g_answer_about_sizes T.F_answer_about_sizes.kp T.B_answer_about_sizes .nil pass0 (pa_cons (pv 0) (pa_cons (pv 1) (pa_cons (pv 2) (pa_nil))))))) (pss_nil)) (pss_one (ps_ret (pe_call G_answer_about_changes (hr.mono (by decide)) rfl T.g_answer_about_changes T.F_answer_about_changes.kp T.B_answer_about_changes .nil pass0 (pa_cons (pv 0) (pa_cons (pv 1) (pa_nil)))))))))
def t_answers (K : PySem.W.Frag) (a : Ad) : TS := tSeq (tAsg (tMake a.c_Search (sp_Search_init K a) [] E0 (tNil)) (gName 1)) (tSeq (tAsg (tLst (tNil)) (gName 2)) (tSeq (tAsg (tC (.int (0))) (gName 3)) (tSeq (tWhile (tTest (tOp (rI0 fun i j => .bl (decide (i < j))) (tVar 3) (tCB (fun xs H Q => ∃ p ys, xs = [.ref p] ∧ (SqL K H p ys ∨ SqT K H p ys) ∧ Q (.int ys.length) H) (tCons (tVar 0) (tNil))))) (tSeq (tAsg (tOp (rIxL K) (tVar 0) (tVar 3)) (gName 4)) (tSeq (tAsg (tOp (rI0 fun i j => .int (i + j)) (tOp (rI0 fun i j => .int (i + j)) (tVar 3) (tC (.int (1)))) (tOp (rIxT K) (tC (.ref a.t_SIZES)) (tVar 4))) (gName 5)) (tSeq (tAsg (tCall (sp_answer_call K a) [] E0 (tCons (tVar 1) (tCons (tVar 4) (tCons (tSl (rSlL K) (tVar 0) (tPart (tOp (rI0 fun i j => .int (i + j)) (tVar 3) (tC (.int (1))))) (tPart (tVar 5))) (tNil))))) (gName 6)) (tSeq (tDrop (tBM K "list" rAppend (tVar 2) (tCons (tCB (fun xs H Q => ∃ p ys, xs = [.ref p] ∧ (SqL K H p ys ∨ SqT K H p ys) ∧ Q (.int ys.length) H) (tCons (tVar 6) (tNil))) (tNil)))) (tSeq (tDrop (tBM K "list" rExtend (tVar 2) (tCons (tVar 6) (tNil)))) (tAsg (tVar 5) (gName 3)))))))) (tRet (tVar 2)))))
theorem ps_answers (T : Txt K mg a) (G_Search_init : FnOk P w K mg base CX0 3 a.f_Search_init a.d_Search_init p_Search_init (sp_Search_init K a)) (G_answer_call : FnOk P w K mg base CX0 9 a.f_answer_call a.d_answer_call p_answer_call (sp_answer_call K a)) {cdv : Value} {A : Around} {outer : List Env} {s : Shared} {H : Hp} {E : XK} (hr : Room 9 (A.deeper (envOfC "answers" (defScope s_answers) s.heap.objs.size a.f_answers cdv))) :
    PSs (cxOf CX0 P w K mg base n_answers "answers" (defScope s_answers) a.f_answers cdv A outer s H E).nox (defBody s_answers) (t_answers K a) :=
  pss_cons (ps_set (i := 1) sc_answers.nd rfl (Or.inl rfl) (pe_make0 T.mk_Search G_Search_init (hr.mono (by decide)) rfl T.g_Search T.B_Search_init .nil pass0)) (pss_cons (ps_set (i := 2) sc_answers.nd rfl (Or.inl rfl) (pe_lst (pa_nil))) (pss_cons (ps_set (i := 3) sc_answers.nd rfl (Or.inl rfl) (pe_int)) (pss_cons (ps_while PassesOwn.never (pt_cmpR op_lt (pv 3) (pe_callB call_len_seq (by rfl) T.b_len PySem.boot_len (pa_cons (pv 0) (pa_nil))) (nomark _)) (pss_cons (ps_set (i := 4) sc_answers.nd rfl (Or.inl rfl) (pe_ix ix_list (pv 0) (pv 3) (fun _ _ => rfl))) (pss_cons (ps_set (i := 5) sc_answers.nd rfl (Or.inl rfl) (pe_op op_add (pe_op op_add (pv 3) (pe_int)) (pe_ix ix_tup (pe_glob (by rfl) T.g_SIZES rfl) (pv 4) (fun _ _ => rfl)))) (pss_cons (ps_set (i := 6) sc_answers.nd rfl (Or.inl rfl) (pe_call G_answer_call (hr.mono (by decide)) rfl T.g_answer_call T.F_answer_call.kp T.B_answer_call .nil pass0 (pa_cons (pv 1) (pa_cons (pv 4) (pa_cons (pe_slice sl_list (pv 0) (po_some (pe_op op_add (pv 3) (pe_int))) (po_some (pv 5))) (pa_nil)))))) (pss_cons (ps_expr (pe_bm PySem.F.plainAttrs_list PySem.F.slot_list_append PySem.F.type_list_append mt_append (pv 2) (pa_cons (pe_callB call_len_seq (by rfl) T.b_len PySem.boot_len (pa_cons (pv 6) (pa_nil))) (pa_nil)))) (pss_cons (ps_expr (pe_bm PySem.F.plainAttrs_list PySem.F.slot_list_extend PySem.F.type_list_extend mt_extend (pv 2) (pa_cons (pv 6) (pa_nil)))) (pss_one (ps_set (i := 3) sc_answers.nd rfl (Or.inl rfl) (pv 5))))))))) (pss_one (ps_ret (pv 2))))))
end
end SL

end
section
set_option Elab.async false
set_option linter.all false
set_option maxRecDepth 100000
set_option maxHeartbeats 1000000
namespace SL
open PySem PySem.Spec PyProof.Rows L2
theorem toQ {Q : VK} {H : Hp} {x y : Int} (q : Q (.int y) H) (e : x = y) : Q (.int x) H := e ▸ q
theorem toB {Q : VK} {H : Hp} {x y : Bool} (q : Q (.bl y) H) (e : x = y) : Q (.bl x) H := e ▸ q
theorem same_upd {H H' : Hp} {D : Addr} {o : HO} (h : Same H H') (n : H D = none) : Same H (upd H' D o) := fun b o' e => by
  rw [upd_ne (ne_of_none e n)]; exact h b o' e
theorem same_new {H : Hp} {D : Addr} {o : HO} (n : H D = none) : Same H (upd H D o) := same_upd (Same.refl H) n
theorem AreaAt.same {a : Ad} {H H' : Hp} {p : Addr} {r : Km445.Area} (h : AreaAt a H p r) (s : Same H H') : AreaAt a H' p r := by
  obtain ⟨dx, h⟩ := h; exact ⟨dx, s _ _ h⟩
theorem CraftAt.same {a : Ad} {H H' : Hp} {p : Addr} {c : Km445.Craft} (h : CraftAt a H p c) (s : Same H H') : CraftAt a H' p c := by
  obtain ⟨dx, h⟩ := h; exact ⟨dx, s _ _ h⟩
theorem PlanAt.same {a : Ad} {H H' : Hp} {p : Addr} {c : Km445.Plan} (h : PlanAt a H p c) (s : Same H H') : PlanAt a H' p c := by
  obtain ⟨dx, l, h, h2⟩ := h; exact ⟨dx, l, s _ _ h, s _ _ h2⟩
theorem CrL.same {a : Ad} {H H' : Hp} (s : Same H H') : ∀ {ps : List Addr} {cs : List Km445.Craft}, CrL a H ps cs → CrL a H' ps cs
  | [], [], h => trivial
  | p :: ps, c :: cs, h => ⟨h.1.same s, CrL.same s h.2⟩
  | [], _ :: _, h => h.elim
  | _ :: _, [], h => h.elim
theorem CraftsAt.same {a : Ad} {H H' : Hp} {l : Addr} {cs : List Km445.Craft} (h : CraftsAt a H l cs) (s : Same H H') : CraftsAt a H' l cs := by
  obtain ⟨ps, h1, h2⟩ := h; exact ⟨ps, s _ _ h1, h2.same s⟩
theorem CrL.len {a : Ad} {H : Hp} : ∀ {ps : List Addr} {cs : List Km445.Craft}, CrL a H ps cs → ps.length = cs.length
  | [], [], h => rfl
  | p :: ps, c :: cs, h => by simp [CrL.len h.2]
  | [], _ :: _, h => h.elim
  | _ :: _, [], h => h.elim
theorem CrL.get {a : Ad} {H : Hp} : ∀ {ps : List Addr} {cs : List Km445.Craft} {i : Nat} {p : Addr}, CrL a H ps cs → ps[i]? = some p → ∃ c, cs[i]? = some c ∧ CraftAt a H p c
  | [], [], i, p, h, e => by simp at e
  | p :: ps, c :: cs, 0, q, h, e => by simp at e; subst e; exact ⟨c, rfl, h.1⟩
  | p :: ps, c :: cs, i + 1, q, h, e => by simpa using CrL.get (i := i) h.2 (by simpa using e)
  | [], _ :: _, _, _, h, _ => h.elim
  | _ :: _, [], _, _, h, _ => h.elim
theorem CrL.get' {a : Ad} {H : Hp} {ps : List Addr} {cs : List Km445.Craft} {i : Nat} {c : Km445.Craft} (h : CrL a H ps cs) (e : cs[i]? = some c) : ∃ p, ps[i]? = some p ∧ CraftAt a H p c := by
  obtain ⟨hi, _⟩ := List.getElem?_eq_some_iff.mp e
  have hi' : i < ps.length := by rw [h.len]; exact hi
  obtain ⟨c', e', k⟩ := h.get (i := i) (List.getElem?_eq_getElem hi')
  rw [e] at e'; cases e'
  exact ⟨_, List.getElem?_eq_getElem hi', k⟩
theorem CrL.append {a : Ad} {H : Hp} : ∀ {ps : List Addr} {cs : List Km445.Craft} {ps' : List Addr} {cs' : List Km445.Craft}, CrL a H ps cs → CrL a H ps' cs' → CrL a H (ps ++ ps') (cs ++ cs')
  | [], [], _, _, _, h => h
  | p :: ps, c :: cs, _, _, h, h' => ⟨h.1, CrL.append h.2 h'⟩
  | [], _ :: _, _, _, h, _ => h.elim
  | _ :: _, [], _, _, h, _ => h.elim
theorem CrL.erase {a : Ad} {H : Hp} : ∀ {ps : List Addr} {cs : List Km445.Craft} (k : Nat), CrL a H ps cs → CrL a H (ps.eraseIdx k) (cs.eraseIdx k)
  | [], [], _, h => trivial
  | p :: ps, c :: cs, 0, h => h.2
  | p :: ps, c :: cs, k + 1, h => ⟨h.1, CrL.erase k h.2⟩
  | [], _ :: _, _, h => h.elim
  | _ :: _, [], _, h => h.elim
/-- an item of a list of references -/
theorem ref_at {ps : List Addr} {i : Nat} {x : V} (h : (ps.map V.ref)[i]? = some x) : ∃ p, ps[i]? = some p ∧ x = .ref p := by
  rw [List.getElem?_map] at h
  cases e : ps[i]? with
  | none => rw [e] at h; cases h
  | some p => rw [e] at h; exact ⟨p, rfl, (Option.some.inj h).symm⟩
theorem wayI_eq (b : Bool) : decide (V.int (wayI b) = V.int 0) = b := by cases b <;> decide
theorem small4 {n : Nat} (h : n ≤ 1000) : n < sizeLine := small1000 h
theorem nv_map (l : List Nat) : (l.map nV) = (l.map fun (n : Nat) => (n : Int)).map V.int := by rw [List.map_map]; rfl
end SL

end
section
set_option Elab.async false
set_option linter.all false
set_option maxRecDepth 100000
set_option maxHeartbeats 1000000
namespace SL
open PySem PySem.Spec PyProof.Rows L2
section
variable {a : Ad} {H_0 H H1 H' : Hp} {se : Addr} {S : Option Km445.Desk} {Q : VK} {l : List Int} {va vc vp vh : V} {sea : Km445.Sea} {M : List Addr}
theorem upd_none {b x : Addr} {o : HO} (h : L2.upd H b o x = none) : x ≠ b ∧ H x = none := by
  by_cases e : x = b
  · rw [e, upd_same] at h; cases h
  · exact ⟨e, by rwa [upd_ne e] at h⟩
theorem rem_some {b : Addr} {o : HO} : rem H M b = some o ↔ b ∉ M ∧ H b = some o := by
  unfold rem
  by_cases e : b ∈ M
  · simp [e]
  · simp [e]
theorem rem_sub (s : Same H_0 H) : Same (rem H_0 M) H := fun b o e => s b o (rem_some.mp e).2
theorem rem_mono (s : Same H_0 H) : Same (rem H_0 M) (rem H M) := fun b o e => rem_some.mpr ⟨(rem_some.mp e).1, s b o (rem_some.mp e).2⟩
theorem res_some {b : Addr} {o : HO} (h : Res H_0 H H' b = some o) : H' b = some o := by
  unfold Res at h
  split at h
  · exact h
  · cases h
theorem res_sub : Same (Res H_0 H H') H' := fun b o h => res_some h
theorem res_old {b : Addr} {o : HO} (h : H_0 b = some o) : Res H_0 H H' b = H' b := by unfold Res; simp [h]
theorem res_new {b : Addr} (h : H b = none) : Res H_0 H H' b = H' b := by unfold Res; simp [h]
theorem res_off {b : Addr} {o : HO} (h0 : H_0 b = none) (h : H b = some o) : Res H_0 H H' b = none := by unfold Res; simp [h0, h]
theorem res_up (s : Same H1 H') : Same (Res H_0 H H1) (Res H_0 H H') := fun b o h => by
  unfold Res at h ⊢
  split at h
  · rename_i e; rw [if_pos e]; exact s b o h
  · cases h
/-! ### what changes -/
theorem Chg.refl : Chg M H H := ⟨fun _ _ h _ => h, fun _ h => h⟩
theorem Chg.set {b : Addr} {o : HO} (c : Chg M H H1) (hb : b ∈ M) : Chg M H (L2.upd H1 b o) := ⟨fun x u h n => by
  rw [upd_ne (fun z => n (by rw [z]; exact hb))]; exact c.1 x u h n, fun x h => c.2 x (upd_none h).2⟩
theorem Chg.new {b : Addr} {o : HO} (c : Chg M H H1) (nb : H1 b = none) : Chg M H (L2.upd H1 b o) := ⟨fun x u h n => by
  have e := c.1 x u h n
  rw [upd_ne (ne_of_none e nb)]; exact e, fun x h => c.2 x (upd_none h).2⟩
theorem Chg.same (c : Chg M H H1) (s : Same H1 H') : Chg M H H' := ⟨fun x u h n => s x u (c.1 x u h n), fun x h => c.2 x (s.free h)⟩
theorem Same.chg (s : Same H H') : Chg M H H' := Chg.refl.same s
theorem Chg.trans {M' : List Addr} (c : Chg M H H1) (d : Chg M' H1 H') (hs : ∀ x ∈ M', x ∈ M ∨ H x = none) : Chg M H H' :=
  ⟨fun x u h n => d.1 x u (c.1 x u h n) fun z => (hs x z).elim n fun q => (by rw [q] at h; cases h), fun x h => c.2 x (d.2 x h)⟩
theorem Chg.mono {M' : List Addr} (c : Chg M H H1) (hs : ∀ x ∈ M, x ∈ M') : Chg M' H H1 := ⟨fun x u h n => c.1 x u h fun z => n (hs x z), c.2⟩
theorem Chg.at {b : Addr} {o : HO} (c : Chg M H H1) (h : H b = some o) (n : b ∉ M := by simp_all) : H1 b = some o := c.1 b o h n
/-! ### the search -/
theorem planV.same {pl : Option Km445.Plan} (h : planV a H vp pl) (s : Same H H') : planV a H' vp pl := by
  cases pl with
  | none => exact h
  | some p => obtain ⟨q, e, h⟩ := h; exact ⟨q, e, h.same s⟩
theorem SeaAt.same (h : SeaAt a H va vc vp vh sea) (s : Same H H') : SeaAt a H' va vc vp vh sea := by
  obtain ⟨⟨p, e1, h1⟩, ⟨l, e2, h2⟩, h3, h4⟩ := h
  exact ⟨⟨p, e1, h1.same s⟩, ⟨l, e2, h2.same s⟩, h3.same s, h4⟩
theorem TupAt.same {v : V} (h : TupAt a H v sea) (s : Same H H') : TupAt a H' v sea := by
  obtain ⟨t, va, vc, vp, vh, e, h1, h2⟩ := h
  exact ⟨t, va, vc, vp, vh, e, s _ _ h1, h2.same s⟩
theorem TupsAt.same (s : Same H H') : ∀ {vs : List V} {ss : List Km445.Sea}, TupsAt a H vs ss → TupsAt a H' vs ss
  | [], [], h => trivial
  | v :: vs, x :: ss, h => ⟨h.1.same s, TupsAt.same s h.2⟩
  | [], _ :: _, h => h.elim
  | _ :: _, [], h => h.elim
theorem TupsAt.len : ∀ {vs : List V} {ss : List Km445.Sea}, TupsAt a H vs ss → vs.length = ss.length
  | [], [], h => rfl
  | v :: vs, x :: ss, h => by simp [TupsAt.len h.2]
  | [], _ :: _, h => h.elim
  | _ :: _, [], h => h.elim
theorem TupsAt.take : ∀ {vs : List V} {ss : List Km445.Sea} (n : Nat), TupsAt a H vs ss → TupsAt a H (vs.take n) (ss.take n)
  | _, _, 0, h => trivial
  | [], [], n + 1, h => trivial
  | v :: vs, x :: ss, n + 1, h => ⟨h.1, TupsAt.take n h.2⟩
  | [], _ :: _, _ + 1, h => h.elim
  | _ :: _, [], _ + 1, h => h.elim
theorem SMut.same {dx ch dc lb la : Addr} {bs fs : List V} (h : SMut a H se dx ch dc lb la va vc vp vh bs fs) (s : Same H H') : SMut a H' se dx ch dc lb la va vc vp vh bs fs :=
  ⟨s _ _ h.fse, s _ _ h.fch, s _ _ h.flb, s _ _ h.fla, h.fne⟩
theorem SMut.ne1 {dx ch dc lb la : Addr} {bs fs : List V} (h : SMut a H se dx ch dc lb la va vc vp vh bs fs) : se ≠ ch :=
  ne_of h.fse h.fch (by intro z; injection z with _ _ z; exact absurd (congrArg List.length z) (by show ¬ 5 = 2; decide))
theorem SeAt.same (h : SeAt a H se S) (s : Same H H') : SeAt a H' se S := by
  cases S with
  | none => obtain ⟨dx, va, vc, vp, vh, ch, h⟩ := h; exact ⟨dx, va, vc, vp, vh, ch, s _ _ h⟩
  | some d => 
    obtain ⟨hd, dx, ch, dc, lb, la, va, vc, vp, vh, bs, fs, h1, h2, h3, h4⟩ := h
    exact ⟨hd, dx, ch, dc, lb, la, va, vc, vp, vh, bs, fs, h1.same s, h2.same (rem_mono s), h3.same (rem_mono s), h4.same (rem_mono s)⟩
theorem SeAt.fields (h : SeAt a H se S) : ∃ dx va vc vp vh ch, H se = some (.ins a.c_Search dx (fSe va vc vp vh ch)) := by
  cases S with
  | none => exact h
  | some d => obtain ⟨_, dx, ch, _, _, _, va, vc, vp, vh, _, _, h, _⟩ := h; exact ⟨dx, va, vc, vp, vh, ch, h.fse⟩
theorem SeAt.now {d : Km445.Desk} (h : SeAt a H se (some d)) : DeskOk d ∧ ∃ dx va vc vp vh ch M, H se = some (.ins a.c_Search dx (fSe va vc vp vh ch)) ∧ SeaAt a (rem H M) va vc vp vh d.now := by
  obtain ⟨hd, dx, ch, dc, lb, la, va, vc, vp, vh, bs, fs, h1, h2, h3, h4⟩ := h
  exact ⟨hd, dx, va, vc, vp, vh, ch, _, h1.fse, h2⟩
/-- the end of a call that leaves the search as it was -/
theorem qEnd {xs : List V} (hS : SeAt a H_0 se S) (s : Same H_0 H) (s1 : Same H H1) (k : Ends1 a H_0 H se Q S l) (e : xs = l.map V.int) (hl : l.length ≤ 1000 := by first | decide | (simp [Km445Neutral.told, Km445.only])) : xs.length ≤ sizeLine ∧ ∀ p, H1 p = none → Q (.ref p) (L2.upd H1 p (.lst xs)) := by
  subst e
  refine ⟨by rw [List.length_map]; exact Nat.le_of_lt (small1000 hl), fun p hp => ?_⟩
  have s2 : Same H (L2.upd H1 p (.lst (l.map V.int))) := same_upd s1 (s1.free hp)
  refine k _ p (hS.same fun b o h => ?_) (fun b o h _ => s2 b o h) (s1.free hp) upd_same
  rw [res_old h]
  exact s2 b o (s b o h)
/-- the end of a call that changes it -/
theorem cEnd {xs : List V} (hS : SeAt a (Res H_0 H H1) se S ∧ Keep H_0 H H1 ∧ ∀ b, H1 b = none → H b = none) (k : Ends1 a H_0 H se Q S l) (e : xs = l.map V.int) (hl : l.length ≤ 1000 := by first | decide | (simp [Km445Neutral.told, Km445.only])) : xs.length ≤ sizeLine ∧ ∀ p, H1 p = none → Q (.ref p) (L2.upd H1 p (.lst xs)) := by
  subst e
  obtain ⟨hS, kp, gr⟩ := hS
  refine ⟨by rw [List.length_map]; exact Nat.le_of_lt (small1000 hl), fun p hp => ?_⟩
  exact k _ p (hS.same (res_up (same_new hp))) (fun b o h n => by
    have q := kp b o h n
    rw [upd_ne (ne_of_none q hp)]; exact q) (gr p hp) upd_same
theorem se_ne {o : HO} {b : Addr} (h : H se = some o) (n : H b = none) : b ≠ se := (ne_of_none h n).symm
theorem own_old (s : Same H_0 H) (s1 : Same H H1) : Same (rem H_0 M) (Own H_0 M H H1) := fun b o h => by
  unfold Own
  rw [h]; simp
  exact s1 b o (rem_sub s b o h)
theorem own_new {b : Addr} {o : HO} (n : H b = none) (h : H1 b = some o) : Own H_0 M H H1 b = some o := by
  unfold Own
  rw [n]; simp; exact h
/-- of what was the search's own all stands but what changes -/
theorem imm {M' : List Addr} (s : Same H_0 H) (cg : Chg M H H') (hs : ∀ x ∈ M', x ∈ M ∨ H x = none) : Same (rem H_0 M) (rem (Res H_0 H H') M') := fun b o h => by
  obtain ⟨n, h⟩ := rem_some.mp h
  refine rem_some.mpr ⟨fun z => ?_, (res_old h).trans (cg.1 b o (s b o h) n)⟩
  rcases hs b z with q | q
  · exact n q
  · rw [s b o h] at q; cases q
/-- a change is made -/
theorem become_end {d : Km445.Desk} {s' : Km445.Sea} {dx ch dc lb la lb' la' t : Addr} {va' vc' vp' vh' : V} {bs fs : List V} (hd : DeskOk (d.become s')) (hM : SMut a H_0 se dx ch dc lb la va vc vp vh bs fs) (hA : SeaAt a (rem H_0 [se, ch, lb, la]) va vc vp vh d.now) (hB : TupsAt a (rem H_0 [se, ch, lb, la]) bs d.past)
    (s : Same H_0 H) (s1 : Same H H1) (hN : SeaAt a (Own H_0 [se, ch, lb, la] H H1) va' vc' vp' vh' s') (n1 : H1 lb' = none) (n2 : H1 la' = none) (n3 : H1 t = none)
    (hM' : SMut a H' se dx ch dc lb' la' va' vc' vp' vh' ((.ref t :: bs).take 20) []) (ht : H' t = some (.tup [va, vc, vp, vh])) (cg : Chg [se, ch] H1 H') :
    SeAt a (Res H_0 H H') se (some (d.become s')) ∧ Keep H_0 H H' ∧ ∀ b, H' b = none → H b = none := by
  have e1 := s1 _ _ (s _ _ hM.fse)
  have e2 := s1 _ _ (s _ _ hM.fch)
  have core : Same (Own H_0 [se, ch, lb, la] H H1) (rem (Res H_0 H H') [se, ch, lb', la']) := fun b o h => by
    unfold Own at h
    split at h
    case isFalse => cases h
    rename_i q
    have m1 : b ≠ lb' := ne_of_none h n1
    have m2 : b ≠ la' := ne_of_none h n2
    have m3 : b ≠ se := fun z => by
      rw [z, s _ _ hM.fse] at q
      simp [rem] at q
    have m4 : b ≠ ch := fun z => by
      rw [z, s _ _ hM.fch] at q
      simp [rem] at q
    refine rem_some.mpr ⟨by simp [m1, m2, m3, m4], ?_⟩
    have hb := cg.1 b o h (by simp [m3, m4])
    rw [Bool.or_eq_true] at q
    rcases q with q | q
    · obtain ⟨o', q⟩ := Option.isSome_iff_exists.mp q
      rw [res_old (rem_some.mp q).2]; exact hb
    · rw [res_new (by simpa using q)]; exact hb
  have nt1 : t ≠ se := se_ne e1 n3
  have nt2 : t ≠ ch := se_ne e2 n3
  have nt3 : t ≠ lb' := ne_of ht hM'.flb (by intro z; cases z)
  have nt4 : t ≠ la' := ne_of ht hM'.fla (by intro z; cases z)
  have old := fun b o h => core b o (own_old (M := [se, ch, lb, la]) s s1 b o h)
  refine ⟨⟨hd, dx, ch, dc, lb', la', va', vc', vp', vh', (.ref t :: bs).take 20, [], ⟨?_, ?_, ?_, ?_, hM'.fne⟩, hN.same core, ?_, trivial⟩, fun b o h n => ?_, fun b h => s1.free (cg.2 b h)⟩
  · rw [res_old hM.fse]; exact hM'.fse
  · rw [res_old hM.fch]; exact hM'.fch
  · rw [res_new (s1.free n1)]; exact hM'.flb
  · rw [res_new (s1.free n2)]; exact hM'.fla
  · refine TupsAt.take (vs := .ref t :: bs) (ss := d.now :: d.past) 20 ⟨⟨t, va, vc, vp, vh, rfl, rem_some.mpr ⟨by simp [nt1, nt2, nt3, nt4], (res_new (s1.free n3)).trans ht⟩, hA.same old⟩, hB.same old⟩
  · refine cg.1 b o (s1 b o h) ?_
    have m3 : b ≠ se := fun z => by rw [z, hM.fse] at n; cases n
    have m4 : b ≠ ch := fun z => by rw [z, hM.fch] at n; cases n
    simp [m3, m4]
/-- one is taken back, or done again: the same two lists, changed -/
theorem turn_end {d d' : Km445.Desk} {dx ch dc lb la t : Addr} {va' vc' vp' vh' : V} {bs fs bs' fs' : List V} (hd : DeskOk d') (hM : SMut a H_0 se dx ch dc lb la va vc vp vh bs fs) (s : Same H_0 H) (n3 : H t = none)
    (hM' : SMut a H' se dx ch dc lb la va' vc' vp' vh' bs' fs') (ht : H' t = some (.tup [va, vc, vp, vh])) (cg : Chg [se, ch, lb, la] H H')
    (k : ∀ Hn, Same (rem H_0 [se, ch, lb, la]) Hn → Hn t = some (.tup [va, vc, vp, vh]) → SeaAt a Hn va' vc' vp' vh' d'.now ∧ TupsAt a Hn bs' d'.past ∧ TupsAt a Hn fs' d'.future) :
    SeAt a (Res H_0 H H') se (some d') ∧ Keep H_0 H H' ∧ ∀ b, H' b = none → H b = none := by
  have nt1 : t ≠ se := se_ne (s _ _ hM.fse) n3
  have nt2 : t ≠ ch := se_ne (s _ _ hM.fch) n3
  have nt3 : t ≠ lb := se_ne (s _ _ hM.flb) n3
  have nt4 : t ≠ la := se_ne (s _ _ hM.fla) n3
  obtain ⟨k1, k2, k3⟩ := k _ (imm s cg fun x hx => .inl hx) (rem_some.mpr ⟨by simp [nt1, nt2, nt3, nt4], (res_new n3).trans ht⟩)
  refine ⟨⟨hd, dx, ch, dc, lb, la, va', vc', vp', vh', bs', fs', ⟨?_, ?_, ?_, ?_, hM.fne⟩, k1, k2, k3⟩, fun b o h n => ?_, cg.2⟩
  · rw [res_old hM.fse]; exact hM'.fse
  · rw [res_old hM.fch]; exact hM'.fch
  · rw [res_old hM.flb]; exact hM'.flb
  · rw [res_old hM.fla]; exact hM'.fla
  · refine cg.1 b o h ?_
    have m1 : b ≠ se := fun z => by rw [z, hM.fse] at n; cases n
    have m2 : b ≠ ch := fun z => by rw [z, hM.fch] at n; cases n
    have m3 : b ≠ lb := fun z => by rw [z, hM.flb] at n; cases n
    have m4 : b ≠ la := fun z => by rw [z, hM.fla] at n; cases n
    simp [m1, m2, m3, m4]
/-! ### a search with a plan; a course -/
theorem SeP.same {dx pa l q ch : Addr} {s : Km445.Sea} {p : Km445.Plan} (h : SeP a H se dx pa l q vh ch s p) (e : Same H H') : SeP a H' se dx pa l q vh ch s p :=
  ⟨e _ _ h.se, h.area.same e, h.craft.same e, h.plan.same e, h.ok, h.e, h.hour⟩
theorem CoAt.same {x : Addr} {s : Cs} (h : CoAt a H x s) (e : Same H H') : CoAt a H' x s := by
  obtain ⟨dx, pa, pc, h1, h2, h3⟩ := h
  exact ⟨dx, pa, pc, e _ _ h1, h2.same e, h3.same e⟩
end
end SL

end
section
set_option Elab.async false
set_option linter.all false
set_option maxRecDepth 100000
set_option maxHeartbeats 1000000
namespace SL
open PySem PySem.Spec PyProof.Rows L2
section
variable {K : PySem.W.Frag} {mg : Str → Option Value} {a : Ad} {vs : List V} {H : Hp} {Q : VK} {E : XK}
theorem len_Area_init (h : sp_Area_init K a vs H Q E) : vs.length = p_Area_init.length := by obtain ⟨_, _, _, _, _, _, rfl, _⟩ := h; rfl
theorem rd_Area_init (T : Txt K mg a) (h : sp_Area_init K a vs H Q E) : t_Area_init K a { nx := fun _ H' => Q .non H', rt := Q } (L2.start n_Area_init vs) H := by
  obtain ⟨p, dx, x, y, w, hh, rfl, hp, k⟩ := h
  refine ⟨_, rfl, _, rfl, p, _, dx, _, rfl, hp, T.cl_Area, T.na_Area_x, (by show 0 < 1000; decide), ?_⟩
  refine ⟨_, rfl, _, rfl, p, _, dx, _, rfl, upd_same, T.cl_Area, T.na_Area_y, (by show 1 < 1000; decide), ?_⟩
  refine ⟨_, rfl, _, rfl, p, _, dx, _, rfl, upd_same, T.cl_Area, T.na_Area_wide, (by show 2 < 1000; decide), ?_⟩
  refine ⟨_, rfl, _, rfl, p, _, dx, _, rfl, upd_same, T.cl_Area, T.na_Area_high, (by show 3 < 1000; decide), ?_⟩
  show Q .non _
  rw [upd_upd, upd_upd, upd_upd]
  exact k
theorem len_Plan_init (h : sp_Plan_init K a vs H Q E) : vs.length = p_Plan_init.length := by obtain ⟨_, _, _, _, _, rfl, _⟩ := h; rfl
theorem rd_Plan_init (T : Txt K mg a) (h : sp_Plan_init K a vs H Q E) : t_Plan_init K a { nx := fun _ H' => Q .non H', rt := Q } (L2.start n_Plan_init vs) H := by
  obtain ⟨p, dx, x, y, z, rfl, hp, k⟩ := h
  refine ⟨_, rfl, _, rfl, p, _, dx, _, rfl, hp, T.cl_Plan, T.na_Plan_way, (by show 0 < 1000; decide), ?_⟩
  refine ⟨_, rfl, _, rfl, p, _, dx, _, rfl, upd_same, T.cl_Plan, T.na_Plan_hours, (by show 1 < 1000; decide), ?_⟩
  refine ⟨_, rfl, _, rfl, p, _, dx, _, rfl, upd_same, T.cl_Plan, T.na_Plan_shares, (by show 2 < 1000; decide), ?_⟩
  show Q .non _
  rw [upd_upd, upd_upd]
  exact k
theorem len_Craft_init (h : sp_Craft_init K a vs H Q E) : vs.length = p_Craft_init.length := by obtain ⟨_, _, _, _, _, rfl, _⟩ := h; rfl
theorem rd_Craft_init (T : Txt K mg a) (h : sp_Craft_init K a vs H Q E) : t_Craft_init K a { nx := fun _ H' => Q .non H', rt := Q } (L2.start n_Craft_init vs) H := by
  obtain ⟨p, dx, v, e, t, rfl, hp, he, k⟩ := h
  refine ⟨_, rfl, _, rfl, p, _, dx, _, rfl, hp, T.cl_Craft, T.na_Craft_speed, (by show 0 < 1000; decide), ?_⟩
  refine ⟨_, rfl, _, rfl, p, _, dx, _, rfl, upd_same, T.cl_Craft, T.na_Craft_see, (by show 1 < 1000; decide), ?_⟩
  refine ⟨_, rfl, _, rfl, p, _, dx, _, rfl, upd_same, T.cl_Craft, T.na_Craft_hours, (by show 2 < 1000; decide), ?_⟩
  refine ⟨_, rfl, _, _, rfl, rfl, .inl ⟨by decide, by decide⟩, _, _, rfl, rfl, _, rfl, p, _, dx, _, rfl, upd_same, T.cl_Craft, T.na_Craft_strip, (by show 3 < 1000; decide), ?_⟩
  show Q .non _
  rw [upd_upd, upd_upd, upd_upd]
  have e1 : (2 * (e : Int) + 1) = (((⟨v, e, t⟩ : Km445.Craft).strip : Nat) : Int) := by unfold Km445.Craft.strip; simp
  dsimp only
  rw [e1]
  exact k
theorem len_leg_length (h : sp_leg_length K a vs H Q E) : vs.length = p_leg_length.length := by obtain ⟨_, _, _, rfl, _⟩ := h; rfl
theorem rd_leg_length (T : Txt K mg a) (h : sp_leg_length K a vs H Q E) : t_leg_length K a { nx := fun _ H' => Q .non H', rt := Q } (L2.start n_leg_length vs) H := by
  obtain ⟨p, r, b, rfl, ⟨dx, hp⟩, q⟩ := h
  refine ⟨_, rfl, rfl, _, rfl, ?_⟩
  cases b
  · exact ⟨_, rfl, p, _, dx, _, _, rfl, hp, T.cl_Area, T.na_Area_high, rfl, q⟩
  · exact ⟨_, rfl, p, _, dx, _, _, rfl, hp, T.cl_Area, T.na_Area_wide, rfl, q⟩
theorem len_places_across (h : sp_places_across K a vs H Q E) : vs.length = p_places_across.length := by obtain ⟨_, _, _, rfl, _⟩ := h; rfl
theorem rd_places_across (T : Txt K mg a) (h : sp_places_across K a vs H Q E) : t_places_across K a { nx := fun _ H' => Q .non H', rt := Q } (L2.start n_places_across vs) H := by
  obtain ⟨p, r, b, rfl, ⟨dx, hp⟩, q⟩ := h
  refine ⟨_, rfl, rfl, _, rfl, ?_⟩
  cases b
  · exact ⟨_, rfl, p, _, dx, _, _, rfl, hp, T.cl_Area, T.na_Area_wide, rfl, _, _, rfl, rfl, q⟩
  · exact ⟨_, rfl, p, _, dx, _, _, rfl, hp, T.cl_Area, T.na_Area_high, rfl, _, _, rfl, rfl, q⟩
theorem len_distance_of_legs (h : sp_distance_of_legs K a vs H Q E) : vs.length = p_distance_of_legs.length := by obtain ⟨_, _, _, _, _, _, rfl, _⟩ := h; rfl
theorem rd_distance_of_legs (T : Txt K mg a) (h : sp_distance_of_legs K a vs H Q E) : t_distance_of_legs K a { nx := fun _ H' => Q .non H', rt := Q } (L2.start n_distance_of_legs vs) H := by
  obtain ⟨p, q, r, c, b, m, rfl, ⟨dp, hp⟩, ⟨dq, hq⟩, hA, hC, k⟩ := h
  have l1 := long_pos hA b
  have l2 := strip_le hC
  refine ⟨_, rfl, rfl, _, rfl, ite2 (fun e => ?_) (fun e => ?_)⟩
  · have e0 : m = 0 := by have := of_decide_eq_true e; simpa using this
    subst e0
    exact k
  · have e0 : ¬ m = 0 := fun q => e (decide_eq_true (by rw [q]; rfl))
    refine ⟨_, rfl, _, rfl, _, rfl, p, r, b, rfl, ⟨dp, hp⟩, _, _, rfl, rfl, .inr ⟨by omega, by omega⟩, _, rfl, _, _, rfl, rfl, _, rfl, q, _, dq, _, _, rfl, hq, T.cl_Craft, T.na_Craft_strip, rfl, _, _, rfl, rfl, .inr ⟨by omega, by omega⟩, _, _, rfl, rfl, toQ k ?_⟩
    unfold Km445.Craft.far
    rw [if_neg e0]
    have : ((m - 1 : Nat) : Int) = (m : Int) - 1 := by omega
    rw [Int.natCast_add, Int.natCast_mul, Int.natCast_mul, this]
theorem len_most_legs (h : sp_most_legs K a vs H Q E) : vs.length = p_most_legs.length := by obtain ⟨_, _, _, _, _, _, rfl, _⟩ := h; rfl
theorem ifmin (i j : Int) : (if j < i then j else i) = min i j := by
  by_cases h : j < i
  · rw [if_pos h]; omega
  · rw [if_neg h]; omega
theorem ifmax (i j : Int) : (if j > i then j else i) = max i j := by
  by_cases h : j > i
  · rw [if_pos h]; omega
  · rw [if_neg h]; omega
theorem rd_most_legs (T : Txt K mg a) (h : sp_most_legs K a vs H Q E) : t_most_legs K a { nx := fun _ H' => Q .non H', rt := Q } (L2.start n_most_legs vs) H := by
  obtain ⟨p, q, r, c, b, t, rfl, ⟨dp, hp⟩, ⟨dq, hq⟩, hA, hC, k⟩ := h
  have l1 := long_pos hA b
  have l2 := strip_le hC
  have l3 := strip_pos c
  obtain ⟨c1, c2, _⟩ := hC
  refine ⟨_, rfl, q, _, dq, _, _, rfl, hq, T.cl_Craft, T.na_Craft_speed, rfl, _, rfl, _, rfl, q, _, dq, _, _, rfl, hq, T.cl_Craft, T.na_Craft_hours, rfl, _, _, rfl, _, _, rfl, rfl, .inl ⟨by omega, by omega⟩, ?_⟩
  refine ⟨_, rfl, _, rfl, q, _, dq, _, _, rfl, hq, T.cl_Craft, T.na_Craft_strip, rfl, _, _, rfl, rfl, _, rfl, _, rfl, p, r, b, rfl, ⟨dp, hp⟩, _, rfl, q, _, dq, _, _, rfl, hq, T.cl_Craft, T.na_Craft_strip, rfl, _, _, rfl, rfl, _, _, rfl, rfl, ⟨by omega, by omega⟩, ?_⟩
  refine ⟨_, rfl, _, rfl, _, rfl, p, r, b, rfl, ⟨dp, hp⟩, _, _, rfl, toQ k ?_⟩
  rw [legs_eq, ifmin, ifmin]
  have e1 : min (t : Int) (c.hours : Int) = ((min t c.hours : Nat) : Int) := by omega
  rw [e1, ← Int.natCast_mul, ← Int.natCast_add, ← Int.natCast_add, ← Int.natCast_ediv]
  omega
theorem len_legs_needed (h : sp_legs_needed K a vs H Q E) : vs.length = p_legs_needed.length := by obtain ⟨_, _, _, rfl, _⟩ := h; rfl
theorem rd_legs_needed (T : Txt K mg a) (h : sp_legs_needed K a vs H Q E) : t_legs_needed K a { nx := fun _ H' => Q .non H', rt := Q } (L2.start n_legs_needed vs) H := by
  obtain ⟨q, c, n, rfl, ⟨dq, hq⟩, hC, k⟩ := h
  have l2 := strip_le hC
  have l3 := strip_pos c
  refine ⟨_, rfl, _, rfl, q, _, dq, _, _, rfl, hq, T.cl_Craft, T.na_Craft_strip, rfl, _, _, rfl, rfl, _, _, rfl, rfl, _, rfl, q, _, dq, _, _, rfl, hq, T.cl_Craft, T.na_Craft_strip, rfl, _, _, rfl, rfl, ⟨by omega, by omega⟩, toQ k ?_⟩
  have e1 : ((n : Int) + (c.strip : Int) - 1) = ((n + c.strip - 1 : Nat) : Int) := by omega
  rw [e1, ← Int.natCast_ediv]
end
end SL

end
section
set_option Elab.async false
set_option linter.all false
set_option maxRecDepth 100000
set_option maxHeartbeats 1000000
namespace SL
open PySem PySem.Spec PyProof.Rows L2
section
variable {K : PySem.W.Frag} {mg : Str → Option Value} {a : Ad} {vs : List V} {H : Hp} {Q : VK} {E : XK}
theorem len_places_seen (h : sp_places_seen K a vs H Q E) : vs.length = p_places_seen.length := by obtain ⟨_, _, _, _, _, _, rfl, _⟩ := h; rfl
theorem rd_places_seen (T : Txt K mg a) (h : sp_places_seen K a vs H Q E) : t_places_seen K a { nx := fun _ H' => Q .non H', rt := Q } (L2.start n_places_seen vs) H := by
  obtain ⟨p, l, r, cs, b, t, rfl, hp, ⟨ps, hl, hcs⟩, hA, hC, h4, k⟩ := h
  have hlen := hcs.len
  refine ⟨_, rfl, l, rfl, ⟨_, SqL.of hl⟩, fun D hD => lc_list (K := K) (a := l) (xs := ps.map V.ref)
    (fun i H' => Same H H' ∧ H' D = some (.lst (((cs.take i).map fun c => ((c.legs (r.long b) (r.across b) t * c.strip : Nat) : Int)).map V.int)))
    ⟨same_new hD, upd_same⟩ (fun i H' _ s => SqL.of (s.1 _ _ hl)) ?_ ?_⟩
  · rintro i x H' hi ⟨s, hD'⟩
    obtain ⟨q, hq, rfl⟩ := ref_at hi
    obtain ⟨c, hc, hcq⟩ := hcs.get hq
    have okc := hC c (List.mem_of_getElem? hc)
    refine ⟨rfl, ?_⟩
    unfold tYes; dsimp only
    rw [if_pos rfl]
    obtain ⟨dq, hq'⟩ := hcq.same s
    have l1 := strip_le okc
    refine ⟨_, rfl, _, rfl, _, rfl, _, rfl, p, q, r, c, b, t, rfl, hp.same s, ⟨dq, hq'⟩, hA, okc, _, rfl, q, _, dq, _, _, rfl, hq', T.cl_Craft, T.na_Craft_strip, rfl, _, _, rfl, rfl, .inr ⟨by omega, by omega⟩, _, hD', ?_, same_upd s hD, ?_⟩
    · rw [List.length_map, List.length_map, List.length_take]
      exact small4 (by omega)
    · rw [upd_same, List.take_succ, hc, Option.toList_some, List.map_append, List.map_append]
      rfl
  · rintro H' ⟨s, hD'⟩
    refine ⟨D, _, rfl, SqL.of hD', ?_⟩
    have e : (((cs.take (ps.map V.ref).length).map fun c => ((c.legs (r.long b) (r.across b) t * c.strip : Nat) : Int)).sum) = ((cov r cs b t : Nat) : Int) := by
      rw [List.length_map, hlen, List.take_length]
      unfold cov
      rw [← sum_int, List.map_map]
      rfl
    exact toQ (k H' s) e
theorem len_is_done (h : sp_is_done K a vs H Q E) : vs.length = p_is_done.length := by obtain ⟨_, _, _, _, _, _, rfl, _⟩ := h; rfl
theorem rd_is_done (T : Txt K mg a) (h : sp_is_done K a vs H Q E) : t_is_done K a { nx := fun _ H' => Q .non H', rt := Q } (L2.start n_is_done vs) H := by
  obtain ⟨p, l, r, cs, b, t, rfl, hp, hl, hA, hC, h4, k⟩ := h
  refine ⟨_, rfl, _, rfl, _, rfl, _, rfl, p, l, r, cs, b, t, rfl, hp, hl, hA, hC, h4, fun H' s => ?_⟩
  refine ⟨_, rfl, _, rfl, p, r, b, rfl, hp.same s, _, _, rfl, rfl, toB (k H' s) ?_⟩
  exact decide_eq_decide.mpr (by omega)
theorem len_least_hours (h : sp_least_hours K a vs H Q E) : vs.length = p_least_hours.length := by obtain ⟨_, _, _, _, _, rfl, _⟩ := h; rfl
theorem rd_least_hours (T : Txt K mg a) (h : sp_least_hours K a vs H Q E) : t_least_hours K a { nx := fun _ H' => Q .non H', rt := Q } (L2.start n_least_hours vs) H := by
  obtain ⟨p, l, r, cs, b, rfl, hp, hl, hA, hC, h4, k⟩ := h
  have ac := across_pos hA b
  refine ⟨_, rfl, _, rfl, _, rfl, p, l, r, cs, b, 100, rfl, hp, hl, hA, hC, h4, fun H1 s1 => ⟨_, rfl, ?_⟩⟩
  by_cases hd : r.across b ≤ cov r cs b 100
  · rw [decide_eq_true hd]
    refine iteF ?_
    show tWhile _ _ _ _ _
    refine ⟨fun m σ H' => ∃ (lo hi : Nat) (x : Option V), σ = [some (.ref p), some (.ref l), some (.int (wayI b)), some (nV lo), some (nV hi), x] ∧ m = hi - lo ∧ lo < hi ∧ hi ≤ 100 ∧ ¬ r.across b ≤ cov r cs b lo ∧ r.across b ≤ cov r cs b hi ∧ Same H H',
      ⟨_, 0, 100, none, rfl, rfl, by decide, by decide, by rw [cov_zero cs b hA]; omega, hd, s1⟩, ?_⟩
    rintro m σ H2 ⟨lo, hi, x, rfl, rfl, hlt, hle, hno, hyes, s2⟩
    refine ⟨_, rfl, _, rfl, _, _, rfl, rfl, _, _, rfl, rfl, _, rfl, ite2 (fun e => ?_) (fun e => ?_)⟩
    · have e' : (1 : Int) < (hi : Int) - (lo : Int) := of_decide_eq_true e
      refine ⟨_, fun _ _ z => z, ?_⟩
      have em : (((lo : Int) + (hi : Int)) / 2) = (((lo + hi) / 2 : Nat) : Int) := by omega
      refine ⟨_, rfl, _, rfl, _, _, rfl, rfl, _, _, rfl, rfl, ⟨by decide, by decide⟩, ?_⟩
      refine ⟨_, rfl, _, rfl, _, rfl, _, rfl, p, l, r, cs, b, (lo + hi) / 2, (by dsimp only; rw [em]; rfl), hp.same s2, hl.same s2, hA, hC, h4, fun H3 s3 => ⟨_, rfl, ite2 (fun f => ?_) (fun f => ?_)⟩⟩
      · have f' := of_decide_eq_true f
        refine ⟨_, rfl, _, ?_, lo, (lo + hi) / 2, _, (by dsimp only; rw [em]; rfl), rfl, by omega, by omega, hno, f', s2.trans s3⟩
        omega
      · have f' : ¬ _ := fun z => f (decide_eq_true z)
        refine ⟨_, rfl, _, ?_, (lo + hi) / 2, hi, _, (by dsimp only; rw [em]; rfl), rfl, by omega, by omega, f', hyes, s2.trans s3⟩
        omega
    · have e' : ¬ (1 : Int) < (hi : Int) - (lo : Int) := fun z => e (decide_eq_true z)
      refine ⟨_, rfl, ?_⟩
      have es : soon r cs b = some hi := soon_some hle hyes (fun _ => by rw [show hi - 1 = lo by omega]; exact hno)
      have := k H2 s2
      rw [es] at this
      exact this
  · rw [decide_eq_false hd]
    refine iteT ?_
    have := k H1 s1
    rw [soon_none hd] at this
    exact this
end
end SL

end
section
set_option Elab.async false
set_option linter.all false
set_option maxRecDepth 100000
set_option maxHeartbeats 1000000
namespace SL
open PySem PySem.Spec PyProof.Rows L2
section
variable {K : PySem.W.Frag} {mg : Str → Option Value} {a : Ad} {vs : List V} {H : Hp} {Q : VK} {E : XK}
theorem len_shared_out (h : sp_shared_out K a vs H Q E) : vs.length = p_shared_out.length := by obtain ⟨_, _, _, _, _, _, rfl, _⟩ := h; rfl
theorem share_drop {long across t left : Nat} {cs : List Km445.Craft} {c : Km445.Craft} {i : Nat} (h : cs[i]? = some c) :
    Km445.share long across t left (cs.drop i) = min (c.legs long across t) ((left + c.strip - 1) / c.strip) :: Km445.share long across t (left - min (c.legs long across t) ((left + c.strip - 1) / c.strip) * c.strip) (cs.drop (i + 1)) := by
  obtain ⟨hi, e⟩ := List.getElem?_eq_some_iff.mp h
  rw [List.drop_eq_getElem_cons hi, e, Km445.share]
theorem rd_shared_out (T : Txt K mg a) (h : sp_shared_out K a vs H Q E) : t_shared_out K a { nx := fun _ H' => Q .non H', rt := Q } (L2.start n_shared_out vs) H := by
  obtain ⟨p, l, r, cs, b, t, rfl, hp, ⟨ps, hl, hcs⟩, hA, hC, h4, k⟩ := h
  have hlen := hcs.len
  refine ⟨Nat.zero_le _, fun D hD => ?_⟩
  have s0 : Same H (upd H D (.lst [])) := same_new hD
  refine ⟨_, rfl, _, rfl, p, r, b, rfl, hp.same s0, ?_⟩
  refine ⟨_, rfl, l, rfl, ⟨_, SqL.of (s0 _ _ hl)⟩, for_list (K := K) (a := l) (xs := ps.map V.ref)
    (fun i σ H' => ∃ (left : Nat) (done : List Nat) (x y : Option V), σ = [some (.ref p), some (.ref l), some (.int (wayI b)), some (nV t), some (.ref D), some (nV left), x, y] ∧ done.length = i ∧ Same H H' ∧ H' D = some (.lst (done.map nV)) ∧
      Km445.share (r.long b) (r.across b) t (r.across b) cs = done ++ Km445.share (r.long b) (r.across b) t left (cs.drop i))
    ⟨r.across b, [], none, none, rfl, rfl, s0, upd_same, rfl⟩ (fun i σ H' _ ⟨_, _, _, _, _, _, s, _⟩ => SqL.of (s _ _ hl)) ?_ ?_⟩
  · rintro i x σ H' hi ⟨left, done, y, z, rfl, hdl, s, hD', hsh⟩
    obtain ⟨q, hq, rfl⟩ := ref_at hi
    obtain ⟨c, hc, hcq⟩ := hcs.get hq
    have hi4 := (List.getElem?_eq_some_iff.mp hc).1
    have okc := hC c (List.mem_of_getElem? hc)
    obtain ⟨dq, hq'⟩ := hcq.same s
    have l1 := strip_le okc
    rw [share_drop hc] at hsh
    have em : (if (((left + c.strip - 1) / c.strip : Nat) : Int) < ((c.legs (r.long b) (r.across b) t : Nat) : Int) then (((left + c.strip - 1) / c.strip : Nat) : Int) else ((c.legs (r.long b) (r.across b) t : Nat) : Int)) = ((min (c.legs (r.long b) (r.across b) t) ((left + c.strip - 1) / c.strip) : Nat) : Int) := by
      rw [ifmin]; omega
    refine ⟨_, rfl, _, rfl, _, rfl, _, rfl, p, q, r, c, b, t, rfl, hp.same s, ⟨dq, hq'⟩, hA, okc, _, rfl, _, rfl, q, c, left, rfl, ⟨dq, hq'⟩, okc, _, _, rfl, ?_⟩
    rw [em]
    generalize min (c.legs (r.long b) (r.across b) t) ((left + c.strip - 1) / c.strip) = m at hsh ⊢
    refine ⟨_, rfl, .inl ⟨rfl, _, SqL.of hD'⟩, _, rfl, D, _, _, rfl, rfl, hD', (by rw [List.length_map]; exact small4 (by omega)), ?_⟩
    have nq : q ≠ D := ne_of hq' hD' (by intro z; cases z)
    have hq2 := (upd_ne (H := H') (o := .lst (done.map nV ++ [nV m])) nq).trans hq'
    refine ⟨_, rfl, _, rfl, _, rfl, q, _, dq, _, _, rfl, hq2, T.cl_Craft, T.na_Craft_strip, rfl, _, _, rfl, rfl, .inr ⟨by omega, by omega⟩, _, _, rfl, rfl, _, _, rfl, ?_⟩
    have em2 : (if (left : Int) - (m : Int) * (c.strip : Int) > 0 then (left : Int) - (m : Int) * (c.strip : Int) else 0) = ((left - m * c.strip : Nat) : Int) := by
      rw [ifmax, ← Int.natCast_mul]; omega
    refine ⟨left - m * c.strip, done ++ [m], _, _, (by rw [em2]; rfl), by rw [List.length_append, hdl]; rfl, same_upd s hD, by rw [upd_same, List.map_append]; rfl, by rw [hsh, List.append_assoc]; rfl⟩
  · rintro σ H' ⟨left, done, y, z, rfl, hdl, s, hD', hsh⟩
    refine ⟨_, rfl, k H' D s hD ?_⟩
    rw [hD', hsh, List.length_map, hlen, List.drop_length, Km445.share, List.append_nil]
theorem len_places_before (h : sp_places_before K a vs H Q E) : vs.length = p_places_before.length := by obtain ⟨_, _, _, _, _, rfl, _⟩ := h; rfl
theorem rd_places_before (T : Txt K mg a) (h : sp_places_before K a vs H Q E) : t_places_before K a { nx := fun _ H' => Q .non H', rt := Q } (L2.start n_places_before vs) H := by
  obtain ⟨l, q, cs, pl, n, rfl, ⟨ps, hl, hcs⟩, ⟨dx, ls, hq, hls⟩, hC, hpl, hk, h4, k⟩ := h
  have hlen := hcs.len
  refine ⟨_, rfl, _, rfl, (by show -(2 ^ 62 : Int) ≤ (n : Int); omega), (by show (n : Int) < 2 ^ 62; omega), fun D hD => lc_range (lo := 0) (n := (n : Int).toNat)
    (fun i H' => Same H H' ∧ H' D = some (.lst (((List.range i).map fun i => pl.legs.getD i 0 * (cs.getD i ⟨1, 0, 0⟩).strip).map nV)))
    ⟨same_new hD, upd_same⟩ ?_ ?_⟩
  · rintro i H' hi ⟨s, hD'⟩
    refine ⟨rfl, ?_⟩
    unfold tYes; dsimp only
    rw [if_pos rfl]
    have hi' : i < cs.length := by omega
    obtain ⟨c, hc⟩ : ∃ c, cs[i]? = some c := ⟨_, List.getElem?_eq_getElem hi'⟩
    obtain ⟨pc, hpc, hcc⟩ := hcs.get' hc
    obtain ⟨dc, hcc'⟩ := hcc.same s
    have okc := hC c (List.mem_of_getElem? hc)
    have l1 := strip_le okc
    obtain ⟨m, hm⟩ : ∃ m, pl.legs[i]? = some m := ⟨_, List.getElem?_eq_getElem (by omega)⟩
    refine ⟨_, rfl, q, _, dx, _, _, rfl, s _ _ hq, T.cl_Plan, T.na_Plan_shares, rfl, _, rfl, ls, _, _, nV m, rfl, rfl, SqL.of (s _ _ hls), at_of (j := i) (by omega) (by rw [List.getElem?_map, hm]; rfl), _, rfl, _, rfl, l, _, _, .ref pc, rfl, rfl, SqL.of (s _ _ hl), at_of (j := i) (by omega) (by rw [List.getElem?_map, hpc]; rfl), pc, _, dc, _, _, rfl, hcc', T.cl_Craft, T.na_Craft_strip, rfl, _, _, rfl, rfl, .inr ⟨by omega, by omega⟩, _, hD', ?_, same_upd s hD, ?_⟩
    · rw [List.length_map, List.length_map, List.length_range]; exact small4 (by omega)
    · rw [upd_same, List.range_succ, List.map_append, List.map_append]
      have e1 : pl.legs.getD i 0 = m := by rw [List.getD_eq_getElem?_getD, hm]; rfl
      have e2 : cs.getD i ⟨1, 0, 0⟩ = c := by rw [List.getD_eq_getElem?_getD, hc]; rfl
      show _ = some (HO.lst (_ ++ [nV (pl.legs.getD i 0 * (cs.getD i ⟨1, 0, 0⟩).strip)]))
      rw [e1, e2, nV, Int.natCast_mul]
  · rintro H' ⟨s, hD'⟩
    rw [nv_map] at hD'
    refine ⟨D, _, rfl, SqL.of hD', ?_⟩
    rw [sum_int]
    have := k H' s
    rwa [bef, show n = (n : Int).toNat by omega] at this
theorem len_is_area (h : sp_is_area K a vs H Q E) : vs.length = p_is_area.length := by obtain ⟨_, _, _, _, rfl, _⟩ := h; rfl
theorem len_is_craft (h : sp_is_craft K a vs H Q E) : vs.length = p_is_craft.length := by obtain ⟨_, _, _, rfl, _⟩ := h; rfl
theorem len_way_sign (h : sp_way_sign K a vs H Q E) : vs.length = p_way_sign.length := by obtain ⟨_, rfl, _⟩ := h; rfl
theorem rd_way_sign (T : Txt K mg a) (h : sp_way_sign K a vs H Q E) : t_way_sign K a { nx := fun _ H' => Q .non H', rt := Q } (L2.start n_way_sign vs) H := by
  obtain ⟨b, rfl, k⟩ := h
  refine ⟨_, rfl, rfl, _, rfl, ?_⟩
  cases b
  · exact k
  · exact k
end
end SL

end
section
set_option Elab.async false
set_option linter.all false
set_option maxRecDepth 100000
set_option maxHeartbeats 1000000
namespace SL
open PySem PySem.Spec PyProof.Rows L2
section
variable {K : PySem.W.Frag} {mg : Str → Option Value} {a : Ad} {vs : List V} {H : Hp} {Q : VK} {E : XK}
theorem len_best_plan (h : sp_best_plan K a vs H Q E) : vs.length = p_best_plan.length := by obtain ⟨_, _, _, _, rfl, _⟩ := h; rfl
/-- the best way and its hours, when i ways are looked at -/
def bst (r : Km445.Area) (cs : List Km445.Craft) : Nat → V × V
  | 0 => (.non, .non)
  | 1 => match soon r cs true with
    | none => (.non, .non)
    | some t => (.int 0, nV t)
  | _ => match plan r cs with
    | none => (.non, .non)
    | some p => (.int (wayI p.along), nV p.hours)
theorem bst1 (r : Km445.Area) (cs : List Km445.Craft) : bst r cs 1 = match soon r cs true with
    | none => (.non, .non)
    | some t => (.int 0, nV t) := rfl
theorem bst2 (r : Km445.Area) (cs : List Km445.Craft) : bst r cs 2 = match plan r cs with
    | none => (.non, .non)
    | some p => (.int (wayI p.along), nV p.hours) := rfl
theorem rd_best_plan (T : Txt K mg a) (h : sp_best_plan K a vs H Q E) : t_best_plan K a { nx := fun _ H' => Q .non H', rt := Q } (L2.start n_best_plan vs) H := by
  obtain ⟨p, l, r, cs, rfl, hp, hl, hA, hC, h4, k1, k2⟩ := h
  refine ⟨(by show 2 ≤ sizeLine; decide), fun tp htp => ⟨tp, rfl, ⟨_, SqT.of upd_same⟩, for_tup (K := K) (a := tp) (xs := [.int 0, .int 1])
    (fun i σ H' => Same H H' ∧ H' tp = some (.tup [.int 0, .int 1]) ∧ ∃ u w x y, σ = [some (.ref p), some (.ref l), some u, some w, x, y] ∧ (u, w) = bst r cs i)
    ⟨same_new htp, upd_same, _, _, none, none, rfl, rfl⟩ (fun i σ H' _ s => SqT.of s.2.1) ?_ ?_⟩⟩
  · rintro i v σ H' hi ⟨s, ht, u', w', x, y, rfl, hb⟩
    match i, hi with
    | 0, hi =>
      cases hi
      cases hb
      refine ⟨_, rfl, _, rfl, _, rfl, p, l, r, cs, true, rfl, hp.same s, hl.same s, hA, hC, h4, fun H1 s1 => ?_⟩
      cases e : soon r cs true with
      | none =>
        refine ⟨_, rfl, rfl, _, rfl, iteF (iteF ⟨s.trans s1, s1 _ _ ht, _, _, _, _, rfl, ?_⟩)⟩
        rw [bst1, e]; try rfl
      | some t =>
        refine ⟨_, rfl, rfl, _, rfl, iteT ⟨_, rfl, rfl, _, rfl, iteT (iteT ⟨_, rfl, _, rfl, s.trans s1, s1 _ _ ht, _, _, _, _, rfl, ?_⟩)⟩⟩
        rw [bst1, e]; try rfl
    | 1, hi =>
      cases hi
      refine ⟨_, rfl, _, rfl, _, rfl, p, l, r, cs, false, rfl, hp.same s, hl.same s, hA, hC, h4, fun H1 s1 => ?_⟩
      have ep := plan_eq r cs
      rw [bst1] at hb
      cases e1 : soon r cs true with
      | none =>
        rw [e1] at hb; cases hb
        cases e : soon r cs false with
        | none =>
          rw [e1, e] at ep
          refine ⟨_, rfl, rfl, _, rfl, iteF (iteF ⟨s.trans s1, s1 _ _ ht, _, _, _, _, rfl, ?_⟩)⟩
          rw [bst2, ep]; try rfl
        | some u =>
          rw [e1, e] at ep
          refine ⟨_, rfl, rfl, _, rfl, iteT ?_⟩
          refine ⟨_, rfl, rfl, _, rfl, iteT (iteT ⟨_, rfl, _, rfl, s.trans s1, s1 _ _ ht, _, _, _, _, rfl, ?_⟩)⟩
          rw [bst2, ep]; try rfl
      | some t =>
        rw [e1] at hb; cases hb
        cases e : soon r cs false with
        | none =>
          rw [e1, e] at ep
          refine ⟨_, rfl, rfl, _, rfl, iteF (iteF ⟨s.trans s1, s1 _ _ ht, _, _, _, _, rfl, ?_⟩)⟩
          rw [bst2, ep]; try rfl
        | some u =>
          rw [e1, e] at ep
          refine ⟨_, rfl, rfl, _, rfl, iteT ?_⟩
          refine ⟨_, rfl, rfl, _, rfl, iteF ⟨_, rfl, _, rfl, _, _, rfl, rfl, _, rfl, ?_⟩⟩
          by_cases q : t ≤ u
          · rw [decide_eq_false (show ¬ (u : Int) < (t : Int) by omega)]
            refine iteF ⟨s.trans s1, s1 _ _ ht, _, _, _, _, rfl, ?_⟩
            dsimp only at ep
            rw [if_pos q] at ep
            rw [bst2, ep]; try rfl
          · rw [decide_eq_true (show (u : Int) < (t : Int) by omega)]
            refine iteT ⟨_, rfl, _, rfl, s.trans s1, s1 _ _ ht, _, _, _, _, rfl, ?_⟩
            dsimp only at ep
            rw [if_neg q] at ep
            rw [bst2, ep]; try rfl
    | n + 2, hi => simp at hi
  · rintro σ H' ⟨s, ht, u', w', x, y, rfl, hb⟩
    cases e : plan r cs with
    | none =>
      have hb2 : (u', w') = bst r cs 2 := hb
      rw [bst2, e] at hb2; cases hb2
      exact ⟨_, rfl, rfl, _, rfl, iteT (k1 e H' s)⟩
    | some pl =>
      have hb2 : (u', w') = bst r cs 2 := hb
      rw [bst2, e] at hb2; cases hb2
      obtain ⟨b, t, rfl, _⟩ := plan_is e
      refine ⟨_, rfl, rfl, _, rfl, iteF ?_⟩
      refine ⟨_, rfl, _, rfl, _, rfl, _, rfl, _, rfl, _, rfl, p, l, r, cs, b, t, rfl, hp.same s, hl.same s, hA, hC, h4, fun H2 q s2 nq hq => ?_⟩
      intro x' dx hx hdx hne
      refine ⟨x', dx, _, _, _, rfl, upd_same, rfl, k2 _ e _ x' ?_ ⟨dx, q, (s.trans s2).free hx, s.free nq, upd_same, ?_⟩⟩
      · exact (s.trans s2).trans (same_upd (same_upd (same_upd (Same.refl _) hdx) hx) hx)
      · rw [upd_ne (ne_of_none hq hx), upd_ne (ne_of_none hq hx), upd_ne (ne_of_none hq hdx)]
        exact hq
theorem rd_is_area (T : Txt K mg a) (h : sp_is_area K a vs H Q E) : t_is_area K a { nx := fun _ H' => Q .non H', rt := Q } (L2.start n_is_area vs) H := by
  obtain ⟨x, y, w, hh, rfl, k⟩ := h
  have key : Q (.bl (decide (-100000 ≤ x) && (decide (x ≤ 100000) && (decide (-100000 ≤ y) && (decide (y ≤ 100000) && (decide ((1 : Int) ≤ w) && (decide ((w : Int) ≤ 500) && (decide ((1 : Int) ≤ hh) && decide ((hh : Int) ≤ 500))))))))) H := by
    refine toB k ?_
    unfold Km445.okArea Km445.SIDE
    rw [decide_eq_decide.mpr (show (1 : Int) ≤ w ↔ 1 ≤ w by omega), decide_eq_decide.mpr (show (w : Int) ≤ 500 ↔ w ≤ 500 by omega), decide_eq_decide.mpr (show (1 : Int) ≤ hh ↔ 1 ≤ hh by omega), decide_eq_decide.mpr (show (hh : Int) ≤ 500 ↔ hh ≤ 500 by omega)]
  clear k
  refine ⟨_, rfl, _, rfl, _, _, rfl, rfl, _, rfl, ite2 (fun e => ?_) (fun e => ?_)⟩
  · rw [e] at key
    refine ⟨_, _, rfl, rfl, _, rfl, ite2 (fun e => ?_) (fun e => ?_)⟩
    · rw [e] at key
      refine ⟨_, rfl, _, rfl, _, _, rfl, rfl, _, rfl, ite2 (fun e => ?_) (fun e => ?_)⟩
      · rw [e] at key
        refine ⟨_, _, rfl, rfl, _, rfl, ite2 (fun e => ?_) (fun e => ?_)⟩
        · rw [e] at key
          refine ⟨_, rfl, _, _, rfl, rfl, _, rfl, ite2 (fun e => ?_) (fun e => ?_)⟩
          · rw [e] at key
            refine ⟨_, _, rfl, rfl, _, rfl, ite2 (fun e => ?_) (fun e => ?_)⟩
            · rw [e] at key
              refine ⟨_, rfl, _, _, rfl, rfl, _, rfl, ite2 (fun e => ?_) (fun e => ?_)⟩
              · rw [e] at key
                exact ⟨_, _, rfl, rfl, key⟩
              · rw [Bool.eq_false_iff.mpr e] at key; exact key
            · rw [Bool.eq_false_iff.mpr e] at key; exact key
          · rw [Bool.eq_false_iff.mpr e] at key; exact ⟨_, rfl, iteF key⟩
        · rw [Bool.eq_false_iff.mpr e] at key; exact key
      · rw [Bool.eq_false_iff.mpr e] at key; exact ⟨_, rfl, iteF key⟩
    · rw [Bool.eq_false_iff.mpr e] at key; exact key
  · rw [Bool.eq_false_iff.mpr e] at key; exact ⟨_, rfl, iteF key⟩
theorem rd_is_craft (T : Txt K mg a) (h : sp_is_craft K a vs H Q E) : t_is_craft K a { nx := fun _ H' => Q .non H', rt := Q } (L2.start n_is_craft vs) H := by
  obtain ⟨v, s, t, rfl, k⟩ := h
  have key : Q (.bl (decide ((1 : Int) ≤ v) && (decide ((v : Int) ≤ 500) && (decide ((0 : Int) ≤ s) && (decide ((s : Int) ≤ 200) && (decide ((1 : Int) ≤ t) && decide ((t : Int) ≤ 100))))))) H := by
    refine toB k ?_
    rw [← Bool.decide_and, ← Bool.decide_and, ← Bool.decide_and, ← Bool.decide_and, ← Bool.decide_and]
    exact decide_eq_decide.mpr (by omega)
  clear k
  refine ⟨_, rfl, _, _, rfl, rfl, _, rfl, ite2 (fun e => ?_) (fun e => ?_)⟩
  · rw [e] at key
    refine ⟨_, _, rfl, rfl, _, rfl, ite2 (fun e => ?_) (fun e => ?_)⟩
    · rw [e] at key
      refine ⟨_, rfl, _, _, rfl, rfl, _, rfl, ite2 (fun e => ?_) (fun e => ?_)⟩
      · rw [e] at key
        refine ⟨_, _, rfl, rfl, _, rfl, ite2 (fun e => ?_) (fun e => ?_)⟩
        · rw [e] at key
          refine ⟨_, rfl, _, _, rfl, rfl, _, rfl, ite2 (fun e => ?_) (fun e => ?_)⟩
          · rw [e] at key
            exact ⟨_, _, rfl, rfl, key⟩
          · rw [Bool.eq_false_iff.mpr e] at key; exact key
        · rw [Bool.eq_false_iff.mpr e] at key; exact key
      · rw [Bool.eq_false_iff.mpr e] at key; exact ⟨_, rfl, iteF key⟩
    · rw [Bool.eq_false_iff.mpr e] at key; exact key
  · rw [Bool.eq_false_iff.mpr e] at key; exact ⟨_, rfl, iteF key⟩
end
end SL

end
section
set_option Elab.async false
set_option linter.all false
set_option maxRecDepth 100000
set_option maxHeartbeats 1000000
namespace SL
open PySem PySem.Spec PyProof.Rows L2
section
variable {K : PySem.W.Frag} {mg : Str → Option Value} {a : Ad} {vs : List V} {H : Hp} {Q : VK} {E : XK}
theorem len_Changes_init (h : sp_Changes_init K a vs H Q E) : vs.length = p_Changes_init.length := by obtain ⟨_, _, rfl, _⟩ := h; rfl
theorem rd_Changes_init (T : Txt K mg a) (h : sp_Changes_init K a vs H Q E) : t_Changes_init K a { nx := fun _ H' => Q .non H', rt := Q } (L2.start n_Changes_init vs) H := by
  obtain ⟨p, dx, rfl, hp, k⟩ := h
  refine ⟨Nat.zero_le _, fun lb hlb => ⟨_, rfl, p, _, dx, _, rfl, same_new hlb _ _ hp, T.cl_Changes, T.na_Changes_behind, (by show 0 < 1000; decide), ?_⟩⟩
  refine ⟨Nat.zero_le _, fun la hla => ⟨_, rfl, p, _, dx, _, rfl, same_new hla _ _ upd_same, T.cl_Changes, T.na_Changes_ahead, (by show 1 < 1000; decide), ?_⟩⟩
  obtain ⟨n1, hla1⟩ := upd_none hla
  obtain ⟨n2, hla2⟩ := upd_none hla1
  have n3 : lb ≠ p := se_ne hp hlb
  refine k _ lb la hlb hla2 n2.symm upd_same ?_ ?_ ?_
  · rw [upd_ne n3, upd_ne n2.symm, upd_ne n3, upd_same]
  · rw [upd_ne n1, upd_same]
  · exact ((((Chg.refl.new hlb).set (by simp)).new hla).set (by simp))
theorem len_Changes_made (h : sp_Changes_made K a vs H Q E) : vs.length = p_Changes_made.length := by obtain ⟨_, _, _, _, _, _, rfl, _⟩ := h; rfl
theorem cut_last (v : V) (bs : List V) : cutV (bs.reverse ++ [v]) (some (-20)) none = ((v :: bs).take 20).reverse := by
  unfold cutV
  rw [List.reverse_take, List.reverse_cons]
  have e : ∀ n d, HT.sIx n d (some (-20)) = n - 20 := fun n d => by
    show (if (-20 : Int) < 0 then ((-20 : Int) + (n : Int)).toNat else min (-20 : Int).toNat n) = n - 20
    rw [if_pos (by decide)]; omega
  rw [e, HT.sIx_none, ← List.length_drop, List.take_length]
  simp
theorem rd_Changes_made (T : Txt K mg a) (h : sp_Changes_made K a vs H Q E) : t_Changes_made K a { nx := fun _ H' => Q .non H', rt := Q } (L2.start n_Changes_made vs) H := by
  obtain ⟨ch, dc, lb, la, v, bs, rfl, hch, hlb, hb, k⟩ := h
  refine ⟨_, rfl, ch, _, dc, _, _, rfl, hch, T.cl_Changes, T.na_Changes_behind, rfl, _, rfl, (by show 1 ≤ sizeLine; decide), fun q hq => ⟨lb, q, _, _, rfl, rfl, same_new hq _ _ hlb, upd_same, ?_, fun r hr => ?_⟩⟩
  · rw [List.length_reverse]; exact Nat.le_of_lt (small1000 (by show _ + 1 ≤ 1000; omega))
  have s1 : Same H (upd (upd H q (.lst [v])) r (.lst (bs.reverse ++ [v]))) := same_upd (same_new hq) (upd_none hr).2
  have hr1 : (upd (upd H q (.lst [v])) r (.lst (bs.reverse ++ [v]))) r = some (.lst (bs.reverse ++ [v])) := upd_same
  generalize (upd (upd H q (.lst [v])) r (.lst (bs.reverse ++ [v]))) = H1 at s1 hr1 ⊢
  refine ⟨_, rfl, _, rfl, r, _, rfl, SqL.of hr1, fun lb' hlb' => ?_⟩
  rw [cut_last]
  have s2 := same_upd (o := .lst ((v :: bs).take 20).reverse) s1 (s1.free hlb')
  have nlb : H lb' = none := s1.free hlb'
  have n1 : lb' ≠ ch := se_ne hch nlb
  have hb2 : (upd H1 lb' (.lst ((v :: bs).take 20).reverse)) lb' = some (.lst ((v :: bs).take 20).reverse) := upd_same
  generalize (upd H1 lb' (.lst ((v :: bs).take 20).reverse)) = H2 at s2 hb2 ⊢
  refine ⟨_, rfl, ch, _, dc, _, rfl, s2 _ _ hch, T.cl_Changes, T.na_Changes_behind, (by show 2 < 1000; decide), ?_⟩
  refine ⟨Nat.zero_le _, fun la' hla' => ⟨_, rfl, ch, _, dc, _, rfl, same_new hla' _ _ upd_same, T.cl_Changes, T.na_Changes_ahead, (by show 2 < 1000; decide), ?_⟩⟩
  obtain ⟨n2, hla2⟩ := upd_none hla'
  have n3 : lb' ≠ la' := ne_of_none hb2 hla2
  refine k _ lb' la' nlb (s2.free hla2) n3 upd_same ?_ ?_ ?_
  · rw [upd_ne n1, upd_ne n3, upd_ne n1]; exact hb2
  · rw [upd_ne n2, upd_same]
  · exact (((Same.chg s2).set (by simp)).new hla').set (by simp)
theorem len_Changes_take_back (h : sp_Changes_take_back K a vs H Q E) : vs.length = p_Changes_take_back.length := by obtain ⟨_, _, _, _, _, _, _, _, rfl, _⟩ := h; rfl
theorem last_at (w : V) (bs : List V) : ((w :: bs).reverse)[((w :: bs).reverse).length - 1]? = some w := by
  rw [List.reverse_cons, List.length_append]
  show (bs.reverse ++ [w])[bs.reverse.length + 1 - 1]? = some w
  rw [Nat.add_sub_cancel, List.getElem?_append_right (Nat.le_refl _), Nat.sub_self]; rfl
theorem last_off (w : V) (bs : List V) : ((w :: bs).reverse).dropLast = bs.reverse := by
  rw [List.reverse_cons, List.dropLast_concat]
theorem rd_Changes_take_back (T : Txt K mg a) (h : sp_Changes_take_back K a vs H Q E) : t_Changes_take_back K a { nx := fun _ H' => Q .non H', rt := Q } (L2.start n_Changes_take_back vs) H := by
  obtain ⟨ch, dc, lb, la, v, w, bs, fs, rfl, hch, hlb, hla, ne, hf, k⟩ := h
  have n1 : ch ≠ la := ne_of hch hla (by intro z; cases z)
  refine ⟨_, rfl, ch, _, dc, _, _, rfl, hch, T.cl_Changes, T.na_Changes_ahead, rfl, .inl ⟨rfl, _, SqL.of hla⟩, _, rfl, la, _, _, rfl, rfl, hla, (by rw [List.length_reverse]; exact small1000 (by omega)), ?_⟩
  have hlb1 := (upd_ne (H := H) (o := .lst (fs.reverse ++ [v])) ne).trans hlb
  refine ⟨_, rfl, ch, _, dc, _, _, rfl, (upd_ne n1).trans hch, T.cl_Changes, T.na_Changes_behind, rfl, .inl ⟨rfl, _, SqL.of hlb1⟩, lb, _, w, rfl, rfl, hlb1, last_at w bs, ?_⟩
  rw [last_off]
  rw [List.reverse_cons] at k
  exact k
theorem len_Changes_do_again (h : sp_Changes_do_again K a vs H Q E) : vs.length = p_Changes_do_again.length := by obtain ⟨_, _, _, _, _, _, _, _, rfl, _⟩ := h; rfl
theorem rd_Changes_do_again (T : Txt K mg a) (h : sp_Changes_do_again K a vs H Q E) : t_Changes_do_again K a { nx := fun _ H' => Q .non H', rt := Q } (L2.start n_Changes_do_again vs) H := by
  obtain ⟨ch, dc, lb, la, v, w, bs, fs, rfl, hch, hlb, hla, ne, hf, k⟩ := h
  have n1 : ch ≠ lb := ne_of hch hlb (by intro z; cases z)
  refine ⟨_, rfl, ch, _, dc, _, _, rfl, hch, T.cl_Changes, T.na_Changes_behind, rfl, .inl ⟨rfl, _, SqL.of hlb⟩, _, rfl, lb, _, _, rfl, rfl, hlb, (by rw [List.length_reverse]; exact small1000 (by omega)), ?_⟩
  have hla1 := (upd_ne (H := H) (o := .lst (bs.reverse ++ [v])) ne.symm).trans hla
  refine ⟨_, rfl, ch, _, dc, _, _, rfl, (upd_ne n1).trans hch, T.cl_Changes, T.na_Changes_ahead, rfl, .inl ⟨rfl, _, SqL.of hla1⟩, la, _, w, rfl, rfl, hla1, last_at w fs, ?_⟩
  rw [last_off]
  rw [List.reverse_cons] at k
  exact k
theorem len_Search_standing (h : sp_Search_standing K a vs H Q E) : vs.length = p_Search_standing.length := by obtain ⟨_, _, _, _, _, _, _, rfl, _⟩ := h; rfl
theorem rd_Search_standing (T : Txt K mg a) (h : sp_Search_standing K a vs H Q E) : t_Search_standing K a { nx := fun _ H' => Q .non H', rt := Q } (L2.start n_Search_standing vs) H := by
  obtain ⟨se, dx, va, vc, vp, vh, ch, rfl, hse, k⟩ := h
  exact ⟨_, rfl, se, _, dx, _, _, rfl, hse, T.cl_Search, T.na_Search_area, rfl, _, rfl, se, _, dx, _, _, rfl, hse, T.cl_Search, T.na_Search_crafts, rfl, _, rfl, se, _, dx, _, _, rfl, hse, T.cl_Search, T.na_Search_plan, rfl, _, rfl, se, _, dx, _, _, rfl, hse, T.cl_Search, T.na_Search_hour, rfl, (by show 4 ≤ sizeLine; decide), k⟩
theorem len_Search_put (h : sp_Search_put K a vs H Q E) : vs.length = p_Search_put.length := by obtain ⟨_, _, _, _, _, _, _, rfl, _⟩ := h; rfl
theorem rd_Search_put (T : Txt K mg a) (h : sp_Search_put K a vs H Q E) : t_Search_put K a { nx := fun _ H' => Q .non H', rt := Q } (L2.start n_Search_put vs) H := by
  obtain ⟨se, dx, t, va, vc, vp, vh, rfl, ht, k⟩ := h
  rcases k with ⟨hse, k⟩ | ⟨va0, vc0, vp0, vh0, ch, hse, k⟩
  · have n : t ≠ se := ne_of ht hse (by intro z; cases z)
    have ht' : ∀ o, upd H se o t = _ := fun o => (upd_ne n).trans ht
    refine ⟨_, rfl, t, _, _, va, rfl, rfl, SqT.of ht, rfl, _, rfl, se, _, dx, _, rfl, hse, T.cl_Search, T.na_Search_area, (by show 0 < 1000; decide), ?_⟩
    refine ⟨_, rfl, t, _, _, vc, rfl, rfl, SqT.of (ht' _), rfl, _, rfl, se, _, dx, _, rfl, upd_same, T.cl_Search, T.na_Search_crafts, (by show 1 < 1000; decide), ?_⟩
    rw [upd_upd]
    refine ⟨_, rfl, t, _, _, vp, rfl, rfl, SqT.of (ht' _), rfl, _, rfl, se, _, dx, _, rfl, upd_same, T.cl_Search, T.na_Search_plan, (by show 2 < 1000; decide), ?_⟩
    rw [upd_upd]
    refine ⟨_, rfl, t, _, _, vh, rfl, rfl, SqT.of (ht' _), rfl, _, rfl, se, _, dx, _, rfl, upd_same, T.cl_Search, T.na_Search_hour, (by show 3 < 1000; decide), ?_⟩
    rw [upd_upd]
    exact k
  · have n : t ≠ se := ne_of ht hse (by intro z; cases z)
    have ht' : ∀ o, upd H se o t = _ := fun o => (upd_ne n).trans ht
    refine ⟨_, rfl, t, _, _, va, rfl, rfl, SqT.of ht, rfl, _, rfl, se, _, dx, _, rfl, hse, T.cl_Search, T.na_Search_area, (by show 5 < 1000; decide), ?_⟩
    refine ⟨_, rfl, t, _, _, vc, rfl, rfl, SqT.of (ht' _), rfl, _, rfl, se, _, dx, _, rfl, upd_same, T.cl_Search, T.na_Search_crafts, (by show 5 < 1000; decide), ?_⟩
    rw [upd_upd]
    refine ⟨_, rfl, t, _, _, vp, rfl, rfl, SqT.of (ht' _), rfl, _, rfl, se, _, dx, _, rfl, upd_same, T.cl_Search, T.na_Search_plan, (by show 5 < 1000; decide), ?_⟩
    rw [upd_upd]
    refine ⟨_, rfl, t, _, _, vh, rfl, rfl, SqT.of (ht' _), rfl, _, rfl, se, _, dx, _, rfl, upd_same, T.cl_Search, T.na_Search_hour, (by show 5 < 1000; decide), ?_⟩
    rw [upd_upd]
    exact k
theorem len_Search_init (h : sp_Search_init K a vs H Q E) : vs.length = p_Search_init.length := by obtain ⟨_, _, rfl, _⟩ := h; rfl
theorem rd_Search_init (T : Txt K mg a) (h : sp_Search_init K a vs H Q E) : t_Search_init K a { nx := fun _ H' => Q .non H', rt := Q } (L2.start n_Search_init vs) H := by
  obtain ⟨se, dx, rfl, hse, k⟩ := h
  refine ⟨_, rfl, se, dx, _, rfl, hse, rfl, Nat.zero_le _, fun l hl => ⟨(by show 4 ≤ sizeLine; decide), fun t ht => ?_⟩⟩
  have s1 : Same H (upd (upd H l (.lst [])) t (.tup [.non, .ref l, .non, .int 0])) := same_upd (same_new hl) (upd_none ht).2
  have ht1 : (upd (upd H l (.lst [])) t (.tup [.non, .ref l, .non, .int 0])) t = some (.tup [.non, .ref l, .non, .int 0]) := upd_same
  generalize (upd (upd H l (.lst [])) t (.tup [.non, .ref l, .non, .int 0])) = H1 at s1 ht1 ⊢
  refine ⟨se, dx, t, _, _, _, _, rfl, ht1, .inl ⟨s1 _ _ hse, ?_⟩⟩
  intro ch dc nch ndc ne
  have n1 : ch ≠ se := (upd_none nch).1
  have n2 : dc ≠ se := (upd_none ndc).1
  refine ⟨ch, dc, rfl, upd_same, fun H2 lb la nlb nla nba hch hlb hla cg => ⟨rfl, ?_⟩⟩
  have hse2 : H2 se = some (.ins a.c_Search dx [("area", .non), ("crafts", .ref l), ("plan", .non), ("hour", .int 0)]) :=
    cg.1 _ _ (by rw [upd_ne n1.symm, upd_ne n2.symm, upd_same]) (by simp [n1.symm])
  refine ⟨_, rfl, se, _, dx, _, rfl, hse2, T.cl_Search, T.na_Search_changes, (by show 4 < 1000; decide), ?_⟩
  refine k _ .non (.ref l) .non (.int 0) ch upd_same (Chg.set (Chg.trans (M' := [ch]) ((((Same.chg s1).set (by simp)).new ndc).new ?_) cg ?_) (by simp))
  · exact (upd_ne ne.symm).trans nch
  · intro x hx
    rw [List.mem_singleton] at hx
    subst hx
    exact .inr (s1.free (upd_none nch).2)
theorem len_Search_change (h : sp_Search_change K a vs H Q E) : vs.length = p_Search_change.length := by obtain ⟨_, _, _, _, _, _, _, _, _, _, _, _, _, _, _, _, rfl, _⟩ := h; rfl
theorem rd_Search_change (T : Txt K mg a) (h : sp_Search_change K a vs H Q E) : t_Search_change K a { nx := fun _ H' => Q .non H', rt := Q } (L2.start n_Search_change vs) H := by
  obtain ⟨se, dx, ch, dc, lb, la, va, vc, vp, vh, va', vc', vp', vh', bs, fs, rfl, hM, hb, k⟩ := h
  refine ⟨_, rfl, se, _, dx, _, _, rfl, hM.fse, T.cl_Search, T.na_Search_changes, rfl, ch, dc, _, rfl, hM.fch, rfl, _, rfl, se, dx, _, rfl, hM.fse, rfl, se, dx, va, vc, vp, vh, ch, rfl, hM.fse, fun t ht => ?_⟩
  have s1 : Same H (upd H t (.tup [va, vc, vp, vh])) := same_new ht
  have ht1 : (upd H t (.tup [va, vc, vp, vh])) t = some (.tup [va, vc, vp, vh]) := upd_same
  generalize (upd H t (.tup [va, vc, vp, vh])) = H1 at s1 ht1 ⊢
  refine ⟨ch, dc, lb, la, .ref t, bs, rfl, s1 _ _ hM.fch, s1 _ _ hM.flb, hb, fun H2 lb' la' nlb nla nba hch hlb hla cg => ?_⟩
  have n1 : se ≠ ch := hM.ne1
  have hse2 := cg.1 _ _ (s1 _ _ hM.fse) (by simp [n1])
  have ht2 := cg.1 _ _ ht1 (by simp; exact se_ne hM.fch ht)
  refine ⟨_, rfl, se, dx, _, rfl, hse2, rfl, _, rfl, _, rfl, _, rfl, _, rfl, (by show 4 ≤ sizeLine; decide), fun t2 ht2' => ?_⟩
  have m1 := same_new (o := .tup [va', vc', vp', vh']) ht2'
  refine ⟨se, dx, t2, va', vc', vp', vh', rfl, upd_same, .inr ⟨_, _, _, _, _, m1 _ _ hse2, ?_⟩⟩
  have q1 : lb' ≠ se := se_ne (s1 _ _ hM.fse) nlb
  have q2 : la' ≠ se := se_ne (s1 _ _ hM.fse) nla
  have q3 : t ≠ se := se_ne hM.fse ht
  refine k _ lb' la' t (s1.free nlb) (s1.free nla) ht ⟨upd_same, (upd_ne n1.symm).trans (m1 _ _ hch), (upd_ne q1).trans (m1 _ _ hlb), (upd_ne q2).trans (m1 _ _ hla), nba⟩ ((upd_ne q3).trans (m1 _ _ ht2)) ?_
  refine Chg.set (Chg.new (Chg.mono (M := [ch]) (Chg.trans (M' := [ch]) (Same.chg s1) cg (fun x hx => .inl hx)) ?_) ht2') (by simp)
  intro x hx; simp at hx; simp [hx]
end
end SL

end
section
set_option Elab.async false
set_option linter.all false
set_option maxRecDepth 100000
set_option maxHeartbeats 1000000
namespace SL
open PySem PySem.Spec PyProof.Rows L2
section
variable {K : PySem.W.Frag} {mg : Str → Option Value} {a : Ad} {vs : List V} {H : Hp} {Q : VK} {E : XK}
theorem past_le {a : Ad} {H : Hp} {d : Km445.Desk} {bs : List V} (hB : TupsAt a H bs d.past) (hd : DeskOk d) : bs.length ≤ 20 := by
  rw [hB.len]; have := hd.len; omega
theorem future_le {a : Ad} {H : Hp} {d : Km445.Desk} {bs : List V} (hB : TupsAt a H bs d.future) (hd : DeskOk d) : bs.length ≤ 20 := by
  rw [hB.len]; have := hd.len; omega
theorem hp_none {a : Ad} {H : Hp} {vp : V} {pl : Option Km445.Plan} (h : planV a H vp pl) (e : pl = none) : vp = .non := by rw [e] at h; exact h
theorem hp_some {a : Ad} {H : Hp} {vp : V} {pl : Option Km445.Plan} {p : Km445.Plan} (h : planV a H vp pl) (e : pl = some p) : ∃ q, vp = .ref q ∧ PlanAt a H q p := by rw [e] at h; exact h
theorem cut_lo (xs : List V) (k : Nat) : cutV xs none (some (k : Int)) = xs.take k := by
  unfold cutV
  rw [HT.sIx_none, HT.sIx_nat, List.drop_zero, Nat.sub_zero]
  by_cases h : k ≤ xs.length
  · rw [Nat.min_eq_left h]
  · rw [Nat.min_eq_right (by omega), List.take_length, List.take_of_length_le (by omega)]
theorem cut_hi (xs : List V) (k : Nat) : cutV xs (some (k : Int)) none = xs.drop k := by
  unfold cutV
  rw [HT.sIx_none, HT.sIx_nat, ← List.length_drop, List.take_length]
  by_cases h : k ≤ xs.length
  · rw [Nat.min_eq_left h]
  · rw [Nat.min_eq_right (by omega), List.drop_length, List.drop_eq_nil_of_le (by omega)]
theorem len_Search_sl_area (h : sp_Search_sl_area K a vs H Q E) : vs.length = p_Search_sl_area.length := by obtain ⟨_, _, _, _, _, rfl, _⟩ := h; rfl
theorem rd_Search_sl_area (T : Txt K mg a) (h : sp_Search_sl_area K a vs H Q E) : t_Search_sl_area K a { nx := fun _ H' => Q .non H', rt := Q } (L2.start n_Search_sl_area vs) H := by
  obtain ⟨se, x, y, w, hh, rfl, H0, d, hS, s, k⟩ := h
  have hS' := hS
  obtain ⟨hd, dx, ch, dc, lb, la, va, vc, vp, vh, bs, fs, hM, hA, hB, hF⟩ := hS
  have hse := s _ _ hM.fse
  refine ⟨_, rfl, _, rfl, _, rfl, _, rfl, x, y, w, hh, rfl, _, rfl, ?_⟩
  have ok := act_ok hd (.area x y w hh)
  unfold Km445.act at k ok; dsimp only at k ok
  cases e : Km445.okArea x y w hh with
  | false =>
    rw [if_pos e] at k
    exact iteT (qEnd hS' s (Same.refl _) k rfl)
  | true =>
    rw [if_neg (by rw [e]; decide)] at k ok
    refine iteF ⟨_, rfl, se, _, dx, _, _, rfl, hse, T.cl_Search, T.na_Search_plan, rfl, rfl, _, rfl, ?_⟩
    cases ep : d.now.plan with
    | some pl =>
      obtain ⟨q, rfl, _⟩ := hp_some hA.plan ep
      rw [if_pos (show d.now.plan.isSome = true by rw [ep]; rfl)] at k
      exact iteT (qEnd hS' s (Same.refl _) k rfl)
    | none =>
      cases hp_none hA.plan ep
      rw [if_neg (show ¬ d.now.plan.isSome = true by rw [ep]; decide)] at k ok
      refine iteF ⟨_, rfl, se, dx, _, rfl, hse, rfl, _, rfl, _, rfl, _, rfl, _, rfl, fun x' dx' nx nd ne => ⟨x', dx', _, _, _, _, rfl, upd_same, rfl, ?_⟩⟩
      have s1 : Same H (upd (upd (upd H dx' (.own x')) x' (.ins a.c_Area dx' [])) x' (.ins a.c_Area dx' (fArea ⟨x, y, w, hh⟩))) := same_upd (same_upd (same_upd (Same.refl H) nd) nx) nx
      have hx1 : (upd (upd (upd H dx' (.own x')) x' (.ins a.c_Area dx' [])) x' (.ins a.c_Area dx' (fArea ⟨x, y, w, hh⟩))) x' = some (.ins a.c_Area dx' (fArea ⟨x, y, w, hh⟩)) := upd_same
      have e0 : ([("x", V.int x), ("y", V.int y), ("wide", nV w), ("high", nV hh)] : List (Str × V)) = fArea ⟨x, y, w, hh⟩ := rfl
      rw [e0]
      generalize (upd (upd (upd H dx' (.own x')) x' (.ins a.c_Area dx' [])) x' (.ins a.c_Area dx' (fArea ⟨x, y, w, hh⟩))) = H1 at s1 hx1 ⊢
      have hse1 := s1 _ _ hse
      refine ⟨_, rfl, se, _, dx, _, _, rfl, hse1, T.cl_Search, T.na_Search_crafts, rfl, _, rfl, se, _, dx, _, _, rfl, hse1, T.cl_Search, T.na_Search_plan, rfl, _, rfl, se, _, dx, _, _, rfl, hse1, T.cl_Search, T.na_Search_hour, rfl, se, dx, ch, dc, lb, la, va, vc, .non, vh, _, _, _, _, bs, fs, rfl, hM.same (s.trans s1), past_le hB hd, fun H2 lb' la' t nlb nla nt hM2 ht cg => ?_⟩
      refine cEnd (become_end ok hM hA hB s s1 ⟨⟨x', rfl, dx', own_new nx hx1⟩, (hA.same (own_old s s1)).craft, ?_, hA.hour⟩ nlb nla nt hM2 ht cg) k rfl
      show planV a _ .non d.now.plan
      rw [ep]; rfl
theorem len_Search_sl_craft (h : sp_Search_sl_craft K a vs H Q E) : vs.length = p_Search_sl_craft.length := by obtain ⟨_, _, _, _, rfl, _⟩ := h; rfl
theorem rd_Search_sl_craft (T : Txt K mg a) (h : sp_Search_sl_craft K a vs H Q E) : t_Search_sl_craft K a { nx := fun _ H' => Q .non H', rt := Q } (L2.start n_Search_sl_craft vs) H := by
  obtain ⟨se, v, e, t, rfl, H0, d, hS, s, k⟩ := h
  have hS' := hS
  obtain ⟨hd, dx, ch, dc, lb, la, va, vc, vp, vh, bs, fs, hM, hA, hB, hF⟩ := hS
  have hse := s _ _ hM.fse
  obtain ⟨l, rfl, ps, hl0, hcs⟩ := hA.craft
  have hl := rem_sub s _ _ hl0
  have hlen := hcs.len
  have hn4 := hd.now.len
  refine ⟨_, rfl, _, rfl, _, rfl, v, e, t, rfl, _, rfl, ?_⟩
  have ok := act_ok hd (.craft v e t)
  unfold Km445.act at k ok; dsimp only at k ok
  by_cases hc : 1 ≤ v ∧ v ≤ 500 ∧ e ≤ 200 ∧ 1 ≤ t ∧ t ≤ 100
  · rw [if_neg (by omega)] at k ok
    rw [decide_eq_true hc]
    refine iteF ⟨_, rfl, se, _, dx, _, _, rfl, hse, T.cl_Search, T.na_Search_crafts, rfl, l, _, rfl, .inl (SqL.of hl), rfl, _, rfl, ?_⟩
    by_cases h4 : 4 ≤ d.now.craft.length
    · rw [if_pos (by unfold Km445.CRAFT; exact h4)] at k
      rw [decide_eq_true (show V.int ((ps.map V.ref).length : Int) = V.int 4 by rw [List.length_map, show ps.length = 4 by omega]; rfl)]
      exact iteT (qEnd hS' s (Same.refl _) k rfl)
    · rw [if_neg (by unfold Km445.CRAFT; exact h4)] at k ok
      rw [decide_eq_false (show ¬ V.int ((ps.map V.ref).length : Int) = V.int 4 by rw [List.length_map]; intro z; injection z with z; omega)]
      refine iteF ⟨_, rfl, se, _, dx, _, _, rfl, hse, T.cl_Search, T.na_Search_plan, rfl, rfl, _, rfl, ?_⟩
      cases ep : d.now.plan with
      | some pl =>
        obtain ⟨q, rfl, _⟩ := hp_some hA.plan ep
        rw [if_pos (show d.now.plan.isSome = true by rw [ep]; rfl)] at k
        exact iteT (qEnd hS' s (Same.refl _) k rfl)
      | none =>
        cases hp_none hA.plan ep
        rw [if_neg (show ¬ d.now.plan.isSome = true by rw [ep]; decide)] at k ok
        refine iteF ⟨_, rfl, se, dx, _, rfl, hse, rfl, _, rfl, se, _, dx, _, _, rfl, hse, T.cl_Search, T.na_Search_area, rfl, _, rfl, se, _, dx, _, _, rfl, hse, T.cl_Search, T.na_Search_crafts, rfl, _, rfl, _, rfl, _, rfl, fun x' dx' nx nd ne => ⟨x', dx', v, e, t, rfl, upd_same, hc.2.2.1, rfl, ?_⟩⟩
        have s1 : Same H (upd (upd (upd H dx' (.own x')) x' (.ins a.c_Craft dx' [])) x' (.ins a.c_Craft dx' (fCraft ⟨v, e, t⟩))) := same_upd (same_upd (same_upd (Same.refl H) nd) nx) nx
        have hx1 : (upd (upd (upd H dx' (.own x')) x' (.ins a.c_Craft dx' [])) x' (.ins a.c_Craft dx' (fCraft ⟨v, e, t⟩))) x' = some (.ins a.c_Craft dx' (fCraft ⟨v, e, t⟩)) := upd_same
        generalize (upd (upd (upd H dx' (.own x')) x' (.ins a.c_Craft dx' [])) x' (.ins a.c_Craft dx' (fCraft ⟨v, e, t⟩))) = H1 at s1 hx1 ⊢
        refine ⟨(by show 1 ≤ sizeLine; decide), fun b hb => ⟨l, b, _, _, rfl, rfl, same_new hb _ _ (s1 _ _ hl), upd_same, ?_, fun nl hnl => ?_⟩⟩
        · rw [List.length_map]; show _ + 1 ≤ sizeLine; exact Nat.le_of_lt (small1000 (by omega))
        have s2 := same_upd (o := .lst (ps.map V.ref ++ [.ref x'])) (same_upd (o := .lst [.ref x']) s1 (s1.free hb)) (s1.free (upd_none hnl).2)
        have hx2 := same_new (o := .lst (ps.map V.ref ++ [.ref x'])) hnl _ _ (same_new (o := .lst [.ref x']) hb _ _ hx1)
        have hn2 : (upd (upd H1 b (.lst [.ref x'])) nl (.lst (ps.map V.ref ++ [.ref x']))) nl = some (.lst (ps.map V.ref ++ [.ref x'])) := upd_same
        have nnl : H nl = none := s1.free (upd_none hnl).2
        generalize (upd (upd H1 b (.lst [.ref x'])) nl (.lst (ps.map V.ref ++ [.ref x']))) = H2 at s2 hx2 hn2 ⊢
        have hse2 := s2 _ _ hse
        refine ⟨_, rfl, se, _, dx, _, _, rfl, hse2, T.cl_Search, T.na_Search_plan, rfl, _, rfl, se, _, dx, _, _, rfl, hse2, T.cl_Search, T.na_Search_hour, rfl, se, dx, ch, dc, lb, la, va, .ref l, .non, vh, _, _, _, _, bs, fs, rfl, hM.same (s.trans s2), past_le hB hd, fun H3 lb' la' t' nlb nla nt hM2 ht cg => ?_⟩
        have q1 : nl ≠ se := se_ne hse nnl
        have q2 : nl ≠ ch := se_ne (s _ _ hM.fch) nnl
        refine ⟨_, rfl, se, _, dx, _, _, rfl, hM2.fse, T.cl_Search, T.na_Search_crafts, rfl, nl, _, rfl, .inl (SqL.of (cg.1 _ _ hn2 (by simp [q1, q2]))), _, _, rfl, rfl, cEnd (become_end ok hM hA hB s s2 ⟨(hA.same (own_old s s2)).area, ⟨nl, rfl, ps ++ [x'], ?_, CrL.append (hcs.same (own_old s s2)) ⟨⟨dx', own_new nx hx2⟩, trivial⟩⟩, ?_, hA.hour⟩ nlb nla nt hM2 ht cg) k ?_⟩
        · rw [List.map_append]
          exact own_new nnl hn2
        · show planV a _ .non d.now.plan
          rw [ep]; rfl
        · have ee : (((ps.map V.ref ++ [V.ref x']).length : Nat) : Int) - 1 = ((d.now.craft.length : Nat) : Int) := by
            rw [List.length_append, List.length_map, hlen]; simp
          show [V.int (_ - 1)] = _
          rw [ee]; rfl
  · rw [if_pos (by omega)] at k
    rw [decide_eq_false hc]
    exact iteT (qEnd hS' s (Same.refl _) k rfl)
theorem len_Search_sl_hours (h : sp_Search_sl_hours K a vs H Q E) : vs.length = p_Search_sl_hours.length := by obtain ⟨_, _, rfl, _⟩ := h; rfl
theorem rd_Search_sl_hours (T : Txt K mg a) (h : sp_Search_sl_hours K a vs H Q E) : t_Search_sl_hours K a { nx := fun _ H' => Q .non H', rt := Q } (L2.start n_Search_sl_hours vs) H := by
  obtain ⟨se, n, rfl, H0, d, hS, s, k⟩ := h
  have hS' := hS
  obtain ⟨hd, dx, ch, dc, lb, la, va, vc, vp, vh, bs, fs, hM, hA, hB, hF⟩ := hS
  have hse := s _ _ hM.fse
  cases hA.hour
  have ok := act_ok hd (.hours n)
  unfold Km445.act at k ok; dsimp only at k ok
  refine ⟨_, rfl, _, _, rfl, rfl, _, rfl, ite2 (fun e1 => ?_) (fun e1 => ?_)⟩
  · have e1' : (1 : Int) ≤ (n : Int) := of_decide_eq_true e1
    refine ⟨_, _, rfl, rfl, _, rfl, ?_⟩
    by_cases e2 : n ≤ 100
    · rw [decide_eq_true (show (n : Int) ≤ 100 by omega)]
      rw [if_neg (by omega)] at k ok
      refine iteF ⟨_, rfl, se, _, dx, _, _, rfl, hse, T.cl_Search, T.na_Search_plan, rfl, rfl, _, rfl, ?_⟩
      cases ep : d.now.plan with
      | none =>
        cases hp_none hA.plan ep
        rw [ep] at k
        exact iteT (qEnd hS' s (Same.refl _) k rfl)
      | some pl =>
        obtain ⟨q, rfl, dq, ls, hq0, hls⟩ := hp_some hA.plan ep
        have hq := rem_sub s _ _ hq0
        rw [ep] at k ok
        dsimp only at k ok
        refine iteF ⟨_, rfl, se, _, dx, _, _, rfl, hse, T.cl_Search, T.na_Search_hour, rfl, _, rfl, _, _, rfl, rfl, _, rfl, se, _, dx, _, _, rfl, hse, T.cl_Search, T.na_Search_plan, rfl, q, _, dq, _, _, rfl, hq, T.cl_Plan, T.na_Plan_hours, rfl, _, _, rfl, rfl, _, rfl, ?_⟩
        by_cases e3 : pl.hours < d.now.time + n
        · rw [if_pos e3] at k
          rw [decide_eq_true (show (pl.hours : Int) < (d.now.time : Int) + (n : Int) by omega)]
          exact iteT (qEnd hS' s (Same.refl _) k rfl)
        · rw [if_neg e3] at k ok
          rw [decide_eq_false (show ¬ (pl.hours : Int) < (d.now.time : Int) + (n : Int) by omega)]
          refine iteF ⟨_, rfl, se, dx, _, rfl, hse, rfl, _, rfl, se, _, dx, _, _, rfl, hse, T.cl_Search, T.na_Search_area, rfl, _, rfl, se, _, dx, _, _, rfl, hse, T.cl_Search, T.na_Search_crafts, rfl, _, rfl, se, _, dx, _, _, rfl, hse, T.cl_Search, T.na_Search_plan, rfl, _, rfl, se, _, dx, _, _, rfl, hse, T.cl_Search, T.na_Search_hour, rfl, _, rfl, _, _, rfl, rfl, se, dx, ch, dc, lb, la, va, vc, .ref q, nV d.now.time, _, _, _, _, bs, fs, rfl, hM.same s, past_le hB hd, fun H2 lb' la' t nlb nla nt hM2 ht cg => ?_⟩
          have A' := hA.same (own_old (M := [se, ch, lb, la]) s (Same.refl H))
          refine ⟨_, rfl, se, _, dx, _, _, rfl, hM2.fse, T.cl_Search, T.na_Search_hour, rfl, cEnd (become_end ok hM hA hB s (Same.refl H) ⟨A'.area, A'.craft, ?_, rfl⟩ nlb nla nt hM2 ht cg) k rfl⟩
          have := A'.plan
          rw [ep] at this
          exact this
    · rw [decide_eq_false (show ¬ (n : Int) ≤ 100 by omega)]
      rw [if_pos (by omega)] at k
      exact iteT (qEnd hS' s (Same.refl _) k rfl)
  · have e1' : ¬ (1 : Int) ≤ (n : Int) := fun z => e1 (decide_eq_true z)
    rw [if_pos (by omega)] at k
    exact ⟨_, rfl, iteT (qEnd hS' s (Same.refl _) k rfl)⟩
theorem len_Search_sl_drop (h : sp_Search_sl_drop K a vs H Q E) : vs.length = p_Search_sl_drop.length := by obtain ⟨_, _, rfl, _⟩ := h; rfl
theorem rd_Search_sl_drop (T : Txt K mg a) (h : sp_Search_sl_drop K a vs H Q E) : t_Search_sl_drop K a { nx := fun _ H' => Q .non H', rt := Q } (L2.start n_Search_sl_drop vs) H := by
  obtain ⟨se, n, rfl, H0, d, hS, s, k⟩ := h
  have hS' := hS
  obtain ⟨hd, dx, ch, dc, lb, la, va, vc, vp, vh, bs, fs, hM, hA, hB, hF⟩ := hS
  have hse := s _ _ hM.fse
  obtain ⟨l, rfl, ps, hl0, hcs⟩ := hA.craft
  have hl := rem_sub s _ _ hl0
  have hlen := hcs.len
  have hn4 := hd.now.len
  have ok := act_ok hd (.drop n)
  unfold Km445.act at k ok; dsimp only at k ok
  refine ⟨_, rfl, _, rfl, se, _, dx, _, _, rfl, hse, T.cl_Search, T.na_Search_crafts, rfl, l, _, rfl, .inl (SqL.of hl), _, _, rfl, rfl, _, rfl, ?_⟩
  by_cases hk : d.now.craft.length ≤ n
  · rw [if_pos hk] at k
    rw [decide_eq_true (show ((ps.map V.ref).length : Int) ≤ (n : Int) by rw [List.length_map]; omega)]
    exact iteT (qEnd hS' s (Same.refl _) k rfl)
  · rw [if_neg hk] at k ok
    rw [decide_eq_false (show ¬ ((ps.map V.ref).length : Int) ≤ (n : Int) by rw [List.length_map]; omega)]
    refine iteF ⟨_, rfl, se, dx, _, rfl, hse, rfl, _, rfl, se, _, dx, _, _, rfl, hse, T.cl_Search, T.na_Search_area, rfl, _, rfl, se, _, dx, _, _, rfl, hse, T.cl_Search, T.na_Search_crafts, rfl, _, rfl, _, rfl, l, _, rfl, SqL.of hl, fun b hb => ?_⟩
    rw [cut_lo]
    have s1 : Same H (upd H b (.lst ((ps.map V.ref).take n))) := same_new hb
    have h1 : (upd H b (.lst ((ps.map V.ref).take n))) b = some (.lst ((ps.map V.ref).take n)) := upd_same
    generalize (upd H b (.lst ((ps.map V.ref).take n))) = H1 at s1 h1 ⊢
    refine ⟨_, rfl, se, _, dx, _, _, rfl, s1 _ _ hse, T.cl_Search, T.na_Search_crafts, rfl, _, rfl, _, _, rfl, rfl, _, rfl, l, _, rfl, SqL.of (s1 _ _ hl), fun c hc => ?_⟩
    rw [show ((n : Int) + 1) = ((n + 1 : Nat) : Int) from rfl, cut_hi]
    have nc := s1.free hc
    have s2 : Same H (upd H1 c (.lst ((ps.map V.ref).drop (n + 1)))) := same_upd s1 nc
    have h2 : (upd H1 c (.lst ((ps.map V.ref).drop (n + 1)))) c = some (.lst ((ps.map V.ref).drop (n + 1))) := upd_same
    have h1' := same_new (o := .lst ((ps.map V.ref).drop (n + 1))) hc _ _ h1
    generalize (upd H1 c (.lst ((ps.map V.ref).drop (n + 1)))) = H2 at s2 h2 h1' ⊢
    refine ⟨b, c, _, _, rfl, rfl, h1', h2, ?_, fun nl hnl => ?_⟩
    · rw [List.length_take, List.length_drop, List.length_map]; exact Nat.le_of_lt (small1000 (by omega))
    have ee : (ps.map V.ref).take n ++ (ps.map V.ref).drop (n + 1) = (ps.eraseIdx n).map V.ref := by
      rw [List.eraseIdx_eq_take_drop_succ, List.map_append, List.map_take, List.map_drop]
    rw [ee]
    have nnl := s2.free hnl
    have s3 : Same H (upd H2 nl (.lst ((ps.eraseIdx n).map V.ref))) := same_upd s2 nnl
    have hn3 : (upd H2 nl (.lst ((ps.eraseIdx n).map V.ref))) nl = some (.lst ((ps.eraseIdx n).map V.ref)) := upd_same
    generalize (upd H2 nl (.lst ((ps.eraseIdx n).map V.ref))) = H3 at s3 hn3 ⊢
    refine ⟨se, dx, ch, dc, lb, la, va, .ref l, vp, vh, _, _, _, _, bs, fs, rfl, hM.same (s.trans s3), past_le hB hd, fun H4 lb' la' t nlb nla nt hM2 ht cg => ?_⟩
    have q1 : nl ≠ se := se_ne hse nnl
    have q2 : nl ≠ ch := se_ne (s _ _ hM.fch) nnl
    refine ⟨_, rfl, se, _, dx, _, _, rfl, hM2.fse, T.cl_Search, T.na_Search_crafts, rfl, nl, _, rfl, .inl (SqL.of (cg.1 _ _ hn3 (by simp [q1, q2]))), ?_⟩
    refine cEnd (become_end ok hM hA hB s s3 ⟨(hA.same (own_old s s3)).area, ⟨nl, rfl, ps.eraseIdx n, own_new nnl hn3, (hcs.same (own_old s s3)).erase n⟩, rfl, rfl⟩ nlb nla nt hM2 ht cg) k ?_
    have e5 : (((ps.eraseIdx n).map V.ref).length : Int) = ((d.now.craft.length - 1 : Nat) : Int) := by
      rw [List.length_map, List.length_eraseIdx_of_lt (by omega), hlen]
    rw [e5]; rfl
theorem len_Search_sl_take (h : sp_Search_sl_take K a vs H Q E) : vs.length = p_Search_sl_take.length := by obtain ⟨_, rfl, _⟩ := h; rfl
theorem rd_Search_sl_take (T : Txt K mg a) (h : sp_Search_sl_take K a vs H Q E) : t_Search_sl_take K a { nx := fun _ H' => Q .non H', rt := Q } (L2.start n_Search_sl_take vs) H := by
  obtain ⟨se, rfl, H0, d, hS, s, k⟩ := h
  have hS' := hS
  obtain ⟨hd, dx, ch, dc, lb, la, va, vc, vp, vh, bs, fs, hM, hA, hB, hF⟩ := hS
  have hse := s _ _ hM.fse
  obtain ⟨l, rfl, hl0⟩ := hA.craft
  obtain ⟨p, rfl, hp0⟩ := hA.area
  have ok := act_ok hd .take
  unfold Km445.act at k ok; dsimp only at k ok
  refine ⟨_, rfl, se, _, dx, _, _, rfl, hse, T.cl_Search, T.na_Search_plan, rfl, rfl, _, rfl, ?_⟩
  cases ep : d.now.plan with
  | some pl =>
    obtain ⟨q, rfl, _⟩ := hp_some hA.plan ep
    rw [if_pos (show d.now.plan.isSome = true by rw [ep]; rfl)] at k
    exact iteT (qEnd hS' s (Same.refl _) k rfl)
  | none =>
    cases hp_none hA.plan ep
    rw [if_neg (show ¬ d.now.plan.isSome = true by rw [ep]; decide), planned_eq] at k ok
    refine iteF ⟨_, rfl, se, _, dx, _, _, rfl, hse, T.cl_Search, T.na_Search_area, rfl, _, rfl, se, _, dx, _, _, rfl, hse, T.cl_Search, T.na_Search_crafts, rfl, p, l, d.now.area, d.now.craft, rfl, hp0.same (rem_sub s), hl0.same (rem_sub s), hd.now.area, hd.now.craft, hd.now.len, fun en H1 s1 => ?_, fun pl en H1 q s1 hq => ?_⟩
    · rw [en] at k
      exact ⟨_, rfl, rfl, _, rfl, iteT (qEnd hS' s s1 k rfl)⟩
    · rw [en] at k ok
      dsimp only at k ok
      obtain ⟨dq, ls, nq, nls, hq1, hls1⟩ := hq
      have hse1 := s1 _ _ hse
      refine ⟨_, rfl, rfl, _, rfl, iteF ⟨_, rfl, se, dx, _, rfl, hse1, rfl, _, rfl, se, _, dx, _, _, rfl, hse1, T.cl_Search, T.na_Search_area, rfl, _, rfl, se, _, dx, _, _, rfl, hse1, T.cl_Search, T.na_Search_crafts, rfl, _, rfl, se, dx, ch, dc, lb, la, .ref p, .ref l, .non, vh, _, _, _, _, bs, fs, rfl, hM.same (s.trans s1), past_le hB hd, fun H2 lb' la' t nlb nla nt hM2 ht cg => ?_⟩⟩
      have hq2 := cg.1 _ _ hq1 (by simp [se_ne hse nq, se_ne (s _ _ hM.fch) nq])
      refine ⟨_, rfl, q, _, dq, _, _, rfl, hq2, T.cl_Plan, T.na_Plan_hours, rfl, _, rfl, q, _, dq, _, _, rfl, hq2, T.cl_Plan, T.na_Plan_way, rfl, pl.along, rfl, ?_⟩
      exact cEnd (become_end ok hM hA hB s s1 ⟨(hA.same (own_old s s1)).area, (hA.same (own_old s s1)).craft, ⟨q, rfl, dq, ls, own_new nq hq1, own_new nls hls1⟩, rfl⟩ nlb nla nt hM2 ht cg) k rfl
theorem len_Search_sl_start (h : sp_Search_sl_start K a vs H Q E) : vs.length = p_Search_sl_start.length := by obtain ⟨_, _, _, _, _, rfl, _⟩ := h; rfl
theorem rd_Search_sl_start (T : Txt K mg a) (h : sp_Search_sl_start K a vs H Q E) : t_Search_sl_start K a { nx := fun _ H' => Q .non H', rt := Q } (L2.start n_Search_sl_start vs) H := by
  obtain ⟨se, x, y, w, hh, rfl, H0, S, hS, s, k1, k2⟩ := h
  obtain ⟨dx, va, vc, vp, vh, ch0, hse0⟩ := hS.fields
  have hse := s _ _ hse0
  refine ⟨_, rfl, _, rfl, _, rfl, _, rfl, x, y, w, hh, rfl, _, rfl, ?_⟩
  cases e : Km445.okArea x y w hh with
  | false => exact iteT (qEnd hS s (Same.refl _) (k1 e) rfl)
  | true =>
    have k := k2 e
    refine iteF ⟨_, rfl, se, dx, _, rfl, hse, rfl, _, rfl, _, rfl, _, rfl, _, rfl, fun x' dx' nx nd ne => ⟨x', dx', _, _, _, _, rfl, upd_same, rfl, ?_⟩⟩
    have s1 : Same H (upd (upd (upd H dx' (.own x')) x' (.ins a.c_Area dx' [])) x' (.ins a.c_Area dx' (fArea ⟨x, y, w, hh⟩))) := same_upd (same_upd (same_upd (Same.refl H) nd) nx) nx
    have hx1 : (upd (upd (upd H dx' (.own x')) x' (.ins a.c_Area dx' [])) x' (.ins a.c_Area dx' (fArea ⟨x, y, w, hh⟩))) x' = some (.ins a.c_Area dx' (fArea ⟨x, y, w, hh⟩)) := upd_same
    have e0 : ([("x", V.int x), ("y", V.int y), ("wide", nV w), ("high", nV hh)] : List (Str × V)) = fArea ⟨x, y, w, hh⟩ := rfl
    rw [e0]
    generalize (upd (upd (upd H dx' (.own x')) x' (.ins a.c_Area dx' [])) x' (.ins a.c_Area dx' (fArea ⟨x, y, w, hh⟩))) = H1 at s1 hx1 ⊢
    refine ⟨Nat.zero_le _, fun nl hnl => ⟨(by show 4 ≤ sizeLine; decide), fun t ht => ?_⟩⟩
    have s2 : Same H (upd (upd H1 nl (.lst [])) t (.tup [.ref x', .ref nl, .non, .int 0])) := same_upd (same_upd s1 (s1.free hnl)) (s1.free (upd_none ht).2)
    have m2 : Same H1 (upd (upd H1 nl (.lst [])) t (.tup [.ref x', .ref nl, .non, .int 0])) := same_upd (same_new hnl) (upd_none ht).2
    have hn2 := same_new (o := .tup [.ref x', .ref nl, .non, .int 0]) ht nl _ upd_same
    have ht2 : (upd (upd H1 nl (.lst [])) t (.tup [.ref x', .ref nl, .non, .int 0])) t = some (.tup [.ref x', .ref nl, .non, .int 0]) := upd_same
    have hx2 := m2 _ _ hx1
    have nnl : H nl = none := s1.free hnl
    generalize (upd (upd H1 nl (.lst [])) t (.tup [.ref x', .ref nl, .non, .int 0])) = H2 at s2 m2 hn2 ht2 hx2 ⊢
    refine ⟨se, dx, t, _, _, _, _, rfl, ht2, .inr ⟨_, _, _, _, _, s2 _ _ hse, ?_⟩⟩
    intro ch dc nch ndc nne
    have n1 : ch ≠ se := (upd_none nch).1
    have n2 : dc ≠ se := (upd_none ndc).1
    refine ⟨ch, dc, rfl, upd_same, fun H3 lb la nlb nla nba hch hlb hla cg => ⟨rfl, ?_⟩⟩
    have c1 : Chg [se] H (upd (upd (upd H2 se (.ins a.c_Search dx (fSe (.ref x') (.ref nl) .non (.int 0) ch0))) dc (.own ch)) ch (.ins a.c_Changes dc [])) :=
      ((((Same.chg s2).set (by simp)).new ndc).new ((upd_ne nne.symm).trans nch))
    have c2 : Chg [se] H2 (upd (upd (upd H2 se (.ins a.c_Search dx (fSe (.ref x') (.ref nl) .non (.int 0) ch0))) dc (.own ch)) ch (.ins a.c_Changes dc [])) :=
      ((((Chg.refl).set (by simp)).new ndc).new ((upd_ne nne.symm).trans nch))
    have nchH : H ch = none := s2.free (upd_none nch).2
    have hse3 : H3 se = some (.ins a.c_Search dx (fSe (.ref x') (.ref nl) .non (.int 0) ch0)) :=
      cg.1 _ _ (by rw [upd_ne n1.symm, upd_ne n2.symm, upd_same]) (by simp [n1.symm])
    have nH : ∀ z, (upd (upd (upd H2 se (.ins a.c_Search dx (fSe (.ref x') (.ref nl) .non (.int 0) ch0))) dc (.own ch)) ch (.ins a.c_Changes dc [])) z = none → H z = none ∧ H2 z = none := fun z hz => ⟨c1.2 z hz, c2.2 z hz⟩
    have q1 := nH lb nlb
    have q2 := nH la nla
    refine ⟨_, rfl, se, _, dx, _, rfl, hse3, T.cl_Search, T.na_Search_changes, (by show 5 < 1000; decide), ?_⟩
    have c3 : Chg [se] H (upd H3 se (.ins a.c_Search dx (fSe (.ref x') (.ref nl) .non (.int 0) ch))) := Chg.set (Chg.trans (M' := [ch]) c1 cg fun x hx => by
      rw [List.mem_singleton] at hx; subst hx; exact .inr nchH) (by simp)
    have c4 : Chg [se] H2 (upd H3 se (.ins a.c_Search dx (fSe (.ref x') (.ref nl) .non (.int 0) ch))) := Chg.set (Chg.trans (M' := [ch]) c2 cg fun x hx => by
      rw [List.mem_singleton] at hx; subst hx; exact .inr (upd_none nch).2) (by simp)
    have hse4 : (upd H3 se (.ins a.c_Search dx (fSe (.ref x') (.ref nl) .non (.int 0) ch))) se = some (.ins a.c_Search dx (fSe (.ref x') (.ref nl) .non (.int 0) ch)) := upd_same
    have hch4 := (upd_ne (H := H3) (o := .ins a.c_Search dx (fSe (.ref x') (.ref nl) .non (.int 0) ch)) n1).trans hch
    have hlb4 := (upd_ne (H := H3) (o := .ins a.c_Search dx (fSe (.ref x') (.ref nl) .non (.int 0) ch)) (se_ne hse q1.1)).trans hlb
    have hla4 := (upd_ne (H := H3) (o := .ins a.c_Search dx (fSe (.ref x') (.ref nl) .non (.int 0) ch)) (se_ne hse q2.1)).trans hla
    have e1 : putF "changes" (V.ref ch) (fSe (.ref x') (.ref nl) .non (.int 0) ch0) = fSe (.ref x') (.ref nl) .non (.int 0) ch := rfl
    rw [e1]
    generalize (upd H3 se (.ins a.c_Search dx (fSe (.ref x') (.ref nl) .non (.int 0) ch))) = H4 at c3 c4 hse4 hch4 hlb4 hla4 ⊢
    have nxs : x' ≠ se := se_ne hse nx
    have nns : nl ≠ se := se_ne hse nnl
    have hx4 := c4.1 _ _ hx2 (by simp [nxs])
    have hn4 := c4.1 _ _ hn2 (by simp [nns])
    have up := (upd_none nch).2
    refine cEnd (S := some (Km445.fresh x y w hh)) (H_0 := H0) (H := H) ⟨⟨⟨opened_ok e, (by intro q hq; cases hq), (by intro q hq; cases hq), by show 0 + 0 ≤ 20; omega⟩, dx, ch, dc, lb, la, .ref x', .ref nl, .non, .int 0, [], [], ⟨(res_old hse0).trans hse4, (res_new nchH).trans hch4, (res_new q1.1).trans hlb4, (res_new q2.1).trans hla4, nba⟩, ⟨⟨x', rfl, dx', rem_some.mpr ⟨?_, (res_new nx).trans hx4⟩⟩, ⟨nl, rfl, [], rem_some.mpr ⟨?_, (res_new nnl).trans hn4⟩, trivial⟩, rfl, rfl⟩, trivial, trivial⟩, fun b o h n => ?_, c3.2⟩ k rfl
    · simp [nxs, ne_of_none hx2 up, ne_of_none hx2 q1.2, ne_of_none hx2 q2.2]
    · simp [nns, ne_of_none hn2 up, ne_of_none hn2 q1.2, ne_of_none hn2 q2.2]
    · exact c3.1 b o h (by simp; intro z; rw [z, hse0] at n; cases n)
theorem len_Search_sl_back (h : sp_Search_sl_back K a vs H Q E) : vs.length = p_Search_sl_back.length := by obtain ⟨_, rfl, _⟩ := h; rfl
theorem rd_Search_sl_back (T : Txt K mg a) (h : sp_Search_sl_back K a vs H Q E) : t_Search_sl_back K a { nx := fun _ H' => Q .non H', rt := Q } (L2.start n_Search_sl_back vs) H := by
  obtain ⟨se, rfl, H0, d, hS, s, k⟩ := h
  have hS' := hS
  obtain ⟨hd, dx, ch, dc, lb, la, va, vc, vp, vh, bs, fs, hM, hA, hB, hF⟩ := hS
  have hse := s _ _ hM.fse
  have hch := s _ _ hM.fch
  have hlb := s _ _ hM.flb
  have hla := s _ _ hM.fla
  have ok := act_ok hd .back
  unfold Km445.act at k ok; dsimp only at k ok
  have b20 := past_le hB hd
  have f20 := future_le hF hd
  have n1 := hM.ne1
  refine ⟨_, rfl, se, _, dx, _, _, rfl, hse, T.cl_Search, T.na_Search_changes, rfl, ch, _, dc, _, _, rfl, hch, T.cl_Changes, T.na_Changes_behind, rfl, lb, _, rfl, .inl (SqL.of hlb), rfl, _, rfl, ?_⟩
  cases eb : d.past with
  | nil =>
    rw [eb] at k
    rw [eb] at hB
    cases bs with
    | cons => exact hB.elim
    | nil => exact iteT (qEnd hS' s (Same.refl _) k rfl)
  | cons k0 r =>
    have hB' := hB
    rw [eb] at k ok hB'
    cases bs with
    | nil => exact hB'.elim
    | cons v bs =>
    dsimp only at k ok
    obtain ⟨⟨t0, va0, vc0, vp0, vh0, rfl, ht0, hA0⟩, hB1⟩ := hB'
    have hl : ((V.ref t0 :: bs).reverse).length = bs.length + 1 := by rw [List.length_reverse]; rfl
    rw [decide_eq_false (show ¬ V.int (((V.ref t0 :: bs).reverse).length : Int) = V.int 0 by rw [hl]; intro z; injection z with z; omega)]
    refine iteF ⟨_, rfl, se, dx, _, rfl, hse, rfl, _, rfl, se, _, dx, _, _, rfl, hse, T.cl_Search, T.na_Search_changes, rfl, ch, dc, _, rfl, hch, rfl, _, rfl, se, dx, _, rfl, hse, rfl, se, dx, va, vc, vp, vh, ch, rfl, hse, fun t nt => ?_⟩
    have s1 := same_new (o := .tup [va, vc, vp, vh]) nt
    refine ⟨ch, dc, lb, la, .ref t, .ref t0, bs, fs, rfl, s1 _ _ hch, s1 _ _ hlb, s1 _ _ hla, hM.fne, f20, ?_⟩
    have m1 : se ≠ lb := ne_of hse hlb (by intro z; cases z)
    have m2 : se ≠ la := ne_of hse hla (by intro z; cases z)
    have m3 : ch ≠ lb := ne_of hch hlb (by intro z; cases z)
    have m4 : ch ≠ la := ne_of hch hla (by intro z; cases z)
    have g0 := rem_sub s _ _ ht0
    have m5 : t0 ≠ lb := ne_of g0 hlb (by intro z; cases z)
    have m6 : t0 ≠ la := ne_of g0 hla (by intro z; cases z)
    have m7 : t ≠ lb := se_ne hlb nt
    have m8 : t ≠ la := se_ne hla nt
    have m9 : t ≠ se := se_ne hse nt
    have c1 : Chg [se, ch, lb, la] H (upd (upd (upd H t (.tup [va, vc, vp, vh])) la (.lst (.ref t :: fs).reverse)) lb (.lst bs.reverse)) := ((Same.chg s1).set (by simp)).set (by simp)
    have h1 : (upd (upd (upd H t (.tup [va, vc, vp, vh])) la (.lst (.ref t :: fs).reverse)) lb (.lst bs.reverse)) se = _ := ((upd_ne m1).trans (upd_ne m2)).trans (s1 _ _ hse)
    have h2 : (upd (upd (upd H t (.tup [va, vc, vp, vh])) la (.lst (.ref t :: fs).reverse)) lb (.lst bs.reverse)) ch = _ := ((upd_ne m3).trans (upd_ne m4)).trans (s1 _ _ hch)
    have h3 : (upd (upd (upd H t (.tup [va, vc, vp, vh])) la (.lst (.ref t :: fs).reverse)) lb (.lst bs.reverse)) lb = some (.lst bs.reverse) := upd_same
    have h4 : (upd (upd (upd H t (.tup [va, vc, vp, vh])) la (.lst (.ref t :: fs).reverse)) lb (.lst bs.reverse)) la = some (.lst (.ref t :: fs).reverse) := (upd_ne hM.fne.symm).trans upd_same
    have h5 : (upd (upd (upd H t (.tup [va, vc, vp, vh])) la (.lst (.ref t :: fs).reverse)) lb (.lst bs.reverse)) t = some (.tup [va, vc, vp, vh]) := ((upd_ne m7).trans (upd_ne m8)).trans upd_same
    have h6 : (upd (upd (upd H t (.tup [va, vc, vp, vh])) la (.lst (.ref t :: fs).reverse)) lb (.lst bs.reverse)) t0 = _ := ((upd_ne m5).trans (upd_ne m6)).trans (s1 _ _ g0)
    generalize (upd (upd (upd H t (.tup [va, vc, vp, vh])) la (.lst (.ref t :: fs).reverse)) lb (.lst bs.reverse)) = H1 at c1 h1 h2 h3 h4 h5 h6 ⊢
    refine ⟨se, dx, t0, va0, vc0, vp0, vh0, rfl, h6, .inr ⟨_, _, _, _, _, h1, ?_⟩⟩
    have M' : SMut a (upd H1 se (.ins a.c_Search dx (fSe va0 vc0 vp0 vh0 ch))) se dx ch dc lb la va0 vc0 vp0 vh0 bs (.ref t :: fs) := ⟨upd_same, (upd_ne n1.symm).trans h2, (upd_ne m1.symm).trans h3, (upd_ne m2.symm).trans h4, hM.fne⟩
    refine ⟨_, rfl, se, _, dx, _, _, rfl, M'.fse, T.cl_Search, T.na_Search_changes, rfl, ch, _, dc, _, _, rfl, M'.fch, T.cl_Changes, T.na_Changes_behind, rfl, lb, _, rfl, .inl (SqL.of M'.flb), cEnd (turn_end (d := d) ok hM s nt M' ((upd_ne m9).trans h5) (c1.set (by simp)) fun Hn sn hn => ⟨hA0.same sn, hB1.same sn, ⟨t, va, vc, vp, vh, rfl, hn, hA.same sn⟩, hF.same sn⟩) k ?_⟩
    rw [List.length_reverse, hB1.len]; rfl
theorem len_Search_sl_again (h : sp_Search_sl_again K a vs H Q E) : vs.length = p_Search_sl_again.length := by obtain ⟨_, rfl, _⟩ := h; rfl
theorem rd_Search_sl_again (T : Txt K mg a) (h : sp_Search_sl_again K a vs H Q E) : t_Search_sl_again K a { nx := fun _ H' => Q .non H', rt := Q } (L2.start n_Search_sl_again vs) H := by
  obtain ⟨se, rfl, H0, d, hS, s, k⟩ := h
  have hS' := hS
  obtain ⟨hd, dx, ch, dc, lb, la, va, vc, vp, vh, bs, fs, hM, hA, hB, hF⟩ := hS
  have hse := s _ _ hM.fse
  have hch := s _ _ hM.fch
  have hlb := s _ _ hM.flb
  have hla := s _ _ hM.fla
  have ok := act_ok hd .again
  unfold Km445.act at k ok; dsimp only at k ok
  have b20 := past_le hB hd
  have f20 := future_le hF hd
  have n1 := hM.ne1
  refine ⟨_, rfl, se, _, dx, _, _, rfl, hse, T.cl_Search, T.na_Search_changes, rfl, ch, _, dc, _, _, rfl, hch, T.cl_Changes, T.na_Changes_ahead, rfl, la, _, rfl, .inl (SqL.of hla), rfl, _, rfl, ?_⟩
  cases eb : d.future with
  | nil =>
    rw [eb] at k
    rw [eb] at hF
    cases fs with
    | cons => exact hF.elim
    | nil => exact iteT (qEnd hS' s (Same.refl _) k rfl)
  | cons k0 r =>
    have hF' := hF
    have hlen := hd.len
    rw [eb] at k ok hF' hlen
    have etk : (d.now :: d.past).take Km445.PAST = d.now :: d.past := List.take_of_length_le (by show d.past.length + 1 ≤ 20; rw [List.length_cons] at hlen; omega)
    rw [etk] at k ok
    cases fs with
    | nil => exact hF'.elim
    | cons v fs =>
    dsimp only at k ok
    obtain ⟨⟨t0, va0, vc0, vp0, vh0, rfl, ht0, hA0⟩, hF1⟩ := hF'
    have hl : ((V.ref t0 :: fs).reverse).length = fs.length + 1 := by rw [List.length_reverse]; rfl
    rw [decide_eq_false (show ¬ V.int (((V.ref t0 :: fs).reverse).length : Int) = V.int 0 by rw [hl]; intro z; injection z with z; omega)]
    refine iteF ⟨_, rfl, se, dx, _, rfl, hse, rfl, _, rfl, se, _, dx, _, _, rfl, hse, T.cl_Search, T.na_Search_changes, rfl, ch, dc, _, rfl, hch, rfl, _, rfl, se, dx, _, rfl, hse, rfl, se, dx, va, vc, vp, vh, ch, rfl, hse, fun t nt => ?_⟩
    have s1 := same_new (o := .tup [va, vc, vp, vh]) nt
    refine ⟨ch, dc, lb, la, .ref t, .ref t0, bs, fs, rfl, s1 _ _ hch, s1 _ _ hlb, s1 _ _ hla, hM.fne, b20, ?_⟩
    have m1 : se ≠ lb := ne_of hse hlb (by intro z; cases z)
    have m2 : se ≠ la := ne_of hse hla (by intro z; cases z)
    have m3 : ch ≠ lb := ne_of hch hlb (by intro z; cases z)
    have m4 : ch ≠ la := ne_of hch hla (by intro z; cases z)
    have g0 := rem_sub s _ _ ht0
    have m5 : t0 ≠ lb := ne_of g0 hlb (by intro z; cases z)
    have m6 : t0 ≠ la := ne_of g0 hla (by intro z; cases z)
    have m7 : t ≠ lb := se_ne hlb nt
    have m8 : t ≠ la := se_ne hla nt
    have m9 : t ≠ se := se_ne hse nt
    have c1 : Chg [se, ch, lb, la] H (upd (upd (upd H t (.tup [va, vc, vp, vh])) lb (.lst (.ref t :: bs).reverse)) la (.lst fs.reverse)) := ((Same.chg s1).set (by simp)).set (by simp)
    have h1 : (upd (upd (upd H t (.tup [va, vc, vp, vh])) lb (.lst (.ref t :: bs).reverse)) la (.lst fs.reverse)) se = _ := ((upd_ne m2).trans (upd_ne m1)).trans (s1 _ _ hse)
    have h2 : (upd (upd (upd H t (.tup [va, vc, vp, vh])) lb (.lst (.ref t :: bs).reverse)) la (.lst fs.reverse)) ch = _ := ((upd_ne m4).trans (upd_ne m3)).trans (s1 _ _ hch)
    have h3 : (upd (upd (upd H t (.tup [va, vc, vp, vh])) lb (.lst (.ref t :: bs).reverse)) la (.lst fs.reverse)) la = some (.lst fs.reverse) := upd_same
    have h4 : (upd (upd (upd H t (.tup [va, vc, vp, vh])) lb (.lst (.ref t :: bs).reverse)) la (.lst fs.reverse)) lb = some (.lst (.ref t :: bs).reverse) := (upd_ne hM.fne).trans upd_same
    have h5 : (upd (upd (upd H t (.tup [va, vc, vp, vh])) lb (.lst (.ref t :: bs).reverse)) la (.lst fs.reverse)) t = some (.tup [va, vc, vp, vh]) := ((upd_ne m8).trans (upd_ne m7)).trans upd_same
    have h6 : (upd (upd (upd H t (.tup [va, vc, vp, vh])) lb (.lst (.ref t :: bs).reverse)) la (.lst fs.reverse)) t0 = _ := ((upd_ne m6).trans (upd_ne m5)).trans (s1 _ _ g0)
    generalize (upd (upd (upd H t (.tup [va, vc, vp, vh])) lb (.lst (.ref t :: bs).reverse)) la (.lst fs.reverse)) = H1 at c1 h1 h2 h3 h4 h5 h6 ⊢
    refine ⟨se, dx, t0, va0, vc0, vp0, vh0, rfl, h6, .inr ⟨_, _, _, _, _, h1, ?_⟩⟩
    have M' : SMut a (upd H1 se (.ins a.c_Search dx (fSe va0 vc0 vp0 vh0 ch))) se dx ch dc lb la va0 vc0 vp0 vh0 (.ref t :: bs) fs := ⟨upd_same, (upd_ne n1.symm).trans h2, (upd_ne m1.symm).trans h4, (upd_ne m2.symm).trans h3, hM.fne⟩
    refine ⟨_, rfl, se, _, dx, _, _, rfl, M'.fse, T.cl_Search, T.na_Search_changes, rfl, ch, _, dc, _, _, rfl, M'.fch, T.cl_Changes, T.na_Changes_ahead, rfl, la, _, rfl, .inl (SqL.of M'.fla), cEnd (turn_end (d := d) ok hM s nt M' ((upd_ne m9).trans h5) (c1.set (by simp)) fun Hn sn hn => ⟨hA0.same sn, ⟨⟨t, va, vc, vp, vh, rfl, hn, hA.same sn⟩, hB.same sn⟩, hF1.same sn⟩) k ?_⟩
    rw [List.length_reverse, hF1.len]; rfl
end
end SL

end
section
set_option Elab.async false
set_option linter.all false
set_option maxRecDepth 100000
set_option maxHeartbeats 1000000
namespace SL
open PySem PySem.Spec PyProof.Rows L2
section
variable {K : PySem.W.Frag} {mg : Str → Option Value} {a : Ad} {vs : List V} {H : Hp} {Q : VK} {E : XK}
theorem way_is {w : Nat} (h : w ≤ 1) : (w : Int) = wayI (w == 0) := by
  rcases (show w = 0 ∨ w = 1 by omega) with rfl | rfl <;> rfl
theorem v2 {x : V} {w : Nat} {b : Bool} (h : (w : Int) = wayI b) : [x, nV w] ++ [] = [x, .int (wayI b)] := by rw [nV, h]; rfl
theorem v3 {x y : V} {w : Nat} {b : Bool} (h : (w : Int) = wayI b) : [x, y, nV w] ++ [] = [x, y, .int (wayI b)] := by rw [nV, h]; rfl
theorem v4 {x y z : V} {w : Nat} {b : Bool} (h : (w : Int) = wayI b) : [x, y, nV w, z] ++ [] = [x, y, .int (wayI b), z] := by rw [nV, h]; rfl
theorem one_is {s : Km445.Sea} {k : Nat} {c : Km445.Craft} (h : s.craft[k]? = some c) : s.one k = c := by
  unfold Km445.Sea.one; rw [List.getD_eq_getElem?_getD, h]; rfl
theorem len_Search_sl_soonest (h : sp_Search_sl_soonest K a vs H Q E) : vs.length = p_Search_sl_soonest.length := by obtain ⟨_, rfl, _⟩ := h; rfl
theorem rd_Search_sl_soonest (T : Txt K mg a) (h : sp_Search_sl_soonest K a vs H Q E) : t_Search_sl_soonest K a { nx := fun _ H' => Q .non H', rt := Q } (L2.start n_Search_sl_soonest vs) H := by
  obtain ⟨se, rfl, H0, d, hS, s, k⟩ := h
  have hS' := hS
  obtain ⟨hd, dx, va, vc, vp, vh, ch, M, hse0, hA⟩ := hS.now
  have hse := s _ _ hse0
  obtain ⟨l, rfl, hl0⟩ := hA.craft
  obtain ⟨p, rfl, hp0⟩ := hA.area
  unfold Km445.act at k; dsimp only at k
  rw [planned_eq] at k
  refine ⟨_, rfl, se, _, dx, _, _, rfl, hse, T.cl_Search, T.na_Search_area, rfl, _, rfl, se, _, dx, _, _, rfl, hse, T.cl_Search, T.na_Search_crafts, rfl, p, l, d.now.area, d.now.craft, rfl, hp0.same (rem_sub s), hl0.same (rem_sub s), hd.now.area, hd.now.craft, hd.now.len, fun en H1 s1 => ?_, fun pl en H1 q s1 hq => ?_⟩
  · rw [en] at k
    exact ⟨_, rfl, rfl, _, rfl, iteT (qEnd hS' s s1 k rfl)⟩
  · rw [en] at k
    obtain ⟨dq, ls, nq, nls, hq1, hls1⟩ := hq
    refine ⟨_, rfl, rfl, _, rfl, iteF ?_⟩
    exact ⟨_, rfl, q, _, dq, _, _, rfl, hq1, T.cl_Plan, T.na_Plan_hours, rfl, _, rfl, q, _, dq, _, _, rfl, hq1, T.cl_Plan, T.na_Plan_way, rfl, pl.along, rfl, qEnd hS' s s1 k rfl⟩
theorem len_Search_sl_by (h : sp_Search_sl_by K a vs H Q E) : vs.length = p_Search_sl_by.length := by obtain ⟨_, _, _, rfl, _⟩ := h; rfl
theorem rd_Search_sl_by (T : Txt K mg a) (h : sp_Search_sl_by K a vs H Q E) : t_Search_sl_by K a { nx := fun _ H' => Q .non H', rt := Q } (L2.start n_Search_sl_by vs) H := by
  obtain ⟨se, w, t, rfl, H0, d, hS, s, k⟩ := h
  have hS' := hS
  obtain ⟨hd, dx, va, vc, vp, vh, ch, M, hse0, hA⟩ := hS.now
  have hse := s _ _ hse0
  obtain ⟨l, rfl, hl0⟩ := hA.craft
  obtain ⟨p, rfl, hp0⟩ := hA.area
  unfold Km445.act at k; dsimp only at k
  refine ⟨_, rfl, _, _, rfl, rfl, _, rfl, ite2 (fun e1 => ?_) (fun e1 => ?_)⟩
  · have e1' : (1 : Int) < (w : Int) := of_decide_eq_true e1
    rw [if_pos (by omega)] at k
    exact iteT (qEnd hS' s (Same.refl _) k rfl)
  · have e1' : ¬ (1 : Int) < (w : Int) := fun z => e1 (decide_eq_true z)
    refine ⟨_, rfl, _, _, rfl, rfl, _, rfl, ?_⟩
    by_cases e2 : 100 < t
    · rw [if_pos (by unfold Km445.LATEST; omega)] at k
      rw [decide_eq_true (show (100 : Int) < (t : Int) by omega)]
      exact iteT (qEnd hS' s (Same.refl _) k rfl)
    · rw [if_neg (by unfold Km445.LATEST; omega)] at k
      rw [decide_eq_false (show ¬ (100 : Int) < (t : Int) by omega)]
      have hw := way_is (w := w) (by omega)
      refine iteF ⟨_, rfl, se, _, dx, _, _, rfl, hse, T.cl_Search, T.na_Search_area, rfl, _, rfl, p, d.now.area, w == 0, v2 hw, hp0.same (rem_sub s), ?_⟩
      refine ⟨_, rfl, _, rfl, se, _, dx, _, _, rfl, hse, T.cl_Search, T.na_Search_area, rfl, _, rfl, se, _, dx, _, _, rfl, hse, T.cl_Search, T.na_Search_crafts, rfl, _, rfl, _, rfl, p, l, d.now.area, d.now.craft, w == 0, t, v4 hw, hp0.same (rem_sub s), hl0.same (rem_sub s), hd.now.area, hd.now.craft, hd.now.len, fun H1 s1 => ?_⟩
      refine ⟨_, _, rfl, _, rfl, qEnd hS' s s1 k ?_⟩
      have ee : (if ((cov d.now.area d.now.craft (w == 0) t : Nat) : Int) < ((d.now.area.across (w == 0) : Nat) : Int) then ((cov d.now.area d.now.craft (w == 0) t : Nat) : Int) else ((d.now.area.across (w == 0) : Nat) : Int)) = ((min (d.now.covers (w == 0) t) (d.now.area.across (w == 0)) : Nat) : Int) := by
        show _ = ((min (cov d.now.area d.now.craft (w == 0) t) (d.now.area.across (w == 0)) : Nat) : Int)
        split <;> omega
      rw [ee]; rfl
theorem len_Search_sl_alone (h : sp_Search_sl_alone K a vs H Q E) : vs.length = p_Search_sl_alone.length := by obtain ⟨_, _, _, rfl, _⟩ := h; rfl
theorem rd_Search_sl_alone (T : Txt K mg a) (h : sp_Search_sl_alone K a vs H Q E) : t_Search_sl_alone K a { nx := fun _ H' => Q .non H', rt := Q } (L2.start n_Search_sl_alone vs) H := by
  obtain ⟨se, n, w, rfl, H0, d, hS, s, k⟩ := h
  have hS' := hS
  obtain ⟨hd, dx, va, vc, vp, vh, ch, M, hse0, hA⟩ := hS.now
  have hse := s _ _ hse0
  obtain ⟨l, rfl, ps, hl0, hcs⟩ := hA.craft
  have hl := rem_sub s _ _ hl0
  have hlen := hcs.len
  obtain ⟨p, rfl, hp0⟩ := hA.area
  have hp := hp0.same (rem_sub s)
  unfold Km445.act at k; dsimp only at k
  refine ⟨_, rfl, _, rfl, se, _, dx, _, _, rfl, hse, T.cl_Search, T.na_Search_crafts, rfl, l, _, rfl, .inl (SqL.of hl), _, _, rfl, rfl, _, rfl, ?_⟩
  by_cases hk : d.now.craft.length ≤ n
  · rw [if_pos hk] at k
    rw [decide_eq_true (show ((ps.map V.ref).length : Int) ≤ (n : Int) by rw [List.length_map]; omega)]
    exact iteT (qEnd hS' s (Same.refl _) k rfl)
  · rw [if_neg hk] at k
    rw [decide_eq_false (show ¬ ((ps.map V.ref).length : Int) ≤ (n : Int) by rw [List.length_map]; omega)]
    refine iteF ⟨_, rfl, _, _, rfl, rfl, _, rfl, ?_⟩
    by_cases hw1 : 1 < w
    · rw [if_pos hw1] at k
      rw [decide_eq_true (show (1 : Int) < (w : Int) by omega)]
      exact iteT (qEnd hS' s (Same.refl _) k rfl)
    · rw [if_neg hw1] at k
      rw [decide_eq_false (show ¬ (1 : Int) < (w : Int) by omega)]
      have hw := way_is (w := w) (by omega)
      obtain ⟨c, hc⟩ : ∃ c, d.now.craft[n]? = some c := ⟨_, List.getElem?_eq_getElem (by omega)⟩
      obtain ⟨pc, hpc, hcc0⟩ := hcs.get' hc
      have hcc := hcc0.same (rem_sub s)
      have okc := hd.now.craft c (List.mem_of_getElem? hc)
      rw [one_is hc] at k
      refine iteF ⟨_, rfl, se, _, dx, _, _, rfl, hse, T.cl_Search, T.na_Search_crafts, rfl, _, rfl, l, _, _, .ref pc, rfl, rfl, SqL.of hl, at_of (j := n) rfl (by rw [List.getElem?_map, hpc]; rfl), ?_⟩
      refine ⟨_, rfl, se, _, dx, _, _, rfl, hse, T.cl_Search, T.na_Search_area, rfl, _, rfl, (by show 1 ≤ sizeLine; decide), fun b hb => ?_⟩
      have s1 : Same H (upd H b (.lst [.ref pc])) := same_new hb
      refine ⟨_, rfl, p, b, d.now.area, [c], w == 0, v3 hw, hp.same s1, ⟨[pc], upd_same, hcc.same s1, trivial⟩, hd.now.area, (by intro c' h'; rw [List.mem_singleton] at h'; subst h'; exact okc), (by show 1 ≤ 4; omega), fun H1 s2 => ?_⟩
      have k' : Ends1 a H0 H se Q (some d) (Km445Neutral.told (match soon d.now.area [c] (w == 0) with
        | none => Km445.only (-33)
        | some t => ⟨((t : Nat) : Int), [((d.now.area.across (w == 0) + c.strip - 1) / c.strip : Nat)]⟩)) := k
      cases es : soon d.now.area [c] (w == 0) with
      | none =>
        rw [es] at k'
        exact ⟨_, rfl, rfl, _, rfl, iteT (qEnd hS' s (s1.trans s2) k' rfl)⟩
      | some t =>
        rw [es] at k'
        refine ⟨_, rfl, rfl, _, rfl, iteF ?_⟩
        exact ⟨_, rfl, _, rfl, _, rfl, se, _, dx, _, _, rfl, (s1.trans s2) _ _ hse, T.cl_Search, T.na_Search_area, rfl, _, rfl, p, d.now.area, w == 0, v2 hw, hp.same (s1.trans s2), pc, c, d.now.area.across (w == 0), rfl, hcc.same (s1.trans s2), okc, qEnd hS' s (s1.trans s2) k' rfl⟩
theorem len_Search_sl_plan (h : sp_Search_sl_plan K a vs H Q E) : vs.length = p_Search_sl_plan.length := by obtain ⟨_, rfl, _⟩ := h; rfl
/-- a list of at most four, filled up -/
theorem fill4 (l : List Nat) (h : l.length ≤ 4) : l.map nV ++ List.replicate (4 - l.length) (V.int 0) = [nV (l.getD 0 0), nV (l.getD 1 0), nV (l.getD 2 0), nV (l.getD 3 0)] := by
  match l, h with
  | [], _ => rfl
  | [a], _ => rfl
  | [a, b], _ => rfl
  | [a, b, c], _ => rfl
  | [a, b, c, d], _ => rfl
  | a :: b :: c :: d :: e :: r, h => simp at h
theorem rd_Search_sl_plan (T : Txt K mg a) (h : sp_Search_sl_plan K a vs H Q E) : t_Search_sl_plan K a { nx := fun _ H' => Q .non H', rt := Q } (L2.start n_Search_sl_plan vs) H := by
  obtain ⟨se, rfl, H0, d, hS, s, k⟩ := h
  have hS' := hS
  obtain ⟨hd, dx, va, vc, vp, vh, ch, M, hse0, hA⟩ := hS.now
  have hse := s _ _ hse0
  obtain ⟨l, rfl, ps, hl0, hcs⟩ := hA.craft
  have hl := rem_sub s _ _ hl0
  have hlen := hcs.len
  have hn4 := hd.now.len
  unfold Km445.act at k; dsimp only at k
  refine ⟨_, rfl, se, _, dx, _, _, rfl, hse, T.cl_Search, T.na_Search_plan, rfl, rfl, _, rfl, ?_⟩
  cases ep : d.now.plan with
  | none =>
    cases hp_none hA.plan ep
    rw [ep] at k
    exact iteT (qEnd hS' s (Same.refl _) k rfl)
  | some pl =>
    obtain ⟨q, rfl, dq, ls, hq0, hls0⟩ := hp_some hA.plan ep
    have hq := rem_sub s _ _ hq0
    have hls := rem_sub s _ _ hls0
    obtain ⟨f1, f2, f3, f4⟩ := plan_facts hd.now ep
    rw [ep] at k
    dsimp only at k
    have en : (4 - (((ps.map V.ref).length : Nat) : Int)) = ((4 - pl.legs.length : Nat) : Int) := by rw [List.length_map]; omega
    refine iteF ⟨(by show 1 ≤ sizeLine; decide), fun b hb => ⟨_, rfl, se, _, dx, _, _, rfl, same_new hb _ _ hse, T.cl_Search, T.na_Search_crafts, rfl, l, _, rfl, .inl (SqL.of (same_new hb _ _ hl)), _, _, rfl, rfl, b, _, _, rfl, rfl, upd_same, ?_, ?_, ?_, fun m hm => ?_⟩⟩
    · rw [en]; omega
    · rw [en]; omega
    · rw [en, Int.toNat_natCast]; show 1 * _ ≤ sizeLine; exact Nat.le_of_lt (small1000 (by omega))
    · have s1 : Same H (upd H b (.lst [.int 0])) := same_new hb
      generalize (upd H b (.lst [.int 0])) = H1 at s1 hm ⊢
      rw [en, Int.toNat_natCast]
      have er : (List.replicate (4 - pl.legs.length) [V.int 0]).flatten = List.replicate (4 - pl.legs.length) (V.int 0) := by
        generalize 4 - pl.legs.length = n
        induction n with
        | zero => rfl
        | succ n ih => rw [List.replicate_succ, List.flatten_cons, ih, List.replicate_succ]; rfl
      rw [er]
      have s2 : Same H (upd H1 m (.lst (List.replicate (4 - pl.legs.length) (V.int 0)))) := same_upd s1 (s1.free hm)
      have hm2 : (upd H1 m (.lst (List.replicate (4 - pl.legs.length) (V.int 0)))) m = some (.lst (List.replicate (4 - pl.legs.length) (V.int 0))) := upd_same
      generalize (upd H1 m (.lst (List.replicate (4 - pl.legs.length) (V.int 0)))) = H2 at s2 hm2 ⊢
      refine ⟨_, rfl, se, _, dx, _, _, rfl, s2 _ _ hse, T.cl_Search, T.na_Search_plan, rfl, q, _, dq, _, _, rfl, s2 _ _ hq, T.cl_Plan, T.na_Plan_hours, rfl, _, rfl, se, _, dx, _, _, rfl, s2 _ _ hse, T.cl_Search, T.na_Search_plan, rfl, q, _, dq, _, _, rfl, s2 _ _ hq, T.cl_Plan, T.na_Plan_way, rfl, pl.along, rfl, (by show 2 ≤ sizeLine; decide), fun x hx => ?_⟩
      have s3 := same_upd (o := .lst [nV pl.hours, nV (Km445.bit pl.along)]) s2 (s2.free hx)
      have hx3 : (upd H2 x (.lst [nV pl.hours, nV (Km445.bit pl.along)])) x = some (.lst [nV pl.hours, nV (Km445.bit pl.along)]) := upd_same
      have hm3 := same_new (o := .lst [nV pl.hours, nV (Km445.bit pl.along)]) hx _ _ hm2
      refine ⟨_, rfl, se, _, dx, _, _, rfl, s3 _ _ hse, T.cl_Search, T.na_Search_plan, rfl, q, _, dq, _, _, rfl, s3 _ _ hq, T.cl_Plan, T.na_Plan_shares, rfl, x, ls, _, _, rfl, rfl, upd_same, s3 _ _ hls, ?_, fun y hy => ?_⟩
      · rw [List.length_map, f1]; show 2 + _ ≤ sizeLine; exact Nat.le_of_lt (small1000 (by omega))
      have s4 := same_upd (o := .lst ([nV pl.hours, nV (Km445.bit pl.along)] ++ pl.legs.map nV)) s3 (s3.free hy)
      have hm4 := same_new (o := .lst ([nV pl.hours, nV (Km445.bit pl.along)] ++ pl.legs.map nV)) hy _ _ hm3
      refine ⟨_, rfl, y, m, _, _, rfl, rfl, upd_same, hm4, ?_, ?_⟩
      · rw [List.length_append, List.length_map, List.length_replicate, f1]; show 2 + _ + _ ≤ sizeLine; exact Nat.le_of_lt (small1000 (by omega))
      · rw [List.append_assoc, fill4 _ (by omega)]
        exact (qEnd hS' s s4 k rfl).2
theorem len_Search_sl_legs (h : sp_Search_sl_legs K a vs H Q E) : vs.length = p_Search_sl_legs.length := by obtain ⟨_, _, rfl, _⟩ := h; rfl
theorem rd_Search_sl_legs (T : Txt K mg a) (h : sp_Search_sl_legs K a vs H Q E) : t_Search_sl_legs K a { nx := fun _ H' => Q .non H', rt := Q } (L2.start n_Search_sl_legs vs) H := by
  obtain ⟨se, n, rfl, H0, d, hS, s, k⟩ := h
  have hS' := hS
  obtain ⟨hd, dx, va, vc, vp, vh, ch, M, hse0, hA⟩ := hS.now
  have hse := s _ _ hse0
  obtain ⟨l, rfl, ps, hl0, hcs⟩ := hA.craft
  have hl := rem_sub s _ _ hl0
  have hlen := hcs.len
  have hn4 := hd.now.len
  obtain ⟨p, rfl, hp0⟩ := hA.area
  have hp := hp0.same (rem_sub s)
  unfold Km445.act at k; dsimp only at k
  refine ⟨_, rfl, _, rfl, se, _, dx, _, _, rfl, hse, T.cl_Search, T.na_Search_crafts, rfl, l, _, rfl, .inl (SqL.of hl), _, _, rfl, rfl, _, rfl, ?_⟩
  by_cases hk : d.now.craft.length ≤ n
  · rw [if_pos hk] at k
    rw [decide_eq_true (show ((ps.map V.ref).length : Int) ≤ (n : Int) by rw [List.length_map]; omega)]
    exact iteT (qEnd hS' s (Same.refl _) k rfl)
  · rw [if_neg hk] at k
    rw [decide_eq_false (show ¬ ((ps.map V.ref).length : Int) ≤ (n : Int) by rw [List.length_map]; omega)]
    refine iteF ⟨_, rfl, se, _, dx, _, _, rfl, hse, T.cl_Search, T.na_Search_plan, rfl, rfl, _, rfl, ?_⟩
    cases ep : d.now.plan with
    | none =>
      cases hp_none hA.plan ep
      rw [ep] at k
      exact iteT (qEnd hS' s (Same.refl _) k rfl)
    | some pl =>
      obtain ⟨q, rfl, hpl0⟩ := hp_some hA.plan ep
      have hpl := hpl0.same (rem_sub s)
      obtain ⟨dq, ls, hq, hls⟩ := hpl
      obtain ⟨f1, f2, f3, f4⟩ := plan_facts hd.now ep
      rw [ep] at k
      dsimp only at k
      obtain ⟨c, hc⟩ : ∃ c, d.now.craft[n]? = some c := ⟨_, List.getElem?_eq_getElem (by omega)⟩
      obtain ⟨pc, hpc, hcc0⟩ := hcs.get' hc
      have hcc := hcc0.same (rem_sub s)
      have okc := hd.now.craft c (List.mem_of_getElem? hc)
      obtain ⟨m, hm⟩ : ∃ m, pl.legs[n]? = some m := ⟨_, List.getElem?_eq_getElem (by omega)⟩
      have em : pl.legs.getD n 0 = m := by rw [List.getD_eq_getElem?_getD, hm]; rfl
      rw [one_is hc, em] at k
      refine iteF ⟨_, rfl, se, _, dx, _, _, rfl, hse, T.cl_Search, T.na_Search_plan, rfl, q, _, dq, _, _, rfl, hq, T.cl_Plan, T.na_Plan_shares, rfl, _, rfl, ls, _, _, nV m, rfl, rfl, SqL.of hls, at_of (j := n) rfl (by rw [List.getElem?_map, hm]; rfl), ?_⟩
      refine ⟨_, rfl, se, _, dx, _, _, rfl, hse, T.cl_Search, T.na_Search_area, rfl, _, rfl, se, _, dx, _, _, rfl, hse, T.cl_Search, T.na_Search_crafts, rfl, _, rfl, l, _, _, .ref pc, rfl, rfl, SqL.of hl, at_of (j := n) rfl (by rw [List.getElem?_map, hpc]; rfl), _, rfl, se, _, dx, _, _, rfl, hse, T.cl_Search, T.na_Search_plan, rfl, q, _, dq, _, _, rfl, hq, T.cl_Plan, T.na_Plan_way, rfl, _, rfl, p, pc, d.now.area, c, pl.along, m, rfl, hp, hcc, hd.now.area, okc, ?_⟩
      exact ⟨_, rfl, _, rfl, _, rfl, se, _, dx, _, _, rfl, hse, T.cl_Search, T.na_Search_crafts, rfl, _, rfl, se, _, dx, _, _, rfl, hse, T.cl_Search, T.na_Search_plan, rfl, _, rfl, l, q, d.now.craft, pl, n, rfl, ⟨ps, hl, hcs.same (rem_sub s)⟩, ⟨dq, ls, hq, hls⟩, hd.now.craft, f1, by omega, hn4, fun H1 s1 => qEnd hS' s s1 k rfl⟩
end
end SL

end
section
set_option Elab.async false
set_option linter.all false
set_option maxRecDepth 100000
set_option maxHeartbeats 1000000
namespace SL
open PySem PySem.Spec PyProof.Rows L2
section
variable {K : PySem.W.Frag} {mg : Str → Option Value} {a : Ad} {vs : List V} {H : Hp} {Q : VK} {E : XK}
theorem len_is_within (h : sp_is_within K a vs H Q E) : vs.length = p_is_within.length := by obtain ⟨_, _, _, _, rfl, _⟩ := h; rfl
theorem rd_is_within (T : Txt K mg a) (h : sp_is_within K a vs H Q E) : t_is_within K a { nx := fun _ H' => Q .non H', rt := Q } (L2.start n_is_within vs) H := by
  obtain ⟨p, r, x, y, rfl, ⟨dx, hp⟩, k⟩ := h
  unfold Km445.Area.has at k
  refine ⟨_, rfl, p, _, dx, _, _, rfl, hp, T.cl_Area, T.na_Area_x, rfl, _, rfl, _, _, rfl, rfl, _, rfl, ite2 (fun e1 => ?_) (fun e1 => ?_)⟩
  · rw [e1, Bool.true_and] at k
    refine ⟨_, rfl, p, _, dx, _, _, rfl, hp, T.cl_Area, T.na_Area_x, rfl, _, rfl, p, _, dx, _, _, rfl, hp, T.cl_Area, T.na_Area_wide, rfl, _, _, rfl, rfl, _, _, rfl, rfl, _, rfl, ite2 (fun e2 => ?_) (fun e2 => ?_)⟩
    · rw [e2, Bool.true_and] at k
      refine ⟨_, rfl, p, _, dx, _, _, rfl, hp, T.cl_Area, T.na_Area_y, rfl, _, rfl, _, _, rfl, rfl, _, rfl, ite2 (fun e3 => ?_) (fun e3 => ?_)⟩
      · rw [e3, Bool.true_and] at k
        exact ⟨_, rfl, p, _, dx, _, _, rfl, hp, T.cl_Area, T.na_Area_y, rfl, _, rfl, p, _, dx, _, _, rfl, hp, T.cl_Area, T.na_Area_high, rfl, _, _, rfl, rfl, _, _, rfl, rfl, k⟩
      · rw [Bool.eq_false_iff.mpr e3, Bool.false_and] at k
        exact k
    · rw [Bool.eq_false_iff.mpr e2, Bool.false_and] at k
      exact k
  · rw [Bool.eq_false_iff.mpr e1, Bool.false_and] at k
    exact ⟨_, rfl, iteF k⟩
theorem len_legs_done (h : sp_legs_done K a vs H Q E) : vs.length = p_legs_done.length := by obtain ⟨_, _, _, _, _, _, _, _, _, rfl, _⟩ := h; rfl
theorem rd_legs_done (T : Txt K mg a) (h : sp_legs_done K a vs H Q E) : t_legs_done K a { nx := fun _ H' => Q .non H', rt := Q } (L2.start n_legs_done vs) H := by
  obtain ⟨pa, pc, q, r, c, pl, n, u, m, rfl, hA, hC, ⟨dq, ls, hq, hls⟩, okr, okc, hm, k⟩ := h
  refine ⟨_, rfl, q, _, dq, _, _, rfl, hq, T.cl_Plan, T.na_Plan_shares, rfl, _, rfl, ls, _, _, nV m, rfl, rfl, SqL.of hls, at_of (j := n) rfl (by rw [List.getElem?_map, hm]; rfl), _, rfl, _, rfl, _, rfl, q, _, dq, _, _, rfl, hq, T.cl_Plan, T.na_Plan_way, rfl, _, rfl, pa, pc, r, c, pl.along, u, rfl, hA, hC, okr, okc, _, _, rfl, toQ k ?_⟩
  rw [ifmin]; omega
theorem store {Hb H : Hp} {p : Addr} {o : HO} {P : Hp → Prop} (nb : Hb p = none) (s : Same Hb H) (h : ∀ H', Same Hb H' → H' p = some o → P H') : P (upd H p o) := h _ (same_upd s nb) upd_same
theorem len_Course_init (h : sp_Course_init K a vs H Q E) : vs.length = p_Course_init.length := by obtain ⟨_, _, _, _, _, _, _, _, _, rfl, _⟩ := h; rfl
theorem rd_Course_init (T : Txt K mg a) (h : sp_Course_init K a vs H Q E) : t_Course_init K a { nx := fun _ H' => Q .non H', rt := Q } (L2.start n_Course_init vs) H := by
  obtain ⟨p, dx, pa, l, q, s, pl, n, Hb, rfl, hp, nb, sb, hA, ⟨ps, hl, hcs⟩, ⟨dq, ls, hq, hls⟩, ok, ep, hk, k⟩ := h
  obtain ⟨f1, f2, f3, f4⟩ := plan_facts ok ep
  have hn4 := ok.len
  obtain ⟨c, hc⟩ : ∃ c, s.craft[n]? = some c := ⟨_, List.getElem?_eq_getElem hk⟩
  obtain ⟨pc, hpc, hcc⟩ := hcs.get' hc
  have ec : s.one n = c := by unfold Km445.Sea.one; rw [List.getD_eq_getElem?_getD, hc]; rfl
  obtain ⟨m, hm⟩ : ∃ m, pl.legs[n]? = some m := ⟨_, List.getElem?_eq_getElem (by omega)⟩
  have em : pl.legs.getD n 0 = m := by rw [List.getD_eq_getElem?_getD, hm]; rfl
  have hcc' := hcc
  obtain ⟨dc, hdc⟩ := hcc'
  refine ⟨_, rfl, _, rfl, p, _, dx, _, rfl, hp, T.cl_Course, T.na_Course_area, (by show 0 < 1000; decide), store nb sb fun H1 s1 h1 => ?_⟩
  refine ⟨_, rfl, _, rfl, l, _, _, .ref pc, rfl, rfl, SqL.of (s1 _ _ hl), at_of (j := n) rfl (by rw [List.getElem?_map, hpc]; rfl), _, rfl, p, _, dx, _, rfl, h1, T.cl_Course, T.na_Course_craft, (by show 1 < 1000; decide), store nb s1 fun H2 s2 h2 => ?_⟩
  refine ⟨_, rfl, q, _, dq, _, _, rfl, s2 _ _ hq, T.cl_Plan, T.na_Plan_way, rfl, _, rfl, p, _, dx, _, rfl, h2, T.cl_Course, T.na_Course_way, (by show 2 < 1000; decide), store nb s2 fun H3 s3 h3 => ?_⟩
  refine ⟨_, rfl, q, _, dq, _, _, rfl, s3 _ _ hq, T.cl_Plan, T.na_Plan_shares, rfl, _, rfl, ls, _, _, nV m, rfl, rfl, SqL.of (s3 _ _ hls), at_of (j := n) rfl (by rw [List.getElem?_map, hm]; rfl), _, rfl, p, _, dx, _, rfl, h3, T.cl_Course, T.na_Course_legs, (by show 3 < 1000; decide), store nb s3 fun H4 s4 h4 => ?_⟩
  refine ⟨_, rfl, _, rfl, _, rfl, l, q, s.craft, pl, n, rfl, ⟨ps, s4 _ _ hl, hcs.same s4⟩, ⟨dq, ls, s4 _ _ hq, s4 _ _ hls⟩, ok.craft, f1, by omega, hn4, fun H5 s5 => ⟨_, rfl, p, _, dx, _, rfl, s5 _ _ h4, T.cl_Course, T.na_Course_before, (by show 4 < 1000; decide), store nb (s4.trans s5) fun H6 s6 h6 => ?_⟩⟩
  refine ⟨_, rfl, _, rfl, q, _, dq, _, _, rfl, s6 _ _ hq, T.cl_Plan, T.na_Plan_way, rfl, pa, s.area, pl.along, rfl, hA.same s6, _, rfl, p, _, dx, _, rfl, h6, T.cl_Course, T.na_Course_long, (by show 5 < 1000; decide), store nb s6 fun H7 s7 h7 => ?_⟩
  refine ⟨_, rfl, p, _, dx, _, _, rfl, h7, T.cl_Course, T.na_Course_long, rfl, _, rfl, p, _, dx, _, _, rfl, h7, T.cl_Course, T.na_Course_craft, rfl, pc, _, dc, _, _, rfl, s7 _ _ hdc, T.cl_Craft, T.na_Craft_strip, rfl, _, _, rfl, rfl, _, rfl, p, _, dx, _, rfl, h7, T.cl_Course, T.na_Course_pitch, (by show 6 < 1000; decide), store nb s7 fun H8 s8 h8 => ?_⟩
  refine k H8 pc (by rw [ec]; exact hcc) s8 ?_
  rw [h8]
  unfold fCo cs Cs.pitch Cs.long
  dsimp only
  rw [ec, em]
  rfl
theorem len_Course_line_of (h : sp_Course_line_of K a vs H Q E) : vs.length = p_Course_line_of.length := by obtain ⟨_, _, _, rfl, _⟩ := h; rfl
theorem rd_Course_line_of (T : Txt K mg a) (h : sp_Course_line_of K a vs H Q E) : t_Course_line_of K a { nx := fun _ H' => Q .non H', rt := Q } (L2.start n_Course_line_of vs) H := by
  obtain ⟨p, s, i, rfl, hco, ok, k⟩ := h
  obtain ⟨dx, pa, pc, hp, ⟨da, hpa⟩, ⟨dc, hpc⟩⟩ := hco
  have l2 := strip_le ok.c
  have l3 := (across_pos ok.r s.b).1
  refine ⟨_, rfl, p, _, dx, _, _, rfl, hp, T.cl_Course, T.na_Course_before, rfl, _, rfl, _, rfl, p, _, dx, _, _, rfl, hp, T.cl_Course, T.na_Course_craft, rfl, pc, _, dc, _, _, rfl, hpc, T.cl_Craft, T.na_Craft_strip, rfl, _, _, rfl, rfl, .inr ⟨by omega, by omega⟩, _, _, rfl, rfl, _, rfl, p, _, dx, _, _, rfl, hp, T.cl_Course, T.na_Course_craft, rfl, pc, _, dc, _, _, rfl, hpc, T.cl_Craft, T.na_Craft_see, rfl, _, _, rfl, rfl, _, rfl, _, rfl, p, _, dx, _, _, rfl, hp, T.cl_Course, T.na_Course_area, rfl, _, rfl, p, _, dx, _, _, rfl, hp, T.cl_Course, T.na_Course_way, rfl, pa, s.r, s.b, rfl, ⟨da, hpa⟩, _, _, rfl, rfl, _, _, rfl, toQ k ?_⟩
  rw [ifmin, ← Int.natCast_mul]
  unfold Cs.line
  omega
theorem len_Course_along_leg (h : sp_Course_along_leg K a vs H Q E) : vs.length = p_Course_along_leg.length := by obtain ⟨_, _, _, _, rfl, _⟩ := h; rfl
theorem rd_Course_along_leg (T : Txt K mg a) (h : sp_Course_along_leg K a vs H Q E) : t_Course_along_leg K a { nx := fun _ H' => Q .non H', rt := Q } (L2.start n_Course_along_leg vs) H := by
  obtain ⟨p, s, i, f, rfl, hco, hf, k⟩ := h
  obtain ⟨dx, pa, pc, hp, ⟨da, hpa⟩, ⟨dc, hpc⟩⟩ := hco
  refine ⟨_, rfl, _, _, rfl, rfl, (by show (0 : Int) < 2; decide), rfl, _, rfl, ite2 (fun e => ?_) (fun e => ?_)⟩
  · have e' : ((i : Int) % 2) = 0 := by have := of_decide_eq_true e; injection this
    refine ⟨_, rfl, ?_⟩
    unfold Cs.along at k
    rw [if_pos (by omega)] at k
    exact k
  · have e' : ¬ ((i : Int) % 2) = 0 := fun q => e (decide_eq_true (by show V.int ((i : Int) % 2) = V.int 0; rw [q]))
    refine ⟨_, rfl, p, _, dx, _, _, rfl, hp, T.cl_Course, T.na_Course_long, rfl, _, rfl, _, _, rfl, rfl, toQ k ?_⟩
    unfold Cs.along
    rw [if_neg (by omega)]
    omega
theorem len_Course_place_on (h : sp_Course_place_on K a vs H Q E) : vs.length = p_Course_place_on.length := by obtain ⟨_, _, _, _, rfl, _⟩ := h; rfl
theorem rd_Course_place_on (T : Txt K mg a) (h : sp_Course_place_on K a vs H Q E) : t_Course_place_on K a { nx := fun _ H' => Q .non H', rt := Q } (L2.start n_Course_place_on vs) H := by
  obtain ⟨p, s, i, f, rfl, hco, ok, hf, k⟩ := h
  have hco' := hco
  obtain ⟨dx, pa, pc, hp, ⟨da, hpa⟩, ⟨dc, hpc⟩⟩ := hco'
  refine ⟨_, rfl, p, dx, _, rfl, hp, rfl, _, rfl, _, rfl, p, s, i, f, rfl, hco, hf, _, rfl, p, dx, _, rfl, hp, rfl, _, rfl, p, s, i, rfl, hco, ok, _, rfl, p, _, dx, _, _, rfl, hp, T.cl_Course, T.na_Course_way, rfl, rfl, _, rfl, ?_⟩
  rw [wayI_eq]
  unfold Cs.place at k
  cases hb : s.b with
  | true =>
    rw [if_pos hb] at k
    exact iteT ⟨_, rfl, p, _, dx, _, _, rfl, hp, T.cl_Course, T.na_Course_area, rfl, pa, _, da, _, _, rfl, hpa, T.cl_Area, T.na_Area_x, rfl, _, rfl, _, _, rfl, rfl, _, rfl, p, _, dx, _, _, rfl, hp, T.cl_Course, T.na_Course_area, rfl, pa, _, da, _, _, rfl, hpa, T.cl_Area, T.na_Area_y, rfl, _, rfl, _, _, rfl, rfl, (by show 2 ≤ sizeLine; decide), k⟩
  | false =>
    rw [if_neg (by rw [hb]; decide)] at k
    exact iteF ⟨_, rfl, p, _, dx, _, _, rfl, hp, T.cl_Course, T.na_Course_area, rfl, pa, _, da, _, _, rfl, hpa, T.cl_Area, T.na_Area_x, rfl, _, rfl, _, _, rfl, rfl, _, rfl, p, _, dx, _, _, rfl, hp, T.cl_Course, T.na_Course_area, rfl, pa, _, da, _, _, rfl, hpa, T.cl_Area, T.na_Area_y, rfl, _, rfl, _, _, rfl, rfl, (by show 2 ≤ sizeLine; decide), k⟩
theorem len_Course_gone_by (h : sp_Course_gone_by K a vs H Q E) : vs.length = p_Course_gone_by.length := by obtain ⟨_, _, _, rfl, _⟩ := h; rfl
theorem rd_Course_gone_by (T : Txt K mg a) (h : sp_Course_gone_by K a vs H Q E) : t_Course_gone_by K a { nx := fun _ H' => Q .non H', rt := Q } (L2.start n_Course_gone_by vs) H := by
  obtain ⟨p, s, u, rfl, hco, ok, k⟩ := h
  obtain ⟨dx, pa, pc, hp, ⟨da, hpa⟩, ⟨dc, hpc⟩⟩ := hco
  have l1 := ok.c.2.1
  refine ⟨_, rfl, p, _, dx, _, _, rfl, hp, T.cl_Course, T.na_Course_area, rfl, _, rfl, p, _, dx, _, _, rfl, hp, T.cl_Course, T.na_Course_craft, rfl, _, rfl, p, _, dx, _, _, rfl, hp, T.cl_Course, T.na_Course_way, rfl, _, rfl, p, _, dx, _, _, rfl, hp, T.cl_Course, T.na_Course_legs, rfl, pa, pc, s.r, s.c, s.b, s.m, rfl, ⟨da, hpa⟩, ⟨dc, hpc⟩, ok.r, ok.c, _, rfl, p, _, dx, _, _, rfl, hp, T.cl_Course, T.na_Course_craft, rfl, pc, _, dc, _, _, rfl, hpc, T.cl_Craft, T.na_Craft_speed, rfl, _, rfl, _, _, rfl, rfl, .inl ⟨by omega, by omega⟩, _, rfl, _, _, rfl, toQ k ?_⟩
  rw [ifmin, ← Int.natCast_mul]
  unfold Cs.gone Cs.long
  omega
theorem pitch_ok {s : Cs} (ok : s.Ok) : 0 < (s.pitch : Int) ∧ (s.pitch : Int) < 1073741824 := by
  have l1 := strip_le ok.c
  have l2 := strip_pos s.c
  have l3 := long_pos ok.r s.b
  unfold Cs.pitch Cs.long
  omega
theorem len_Course_leg_by (h : sp_Course_leg_by K a vs H Q E) : vs.length = p_Course_leg_by.length := by obtain ⟨_, _, _, rfl, _⟩ := h; rfl
theorem rd_Course_leg_by (T : Txt K mg a) (h : sp_Course_leg_by K a vs H Q E) : t_Course_leg_by K a { nx := fun _ H' => Q .non H', rt := Q } (L2.start n_Course_leg_by vs) H := by
  obtain ⟨p, s, u, rfl, hco, ok, k⟩ := h
  have hco' := hco
  obtain ⟨dx, pa, pc, hp, ⟨da, hpa⟩, ⟨dc, hpc⟩⟩ := hco'
  refine ⟨_, rfl, p, dx, _, rfl, hp, rfl, _, rfl, p, s, u, rfl, hco, ok, _, rfl, p, _, dx, _, _, rfl, hp, T.cl_Course, T.na_Course_pitch, rfl, _, _, rfl, rfl, pitch_ok ok, toQ k ?_⟩
  rw [← Int.natCast_ediv]
theorem len_Course_place_by (h : sp_Course_place_by K a vs H Q E) : vs.length = p_Course_place_by.length := by obtain ⟨_, _, _, rfl, _⟩ := h; rfl
theorem rd_Course_place_by (T : Txt K mg a) (h : sp_Course_place_by K a vs H Q E) : t_Course_place_by K a { nx := fun _ H' => Q .non H', rt := Q } (L2.start n_Course_place_by vs) H := by
  obtain ⟨p, s, u, rfl, hco, ok, k⟩ := h
  have hco' := hco
  obtain ⟨dx, pa, pc, hp, ⟨da, hpa⟩, ⟨dc, hpc⟩⟩ := hco'
  refine ⟨_, rfl, p, dx, _, rfl, hp, rfl, _, rfl, p, s, u, rfl, hco, ok, _, rfl, p, _, dx, _, _, rfl, hp, T.cl_Course, T.na_Course_pitch, rfl, _, _, rfl, rfl, (pitch_ok ok).1, _, rfl, p, dx, _, rfl, hp, rfl, _, rfl, p, dx, _, rfl, hp, rfl, _, rfl, p, s, u, rfl, hco, ok, _, rfl, _, rfl, p, _, dx, _, _, rfl, hp, T.cl_Course, T.na_Course_long, rfl, _, _, rfl, ?_⟩
  have em : (if ((s.long : Nat) : Int) < ((s.gone u : Nat) : Int) % ((s.pitch : Nat) : Int) then ((s.long : Nat) : Int) else ((s.gone u : Nat) : Int) % ((s.pitch : Nat) : Int)) = ((min (s.gone u % s.pitch) s.long : Nat) : Int) := by
    rw [ifmin, ← Int.natCast_emod]; omega
  rw [em]
  exact ⟨p, s, _, _, rfl, hco, ok, by omega, k⟩
theorem len_Course_first_leg_seeing (h : sp_Course_first_leg_seeing K a vs H Q E) : vs.length = p_Course_first_leg_seeing.length := by obtain ⟨_, _, _, rfl, _⟩ := h; rfl
theorem rd_Course_first_leg_seeing (T : Txt K mg a) (h : sp_Course_first_leg_seeing K a vs H Q E) : t_Course_first_leg_seeing K a { nx := fun _ H' => Q .non H', rt := Q } (L2.start n_Course_first_leg_seeing vs) H := by
  obtain ⟨p, s, n, rfl, hco, ok, k⟩ := h
  have hco' := hco
  obtain ⟨dx, pa, pc, hp, ⟨da, hpa⟩, ⟨dc, hpc⟩⟩ := hco'
  have l2 := strip_le ok.c
  have l3 := strip_pos s.c
  refine ⟨_, rfl, _, rfl, p, _, dx, _, _, rfl, hp, T.cl_Course, T.na_Course_before, rfl, _, _, rfl, rfl, _, rfl, p, _, dx, _, _, rfl, hp, T.cl_Course, T.na_Course_craft, rfl, pc, _, dc, _, _, rfl, hpc, T.cl_Craft, T.na_Craft_strip, rfl, _, _, rfl, rfl, ⟨by omega, by omega⟩, _, rfl, _, rfl, p, _, dx, _, _, rfl, hp, T.cl_Course, T.na_Course_legs, rfl, _, _, rfl, rfl, (by show 2 ≤ sizeLine; decide), fun tp htp => ⟨tp, rfl, ⟨_, SqT.of upd_same⟩, for_tup (K := K) (a := tp) (xs := [.int (((n : Int) - (s.B : Int)) / (s.c.strip : Int)), .int ((s.m : Int) - 1)])
    (fun i σ H' => Same H H' ∧ H' tp = some (.tup [.int (((n : Int) - (s.B : Int)) / (s.c.strip : Int)), .int ((s.m : Int) - 1)]) ∧ ∃ x, σ = [some (.ref p), some (nV n), some (.int (((n : Int) - (s.B : Int)) / (s.c.strip : Int))), x] ∧ (1 ≤ i → ¬ okTurn s n (((n : Int) - (s.B : Int)) / (s.c.strip : Int))) ∧ (2 ≤ i → ∀ j, j + 1 = s.m → ¬ s.sees n j))
    ⟨same_new htp, upd_same, none, rfl, (fun z => by omega), (fun z => by omega)⟩ (fun i σ H' _ s => SqT.of s.2.1) ?_ ?_⟩⟩
  · rintro i v σ H' hi ⟨s1, ht, x, rfl, g1, g2⟩
    obtain ⟨z, rfl, hz⟩ : ∃ z : Int, v = .int z ∧ (i = 0 ∧ z = ((n : Int) - (s.B : Int)) / (s.c.strip : Int) ∨ i = 1 ∧ z = (s.m : Int) - 1) := by
      match i, hi with
      | 0, hi => cases hi; exact ⟨_, rfl, .inl ⟨rfl, rfl⟩⟩
      | 1, hi => cases hi; exact ⟨_, rfl, .inr ⟨rfl, rfl⟩⟩
      | n + 2, hi => simp at hi
    have yes : ∀ j : Nat, z = (j : Int) → j < s.m → s.sees n j → s.first n = some j := by
      intro j hj hm hs
      rcases hz with ⟨_, hz⟩ | ⟨hi, hz⟩
      · exact first_turn1 ok hm hs (by rw [← hz, hj])
      · exact first_turn2 ok (g1 (by omega)) (by omega) hs
    have no : ¬ okTurn s n z → (1 ≤ i + 1 → ¬ okTurn s n (((n : Int) - (s.B : Int)) / (s.c.strip : Int))) ∧ (2 ≤ i + 1 → ∀ j, j + 1 = s.m → ¬ s.sees n j) := by
      intro hno
      rcases hz with ⟨hi, hz⟩ | ⟨hi, hz⟩
      · exact ⟨fun _ => by rw [← hz]; exact hno, fun q => by omega⟩
      · exact ⟨fun _ => g1 (by omega), fun _ j hj hs => hno ⟨j, by omega, by omega, hs⟩⟩
    have hp' := s1 _ _ hp
    have hpc' := s1 _ _ hpc
    clear hz hi g1 g2
    refine ⟨_, rfl, _, _, rfl, rfl, _, rfl, ite2 (fun e1 => ?_) (fun e1 => ?_)⟩
    · have e1' : (0 : Int) ≤ z := of_decide_eq_true e1
      obtain ⟨j, rfl⟩ : ∃ j : Nat, z = (j : Int) := ⟨z.toNat, by omega⟩
      refine ⟨_, rfl, p, _, dx, _, _, rfl, hp', T.cl_Course, T.na_Course_legs, rfl, _, _, rfl, rfl, _, rfl, ite2 (fun e2 => ?_) (fun e2 => ?_)⟩
      · have e2' : (j : Int) < (s.m : Int) := of_decide_eq_true e2
        refine ⟨_, rfl, _, rfl, p, dx, _, rfl, hp', rfl, _, rfl, p, s, j, rfl, hco.same s1, ok, _, _, rfl, rfl, _, rfl, _, rfl, p, _, dx, _, _, rfl, hp', T.cl_Course, T.na_Course_craft, rfl, pc, _, dc, _, _, rfl, hpc', T.cl_Craft, T.na_Craft_see, rfl, _, _, rfl, rfl, _, rfl, ite2 (fun e3 => ?_) (fun e3 => ?_)⟩
        · have e3' : (if (n : Int) - (s.line j : Int) < 0 then -((n : Int) - (s.line j : Int)) else (n : Int) - (s.line j : Int)) ≤ (s.c.see : Int) := of_decide_eq_true e3
          have hs : s.sees n j := by unfold Cs.sees; split at e3' <;> omega
          have := yes j rfl (by omega) hs
          have kk := k H' s1
          rw [this] at kk
          exact ⟨_, rfl, kk⟩
        · have e3' : ¬ (if (n : Int) - (s.line j : Int) < 0 then -((n : Int) - (s.line j : Int)) else (n : Int) - (s.line j : Int)) ≤ (s.c.see : Int) := fun q => e3 (decide_eq_true q)
          have hs : ¬ s.sees n j := by unfold Cs.sees; intro q; apply e3'; split <;> omega
          exact ⟨s1, ht, _, rfl, no (by rintro ⟨j', hj, _, h'⟩; exact hs (by rw [show j = j' by omega]; exact h'))⟩
      · have e2' : ¬ (j : Int) < (s.m : Int) := fun q => e2 (decide_eq_true q)
        exact iteF ⟨s1, ht, _, rfl, no (by rintro ⟨j', hj, h1, h'⟩; omega)⟩
    · have e1' : ¬ (0 : Int) ≤ z := fun q => e1 (decide_eq_true q)
      exact ⟨_, rfl, iteF (iteF ⟨s1, ht, _, rfl, no (by rintro ⟨j', hj, h1, h'⟩; omega)⟩)⟩
  · rintro σ H' ⟨s1, ht, x, rfl, g1, g2⟩
    have kk := k H' s1
    rw [first_turn3 ok (g1 (by show 1 ≤ 2; omega)) (g2 (by show 2 ≤ 2; omega))] at kk
    exact kk
end
end SL

end
section
set_option Elab.async false
set_option linter.all false
set_option maxRecDepth 100000
set_option maxHeartbeats 1000000
namespace SL
open PySem PySem.Spec PyProof.Rows L2
section
variable {K : PySem.W.Frag} {mg : Str → Option Value} {a : Ad} {vs : List V} {H : Hp} {Q : VK} {E : XK}
theorem i2 {x : V} {z : Int} {n : Nat} (h : z = (n : Int)) : [x, V.int z] ++ [] = [x, nV n] := by rw [h]; rfl
theorem i3 {x y : V} {z : Int} {n : Nat} (h : z = (n : Int)) : [x, y, V.int z] ++ [] = [x, y, nV n] := by rw [h]; rfl
theorem len_Course_hours_to_see (h : sp_Course_hours_to_see K a vs H Q E) : vs.length = p_Course_hours_to_see.length := by obtain ⟨_, _, _, _, rfl, _⟩ := h; rfl
theorem rd_Course_hours_to_see (T : Txt K mg a) (h : sp_Course_hours_to_see K a vs H Q E) : t_Course_hours_to_see K a { nx := fun _ H' => Q .non H', rt := Q } (L2.start n_Course_hours_to_see vs) H := by
  obtain ⟨p, s, x, y, rfl, hco, ok, has, k⟩ := h
  have hco' := hco
  obtain ⟨dx, pa, pc, hp, ⟨da, hpa⟩, ⟨dc, hpc⟩⟩ := hco'
  have l0 := pitch_ok ok
  have l1 := ok.c.1
  have l2 := ok.c.2.1
  unfold Km445.Area.has at has
  simp only [Bool.and_eq_true, decide_eq_true_eq] at has
  refine ⟨_, rfl, _, rfl, p, _, dx, _, _, rfl, hp, T.cl_Course, T.na_Course_area, rfl, pa, _, da, _, _, rfl, hpa, T.cl_Area, T.na_Area_x, rfl, _, _, rfl, rfl, _, rfl, _, rfl, p, _, dx, _, _, rfl, hp, T.cl_Course, T.na_Course_area, rfl, pa, _, da, _, _, rfl, hpa, T.cl_Area, T.na_Area_y, rfl, _, _, rfl, rfl, _, rfl, p, dx, _, rfl, hp, rfl, _, rfl, p, _, dx, _, _, rfl, hp, T.cl_Course, T.na_Course_way, rfl, rfl, _, rfl, ?_⟩
  rw [wayI_eq]
  cases hb : s.b with
  | true =>
    have ha : s.a x y = (y - s.r.y).toNat := by unfold Cs.a; rw [if_pos hb]
    have ho : s.o x y = (x - s.r.x).toNat := by unfold Cs.o; rw [if_pos hb]
    have hl : s.long = s.r.wide := by unfold Cs.long Km445.Area.long; rw [hb]; rfl
    refine iteT ⟨_, rfl, p, s, s.a x y, i2 (by rw [ha]; omega), hco, ok, fun H1 s1 => ?_⟩
    have kk := k H1 s1
    have hp1 := s1 _ _ hp
    have hpc1 := s1 _ _ hpc
    unfold Cs.hrs Cs.dist at kk
    cases ef : s.first (s.a x y) with
    | none =>
      rw [ef] at kk
      exact ⟨_, rfl, rfl, _, rfl, iteT kk⟩
    | some i =>
      rw [ef] at kk
      refine ⟨_, rfl, rfl, _, rfl, iteF ⟨_, rfl, _, rfl, p, _, dx, _, _, rfl, hp1, T.cl_Course, T.na_Course_pitch, rfl, _, _, rfl, rfl, .inr ⟨by omega, by omega⟩, _, rfl, p, dx, _, rfl, hp1, rfl, _, rfl, _, rfl, p, _, dx, _, _, rfl, hp1, T.cl_Course, T.na_Course_way, rfl, rfl, _, rfl, ?_⟩⟩
      rw [wayI_eq, hb]
      refine iteT ⟨_, rfl, p, s, i, s.o x y, i3 (by rw [ho]; omega), hco.same s1, by rw [ho, hl]; omega, ?_⟩
      refine ⟨_, _, rfl, rfl, _, rfl, _, rfl, p, _, dx, _, _, rfl, hp1, T.cl_Course, T.na_Course_craft, rfl, pc, _, dc, _, _, rfl, hpc1, T.cl_Craft, T.na_Craft_speed, rfl, _, _, rfl, rfl, _, _, rfl, rfl, _, rfl, p, _, dx, _, _, rfl, hp1, T.cl_Course, T.na_Course_craft, rfl, pc, _, dc, _, _, rfl, hpc1, T.cl_Craft, T.na_Craft_speed, rfl, _, _, rfl, rfl, ⟨by omega, by omega⟩, toQ kk ?_⟩
      rw [← Int.natCast_mul, ← Int.natCast_add, ← Int.natCast_add, show (((i * s.pitch + s.along i (s.o x y) + s.c.speed : Nat) : Int) - 1) = ((i * s.pitch + s.along i (s.o x y) + s.c.speed - 1 : Nat) : Int) by omega, ← Int.natCast_ediv]
  | false =>
    have ha : s.a x y = (x - s.r.x).toNat := by unfold Cs.a; rw [if_neg (by rw [hb]; decide)]
    have ho : s.o x y = (y - s.r.y).toNat := by unfold Cs.o; rw [if_neg (by rw [hb]; decide)]
    have hl : s.long = s.r.high := by unfold Cs.long Km445.Area.long; rw [hb]; rfl
    refine iteF ⟨_, rfl, p, s, s.a x y, i2 (by rw [ha]; omega), hco, ok, fun H1 s1 => ?_⟩
    have kk := k H1 s1
    have hp1 := s1 _ _ hp
    have hpc1 := s1 _ _ hpc
    unfold Cs.hrs Cs.dist at kk
    cases ef : s.first (s.a x y) with
    | none =>
      rw [ef] at kk
      exact ⟨_, rfl, rfl, _, rfl, iteT kk⟩
    | some i =>
      rw [ef] at kk
      refine ⟨_, rfl, rfl, _, rfl, iteF ⟨_, rfl, _, rfl, p, _, dx, _, _, rfl, hp1, T.cl_Course, T.na_Course_pitch, rfl, _, _, rfl, rfl, .inr ⟨by omega, by omega⟩, _, rfl, p, dx, _, rfl, hp1, rfl, _, rfl, _, rfl, p, _, dx, _, _, rfl, hp1, T.cl_Course, T.na_Course_way, rfl, rfl, _, rfl, ?_⟩⟩
      rw [wayI_eq, hb]
      refine iteF ⟨_, rfl, p, s, i, s.o x y, i3 (by rw [ho]; omega), hco.same s1, by rw [ho, hl]; omega, ?_⟩
      refine ⟨_, _, rfl, rfl, _, rfl, _, rfl, p, _, dx, _, _, rfl, hp1, T.cl_Course, T.na_Course_craft, rfl, pc, _, dc, _, _, rfl, hpc1, T.cl_Craft, T.na_Craft_speed, rfl, _, _, rfl, rfl, _, _, rfl, rfl, _, rfl, p, _, dx, _, _, rfl, hp1, T.cl_Course, T.na_Course_craft, rfl, pc, _, dc, _, _, rfl, hpc1, T.cl_Craft, T.na_Craft_speed, rfl, _, _, rfl, rfl, ⟨by omega, by omega⟩, toQ kk ?_⟩
      rw [← Int.natCast_mul, ← Int.natCast_add, ← Int.natCast_add, show (((i * s.pitch + s.along i (s.o x y) + s.c.speed : Nat) : Int) - 1) = ((i * s.pitch + s.along i (s.o x y) + s.c.speed - 1 : Nat) : Int) by omega, ← Int.natCast_ediv]
theorem len_Search_course_of (h : sp_Search_course_of K a vs H Q E) : vs.length = p_Search_course_of.length := by obtain ⟨_, _, _, _, _, _, _, _, _, _, rfl, _⟩ := h; rfl
theorem rd_Search_course_of (T : Txt K mg a) (h : sp_Search_course_of K a vs H Q E) : t_Search_course_of K a { nx := fun _ H' => Q .non H', rt := Q } (L2.start n_Search_course_of vs) H := by
  obtain ⟨se, dx, pa, l, q, vh, ch, s, p, n, rfl, hS, hk, k⟩ := h
  have hse := hS.se
  refine ⟨_, rfl, se, _, dx, _, _, rfl, hse, T.cl_Search, T.na_Search_area, rfl, _, rfl, se, _, dx, _, _, rfl, hse, T.cl_Search, T.na_Search_crafts, rfl, _, rfl, se, _, dx, _, _, rfl, hse, T.cl_Search, T.na_Search_plan, rfl, _, rfl, fun x dx' nx nd ne => ?_⟩
  refine ⟨x, dx', pa, l, q, s, p, n, H, rfl, upd_same, nx, same_upd (same_new nd) nx, hS.area, hS.craft, hS.plan, hS.ok, hS.e, hk, fun H' pc hpc sm hx => ⟨rfl, k H' x sm nx ⟨dx', pa, pc, hx, hS.area.same sm, hpc.same sm⟩⟩⟩
theorem len_Search_sights_of (h : sp_Search_sights_of K a vs H Q E) : vs.length = p_Search_sights_of.length := by obtain ⟨_, _, _, _, _, _, _, _, _, _, _, rfl, _⟩ := h; rfl
theorem rd_Search_sights_of (T : Txt K mg a) (h : sp_Search_sights_of K a vs H Q E) : t_Search_sights_of K a { nx := fun _ H' => Q .non H', rt := Q } (L2.start n_Search_sights_of vs) H := by
  obtain ⟨se, dx, pa, l, q, vh, ch, s, p, x, y, rfl, hS, has, k⟩ := h
  have hse := hS.se
  obtain ⟨ps, hl, hcs⟩ := hS.craft
  have hlen := hcs.len
  have hn4 := hS.ok.len
  refine ⟨_, rfl, se, _, dx, _, _, rfl, hse, T.cl_Search, T.na_Search_crafts, rfl, l, _, rfl, .inl (SqL.of hl), _, rfl, (by rw [List.length_map]; omega), (by rw [List.length_map]; omega), fun D hD => lc_range (lo := 0) (n := (((ps.map V.ref).length : Nat) : Int).toNat)
    (fun i H' => Same H H' ∧ H' D = some (.lst ((List.range i).map fun k => optV ((cs s p k).hrs x y))))
    ⟨same_new hD, upd_same⟩ ?_ ?_⟩
  · rintro i H' hi ⟨s1, hD'⟩
    rw [List.length_map] at hi
    have hi' : i < s.craft.length := by omega
    refine ⟨rfl, ?_⟩
    unfold tYes; dsimp only
    rw [if_pos rfl]
    refine ⟨_, rfl, se, dx, _, rfl, s1 _ _ hse, rfl, _, rfl, se, dx, pa, l, q, vh, ch, s, p, i, i2 (by omega), hS.same s1, hi', fun H1 x' s2 nx hco => ?_⟩
    have hco' := hco
    obtain ⟨dx', pa', pc', hx, _, _⟩ := hco'
    refine ⟨x', dx', _, rfl, hx, rfl, _, rfl, _, rfl, x', cs s p i, x, y, rfl, hco, (cs_ok hS.ok hS.e hi').1, has, fun H2 s3 => ⟨_, s3 _ _ (s2 _ _ hD'), ?_, same_upd ((s1.trans s2).trans s3) hD, ?_⟩⟩
    · rw [List.length_map, List.length_range]; exact small4 (by omega)
    · rw [upd_same, List.range_succ, List.map_append]; rfl
  · rintro H' ⟨s1, hD'⟩
    refine k H' D s1 hD ?_
    rw [hD', List.length_map, hlen, Int.toNat_natCast]
end
end SL

end
section
set_option Elab.async false
set_option linter.all false
set_option maxRecDepth 100000
set_option maxHeartbeats 1000000
namespace SL
open PySem PySem.Spec PyProof.Rows L2
section
variable {K : PySem.W.Frag} {mg : Str → Option Value} {a : Ad} {vs : List V} {H : Hp} {Q : VK} {E : XK}
theorem len_Search_sl_look (h : sp_Search_sl_look K a vs H Q E) : vs.length = p_Search_sl_look.length := by obtain ⟨_, _, rfl, _⟩ := h; rfl
theorem rd_Search_sl_look (T : Txt K mg a) (h : sp_Search_sl_look K a vs H Q E) : t_Search_sl_look K a { nx := fun _ H' => Q .non H', rt := Q } (L2.start n_Search_sl_look vs) H := by
  obtain ⟨se, n, rfl, H0, d, hS, s, k⟩ := h
  have hS' := hS
  obtain ⟨hd, dx, va, vc, vp, vh, ch, M, hse0, hA⟩ := hS.now
  have hse := s _ _ hse0
  obtain ⟨l, rfl, ps, hl0, hcs⟩ := hA.craft
  have hl := rem_sub s _ _ hl0
  have hlen := hcs.len
  have hn4 := hd.now.len
  obtain ⟨p, rfl, hp0⟩ := hA.area
  have hp := hp0.same (rem_sub s)
  cases hA.hour
  unfold Km445.act at k; dsimp only at k
  refine ⟨_, rfl, _, rfl, se, _, dx, _, _, rfl, hse, T.cl_Search, T.na_Search_crafts, rfl, l, _, rfl, .inl (SqL.of hl), _, _, rfl, rfl, _, rfl, ?_⟩
  by_cases hk : d.now.craft.length ≤ n
  · rw [if_pos hk] at k
    rw [decide_eq_true (show ((ps.map V.ref).length : Int) ≤ (n : Int) by rw [List.length_map]; omega)]
    exact iteT (qEnd hS' s (Same.refl _) k rfl)
  rw [if_neg hk] at k
  rw [decide_eq_false (show ¬ ((ps.map V.ref).length : Int) ≤ (n : Int) by rw [List.length_map]; omega)]
  obtain ⟨c, hc⟩ : ∃ c, d.now.craft[n]? = some c := ⟨_, List.getElem?_eq_getElem (by omega)⟩
  obtain ⟨pc, hpc, hcc0⟩ := hcs.get' hc
  have hcc := hcc0.same (rem_sub s)
  have okc := hd.now.craft c (List.mem_of_getElem? hc)
  rw [one_is hc] at k
  obtain ⟨dc, hc1⟩ := hcc
  refine iteF ⟨_, rfl, se, _, dx, _, _, rfl, hse, T.cl_Search, T.na_Search_crafts, rfl, _, rfl, l, _, _, .ref pc, rfl, rfl, SqL.of hl, at_of (j := n) rfl (by rw [List.getElem?_map, hpc]; rfl), ?_⟩
  exact ⟨_, rfl, pc, _, dc, _, _, rfl, hc1, T.cl_Craft, T.na_Craft_speed, rfl, _, rfl, pc, _, dc, _, _, rfl, hc1, T.cl_Craft, T.na_Craft_see, rfl, _, rfl, pc, _, dc, _, _, rfl, hc1, T.cl_Craft, T.na_Craft_hours, rfl, _, rfl, pc, _, dc, _, _, rfl, hc1, T.cl_Craft, T.na_Craft_strip, rfl, qEnd hS' s (Same.refl _) k rfl⟩
theorem len_Search_sl_size (h : sp_Search_sl_size K a vs H Q E) : vs.length = p_Search_sl_size.length := by obtain ⟨_, rfl, _⟩ := h; rfl
theorem rd_Search_sl_size (T : Txt K mg a) (h : sp_Search_sl_size K a vs H Q E) : t_Search_sl_size K a { nx := fun _ H' => Q .non H', rt := Q } (L2.start n_Search_sl_size vs) H := by
  obtain ⟨se, rfl, H0, d, hS, s, k⟩ := h
  have hS' := hS
  obtain ⟨hd, dx, va, vc, vp, vh, ch, M, hse0, hA⟩ := hS.now
  have hse := s _ _ hse0
  obtain ⟨l, rfl, ps, hl0, hcs⟩ := hA.craft
  have hl := rem_sub s _ _ hl0
  have hlen := hcs.len
  have hn4 := hd.now.len
  obtain ⟨p, rfl, hp0⟩ := hA.area
  have hp := hp0.same (rem_sub s)
  cases hA.hour
  unfold Km445.act at k; dsimp only at k
  obtain ⟨dp, hp1⟩ := hp
  have okA := hd.now.area
  obtain ⟨o1, o2, o3, o4⟩ := okA
  refine ⟨_, rfl, se, _, dx, _, _, rfl, hse, T.cl_Search, T.na_Search_area, rfl, _, rfl, p, _, dp, _, _, rfl, hp1, T.cl_Area, T.na_Area_wide, rfl, _, _, rfl, rfl, _, rfl, p, _, dp, _, _, rfl, hp1, T.cl_Area, T.na_Area_high, rfl, _, _, rfl, rfl, _, _, rfl, rfl, .inl ⟨by omega, by omega⟩, _, rfl, p, _, dp, _, _, rfl, hp1, T.cl_Area, T.na_Area_x, rfl, _, rfl, p, _, dp, _, _, rfl, hp1, T.cl_Area, T.na_Area_y, rfl, _, rfl, p, _, dp, _, _, rfl, hp1, T.cl_Area, T.na_Area_wide, rfl, _, rfl, p, _, dp, _, _, rfl, hp1, T.cl_Area, T.na_Area_high, rfl, qEnd hS' s (Same.refl _) k rfl⟩
theorem len_Search_sl_state (h : sp_Search_sl_state K a vs H Q E) : vs.length = p_Search_sl_state.length := by obtain ⟨_, rfl, _⟩ := h; rfl
theorem rd_Search_sl_state (T : Txt K mg a) (h : sp_Search_sl_state K a vs H Q E) : t_Search_sl_state K a { nx := fun _ H' => Q .non H', rt := Q } (L2.start n_Search_sl_state vs) H := by
  obtain ⟨se, rfl, H0, d, hS, s, k⟩ := h
  have hS' := hS
  obtain ⟨hd, dx, ch, dc, lb, la, va, vc, vp, vh, bs, fs, hM, hA, hB, hF⟩ := hS
  have hse := s _ _ hM.fse
  have hch := s _ _ hM.fch
  have hlb := s _ _ hM.flb
  have hla := s _ _ hM.fla
  obtain ⟨l, rfl, ps, hl0, hcs⟩ := hA.craft
  have hl := rem_sub s _ _ hl0
  have hlen := hcs.len
  cases hA.hour
  unfold Km445.act at k; dsimp only at k
  have e1 : (((ps.map V.ref).length : Nat) : Int) = ((d.now.craft.length : Nat) : Int) := by rw [List.length_map, hlen]
  have e2 : ((bs.reverse.length : Nat) : Int) = ((d.past.length : Nat) : Int) := by rw [List.length_reverse, hB.len]
  have e3 : ((fs.reverse.length : Nat) : Int) = ((d.future.length : Nat) : Int) := by rw [List.length_reverse, hF.len]
  refine ⟨_, rfl, se, _, dx, _, _, rfl, hse, T.cl_Search, T.na_Search_plan, rfl, rfl, _, rfl, ?_⟩
  cases ep : d.now.plan with
  | none =>
    cases hp_none hA.plan ep
    rw [ep] at k
    refine iteT ⟨_, rfl, se, _, dx, _, _, rfl, hse, T.cl_Search, T.na_Search_hour, rfl, _, rfl, se, _, dx, _, _, rfl, hse, T.cl_Search, T.na_Search_crafts, rfl, l, _, rfl, .inl (SqL.of hl), _, rfl, _, rfl, se, _, dx, _, _, rfl, hse, T.cl_Search, T.na_Search_changes, rfl, ch, _, dc, _, _, rfl, hch, T.cl_Changes, T.na_Changes_behind, rfl, lb, _, rfl, .inl (SqL.of hlb), _, rfl, se, _, dx, _, _, rfl, hse, T.cl_Search, T.na_Search_changes, rfl, ch, _, dc, _, _, rfl, hch, T.cl_Changes, T.na_Changes_ahead, rfl, la, _, rfl, .inl (SqL.of hla), qEnd hS' s (Same.refl _) k ?_⟩
    rw [e1, e2, e3]; rfl
  | some pl =>
    obtain ⟨q, rfl, _⟩ := hp_some hA.plan ep
    rw [ep] at k
    refine iteF ⟨_, rfl, se, _, dx, _, _, rfl, hse, T.cl_Search, T.na_Search_hour, rfl, _, rfl, se, _, dx, _, _, rfl, hse, T.cl_Search, T.na_Search_crafts, rfl, l, _, rfl, .inl (SqL.of hl), _, rfl, _, rfl, se, _, dx, _, _, rfl, hse, T.cl_Search, T.na_Search_changes, rfl, ch, _, dc, _, _, rfl, hch, T.cl_Changes, T.na_Changes_behind, rfl, lb, _, rfl, .inl (SqL.of hlb), _, rfl, se, _, dx, _, _, rfl, hse, T.cl_Search, T.na_Search_changes, rfl, ch, _, dc, _, _, rfl, hch, T.cl_Changes, T.na_Changes_ahead, rfl, la, _, rfl, .inl (SqL.of hla), qEnd hS' s (Same.refl _) k ?_⟩
    rw [e1, e2, e3]; rfl
theorem len_Search_sl_most (h : sp_Search_sl_most K a vs H Q E) : vs.length = p_Search_sl_most.length := by obtain ⟨_, _, _, _, rfl, _⟩ := h; rfl
theorem rd_Search_sl_most (T : Txt K mg a) (h : sp_Search_sl_most K a vs H Q E) : t_Search_sl_most K a { nx := fun _ H' => Q .non H', rt := Q } (L2.start n_Search_sl_most vs) H := by
  obtain ⟨se, n, w, u, rfl, H0, d, hS, s, k⟩ := h
  have hS' := hS
  obtain ⟨hd, dx, va, vc, vp, vh, ch, M, hse0, hA⟩ := hS.now
  have hse := s _ _ hse0
  obtain ⟨l, rfl, ps, hl0, hcs⟩ := hA.craft
  have hl := rem_sub s _ _ hl0
  have hlen := hcs.len
  have hn4 := hd.now.len
  obtain ⟨p, rfl, hp0⟩ := hA.area
  have hp := hp0.same (rem_sub s)
  cases hA.hour
  unfold Km445.act at k; dsimp only at k
  refine ⟨_, rfl, _, rfl, se, _, dx, _, _, rfl, hse, T.cl_Search, T.na_Search_crafts, rfl, l, _, rfl, .inl (SqL.of hl), _, _, rfl, rfl, _, rfl, ?_⟩
  by_cases hk : d.now.craft.length ≤ n
  · rw [if_pos hk] at k
    rw [decide_eq_true (show ((ps.map V.ref).length : Int) ≤ (n : Int) by rw [List.length_map]; omega)]
    exact iteT (qEnd hS' s (Same.refl _) k rfl)
  rw [if_neg hk] at k
  rw [decide_eq_false (show ¬ ((ps.map V.ref).length : Int) ≤ (n : Int) by rw [List.length_map]; omega)]
  refine iteF ⟨_, rfl, _, _, rfl, rfl, _, rfl, ite2 (fun e1 => ?_) (fun e1 => ?_)⟩
  · have e1' : (1 : Int) < (w : Int) := of_decide_eq_true e1
    rw [if_pos (by omega)] at k
    exact iteT (qEnd hS' s (Same.refl _) k rfl)
  have e1' : ¬ (1 : Int) < (w : Int) := fun z => e1 (decide_eq_true z)
  refine ⟨_, rfl, _, _, rfl, rfl, _, rfl, ?_⟩
  by_cases e2 : 100 < u
  · rw [if_pos (by unfold Km445.LATEST; omega)] at k
    rw [decide_eq_true (show (100 : Int) < (u : Int) by omega)]
    exact iteT (qEnd hS' s (Same.refl _) k rfl)
  rw [if_neg (by unfold Km445.LATEST; omega)] at k
  rw [decide_eq_false (show ¬ (100 : Int) < (u : Int) by omega)]
  have hw := way_is (w := w) (by omega)
  obtain ⟨c, hc⟩ : ∃ c, d.now.craft[n]? = some c := ⟨_, List.getElem?_eq_getElem (by omega)⟩
  obtain ⟨pc, hpc, hcc0⟩ := hcs.get' hc
  have hcc := hcc0.same (rem_sub s)
  have okc := hd.now.craft c (List.mem_of_getElem? hc)
  rw [one_is hc] at k
  have hcc1 := hcc
  obtain ⟨dc, hc1⟩ := hcc1
  have l1 := strip_le okc
  refine iteF ⟨_, rfl, se, _, dx, _, _, rfl, hse, T.cl_Search, T.na_Search_crafts, rfl, _, rfl, l, _, _, .ref pc, rfl, rfl, SqL.of hl, at_of (j := n) rfl (by rw [List.getElem?_map, hpc]; rfl), ?_⟩
  refine ⟨_, rfl, se, _, dx, _, _, rfl, hse, T.cl_Search, T.na_Search_area, rfl, _, rfl, _, rfl, _, rfl, p, pc, d.now.area, c, w == 0, u, v4 hw, hp, hcc, hd.now.area, okc, _, rfl, _, rfl, se, _, dx, _, _, rfl, hse, T.cl_Search, T.na_Search_area, rfl, _, rfl, p, d.now.area, w == 0, v2 hw, hp, _, rfl, _, rfl, pc, _, dc, _, _, rfl, hc1, T.cl_Craft, T.na_Craft_strip, rfl, _, _, rfl, rfl, .inr ⟨by omega, by omega⟩, _, _, rfl, qEnd hS' s (Same.refl _) k ?_⟩
  have ee : (if ((c.legs (d.now.area.long (w == 0)) (d.now.area.across (w == 0)) u : Nat) : Int) * ((c.strip : Nat) : Int) < ((d.now.area.across (w == 0) : Nat) : Int) then ((c.legs (d.now.area.long (w == 0)) (d.now.area.across (w == 0)) u : Nat) : Int) * ((c.strip : Nat) : Int) else ((d.now.area.across (w == 0) : Nat) : Int)) = ((min (c.legs (d.now.area.long (w == 0)) (d.now.area.across (w == 0)) u * c.strip) (d.now.area.across (w == 0)) : Nat) : Int) := by
    rw [ifmin, ← Int.natCast_mul]; omega
  rw [ee]; rfl
theorem len_Search_sl_leg (h : sp_Search_sl_leg K a vs H Q E) : vs.length = p_Search_sl_leg.length := by obtain ⟨_, _, _, rfl, _⟩ := h; rfl
theorem rd_Search_sl_leg (T : Txt K mg a) (h : sp_Search_sl_leg K a vs H Q E) : t_Search_sl_leg K a { nx := fun _ H' => Q .non H', rt := Q } (L2.start n_Search_sl_leg vs) H := by
  obtain ⟨se, n, i, rfl, H0, d, hS, s, k⟩ := h
  have hS' := hS
  obtain ⟨hd, dx, va, vc, vp, vh, ch, M, hse0, hA⟩ := hS.now
  have hse := s _ _ hse0
  obtain ⟨l, rfl, ps, hl0, hcs⟩ := hA.craft
  have hl := rem_sub s _ _ hl0
  have hlen := hcs.len
  have hn4 := hd.now.len
  obtain ⟨p, rfl, hp0⟩ := hA.area
  have hp := hp0.same (rem_sub s)
  cases hA.hour
  unfold Km445.act at k; dsimp only at k
  refine ⟨_, rfl, _, rfl, se, _, dx, _, _, rfl, hse, T.cl_Search, T.na_Search_crafts, rfl, l, _, rfl, .inl (SqL.of hl), _, _, rfl, rfl, _, rfl, ?_⟩
  by_cases hk : d.now.craft.length ≤ n
  · rw [if_pos hk] at k
    rw [decide_eq_true (show ((ps.map V.ref).length : Int) ≤ (n : Int) by rw [List.length_map]; omega)]
    exact iteT (qEnd hS' s (Same.refl _) k rfl)
  rw [if_neg hk] at k
  rw [decide_eq_false (show ¬ ((ps.map V.ref).length : Int) ≤ (n : Int) by rw [List.length_map]; omega)]
  refine iteF ⟨_, rfl, se, _, dx, _, _, rfl, hse, T.cl_Search, T.na_Search_plan, rfl, rfl, _, rfl, ?_⟩
  cases ep : d.now.plan with
  | none =>
    cases hp_none hA.plan ep
    rw [ep] at k
    exact iteT (qEnd hS' s (Same.refl _) k rfl)
  | some pl =>
  obtain ⟨q, rfl, hpl0⟩ := hp_some hA.plan ep
  have hpl := hpl0.same (rem_sub s)
  obtain ⟨f1, f2, f3, f4⟩ := plan_facts hd.now ep
  rw [ep] at k
  dsimp only at k
  have hP : SeP a H se dx p l q (nV d.now.time) ch d.now pl := ⟨hse, hp, ⟨ps, hl, hcs.same (rem_sub s)⟩, hpl, hd.now, ep, rfl⟩
  refine iteF ⟨_, rfl, se, dx, _, rfl, hse, rfl, _, rfl, se, dx, p, l, q, _, ch, d.now, pl, n, rfl, hP, by omega, fun H1 x s1 nx hco => ?_⟩
  have hco' := hco
  obtain ⟨dx', pa', pc', hx, _, _⟩ := hco'
  have ok := (cs_ok hd.now ep (show n < d.now.craft.length by omega)).1
  refine ⟨_, rfl, _, rfl, x, _, dx', _, _, rfl, hx, T.cl_Course, T.na_Course_legs, rfl, _, _, rfl, rfl, _, rfl, ?_⟩
  by_cases hi : pl.legs.getD n 0 ≤ i
  · rw [if_pos hi] at k
    rw [decide_eq_true (show (((cs d.now pl n).m : Nat) : Int) ≤ (i : Int) by show ((pl.legs.getD n 0 : Nat) : Int) ≤ (i : Int); omega)]
    exact iteT (qEnd hS' s s1 k rfl)
  rw [if_neg hi] at k
  rw [decide_eq_false (show ¬ (((cs d.now pl n).m : Nat) : Int) ≤ (i : Int) by show ¬ ((pl.legs.getD n 0 : Nat) : Int) ≤ (i : Int); omega)]
  refine iteF ⟨(by show 1 ≤ sizeLine; decide), fun b hb => ?_⟩
  have s2 := same_new (o := .lst [.int 0]) hb
  have hb2 : (upd H1 b (.lst [.int 0])) b = some (.lst [.int 0]) := upd_same
  generalize (upd H1 b (.lst [.int 0])) = H2 at s2 hb2 ⊢
  refine ⟨_, rfl, x, dx', _, rfl, s2 _ _ hx, rfl, _, rfl, x, cs d.now pl n, i, 0, rfl, hco.same s2, ok, Nat.zero_le _, fun q1 hq1 => ?_⟩
  refine ⟨b, q1, _, _, rfl, rfl, same_new hq1 _ _ hb2, upd_same, (by show 1 + 2 ≤ sizeLine; decide), fun c hc => ?_⟩
  have s3 := (s2.trans (same_new (o := .lst [.int ((cs d.now pl n).place i 0).1, .int ((cs d.now pl n).place i 0).2]) hq1)).trans (same_new (o := .lst ([.int 0] ++ [.int ((cs d.now pl n).place i 0).1, .int ((cs d.now pl n).place i 0).2])) hc)
  have hc3 : (upd (upd H2 q1 (.lst [.int ((cs d.now pl n).place i 0).1, .int ((cs d.now pl n).place i 0).2])) c (.lst ([.int 0] ++ [.int ((cs d.now pl n).place i 0).1, .int ((cs d.now pl n).place i 0).2]))) c = some (.lst ([.int 0] ++ [.int ((cs d.now pl n).place i 0).1, .int ((cs d.now pl n).place i 0).2])) := upd_same
  generalize (upd (upd H2 q1 (.lst [.int ((cs d.now pl n).place i 0).1, .int ((cs d.now pl n).place i 0).2])) c (.lst ([.int 0] ++ [.int ((cs d.now pl n).place i 0).1, .int ((cs d.now pl n).place i 0).2]))) = H3 at s3 hc3 ⊢
  refine ⟨_, rfl, x, dx', _, rfl, s3 _ _ hx, rfl, _, rfl, _, rfl, x, _, dx', _, _, rfl, s3 _ _ hx, T.cl_Course, T.na_Course_long, rfl, x, cs d.now pl n, i, (cs d.now pl n).long, rfl, hco.same s3, ok, Nat.le_refl _, fun q2 hq2 => ?_⟩
  refine ⟨c, q2, _, _, rfl, rfl, same_new hq2 _ _ hc3, upd_same, (by show 3 + 2 ≤ sizeLine; decide), ?_⟩
  exact (qEnd hS' s ((s1.trans s3).trans (same_new hq2)) k rfl).2
theorem len_Search_sl_where (h : sp_Search_sl_where K a vs H Q E) : vs.length = p_Search_sl_where.length := by obtain ⟨_, _, rfl, _⟩ := h; rfl
theorem rd_Search_sl_where (T : Txt K mg a) (h : sp_Search_sl_where K a vs H Q E) : t_Search_sl_where K a { nx := fun _ H' => Q .non H', rt := Q } (L2.start n_Search_sl_where vs) H := by
  obtain ⟨se, n, rfl, H0, d, hS, s, k⟩ := h
  have hS' := hS
  obtain ⟨hd, dx, va, vc, vp, vh, ch, M, hse0, hA⟩ := hS.now
  have hse := s _ _ hse0
  obtain ⟨l, rfl, ps, hl0, hcs⟩ := hA.craft
  have hl := rem_sub s _ _ hl0
  have hlen := hcs.len
  have hn4 := hd.now.len
  obtain ⟨p, rfl, hp0⟩ := hA.area
  have hp := hp0.same (rem_sub s)
  cases hA.hour
  unfold Km445.act at k; dsimp only at k
  refine ⟨_, rfl, _, rfl, se, _, dx, _, _, rfl, hse, T.cl_Search, T.na_Search_crafts, rfl, l, _, rfl, .inl (SqL.of hl), _, _, rfl, rfl, _, rfl, ?_⟩
  by_cases hk : d.now.craft.length ≤ n
  · rw [if_pos hk] at k
    rw [decide_eq_true (show ((ps.map V.ref).length : Int) ≤ (n : Int) by rw [List.length_map]; omega)]
    exact iteT (qEnd hS' s (Same.refl _) k rfl)
  rw [if_neg hk] at k
  rw [decide_eq_false (show ¬ ((ps.map V.ref).length : Int) ≤ (n : Int) by rw [List.length_map]; omega)]
  refine iteF ⟨_, rfl, se, _, dx, _, _, rfl, hse, T.cl_Search, T.na_Search_plan, rfl, rfl, _, rfl, ?_⟩
  cases ep : d.now.plan with
  | none =>
    cases hp_none hA.plan ep
    rw [ep] at k
    exact iteT (qEnd hS' s (Same.refl _) k rfl)
  | some pl =>
  obtain ⟨q, rfl, hpl0⟩ := hp_some hA.plan ep
  have hpl := hpl0.same (rem_sub s)
  obtain ⟨f1, f2, f3, f4⟩ := plan_facts hd.now ep
  rw [ep] at k
  dsimp only at k
  have hP : SeP a H se dx p l q (nV d.now.time) ch d.now pl := ⟨hse, hp, ⟨ps, hl, hcs.same (rem_sub s)⟩, hpl, hd.now, ep, rfl⟩
  obtain ⟨c, hc⟩ : ∃ c, d.now.craft[n]? = some c := ⟨_, List.getElem?_eq_getElem (by omega)⟩
  obtain ⟨pc, hpc, hcc0⟩ := hcs.get' hc
  have hcc := hcc0.same (rem_sub s)
  have okc := hd.now.craft c (List.mem_of_getElem? hc)
  refine iteF ⟨_, rfl, se, dx, _, rfl, hse, rfl, _, rfl, se, dx, p, l, q, _, ch, d.now, pl, n, rfl, hP, by omega, fun H1 x s1 nx hco => ?_⟩
  have hco' := hco
  obtain ⟨dx', pa', pc', hx, _, _⟩ := hco'
  have ok := (cs_ok hd.now ep (show n < d.now.craft.length by omega)).1
  obtain ⟨m, hm⟩ : ∃ m, pl.legs[n]? = some m := ⟨_, List.getElem?_eq_getElem (by omega)⟩
  have em : pl.legs.getD n 0 = m := by rw [List.getD_eq_getElem?_getD, hm]; rfl
  refine ⟨_, rfl, x, _, dx', _, _, rfl, hx, T.cl_Course, T.na_Course_legs, rfl, rfl, _, rfl, ?_⟩
  by_cases hi : pl.legs.getD n 0 = 0
  · rw [if_pos hi] at k
    rw [decide_eq_true (show V.int (((cs d.now pl n).m : Nat) : Int) = V.int 0 by show V.int ((pl.legs.getD n 0 : Nat) : Int) = V.int 0; rw [hi]; rfl)]
    exact iteT (qEnd hS' s s1 k rfl)
  rw [if_neg hi] at k
  rw [decide_eq_false (show ¬ V.int (((cs d.now pl n).m : Nat) : Int) = V.int 0 by intro z; injection z with z; apply hi; have z' : ((pl.legs.getD n 0 : Nat) : Int) = 0 := z; omega)]
  rw [at_cs _ _ _ _ (by omega), place_cs, flown_cs hd.now ep (by omega), em, one_is hc] at k
  have hse1 := s1 _ _ hse
  refine iteF ⟨_, rfl, se, _, dx, _, _, rfl, hse1, T.cl_Search, T.na_Search_area, rfl, _, rfl, se, _, dx, _, _, rfl, hse1, T.cl_Search, T.na_Search_crafts, rfl, _, rfl, l, _, _, .ref pc, rfl, rfl, SqL.of (s1 _ _ hl), at_of (j := n) rfl (by rw [List.getElem?_map, hpc]; rfl), _, rfl, se, _, dx, _, _, rfl, hse1, T.cl_Search, T.na_Search_plan, rfl, _, rfl, _, rfl, se, _, dx, _, _, rfl, hse1, T.cl_Search, T.na_Search_hour, rfl, p, pc, q, d.now.area, c, pl, n, d.now.time, m, rfl, hp.same s1, hcc.same s1, hpl.same s1, hd.now.area, okc, hm, ?_⟩
  refine ⟨_, rfl, x, dx', _, rfl, hx, rfl, _, rfl, se, _, dx, _, _, rfl, hse1, T.cl_Search, T.na_Search_hour, rfl, x, cs d.now pl n, d.now.time, rfl, hco, ok, (by show 1 ≤ sizeLine; decide), fun b hb => ?_⟩
  have s2 := same_new (o := .lst [nV ((cs d.now pl n).gone d.now.time / (cs d.now pl n).pitch)]) hb
  have hb2 : (upd H1 b (.lst [nV ((cs d.now pl n).gone d.now.time / (cs d.now pl n).pitch)])) b = some (.lst [nV ((cs d.now pl n).gone d.now.time / (cs d.now pl n).pitch)]) := upd_same
  generalize (upd H1 b (.lst [nV ((cs d.now pl n).gone d.now.time / (cs d.now pl n).pitch)])) = H2 at s2 hb2 ⊢
  refine ⟨_, rfl, x, dx', _, rfl, s2 _ _ hx, rfl, _, rfl, se, _, dx, _, _, rfl, s2 _ _ hse1, T.cl_Search, T.na_Search_hour, rfl, x, cs d.now pl n, d.now.time, rfl, hco.same s2, ok, fun q1 hq1 => ?_⟩
  refine ⟨b, q1, _, _, rfl, rfl, same_new hq1 _ _ hb2, upd_same, (by show 1 + 2 ≤ sizeLine; decide), fun c1 hc1 => ⟨_, rfl, (by show 1 ≤ sizeLine; decide), fun c2 hc2 => ?_⟩⟩
  refine ⟨c1, c2, _, _, rfl, rfl, same_new hc2 _ _ upd_same, upd_same, (by show 3 + 1 ≤ sizeLine; decide), ?_⟩
  exact (qEnd hS' s ((s1.trans ((s2.trans (same_new hq1)).trans (same_new hc1))).trans (same_new hc2)) k rfl).2
end
end SL

end
section
set_option Elab.async false
set_option linter.all false
set_option maxRecDepth 100000
set_option maxHeartbeats 1000000
namespace SL
open PySem PySem.Spec PyProof.Rows L2
section
variable {K : PySem.W.Frag} {mg : Str → Option Value} {a : Ad} {vs : List V} {H : Hp} {Q : VK} {E : XK}
theorem lc_enum {K : PySem.W.Frag} {a : Addr} {xs : List V} {g : TG} {tt : TT} {te : TE} {vs : List Nat} {σ : L2.St} {H1 : Hp} {D : Addr} {Qd : Hp → Prop} (Pv : Nat → Hp → Prop) (h0 : Pv 0 (upd H1 D (.lst []))) (hl : ∀ i H, i ≤ xs.length → Pv i H → SqL K H a xs)
    (hs : ∀ i x H T, xs[i]? = some x → Pv i H → H T = none → g (.ref T) (wipe σ vs) (upd H T (.tup [.int (i : Nat), x])) fun σ2 H2 => wipe σ2 vs = wipe σ vs ∧ tt σ2 H2 fun b H3 =>
      if b = true then te σ2 H3 fun y H4 => ∃ acc, H4 D = some (.lst acc) ∧ acc.length < sizeLine ∧ Pv (i + 1) (upd H4 D (.lst (acc ++ [y]))) else Pv (i + 1) H3) (hd : ∀ H, Pv xs.length H → Qd H) :
    ∃ W : Nat → Nat → Hp → Prop, (∃ m, W 0 m (upd H1 D (.lst []))) ∧ ∀ i m H, W i m H →
      ((Ite K a).stop i H ∧ Qd H) ∨ ((Ite K a).go i H ∧ ∃ Nx : Hp → Prop, (∀ H', Nx H' → ∃ m', m' < m ∧ W (i + 1) m' H') ∧ ∀ x H', (Ite K a).yld i H x H' → g x (wipe σ vs) H' fun σ2 H2 => wipe σ2 vs = wipe σ vs ∧ tt σ2 H2 fun b H3 =>
        if b = true then te σ2 H3 fun y H4 => ∃ acc, H4 D = some (.lst acc) ∧ acc.length < sizeLine ∧ Nx (upd H4 D (.lst (acc ++ [y]))) else Nx H3) := by
  refine ⟨fun i m H => m = xs.length - i ∧ i ≤ xs.length ∧ Pv i H, ⟨xs.length, by simp, Nat.zero_le _, h0⟩, ?_⟩
  rintro i m H ⟨rfl, hi, p⟩
  have q := hl i H hi p
  by_cases hlt : i < xs.length
  · refine .inr ⟨⟨xs, xs[i], q, by simp [hlt]⟩, Pv (i + 1), fun H' p' => ⟨xs.length - (i + 1), by omega, rfl, hlt, p'⟩, fun x H' y => ?_⟩
    obtain ⟨T, x', e, hT, e', y⟩ := y
    subst e e'
    exact hs i x' _ T (y xs q) p hT
  · have e : i = xs.length := by omega
    subst e
    exact .inl ⟨⟨xs, q, Nat.le_refl _⟩, hd H p⟩
theorem len_Search_sl_ends (h : sp_Search_sl_ends K a vs H Q E) : vs.length = p_Search_sl_ends.length := by obtain ⟨_, rfl, _⟩ := h; rfl
theorem rd_Search_sl_ends (T : Txt K mg a) (h : sp_Search_sl_ends K a vs H Q E) : t_Search_sl_ends K a { nx := fun _ H' => Q .non H', rt := Q } (L2.start n_Search_sl_ends vs) H := by
  obtain ⟨se, rfl, H0, d, hS, s, k⟩ := h
  have hS' := hS
  obtain ⟨hd, dx, va, vc, vp, vh, ch, M, hse0, hA⟩ := hS.now
  have hse := s _ _ hse0
  obtain ⟨l, rfl, ps, hl0, hcs⟩ := hA.craft
  have hl := rem_sub s _ _ hl0
  have hlen := hcs.len
  have hn4 := hd.now.len
  obtain ⟨p, rfl, hp0⟩ := hA.area
  have hp := hp0.same (rem_sub s)
  cases hA.hour
  unfold Km445.act at k; dsimp only at k
  refine ⟨_, rfl, se, _, dx, _, _, rfl, hse, T.cl_Search, T.na_Search_plan, rfl, rfl, _, rfl, ?_⟩
  cases ep : d.now.plan with
  | none =>
    cases hp_none hA.plan ep
    rw [ep] at k
    exact iteT (qEnd hS' s (Same.refl _) k rfl)
  | some pl =>
  obtain ⟨q, rfl, hpl0⟩ := hp_some hA.plan ep
  have hpl := hpl0.same (rem_sub s)
  obtain ⟨f1, f2, f3, f4⟩ := plan_facts hd.now ep
  rw [ep] at k
  dsimp only at k
  have hP : SeP a H se dx p l q (nV d.now.time) ch d.now pl := ⟨hse, hp, ⟨ps, hl, hcs.same (rem_sub s)⟩, hpl, hd.now, ep, rfl⟩
  obtain ⟨dq, ls, hq, hls⟩ := hpl
  have htm := hd.now.time pl ep
  refine iteF ⟨_, rfl, se, _, dx, _, _, rfl, hse, T.cl_Search, T.na_Search_crafts, rfl, l, _, rfl, SqL.of hl, fun D hD => lc_enum (K := K) (a := l) (xs := ps.map V.ref)
    (fun i H' => Same H H' ∧ H' D = some (.lst ((List.range i).map fun k => nV (d.now.flown pl k))))
    ⟨same_new hD, upd_same⟩ (fun i H' _ z => SqL.of (z.1 _ _ hl)) ?_ ?_⟩
  · rintro i v H' t hi ⟨s1, hD'⟩ ht
    obtain ⟨pc, hpc, rfl⟩ := ref_at hi
    obtain ⟨c, hc, hcc0⟩ := hcs.get hpc
    have hcc := hcc0.same (rem_sub s)
    have okc := hd.now.craft c (List.mem_of_getElem? hc)
    have hi' := (List.getElem?_eq_some_iff.mp hc).1
    obtain ⟨m, hm⟩ : ∃ m, pl.legs[i]? = some m := ⟨_, List.getElem?_eq_getElem (by omega)⟩
    have em : pl.legs.getD i 0 = m := by rw [List.getD_eq_getElem?_getD, hm]; rfl
    have s2 : Same H (upd H' t (.tup [.int (i : Nat), .ref pc])) := same_upd s1 (s1.free ht)
    have hD2 := same_new (o := .tup [.int (i : Nat), .ref pc]) ht _ _ hD'
    have ht2 : (upd H' t (.tup [.int (i : Nat), .ref pc])) t = some (.tup [.int (i : Nat), .ref pc]) := upd_same
    generalize (upd H' t (.tup [.int (i : Nat), .ref pc])) = H2 at s2 hD2 ht2 ⊢
    refine ⟨t, _, rfl, SqT.of ht2, rfl, _, _, rfl, _, _, rfl, rfl, rfl, ?_⟩
    unfold tYes; dsimp only
    rw [if_pos rfl]
    have hse2 := s2 _ _ hse
    refine ⟨_, rfl, se, _, dx, _, _, rfl, hse2, T.cl_Search, T.na_Search_area, rfl, _, rfl, _, rfl, se, _, dx, _, _, rfl, hse2, T.cl_Search, T.na_Search_plan, rfl, _, rfl, _, rfl, se, _, dx, _, _, rfl, hse2, T.cl_Search, T.na_Search_hour, rfl, p, pc, q, d.now.area, c, pl, i, d.now.time, m, rfl, hp.same s2, hcc.same s2, ⟨dq, ls, s2 _ _ hq, s2 _ _ hls⟩, hd.now.area, okc, hm, _, hD2, ?_, same_upd s2 hD, ?_⟩
    · rw [List.length_map, List.length_range]; exact small4 (by omega)
    · rw [upd_same, List.range_succ, List.map_append]
      have ef : d.now.flown pl i = min m (c.legs (d.now.area.long pl.along) (d.now.area.across pl.along) d.now.time) := by rw [flown_cs hd.now ep hi', em, one_is hc]
      show _ = some (HO.lst (_ ++ [nV (d.now.flown pl i)]))
      rw [ef]
  · rintro H' ⟨s1, hD'⟩
    have hse1 := s1 _ _ hse
    have hq1 := s1 _ _ hq
    have hls1 := s1 _ _ hls
    have e1 : ((List.range (ps.map V.ref).length).map fun k => nV (d.now.flown pl k)) = (((List.range d.now.craft.length).map fun k => d.now.flown pl k).map fun (n : Nat) => (n : Int)).map V.int := by
      rw [List.length_map, hlen, List.map_map, List.map_map]; rfl
    rw [e1] at hD'
    rw [nv_map] at hls1
    refine ⟨_, rfl, se, _, dx, _, _, rfl, hse1, T.cl_Search, T.na_Search_plan, rfl, q, _, dq, _, _, rfl, hq1, T.cl_Plan, T.na_Plan_hours, rfl, _, rfl, se, _, dx, _, _, rfl, hse1, T.cl_Search, T.na_Search_hour, rfl, _, _, rfl, rfl, _, rfl, D, _, rfl, SqL.of hD', _, rfl, se, _, dx, _, _, rfl, hse1, T.cl_Search, T.na_Search_plan, rfl, q, _, dq, _, _, rfl, hq1, T.cl_Plan, T.na_Plan_shares, rfl, ls, _, rfl, SqL.of hls1, qEnd hS' s s1 k ?_⟩
    rw [sum_int, sum_int]
    have e2 : ((pl.hours : Nat) : Int) - ((d.now.time : Nat) : Int) = ((pl.hours - d.now.time : Nat) : Int) := by omega
    show [V.int (((pl.hours : Nat) : Int) - ((d.now.time : Nat) : Int)), _, _] = _
    rw [e2]; rfl
theorem sight_at {s : Km445.Sea} {p : Km445.Plan} {x y : Int} {n i : Nat} {v : V} (h : ((List.range n).map fun k => optV ((cs s p k).hrs x y))[i]? = some v) : i < n ∧ v = optV ((cs s p i).hrs x y) := by
  rw [List.getElem?_map] at h
  by_cases hi : i < n
  · rw [List.getElem?_range hi] at h
    exact ⟨hi, (Option.some.inj h).symm⟩
  · rw [List.getElem?_eq_none (by rw [List.length_range]; omega)] at h; cases h
theorem len_Search_sl_seen (h : sp_Search_sl_seen K a vs H Q E) : vs.length = p_Search_sl_seen.length := by obtain ⟨_, _, _, rfl, _⟩ := h; rfl
theorem rd_Search_sl_seen (T : Txt K mg a) (h : sp_Search_sl_seen K a vs H Q E) : t_Search_sl_seen K a { nx := fun _ H' => Q .non H', rt := Q } (L2.start n_Search_sl_seen vs) H := by
  obtain ⟨se, x, y, rfl, H0, d, hS, s, k⟩ := h
  have hS' := hS
  obtain ⟨hd, dx, va, vc, vp, vh, ch, M, hse0, hA⟩ := hS.now
  have hse := s _ _ hse0
  obtain ⟨l, rfl, ps, hl0, hcs⟩ := hA.craft
  have hl := rem_sub s _ _ hl0
  have hlen := hcs.len
  have hn4 := hd.now.len
  obtain ⟨p, rfl, hp0⟩ := hA.area
  have hp := hp0.same (rem_sub s)
  cases hA.hour
  unfold Km445.act at k; dsimp only at k
  refine ⟨_, rfl, se, _, dx, _, _, rfl, hse, T.cl_Search, T.na_Search_area, rfl, _, rfl, _, rfl, p, d.now.area, x, y, rfl, hp, _, rfl, ?_⟩
  cases has : d.now.area.has x y with
  | false =>
    rw [if_pos has] at k
    exact iteT (qEnd hS' s (Same.refl _) k rfl)
  | true =>
  rw [if_neg (by rw [has]; decide)] at k
  refine iteF ⟨_, rfl, se, _, dx, _, _, rfl, hse, T.cl_Search, T.na_Search_plan, rfl, rfl, _, rfl, ?_⟩
  cases ep : d.now.plan with
  | none =>
    cases hp_none hA.plan ep
    rw [ep] at k
    exact iteT (qEnd hS' s (Same.refl _) k rfl)
  | some pl =>
  obtain ⟨q, rfl, hpl0⟩ := hp_some hA.plan ep
  have hpl := hpl0.same (rem_sub s)
  obtain ⟨f1, f2, f3, f4⟩ := plan_facts hd.now ep
  rw [ep] at k
  dsimp only at k
  have hP : SeP a H se dx p l q (nV d.now.time) ch d.now pl := ⟨hse, hp, ⟨ps, hl, hcs.same (rem_sub s)⟩, hpl, hd.now, ep, rfl⟩
  refine iteF ⟨_, rfl, se, dx, _, rfl, hse, rfl, _, rfl, _, rfl, se, dx, p, l, q, _, ch, d.now, pl, x, y, rfl, hP, has, fun H1 D s1 nD hD => ?_⟩
  replace k := Eq.mp (congrArg (fun z : Nat => Ends1 a H0 H se Q (some d) (Km445Neutral.told (Km445.only (z : Int)))) (seen_cs hd.now ep x y)) k
  have hse1 := s1 _ _ hse
  refine ⟨_, rfl, D, rfl, ⟨_, SqL.of hD⟩, fun D2 hD2 => lc_list (K := K) (a := D) (xs := (List.range d.now.craft.length).map fun k => optV ((cs d.now pl k).hrs x y))
    (fun i H' => Same H1 H' ∧ H' D2 = some (.lst (((List.range i).filter fun k => match (cs d.now pl k).hrs x y with
        | none => false
        | some u => decide (u ≤ d.now.time)).map fun k => optV ((cs d.now pl k).hrs x y))))
    ⟨same_new hD2, upd_same⟩ (fun i H' _ z => SqL.of (z.1 _ _ hD)) ?_ ?_⟩
  · rintro i v H' hi ⟨s2, hD'⟩
    obtain ⟨hi', rfl⟩ := sight_at hi
    rw [List.range_succ, List.filter_append, List.map_append]
    refine ⟨rfl, _, rfl, rfl, _, rfl, ?_⟩
    cases eh : (cs d.now pl i).hrs x y with
    | none =>
      refine iteF (iteF ⟨s2, ?_⟩)
      rw [hD', List.filter_cons, if_neg (by rw [eh]; exact Bool.false_ne_true), List.filter_nil, List.map_nil, List.append_nil]
    | some u =>
      refine iteT ⟨_, rfl, _, rfl, se, _, dx, _, _, rfl, s2 _ _ hse1, T.cl_Search, T.na_Search_hour, rfl, _, _, rfl, rfl, _, rfl, ite2 (fun e => ?_) (fun e => ?_)⟩
      · have e' : (u : Int) ≤ (d.now.time : Int) := of_decide_eq_true e
        refine ⟨_, rfl, _, hD', ?_, same_upd s2 hD2, ?_⟩
        · rw [List.length_map]
          have := List.length_filter_le (fun k => match (cs d.now pl k).hrs x y with
            | none => false
            | some u => decide (u ≤ d.now.time)) (List.range i)
          rw [List.length_range] at this
          exact small4 (by omega)
        · rw [upd_same, List.filter_cons, if_pos (by rw [eh]; exact decide_eq_true (by omega)), List.filter_nil, List.map_cons, List.map_nil, eh]
      · have e' : ¬ (u : Int) ≤ (d.now.time : Int) := fun z => e (decide_eq_true z)
        refine ⟨s2, ?_⟩
        rw [hD', List.filter_cons, if_neg (by rw [eh]; simp; omega), List.filter_nil, List.map_nil, List.append_nil]
  · rintro H' ⟨s2, hD'⟩
    rw [List.length_map, List.length_range] at hD'
    refine ⟨D2, _, rfl, .inl (SqL.of hD'), qEnd hS' s (s1.trans s2) k ?_⟩
    rw [List.length_map]; rfl
theorem len_Search_sl_when (h : sp_Search_sl_when K a vs H Q E) : vs.length = p_Search_sl_when.length := by obtain ⟨_, _, _, rfl, _⟩ := h; rfl
theorem rd_Search_sl_when (T : Txt K mg a) (h : sp_Search_sl_when K a vs H Q E) : t_Search_sl_when K a { nx := fun _ H' => Q .non H', rt := Q } (L2.start n_Search_sl_when vs) H := by
  obtain ⟨se, x, y, rfl, H0, d, hS, s, k⟩ := h
  have hS' := hS
  obtain ⟨hd, dx, va, vc, vp, vh, ch, M, hse0, hA⟩ := hS.now
  have hse := s _ _ hse0
  obtain ⟨l, rfl, ps, hl0, hcs⟩ := hA.craft
  have hl := rem_sub s _ _ hl0
  have hlen := hcs.len
  have hn4 := hd.now.len
  obtain ⟨p, rfl, hp0⟩ := hA.area
  have hp := hp0.same (rem_sub s)
  cases hA.hour
  unfold Km445.act at k; dsimp only at k
  refine ⟨_, rfl, se, _, dx, _, _, rfl, hse, T.cl_Search, T.na_Search_area, rfl, _, rfl, _, rfl, p, d.now.area, x, y, rfl, hp, _, rfl, ?_⟩
  cases has : d.now.area.has x y with
  | false =>
    rw [if_pos has] at k
    exact iteT (qEnd hS' s (Same.refl _) k rfl)
  | true =>
  rw [if_neg (by rw [has]; decide)] at k
  refine iteF ⟨_, rfl, se, _, dx, _, _, rfl, hse, T.cl_Search, T.na_Search_plan, rfl, rfl, _, rfl, ?_⟩
  cases ep : d.now.plan with
  | none =>
    cases hp_none hA.plan ep
    rw [ep] at k
    exact iteT (qEnd hS' s (Same.refl _) k rfl)
  | some pl =>
  obtain ⟨q, rfl, hpl0⟩ := hp_some hA.plan ep
  have hpl := hpl0.same (rem_sub s)
  obtain ⟨f1, f2, f3, f4⟩ := plan_facts hd.now ep
  rw [ep] at k
  dsimp only at k
  have hP : SeP a H se dx p l q (nV d.now.time) ch d.now pl := ⟨hse, hp, ⟨ps, hl, hcs.same (rem_sub s)⟩, hpl, hd.now, ep, rfl⟩
  refine iteF ⟨_, rfl, se, dx, _, rfl, hse, rfl, _, rfl, _, rfl, se, dx, p, l, q, _, ch, d.now, pl, x, y, rfl, hP, has, fun H1 D s1 nD hD => ?_⟩
  obtain ⟨t, j, ew⟩ := when_some hd.now ep has
  rw [ew] at k
  dsimp only at k
  obtain ⟨w1, w2, w3, w4⟩ := when_is ew
  refine ⟨_, rfl, D, rfl, ⟨_, SqL.of hD⟩, fun D2 hD2 => lc_list (K := K) (a := D) (xs := (List.range d.now.craft.length).map fun k => optV ((cs d.now pl k).hrs x y))
    (fun i H' => Same H1 H' ∧ H' D2 = some (.lst (((List.range i).filterMap fun k => (cs d.now pl k).hrs x y).map nV)))
    ⟨same_new hD2, upd_same⟩ (fun i H' _ z => SqL.of (z.1 _ _ hD)) ?_ ?_⟩
  · rintro i v H' hi ⟨s2, hD'⟩
    obtain ⟨hi', rfl⟩ := sight_at hi
    rw [List.range_succ, List.filterMap_append, List.map_append]
    refine ⟨rfl, _, rfl, rfl, _, rfl, ?_⟩
    cases eh : (cs d.now pl i).hrs x y with
    | none =>
      refine iteF ⟨s2, ?_⟩
      rw [hD', List.filterMap_cons, eh]; simp
    | some u =>
      refine iteT ⟨_, rfl, _, hD', ?_, same_upd s2 hD2, ?_⟩
      · rw [List.length_map]
        have := List.length_filterMap_le (fun k => (cs d.now pl k).hrs x y) (List.range i)
        rw [List.length_range] at this
        exact small4 (by omega)
      · rw [upd_same, List.filterMap_cons, eh]; rfl
  · rintro H' ⟨s2, hD'⟩
    rw [List.length_map, List.length_range, nv_map] at hD'
    have mem : ∀ z : Int, z ∈ ((List.range d.now.craft.length).filterMap fun k => (cs d.now pl k).hrs x y).map (fun (n : Nat) => (n : Int)) ↔ ∃ i u, i < d.now.craft.length ∧ (cs d.now pl i).hrs x y = some u ∧ z = (u : Int) := by
      intro z
      rw [List.mem_map]
      constructor
      · rintro ⟨u, hu, rfl⟩
        obtain ⟨i, hi, e⟩ := List.mem_filterMap.mp hu
        exact ⟨i, u, List.mem_range.mp hi, e, rfl⟩
      · rintro ⟨i, u, hi, e, rfl⟩
        exact ⟨u, List.mem_filterMap.mpr ⟨i, List.mem_range.mpr hi, e⟩, rfl⟩
    refine ⟨D2, _, rfl, SqL.of hD', List.length_pos_of_mem ((mem t).mpr ⟨j, t, w1, w2, rfl⟩), fun m hm hmin => ?_⟩
    have m1 := hmin t ((mem t).mpr ⟨j, t, w1, w2, rfl⟩)
    obtain ⟨i, u, hi, eu, rfl⟩ := (mem m).mp hm
    have m2 := w3 i u hi eu
    obtain rfl : u = t := by omega
    have hDs := s2 _ _ hD
    refine ⟨_, rfl, _, rfl, .inl ⟨rfl, _, SqL.of hDs⟩, _, rfl, D, _, .int (u : Int), j, nV u, rfl, rfl, SqL.of hDs, rfl, ?_, ?_, ?_, ?_, qEnd hS' s (s1.trans s2) k rfl⟩
    · rw [List.all_eq_true]
      intro v hv
      obtain ⟨i, _, rfl⟩ := List.mem_map.mp hv
      cases (cs d.now pl i).hrs x y <;> rfl
    · rw [List.getElem?_map, List.getElem?_range w1]
      show some (optV ((cs d.now pl j).hrs x y)) = _
      rw [w2]; rfl
    · show ((u : Int) == (u : Int)) = true
      exact beq_self_eq_true _
    · intro m z' hm hz
      obtain ⟨hm', rfl⟩ := sight_at hz
      cases eh : (cs d.now pl m).hrs x y with
      | none => rfl
      | some v =>
        have := w4 m v hm eh
        show ((v : Int) == (u : Int)) = false
        exact beq_eq_false_iff_ne.mpr (by omega)
end
end SL

end
section
set_option Elab.async false
set_option linter.all false
set_option maxRecDepth 100000
set_option maxHeartbeats 1000000
namespace SL
open PySem PySem.Spec PyProof.Rows L2
section
variable {K : PySem.W.Frag} {mg : Str → Option Value} {a : Ad} {vs : List V} {H : Hp} {Q : VK} {E : XK}
theorem len_step {lo hi : Int} (h : spStep lo hi a vs H Q E) : vs.length = 3 := by obtain ⟨_, _, _, _, _, _, rfl, _⟩ := h; rfl
theorem len_step0 {lo hi : Int} (h : spStep0 lo hi a vs H Q E) : vs.length = 2 := by obtain ⟨_, _, _, _, _, rfl, _⟩ := h; rfl
theorem len_answer_change (h : sp_answer_change K a vs H Q E) : vs.length = p_answer_change.length := len_step h
theorem len_answer_about_hours (h : sp_answer_about_hours K a vs H Q E) : vs.length = p_answer_about_hours.length := len_step h
theorem len_answer_about_legs (h : sp_answer_about_legs K a vs H Q E) : vs.length = p_answer_about_legs.length := len_step h
theorem len_answer_about_sizes (h : sp_answer_about_sizes K a vs H Q E) : vs.length = p_answer_about_sizes.length := len_step h
theorem len_answer_call (h : sp_answer_call K a vs H Q E) : vs.length = p_answer_call.length := len_step h
theorem len_answer_about_changes (h : sp_answer_about_changes K a vs H Q E) : vs.length = p_answer_about_changes.length := len_step0 h
theorem rd_answer_call (T : Txt K mg a) (h : sp_answer_call K a vs H Q E) : t_answer_call K a { nx := fun _ H' => Q .non H', rt := Q } (L2.start n_answer_call vs) H := by
  obtain ⟨se, g, H0, S, p, args, rfl, lo, hi, h⟩ := h
  refine ⟨_, rfl, _, _, rfl, rfl, _, rfl, ite2 (fun e => ?_) (fun e => ?_)⟩
  · exact ⟨_, rfl, _, rfl, _, rfl, se, g, H0, S, p, args, rfl, lo, of_decide_eq_true e, h⟩
  have e5 : ¬ p ≤ 5 := fun z => e (decide_eq_true z)
  refine ⟨_, rfl, _, _, rfl, rfl, _, rfl, ite2 (fun e => ?_) (fun e => ?_)⟩
  · exact ⟨_, rfl, _, rfl, _, rfl, se, g, H0, S, p, args, rfl, by omega, of_decide_eq_true e, h⟩
  have e10 : ¬ p ≤ 10 := fun z => e (decide_eq_true z)
  refine ⟨_, rfl, _, _, rfl, rfl, _, rfl, ite2 (fun e => ?_) (fun e => ?_)⟩
  · exact ⟨_, rfl, _, rfl, _, rfl, se, g, H0, S, p, args, rfl, by omega, of_decide_eq_true e, h⟩
  have e15 : ¬ p ≤ 15 := fun z => e (decide_eq_true z)
  refine ⟨_, rfl, _, _, rfl, rfl, _, rfl, ite2 (fun e => ?_) (fun e => ?_)⟩
  · exact ⟨_, rfl, _, rfl, _, rfl, se, g, H0, S, p, args, rfl, by omega, of_decide_eq_true e, h⟩
  have e18 : ¬ p ≤ 18 := fun z => e (decide_eq_true z)
  exact ⟨_, rfl, _, rfl, se, H0, S, p, args, rfl, by omega, hi, h.2⟩
theorem rd_answer_change (T : Txt K mg a) (h : sp_answer_change K a vs H Q E) : t_answer_change K a { nx := fun _ H' => Q .non H', rt := Q } (L2.start n_answer_change vs) H := by
  obtain ⟨se, g, H0, S, p, args, rfl, lo, hi, hg, hS, s, has, hne, k⟩ := h
  obtain ⟨dx, va, vc, vp, vh, ch, hse0⟩ := hS.fields
  have hse := s _ _ hse0
  rcases (show p = 0 ∨ p = 1 ∨ p = 2 ∨ p = 3 ∨ p = 4 ∨ p = 5 by omega) with rfl | rfl | rfl | rfl | rfl | rfl
  · obtain ⟨b0, b1, b2, b3, rfl, hc⟩ := form_0 has
    rw [step_start hc] at k
    exact ⟨_, rfl, rfl, _, rfl, iteT ⟨_, rfl, se, dx, _, rfl, hse, rfl, _, rfl, g, _, _, _, rfl, rfl, SqL.of hg, rfl, _, rfl, g, _, _, _, rfl, rfl, SqL.of hg, rfl, _, rfl, g, _, _, _, rfl, rfl, SqL.of hg, rfl, _, rfl, g, _, _, _, rfl, rfl, SqL.of hg, rfl, se, b0, b1, b2, b3, rfl, H0, S, hS, s, fun e => by rw [e] at k; exact k, fun e => by rw [e] at k; exact k⟩⟩
  · obtain ⟨b0, b1, b2, rfl, hc⟩ := form_1 has
    obtain ⟨d, rfl⟩ := step_is hc rfl hne
    rw [step_some hc] at k
    exact ⟨_, rfl, rfl, _, rfl, iteF ⟨_, rfl, rfl, _, rfl, iteT ⟨_, rfl, se, dx, _, rfl, hse, rfl, _, rfl, g, _, _, _, rfl, rfl, SqL.of hg, rfl, _, rfl, g, _, _, _, rfl, rfl, SqL.of hg, rfl, _, rfl, g, _, _, _, rfl, rfl, SqL.of hg, rfl, se, b0, b1, b2, rfl, H0, d, hS, s, k⟩⟩⟩
  · obtain ⟨b0, b1, b2, b3, rfl, hc⟩ := form_2 has
    obtain ⟨d, rfl⟩ := step_is hc rfl hne
    rw [step_some hc] at k
    exact ⟨_, rfl, rfl, _, rfl, iteF ⟨_, rfl, rfl, _, rfl, iteF ⟨_, rfl, rfl, _, rfl, iteT ⟨_, rfl, se, dx, _, rfl, hse, rfl, _, rfl, g, _, _, _, rfl, rfl, SqL.of hg, rfl, _, rfl, g, _, _, _, rfl, rfl, SqL.of hg, rfl, _, rfl, g, _, _, _, rfl, rfl, SqL.of hg, rfl, _, rfl, g, _, _, _, rfl, rfl, SqL.of hg, rfl, se, b0, b1, b2, b3, rfl, H0, d, hS, s, k⟩⟩⟩⟩
  · obtain ⟨b0, rfl, hc⟩ := form_3 has
    obtain ⟨d, rfl⟩ := step_is hc rfl hne
    rw [step_some hc] at k
    exact ⟨_, rfl, rfl, _, rfl, iteF ⟨_, rfl, rfl, _, rfl, iteF ⟨_, rfl, rfl, _, rfl, iteF ⟨_, rfl, rfl, _, rfl, iteT ⟨_, rfl, se, dx, _, rfl, hse, rfl, _, rfl, g, _, _, _, rfl, rfl, SqL.of hg, rfl, se, b0, rfl, H0, d, hS, s, k⟩⟩⟩⟩⟩
  · obtain ⟨rfl, hc⟩ := form_4 has
    obtain ⟨d, rfl⟩ := step_is hc rfl hne
    rw [step_some hc] at k
    exact ⟨_, rfl, rfl, _, rfl, iteF ⟨_, rfl, rfl, _, rfl, iteF ⟨_, rfl, rfl, _, rfl, iteF ⟨_, rfl, rfl, _, rfl, iteF ⟨_, rfl, rfl, _, rfl, iteT ⟨_, rfl, se, dx, _, rfl, hse, rfl, se, rfl, H0, d, hS, s, k⟩⟩⟩⟩⟩⟩
  · obtain ⟨b0, rfl, hc⟩ := form_5 has
    obtain ⟨d, rfl⟩ := step_is hc rfl hne
    rw [step_some hc] at k
    exact ⟨_, rfl, rfl, _, rfl, iteF ⟨_, rfl, rfl, _, rfl, iteF ⟨_, rfl, rfl, _, rfl, iteF ⟨_, rfl, rfl, _, rfl, iteF ⟨_, rfl, rfl, _, rfl, iteF ⟨_, rfl, se, dx, _, rfl, hse, rfl, _, rfl, g, _, _, _, rfl, rfl, SqL.of hg, rfl, se, b0, rfl, H0, d, hS, s, k⟩⟩⟩⟩⟩⟩
theorem rd_answer_about_hours (T : Txt K mg a) (h : sp_answer_about_hours K a vs H Q E) : t_answer_about_hours K a { nx := fun _ H' => Q .non H', rt := Q } (L2.start n_answer_about_hours vs) H := by
  obtain ⟨se, g, H0, S, p, args, rfl, lo, hi, hg, hS, s, has, hne, k⟩ := h
  obtain ⟨dx, va, vc, vp, vh, ch, hse0⟩ := hS.fields
  have hse := s _ _ hse0
  rcases (show p = 6 ∨ p = 7 ∨ p = 8 ∨ p = 9 ∨ p = 10 by omega) with rfl | rfl | rfl | rfl | rfl
  · obtain ⟨b0, b1, rfl, hc⟩ := form_6 has
    obtain ⟨d, rfl⟩ := step_is hc rfl hne
    rw [step_some hc] at k
    exact ⟨_, rfl, rfl, _, rfl, iteT ⟨_, rfl, se, dx, _, rfl, hse, rfl, _, rfl, g, _, _, _, rfl, rfl, SqL.of hg, rfl, _, rfl, g, _, _, _, rfl, rfl, SqL.of hg, rfl, se, b0, b1, rfl, H0, d, hS, s, k⟩⟩
  · obtain ⟨rfl, hc⟩ := form_7 has
    obtain ⟨d, rfl⟩ := step_is hc rfl hne
    rw [step_some hc] at k
    exact ⟨_, rfl, rfl, _, rfl, iteF ⟨_, rfl, rfl, _, rfl, iteT ⟨_, rfl, se, dx, _, rfl, hse, rfl, se, rfl, H0, d, hS, s, k⟩⟩⟩
  · obtain ⟨b0, b1, rfl, hc⟩ := form_8 has
    obtain ⟨d, rfl⟩ := step_is hc rfl hne
    rw [step_some hc] at k
    exact ⟨_, rfl, rfl, _, rfl, iteF ⟨_, rfl, rfl, _, rfl, iteF ⟨_, rfl, rfl, _, rfl, iteT ⟨_, rfl, se, dx, _, rfl, hse, rfl, _, rfl, g, _, _, _, rfl, rfl, SqL.of hg, rfl, _, rfl, g, _, _, _, rfl, rfl, SqL.of hg, rfl, se, b0, b1, rfl, H0, d, hS, s, k⟩⟩⟩⟩
  · obtain ⟨rfl, hc⟩ := form_9 has
    obtain ⟨d, rfl⟩ := step_is hc rfl hne
    rw [step_some hc] at k
    exact ⟨_, rfl, rfl, _, rfl, iteF ⟨_, rfl, rfl, _, rfl, iteF ⟨_, rfl, rfl, _, rfl, iteF ⟨_, rfl, rfl, _, rfl, iteT ⟨_, rfl, se, dx, _, rfl, hse, rfl, se, rfl, H0, d, hS, s, k⟩⟩⟩⟩⟩
  · obtain ⟨b0, rfl, hc⟩ := form_10 has
    obtain ⟨d, rfl⟩ := step_is hc rfl hne
    rw [step_some hc] at k
    exact ⟨_, rfl, rfl, _, rfl, iteF ⟨_, rfl, rfl, _, rfl, iteF ⟨_, rfl, rfl, _, rfl, iteF ⟨_, rfl, rfl, _, rfl, iteF ⟨_, rfl, se, dx, _, rfl, hse, rfl, _, rfl, g, _, _, _, rfl, rfl, SqL.of hg, rfl, se, b0, rfl, H0, d, hS, s, k⟩⟩⟩⟩⟩
theorem rd_answer_about_legs (T : Txt K mg a) (h : sp_answer_about_legs K a vs H Q E) : t_answer_about_legs K a { nx := fun _ H' => Q .non H', rt := Q } (L2.start n_answer_about_legs vs) H := by
  obtain ⟨se, g, H0, S, p, args, rfl, lo, hi, hg, hS, s, has, hne, k⟩ := h
  obtain ⟨dx, va, vc, vp, vh, ch, hse0⟩ := hS.fields
  have hse := s _ _ hse0
  rcases (show p = 11 ∨ p = 12 ∨ p = 13 ∨ p = 14 ∨ p = 15 by omega) with rfl | rfl | rfl | rfl | rfl
  · obtain ⟨b0, b1, rfl, hc⟩ := form_11 has
    obtain ⟨d, rfl⟩ := step_is hc rfl hne
    rw [step_some hc] at k
    exact ⟨_, rfl, rfl, _, rfl, iteT ⟨_, rfl, se, dx, _, rfl, hse, rfl, _, rfl, g, _, _, _, rfl, rfl, SqL.of hg, rfl, _, rfl, g, _, _, _, rfl, rfl, SqL.of hg, rfl, se, b0, b1, rfl, H0, d, hS, s, k⟩⟩
  · obtain ⟨b0, rfl, hc⟩ := form_12 has
    obtain ⟨d, rfl⟩ := step_is hc rfl hne
    rw [step_some hc] at k
    exact ⟨_, rfl, rfl, _, rfl, iteF ⟨_, rfl, rfl, _, rfl, iteT ⟨_, rfl, se, dx, _, rfl, hse, rfl, _, rfl, g, _, _, _, rfl, rfl, SqL.of hg, rfl, se, b0, rfl, H0, d, hS, s, k⟩⟩⟩
  · obtain ⟨b0, b1, rfl, hc⟩ := form_13 has
    obtain ⟨d, rfl⟩ := step_is hc rfl hne
    rw [step_some hc] at k
    exact ⟨_, rfl, rfl, _, rfl, iteF ⟨_, rfl, rfl, _, rfl, iteF ⟨_, rfl, rfl, _, rfl, iteT ⟨_, rfl, se, dx, _, rfl, hse, rfl, _, rfl, g, _, _, _, rfl, rfl, SqL.of hg, rfl, _, rfl, g, _, _, _, rfl, rfl, SqL.of hg, rfl, se, b0, b1, rfl, H0, d, hS, s, k⟩⟩⟩⟩
  · obtain ⟨b0, b1, rfl, hc⟩ := form_14 has
    obtain ⟨d, rfl⟩ := step_is hc rfl hne
    rw [step_some hc] at k
    exact ⟨_, rfl, rfl, _, rfl, iteF ⟨_, rfl, rfl, _, rfl, iteF ⟨_, rfl, rfl, _, rfl, iteF ⟨_, rfl, rfl, _, rfl, iteT ⟨_, rfl, se, dx, _, rfl, hse, rfl, _, rfl, g, _, _, _, rfl, rfl, SqL.of hg, rfl, _, rfl, g, _, _, _, rfl, rfl, SqL.of hg, rfl, se, b0, b1, rfl, H0, d, hS, s, k⟩⟩⟩⟩⟩
  · obtain ⟨b0, b1, b2, rfl, hc⟩ := form_15 has
    obtain ⟨d, rfl⟩ := step_is hc rfl hne
    rw [step_some hc] at k
    exact ⟨_, rfl, rfl, _, rfl, iteF ⟨_, rfl, rfl, _, rfl, iteF ⟨_, rfl, rfl, _, rfl, iteF ⟨_, rfl, rfl, _, rfl, iteF ⟨_, rfl, se, dx, _, rfl, hse, rfl, _, rfl, g, _, _, _, rfl, rfl, SqL.of hg, rfl, _, rfl, g, _, _, _, rfl, rfl, SqL.of hg, rfl, _, rfl, g, _, _, _, rfl, rfl, SqL.of hg, rfl, se, b0, b1, b2, rfl, H0, d, hS, s, k⟩⟩⟩⟩⟩
theorem rd_answer_about_sizes (T : Txt K mg a) (h : sp_answer_about_sizes K a vs H Q E) : t_answer_about_sizes K a { nx := fun _ H' => Q .non H', rt := Q } (L2.start n_answer_about_sizes vs) H := by
  obtain ⟨se, g, H0, S, p, args, rfl, lo, hi, hg, hS, s, has, hne, k⟩ := h
  obtain ⟨dx, va, vc, vp, vh, ch, hse0⟩ := hS.fields
  have hse := s _ _ hse0
  rcases (show p = 16 ∨ p = 17 ∨ p = 18 by omega) with rfl | rfl | rfl
  · obtain ⟨b0, rfl, hc⟩ := form_16 has
    obtain ⟨d, rfl⟩ := step_is hc rfl hne
    rw [step_some hc] at k
    exact ⟨_, rfl, rfl, _, rfl, iteT ⟨_, rfl, se, dx, _, rfl, hse, rfl, _, rfl, g, _, _, _, rfl, rfl, SqL.of hg, rfl, se, b0, rfl, H0, d, hS, s, k⟩⟩
  · obtain ⟨rfl, hc⟩ := form_17 has
    obtain ⟨d, rfl⟩ := step_is hc rfl hne
    rw [step_some hc] at k
    exact ⟨_, rfl, rfl, _, rfl, iteF ⟨_, rfl, rfl, _, rfl, iteT ⟨_, rfl, se, dx, _, rfl, hse, rfl, se, rfl, H0, d, hS, s, k⟩⟩⟩
  · obtain ⟨rfl, hc⟩ := form_18 has
    obtain ⟨d, rfl⟩ := step_is hc rfl hne
    rw [step_some hc] at k
    exact ⟨_, rfl, rfl, _, rfl, iteF ⟨_, rfl, rfl, _, rfl, iteF ⟨_, rfl, se, dx, _, rfl, hse, rfl, se, rfl, H0, d, hS, s, k⟩⟩⟩
theorem rd_answer_about_changes (T : Txt K mg a) (h : sp_answer_about_changes K a vs H Q E) : t_answer_about_changes K a { nx := fun _ H' => Q .non H', rt := Q } (L2.start n_answer_about_changes vs) H := by
  obtain ⟨se, H0, S, p, args, rfl, lo, hi, hS, s, has, hne, k⟩ := h
  obtain ⟨dx, va, vc, vp, vh, ch, hse0⟩ := hS.fields
  have hse := s _ _ hse0
  rcases (show p = 19 ∨ p = 20 ∨ p = 21 by omega) with rfl | rfl | rfl
  · obtain ⟨rfl, hc⟩ := form_19 has
    obtain ⟨d, rfl⟩ := step_is hc rfl hne
    rw [step_some hc] at k
    exact ⟨_, rfl, rfl, _, rfl, iteT ⟨_, rfl, se, dx, _, rfl, hse, rfl, se, rfl, H0, d, hS, s, k⟩⟩
  · obtain ⟨rfl, hc⟩ := form_20 has
    obtain ⟨d, rfl⟩ := step_is hc rfl hne
    rw [step_some hc] at k
    exact ⟨_, rfl, rfl, _, rfl, iteF ⟨_, rfl, rfl, _, rfl, iteT ⟨_, rfl, se, dx, _, rfl, hse, rfl, se, rfl, H0, d, hS, s, k⟩⟩⟩
  · obtain ⟨rfl, hc⟩ := form_21 has
    obtain ⟨d, rfl⟩ := step_is hc rfl hne
    rw [step_some hc] at k
    exact ⟨_, rfl, rfl, _, rfl, iteF ⟨_, rfl, rfl, _, rfl, iteF ⟨_, rfl, se, dx, _, rfl, hse, rfl, se, rfl, H0, d, hS, s, k⟩⟩⟩
end
end SL

end
section
set_option Elab.async false
set_option linter.all false
set_option maxRecDepth 100000
set_option maxHeartbeats 1000000
namespace SL
open PySem PySem.Spec PyProof.Rows L2
section
variable {K : PySem.W.Frag} {mg : Str → Option Value} {a : Ad} {vs : List V} {H : Hp} {Q : VK} {E : XK}
theorem len_answers (h : sp_answers K a vs H Q E) : vs.length = p_answers.length := by obtain ⟨_, _, rfl, _⟩ := h; rfl
theorem cut_mid (ns : List Int) (i n : Nat) (h : i + n ≤ ns.length) : cutV (ns.map V.int) (some (i : Int)) (some ((i : Int) + (n : Int))) = ((ns.drop i).take n).map V.int := by
  unfold cutV
  rw [show ((i : Int) + (n : Int)) = ((i + n : Nat) : Int) from rfl, HT.sIx_nat, HT.sIx_nat, List.length_map, Nat.min_eq_left h, Nat.min_eq_left (show i ≤ ns.length by omega), Nat.add_sub_cancel_left, List.map_take, List.map_drop]
/-- how many numbers a call has, as the program's table says -/
theorem sizes_at {j n : Nat} (h : sizes[j]? = some n) (hj : j < 22) : atI (sizesV) (j : Int) = some (nV n) := by
  refine atI_nat ?_
  unfold sizesV
  rw [List.getElem?_map, h]; rfl
theorem rd_answers (T : Txt K mg a) (h : sp_answers K a vs H Q E) : t_answers K a { nx := fun _ H' => Q .non H', rt := Q } (L2.start n_answers vs) H := by
  obtain ⟨ad, ns, rfl, hns, hlen, hask, k⟩ := h
  obtain ⟨cs0, hc0, hall0, hmay0, hans, hshort⟩ := asked_is hask
  intro se dx nse nd ne
  refine ⟨se, dx, rfl, upd_same, fun HI va vc vp vh ch hseI cI => ⟨rfl, ?_⟩⟩
  refine ⟨Nat.zero_le _, fun D hD => ?_⟩
  have sI : Same H HI := fun b o hb => by
    have nb : b ≠ se := ne_of_none hb nse
    refine cI.1 b o ?_ (by simp [nb])
    rw [upd_ne nb, upd_ne (ne_of_none hb nd)]; exact hb
  have hSe : SeAt a (Res (fun _ => none) H HI) se none := ⟨dx, va, vc, vp, vh, ch, (res_new nse).trans hseI⟩
  have nD0 : H D = none := sI.free hD
  have hID : Res (fun _ => none) H HI D = none := (res_new nD0).trans hD
  have hszT : ∀ H, SqT K H a.t_SIZES sizesV := T.q_SIZES
  refine ⟨fun m σ Hc => ∃ (i f : Nat) (S : Option Km445.Desk) (cs : List (List (List Int))) (acc : List Int) (H0 : Hp) (x4 x5 x6 : Option V), σ = [some (.ref ad), some (.ref se), some (.ref D), some (nV i), x4, x5, x6] ∧ m = ns.length - i ∧ i ≤ ns.length ∧
      PyFlat.calls PyKm445.shape f (ns.drop i) = some cs ∧ cs.all Km445Neutral.asked1 = true ∧ Km445Neutral.may S cs = true ∧ acc ++ PyFlat.told (PyFlat.played Km445Neutral.step S cs) = PyKm445.answers ns ∧
      SeAt a H0 se S ∧ Same H0 Hc ∧ H0 D = none ∧ Hc D = some (.lst (acc.map V.int)) ∧ Same H Hc ∧ ∀ b o, H b = some o → H0 b = none,
    ⟨_, 0, ns.length, none, cs0, [], Res (fun _ => none) H HI, none, none, none, rfl, rfl, Nat.zero_le _, hc0, hall0, hmay0, hans.symm, hSe, same_upd res_sub hID, hID, upd_same, same_upd sI nD0, fun b o hb => res_off rfl hb⟩, ?_⟩
  rintro m σ Hc ⟨i, f, S, cs, acc, H0, x4, x5, x6, rfl, rfl, hi, hcs, hall, hmay, hacc, hS, s0, h0D, hcD, sH, hH0⟩
  have hsq := sH.seq hns
  refine ⟨_, rfl, _, rfl, ad, _, rfl, .inl hsq, _, _, rfl, rfl, _, rfl, ite2 (fun e => ?_) (fun e => ?_)⟩
  · have e' : (i : Int) < ((ns.map V.int).length : Int) := of_decide_eq_true e
    rw [List.length_map] at e'
    have hi' : i < ns.length := by omega
    refine ⟨_, fun _ _ z => z, ?_⟩
    rw [List.drop_eq_getElem_cons hi'] at hcs
    obtain ⟨n, j, f', cs', hp, hsz, hj, hn, rfl, hcs'⟩ := calls_cons hcs
    have hix : ns[i]? = some ns[i] := List.getElem?_eq_getElem hi'
    rw [List.all_cons, Bool.and_eq_true] at hall
    obtain ⟨hne, hmay'⟩ := may_cons hmay
    rw [played_cons, told_cons] at hacc
    generalize ns[i] = p at hp hix hall hne hmay' hacc hcs
    rw [List.length_drop] at hn
    refine ⟨_, rfl, _, rfl, ad, _, _, .int p, rfl, rfl, hsq, at_of (j := i) rfl (by rw [List.getElem?_map, hix]; rfl), ?_⟩
    refine ⟨_, rfl, _, _, rfl, rfl, _, rfl, a.t_SIZES, _, _, nV n, rfl, rfl, hszT _, (by rw [hp]; exact sizes_at hsz hj), _, _, rfl, rfl, ?_⟩
    refine ⟨_, rfl, _, rfl, _, rfl, _, rfl, _, _, rfl, rfl, _, rfl, _, rfl, _, rfl, ad, _, rfl, hsq, fun g hg => ?_⟩
    have e5 : cutV (ns.map V.int) (some ((i : Int) + 1)) (some ((i : Int) + 1 + (n : Int))) = ((ns.drop (i + 1)).take n).map V.int := cut_mid ns (i + 1) n (by omega)
    rw [e5]
    have sg : Same Hc (upd Hc g (.lst (((ns.drop (i + 1)).take n).map V.int))) := same_new hg
    have hD1 := sg _ _ hcD
    refine ⟨se, g, H0, S, p, (ns.drop (i + 1)).take n, rfl, ?_, ?_, upd_same, hS, s0.trans sg, hall.1, hne, fun H2 q hS2 kp nq hq => ?_⟩
    · rw [hp]; omega
    · rw [hp]; omega
    have nqD : q ≠ D := (ne_of_none hD1 nq).symm
    have hD2 := kp _ _ hD1 h0D
    have hle : (acc ++ ((((Km445Neutral.step S [p :: (ns.drop (i + 1)).take n]).2.length : Nat) : Int) :: (Km445Neutral.step S [p :: (ns.drop (i + 1)).take n]).2)).length ≤ 10000000 := by
      rw [← hacc, ← List.append_assoc, List.length_append] at hshort
      omega
    rw [List.length_append, List.length_cons] at hle
    generalize Km445Neutral.step S [p :: (ns.drop (i + 1)).take n] = st at *
    refine ⟨_, rfl, .inl ⟨rfl, _, SqL.of hD2⟩, _, rfl, q, _, rfl, .inl (SqL.of hq), D, _, _, rfl, rfl, hD2, ?_, ?_⟩
    · rw [List.length_map, sizeLine_eq]; omega
    refine ⟨_, rfl, .inl ⟨rfl, _, SqL.of upd_same⟩, _, rfl, D, q, _, _, rfl, rfl, upd_same, (upd_ne nqD).trans hq, ?_, ?_⟩
    · rw [List.length_append, List.length_map, List.length_map, sizeLine_eq]; show _ + 1 + _ ≤ _; omega
    have rD : Res H0 (upd Hc g (.lst (((ns.drop (i + 1)).take n).map V.int))) H2 D = none := res_off h0D hD1
    refine ⟨_, rfl, ns.length - (i + 1 + n), ?_, i + 1 + n, f', st.1, cs', acc ++ (((st.2.length : Nat) : Int) :: st.2), _, _, _, _, rfl, rfl, by omega, ?_, hall.2, hmay', ?_, hS2, same_upd (same_upd res_sub rD) rD, rD, ?_, ?_, fun b o hb => res_off (hH0 b o hb) (sg _ _ (sH b o hb))⟩
    · omega
    · rw [← List.drop_drop]; exact hcs'
    · rw [List.append_assoc]; exact hacc
    · rw [upd_same, List.map_append, List.map_cons, List.append_assoc, List.length_map]; rfl
    · refine same_upd (same_upd (fun b o hb => kp b o (sg _ _ (sH b o hb)) (hH0 b o hb)) nD0) nD0
  · have e' : ¬ (i : Int) < ((ns.map V.int).length : Int) := fun z => e (decide_eq_true z)
    rw [List.length_map] at e'
    rw [List.drop_eq_nil_of_le (by omega)] at hcs
    cases calls_nil hcs
    refine ⟨_, rfl, k Hc D ?_⟩
    rw [hcD, ← hacc]
    show _ = some (HO.lst ((acc ++ []).map V.int))
    rw [List.append_nil]
end
end SL

end
section
set_option Elab.async false
set_option linter.all false
set_option maxRecDepth 100000
set_option maxHeartbeats 4000000
namespace SL
open PySem PySem.Spec PyProof.Rows L2
section
variable {P : Program} {w : World} {K : PySem.W.Frag} {mg : Str → Option Value} {base : Heap} {a : Ad}
theorem ok_Changes_init (T : Txt K mg a) : FnOk P w K mg base CX0 1 a.f_Changes_init a.d_Changes_init p_Changes_init (sp_Changes_init K a) :=
  T.F_Changes_init.ok sc_Changes_init (fun vs H Q E h => len_Changes_init h) (fun cdv A outer s H vs Q E hr h => ⟨_, ps_Changes_init T  hr, rd_Changes_init T h⟩)
theorem ok_Changes_made (T : Txt K mg a) : FnOk P w K mg base CX0 1 a.f_Changes_made a.d_Changes_made p_Changes_made (sp_Changes_made K a) :=
  T.F_Changes_made.ok sc_Changes_made (fun vs H Q E h => len_Changes_made h) (fun cdv A outer s H vs Q E hr h => ⟨_, ps_Changes_made T  hr, rd_Changes_made T h⟩)
theorem ok_Changes_take_back (T : Txt K mg a) : FnOk P w K mg base CX0 1 a.f_Changes_take_back a.d_Changes_take_back p_Changes_take_back (sp_Changes_take_back K a) :=
  T.F_Changes_take_back.ok sc_Changes_take_back (fun vs H Q E h => len_Changes_take_back h) (fun cdv A outer s H vs Q E hr h => ⟨_, ps_Changes_take_back T  hr, rd_Changes_take_back T h⟩)
theorem ok_Changes_do_again (T : Txt K mg a) : FnOk P w K mg base CX0 1 a.f_Changes_do_again a.d_Changes_do_again p_Changes_do_again (sp_Changes_do_again K a) :=
  T.F_Changes_do_again.ok sc_Changes_do_again (fun vs H Q E h => len_Changes_do_again h) (fun cdv A outer s H vs Q E hr h => ⟨_, ps_Changes_do_again T  hr, rd_Changes_do_again T h⟩)
theorem ok_Area_init (T : Txt K mg a) : FnOk P w K mg base CX0 1 a.f_Area_init a.d_Area_init p_Area_init (sp_Area_init K a) :=
  T.F_Area_init.ok sc_Area_init (fun vs H Q E h => len_Area_init h) (fun cdv A outer s H vs Q E hr h => ⟨_, ps_Area_init T  hr, rd_Area_init T h⟩)
theorem ok_Craft_init (T : Txt K mg a) : FnOk P w K mg base CX0 1 a.f_Craft_init a.d_Craft_init p_Craft_init (sp_Craft_init K a) :=
  T.F_Craft_init.ok sc_Craft_init (fun vs H Q E h => len_Craft_init h) (fun cdv A outer s H vs Q E hr h => ⟨_, ps_Craft_init T  hr, rd_Craft_init T h⟩)
theorem ok_Plan_init (T : Txt K mg a) : FnOk P w K mg base CX0 1 a.f_Plan_init a.d_Plan_init p_Plan_init (sp_Plan_init K a) :=
  T.F_Plan_init.ok sc_Plan_init (fun vs H Q E h => len_Plan_init h) (fun cdv A outer s H vs Q E hr h => ⟨_, ps_Plan_init T  hr, rd_Plan_init T h⟩)
theorem ok_leg_length (T : Txt K mg a) : FnOk P w K mg base CX0 1 a.f_leg_length a.d_leg_length p_leg_length (sp_leg_length K a) :=
  T.F_leg_length.ok sc_leg_length (fun vs H Q E h => len_leg_length h) (fun cdv A outer s H vs Q E hr h => ⟨_, ps_leg_length T  hr, rd_leg_length T h⟩)
theorem ok_places_across (T : Txt K mg a) : FnOk P w K mg base CX0 1 a.f_places_across a.d_places_across p_places_across (sp_places_across K a) :=
  T.F_places_across.ok sc_places_across (fun vs H Q E h => len_places_across h) (fun cdv A outer s H vs Q E hr h => ⟨_, ps_places_across T  hr, rd_places_across T h⟩)
theorem ok_distance_of_legs (T : Txt K mg a) : FnOk P w K mg base CX0 2 a.f_distance_of_legs a.d_distance_of_legs p_distance_of_legs (sp_distance_of_legs K a) :=
  T.F_distance_of_legs.ok sc_distance_of_legs (fun vs H Q E h => len_distance_of_legs h) (fun cdv A outer s H vs Q E hr h => ⟨_, ps_distance_of_legs T (ok_leg_length T) hr, rd_distance_of_legs T h⟩)
theorem ok_most_legs (T : Txt K mg a) : FnOk P w K mg base CX0 2 a.f_most_legs a.d_most_legs p_most_legs (sp_most_legs K a) :=
  T.F_most_legs.ok sc_most_legs (fun vs H Q E h => len_most_legs h) (fun cdv A outer s H vs Q E hr h => ⟨_, ps_most_legs T (ok_leg_length T) (ok_places_across T) hr, rd_most_legs T h⟩)
theorem ok_places_seen (T : Txt K mg a) : FnOk P w K mg base CX0 3 a.f_places_seen a.d_places_seen p_places_seen (sp_places_seen K a) :=
  T.F_places_seen.ok sc_places_seen (fun vs H Q E h => len_places_seen h) (fun cdv A outer s H vs Q E hr h => ⟨_, ps_places_seen T (ok_most_legs T) hr, rd_places_seen T h⟩)
theorem ok_is_done (T : Txt K mg a) : FnOk P w K mg base CX0 4 a.f_is_done a.d_is_done p_is_done (sp_is_done K a) :=
  T.F_is_done.ok sc_is_done (fun vs H Q E h => len_is_done h) (fun cdv A outer s H vs Q E hr h => ⟨_, ps_is_done T (ok_places_across T) (ok_places_seen T) hr, rd_is_done T h⟩)
theorem ok_least_hours (T : Txt K mg a) : FnOk P w K mg base CX0 5 a.f_least_hours a.d_least_hours p_least_hours (sp_least_hours K a) :=
  T.F_least_hours.ok sc_least_hours (fun vs H Q E h => len_least_hours h) (fun cdv A outer s H vs Q E hr h => ⟨_, ps_least_hours T (ok_is_done T) hr, rd_least_hours T h⟩)
theorem ok_legs_needed (T : Txt K mg a) : FnOk P w K mg base CX0 1 a.f_legs_needed a.d_legs_needed p_legs_needed (sp_legs_needed K a) :=
  T.F_legs_needed.ok sc_legs_needed (fun vs H Q E h => len_legs_needed h) (fun cdv A outer s H vs Q E hr h => ⟨_, ps_legs_needed T  hr, rd_legs_needed T h⟩)
theorem ok_shared_out (T : Txt K mg a) : FnOk P w K mg base CX0 3 a.f_shared_out a.d_shared_out p_shared_out (sp_shared_out K a) :=
  T.F_shared_out.ok sc_shared_out (fun vs H Q E h => len_shared_out h) (fun cdv A outer s H vs Q E hr h => ⟨_, ps_shared_out T (ok_legs_needed T) (ok_most_legs T) (ok_places_across T) hr, rd_shared_out T h⟩)
theorem ok_best_plan (T : Txt K mg a) : FnOk P w K mg base CX0 6 a.f_best_plan a.d_best_plan p_best_plan (sp_best_plan K a) :=
  T.F_best_plan.ok sc_best_plan (fun vs H Q E h => len_best_plan h) (fun cdv A outer s H vs Q E hr h => ⟨_, ps_best_plan T (ok_Plan_init T) (ok_least_hours T) (ok_shared_out T) hr, rd_best_plan T h⟩)
theorem ok_places_before (T : Txt K mg a) : FnOk P w K mg base CX0 1 a.f_places_before a.d_places_before p_places_before (sp_places_before K a) :=
  T.F_places_before.ok sc_places_before (fun vs H Q E h => len_places_before h) (fun cdv A outer s H vs Q E hr h => ⟨_, ps_places_before T  hr, rd_places_before T h⟩)
theorem ok_is_within (T : Txt K mg a) : FnOk P w K mg base CX0 1 a.f_is_within a.d_is_within p_is_within (sp_is_within K a) :=
  T.F_is_within.ok sc_is_within (fun vs H Q E h => len_is_within h) (fun cdv A outer s H vs Q E hr h => ⟨_, ps_is_within T  hr, rd_is_within T h⟩)
theorem ok_legs_done (T : Txt K mg a) : FnOk P w K mg base CX0 3 a.f_legs_done a.d_legs_done p_legs_done (sp_legs_done K a) :=
  T.F_legs_done.ok sc_legs_done (fun vs H Q E h => len_legs_done h) (fun cdv A outer s H vs Q E hr h => ⟨_, ps_legs_done T (ok_most_legs T) hr, rd_legs_done T h⟩)
theorem ok_Course_init (T : Txt K mg a) : FnOk P w K mg base CX0 2 a.f_Course_init a.d_Course_init p_Course_init (sp_Course_init K a) :=
  T.F_Course_init.ok sc_Course_init (fun vs H Q E h => len_Course_init h) (fun cdv A outer s H vs Q E hr h => ⟨_, ps_Course_init T (ok_leg_length T) (ok_places_before T) hr, rd_Course_init T h⟩)
theorem ok_Course_line_of (T : Txt K mg a) : FnOk P w K mg base CX0 2 a.f_Course_line_of a.d_Course_line_of p_Course_line_of (sp_Course_line_of K a) :=
  T.F_Course_line_of.ok sc_Course_line_of (fun vs H Q E h => len_Course_line_of h) (fun cdv A outer s H vs Q E hr h => ⟨_, ps_Course_line_of T (ok_places_across T) hr, rd_Course_line_of T h⟩)
theorem ok_Course_along_leg (T : Txt K mg a) : FnOk P w K mg base CX0 1 a.f_Course_along_leg a.d_Course_along_leg p_Course_along_leg (sp_Course_along_leg K a) :=
  T.F_Course_along_leg.ok sc_Course_along_leg (fun vs H Q E h => len_Course_along_leg h) (fun cdv A outer s H vs Q E hr h => ⟨_, ps_Course_along_leg T  hr, rd_Course_along_leg T h⟩)
theorem ok_Course_place_on (T : Txt K mg a) : FnOk P w K mg base CX0 3 a.f_Course_place_on a.d_Course_place_on p_Course_place_on (sp_Course_place_on K a) :=
  T.F_Course_place_on.ok sc_Course_place_on (fun vs H Q E h => len_Course_place_on h) (fun cdv A outer s H vs Q E hr h => ⟨_, ps_Course_place_on T (ok_Course_along_leg T) (ok_Course_line_of T) hr, rd_Course_place_on T h⟩)
theorem ok_Course_gone_by (T : Txt K mg a) : FnOk P w K mg base CX0 3 a.f_Course_gone_by a.d_Course_gone_by p_Course_gone_by (sp_Course_gone_by K a) :=
  T.F_Course_gone_by.ok sc_Course_gone_by (fun vs H Q E h => len_Course_gone_by h) (fun cdv A outer s H vs Q E hr h => ⟨_, ps_Course_gone_by T (ok_distance_of_legs T) hr, rd_Course_gone_by T h⟩)
theorem ok_Course_leg_by (T : Txt K mg a) : FnOk P w K mg base CX0 4 a.f_Course_leg_by a.d_Course_leg_by p_Course_leg_by (sp_Course_leg_by K a) :=
  T.F_Course_leg_by.ok sc_Course_leg_by (fun vs H Q E h => len_Course_leg_by h) (fun cdv A outer s H vs Q E hr h => ⟨_, ps_Course_leg_by T (ok_Course_gone_by T) hr, rd_Course_leg_by T h⟩)
theorem ok_Course_place_by (T : Txt K mg a) : FnOk P w K mg base CX0 5 a.f_Course_place_by a.d_Course_place_by p_Course_place_by (sp_Course_place_by K a) :=
  T.F_Course_place_by.ok sc_Course_place_by (fun vs H Q E h => len_Course_place_by h) (fun cdv A outer s H vs Q E hr h => ⟨_, ps_Course_place_by T (ok_Course_gone_by T) (ok_Course_leg_by T) (ok_Course_place_on T) hr, rd_Course_place_by T h⟩)
theorem ok_Course_first_leg_seeing (T : Txt K mg a) : FnOk P w K mg base CX0 3 a.f_Course_first_leg_seeing a.d_Course_first_leg_seeing p_Course_first_leg_seeing (sp_Course_first_leg_seeing K a) :=
  T.F_Course_first_leg_seeing.ok sc_Course_first_leg_seeing (fun vs H Q E h => len_Course_first_leg_seeing h) (fun cdv A outer s H vs Q E hr h => ⟨_, ps_Course_first_leg_seeing T (ok_Course_line_of T) hr, rd_Course_first_leg_seeing T h⟩)
theorem ok_Course_hours_to_see (T : Txt K mg a) : FnOk P w K mg base CX0 4 a.f_Course_hours_to_see a.d_Course_hours_to_see p_Course_hours_to_see (sp_Course_hours_to_see K a) :=
  T.F_Course_hours_to_see.ok sc_Course_hours_to_see (fun vs H Q E h => len_Course_hours_to_see h) (fun cdv A outer s H vs Q E hr h => ⟨_, ps_Course_hours_to_see T (ok_Course_along_leg T) (ok_Course_first_leg_seeing T) hr, rd_Course_hours_to_see T h⟩)
theorem ok_is_area (T : Txt K mg a) : FnOk P w K mg base CX0 1 a.f_is_area a.d_is_area p_is_area (sp_is_area K a) :=
  T.F_is_area.ok sc_is_area (fun vs H Q E h => len_is_area h) (fun cdv A outer s H vs Q E hr h => ⟨_, ps_is_area T  hr, rd_is_area T h⟩)
theorem ok_is_craft (T : Txt K mg a) : FnOk P w K mg base CX0 1 a.f_is_craft a.d_is_craft p_is_craft (sp_is_craft K a) :=
  T.F_is_craft.ok sc_is_craft (fun vs H Q E h => len_is_craft h) (fun cdv A outer s H vs Q E hr h => ⟨_, ps_is_craft T  hr, rd_is_craft T h⟩)
theorem ok_way_sign (T : Txt K mg a) : FnOk P w K mg base CX0 1 a.f_way_sign a.d_way_sign p_way_sign (sp_way_sign K a) :=
  T.F_way_sign.ok sc_way_sign (fun vs H Q E h => len_way_sign h) (fun cdv A outer s H vs Q E hr h => ⟨_, ps_way_sign T  hr, rd_way_sign T h⟩)
theorem ok_Search_put (T : Txt K mg a) : FnOk P w K mg base CX0 1 a.f_Search_put a.d_Search_put p_Search_put (sp_Search_put K a) :=
  T.F_Search_put.ok sc_Search_put (fun vs H Q E h => len_Search_put h) (fun cdv A outer s H vs Q E hr h => ⟨_, ps_Search_put T  hr, rd_Search_put T h⟩)
theorem ok_Search_init (T : Txt K mg a) : FnOk P w K mg base CX0 3 a.f_Search_init a.d_Search_init p_Search_init (sp_Search_init K a) :=
  T.F_Search_init.ok sc_Search_init (fun vs H Q E h => len_Search_init h) (fun cdv A outer s H vs Q E hr h => ⟨_, ps_Search_init T (ok_Changes_init T) (ok_Search_put T) hr, rd_Search_init T h⟩)
theorem ok_Search_standing (T : Txt K mg a) : FnOk P w K mg base CX0 1 a.f_Search_standing a.d_Search_standing p_Search_standing (sp_Search_standing K a) :=
  T.F_Search_standing.ok sc_Search_standing (fun vs H Q E h => len_Search_standing h) (fun cdv A outer s H vs Q E hr h => ⟨_, ps_Search_standing T  hr, rd_Search_standing T h⟩)
theorem ok_Search_change (T : Txt K mg a) : FnOk P w K mg base CX0 2 a.f_Search_change a.d_Search_change p_Search_change (sp_Search_change K a) :=
  T.F_Search_change.ok sc_Search_change (fun vs H Q E h => len_Search_change h) (fun cdv A outer s H vs Q E hr h => ⟨_, ps_Search_change T (ok_Changes_made T) (ok_Search_put T) (ok_Search_standing T) hr, rd_Search_change T h⟩)
theorem ok_Search_sl_start (T : Txt K mg a) : FnOk P w K mg base CX0 3 a.f_Search_sl_start a.d_Search_sl_start p_Search_sl_start (sp_Search_sl_start K a) :=
  T.F_Search_sl_start.ok sc_Search_sl_start (fun vs H Q E h => len_Search_sl_start h) (fun cdv A outer s H vs Q E hr h => ⟨_, ps_Search_sl_start T (ok_Area_init T) (ok_Changes_init T) (ok_Search_put T) (ok_is_area T) hr, rd_Search_sl_start T h⟩)
theorem ok_Search_sl_craft (T : Txt K mg a) : FnOk P w K mg base CX0 3 a.f_Search_sl_craft a.d_Search_sl_craft p_Search_sl_craft (sp_Search_sl_craft K a) :=
  T.F_Search_sl_craft.ok sc_Search_sl_craft (fun vs H Q E h => len_Search_sl_craft h) (fun cdv A outer s H vs Q E hr h => ⟨_, ps_Search_sl_craft T (ok_Craft_init T) (ok_Search_change T) (ok_is_craft T) hr, rd_Search_sl_craft T h⟩)
theorem ok_Search_sl_area (T : Txt K mg a) : FnOk P w K mg base CX0 3 a.f_Search_sl_area a.d_Search_sl_area p_Search_sl_area (sp_Search_sl_area K a) :=
  T.F_Search_sl_area.ok sc_Search_sl_area (fun vs H Q E h => len_Search_sl_area h) (fun cdv A outer s H vs Q E hr h => ⟨_, ps_Search_sl_area T (ok_Area_init T) (ok_Search_change T) (ok_is_area T) hr, rd_Search_sl_area T h⟩)
theorem ok_Search_sl_drop (T : Txt K mg a) : FnOk P w K mg base CX0 3 a.f_Search_sl_drop a.d_Search_sl_drop p_Search_sl_drop (sp_Search_sl_drop K a) :=
  T.F_Search_sl_drop.ok sc_Search_sl_drop (fun vs H Q E h => len_Search_sl_drop h) (fun cdv A outer s H vs Q E hr h => ⟨_, ps_Search_sl_drop T (ok_Search_change T) hr, rd_Search_sl_drop T h⟩)
theorem ok_Search_sl_take (T : Txt K mg a) : FnOk P w K mg base CX0 7 a.f_Search_sl_take a.d_Search_sl_take p_Search_sl_take (sp_Search_sl_take K a) :=
  T.F_Search_sl_take.ok sc_Search_sl_take (fun vs H Q E h => len_Search_sl_take h) (fun cdv A outer s H vs Q E hr h => ⟨_, ps_Search_sl_take T (ok_Search_change T) (ok_best_plan T) (ok_way_sign T) hr, rd_Search_sl_take T h⟩)
theorem ok_Search_sl_hours (T : Txt K mg a) : FnOk P w K mg base CX0 3 a.f_Search_sl_hours a.d_Search_sl_hours p_Search_sl_hours (sp_Search_sl_hours K a) :=
  T.F_Search_sl_hours.ok sc_Search_sl_hours (fun vs H Q E h => len_Search_sl_hours h) (fun cdv A outer s H vs Q E hr h => ⟨_, ps_Search_sl_hours T (ok_Search_change T) hr, rd_Search_sl_hours T h⟩)
theorem ok_Search_sl_alone (T : Txt K mg a) : FnOk P w K mg base CX0 6 a.f_Search_sl_alone a.d_Search_sl_alone p_Search_sl_alone (sp_Search_sl_alone K a) :=
  T.F_Search_sl_alone.ok sc_Search_sl_alone (fun vs H Q E h => len_Search_sl_alone h) (fun cdv A outer s H vs Q E hr h => ⟨_, ps_Search_sl_alone T (ok_least_hours T) (ok_legs_needed T) (ok_places_across T) hr, rd_Search_sl_alone T h⟩)
theorem ok_Search_sl_soonest (T : Txt K mg a) : FnOk P w K mg base CX0 7 a.f_Search_sl_soonest a.d_Search_sl_soonest p_Search_sl_soonest (sp_Search_sl_soonest K a) :=
  T.F_Search_sl_soonest.ok sc_Search_sl_soonest (fun vs H Q E h => len_Search_sl_soonest h) (fun cdv A outer s H vs Q E hr h => ⟨_, ps_Search_sl_soonest T (ok_best_plan T) (ok_way_sign T) hr, rd_Search_sl_soonest T h⟩)
theorem ok_Search_sl_by (T : Txt K mg a) : FnOk P w K mg base CX0 4 a.f_Search_sl_by a.d_Search_sl_by p_Search_sl_by (sp_Search_sl_by K a) :=
  T.F_Search_sl_by.ok sc_Search_sl_by (fun vs H Q E h => len_Search_sl_by h) (fun cdv A outer s H vs Q E hr h => ⟨_, ps_Search_sl_by T (ok_places_across T) (ok_places_seen T) hr, rd_Search_sl_by T h⟩)
theorem ok_Search_sl_plan (T : Txt K mg a) : FnOk P w K mg base CX0 2 a.f_Search_sl_plan a.d_Search_sl_plan p_Search_sl_plan (sp_Search_sl_plan K a) :=
  T.F_Search_sl_plan.ok sc_Search_sl_plan (fun vs H Q E h => len_Search_sl_plan h) (fun cdv A outer s H vs Q E hr h => ⟨_, ps_Search_sl_plan T (ok_way_sign T) hr, rd_Search_sl_plan T h⟩)
theorem ok_Search_sl_legs (T : Txt K mg a) : FnOk P w K mg base CX0 3 a.f_Search_sl_legs a.d_Search_sl_legs p_Search_sl_legs (sp_Search_sl_legs K a) :=
  T.F_Search_sl_legs.ok sc_Search_sl_legs (fun vs H Q E h => len_Search_sl_legs h) (fun cdv A outer s H vs Q E hr h => ⟨_, ps_Search_sl_legs T (ok_distance_of_legs T) (ok_places_before T) hr, rd_Search_sl_legs T h⟩)
theorem ok_Search_course_of (T : Txt K mg a) : FnOk P w K mg base CX0 4 a.f_Search_course_of a.d_Search_course_of p_Search_course_of (sp_Search_course_of K a) :=
  T.F_Search_course_of.ok sc_Search_course_of (fun vs H Q E h => len_Search_course_of h) (fun cdv A outer s H vs Q E hr h => ⟨_, ps_Search_course_of T (ok_Course_init T) hr, rd_Search_course_of T h⟩)
theorem ok_Search_sights_of (T : Txt K mg a) : FnOk P w K mg base CX0 5 a.f_Search_sights_of a.d_Search_sights_of p_Search_sights_of (sp_Search_sights_of K a) :=
  T.F_Search_sights_of.ok sc_Search_sights_of (fun vs H Q E h => len_Search_sights_of h) (fun cdv A outer s H vs Q E hr h => ⟨_, ps_Search_sights_of T (ok_Course_hours_to_see T) (ok_Search_course_of T) hr, rd_Search_sights_of T h⟩)
theorem ok_Search_sl_leg (T : Txt K mg a) : FnOk P w K mg base CX0 5 a.f_Search_sl_leg a.d_Search_sl_leg p_Search_sl_leg (sp_Search_sl_leg K a) :=
  T.F_Search_sl_leg.ok sc_Search_sl_leg (fun vs H Q E h => len_Search_sl_leg h) (fun cdv A outer s H vs Q E hr h => ⟨_, ps_Search_sl_leg T (ok_Course_place_on T) (ok_Search_course_of T) hr, rd_Search_sl_leg T h⟩)
theorem ok_Search_sl_where (T : Txt K mg a) : FnOk P w K mg base CX0 6 a.f_Search_sl_where a.d_Search_sl_where p_Search_sl_where (sp_Search_sl_where K a) :=
  T.F_Search_sl_where.ok sc_Search_sl_where (fun vs H Q E h => len_Search_sl_where h) (fun cdv A outer s H vs Q E hr h => ⟨_, ps_Search_sl_where T (ok_Course_leg_by T) (ok_Course_place_by T) (ok_Search_course_of T) (ok_legs_done T) hr, rd_Search_sl_where T h⟩)
theorem ok_Search_sl_when (T : Txt K mg a) : FnOk P w K mg base CX0 6 a.f_Search_sl_when a.d_Search_sl_when p_Search_sl_when (sp_Search_sl_when K a) :=
  T.F_Search_sl_when.ok sc_Search_sl_when (fun vs H Q E h => len_Search_sl_when h) (fun cdv A outer s H vs Q E hr h => ⟨_, ps_Search_sl_when T (ok_Search_sights_of T) (ok_is_within T) hr, rd_Search_sl_when T h⟩)
theorem ok_Search_sl_seen (T : Txt K mg a) : FnOk P w K mg base CX0 6 a.f_Search_sl_seen a.d_Search_sl_seen p_Search_sl_seen (sp_Search_sl_seen K a) :=
  T.F_Search_sl_seen.ok sc_Search_sl_seen (fun vs H Q E h => len_Search_sl_seen h) (fun cdv A outer s H vs Q E hr h => ⟨_, ps_Search_sl_seen T (ok_Search_sights_of T) (ok_is_within T) hr, rd_Search_sl_seen T h⟩)
theorem ok_Search_sl_most (T : Txt K mg a) : FnOk P w K mg base CX0 3 a.f_Search_sl_most a.d_Search_sl_most p_Search_sl_most (sp_Search_sl_most K a) :=
  T.F_Search_sl_most.ok sc_Search_sl_most (fun vs H Q E h => len_Search_sl_most h) (fun cdv A outer s H vs Q E hr h => ⟨_, ps_Search_sl_most T (ok_most_legs T) (ok_places_across T) hr, rd_Search_sl_most T h⟩)
theorem ok_Search_sl_look (T : Txt K mg a) : FnOk P w K mg base CX0 1 a.f_Search_sl_look a.d_Search_sl_look p_Search_sl_look (sp_Search_sl_look K a) :=
  T.F_Search_sl_look.ok sc_Search_sl_look (fun vs H Q E h => len_Search_sl_look h) (fun cdv A outer s H vs Q E hr h => ⟨_, ps_Search_sl_look T  hr, rd_Search_sl_look T h⟩)
theorem ok_Search_sl_size (T : Txt K mg a) : FnOk P w K mg base CX0 1 a.f_Search_sl_size a.d_Search_sl_size p_Search_sl_size (sp_Search_sl_size K a) :=
  T.F_Search_sl_size.ok sc_Search_sl_size (fun vs H Q E h => len_Search_sl_size h) (fun cdv A outer s H vs Q E hr h => ⟨_, ps_Search_sl_size T  hr, rd_Search_sl_size T h⟩)
theorem ok_Search_sl_ends (T : Txt K mg a) : FnOk P w K mg base CX0 4 a.f_Search_sl_ends a.d_Search_sl_ends p_Search_sl_ends (sp_Search_sl_ends K a) :=
  T.F_Search_sl_ends.ok sc_Search_sl_ends (fun vs H Q E h => len_Search_sl_ends h) (fun cdv A outer s H vs Q E hr h => ⟨_, ps_Search_sl_ends T (ok_legs_done T) hr, rd_Search_sl_ends T h⟩)
theorem ok_Search_sl_back (T : Txt K mg a) : FnOk P w K mg base CX0 2 a.f_Search_sl_back a.d_Search_sl_back p_Search_sl_back (sp_Search_sl_back K a) :=
  T.F_Search_sl_back.ok sc_Search_sl_back (fun vs H Q E h => len_Search_sl_back h) (fun cdv A outer s H vs Q E hr h => ⟨_, ps_Search_sl_back T (ok_Changes_take_back T) (ok_Search_put T) (ok_Search_standing T) hr, rd_Search_sl_back T h⟩)
theorem ok_Search_sl_again (T : Txt K mg a) : FnOk P w K mg base CX0 2 a.f_Search_sl_again a.d_Search_sl_again p_Search_sl_again (sp_Search_sl_again K a) :=
  T.F_Search_sl_again.ok sc_Search_sl_again (fun vs H Q E h => len_Search_sl_again h) (fun cdv A outer s H vs Q E hr h => ⟨_, ps_Search_sl_again T (ok_Changes_do_again T) (ok_Search_put T) (ok_Search_standing T) hr, rd_Search_sl_again T h⟩)
theorem ok_Search_sl_state (T : Txt K mg a) : FnOk P w K mg base CX0 1 a.f_Search_sl_state a.d_Search_sl_state p_Search_sl_state (sp_Search_sl_state K a) :=
  T.F_Search_sl_state.ok sc_Search_sl_state (fun vs H Q E h => len_Search_sl_state h) (fun cdv A outer s H vs Q E hr h => ⟨_, ps_Search_sl_state T  hr, rd_Search_sl_state T h⟩)
theorem ok_answer_change (T : Txt K mg a) : FnOk P w K mg base CX0 8 a.f_answer_change a.d_answer_change p_answer_change (sp_answer_change K a) :=
  T.F_answer_change.ok sc_answer_change (fun vs H Q E h => len_answer_change h) (fun cdv A outer s H vs Q E hr h => ⟨_, ps_answer_change T (ok_Search_sl_area T) (ok_Search_sl_craft T) (ok_Search_sl_drop T) (ok_Search_sl_hours T) (ok_Search_sl_start T) (ok_Search_sl_take T) hr, rd_answer_change T h⟩)
theorem ok_answer_about_hours (T : Txt K mg a) : FnOk P w K mg base CX0 8 a.f_answer_about_hours a.d_answer_about_hours p_answer_about_hours (sp_answer_about_hours K a) :=
  T.F_answer_about_hours.ok sc_answer_about_hours (fun vs H Q E h => len_answer_about_hours h) (fun cdv A outer s H vs Q E hr h => ⟨_, ps_answer_about_hours T (ok_Search_sl_alone T) (ok_Search_sl_by T) (ok_Search_sl_legs T) (ok_Search_sl_plan T) (ok_Search_sl_soonest T) hr, rd_answer_about_hours T h⟩)
theorem ok_answer_about_legs (T : Txt K mg a) : FnOk P w K mg base CX0 7 a.f_answer_about_legs a.d_answer_about_legs p_answer_about_legs (sp_answer_about_legs K a) :=
  T.F_answer_about_legs.ok sc_answer_about_legs (fun vs H Q E h => len_answer_about_legs h) (fun cdv A outer s H vs Q E hr h => ⟨_, ps_answer_about_legs T (ok_Search_sl_leg T) (ok_Search_sl_most T) (ok_Search_sl_seen T) (ok_Search_sl_when T) (ok_Search_sl_where T) hr, rd_answer_about_legs T h⟩)
theorem ok_answer_about_sizes (T : Txt K mg a) : FnOk P w K mg base CX0 5 a.f_answer_about_sizes a.d_answer_about_sizes p_answer_about_sizes (sp_answer_about_sizes K a) :=
  T.F_answer_about_sizes.ok sc_answer_about_sizes (fun vs H Q E h => len_answer_about_sizes h) (fun cdv A outer s H vs Q E hr h => ⟨_, ps_answer_about_sizes T (ok_Search_sl_ends T) (ok_Search_sl_look T) (ok_Search_sl_size T) hr, rd_answer_about_sizes T h⟩)
theorem ok_answer_about_changes (T : Txt K mg a) : FnOk P w K mg base CX0 3 a.f_answer_about_changes a.d_answer_about_changes p_answer_about_changes (sp_answer_about_changes K a) :=
  T.F_answer_about_changes.ok sc_answer_about_changes (fun vs H Q E h => len_answer_about_changes h) (fun cdv A outer s H vs Q E hr h => ⟨_, ps_answer_about_changes T (ok_Search_sl_again T) (ok_Search_sl_back T) (ok_Search_sl_state T) hr, rd_answer_about_changes T h⟩)
theorem ok_answer_call (T : Txt K mg a) : FnOk P w K mg base CX0 9 a.f_answer_call a.d_answer_call p_answer_call (sp_answer_call K a) :=
  T.F_answer_call.ok sc_answer_call (fun vs H Q E h => len_answer_call h) (fun cdv A outer s H vs Q E hr h => ⟨_, ps_answer_call T (ok_answer_about_changes T) (ok_answer_about_hours T) (ok_answer_about_legs T) (ok_answer_about_sizes T) (ok_answer_change T) hr, rd_answer_call T h⟩)
theorem ok_answers (T : Txt K mg a) : FnOk P w K mg base CX0 10 a.f_answers a.d_answers p_answers (sp_answers K a) :=
  T.F_answers.ok sc_answers (fun vs H Q E h => len_answers h) (fun cdv A outer s H vs Q E hr h => ⟨_, ps_answers T (ok_Search_init T) (ok_answer_call T) hr, rd_answers T h⟩)
theorem all_mk {h : Heap} {fa : Addr} (X : K.In h) (G : h.Ns mainGlobals mg) (hfa : mg "answers" = some (.ref fa)) {f_Changes_init : Addr} {od_Changes_init an_Changes_init : Option Addr} {sl_Changes_init : Array (Option Value)} {oc_Changes_init kv_Changes_init dc_Changes_init pm_Changes_init cd_Changes_init ct_Changes_init : Value} {f_Changes_made : Addr} {od_Changes_made an_Changes_made : Option Addr} {sl_Changes_made : Array (Option Value)} {oc_Changes_made kv_Changes_made dc_Changes_made pm_Changes_made cd_Changes_made ct_Changes_made : Value} {f_Changes_take_back : Addr} {od_Changes_take_back an_Changes_take_back : Option Addr} {sl_Changes_take_back : Array (Option Value)} {oc_Changes_take_back kv_Changes_take_back dc_Changes_take_back pm_Changes_take_back cd_Changes_take_back ct_Changes_take_back : Value} {f_Changes_do_again : Addr} {od_Changes_do_again an_Changes_do_again : Option Addr} {sl_Changes_do_again : Array (Option Value)} {oc_Changes_do_again kv_Changes_do_again dc_Changes_do_again pm_Changes_do_again cd_Changes_do_again ct_Changes_do_again : Value} {f_Area_init : Addr} {od_Area_init an_Area_init : Option Addr} {sl_Area_init : Array (Option Value)} {oc_Area_init kv_Area_init dc_Area_init pm_Area_init cd_Area_init ct_Area_init : Value} {f_Craft_init : Addr} {od_Craft_init an_Craft_init : Option Addr} {sl_Craft_init : Array (Option Value)} {oc_Craft_init kv_Craft_init dc_Craft_init pm_Craft_init cd_Craft_init ct_Craft_init : Value} {f_Plan_init : Addr} {od_Plan_init an_Plan_init : Option Addr} {sl_Plan_init : Array (Option Value)} {oc_Plan_init kv_Plan_init dc_Plan_init pm_Plan_init cd_Plan_init ct_Plan_init : Value} {f_leg_length : Addr} {od_leg_length an_leg_length : Option Addr} {sl_leg_length : Array (Option Value)} {oc_leg_length kv_leg_length dc_leg_length pm_leg_length cd_leg_length ct_leg_length : Value} {f_places_across : Addr} {od_places_across an_places_across : Option Addr} {sl_places_across : Array (Option Value)} {oc_places_across kv_places_across dc_places_across pm_places_across cd_places_across ct_places_across : Value} {f_distance_of_legs : Addr} {od_distance_of_legs an_distance_of_legs : Option Addr} {sl_distance_of_legs : Array (Option Value)} {oc_distance_of_legs kv_distance_of_legs dc_distance_of_legs pm_distance_of_legs cd_distance_of_legs ct_distance_of_legs : Value} {f_most_legs : Addr} {od_most_legs an_most_legs : Option Addr} {sl_most_legs : Array (Option Value)} {oc_most_legs kv_most_legs dc_most_legs pm_most_legs cd_most_legs ct_most_legs : Value} {f_places_seen : Addr} {od_places_seen an_places_seen : Option Addr} {sl_places_seen : Array (Option Value)} {oc_places_seen kv_places_seen dc_places_seen pm_places_seen cd_places_seen ct_places_seen : Value} {f_is_done : Addr} {od_is_done an_is_done : Option Addr} {sl_is_done : Array (Option Value)} {oc_is_done kv_is_done dc_is_done pm_is_done cd_is_done ct_is_done : Value} {f_least_hours : Addr} {od_least_hours an_least_hours : Option Addr} {sl_least_hours : Array (Option Value)} {oc_least_hours kv_least_hours dc_least_hours pm_least_hours cd_least_hours ct_least_hours : Value} {f_legs_needed : Addr} {od_legs_needed an_legs_needed : Option Addr} {sl_legs_needed : Array (Option Value)} {oc_legs_needed kv_legs_needed dc_legs_needed pm_legs_needed cd_legs_needed ct_legs_needed : Value} {f_shared_out : Addr} {od_shared_out an_shared_out : Option Addr} {sl_shared_out : Array (Option Value)} {oc_shared_out kv_shared_out dc_shared_out pm_shared_out cd_shared_out ct_shared_out : Value} {f_best_plan : Addr} {od_best_plan an_best_plan : Option Addr} {sl_best_plan : Array (Option Value)} {oc_best_plan kv_best_plan dc_best_plan pm_best_plan cd_best_plan ct_best_plan : Value} {f_places_before : Addr} {od_places_before an_places_before : Option Addr} {sl_places_before : Array (Option Value)} {oc_places_before kv_places_before dc_places_before pm_places_before cd_places_before ct_places_before : Value} {f_is_within : Addr} {od_is_within an_is_within : Option Addr} {sl_is_within : Array (Option Value)} {oc_is_within kv_is_within dc_is_within pm_is_within cd_is_within ct_is_within : Value} {f_legs_done : Addr} {od_legs_done an_legs_done : Option Addr} {sl_legs_done : Array (Option Value)} {oc_legs_done kv_legs_done dc_legs_done pm_legs_done cd_legs_done ct_legs_done : Value} {f_Course_init : Addr} {od_Course_init an_Course_init : Option Addr} {sl_Course_init : Array (Option Value)} {oc_Course_init kv_Course_init dc_Course_init pm_Course_init cd_Course_init ct_Course_init : Value} {f_Course_line_of : Addr} {od_Course_line_of an_Course_line_of : Option Addr} {sl_Course_line_of : Array (Option Value)} {oc_Course_line_of kv_Course_line_of dc_Course_line_of pm_Course_line_of cd_Course_line_of ct_Course_line_of : Value} {f_Course_along_leg : Addr} {od_Course_along_leg an_Course_along_leg : Option Addr} {sl_Course_along_leg : Array (Option Value)} {oc_Course_along_leg kv_Course_along_leg dc_Course_along_leg pm_Course_along_leg cd_Course_along_leg ct_Course_along_leg : Value} {f_Course_place_on : Addr} {od_Course_place_on an_Course_place_on : Option Addr} {sl_Course_place_on : Array (Option Value)} {oc_Course_place_on kv_Course_place_on dc_Course_place_on pm_Course_place_on cd_Course_place_on ct_Course_place_on : Value} {f_Course_gone_by : Addr} {od_Course_gone_by an_Course_gone_by : Option Addr} {sl_Course_gone_by : Array (Option Value)} {oc_Course_gone_by kv_Course_gone_by dc_Course_gone_by pm_Course_gone_by cd_Course_gone_by ct_Course_gone_by : Value} {f_Course_leg_by : Addr} {od_Course_leg_by an_Course_leg_by : Option Addr} {sl_Course_leg_by : Array (Option Value)} {oc_Course_leg_by kv_Course_leg_by dc_Course_leg_by pm_Course_leg_by cd_Course_leg_by ct_Course_leg_by : Value} {f_Course_place_by : Addr} {od_Course_place_by an_Course_place_by : Option Addr} {sl_Course_place_by : Array (Option Value)} {oc_Course_place_by kv_Course_place_by dc_Course_place_by pm_Course_place_by cd_Course_place_by ct_Course_place_by : Value} {f_Course_first_leg_seeing : Addr} {od_Course_first_leg_seeing an_Course_first_leg_seeing : Option Addr} {sl_Course_first_leg_seeing : Array (Option Value)} {oc_Course_first_leg_seeing kv_Course_first_leg_seeing dc_Course_first_leg_seeing pm_Course_first_leg_seeing cd_Course_first_leg_seeing ct_Course_first_leg_seeing : Value} {f_Course_hours_to_see : Addr} {od_Course_hours_to_see an_Course_hours_to_see : Option Addr} {sl_Course_hours_to_see : Array (Option Value)} {oc_Course_hours_to_see kv_Course_hours_to_see dc_Course_hours_to_see pm_Course_hours_to_see cd_Course_hours_to_see ct_Course_hours_to_see : Value} {f_is_area : Addr} {od_is_area an_is_area : Option Addr} {sl_is_area : Array (Option Value)} {oc_is_area kv_is_area dc_is_area pm_is_area cd_is_area ct_is_area : Value} {f_is_craft : Addr} {od_is_craft an_is_craft : Option Addr} {sl_is_craft : Array (Option Value)} {oc_is_craft kv_is_craft dc_is_craft pm_is_craft cd_is_craft ct_is_craft : Value} {f_way_sign : Addr} {od_way_sign an_way_sign : Option Addr} {sl_way_sign : Array (Option Value)} {oc_way_sign kv_way_sign dc_way_sign pm_way_sign cd_way_sign ct_way_sign : Value} {f_Search_init : Addr} {od_Search_init an_Search_init : Option Addr} {sl_Search_init : Array (Option Value)} {oc_Search_init kv_Search_init dc_Search_init pm_Search_init cd_Search_init ct_Search_init : Value} {f_Search_standing : Addr} {od_Search_standing an_Search_standing : Option Addr} {sl_Search_standing : Array (Option Value)} {oc_Search_standing kv_Search_standing dc_Search_standing pm_Search_standing cd_Search_standing ct_Search_standing : Value} {f_Search_put : Addr} {od_Search_put an_Search_put : Option Addr} {sl_Search_put : Array (Option Value)} {oc_Search_put kv_Search_put dc_Search_put pm_Search_put cd_Search_put ct_Search_put : Value} {f_Search_change : Addr} {od_Search_change an_Search_change : Option Addr} {sl_Search_change : Array (Option Value)} {oc_Search_change kv_Search_change dc_Search_change pm_Search_change cd_Search_change ct_Search_change : Value} {f_Search_sl_start : Addr} {od_Search_sl_start an_Search_sl_start : Option Addr} {sl_Search_sl_start : Array (Option Value)} {oc_Search_sl_start kv_Search_sl_start dc_Search_sl_start pm_Search_sl_start cd_Search_sl_start ct_Search_sl_start : Value} {f_Search_sl_craft : Addr} {od_Search_sl_craft an_Search_sl_craft : Option Addr} {sl_Search_sl_craft : Array (Option Value)} {oc_Search_sl_craft kv_Search_sl_craft dc_Search_sl_craft pm_Search_sl_craft cd_Search_sl_craft ct_Search_sl_craft : Value} {f_Search_sl_area : Addr} {od_Search_sl_area an_Search_sl_area : Option Addr} {sl_Search_sl_area : Array (Option Value)} {oc_Search_sl_area kv_Search_sl_area dc_Search_sl_area pm_Search_sl_area cd_Search_sl_area ct_Search_sl_area : Value} {f_Search_sl_drop : Addr} {od_Search_sl_drop an_Search_sl_drop : Option Addr} {sl_Search_sl_drop : Array (Option Value)} {oc_Search_sl_drop kv_Search_sl_drop dc_Search_sl_drop pm_Search_sl_drop cd_Search_sl_drop ct_Search_sl_drop : Value} {f_Search_sl_take : Addr} {od_Search_sl_take an_Search_sl_take : Option Addr} {sl_Search_sl_take : Array (Option Value)} {oc_Search_sl_take kv_Search_sl_take dc_Search_sl_take pm_Search_sl_take cd_Search_sl_take ct_Search_sl_take : Value} {f_Search_sl_hours : Addr} {od_Search_sl_hours an_Search_sl_hours : Option Addr} {sl_Search_sl_hours : Array (Option Value)} {oc_Search_sl_hours kv_Search_sl_hours dc_Search_sl_hours pm_Search_sl_hours cd_Search_sl_hours ct_Search_sl_hours : Value} {f_Search_sl_alone : Addr} {od_Search_sl_alone an_Search_sl_alone : Option Addr} {sl_Search_sl_alone : Array (Option Value)} {oc_Search_sl_alone kv_Search_sl_alone dc_Search_sl_alone pm_Search_sl_alone cd_Search_sl_alone ct_Search_sl_alone : Value} {f_Search_sl_soonest : Addr} {od_Search_sl_soonest an_Search_sl_soonest : Option Addr} {sl_Search_sl_soonest : Array (Option Value)} {oc_Search_sl_soonest kv_Search_sl_soonest dc_Search_sl_soonest pm_Search_sl_soonest cd_Search_sl_soonest ct_Search_sl_soonest : Value} {f_Search_sl_by : Addr} {od_Search_sl_by an_Search_sl_by : Option Addr} {sl_Search_sl_by : Array (Option Value)} {oc_Search_sl_by kv_Search_sl_by dc_Search_sl_by pm_Search_sl_by cd_Search_sl_by ct_Search_sl_by : Value} {f_Search_sl_plan : Addr} {od_Search_sl_plan an_Search_sl_plan : Option Addr} {sl_Search_sl_plan : Array (Option Value)} {oc_Search_sl_plan kv_Search_sl_plan dc_Search_sl_plan pm_Search_sl_plan cd_Search_sl_plan ct_Search_sl_plan : Value} {f_Search_sl_legs : Addr} {od_Search_sl_legs an_Search_sl_legs : Option Addr} {sl_Search_sl_legs : Array (Option Value)} {oc_Search_sl_legs kv_Search_sl_legs dc_Search_sl_legs pm_Search_sl_legs cd_Search_sl_legs ct_Search_sl_legs : Value} {f_Search_course_of : Addr} {od_Search_course_of an_Search_course_of : Option Addr} {sl_Search_course_of : Array (Option Value)} {oc_Search_course_of kv_Search_course_of dc_Search_course_of pm_Search_course_of cd_Search_course_of ct_Search_course_of : Value} {f_Search_sights_of : Addr} {od_Search_sights_of an_Search_sights_of : Option Addr} {sl_Search_sights_of : Array (Option Value)} {oc_Search_sights_of kv_Search_sights_of dc_Search_sights_of pm_Search_sights_of cd_Search_sights_of ct_Search_sights_of : Value} {f_Search_sl_leg : Addr} {od_Search_sl_leg an_Search_sl_leg : Option Addr} {sl_Search_sl_leg : Array (Option Value)} {oc_Search_sl_leg kv_Search_sl_leg dc_Search_sl_leg pm_Search_sl_leg cd_Search_sl_leg ct_Search_sl_leg : Value} {f_Search_sl_where : Addr} {od_Search_sl_where an_Search_sl_where : Option Addr} {sl_Search_sl_where : Array (Option Value)} {oc_Search_sl_where kv_Search_sl_where dc_Search_sl_where pm_Search_sl_where cd_Search_sl_where ct_Search_sl_where : Value} {f_Search_sl_when : Addr} {od_Search_sl_when an_Search_sl_when : Option Addr} {sl_Search_sl_when : Array (Option Value)} {oc_Search_sl_when kv_Search_sl_when dc_Search_sl_when pm_Search_sl_when cd_Search_sl_when ct_Search_sl_when : Value} {f_Search_sl_seen : Addr} {od_Search_sl_seen an_Search_sl_seen : Option Addr} {sl_Search_sl_seen : Array (Option Value)} {oc_Search_sl_seen kv_Search_sl_seen dc_Search_sl_seen pm_Search_sl_seen cd_Search_sl_seen ct_Search_sl_seen : Value} {f_Search_sl_most : Addr} {od_Search_sl_most an_Search_sl_most : Option Addr} {sl_Search_sl_most : Array (Option Value)} {oc_Search_sl_most kv_Search_sl_most dc_Search_sl_most pm_Search_sl_most cd_Search_sl_most ct_Search_sl_most : Value} {f_Search_sl_look : Addr} {od_Search_sl_look an_Search_sl_look : Option Addr} {sl_Search_sl_look : Array (Option Value)} {oc_Search_sl_look kv_Search_sl_look dc_Search_sl_look pm_Search_sl_look cd_Search_sl_look ct_Search_sl_look : Value} {f_Search_sl_size : Addr} {od_Search_sl_size an_Search_sl_size : Option Addr} {sl_Search_sl_size : Array (Option Value)} {oc_Search_sl_size kv_Search_sl_size dc_Search_sl_size pm_Search_sl_size cd_Search_sl_size ct_Search_sl_size : Value} {f_Search_sl_ends : Addr} {od_Search_sl_ends an_Search_sl_ends : Option Addr} {sl_Search_sl_ends : Array (Option Value)} {oc_Search_sl_ends kv_Search_sl_ends dc_Search_sl_ends pm_Search_sl_ends cd_Search_sl_ends ct_Search_sl_ends : Value} {f_Search_sl_back : Addr} {od_Search_sl_back an_Search_sl_back : Option Addr} {sl_Search_sl_back : Array (Option Value)} {oc_Search_sl_back kv_Search_sl_back dc_Search_sl_back pm_Search_sl_back cd_Search_sl_back ct_Search_sl_back : Value} {f_Search_sl_again : Addr} {od_Search_sl_again an_Search_sl_again : Option Addr} {sl_Search_sl_again : Array (Option Value)} {oc_Search_sl_again kv_Search_sl_again dc_Search_sl_again pm_Search_sl_again cd_Search_sl_again ct_Search_sl_again : Value} {f_Search_sl_state : Addr} {od_Search_sl_state an_Search_sl_state : Option Addr} {sl_Search_sl_state : Array (Option Value)} {oc_Search_sl_state kv_Search_sl_state dc_Search_sl_state pm_Search_sl_state cd_Search_sl_state ct_Search_sl_state : Value} {f_answer_change : Addr} {od_answer_change an_answer_change : Option Addr} {sl_answer_change : Array (Option Value)} {oc_answer_change kv_answer_change dc_answer_change pm_answer_change cd_answer_change ct_answer_change : Value} {f_answer_about_hours : Addr} {od_answer_about_hours an_answer_about_hours : Option Addr} {sl_answer_about_hours : Array (Option Value)} {oc_answer_about_hours kv_answer_about_hours dc_answer_about_hours pm_answer_about_hours cd_answer_about_hours ct_answer_about_hours : Value} {f_answer_about_legs : Addr} {od_answer_about_legs an_answer_about_legs : Option Addr} {sl_answer_about_legs : Array (Option Value)} {oc_answer_about_legs kv_answer_about_legs dc_answer_about_legs pm_answer_about_legs cd_answer_about_legs ct_answer_about_legs : Value} {f_answer_about_sizes : Addr} {od_answer_about_sizes an_answer_about_sizes : Option Addr} {sl_answer_about_sizes : Array (Option Value)} {oc_answer_about_sizes kv_answer_about_sizes dc_answer_about_sizes pm_answer_about_sizes cd_answer_about_sizes ct_answer_about_sizes : Value} {f_answer_about_changes : Addr} {od_answer_about_changes an_answer_about_changes : Option Addr} {sl_answer_about_changes : Array (Option Value)} {oc_answer_about_changes kv_answer_about_changes dc_answer_about_changes pm_answer_about_changes cd_answer_about_changes ct_answer_about_changes : Value} {f_answer_call : Addr} {od_answer_call an_answer_call : Option Addr} {sl_answer_call : Array (Option Value)} {oc_answer_call kv_answer_call dc_answer_call pm_answer_call cd_answer_call ct_answer_call : Value} {f_answers : Addr} {od_answers an_answers : Option Addr} {sl_answers : Array (Option Value)} {oc_answers kv_answers dc_answers pm_answers cd_answers ct_answers : Value} {c_Changes : Addr} {c_Area : Addr} {c_Craft : Addr} {c_Plan : Addr} {c_Course : Addr} {c_Search : Addr} {t_SIZES : Addr} {od_SIZES : Option Addr} {nt_SIZES : Nat} {sl_SIZES : Array (Option Value)} {tt_SIZES_0 tt_SIZES_1 tt_SIZES_2 tt_SIZES_3 tt_SIZES_4 tt_SIZES_5 tt_SIZES_6 tt_SIZES_7 tt_SIZES_8 tt_SIZES_9 tt_SIZES_10 tt_SIZES_11 tt_SIZES_12 tt_SIZES_13 tt_SIZES_14 tt_SIZES_15 tt_SIZES_16 tt_SIZES_17 tt_SIZES_18 tt_SIZES_19 tt_SIZES_20 tt_SIZES_21 : Tok} {tk_MOST_CHANGES : Tok} {tk_MOST_HOURS : Tok} {tk_NO_SUCH_CRAFT : Tok} {tk_NO_SUCH_LEG : Tok} {tk_NO_SUCH_CHANGE : Tok} {tk_NO_PLAN : Tok} {tk_PLAN_STANDS : Tok} {tk_PLAN_TAKEN : Tok} {tk_NOT_AS_TOLD : Tok} {tk_NO_MORE_CRAFT : Tok} {tk_CANNOT_BE_DONE : Tok} {tk_NO_LEGS : Tok} {tk_BEYOND_PLAN : Tok} {tk_FARTHEST_PLACE : Tok} {tk_LONGEST_SIDE : Tok} {tk_MOST_CRAFT : Tok} {tk_MOST_SPEED : Tok} {tk_MOST_SEE : Tok}
    (gc_Changes : PySem.W.nsIn K mainGlobals "Changes" = some (some (.ref c_Changes)))
    (gc_Area : PySem.W.nsIn K mainGlobals "Area" = some (some (.ref c_Area)))
    (gc_Craft : PySem.W.nsIn K mainGlobals "Craft" = some (some (.ref c_Craft)))
    (gc_Plan : PySem.W.nsIn K mainGlobals "Plan" = some (some (.ref c_Plan)))
    (gc_Course : PySem.W.nsIn K mainGlobals "Course" = some (some (.ref c_Course)))
    (gc_Search : PySem.W.nsIn K mainGlobals "Search" = some (some (.ref c_Search)))
    (a_Changes_init : PySem.W.findIn K (.ref c_Changes) "__init__" = some (some (.ref f_Changes_init)))
    (i_Changes_init : PySem.W.isFn K (.ref f_Changes_init) = true)
    (l_Changes_init : K.lookup f_Changes_init = some ⟨oc_Changes_init, od_Changes_init, .func (PySem.W.fnOf "__init__" "Changes.__init__" (defArgs s_Changes_init) (defBody s_Changes_init) (defScope s_Changes_init) .none kv_Changes_init dc_Changes_init pm_Changes_init an_Changes_init cd_Changes_init ct_Changes_init), sl_Changes_init⟩)
    (c_Changes_init_ : PySem.W.codeIn K cd_Changes_init "Changes.__init__" = true)
    (k_Changes_init : PySem.W.keepIn K (.ref f_Changes_init) = true)
    (a_Changes_made : PySem.W.findIn K (.ref c_Changes) "made" = some (some (.ref f_Changes_made)))
    (i_Changes_made : PySem.W.isFn K (.ref f_Changes_made) = true)
    (l_Changes_made : K.lookup f_Changes_made = some ⟨oc_Changes_made, od_Changes_made, .func (PySem.W.fnOf "made" "Changes.made" (defArgs s_Changes_made) (defBody s_Changes_made) (defScope s_Changes_made) .none kv_Changes_made dc_Changes_made pm_Changes_made an_Changes_made cd_Changes_made ct_Changes_made), sl_Changes_made⟩)
    (c_Changes_made_ : PySem.W.codeIn K cd_Changes_made "Changes.made" = true)
    (k_Changes_made : PySem.W.keepIn K (.ref f_Changes_made) = true)
    (a_Changes_take_back : PySem.W.findIn K (.ref c_Changes) "take_back" = some (some (.ref f_Changes_take_back)))
    (i_Changes_take_back : PySem.W.isFn K (.ref f_Changes_take_back) = true)
    (l_Changes_take_back : K.lookup f_Changes_take_back = some ⟨oc_Changes_take_back, od_Changes_take_back, .func (PySem.W.fnOf "take_back" "Changes.take_back" (defArgs s_Changes_take_back) (defBody s_Changes_take_back) (defScope s_Changes_take_back) .none kv_Changes_take_back dc_Changes_take_back pm_Changes_take_back an_Changes_take_back cd_Changes_take_back ct_Changes_take_back), sl_Changes_take_back⟩)
    (c_Changes_take_back_ : PySem.W.codeIn K cd_Changes_take_back "Changes.take_back" = true)
    (k_Changes_take_back : PySem.W.keepIn K (.ref f_Changes_take_back) = true)
    (a_Changes_do_again : PySem.W.findIn K (.ref c_Changes) "do_again" = some (some (.ref f_Changes_do_again)))
    (i_Changes_do_again : PySem.W.isFn K (.ref f_Changes_do_again) = true)
    (l_Changes_do_again : K.lookup f_Changes_do_again = some ⟨oc_Changes_do_again, od_Changes_do_again, .func (PySem.W.fnOf "do_again" "Changes.do_again" (defArgs s_Changes_do_again) (defBody s_Changes_do_again) (defScope s_Changes_do_again) .none kv_Changes_do_again dc_Changes_do_again pm_Changes_do_again an_Changes_do_again cd_Changes_do_again ct_Changes_do_again), sl_Changes_do_again⟩)
    (c_Changes_do_again_ : PySem.W.codeIn K cd_Changes_do_again "Changes.do_again" = true)
    (k_Changes_do_again : PySem.W.keepIn K (.ref f_Changes_do_again) = true)
    (a_Area_init : PySem.W.findIn K (.ref c_Area) "__init__" = some (some (.ref f_Area_init)))
    (i_Area_init : PySem.W.isFn K (.ref f_Area_init) = true)
    (l_Area_init : K.lookup f_Area_init = some ⟨oc_Area_init, od_Area_init, .func (PySem.W.fnOf "__init__" "Area.__init__" (defArgs s_Area_init) (defBody s_Area_init) (defScope s_Area_init) .none kv_Area_init dc_Area_init pm_Area_init an_Area_init cd_Area_init ct_Area_init), sl_Area_init⟩)
    (c_Area_init_ : PySem.W.codeIn K cd_Area_init "Area.__init__" = true)
    (k_Area_init : PySem.W.keepIn K (.ref f_Area_init) = true)
    (a_Craft_init : PySem.W.findIn K (.ref c_Craft) "__init__" = some (some (.ref f_Craft_init)))
    (i_Craft_init : PySem.W.isFn K (.ref f_Craft_init) = true)
    (l_Craft_init : K.lookup f_Craft_init = some ⟨oc_Craft_init, od_Craft_init, .func (PySem.W.fnOf "__init__" "Craft.__init__" (defArgs s_Craft_init) (defBody s_Craft_init) (defScope s_Craft_init) .none kv_Craft_init dc_Craft_init pm_Craft_init an_Craft_init cd_Craft_init ct_Craft_init), sl_Craft_init⟩)
    (c_Craft_init_ : PySem.W.codeIn K cd_Craft_init "Craft.__init__" = true)
    (k_Craft_init : PySem.W.keepIn K (.ref f_Craft_init) = true)
    (a_Plan_init : PySem.W.findIn K (.ref c_Plan) "__init__" = some (some (.ref f_Plan_init)))
    (i_Plan_init : PySem.W.isFn K (.ref f_Plan_init) = true)
    (l_Plan_init : K.lookup f_Plan_init = some ⟨oc_Plan_init, od_Plan_init, .func (PySem.W.fnOf "__init__" "Plan.__init__" (defArgs s_Plan_init) (defBody s_Plan_init) (defScope s_Plan_init) .none kv_Plan_init dc_Plan_init pm_Plan_init an_Plan_init cd_Plan_init ct_Plan_init), sl_Plan_init⟩)
    (c_Plan_init_ : PySem.W.codeIn K cd_Plan_init "Plan.__init__" = true)
    (k_Plan_init : PySem.W.keepIn K (.ref f_Plan_init) = true)
    (a_leg_length : PySem.W.nsIn K mainGlobals "leg_length" = some (some (.ref f_leg_length)))
    (l_leg_length : K.lookup f_leg_length = some ⟨oc_leg_length, od_leg_length, .func (PySem.W.fnOf "leg_length" "leg_length" (defArgs s_leg_length) (defBody s_leg_length) (defScope s_leg_length) .none kv_leg_length dc_leg_length pm_leg_length an_leg_length cd_leg_length ct_leg_length), sl_leg_length⟩)
    (c_leg_length_ : PySem.W.codeIn K cd_leg_length "leg_length" = true)
    (k_leg_length : PySem.W.keepIn K (.ref f_leg_length) = true)
    (a_places_across : PySem.W.nsIn K mainGlobals "places_across" = some (some (.ref f_places_across)))
    (l_places_across : K.lookup f_places_across = some ⟨oc_places_across, od_places_across, .func (PySem.W.fnOf "places_across" "places_across" (defArgs s_places_across) (defBody s_places_across) (defScope s_places_across) .none kv_places_across dc_places_across pm_places_across an_places_across cd_places_across ct_places_across), sl_places_across⟩)
    (c_places_across_ : PySem.W.codeIn K cd_places_across "places_across" = true)
    (k_places_across : PySem.W.keepIn K (.ref f_places_across) = true)
    (a_distance_of_legs : PySem.W.nsIn K mainGlobals "distance_of_legs" = some (some (.ref f_distance_of_legs)))
    (l_distance_of_legs : K.lookup f_distance_of_legs = some ⟨oc_distance_of_legs, od_distance_of_legs, .func (PySem.W.fnOf "distance_of_legs" "distance_of_legs" (defArgs s_distance_of_legs) (defBody s_distance_of_legs) (defScope s_distance_of_legs) .none kv_distance_of_legs dc_distance_of_legs pm_distance_of_legs an_distance_of_legs cd_distance_of_legs ct_distance_of_legs), sl_distance_of_legs⟩)
    (c_distance_of_legs_ : PySem.W.codeIn K cd_distance_of_legs "distance_of_legs" = true)
    (k_distance_of_legs : PySem.W.keepIn K (.ref f_distance_of_legs) = true)
    (a_most_legs : PySem.W.nsIn K mainGlobals "most_legs" = some (some (.ref f_most_legs)))
    (l_most_legs : K.lookup f_most_legs = some ⟨oc_most_legs, od_most_legs, .func (PySem.W.fnOf "most_legs" "most_legs" (defArgs s_most_legs) (defBody s_most_legs) (defScope s_most_legs) .none kv_most_legs dc_most_legs pm_most_legs an_most_legs cd_most_legs ct_most_legs), sl_most_legs⟩)
    (c_most_legs_ : PySem.W.codeIn K cd_most_legs "most_legs" = true)
    (k_most_legs : PySem.W.keepIn K (.ref f_most_legs) = true)
    (a_places_seen : PySem.W.nsIn K mainGlobals "places_seen" = some (some (.ref f_places_seen)))
    (l_places_seen : K.lookup f_places_seen = some ⟨oc_places_seen, od_places_seen, .func (PySem.W.fnOf "places_seen" "places_seen" (defArgs s_places_seen) (defBody s_places_seen) (defScope s_places_seen) .none kv_places_seen dc_places_seen pm_places_seen an_places_seen cd_places_seen ct_places_seen), sl_places_seen⟩)
    (c_places_seen_ : PySem.W.codeIn K cd_places_seen "places_seen" = true)
    (k_places_seen : PySem.W.keepIn K (.ref f_places_seen) = true)
    (a_is_done : PySem.W.nsIn K mainGlobals "is_done" = some (some (.ref f_is_done)))
    (l_is_done : K.lookup f_is_done = some ⟨oc_is_done, od_is_done, .func (PySem.W.fnOf "is_done" "is_done" (defArgs s_is_done) (defBody s_is_done) (defScope s_is_done) .none kv_is_done dc_is_done pm_is_done an_is_done cd_is_done ct_is_done), sl_is_done⟩)
    (c_is_done_ : PySem.W.codeIn K cd_is_done "is_done" = true)
    (k_is_done : PySem.W.keepIn K (.ref f_is_done) = true)
    (a_least_hours : PySem.W.nsIn K mainGlobals "least_hours" = some (some (.ref f_least_hours)))
    (l_least_hours : K.lookup f_least_hours = some ⟨oc_least_hours, od_least_hours, .func (PySem.W.fnOf "least_hours" "least_hours" (defArgs s_least_hours) (defBody s_least_hours) (defScope s_least_hours) .none kv_least_hours dc_least_hours pm_least_hours an_least_hours cd_least_hours ct_least_hours), sl_least_hours⟩)
    (c_least_hours_ : PySem.W.codeIn K cd_least_hours "least_hours" = true)
    (k_least_hours : PySem.W.keepIn K (.ref f_least_hours) = true)
    (a_legs_needed : PySem.W.nsIn K mainGlobals "legs_needed" = some (some (.ref f_legs_needed)))
    (l_legs_needed : K.lookup f_legs_needed = some ⟨oc_legs_needed, od_legs_needed, .func (PySem.W.fnOf "legs_needed" "legs_needed" (defArgs s_legs_needed) (defBody s_legs_needed) (defScope s_legs_needed) .none kv_legs_needed dc_legs_needed pm_legs_needed an_legs_needed cd_legs_needed ct_legs_needed), sl_legs_needed⟩)
    (c_legs_needed_ : PySem.W.codeIn K cd_legs_needed "legs_needed" = true)
    (k_legs_needed : PySem.W.keepIn K (.ref f_legs_needed) = true)
    (a_shared_out : PySem.W.nsIn K mainGlobals "shared_out" = some (some (.ref f_shared_out)))
    (l_shared_out : K.lookup f_shared_out = some ⟨oc_shared_out, od_shared_out, .func (PySem.W.fnOf "shared_out" "shared_out" (defArgs s_shared_out) (defBody s_shared_out) (defScope s_shared_out) .none kv_shared_out dc_shared_out pm_shared_out an_shared_out cd_shared_out ct_shared_out), sl_shared_out⟩)
    (c_shared_out_ : PySem.W.codeIn K cd_shared_out "shared_out" = true)
    (k_shared_out : PySem.W.keepIn K (.ref f_shared_out) = true)
    (a_best_plan : PySem.W.nsIn K mainGlobals "best_plan" = some (some (.ref f_best_plan)))
    (l_best_plan : K.lookup f_best_plan = some ⟨oc_best_plan, od_best_plan, .func (PySem.W.fnOf "best_plan" "best_plan" (defArgs s_best_plan) (defBody s_best_plan) (defScope s_best_plan) .none kv_best_plan dc_best_plan pm_best_plan an_best_plan cd_best_plan ct_best_plan), sl_best_plan⟩)
    (c_best_plan_ : PySem.W.codeIn K cd_best_plan "best_plan" = true)
    (k_best_plan : PySem.W.keepIn K (.ref f_best_plan) = true)
    (a_places_before : PySem.W.nsIn K mainGlobals "places_before" = some (some (.ref f_places_before)))
    (l_places_before : K.lookup f_places_before = some ⟨oc_places_before, od_places_before, .func (PySem.W.fnOf "places_before" "places_before" (defArgs s_places_before) (defBody s_places_before) (defScope s_places_before) .none kv_places_before dc_places_before pm_places_before an_places_before cd_places_before ct_places_before), sl_places_before⟩)
    (c_places_before_ : PySem.W.codeIn K cd_places_before "places_before" = true)
    (k_places_before : PySem.W.keepIn K (.ref f_places_before) = true)
    (a_is_within : PySem.W.nsIn K mainGlobals "is_within" = some (some (.ref f_is_within)))
    (l_is_within : K.lookup f_is_within = some ⟨oc_is_within, od_is_within, .func (PySem.W.fnOf "is_within" "is_within" (defArgs s_is_within) (defBody s_is_within) (defScope s_is_within) .none kv_is_within dc_is_within pm_is_within an_is_within cd_is_within ct_is_within), sl_is_within⟩)
    (c_is_within_ : PySem.W.codeIn K cd_is_within "is_within" = true)
    (k_is_within : PySem.W.keepIn K (.ref f_is_within) = true)
    (a_legs_done : PySem.W.nsIn K mainGlobals "legs_done" = some (some (.ref f_legs_done)))
    (l_legs_done : K.lookup f_legs_done = some ⟨oc_legs_done, od_legs_done, .func (PySem.W.fnOf "legs_done" "legs_done" (defArgs s_legs_done) (defBody s_legs_done) (defScope s_legs_done) .none kv_legs_done dc_legs_done pm_legs_done an_legs_done cd_legs_done ct_legs_done), sl_legs_done⟩)
    (c_legs_done_ : PySem.W.codeIn K cd_legs_done "legs_done" = true)
    (k_legs_done : PySem.W.keepIn K (.ref f_legs_done) = true)
    (a_Course_init : PySem.W.findIn K (.ref c_Course) "__init__" = some (some (.ref f_Course_init)))
    (i_Course_init : PySem.W.isFn K (.ref f_Course_init) = true)
    (l_Course_init : K.lookup f_Course_init = some ⟨oc_Course_init, od_Course_init, .func (PySem.W.fnOf "__init__" "Course.__init__" (defArgs s_Course_init) (defBody s_Course_init) (defScope s_Course_init) .none kv_Course_init dc_Course_init pm_Course_init an_Course_init cd_Course_init ct_Course_init), sl_Course_init⟩)
    (c_Course_init_ : PySem.W.codeIn K cd_Course_init "Course.__init__" = true)
    (k_Course_init : PySem.W.keepIn K (.ref f_Course_init) = true)
    (a_Course_line_of : PySem.W.findIn K (.ref c_Course) "line_of" = some (some (.ref f_Course_line_of)))
    (i_Course_line_of : PySem.W.isFn K (.ref f_Course_line_of) = true)
    (l_Course_line_of : K.lookup f_Course_line_of = some ⟨oc_Course_line_of, od_Course_line_of, .func (PySem.W.fnOf "line_of" "Course.line_of" (defArgs s_Course_line_of) (defBody s_Course_line_of) (defScope s_Course_line_of) .none kv_Course_line_of dc_Course_line_of pm_Course_line_of an_Course_line_of cd_Course_line_of ct_Course_line_of), sl_Course_line_of⟩)
    (c_Course_line_of_ : PySem.W.codeIn K cd_Course_line_of "Course.line_of" = true)
    (k_Course_line_of : PySem.W.keepIn K (.ref f_Course_line_of) = true)
    (a_Course_along_leg : PySem.W.findIn K (.ref c_Course) "along_leg" = some (some (.ref f_Course_along_leg)))
    (i_Course_along_leg : PySem.W.isFn K (.ref f_Course_along_leg) = true)
    (l_Course_along_leg : K.lookup f_Course_along_leg = some ⟨oc_Course_along_leg, od_Course_along_leg, .func (PySem.W.fnOf "along_leg" "Course.along_leg" (defArgs s_Course_along_leg) (defBody s_Course_along_leg) (defScope s_Course_along_leg) .none kv_Course_along_leg dc_Course_along_leg pm_Course_along_leg an_Course_along_leg cd_Course_along_leg ct_Course_along_leg), sl_Course_along_leg⟩)
    (c_Course_along_leg_ : PySem.W.codeIn K cd_Course_along_leg "Course.along_leg" = true)
    (k_Course_along_leg : PySem.W.keepIn K (.ref f_Course_along_leg) = true)
    (a_Course_place_on : PySem.W.findIn K (.ref c_Course) "place_on" = some (some (.ref f_Course_place_on)))
    (i_Course_place_on : PySem.W.isFn K (.ref f_Course_place_on) = true)
    (l_Course_place_on : K.lookup f_Course_place_on = some ⟨oc_Course_place_on, od_Course_place_on, .func (PySem.W.fnOf "place_on" "Course.place_on" (defArgs s_Course_place_on) (defBody s_Course_place_on) (defScope s_Course_place_on) .none kv_Course_place_on dc_Course_place_on pm_Course_place_on an_Course_place_on cd_Course_place_on ct_Course_place_on), sl_Course_place_on⟩)
    (c_Course_place_on_ : PySem.W.codeIn K cd_Course_place_on "Course.place_on" = true)
    (k_Course_place_on : PySem.W.keepIn K (.ref f_Course_place_on) = true)
    (a_Course_gone_by : PySem.W.findIn K (.ref c_Course) "gone_by" = some (some (.ref f_Course_gone_by)))
    (i_Course_gone_by : PySem.W.isFn K (.ref f_Course_gone_by) = true)
    (l_Course_gone_by : K.lookup f_Course_gone_by = some ⟨oc_Course_gone_by, od_Course_gone_by, .func (PySem.W.fnOf "gone_by" "Course.gone_by" (defArgs s_Course_gone_by) (defBody s_Course_gone_by) (defScope s_Course_gone_by) .none kv_Course_gone_by dc_Course_gone_by pm_Course_gone_by an_Course_gone_by cd_Course_gone_by ct_Course_gone_by), sl_Course_gone_by⟩)
    (c_Course_gone_by_ : PySem.W.codeIn K cd_Course_gone_by "Course.gone_by" = true)
    (k_Course_gone_by : PySem.W.keepIn K (.ref f_Course_gone_by) = true)
    (a_Course_leg_by : PySem.W.findIn K (.ref c_Course) "leg_by" = some (some (.ref f_Course_leg_by)))
    (i_Course_leg_by : PySem.W.isFn K (.ref f_Course_leg_by) = true)
    (l_Course_leg_by : K.lookup f_Course_leg_by = some ⟨oc_Course_leg_by, od_Course_leg_by, .func (PySem.W.fnOf "leg_by" "Course.leg_by" (defArgs s_Course_leg_by) (defBody s_Course_leg_by) (defScope s_Course_leg_by) .none kv_Course_leg_by dc_Course_leg_by pm_Course_leg_by an_Course_leg_by cd_Course_leg_by ct_Course_leg_by), sl_Course_leg_by⟩)
    (c_Course_leg_by_ : PySem.W.codeIn K cd_Course_leg_by "Course.leg_by" = true)
    (k_Course_leg_by : PySem.W.keepIn K (.ref f_Course_leg_by) = true)
    (a_Course_place_by : PySem.W.findIn K (.ref c_Course) "place_by" = some (some (.ref f_Course_place_by)))
    (i_Course_place_by : PySem.W.isFn K (.ref f_Course_place_by) = true)
    (l_Course_place_by : K.lookup f_Course_place_by = some ⟨oc_Course_place_by, od_Course_place_by, .func (PySem.W.fnOf "place_by" "Course.place_by" (defArgs s_Course_place_by) (defBody s_Course_place_by) (defScope s_Course_place_by) .none kv_Course_place_by dc_Course_place_by pm_Course_place_by an_Course_place_by cd_Course_place_by ct_Course_place_by), sl_Course_place_by⟩)
    (c_Course_place_by_ : PySem.W.codeIn K cd_Course_place_by "Course.place_by" = true)
    (k_Course_place_by : PySem.W.keepIn K (.ref f_Course_place_by) = true)
    (a_Course_first_leg_seeing : PySem.W.findIn K (.ref c_Course) "first_leg_seeing" = some (some (.ref f_Course_first_leg_seeing)))
    (i_Course_first_leg_seeing : PySem.W.isFn K (.ref f_Course_first_leg_seeing) = true)
    (l_Course_first_leg_seeing : K.lookup f_Course_first_leg_seeing = some ⟨oc_Course_first_leg_seeing, od_Course_first_leg_seeing, .func (PySem.W.fnOf "first_leg_seeing" "Course.first_leg_seeing" (defArgs s_Course_first_leg_seeing) (defBody s_Course_first_leg_seeing) (defScope s_Course_first_leg_seeing) .none kv_Course_first_leg_seeing dc_Course_first_leg_seeing pm_Course_first_leg_seeing an_Course_first_leg_seeing cd_Course_first_leg_seeing ct_Course_first_leg_seeing), sl_Course_first_leg_seeing⟩)
    (c_Course_first_leg_seeing_ : PySem.W.codeIn K cd_Course_first_leg_seeing "Course.first_leg_seeing" = true)
    (k_Course_first_leg_seeing : PySem.W.keepIn K (.ref f_Course_first_leg_seeing) = true)
    (a_Course_hours_to_see : PySem.W.findIn K (.ref c_Course) "hours_to_see" = some (some (.ref f_Course_hours_to_see)))
    (i_Course_hours_to_see : PySem.W.isFn K (.ref f_Course_hours_to_see) = true)
    (l_Course_hours_to_see : K.lookup f_Course_hours_to_see = some ⟨oc_Course_hours_to_see, od_Course_hours_to_see, .func (PySem.W.fnOf "hours_to_see" "Course.hours_to_see" (defArgs s_Course_hours_to_see) (defBody s_Course_hours_to_see) (defScope s_Course_hours_to_see) .none kv_Course_hours_to_see dc_Course_hours_to_see pm_Course_hours_to_see an_Course_hours_to_see cd_Course_hours_to_see ct_Course_hours_to_see), sl_Course_hours_to_see⟩)
    (c_Course_hours_to_see_ : PySem.W.codeIn K cd_Course_hours_to_see "Course.hours_to_see" = true)
    (k_Course_hours_to_see : PySem.W.keepIn K (.ref f_Course_hours_to_see) = true)
    (a_is_area : PySem.W.nsIn K mainGlobals "is_area" = some (some (.ref f_is_area)))
    (l_is_area : K.lookup f_is_area = some ⟨oc_is_area, od_is_area, .func (PySem.W.fnOf "is_area" "is_area" (defArgs s_is_area) (defBody s_is_area) (defScope s_is_area) .none kv_is_area dc_is_area pm_is_area an_is_area cd_is_area ct_is_area), sl_is_area⟩)
    (c_is_area_ : PySem.W.codeIn K cd_is_area "is_area" = true)
    (k_is_area : PySem.W.keepIn K (.ref f_is_area) = true)
    (a_is_craft : PySem.W.nsIn K mainGlobals "is_craft" = some (some (.ref f_is_craft)))
    (l_is_craft : K.lookup f_is_craft = some ⟨oc_is_craft, od_is_craft, .func (PySem.W.fnOf "is_craft" "is_craft" (defArgs s_is_craft) (defBody s_is_craft) (defScope s_is_craft) .none kv_is_craft dc_is_craft pm_is_craft an_is_craft cd_is_craft ct_is_craft), sl_is_craft⟩)
    (c_is_craft_ : PySem.W.codeIn K cd_is_craft "is_craft" = true)
    (k_is_craft : PySem.W.keepIn K (.ref f_is_craft) = true)
    (a_way_sign : PySem.W.nsIn K mainGlobals "way_sign" = some (some (.ref f_way_sign)))
    (l_way_sign : K.lookup f_way_sign = some ⟨oc_way_sign, od_way_sign, .func (PySem.W.fnOf "way_sign" "way_sign" (defArgs s_way_sign) (defBody s_way_sign) (defScope s_way_sign) .none kv_way_sign dc_way_sign pm_way_sign an_way_sign cd_way_sign ct_way_sign), sl_way_sign⟩)
    (c_way_sign_ : PySem.W.codeIn K cd_way_sign "way_sign" = true)
    (k_way_sign : PySem.W.keepIn K (.ref f_way_sign) = true)
    (a_Search_init : PySem.W.findIn K (.ref c_Search) "__init__" = some (some (.ref f_Search_init)))
    (i_Search_init : PySem.W.isFn K (.ref f_Search_init) = true)
    (l_Search_init : K.lookup f_Search_init = some ⟨oc_Search_init, od_Search_init, .func (PySem.W.fnOf "__init__" "Search.__init__" (defArgs s_Search_init) (defBody s_Search_init) (defScope s_Search_init) .none kv_Search_init dc_Search_init pm_Search_init an_Search_init cd_Search_init ct_Search_init), sl_Search_init⟩)
    (c_Search_init_ : PySem.W.codeIn K cd_Search_init "Search.__init__" = true)
    (k_Search_init : PySem.W.keepIn K (.ref f_Search_init) = true)
    (a_Search_standing : PySem.W.findIn K (.ref c_Search) "standing" = some (some (.ref f_Search_standing)))
    (i_Search_standing : PySem.W.isFn K (.ref f_Search_standing) = true)
    (l_Search_standing : K.lookup f_Search_standing = some ⟨oc_Search_standing, od_Search_standing, .func (PySem.W.fnOf "standing" "Search.standing" (defArgs s_Search_standing) (defBody s_Search_standing) (defScope s_Search_standing) .none kv_Search_standing dc_Search_standing pm_Search_standing an_Search_standing cd_Search_standing ct_Search_standing), sl_Search_standing⟩)
    (c_Search_standing_ : PySem.W.codeIn K cd_Search_standing "Search.standing" = true)
    (k_Search_standing : PySem.W.keepIn K (.ref f_Search_standing) = true)
    (a_Search_put : PySem.W.findIn K (.ref c_Search) "put" = some (some (.ref f_Search_put)))
    (i_Search_put : PySem.W.isFn K (.ref f_Search_put) = true)
    (l_Search_put : K.lookup f_Search_put = some ⟨oc_Search_put, od_Search_put, .func (PySem.W.fnOf "put" "Search.put" (defArgs s_Search_put) (defBody s_Search_put) (defScope s_Search_put) .none kv_Search_put dc_Search_put pm_Search_put an_Search_put cd_Search_put ct_Search_put), sl_Search_put⟩)
    (c_Search_put_ : PySem.W.codeIn K cd_Search_put "Search.put" = true)
    (k_Search_put : PySem.W.keepIn K (.ref f_Search_put) = true)
    (a_Search_change : PySem.W.findIn K (.ref c_Search) "change" = some (some (.ref f_Search_change)))
    (i_Search_change : PySem.W.isFn K (.ref f_Search_change) = true)
    (l_Search_change : K.lookup f_Search_change = some ⟨oc_Search_change, od_Search_change, .func (PySem.W.fnOf "change" "Search.change" (defArgs s_Search_change) (defBody s_Search_change) (defScope s_Search_change) .none kv_Search_change dc_Search_change pm_Search_change an_Search_change cd_Search_change ct_Search_change), sl_Search_change⟩)
    (c_Search_change_ : PySem.W.codeIn K cd_Search_change "Search.change" = true)
    (k_Search_change : PySem.W.keepIn K (.ref f_Search_change) = true)
    (a_Search_sl_start : PySem.W.findIn K (.ref c_Search) "sl_start" = some (some (.ref f_Search_sl_start)))
    (i_Search_sl_start : PySem.W.isFn K (.ref f_Search_sl_start) = true)
    (l_Search_sl_start : K.lookup f_Search_sl_start = some ⟨oc_Search_sl_start, od_Search_sl_start, .func (PySem.W.fnOf "sl_start" "Search.sl_start" (defArgs s_Search_sl_start) (defBody s_Search_sl_start) (defScope s_Search_sl_start) .none kv_Search_sl_start dc_Search_sl_start pm_Search_sl_start an_Search_sl_start cd_Search_sl_start ct_Search_sl_start), sl_Search_sl_start⟩)
    (c_Search_sl_start_ : PySem.W.codeIn K cd_Search_sl_start "Search.sl_start" = true)
    (k_Search_sl_start : PySem.W.keepIn K (.ref f_Search_sl_start) = true)
    (a_Search_sl_craft : PySem.W.findIn K (.ref c_Search) "sl_craft" = some (some (.ref f_Search_sl_craft)))
    (i_Search_sl_craft : PySem.W.isFn K (.ref f_Search_sl_craft) = true)
    (l_Search_sl_craft : K.lookup f_Search_sl_craft = some ⟨oc_Search_sl_craft, od_Search_sl_craft, .func (PySem.W.fnOf "sl_craft" "Search.sl_craft" (defArgs s_Search_sl_craft) (defBody s_Search_sl_craft) (defScope s_Search_sl_craft) .none kv_Search_sl_craft dc_Search_sl_craft pm_Search_sl_craft an_Search_sl_craft cd_Search_sl_craft ct_Search_sl_craft), sl_Search_sl_craft⟩)
    (c_Search_sl_craft_ : PySem.W.codeIn K cd_Search_sl_craft "Search.sl_craft" = true)
    (k_Search_sl_craft : PySem.W.keepIn K (.ref f_Search_sl_craft) = true)
    (a_Search_sl_area : PySem.W.findIn K (.ref c_Search) "sl_area" = some (some (.ref f_Search_sl_area)))
    (i_Search_sl_area : PySem.W.isFn K (.ref f_Search_sl_area) = true)
    (l_Search_sl_area : K.lookup f_Search_sl_area = some ⟨oc_Search_sl_area, od_Search_sl_area, .func (PySem.W.fnOf "sl_area" "Search.sl_area" (defArgs s_Search_sl_area) (defBody s_Search_sl_area) (defScope s_Search_sl_area) .none kv_Search_sl_area dc_Search_sl_area pm_Search_sl_area an_Search_sl_area cd_Search_sl_area ct_Search_sl_area), sl_Search_sl_area⟩)
    (c_Search_sl_area_ : PySem.W.codeIn K cd_Search_sl_area "Search.sl_area" = true)
    (k_Search_sl_area : PySem.W.keepIn K (.ref f_Search_sl_area) = true)
    (a_Search_sl_drop : PySem.W.findIn K (.ref c_Search) "sl_drop" = some (some (.ref f_Search_sl_drop)))
    (i_Search_sl_drop : PySem.W.isFn K (.ref f_Search_sl_drop) = true)
    (l_Search_sl_drop : K.lookup f_Search_sl_drop = some ⟨oc_Search_sl_drop, od_Search_sl_drop, .func (PySem.W.fnOf "sl_drop" "Search.sl_drop" (defArgs s_Search_sl_drop) (defBody s_Search_sl_drop) (defScope s_Search_sl_drop) .none kv_Search_sl_drop dc_Search_sl_drop pm_Search_sl_drop an_Search_sl_drop cd_Search_sl_drop ct_Search_sl_drop), sl_Search_sl_drop⟩)
    (c_Search_sl_drop_ : PySem.W.codeIn K cd_Search_sl_drop "Search.sl_drop" = true)
    (k_Search_sl_drop : PySem.W.keepIn K (.ref f_Search_sl_drop) = true)
    (a_Search_sl_take : PySem.W.findIn K (.ref c_Search) "sl_take" = some (some (.ref f_Search_sl_take)))
    (i_Search_sl_take : PySem.W.isFn K (.ref f_Search_sl_take) = true)
    (l_Search_sl_take : K.lookup f_Search_sl_take = some ⟨oc_Search_sl_take, od_Search_sl_take, .func (PySem.W.fnOf "sl_take" "Search.sl_take" (defArgs s_Search_sl_take) (defBody s_Search_sl_take) (defScope s_Search_sl_take) .none kv_Search_sl_take dc_Search_sl_take pm_Search_sl_take an_Search_sl_take cd_Search_sl_take ct_Search_sl_take), sl_Search_sl_take⟩)
    (c_Search_sl_take_ : PySem.W.codeIn K cd_Search_sl_take "Search.sl_take" = true)
    (k_Search_sl_take : PySem.W.keepIn K (.ref f_Search_sl_take) = true)
    (a_Search_sl_hours : PySem.W.findIn K (.ref c_Search) "sl_hours" = some (some (.ref f_Search_sl_hours)))
    (i_Search_sl_hours : PySem.W.isFn K (.ref f_Search_sl_hours) = true)
    (l_Search_sl_hours : K.lookup f_Search_sl_hours = some ⟨oc_Search_sl_hours, od_Search_sl_hours, .func (PySem.W.fnOf "sl_hours" "Search.sl_hours" (defArgs s_Search_sl_hours) (defBody s_Search_sl_hours) (defScope s_Search_sl_hours) .none kv_Search_sl_hours dc_Search_sl_hours pm_Search_sl_hours an_Search_sl_hours cd_Search_sl_hours ct_Search_sl_hours), sl_Search_sl_hours⟩)
    (c_Search_sl_hours_ : PySem.W.codeIn K cd_Search_sl_hours "Search.sl_hours" = true)
    (k_Search_sl_hours : PySem.W.keepIn K (.ref f_Search_sl_hours) = true)
    (a_Search_sl_alone : PySem.W.findIn K (.ref c_Search) "sl_alone" = some (some (.ref f_Search_sl_alone)))
    (i_Search_sl_alone : PySem.W.isFn K (.ref f_Search_sl_alone) = true)
    (l_Search_sl_alone : K.lookup f_Search_sl_alone = some ⟨oc_Search_sl_alone, od_Search_sl_alone, .func (PySem.W.fnOf "sl_alone" "Search.sl_alone" (defArgs s_Search_sl_alone) (defBody s_Search_sl_alone) (defScope s_Search_sl_alone) .none kv_Search_sl_alone dc_Search_sl_alone pm_Search_sl_alone an_Search_sl_alone cd_Search_sl_alone ct_Search_sl_alone), sl_Search_sl_alone⟩)
    (c_Search_sl_alone_ : PySem.W.codeIn K cd_Search_sl_alone "Search.sl_alone" = true)
    (k_Search_sl_alone : PySem.W.keepIn K (.ref f_Search_sl_alone) = true)
    (a_Search_sl_soonest : PySem.W.findIn K (.ref c_Search) "sl_soonest" = some (some (.ref f_Search_sl_soonest)))
    (i_Search_sl_soonest : PySem.W.isFn K (.ref f_Search_sl_soonest) = true)
    (l_Search_sl_soonest : K.lookup f_Search_sl_soonest = some ⟨oc_Search_sl_soonest, od_Search_sl_soonest, .func (PySem.W.fnOf "sl_soonest" "Search.sl_soonest" (defArgs s_Search_sl_soonest) (defBody s_Search_sl_soonest) (defScope s_Search_sl_soonest) .none kv_Search_sl_soonest dc_Search_sl_soonest pm_Search_sl_soonest an_Search_sl_soonest cd_Search_sl_soonest ct_Search_sl_soonest), sl_Search_sl_soonest⟩)
    (c_Search_sl_soonest_ : PySem.W.codeIn K cd_Search_sl_soonest "Search.sl_soonest" = true)
    (k_Search_sl_soonest : PySem.W.keepIn K (.ref f_Search_sl_soonest) = true)
    (a_Search_sl_by : PySem.W.findIn K (.ref c_Search) "sl_by" = some (some (.ref f_Search_sl_by)))
    (i_Search_sl_by : PySem.W.isFn K (.ref f_Search_sl_by) = true)
    (l_Search_sl_by : K.lookup f_Search_sl_by = some ⟨oc_Search_sl_by, od_Search_sl_by, .func (PySem.W.fnOf "sl_by" "Search.sl_by" (defArgs s_Search_sl_by) (defBody s_Search_sl_by) (defScope s_Search_sl_by) .none kv_Search_sl_by dc_Search_sl_by pm_Search_sl_by an_Search_sl_by cd_Search_sl_by ct_Search_sl_by), sl_Search_sl_by⟩)
    (c_Search_sl_by_ : PySem.W.codeIn K cd_Search_sl_by "Search.sl_by" = true)
    (k_Search_sl_by : PySem.W.keepIn K (.ref f_Search_sl_by) = true)
    (a_Search_sl_plan : PySem.W.findIn K (.ref c_Search) "sl_plan" = some (some (.ref f_Search_sl_plan)))
    (i_Search_sl_plan : PySem.W.isFn K (.ref f_Search_sl_plan) = true)
    (l_Search_sl_plan : K.lookup f_Search_sl_plan = some ⟨oc_Search_sl_plan, od_Search_sl_plan, .func (PySem.W.fnOf "sl_plan" "Search.sl_plan" (defArgs s_Search_sl_plan) (defBody s_Search_sl_plan) (defScope s_Search_sl_plan) .none kv_Search_sl_plan dc_Search_sl_plan pm_Search_sl_plan an_Search_sl_plan cd_Search_sl_plan ct_Search_sl_plan), sl_Search_sl_plan⟩)
    (c_Search_sl_plan_ : PySem.W.codeIn K cd_Search_sl_plan "Search.sl_plan" = true)
    (k_Search_sl_plan : PySem.W.keepIn K (.ref f_Search_sl_plan) = true)
    (a_Search_sl_legs : PySem.W.findIn K (.ref c_Search) "sl_legs" = some (some (.ref f_Search_sl_legs)))
    (i_Search_sl_legs : PySem.W.isFn K (.ref f_Search_sl_legs) = true)
    (l_Search_sl_legs : K.lookup f_Search_sl_legs = some ⟨oc_Search_sl_legs, od_Search_sl_legs, .func (PySem.W.fnOf "sl_legs" "Search.sl_legs" (defArgs s_Search_sl_legs) (defBody s_Search_sl_legs) (defScope s_Search_sl_legs) .none kv_Search_sl_legs dc_Search_sl_legs pm_Search_sl_legs an_Search_sl_legs cd_Search_sl_legs ct_Search_sl_legs), sl_Search_sl_legs⟩)
    (c_Search_sl_legs_ : PySem.W.codeIn K cd_Search_sl_legs "Search.sl_legs" = true)
    (k_Search_sl_legs : PySem.W.keepIn K (.ref f_Search_sl_legs) = true)
    (a_Search_course_of : PySem.W.findIn K (.ref c_Search) "course_of" = some (some (.ref f_Search_course_of)))
    (i_Search_course_of : PySem.W.isFn K (.ref f_Search_course_of) = true)
    (l_Search_course_of : K.lookup f_Search_course_of = some ⟨oc_Search_course_of, od_Search_course_of, .func (PySem.W.fnOf "course_of" "Search.course_of" (defArgs s_Search_course_of) (defBody s_Search_course_of) (defScope s_Search_course_of) .none kv_Search_course_of dc_Search_course_of pm_Search_course_of an_Search_course_of cd_Search_course_of ct_Search_course_of), sl_Search_course_of⟩)
    (c_Search_course_of_ : PySem.W.codeIn K cd_Search_course_of "Search.course_of" = true)
    (k_Search_course_of : PySem.W.keepIn K (.ref f_Search_course_of) = true)
    (a_Search_sights_of : PySem.W.findIn K (.ref c_Search) "sights_of" = some (some (.ref f_Search_sights_of)))
    (i_Search_sights_of : PySem.W.isFn K (.ref f_Search_sights_of) = true)
    (l_Search_sights_of : K.lookup f_Search_sights_of = some ⟨oc_Search_sights_of, od_Search_sights_of, .func (PySem.W.fnOf "sights_of" "Search.sights_of" (defArgs s_Search_sights_of) (defBody s_Search_sights_of) (defScope s_Search_sights_of) .none kv_Search_sights_of dc_Search_sights_of pm_Search_sights_of an_Search_sights_of cd_Search_sights_of ct_Search_sights_of), sl_Search_sights_of⟩)
    (c_Search_sights_of_ : PySem.W.codeIn K cd_Search_sights_of "Search.sights_of" = true)
    (k_Search_sights_of : PySem.W.keepIn K (.ref f_Search_sights_of) = true)
    (a_Search_sl_leg : PySem.W.findIn K (.ref c_Search) "sl_leg" = some (some (.ref f_Search_sl_leg)))
    (i_Search_sl_leg : PySem.W.isFn K (.ref f_Search_sl_leg) = true)
    (l_Search_sl_leg : K.lookup f_Search_sl_leg = some ⟨oc_Search_sl_leg, od_Search_sl_leg, .func (PySem.W.fnOf "sl_leg" "Search.sl_leg" (defArgs s_Search_sl_leg) (defBody s_Search_sl_leg) (defScope s_Search_sl_leg) .none kv_Search_sl_leg dc_Search_sl_leg pm_Search_sl_leg an_Search_sl_leg cd_Search_sl_leg ct_Search_sl_leg), sl_Search_sl_leg⟩)
    (c_Search_sl_leg_ : PySem.W.codeIn K cd_Search_sl_leg "Search.sl_leg" = true)
    (k_Search_sl_leg : PySem.W.keepIn K (.ref f_Search_sl_leg) = true)
    (a_Search_sl_where : PySem.W.findIn K (.ref c_Search) "sl_where" = some (some (.ref f_Search_sl_where)))
    (i_Search_sl_where : PySem.W.isFn K (.ref f_Search_sl_where) = true)
    (l_Search_sl_where : K.lookup f_Search_sl_where = some ⟨oc_Search_sl_where, od_Search_sl_where, .func (PySem.W.fnOf "sl_where" "Search.sl_where" (defArgs s_Search_sl_where) (defBody s_Search_sl_where) (defScope s_Search_sl_where) .none kv_Search_sl_where dc_Search_sl_where pm_Search_sl_where an_Search_sl_where cd_Search_sl_where ct_Search_sl_where), sl_Search_sl_where⟩)
    (c_Search_sl_where_ : PySem.W.codeIn K cd_Search_sl_where "Search.sl_where" = true)
    (k_Search_sl_where : PySem.W.keepIn K (.ref f_Search_sl_where) = true)
    (a_Search_sl_when : PySem.W.findIn K (.ref c_Search) "sl_when" = some (some (.ref f_Search_sl_when)))
    (i_Search_sl_when : PySem.W.isFn K (.ref f_Search_sl_when) = true)
    (l_Search_sl_when : K.lookup f_Search_sl_when = some ⟨oc_Search_sl_when, od_Search_sl_when, .func (PySem.W.fnOf "sl_when" "Search.sl_when" (defArgs s_Search_sl_when) (defBody s_Search_sl_when) (defScope s_Search_sl_when) .none kv_Search_sl_when dc_Search_sl_when pm_Search_sl_when an_Search_sl_when cd_Search_sl_when ct_Search_sl_when), sl_Search_sl_when⟩)
    (c_Search_sl_when_ : PySem.W.codeIn K cd_Search_sl_when "Search.sl_when" = true)
    (k_Search_sl_when : PySem.W.keepIn K (.ref f_Search_sl_when) = true)
    (a_Search_sl_seen : PySem.W.findIn K (.ref c_Search) "sl_seen" = some (some (.ref f_Search_sl_seen)))
    (i_Search_sl_seen : PySem.W.isFn K (.ref f_Search_sl_seen) = true)
    (l_Search_sl_seen : K.lookup f_Search_sl_seen = some ⟨oc_Search_sl_seen, od_Search_sl_seen, .func (PySem.W.fnOf "sl_seen" "Search.sl_seen" (defArgs s_Search_sl_seen) (defBody s_Search_sl_seen) (defScope s_Search_sl_seen) .none kv_Search_sl_seen dc_Search_sl_seen pm_Search_sl_seen an_Search_sl_seen cd_Search_sl_seen ct_Search_sl_seen), sl_Search_sl_seen⟩)
    (c_Search_sl_seen_ : PySem.W.codeIn K cd_Search_sl_seen "Search.sl_seen" = true)
    (k_Search_sl_seen : PySem.W.keepIn K (.ref f_Search_sl_seen) = true)
    (a_Search_sl_most : PySem.W.findIn K (.ref c_Search) "sl_most" = some (some (.ref f_Search_sl_most)))
    (i_Search_sl_most : PySem.W.isFn K (.ref f_Search_sl_most) = true)
    (l_Search_sl_most : K.lookup f_Search_sl_most = some ⟨oc_Search_sl_most, od_Search_sl_most, .func (PySem.W.fnOf "sl_most" "Search.sl_most" (defArgs s_Search_sl_most) (defBody s_Search_sl_most) (defScope s_Search_sl_most) .none kv_Search_sl_most dc_Search_sl_most pm_Search_sl_most an_Search_sl_most cd_Search_sl_most ct_Search_sl_most), sl_Search_sl_most⟩)
    (c_Search_sl_most_ : PySem.W.codeIn K cd_Search_sl_most "Search.sl_most" = true)
    (k_Search_sl_most : PySem.W.keepIn K (.ref f_Search_sl_most) = true)
    (a_Search_sl_look : PySem.W.findIn K (.ref c_Search) "sl_look" = some (some (.ref f_Search_sl_look)))
    (i_Search_sl_look : PySem.W.isFn K (.ref f_Search_sl_look) = true)
    (l_Search_sl_look : K.lookup f_Search_sl_look = some ⟨oc_Search_sl_look, od_Search_sl_look, .func (PySem.W.fnOf "sl_look" "Search.sl_look" (defArgs s_Search_sl_look) (defBody s_Search_sl_look) (defScope s_Search_sl_look) .none kv_Search_sl_look dc_Search_sl_look pm_Search_sl_look an_Search_sl_look cd_Search_sl_look ct_Search_sl_look), sl_Search_sl_look⟩)
    (c_Search_sl_look_ : PySem.W.codeIn K cd_Search_sl_look "Search.sl_look" = true)
    (k_Search_sl_look : PySem.W.keepIn K (.ref f_Search_sl_look) = true)
    (a_Search_sl_size : PySem.W.findIn K (.ref c_Search) "sl_size" = some (some (.ref f_Search_sl_size)))
    (i_Search_sl_size : PySem.W.isFn K (.ref f_Search_sl_size) = true)
    (l_Search_sl_size : K.lookup f_Search_sl_size = some ⟨oc_Search_sl_size, od_Search_sl_size, .func (PySem.W.fnOf "sl_size" "Search.sl_size" (defArgs s_Search_sl_size) (defBody s_Search_sl_size) (defScope s_Search_sl_size) .none kv_Search_sl_size dc_Search_sl_size pm_Search_sl_size an_Search_sl_size cd_Search_sl_size ct_Search_sl_size), sl_Search_sl_size⟩)
    (c_Search_sl_size_ : PySem.W.codeIn K cd_Search_sl_size "Search.sl_size" = true)
    (k_Search_sl_size : PySem.W.keepIn K (.ref f_Search_sl_size) = true)
    (a_Search_sl_ends : PySem.W.findIn K (.ref c_Search) "sl_ends" = some (some (.ref f_Search_sl_ends)))
    (i_Search_sl_ends : PySem.W.isFn K (.ref f_Search_sl_ends) = true)
    (l_Search_sl_ends : K.lookup f_Search_sl_ends = some ⟨oc_Search_sl_ends, od_Search_sl_ends, .func (PySem.W.fnOf "sl_ends" "Search.sl_ends" (defArgs s_Search_sl_ends) (defBody s_Search_sl_ends) (defScope s_Search_sl_ends) .none kv_Search_sl_ends dc_Search_sl_ends pm_Search_sl_ends an_Search_sl_ends cd_Search_sl_ends ct_Search_sl_ends), sl_Search_sl_ends⟩)
    (c_Search_sl_ends_ : PySem.W.codeIn K cd_Search_sl_ends "Search.sl_ends" = true)
    (k_Search_sl_ends : PySem.W.keepIn K (.ref f_Search_sl_ends) = true)
    (a_Search_sl_back : PySem.W.findIn K (.ref c_Search) "sl_back" = some (some (.ref f_Search_sl_back)))
    (i_Search_sl_back : PySem.W.isFn K (.ref f_Search_sl_back) = true)
    (l_Search_sl_back : K.lookup f_Search_sl_back = some ⟨oc_Search_sl_back, od_Search_sl_back, .func (PySem.W.fnOf "sl_back" "Search.sl_back" (defArgs s_Search_sl_back) (defBody s_Search_sl_back) (defScope s_Search_sl_back) .none kv_Search_sl_back dc_Search_sl_back pm_Search_sl_back an_Search_sl_back cd_Search_sl_back ct_Search_sl_back), sl_Search_sl_back⟩)
    (c_Search_sl_back_ : PySem.W.codeIn K cd_Search_sl_back "Search.sl_back" = true)
    (k_Search_sl_back : PySem.W.keepIn K (.ref f_Search_sl_back) = true)
    (a_Search_sl_again : PySem.W.findIn K (.ref c_Search) "sl_again" = some (some (.ref f_Search_sl_again)))
    (i_Search_sl_again : PySem.W.isFn K (.ref f_Search_sl_again) = true)
    (l_Search_sl_again : K.lookup f_Search_sl_again = some ⟨oc_Search_sl_again, od_Search_sl_again, .func (PySem.W.fnOf "sl_again" "Search.sl_again" (defArgs s_Search_sl_again) (defBody s_Search_sl_again) (defScope s_Search_sl_again) .none kv_Search_sl_again dc_Search_sl_again pm_Search_sl_again an_Search_sl_again cd_Search_sl_again ct_Search_sl_again), sl_Search_sl_again⟩)
    (c_Search_sl_again_ : PySem.W.codeIn K cd_Search_sl_again "Search.sl_again" = true)
    (k_Search_sl_again : PySem.W.keepIn K (.ref f_Search_sl_again) = true)
    (a_Search_sl_state : PySem.W.findIn K (.ref c_Search) "sl_state" = some (some (.ref f_Search_sl_state)))
    (i_Search_sl_state : PySem.W.isFn K (.ref f_Search_sl_state) = true)
    (l_Search_sl_state : K.lookup f_Search_sl_state = some ⟨oc_Search_sl_state, od_Search_sl_state, .func (PySem.W.fnOf "sl_state" "Search.sl_state" (defArgs s_Search_sl_state) (defBody s_Search_sl_state) (defScope s_Search_sl_state) .none kv_Search_sl_state dc_Search_sl_state pm_Search_sl_state an_Search_sl_state cd_Search_sl_state ct_Search_sl_state), sl_Search_sl_state⟩)
    (c_Search_sl_state_ : PySem.W.codeIn K cd_Search_sl_state "Search.sl_state" = true)
    (k_Search_sl_state : PySem.W.keepIn K (.ref f_Search_sl_state) = true)
    (a_answer_change : PySem.W.nsIn K mainGlobals "answer_change" = some (some (.ref f_answer_change)))
    (l_answer_change : K.lookup f_answer_change = some ⟨oc_answer_change, od_answer_change, .func (PySem.W.fnOf "answer_change" "answer_change" (defArgs s_answer_change) (defBody s_answer_change) (defScope s_answer_change) .none kv_answer_change dc_answer_change pm_answer_change an_answer_change cd_answer_change ct_answer_change), sl_answer_change⟩)
    (c_answer_change_ : PySem.W.codeIn K cd_answer_change "answer_change" = true)
    (k_answer_change : PySem.W.keepIn K (.ref f_answer_change) = true)
    (a_answer_about_hours : PySem.W.nsIn K mainGlobals "answer_about_hours" = some (some (.ref f_answer_about_hours)))
    (l_answer_about_hours : K.lookup f_answer_about_hours = some ⟨oc_answer_about_hours, od_answer_about_hours, .func (PySem.W.fnOf "answer_about_hours" "answer_about_hours" (defArgs s_answer_about_hours) (defBody s_answer_about_hours) (defScope s_answer_about_hours) .none kv_answer_about_hours dc_answer_about_hours pm_answer_about_hours an_answer_about_hours cd_answer_about_hours ct_answer_about_hours), sl_answer_about_hours⟩)
    (c_answer_about_hours_ : PySem.W.codeIn K cd_answer_about_hours "answer_about_hours" = true)
    (k_answer_about_hours : PySem.W.keepIn K (.ref f_answer_about_hours) = true)
    (a_answer_about_legs : PySem.W.nsIn K mainGlobals "answer_about_legs" = some (some (.ref f_answer_about_legs)))
    (l_answer_about_legs : K.lookup f_answer_about_legs = some ⟨oc_answer_about_legs, od_answer_about_legs, .func (PySem.W.fnOf "answer_about_legs" "answer_about_legs" (defArgs s_answer_about_legs) (defBody s_answer_about_legs) (defScope s_answer_about_legs) .none kv_answer_about_legs dc_answer_about_legs pm_answer_about_legs an_answer_about_legs cd_answer_about_legs ct_answer_about_legs), sl_answer_about_legs⟩)
    (c_answer_about_legs_ : PySem.W.codeIn K cd_answer_about_legs "answer_about_legs" = true)
    (k_answer_about_legs : PySem.W.keepIn K (.ref f_answer_about_legs) = true)
    (a_answer_about_sizes : PySem.W.nsIn K mainGlobals "answer_about_sizes" = some (some (.ref f_answer_about_sizes)))
    (l_answer_about_sizes : K.lookup f_answer_about_sizes = some ⟨oc_answer_about_sizes, od_answer_about_sizes, .func (PySem.W.fnOf "answer_about_sizes" "answer_about_sizes" (defArgs s_answer_about_sizes) (defBody s_answer_about_sizes) (defScope s_answer_about_sizes) .none kv_answer_about_sizes dc_answer_about_sizes pm_answer_about_sizes an_answer_about_sizes cd_answer_about_sizes ct_answer_about_sizes), sl_answer_about_sizes⟩)
    (c_answer_about_sizes_ : PySem.W.codeIn K cd_answer_about_sizes "answer_about_sizes" = true)
    (k_answer_about_sizes : PySem.W.keepIn K (.ref f_answer_about_sizes) = true)
    (a_answer_about_changes : PySem.W.nsIn K mainGlobals "answer_about_changes" = some (some (.ref f_answer_about_changes)))
    (l_answer_about_changes : K.lookup f_answer_about_changes = some ⟨oc_answer_about_changes, od_answer_about_changes, .func (PySem.W.fnOf "answer_about_changes" "answer_about_changes" (defArgs s_answer_about_changes) (defBody s_answer_about_changes) (defScope s_answer_about_changes) .none kv_answer_about_changes dc_answer_about_changes pm_answer_about_changes an_answer_about_changes cd_answer_about_changes ct_answer_about_changes), sl_answer_about_changes⟩)
    (c_answer_about_changes_ : PySem.W.codeIn K cd_answer_about_changes "answer_about_changes" = true)
    (k_answer_about_changes : PySem.W.keepIn K (.ref f_answer_about_changes) = true)
    (a_answer_call : PySem.W.nsIn K mainGlobals "answer_call" = some (some (.ref f_answer_call)))
    (l_answer_call : K.lookup f_answer_call = some ⟨oc_answer_call, od_answer_call, .func (PySem.W.fnOf "answer_call" "answer_call" (defArgs s_answer_call) (defBody s_answer_call) (defScope s_answer_call) .none kv_answer_call dc_answer_call pm_answer_call an_answer_call cd_answer_call ct_answer_call), sl_answer_call⟩)
    (c_answer_call_ : PySem.W.codeIn K cd_answer_call "answer_call" = true)
    (k_answer_call : PySem.W.keepIn K (.ref f_answer_call) = true)
    (a_answers : PySem.W.nsIn K mainGlobals "answers" = some (some (.ref f_answers)))
    (l_answers : K.lookup f_answers = some ⟨oc_answers, od_answers, .func (PySem.W.fnOf "answers" "answers" (defArgs s_answers) (defBody s_answers) (defScope s_answers) .none kv_answers dc_answers pm_answers an_answers cd_answers ct_answers), sl_answers⟩)
    (c_answers_ : PySem.W.codeIn K cd_answers "answers" = true)
    (k_answers : PySem.W.keepIn K (.ref f_answers) = true)
    (pg_Changes : PySem.W.plainGet K c_Changes Str.empty = true)
    (hd_Changes : PySem.W.hasDictIn K c_Changes = true)
    (po_Changes : PySem.W.plainOver K c_Changes = true)
    (sa_Changes : PySem.W.findIn K (.ref c_Changes) "__setattr__" = some (some (.builtin "object.__setattr__")))
    (mk_Changes : PySem.W.makesIn K c_Changes = true)
    (kc_Changes : PySem.W.keepIn K (.ref c_Changes) = true)
    (na_Changes_behind : PySem.W.findIn K (.ref c_Changes) "behind" = some none)
    (na_Changes_ahead : PySem.W.findIn K (.ref c_Changes) "ahead" = some none)
    (pg_Area : PySem.W.plainGet K c_Area Str.empty = true)
    (hd_Area : PySem.W.hasDictIn K c_Area = true)
    (po_Area : PySem.W.plainOver K c_Area = true)
    (sa_Area : PySem.W.findIn K (.ref c_Area) "__setattr__" = some (some (.builtin "object.__setattr__")))
    (mk_Area : PySem.W.makesIn K c_Area = true)
    (kc_Area : PySem.W.keepIn K (.ref c_Area) = true)
    (na_Area_x : PySem.W.findIn K (.ref c_Area) "x" = some none)
    (na_Area_y : PySem.W.findIn K (.ref c_Area) "y" = some none)
    (na_Area_wide : PySem.W.findIn K (.ref c_Area) "wide" = some none)
    (na_Area_high : PySem.W.findIn K (.ref c_Area) "high" = some none)
    (pg_Craft : PySem.W.plainGet K c_Craft Str.empty = true)
    (hd_Craft : PySem.W.hasDictIn K c_Craft = true)
    (po_Craft : PySem.W.plainOver K c_Craft = true)
    (sa_Craft : PySem.W.findIn K (.ref c_Craft) "__setattr__" = some (some (.builtin "object.__setattr__")))
    (mk_Craft : PySem.W.makesIn K c_Craft = true)
    (kc_Craft : PySem.W.keepIn K (.ref c_Craft) = true)
    (na_Craft_speed : PySem.W.findIn K (.ref c_Craft) "speed" = some none)
    (na_Craft_see : PySem.W.findIn K (.ref c_Craft) "see" = some none)
    (na_Craft_hours : PySem.W.findIn K (.ref c_Craft) "hours" = some none)
    (na_Craft_strip : PySem.W.findIn K (.ref c_Craft) "strip" = some none)
    (pg_Plan : PySem.W.plainGet K c_Plan Str.empty = true)
    (hd_Plan : PySem.W.hasDictIn K c_Plan = true)
    (po_Plan : PySem.W.plainOver K c_Plan = true)
    (sa_Plan : PySem.W.findIn K (.ref c_Plan) "__setattr__" = some (some (.builtin "object.__setattr__")))
    (mk_Plan : PySem.W.makesIn K c_Plan = true)
    (kc_Plan : PySem.W.keepIn K (.ref c_Plan) = true)
    (na_Plan_way : PySem.W.findIn K (.ref c_Plan) "way" = some none)
    (na_Plan_hours : PySem.W.findIn K (.ref c_Plan) "hours" = some none)
    (na_Plan_shares : PySem.W.findIn K (.ref c_Plan) "shares" = some none)
    (pg_Course : PySem.W.plainGet K c_Course Str.empty = true)
    (hd_Course : PySem.W.hasDictIn K c_Course = true)
    (po_Course : PySem.W.plainOver K c_Course = true)
    (sa_Course : PySem.W.findIn K (.ref c_Course) "__setattr__" = some (some (.builtin "object.__setattr__")))
    (mk_Course : PySem.W.makesIn K c_Course = true)
    (kc_Course : PySem.W.keepIn K (.ref c_Course) = true)
    (na_Course_area : PySem.W.findIn K (.ref c_Course) "area" = some none)
    (na_Course_craft : PySem.W.findIn K (.ref c_Course) "craft" = some none)
    (na_Course_way : PySem.W.findIn K (.ref c_Course) "way" = some none)
    (na_Course_legs : PySem.W.findIn K (.ref c_Course) "legs" = some none)
    (na_Course_before : PySem.W.findIn K (.ref c_Course) "before" = some none)
    (na_Course_long : PySem.W.findIn K (.ref c_Course) "long" = some none)
    (na_Course_pitch : PySem.W.findIn K (.ref c_Course) "pitch" = some none)
    (pg_Search : PySem.W.plainGet K c_Search Str.empty = true)
    (hd_Search : PySem.W.hasDictIn K c_Search = true)
    (po_Search : PySem.W.plainOver K c_Search = true)
    (sa_Search : PySem.W.findIn K (.ref c_Search) "__setattr__" = some (some (.builtin "object.__setattr__")))
    (mk_Search : PySem.W.makesIn K c_Search = true)
    (kc_Search : PySem.W.keepIn K (.ref c_Search) = true)
    (na_Search_changes : PySem.W.findIn K (.ref c_Search) "changes" = some none)
    (na_Search_area : PySem.W.findIn K (.ref c_Search) "area" = some none)
    (na_Search_crafts : PySem.W.findIn K (.ref c_Search) "crafts" = some none)
    (na_Search_plan : PySem.W.findIn K (.ref c_Search) "plan" = some none)
    (na_Search_hour : PySem.W.findIn K (.ref c_Search) "hour" = some none)
    (kk_MOST_CHANGES : PySem.W.nsIn K mainGlobals "MOST_CHANGES" = some (some (.int (20) tk_MOST_CHANGES)))
    (kk_MOST_HOURS : PySem.W.nsIn K mainGlobals "MOST_HOURS" = some (some (.int (100) tk_MOST_HOURS)))
    (kk_NO_SUCH_CRAFT : PySem.W.nsIn K mainGlobals "NO_SUCH_CRAFT" = some (some (.int (-2) tk_NO_SUCH_CRAFT)))
    (kk_NO_SUCH_LEG : PySem.W.nsIn K mainGlobals "NO_SUCH_LEG" = some (some (.int (-2) tk_NO_SUCH_LEG)))
    (kk_NO_SUCH_CHANGE : PySem.W.nsIn K mainGlobals "NO_SUCH_CHANGE" = some (some (.int (-2) tk_NO_SUCH_CHANGE)))
    (kk_NO_PLAN : PySem.W.nsIn K mainGlobals "NO_PLAN" = some (some (.int (-6) tk_NO_PLAN)))
    (kk_PLAN_STANDS : PySem.W.nsIn K mainGlobals "PLAN_STANDS" = some (some (.int (-16) tk_PLAN_STANDS)))
    (kk_PLAN_TAKEN : PySem.W.nsIn K mainGlobals "PLAN_TAKEN" = some (some (.int (-17) tk_PLAN_TAKEN)))
    (kk_NOT_AS_TOLD : PySem.W.nsIn K mainGlobals "NOT_AS_TOLD" = some (some (.int (-22) tk_NOT_AS_TOLD)))
    (kk_NO_MORE_CRAFT : PySem.W.nsIn K mainGlobals "NO_MORE_CRAFT" = some (some (.int (-28) tk_NO_MORE_CRAFT)))
    (kk_CANNOT_BE_DONE : PySem.W.nsIn K mainGlobals "CANNOT_BE_DONE" = some (some (.int (-33) tk_CANNOT_BE_DONE)))
    (kk_NO_LEGS : PySem.W.nsIn K mainGlobals "NO_LEGS" = some (some (.int (-33) tk_NO_LEGS)))
    (kk_BEYOND_PLAN : PySem.W.nsIn K mainGlobals "BEYOND_PLAN" = some (some (.int (-75) tk_BEYOND_PLAN)))
    (kk_FARTHEST_PLACE : PySem.W.nsIn K mainGlobals "FARTHEST_PLACE" = some (some (.int (100000) tk_FARTHEST_PLACE)))
    (kk_LONGEST_SIDE : PySem.W.nsIn K mainGlobals "LONGEST_SIDE" = some (some (.int (500) tk_LONGEST_SIDE)))
    (kk_MOST_CRAFT : PySem.W.nsIn K mainGlobals "MOST_CRAFT" = some (some (.int (4) tk_MOST_CRAFT)))
    (kk_MOST_SPEED : PySem.W.nsIn K mainGlobals "MOST_SPEED" = some (some (.int (500) tk_MOST_SPEED)))
    (kk_MOST_SEE : PySem.W.nsIn K mainGlobals "MOST_SEE" = some (some (.int (200) tk_MOST_SEE)))
    (ga_SIZES : PySem.W.nsIn K mainGlobals "SIZES" = some (some (.ref t_SIZES)))
    (ql_SIZES : K.lookup t_SIZES = some ⟨.type "tuple", od_SIZES, .seq #[.int (4) tt_SIZES_0, .int (3) tt_SIZES_1, .int (4) tt_SIZES_2, .int (1) tt_SIZES_3, .int (0) tt_SIZES_4, .int (1) tt_SIZES_5, .int (2) tt_SIZES_6, .int (0) tt_SIZES_7, .int (2) tt_SIZES_8, .int (0) tt_SIZES_9, .int (1) tt_SIZES_10, .int (2) tt_SIZES_11, .int (1) tt_SIZES_12, .int (2) tt_SIZES_13, .int (2) tt_SIZES_14, .int (3) tt_SIZES_15, .int (1) tt_SIZES_16, .int (0) tt_SIZES_17, .int (0) tt_SIZES_18, .int (0) tt_SIZES_19, .int (0) tt_SIZES_20, .int (0) tt_SIZES_21] nt_SIZES, sl_SIZES⟩)
    (nb_abs : PySem.W.nsIn K mainGlobals "abs" = some none)
    (nb_enumerate : PySem.W.nsIn K mainGlobals "enumerate" = some none)
    (nb_len : PySem.W.nsIn K mainGlobals "len" = some none)
    (nb_max : PySem.W.nsIn K mainGlobals "max" = some none)
    (nb_min : PySem.W.nsIn K mainGlobals "min" = some none)
    (nb_range : PySem.W.nsIn K mainGlobals "range" = some none)
    (nb_sum : PySem.W.nsIn K mainGlobals "sum" = some none) :
    ∃ fd : FuncData, (∀ (s : Shared) (us : List Value), us.length = p_answers.length → BindsTo s fd ⟨us, []⟩ (p_answers.zip us)) ∧ ∀ base : Heap, K.In base → base.Ns mainGlobals mg → FnOk P w K mg base CX0 10 fa fd p_answers (spAns K) := by
  have e := hfa.symm.trans (PySem.W.mg_of X G a_answers)
  cases e
  have F_Changes_init := fun_mk (st := s_Changes_init) l_Changes_init c_Changes_init_ k_Changes_init
  have F_Changes_made := fun_mk (st := s_Changes_made) l_Changes_made c_Changes_made_ k_Changes_made
  have F_Changes_take_back := fun_mk (st := s_Changes_take_back) l_Changes_take_back c_Changes_take_back_ k_Changes_take_back
  have F_Changes_do_again := fun_mk (st := s_Changes_do_again) l_Changes_do_again c_Changes_do_again_ k_Changes_do_again
  have F_Area_init := fun_mk (st := s_Area_init) l_Area_init c_Area_init_ k_Area_init
  have F_Craft_init := fun_mk (st := s_Craft_init) l_Craft_init c_Craft_init_ k_Craft_init
  have F_Plan_init := fun_mk (st := s_Plan_init) l_Plan_init c_Plan_init_ k_Plan_init
  have F_leg_length := fun_mk (st := s_leg_length) l_leg_length c_leg_length_ k_leg_length
  have F_places_across := fun_mk (st := s_places_across) l_places_across c_places_across_ k_places_across
  have F_distance_of_legs := fun_mk (st := s_distance_of_legs) l_distance_of_legs c_distance_of_legs_ k_distance_of_legs
  have F_most_legs := fun_mk (st := s_most_legs) l_most_legs c_most_legs_ k_most_legs
  have F_places_seen := fun_mk (st := s_places_seen) l_places_seen c_places_seen_ k_places_seen
  have F_is_done := fun_mk (st := s_is_done) l_is_done c_is_done_ k_is_done
  have F_least_hours := fun_mk (st := s_least_hours) l_least_hours c_least_hours_ k_least_hours
  have F_legs_needed := fun_mk (st := s_legs_needed) l_legs_needed c_legs_needed_ k_legs_needed
  have F_shared_out := fun_mk (st := s_shared_out) l_shared_out c_shared_out_ k_shared_out
  have F_best_plan := fun_mk (st := s_best_plan) l_best_plan c_best_plan_ k_best_plan
  have F_places_before := fun_mk (st := s_places_before) l_places_before c_places_before_ k_places_before
  have F_is_within := fun_mk (st := s_is_within) l_is_within c_is_within_ k_is_within
  have F_legs_done := fun_mk (st := s_legs_done) l_legs_done c_legs_done_ k_legs_done
  have F_Course_init := fun_mk (st := s_Course_init) l_Course_init c_Course_init_ k_Course_init
  have F_Course_line_of := fun_mk (st := s_Course_line_of) l_Course_line_of c_Course_line_of_ k_Course_line_of
  have F_Course_along_leg := fun_mk (st := s_Course_along_leg) l_Course_along_leg c_Course_along_leg_ k_Course_along_leg
  have F_Course_place_on := fun_mk (st := s_Course_place_on) l_Course_place_on c_Course_place_on_ k_Course_place_on
  have F_Course_gone_by := fun_mk (st := s_Course_gone_by) l_Course_gone_by c_Course_gone_by_ k_Course_gone_by
  have F_Course_leg_by := fun_mk (st := s_Course_leg_by) l_Course_leg_by c_Course_leg_by_ k_Course_leg_by
  have F_Course_place_by := fun_mk (st := s_Course_place_by) l_Course_place_by c_Course_place_by_ k_Course_place_by
  have F_Course_first_leg_seeing := fun_mk (st := s_Course_first_leg_seeing) l_Course_first_leg_seeing c_Course_first_leg_seeing_ k_Course_first_leg_seeing
  have F_Course_hours_to_see := fun_mk (st := s_Course_hours_to_see) l_Course_hours_to_see c_Course_hours_to_see_ k_Course_hours_to_see
  have F_is_area := fun_mk (st := s_is_area) l_is_area c_is_area_ k_is_area
  have F_is_craft := fun_mk (st := s_is_craft) l_is_craft c_is_craft_ k_is_craft
  have F_way_sign := fun_mk (st := s_way_sign) l_way_sign c_way_sign_ k_way_sign
  have F_Search_init := fun_mk (st := s_Search_init) l_Search_init c_Search_init_ k_Search_init
  have F_Search_standing := fun_mk (st := s_Search_standing) l_Search_standing c_Search_standing_ k_Search_standing
  have F_Search_put := fun_mk (st := s_Search_put) l_Search_put c_Search_put_ k_Search_put
  have F_Search_change := fun_mk (st := s_Search_change) l_Search_change c_Search_change_ k_Search_change
  have F_Search_sl_start := fun_mk (st := s_Search_sl_start) l_Search_sl_start c_Search_sl_start_ k_Search_sl_start
  have F_Search_sl_craft := fun_mk (st := s_Search_sl_craft) l_Search_sl_craft c_Search_sl_craft_ k_Search_sl_craft
  have F_Search_sl_area := fun_mk (st := s_Search_sl_area) l_Search_sl_area c_Search_sl_area_ k_Search_sl_area
  have F_Search_sl_drop := fun_mk (st := s_Search_sl_drop) l_Search_sl_drop c_Search_sl_drop_ k_Search_sl_drop
  have F_Search_sl_take := fun_mk (st := s_Search_sl_take) l_Search_sl_take c_Search_sl_take_ k_Search_sl_take
  have F_Search_sl_hours := fun_mk (st := s_Search_sl_hours) l_Search_sl_hours c_Search_sl_hours_ k_Search_sl_hours
  have F_Search_sl_alone := fun_mk (st := s_Search_sl_alone) l_Search_sl_alone c_Search_sl_alone_ k_Search_sl_alone
  have F_Search_sl_soonest := fun_mk (st := s_Search_sl_soonest) l_Search_sl_soonest c_Search_sl_soonest_ k_Search_sl_soonest
  have F_Search_sl_by := fun_mk (st := s_Search_sl_by) l_Search_sl_by c_Search_sl_by_ k_Search_sl_by
  have F_Search_sl_plan := fun_mk (st := s_Search_sl_plan) l_Search_sl_plan c_Search_sl_plan_ k_Search_sl_plan
  have F_Search_sl_legs := fun_mk (st := s_Search_sl_legs) l_Search_sl_legs c_Search_sl_legs_ k_Search_sl_legs
  have F_Search_course_of := fun_mk (st := s_Search_course_of) l_Search_course_of c_Search_course_of_ k_Search_course_of
  have F_Search_sights_of := fun_mk (st := s_Search_sights_of) l_Search_sights_of c_Search_sights_of_ k_Search_sights_of
  have F_Search_sl_leg := fun_mk (st := s_Search_sl_leg) l_Search_sl_leg c_Search_sl_leg_ k_Search_sl_leg
  have F_Search_sl_where := fun_mk (st := s_Search_sl_where) l_Search_sl_where c_Search_sl_where_ k_Search_sl_where
  have F_Search_sl_when := fun_mk (st := s_Search_sl_when) l_Search_sl_when c_Search_sl_when_ k_Search_sl_when
  have F_Search_sl_seen := fun_mk (st := s_Search_sl_seen) l_Search_sl_seen c_Search_sl_seen_ k_Search_sl_seen
  have F_Search_sl_most := fun_mk (st := s_Search_sl_most) l_Search_sl_most c_Search_sl_most_ k_Search_sl_most
  have F_Search_sl_look := fun_mk (st := s_Search_sl_look) l_Search_sl_look c_Search_sl_look_ k_Search_sl_look
  have F_Search_sl_size := fun_mk (st := s_Search_sl_size) l_Search_sl_size c_Search_sl_size_ k_Search_sl_size
  have F_Search_sl_ends := fun_mk (st := s_Search_sl_ends) l_Search_sl_ends c_Search_sl_ends_ k_Search_sl_ends
  have F_Search_sl_back := fun_mk (st := s_Search_sl_back) l_Search_sl_back c_Search_sl_back_ k_Search_sl_back
  have F_Search_sl_again := fun_mk (st := s_Search_sl_again) l_Search_sl_again c_Search_sl_again_ k_Search_sl_again
  have F_Search_sl_state := fun_mk (st := s_Search_sl_state) l_Search_sl_state c_Search_sl_state_ k_Search_sl_state
  have F_answer_change := fun_mk (st := s_answer_change) l_answer_change c_answer_change_ k_answer_change
  have F_answer_about_hours := fun_mk (st := s_answer_about_hours) l_answer_about_hours c_answer_about_hours_ k_answer_about_hours
  have F_answer_about_legs := fun_mk (st := s_answer_about_legs) l_answer_about_legs c_answer_about_legs_ k_answer_about_legs
  have F_answer_about_sizes := fun_mk (st := s_answer_about_sizes) l_answer_about_sizes c_answer_about_sizes_ k_answer_about_sizes
  have F_answer_about_changes := fun_mk (st := s_answer_about_changes) l_answer_about_changes c_answer_about_changes_ k_answer_about_changes
  have F_answer_call := fun_mk (st := s_answer_call) l_answer_call c_answer_call_ k_answer_call
  have F_answers := fun_mk (st := s_answers) l_answers c_answers_ k_answers
  have T : Txt K mg { c_Changes := c_Changes, c_Area := c_Area, c_Craft := c_Craft, c_Plan := c_Plan, c_Course := c_Course, c_Search := c_Search, t_SIZES := t_SIZES, f_Changes_init := f_Changes_init, d_Changes_init := _, f_Changes_made := f_Changes_made, d_Changes_made := _, f_Changes_take_back := f_Changes_take_back, d_Changes_take_back := _, f_Changes_do_again := f_Changes_do_again, d_Changes_do_again := _, f_Area_init := f_Area_init, d_Area_init := _, f_Craft_init := f_Craft_init, d_Craft_init := _, f_Plan_init := f_Plan_init, d_Plan_init := _, f_leg_length := f_leg_length, d_leg_length := _, f_places_across := f_places_across, d_places_across := _, f_distance_of_legs := f_distance_of_legs, d_distance_of_legs := _, f_most_legs := f_most_legs, d_most_legs := _, f_places_seen := f_places_seen, d_places_seen := _, f_is_done := f_is_done, d_is_done := _, f_least_hours := f_least_hours, d_least_hours := _, f_legs_needed := f_legs_needed, d_legs_needed := _, f_shared_out := f_shared_out, d_shared_out := _, f_best_plan := f_best_plan, d_best_plan := _, f_places_before := f_places_before, d_places_before := _, f_is_within := f_is_within, d_is_within := _, f_legs_done := f_legs_done, d_legs_done := _, f_Course_init := f_Course_init, d_Course_init := _, f_Course_line_of := f_Course_line_of, d_Course_line_of := _, f_Course_along_leg := f_Course_along_leg, d_Course_along_leg := _, f_Course_place_on := f_Course_place_on, d_Course_place_on := _, f_Course_gone_by := f_Course_gone_by, d_Course_gone_by := _, f_Course_leg_by := f_Course_leg_by, d_Course_leg_by := _, f_Course_place_by := f_Course_place_by, d_Course_place_by := _, f_Course_first_leg_seeing := f_Course_first_leg_seeing, d_Course_first_leg_seeing := _, f_Course_hours_to_see := f_Course_hours_to_see, d_Course_hours_to_see := _, f_is_area := f_is_area, d_is_area := _, f_is_craft := f_is_craft, d_is_craft := _, f_way_sign := f_way_sign, d_way_sign := _, f_Search_init := f_Search_init, d_Search_init := _, f_Search_standing := f_Search_standing, d_Search_standing := _, f_Search_put := f_Search_put, d_Search_put := _, f_Search_change := f_Search_change, d_Search_change := _, f_Search_sl_start := f_Search_sl_start, d_Search_sl_start := _, f_Search_sl_craft := f_Search_sl_craft, d_Search_sl_craft := _, f_Search_sl_area := f_Search_sl_area, d_Search_sl_area := _, f_Search_sl_drop := f_Search_sl_drop, d_Search_sl_drop := _, f_Search_sl_take := f_Search_sl_take, d_Search_sl_take := _, f_Search_sl_hours := f_Search_sl_hours, d_Search_sl_hours := _, f_Search_sl_alone := f_Search_sl_alone, d_Search_sl_alone := _, f_Search_sl_soonest := f_Search_sl_soonest, d_Search_sl_soonest := _, f_Search_sl_by := f_Search_sl_by, d_Search_sl_by := _, f_Search_sl_plan := f_Search_sl_plan, d_Search_sl_plan := _, f_Search_sl_legs := f_Search_sl_legs, d_Search_sl_legs := _, f_Search_course_of := f_Search_course_of, d_Search_course_of := _, f_Search_sights_of := f_Search_sights_of, d_Search_sights_of := _, f_Search_sl_leg := f_Search_sl_leg, d_Search_sl_leg := _, f_Search_sl_where := f_Search_sl_where, d_Search_sl_where := _, f_Search_sl_when := f_Search_sl_when, d_Search_sl_when := _, f_Search_sl_seen := f_Search_sl_seen, d_Search_sl_seen := _, f_Search_sl_most := f_Search_sl_most, d_Search_sl_most := _, f_Search_sl_look := f_Search_sl_look, d_Search_sl_look := _, f_Search_sl_size := f_Search_sl_size, d_Search_sl_size := _, f_Search_sl_ends := f_Search_sl_ends, d_Search_sl_ends := _, f_Search_sl_back := f_Search_sl_back, d_Search_sl_back := _, f_Search_sl_again := f_Search_sl_again, d_Search_sl_again := _, f_Search_sl_state := f_Search_sl_state, d_Search_sl_state := _, f_answer_change := f_answer_change, d_answer_change := _, f_answer_about_hours := f_answer_about_hours, d_answer_about_hours := _, f_answer_about_legs := f_answer_about_legs, d_answer_about_legs := _, f_answer_about_sizes := f_answer_about_sizes, d_answer_about_sizes := _, f_answer_about_changes := f_answer_about_changes, d_answer_about_changes := _, f_answer_call := f_answer_call, d_answer_call := _, f_answers := fa, d_answers := _ } := {
    cl_Changes := ⟨pg_Changes, hd_Changes, po_Changes, sa_Changes⟩,
    g_Changes := PySem.W.mg_of X G gc_Changes,
    mk_Changes := ⟨mk_Changes, a_Changes_init, i_Changes_init, kc_Changes⟩,
    na_Changes_behind := na_Changes_behind,
    na_Changes_ahead := na_Changes_ahead,
    me_Changes_made := ⟨a_Changes_made, i_Changes_made, k_Changes_made⟩,
    me_Changes_take_back := ⟨a_Changes_take_back, i_Changes_take_back, k_Changes_take_back⟩,
    me_Changes_do_again := ⟨a_Changes_do_again, i_Changes_do_again, k_Changes_do_again⟩,
    cl_Area := ⟨pg_Area, hd_Area, po_Area, sa_Area⟩,
    g_Area := PySem.W.mg_of X G gc_Area,
    mk_Area := ⟨mk_Area, a_Area_init, i_Area_init, kc_Area⟩,
    na_Area_x := na_Area_x,
    na_Area_y := na_Area_y,
    na_Area_wide := na_Area_wide,
    na_Area_high := na_Area_high,
    cl_Craft := ⟨pg_Craft, hd_Craft, po_Craft, sa_Craft⟩,
    g_Craft := PySem.W.mg_of X G gc_Craft,
    mk_Craft := ⟨mk_Craft, a_Craft_init, i_Craft_init, kc_Craft⟩,
    na_Craft_speed := na_Craft_speed,
    na_Craft_see := na_Craft_see,
    na_Craft_hours := na_Craft_hours,
    na_Craft_strip := na_Craft_strip,
    cl_Plan := ⟨pg_Plan, hd_Plan, po_Plan, sa_Plan⟩,
    g_Plan := PySem.W.mg_of X G gc_Plan,
    mk_Plan := ⟨mk_Plan, a_Plan_init, i_Plan_init, kc_Plan⟩,
    na_Plan_way := na_Plan_way,
    na_Plan_hours := na_Plan_hours,
    na_Plan_shares := na_Plan_shares,
    cl_Course := ⟨pg_Course, hd_Course, po_Course, sa_Course⟩,
    g_Course := PySem.W.mg_of X G gc_Course,
    mk_Course := ⟨mk_Course, a_Course_init, i_Course_init, kc_Course⟩,
    na_Course_area := na_Course_area,
    na_Course_craft := na_Course_craft,
    na_Course_way := na_Course_way,
    na_Course_legs := na_Course_legs,
    na_Course_before := na_Course_before,
    na_Course_long := na_Course_long,
    na_Course_pitch := na_Course_pitch,
    me_Course_line_of := ⟨a_Course_line_of, i_Course_line_of, k_Course_line_of⟩,
    me_Course_along_leg := ⟨a_Course_along_leg, i_Course_along_leg, k_Course_along_leg⟩,
    me_Course_place_on := ⟨a_Course_place_on, i_Course_place_on, k_Course_place_on⟩,
    me_Course_gone_by := ⟨a_Course_gone_by, i_Course_gone_by, k_Course_gone_by⟩,
    me_Course_leg_by := ⟨a_Course_leg_by, i_Course_leg_by, k_Course_leg_by⟩,
    me_Course_place_by := ⟨a_Course_place_by, i_Course_place_by, k_Course_place_by⟩,
    me_Course_first_leg_seeing := ⟨a_Course_first_leg_seeing, i_Course_first_leg_seeing, k_Course_first_leg_seeing⟩,
    me_Course_hours_to_see := ⟨a_Course_hours_to_see, i_Course_hours_to_see, k_Course_hours_to_see⟩,
    cl_Search := ⟨pg_Search, hd_Search, po_Search, sa_Search⟩,
    g_Search := PySem.W.mg_of X G gc_Search,
    mk_Search := ⟨mk_Search, a_Search_init, i_Search_init, kc_Search⟩,
    na_Search_changes := na_Search_changes,
    na_Search_area := na_Search_area,
    na_Search_crafts := na_Search_crafts,
    na_Search_plan := na_Search_plan,
    na_Search_hour := na_Search_hour,
    me_Search_standing := ⟨a_Search_standing, i_Search_standing, k_Search_standing⟩,
    me_Search_put := ⟨a_Search_put, i_Search_put, k_Search_put⟩,
    me_Search_change := ⟨a_Search_change, i_Search_change, k_Search_change⟩,
    me_Search_sl_start := ⟨a_Search_sl_start, i_Search_sl_start, k_Search_sl_start⟩,
    me_Search_sl_craft := ⟨a_Search_sl_craft, i_Search_sl_craft, k_Search_sl_craft⟩,
    me_Search_sl_area := ⟨a_Search_sl_area, i_Search_sl_area, k_Search_sl_area⟩,
    me_Search_sl_drop := ⟨a_Search_sl_drop, i_Search_sl_drop, k_Search_sl_drop⟩,
    me_Search_sl_take := ⟨a_Search_sl_take, i_Search_sl_take, k_Search_sl_take⟩,
    me_Search_sl_hours := ⟨a_Search_sl_hours, i_Search_sl_hours, k_Search_sl_hours⟩,
    me_Search_sl_alone := ⟨a_Search_sl_alone, i_Search_sl_alone, k_Search_sl_alone⟩,
    me_Search_sl_soonest := ⟨a_Search_sl_soonest, i_Search_sl_soonest, k_Search_sl_soonest⟩,
    me_Search_sl_by := ⟨a_Search_sl_by, i_Search_sl_by, k_Search_sl_by⟩,
    me_Search_sl_plan := ⟨a_Search_sl_plan, i_Search_sl_plan, k_Search_sl_plan⟩,
    me_Search_sl_legs := ⟨a_Search_sl_legs, i_Search_sl_legs, k_Search_sl_legs⟩,
    me_Search_course_of := ⟨a_Search_course_of, i_Search_course_of, k_Search_course_of⟩,
    me_Search_sights_of := ⟨a_Search_sights_of, i_Search_sights_of, k_Search_sights_of⟩,
    me_Search_sl_leg := ⟨a_Search_sl_leg, i_Search_sl_leg, k_Search_sl_leg⟩,
    me_Search_sl_where := ⟨a_Search_sl_where, i_Search_sl_where, k_Search_sl_where⟩,
    me_Search_sl_when := ⟨a_Search_sl_when, i_Search_sl_when, k_Search_sl_when⟩,
    me_Search_sl_seen := ⟨a_Search_sl_seen, i_Search_sl_seen, k_Search_sl_seen⟩,
    me_Search_sl_most := ⟨a_Search_sl_most, i_Search_sl_most, k_Search_sl_most⟩,
    me_Search_sl_look := ⟨a_Search_sl_look, i_Search_sl_look, k_Search_sl_look⟩,
    me_Search_sl_size := ⟨a_Search_sl_size, i_Search_sl_size, k_Search_sl_size⟩,
    me_Search_sl_ends := ⟨a_Search_sl_ends, i_Search_sl_ends, k_Search_sl_ends⟩,
    me_Search_sl_back := ⟨a_Search_sl_back, i_Search_sl_back, k_Search_sl_back⟩,
    me_Search_sl_again := ⟨a_Search_sl_again, i_Search_sl_again, k_Search_sl_again⟩,
    me_Search_sl_state := ⟨a_Search_sl_state, i_Search_sl_state, k_Search_sl_state⟩,
    k_MOST_CHANGES := ⟨_, PySem.W.mg_of X G kk_MOST_CHANGES⟩,
    k_MOST_HOURS := ⟨_, PySem.W.mg_of X G kk_MOST_HOURS⟩,
    k_NO_SUCH_CRAFT := ⟨_, PySem.W.mg_of X G kk_NO_SUCH_CRAFT⟩,
    k_NO_SUCH_LEG := ⟨_, PySem.W.mg_of X G kk_NO_SUCH_LEG⟩,
    k_NO_SUCH_CHANGE := ⟨_, PySem.W.mg_of X G kk_NO_SUCH_CHANGE⟩,
    k_NO_PLAN := ⟨_, PySem.W.mg_of X G kk_NO_PLAN⟩,
    k_PLAN_STANDS := ⟨_, PySem.W.mg_of X G kk_PLAN_STANDS⟩,
    k_PLAN_TAKEN := ⟨_, PySem.W.mg_of X G kk_PLAN_TAKEN⟩,
    k_NOT_AS_TOLD := ⟨_, PySem.W.mg_of X G kk_NOT_AS_TOLD⟩,
    k_NO_MORE_CRAFT := ⟨_, PySem.W.mg_of X G kk_NO_MORE_CRAFT⟩,
    k_CANNOT_BE_DONE := ⟨_, PySem.W.mg_of X G kk_CANNOT_BE_DONE⟩,
    k_NO_LEGS := ⟨_, PySem.W.mg_of X G kk_NO_LEGS⟩,
    k_BEYOND_PLAN := ⟨_, PySem.W.mg_of X G kk_BEYOND_PLAN⟩,
    k_FARTHEST_PLACE := ⟨_, PySem.W.mg_of X G kk_FARTHEST_PLACE⟩,
    k_LONGEST_SIDE := ⟨_, PySem.W.mg_of X G kk_LONGEST_SIDE⟩,
    k_MOST_CRAFT := ⟨_, PySem.W.mg_of X G kk_MOST_CRAFT⟩,
    k_MOST_SPEED := ⟨_, PySem.W.mg_of X G kk_MOST_SPEED⟩,
    k_MOST_SEE := ⟨_, PySem.W.mg_of X G kk_MOST_SEE⟩,
    g_SIZES := PySem.W.mg_of X G ga_SIZES,
    q_SIZES := fun H => .inr ⟨_, _, _, ql_SIZES, rfl, rfl, (by show 22 ≤ sizeLine; decide), .cons ⟨_, rfl⟩ (.cons ⟨_, rfl⟩ (.cons ⟨_, rfl⟩ (.cons ⟨_, rfl⟩ (.cons ⟨_, rfl⟩ (.cons ⟨_, rfl⟩ (.cons ⟨_, rfl⟩ (.cons ⟨_, rfl⟩ (.cons ⟨_, rfl⟩ (.cons ⟨_, rfl⟩ (.cons ⟨_, rfl⟩ (.cons ⟨_, rfl⟩ (.cons ⟨_, rfl⟩ (.cons ⟨_, rfl⟩ (.cons ⟨_, rfl⟩ (.cons ⟨_, rfl⟩ (.cons ⟨_, rfl⟩ (.cons ⟨_, rfl⟩ (.cons ⟨_, rfl⟩ (.cons ⟨_, rfl⟩ (.cons ⟨_, rfl⟩ (.cons ⟨_, rfl⟩ (.nil))))))))))))))))))))))⟩,
    b_abs := PySem.W.mg_none_of X G nb_abs,
    b_enumerate := PySem.W.mg_none_of X G nb_enumerate,
    b_len := PySem.W.mg_none_of X G nb_len,
    b_max := PySem.W.mg_none_of X G nb_max,
    b_min := PySem.W.mg_none_of X G nb_min,
    b_range := PySem.W.mg_none_of X G nb_range,
    b_sum := PySem.W.mg_none_of X G nb_sum,
    F_Changes_init := F_Changes_init,
    B_Changes_init := F_Changes_init.binds (ps := p_Changes_init) fun _ _ _ _ _ _ us hl => match us, hl with | [_], _ => rfl,
    F_Changes_made := F_Changes_made,
    B_Changes_made := F_Changes_made.binds (ps := p_Changes_made) fun _ _ _ _ _ _ us hl => match us, hl with | [_, _], _ => rfl,
    F_Changes_take_back := F_Changes_take_back,
    B_Changes_take_back := F_Changes_take_back.binds (ps := p_Changes_take_back) fun _ _ _ _ _ _ us hl => match us, hl with | [_, _], _ => rfl,
    F_Changes_do_again := F_Changes_do_again,
    B_Changes_do_again := F_Changes_do_again.binds (ps := p_Changes_do_again) fun _ _ _ _ _ _ us hl => match us, hl with | [_, _], _ => rfl,
    F_Area_init := F_Area_init,
    B_Area_init := F_Area_init.binds (ps := p_Area_init) fun _ _ _ _ _ _ us hl => match us, hl with | [_, _, _, _, _], _ => rfl,
    F_Craft_init := F_Craft_init,
    B_Craft_init := F_Craft_init.binds (ps := p_Craft_init) fun _ _ _ _ _ _ us hl => match us, hl with | [_, _, _, _], _ => rfl,
    F_Plan_init := F_Plan_init,
    B_Plan_init := F_Plan_init.binds (ps := p_Plan_init) fun _ _ _ _ _ _ us hl => match us, hl with | [_, _, _, _], _ => rfl,
    F_leg_length := F_leg_length,
    B_leg_length := F_leg_length.binds (ps := p_leg_length) fun _ _ _ _ _ _ us hl => match us, hl with | [_, _], _ => rfl,
    g_leg_length := PySem.W.mg_of X G a_leg_length,
    F_places_across := F_places_across,
    B_places_across := F_places_across.binds (ps := p_places_across) fun _ _ _ _ _ _ us hl => match us, hl with | [_, _], _ => rfl,
    g_places_across := PySem.W.mg_of X G a_places_across,
    F_distance_of_legs := F_distance_of_legs,
    B_distance_of_legs := F_distance_of_legs.binds (ps := p_distance_of_legs) fun _ _ _ _ _ _ us hl => match us, hl with | [_, _, _, _], _ => rfl,
    g_distance_of_legs := PySem.W.mg_of X G a_distance_of_legs,
    F_most_legs := F_most_legs,
    B_most_legs := F_most_legs.binds (ps := p_most_legs) fun _ _ _ _ _ _ us hl => match us, hl with | [_, _, _, _], _ => rfl,
    g_most_legs := PySem.W.mg_of X G a_most_legs,
    F_places_seen := F_places_seen,
    B_places_seen := F_places_seen.binds (ps := p_places_seen) fun _ _ _ _ _ _ us hl => match us, hl with | [_, _, _, _], _ => rfl,
    g_places_seen := PySem.W.mg_of X G a_places_seen,
    F_is_done := F_is_done,
    B_is_done := F_is_done.binds (ps := p_is_done) fun _ _ _ _ _ _ us hl => match us, hl with | [_, _, _, _], _ => rfl,
    g_is_done := PySem.W.mg_of X G a_is_done,
    F_least_hours := F_least_hours,
    B_least_hours := F_least_hours.binds (ps := p_least_hours) fun _ _ _ _ _ _ us hl => match us, hl with | [_, _, _], _ => rfl,
    g_least_hours := PySem.W.mg_of X G a_least_hours,
    F_legs_needed := F_legs_needed,
    B_legs_needed := F_legs_needed.binds (ps := p_legs_needed) fun _ _ _ _ _ _ us hl => match us, hl with | [_, _], _ => rfl,
    g_legs_needed := PySem.W.mg_of X G a_legs_needed,
    F_shared_out := F_shared_out,
    B_shared_out := F_shared_out.binds (ps := p_shared_out) fun _ _ _ _ _ _ us hl => match us, hl with | [_, _, _, _], _ => rfl,
    g_shared_out := PySem.W.mg_of X G a_shared_out,
    F_best_plan := F_best_plan,
    B_best_plan := F_best_plan.binds (ps := p_best_plan) fun _ _ _ _ _ _ us hl => match us, hl with | [_, _], _ => rfl,
    g_best_plan := PySem.W.mg_of X G a_best_plan,
    F_places_before := F_places_before,
    B_places_before := F_places_before.binds (ps := p_places_before) fun _ _ _ _ _ _ us hl => match us, hl with | [_, _, _], _ => rfl,
    g_places_before := PySem.W.mg_of X G a_places_before,
    F_is_within := F_is_within,
    B_is_within := F_is_within.binds (ps := p_is_within) fun _ _ _ _ _ _ us hl => match us, hl with | [_, _, _], _ => rfl,
    g_is_within := PySem.W.mg_of X G a_is_within,
    F_legs_done := F_legs_done,
    B_legs_done := F_legs_done.binds (ps := p_legs_done) fun _ _ _ _ _ _ us hl => match us, hl with | [_, _, _, _, _], _ => rfl,
    g_legs_done := PySem.W.mg_of X G a_legs_done,
    F_Course_init := F_Course_init,
    B_Course_init := F_Course_init.binds (ps := p_Course_init) fun _ _ _ _ _ _ us hl => match us, hl with | [_, _, _, _, _], _ => rfl,
    F_Course_line_of := F_Course_line_of,
    B_Course_line_of := F_Course_line_of.binds (ps := p_Course_line_of) fun _ _ _ _ _ _ us hl => match us, hl with | [_, _], _ => rfl,
    F_Course_along_leg := F_Course_along_leg,
    B_Course_along_leg := F_Course_along_leg.binds (ps := p_Course_along_leg) fun _ _ _ _ _ _ us hl => match us, hl with | [_, _, _], _ => rfl,
    F_Course_place_on := F_Course_place_on,
    B_Course_place_on := F_Course_place_on.binds (ps := p_Course_place_on) fun _ _ _ _ _ _ us hl => match us, hl with | [_, _, _], _ => rfl,
    F_Course_gone_by := F_Course_gone_by,
    B_Course_gone_by := F_Course_gone_by.binds (ps := p_Course_gone_by) fun _ _ _ _ _ _ us hl => match us, hl with | [_, _], _ => rfl,
    F_Course_leg_by := F_Course_leg_by,
    B_Course_leg_by := F_Course_leg_by.binds (ps := p_Course_leg_by) fun _ _ _ _ _ _ us hl => match us, hl with | [_, _], _ => rfl,
    F_Course_place_by := F_Course_place_by,
    B_Course_place_by := F_Course_place_by.binds (ps := p_Course_place_by) fun _ _ _ _ _ _ us hl => match us, hl with | [_, _], _ => rfl,
    F_Course_first_leg_seeing := F_Course_first_leg_seeing,
    B_Course_first_leg_seeing := F_Course_first_leg_seeing.binds (ps := p_Course_first_leg_seeing) fun _ _ _ _ _ _ us hl => match us, hl with | [_, _], _ => rfl,
    F_Course_hours_to_see := F_Course_hours_to_see,
    B_Course_hours_to_see := F_Course_hours_to_see.binds (ps := p_Course_hours_to_see) fun _ _ _ _ _ _ us hl => match us, hl with | [_, _, _], _ => rfl,
    F_is_area := F_is_area,
    B_is_area := F_is_area.binds (ps := p_is_area) fun _ _ _ _ _ _ us hl => match us, hl with | [_, _, _, _], _ => rfl,
    g_is_area := PySem.W.mg_of X G a_is_area,
    F_is_craft := F_is_craft,
    B_is_craft := F_is_craft.binds (ps := p_is_craft) fun _ _ _ _ _ _ us hl => match us, hl with | [_, _, _], _ => rfl,
    g_is_craft := PySem.W.mg_of X G a_is_craft,
    F_way_sign := F_way_sign,
    B_way_sign := F_way_sign.binds (ps := p_way_sign) fun _ _ _ _ _ _ us hl => match us, hl with | [_], _ => rfl,
    g_way_sign := PySem.W.mg_of X G a_way_sign,
    F_Search_init := F_Search_init,
    B_Search_init := F_Search_init.binds (ps := p_Search_init) fun _ _ _ _ _ _ us hl => match us, hl with | [_], _ => rfl,
    F_Search_standing := F_Search_standing,
    B_Search_standing := F_Search_standing.binds (ps := p_Search_standing) fun _ _ _ _ _ _ us hl => match us, hl with | [_], _ => rfl,
    F_Search_put := F_Search_put,
    B_Search_put := F_Search_put.binds (ps := p_Search_put) fun _ _ _ _ _ _ us hl => match us, hl with | [_, _], _ => rfl,
    F_Search_change := F_Search_change,
    B_Search_change := F_Search_change.binds (ps := p_Search_change) fun _ _ _ _ _ _ us hl => match us, hl with | [_, _, _, _, _], _ => rfl,
    F_Search_sl_start := F_Search_sl_start,
    B_Search_sl_start := F_Search_sl_start.binds (ps := p_Search_sl_start) fun _ _ _ _ _ _ us hl => match us, hl with | [_, _, _, _, _], _ => rfl,
    F_Search_sl_craft := F_Search_sl_craft,
    B_Search_sl_craft := F_Search_sl_craft.binds (ps := p_Search_sl_craft) fun _ _ _ _ _ _ us hl => match us, hl with | [_, _, _, _], _ => rfl,
    F_Search_sl_area := F_Search_sl_area,
    B_Search_sl_area := F_Search_sl_area.binds (ps := p_Search_sl_area) fun _ _ _ _ _ _ us hl => match us, hl with | [_, _, _, _, _], _ => rfl,
    F_Search_sl_drop := F_Search_sl_drop,
    B_Search_sl_drop := F_Search_sl_drop.binds (ps := p_Search_sl_drop) fun _ _ _ _ _ _ us hl => match us, hl with | [_, _], _ => rfl,
    F_Search_sl_take := F_Search_sl_take,
    B_Search_sl_take := F_Search_sl_take.binds (ps := p_Search_sl_take) fun _ _ _ _ _ _ us hl => match us, hl with | [_], _ => rfl,
    F_Search_sl_hours := F_Search_sl_hours,
    B_Search_sl_hours := F_Search_sl_hours.binds (ps := p_Search_sl_hours) fun _ _ _ _ _ _ us hl => match us, hl with | [_, _], _ => rfl,
    F_Search_sl_alone := F_Search_sl_alone,
    B_Search_sl_alone := F_Search_sl_alone.binds (ps := p_Search_sl_alone) fun _ _ _ _ _ _ us hl => match us, hl with | [_, _, _], _ => rfl,
    F_Search_sl_soonest := F_Search_sl_soonest,
    B_Search_sl_soonest := F_Search_sl_soonest.binds (ps := p_Search_sl_soonest) fun _ _ _ _ _ _ us hl => match us, hl with | [_], _ => rfl,
    F_Search_sl_by := F_Search_sl_by,
    B_Search_sl_by := F_Search_sl_by.binds (ps := p_Search_sl_by) fun _ _ _ _ _ _ us hl => match us, hl with | [_, _, _], _ => rfl,
    F_Search_sl_plan := F_Search_sl_plan,
    B_Search_sl_plan := F_Search_sl_plan.binds (ps := p_Search_sl_plan) fun _ _ _ _ _ _ us hl => match us, hl with | [_], _ => rfl,
    F_Search_sl_legs := F_Search_sl_legs,
    B_Search_sl_legs := F_Search_sl_legs.binds (ps := p_Search_sl_legs) fun _ _ _ _ _ _ us hl => match us, hl with | [_, _], _ => rfl,
    F_Search_course_of := F_Search_course_of,
    B_Search_course_of := F_Search_course_of.binds (ps := p_Search_course_of) fun _ _ _ _ _ _ us hl => match us, hl with | [_, _], _ => rfl,
    F_Search_sights_of := F_Search_sights_of,
    B_Search_sights_of := F_Search_sights_of.binds (ps := p_Search_sights_of) fun _ _ _ _ _ _ us hl => match us, hl with | [_, _, _], _ => rfl,
    F_Search_sl_leg := F_Search_sl_leg,
    B_Search_sl_leg := F_Search_sl_leg.binds (ps := p_Search_sl_leg) fun _ _ _ _ _ _ us hl => match us, hl with | [_, _, _], _ => rfl,
    F_Search_sl_where := F_Search_sl_where,
    B_Search_sl_where := F_Search_sl_where.binds (ps := p_Search_sl_where) fun _ _ _ _ _ _ us hl => match us, hl with | [_, _], _ => rfl,
    F_Search_sl_when := F_Search_sl_when,
    B_Search_sl_when := F_Search_sl_when.binds (ps := p_Search_sl_when) fun _ _ _ _ _ _ us hl => match us, hl with | [_, _, _], _ => rfl,
    F_Search_sl_seen := F_Search_sl_seen,
    B_Search_sl_seen := F_Search_sl_seen.binds (ps := p_Search_sl_seen) fun _ _ _ _ _ _ us hl => match us, hl with | [_, _, _], _ => rfl,
    F_Search_sl_most := F_Search_sl_most,
    B_Search_sl_most := F_Search_sl_most.binds (ps := p_Search_sl_most) fun _ _ _ _ _ _ us hl => match us, hl with | [_, _, _, _], _ => rfl,
    F_Search_sl_look := F_Search_sl_look,
    B_Search_sl_look := F_Search_sl_look.binds (ps := p_Search_sl_look) fun _ _ _ _ _ _ us hl => match us, hl with | [_, _], _ => rfl,
    F_Search_sl_size := F_Search_sl_size,
    B_Search_sl_size := F_Search_sl_size.binds (ps := p_Search_sl_size) fun _ _ _ _ _ _ us hl => match us, hl with | [_], _ => rfl,
    F_Search_sl_ends := F_Search_sl_ends,
    B_Search_sl_ends := F_Search_sl_ends.binds (ps := p_Search_sl_ends) fun _ _ _ _ _ _ us hl => match us, hl with | [_], _ => rfl,
    F_Search_sl_back := F_Search_sl_back,
    B_Search_sl_back := F_Search_sl_back.binds (ps := p_Search_sl_back) fun _ _ _ _ _ _ us hl => match us, hl with | [_], _ => rfl,
    F_Search_sl_again := F_Search_sl_again,
    B_Search_sl_again := F_Search_sl_again.binds (ps := p_Search_sl_again) fun _ _ _ _ _ _ us hl => match us, hl with | [_], _ => rfl,
    F_Search_sl_state := F_Search_sl_state,
    B_Search_sl_state := F_Search_sl_state.binds (ps := p_Search_sl_state) fun _ _ _ _ _ _ us hl => match us, hl with | [_], _ => rfl,
    F_answer_change := F_answer_change,
    B_answer_change := F_answer_change.binds (ps := p_answer_change) fun _ _ _ _ _ _ us hl => match us, hl with | [_, _, _], _ => rfl,
    g_answer_change := PySem.W.mg_of X G a_answer_change,
    F_answer_about_hours := F_answer_about_hours,
    B_answer_about_hours := F_answer_about_hours.binds (ps := p_answer_about_hours) fun _ _ _ _ _ _ us hl => match us, hl with | [_, _, _], _ => rfl,
    g_answer_about_hours := PySem.W.mg_of X G a_answer_about_hours,
    F_answer_about_legs := F_answer_about_legs,
    B_answer_about_legs := F_answer_about_legs.binds (ps := p_answer_about_legs) fun _ _ _ _ _ _ us hl => match us, hl with | [_, _, _], _ => rfl,
    g_answer_about_legs := PySem.W.mg_of X G a_answer_about_legs,
    F_answer_about_sizes := F_answer_about_sizes,
    B_answer_about_sizes := F_answer_about_sizes.binds (ps := p_answer_about_sizes) fun _ _ _ _ _ _ us hl => match us, hl with | [_, _, _], _ => rfl,
    g_answer_about_sizes := PySem.W.mg_of X G a_answer_about_sizes,
    F_answer_about_changes := F_answer_about_changes,
    B_answer_about_changes := F_answer_about_changes.binds (ps := p_answer_about_changes) fun _ _ _ _ _ _ us hl => match us, hl with | [_, _], _ => rfl,
    g_answer_about_changes := PySem.W.mg_of X G a_answer_about_changes,
    F_answer_call := F_answer_call,
    B_answer_call := F_answer_call.binds (ps := p_answer_call) fun _ _ _ _ _ _ us hl => match us, hl with | [_, _, _], _ => rfl,
    g_answer_call := PySem.W.mg_of X G a_answer_call,
    F_answers := F_answers,
    B_answers := F_answers.binds (ps := p_answers) fun _ _ _ _ _ _ us hl => match us, hl with | [_], _ => rfl,
    g_answers := PySem.W.mg_of X G a_answers }
  exact ⟨_, fun s us hu => match us, hu with | [_], _ => .of_eq rfl, fun base _ _ => ok_answers T⟩
end
end SL

end
def PySem.W.Fast.tw10397375598889497787 : Unit := ()
def PySem.W.Fast.tw1691161077128530172 : Unit := ()
def PySem.W.Fast.tw1569612182000418480 : Unit := ()
def PySem.W.Fast.tw14054833749289563640 : Unit := ()
def PySem.W.Fast.tw3339950502863549035 : Unit := ()
def PySem.W.Fast.tw10379391113117359902 : Unit := ()
def PySem.W.Fast.tw9300635869235335980 : Unit := ()
def PySem.W.Fast.tw11724159851221411671 : Unit := ()
def PySem.W.Fast.tw13717068016944855710 : Unit := ()
def PySem.W.Fast.tw4228146969234575917 : Unit := ()
def PySem.W.Fast.tw16336359930415983398 : Unit := ()
def PySem.W.Fast.tw16747877638362515523 : Unit := ()
def PySem.W.Fast.tw14293188491361588584 : Unit := ()
open PySem PySem.W PyProof.Rows
set_option Elab.async false
set_option maxRecDepth 100000 in
set_option maxHeartbeats 0 in
theorem PySem.Challenge.cw_searchlegs_s01_answers_holds : PySem.Challenge.rw_searchlegs_s01_answers.Holds := by
  w_on; k_headS; (case hw => exact ⟨[.list [.int 0, .int 0, .int 0, .int 1, .int 1]], by decide +kernel, by decide +kernel⟩)
  k_fillS
  refine L2.walk_specK (r := PySem.Challenge.rw_searchlegs_s01_answers) (k := 10) (CX := L2.CX0) (ps := SL.p_answers) (sp := SL.spAns) (by decide +kernel) rfl rfl ⟨rfl, by decide, by decide⟩ (fun w h Y => PySem.W.kIn_of Y) ?F ?S (fun _ _ _ _ z => z)
  case F =>
    intro w mg fa h Y KX G hmg
    refine' SL.all_mk KX G hmg ?gc_Changes ?gc_Area ?gc_Craft ?gc_Plan ?gc_Course ?gc_Search ?a_Changes_init ?i_Changes_init ?l_Changes_init ?c_Changes_init_ ?k_Changes_init ?a_Changes_made ?i_Changes_made ?l_Changes_made ?c_Changes_made_ ?k_Changes_made ?a_Changes_take_back ?i_Changes_take_back ?l_Changes_take_back ?c_Changes_take_back_ ?k_Changes_take_back ?a_Changes_do_again ?i_Changes_do_again ?l_Changes_do_again ?c_Changes_do_again_ ?k_Changes_do_again ?a_Area_init ?i_Area_init ?l_Area_init ?c_Area_init_ ?k_Area_init ?a_Craft_init ?i_Craft_init ?l_Craft_init ?c_Craft_init_ ?k_Craft_init ?a_Plan_init ?i_Plan_init ?l_Plan_init ?c_Plan_init_ ?k_Plan_init ?a_leg_length ?l_leg_length ?c_leg_length_ ?k_leg_length ?a_places_across ?l_places_across ?c_places_across_ ?k_places_across ?a_distance_of_legs ?l_distance_of_legs ?c_distance_of_legs_ ?k_distance_of_legs ?a_most_legs ?l_most_legs ?c_most_legs_ ?k_most_legs ?a_places_seen ?l_places_seen ?c_places_seen_ ?k_places_seen ?a_is_done ?l_is_done ?c_is_done_ ?k_is_done ?a_least_hours ?l_least_hours ?c_least_hours_ ?k_least_hours ?a_legs_needed ?l_legs_needed ?c_legs_needed_ ?k_legs_needed ?a_shared_out ?l_shared_out ?c_shared_out_ ?k_shared_out ?a_best_plan ?l_best_plan ?c_best_plan_ ?k_best_plan ?a_places_before ?l_places_before ?c_places_before_ ?k_places_before ?a_is_within ?l_is_within ?c_is_within_ ?k_is_within ?a_legs_done ?l_legs_done ?c_legs_done_ ?k_legs_done ?a_Course_init ?i_Course_init ?l_Course_init ?c_Course_init_ ?k_Course_init ?a_Course_line_of ?i_Course_line_of ?l_Course_line_of ?c_Course_line_of_ ?k_Course_line_of ?a_Course_along_leg ?i_Course_along_leg ?l_Course_along_leg ?c_Course_along_leg_ ?k_Course_along_leg ?a_Course_place_on ?i_Course_place_on ?l_Course_place_on ?c_Course_place_on_ ?k_Course_place_on ?a_Course_gone_by ?i_Course_gone_by ?l_Course_gone_by ?c_Course_gone_by_ ?k_Course_gone_by ?a_Course_leg_by ?i_Course_leg_by ?l_Course_leg_by ?c_Course_leg_by_ ?k_Course_leg_by ?a_Course_place_by ?i_Course_place_by ?l_Course_place_by ?c_Course_place_by_ ?k_Course_place_by ?a_Course_first_leg_seeing ?i_Course_first_leg_seeing ?l_Course_first_leg_seeing ?c_Course_first_leg_seeing_ ?k_Course_first_leg_seeing ?a_Course_hours_to_see ?i_Course_hours_to_see ?l_Course_hours_to_see ?c_Course_hours_to_see_ ?k_Course_hours_to_see ?a_is_area ?l_is_area ?c_is_area_ ?k_is_area ?a_is_craft ?l_is_craft ?c_is_craft_ ?k_is_craft ?a_way_sign ?l_way_sign ?c_way_sign_ ?k_way_sign ?a_Search_init ?i_Search_init ?l_Search_init ?c_Search_init_ ?k_Search_init ?a_Search_standing ?i_Search_standing ?l_Search_standing ?c_Search_standing_ ?k_Search_standing ?a_Search_put ?i_Search_put ?l_Search_put ?c_Search_put_ ?k_Search_put ?a_Search_change ?i_Search_change ?l_Search_change ?c_Search_change_ ?k_Search_change ?a_Search_sl_start ?i_Search_sl_start ?l_Search_sl_start ?c_Search_sl_start_ ?k_Search_sl_start ?a_Search_sl_craft ?i_Search_sl_craft ?l_Search_sl_craft ?c_Search_sl_craft_ ?k_Search_sl_craft ?a_Search_sl_area ?i_Search_sl_area ?l_Search_sl_area ?c_Search_sl_area_ ?k_Search_sl_area ?a_Search_sl_drop ?i_Search_sl_drop ?l_Search_sl_drop ?c_Search_sl_drop_ ?k_Search_sl_drop ?a_Search_sl_take ?i_Search_sl_take ?l_Search_sl_take ?c_Search_sl_take_ ?k_Search_sl_take ?a_Search_sl_hours ?i_Search_sl_hours ?l_Search_sl_hours ?c_Search_sl_hours_ ?k_Search_sl_hours ?a_Search_sl_alone ?i_Search_sl_alone ?l_Search_sl_alone ?c_Search_sl_alone_ ?k_Search_sl_alone ?a_Search_sl_soonest ?i_Search_sl_soonest ?l_Search_sl_soonest ?c_Search_sl_soonest_ ?k_Search_sl_soonest ?a_Search_sl_by ?i_Search_sl_by ?l_Search_sl_by ?c_Search_sl_by_ ?k_Search_sl_by ?a_Search_sl_plan ?i_Search_sl_plan ?l_Search_sl_plan ?c_Search_sl_plan_ ?k_Search_sl_plan ?a_Search_sl_legs ?i_Search_sl_legs ?l_Search_sl_legs ?c_Search_sl_legs_ ?k_Search_sl_legs ?a_Search_course_of ?i_Search_course_of ?l_Search_course_of ?c_Search_course_of_ ?k_Search_course_of ?a_Search_sights_of ?i_Search_sights_of ?l_Search_sights_of ?c_Search_sights_of_ ?k_Search_sights_of ?a_Search_sl_leg ?i_Search_sl_leg ?l_Search_sl_leg ?c_Search_sl_leg_ ?k_Search_sl_leg ?a_Search_sl_where ?i_Search_sl_where ?l_Search_sl_where ?c_Search_sl_where_ ?k_Search_sl_where ?a_Search_sl_when ?i_Search_sl_when ?l_Search_sl_when ?c_Search_sl_when_ ?k_Search_sl_when ?a_Search_sl_seen ?i_Search_sl_seen ?l_Search_sl_seen ?c_Search_sl_seen_ ?k_Search_sl_seen ?a_Search_sl_most ?i_Search_sl_most ?l_Search_sl_most ?c_Search_sl_most_ ?k_Search_sl_most ?a_Search_sl_look ?i_Search_sl_look ?l_Search_sl_look ?c_Search_sl_look_ ?k_Search_sl_look ?a_Search_sl_size ?i_Search_sl_size ?l_Search_sl_size ?c_Search_sl_size_ ?k_Search_sl_size ?a_Search_sl_ends ?i_Search_sl_ends ?l_Search_sl_ends ?c_Search_sl_ends_ ?k_Search_sl_ends ?a_Search_sl_back ?i_Search_sl_back ?l_Search_sl_back ?c_Search_sl_back_ ?k_Search_sl_back ?a_Search_sl_again ?i_Search_sl_again ?l_Search_sl_again ?c_Search_sl_again_ ?k_Search_sl_again ?a_Search_sl_state ?i_Search_sl_state ?l_Search_sl_state ?c_Search_sl_state_ ?k_Search_sl_state ?a_answer_change ?l_answer_change ?c_answer_change_ ?k_answer_change ?a_answer_about_hours ?l_answer_about_hours ?c_answer_about_hours_ ?k_answer_about_hours ?a_answer_about_legs ?l_answer_about_legs ?c_answer_about_legs_ ?k_answer_about_legs ?a_answer_about_sizes ?l_answer_about_sizes ?c_answer_about_sizes_ ?k_answer_about_sizes ?a_answer_about_changes ?l_answer_about_changes ?c_answer_about_changes_ ?k_answer_about_changes ?a_answer_call ?l_answer_call ?c_answer_call_ ?k_answer_call ?a_answers ?l_answers ?c_answers_ ?k_answers ?pg_Changes ?hd_Changes ?po_Changes ?sa_Changes ?mk_Changes ?kc_Changes ?na_Changes_behind ?na_Changes_ahead ?pg_Area ?hd_Area ?po_Area ?sa_Area ?mk_Area ?kc_Area ?na_Area_x ?na_Area_y ?na_Area_wide ?na_Area_high ?pg_Craft ?hd_Craft ?po_Craft ?sa_Craft ?mk_Craft ?kc_Craft ?na_Craft_speed ?na_Craft_see ?na_Craft_hours ?na_Craft_strip ?pg_Plan ?hd_Plan ?po_Plan ?sa_Plan ?mk_Plan ?kc_Plan ?na_Plan_way ?na_Plan_hours ?na_Plan_shares ?pg_Course ?hd_Course ?po_Course ?sa_Course ?mk_Course ?kc_Course ?na_Course_area ?na_Course_craft ?na_Course_way ?na_Course_legs ?na_Course_before ?na_Course_long ?na_Course_pitch ?pg_Search ?hd_Search ?po_Search ?sa_Search ?mk_Search ?kc_Search ?na_Search_changes ?na_Search_area ?na_Search_crafts ?na_Search_plan ?na_Search_hour ?kk_MOST_CHANGES ?kk_MOST_HOURS ?kk_NO_SUCH_CRAFT ?kk_NO_SUCH_LEG ?kk_NO_SUCH_CHANGE ?kk_NO_PLAN ?kk_PLAN_STANDS ?kk_PLAN_TAKEN ?kk_NOT_AS_TOLD ?kk_NO_MORE_CRAFT ?kk_CANNOT_BE_DONE ?kk_NO_LEGS ?kk_BEYOND_PLAN ?kk_FARTHEST_PLACE ?kk_LONGEST_SIDE ?kk_MOST_CRAFT ?kk_MOST_SPEED ?kk_MOST_SEE ?ga_SIZES ?ql_SIZES ?nb_abs ?nb_enumerate ?nb_len ?nb_max ?nb_min ?nb_range ?nb_sum
    (case gc_Changes => k_is)
    (case gc_Area => k_is)
    (case gc_Craft => k_is)
    (case gc_Plan => k_is)
    (case gc_Course => k_is)
    (case gc_Search => k_is)
    (case a_Changes_init => k_is)
    (case i_Changes_init => k_is)
    (case l_Changes_init => k_is)
    (case c_Changes_init_ => k_is)
    (case k_Changes_init => k_is)
    (case a_Changes_made => k_is)
    (case i_Changes_made => k_is)
    (case l_Changes_made => k_is)
    (case c_Changes_made_ => k_is)
    (case k_Changes_made => k_is)
    (case a_Changes_take_back => k_is)
    (case i_Changes_take_back => k_is)
    (case l_Changes_take_back => k_is)
    (case c_Changes_take_back_ => k_is)
    (case k_Changes_take_back => k_is)
    (case a_Changes_do_again => k_is)
    (case i_Changes_do_again => k_is)
    (case l_Changes_do_again => k_is)
    (case c_Changes_do_again_ => k_is)
    (case k_Changes_do_again => k_is)
    (case a_Area_init => k_is)
    (case i_Area_init => k_is)
    (case l_Area_init => k_is)
    (case c_Area_init_ => k_is)
    (case k_Area_init => k_is)
    (case a_Craft_init => k_is)
    (case i_Craft_init => k_is)
    (case l_Craft_init => k_is)
    (case c_Craft_init_ => k_is)
    (case k_Craft_init => k_is)
    (case a_Plan_init => k_is)
    (case i_Plan_init => k_is)
    (case l_Plan_init => k_is)
    (case c_Plan_init_ => k_is)
    (case k_Plan_init => k_is)
    (case a_leg_length => k_is)
    (case l_leg_length => k_is)
    (case c_leg_length_ => k_is)
    (case k_leg_length => k_is)
    (case a_places_across => k_is)
    (case l_places_across => k_is)
    (case c_places_across_ => k_is)
    (case k_places_across => k_is)
    (case a_distance_of_legs => k_is)
    (case l_distance_of_legs => k_is)
    (case c_distance_of_legs_ => k_is)
    (case k_distance_of_legs => k_is)
    (case a_most_legs => k_is)
    (case l_most_legs => k_is)
    (case c_most_legs_ => k_is)
    (case k_most_legs => k_is)
    (case a_places_seen => k_is)
    (case l_places_seen => k_is)
    (case c_places_seen_ => k_is)
    (case k_places_seen => k_is)
    (case a_is_done => k_is)
    (case l_is_done => k_is)
    (case c_is_done_ => k_is)
    (case k_is_done => k_is)
    (case a_least_hours => k_is)
    (case l_least_hours => k_is)
    (case c_least_hours_ => k_is)
    (case k_least_hours => k_is)
    (case a_legs_needed => k_is)
    (case l_legs_needed => k_is)
    (case c_legs_needed_ => k_is)
    (case k_legs_needed => k_is)
    (case a_shared_out => k_is)
    (case l_shared_out => k_is)
    (case c_shared_out_ => k_is)
    (case k_shared_out => k_is)
    (case a_best_plan => k_is)
    (case l_best_plan => k_is)
    (case c_best_plan_ => k_is)
    (case k_best_plan => k_is)
    (case a_places_before => k_is)
    (case l_places_before => k_is)
    (case c_places_before_ => k_is)
    (case k_places_before => k_is)
    (case a_is_within => k_is)
    (case l_is_within => k_is)
    (case c_is_within_ => k_is)
    (case k_is_within => k_is)
    (case a_legs_done => k_is)
    (case l_legs_done => k_is)
    (case c_legs_done_ => k_is)
    (case k_legs_done => k_is)
    (case a_Course_init => k_is)
    (case i_Course_init => k_is)
    (case l_Course_init => k_is)
    (case c_Course_init_ => k_is)
    (case k_Course_init => k_is)
    (case a_Course_line_of => k_is)
    (case i_Course_line_of => k_is)
    (case l_Course_line_of => k_is)
    (case c_Course_line_of_ => k_is)
    (case k_Course_line_of => k_is)
    (case a_Course_along_leg => k_is)
    (case i_Course_along_leg => k_is)
    (case l_Course_along_leg => k_is)
    (case c_Course_along_leg_ => k_is)
    (case k_Course_along_leg => k_is)
    (case a_Course_place_on => k_is)
    (case i_Course_place_on => k_is)
    (case l_Course_place_on => k_is)
    (case c_Course_place_on_ => k_is)
    (case k_Course_place_on => k_is)
    (case a_Course_gone_by => k_is)
    (case i_Course_gone_by => k_is)
    (case l_Course_gone_by => k_is)
    (case c_Course_gone_by_ => k_is)
    (case k_Course_gone_by => k_is)
    (case a_Course_leg_by => k_is)
    (case i_Course_leg_by => k_is)
    (case l_Course_leg_by => k_is)
    (case c_Course_leg_by_ => k_is)
    (case k_Course_leg_by => k_is)
    (case a_Course_place_by => k_is)
    (case i_Course_place_by => k_is)
    (case l_Course_place_by => k_is)
    (case c_Course_place_by_ => k_is)
    (case k_Course_place_by => k_is)
    (case a_Course_first_leg_seeing => k_is)
    (case i_Course_first_leg_seeing => k_is)
    (case l_Course_first_leg_seeing => k_is)
    (case c_Course_first_leg_seeing_ => k_is)
    (case k_Course_first_leg_seeing => k_is)
    (case a_Course_hours_to_see => k_is)
    (case i_Course_hours_to_see => k_is)
    (case l_Course_hours_to_see => k_is)
    (case c_Course_hours_to_see_ => k_is)
    (case k_Course_hours_to_see => k_is)
    (case a_is_area => k_is)
    (case l_is_area => k_is)
    (case c_is_area_ => k_is)
    (case k_is_area => k_is)
    (case a_is_craft => k_is)
    (case l_is_craft => k_is)
    (case c_is_craft_ => k_is)
    (case k_is_craft => k_is)
    (case a_way_sign => k_is)
    (case l_way_sign => k_is)
    (case c_way_sign_ => k_is)
    (case k_way_sign => k_is)
    (case a_Search_init => k_is)
    (case i_Search_init => k_is)
    (case l_Search_init => k_is)
    (case c_Search_init_ => k_is)
    (case k_Search_init => k_is)
    (case a_Search_standing => k_is)
    (case i_Search_standing => k_is)
    (case l_Search_standing => k_is)
    (case c_Search_standing_ => k_is)
    (case k_Search_standing => k_is)
    (case a_Search_put => k_is)
    (case i_Search_put => k_is)
    (case l_Search_put => k_is)
    (case c_Search_put_ => k_is)
    (case k_Search_put => k_is)
    (case a_Search_change => k_is)
    (case i_Search_change => k_is)
    (case l_Search_change => k_is)
    (case c_Search_change_ => k_is)
    (case k_Search_change => k_is)
    (case a_Search_sl_start => k_is)
    (case i_Search_sl_start => k_is)
    (case l_Search_sl_start => k_is)
    (case c_Search_sl_start_ => k_is)
    (case k_Search_sl_start => k_is)
    (case a_Search_sl_craft => k_is)
    (case i_Search_sl_craft => k_is)
    (case l_Search_sl_craft => k_is)
    (case c_Search_sl_craft_ => k_is)
    (case k_Search_sl_craft => k_is)
    (case a_Search_sl_area => k_is)
    (case i_Search_sl_area => k_is)
    (case l_Search_sl_area => k_is)
    (case c_Search_sl_area_ => k_is)
    (case k_Search_sl_area => k_is)
    (case a_Search_sl_drop => k_is)
    (case i_Search_sl_drop => k_is)
    (case l_Search_sl_drop => k_is)
    (case c_Search_sl_drop_ => k_is)
    (case k_Search_sl_drop => k_is)
    (case a_Search_sl_take => k_is)
    (case i_Search_sl_take => k_is)
    (case l_Search_sl_take => k_is)
    (case c_Search_sl_take_ => k_is)
    (case k_Search_sl_take => k_is)
    (case a_Search_sl_hours => k_is)
    (case i_Search_sl_hours => k_is)
    (case l_Search_sl_hours => k_is)
    (case c_Search_sl_hours_ => k_is)
    (case k_Search_sl_hours => k_is)
    (case a_Search_sl_alone => k_is)
    (case i_Search_sl_alone => k_is)
    (case l_Search_sl_alone => k_is)
    (case c_Search_sl_alone_ => k_is)
    (case k_Search_sl_alone => k_is)
    (case a_Search_sl_soonest => k_is)
    (case i_Search_sl_soonest => k_is)
    (case l_Search_sl_soonest => k_is)
    (case c_Search_sl_soonest_ => k_is)
    (case k_Search_sl_soonest => k_is)
    (case a_Search_sl_by => k_is)
    (case i_Search_sl_by => k_is)
    (case l_Search_sl_by => k_is)
    (case c_Search_sl_by_ => k_is)
    (case k_Search_sl_by => k_is)
    (case a_Search_sl_plan => k_is)
    (case i_Search_sl_plan => k_is)
    (case l_Search_sl_plan => k_is)
    (case c_Search_sl_plan_ => k_is)
    (case k_Search_sl_plan => k_is)
    (case a_Search_sl_legs => k_is)
    (case i_Search_sl_legs => k_is)
    (case l_Search_sl_legs => k_is)
    (case c_Search_sl_legs_ => k_is)
    (case k_Search_sl_legs => k_is)
    (case a_Search_course_of => k_is)
    (case i_Search_course_of => k_is)
    (case l_Search_course_of => k_is)
    (case c_Search_course_of_ => k_is)
    (case k_Search_course_of => k_is)
    (case a_Search_sights_of => k_is)
    (case i_Search_sights_of => k_is)
    (case l_Search_sights_of => k_is)
    (case c_Search_sights_of_ => k_is)
    (case k_Search_sights_of => k_is)
    (case a_Search_sl_leg => k_is)
    (case i_Search_sl_leg => k_is)
    (case l_Search_sl_leg => k_is)
    (case c_Search_sl_leg_ => k_is)
    (case k_Search_sl_leg => k_is)
    (case a_Search_sl_where => k_is)
    (case i_Search_sl_where => k_is)
    (case l_Search_sl_where => k_is)
    (case c_Search_sl_where_ => k_is)
    (case k_Search_sl_where => k_is)
    (case a_Search_sl_when => k_is)
    (case i_Search_sl_when => k_is)
    (case l_Search_sl_when => k_is)
    (case c_Search_sl_when_ => k_is)
    (case k_Search_sl_when => k_is)
    (case a_Search_sl_seen => k_is)
    (case i_Search_sl_seen => k_is)
    (case l_Search_sl_seen => k_is)
    (case c_Search_sl_seen_ => k_is)
    (case k_Search_sl_seen => k_is)
    (case a_Search_sl_most => k_is)
    (case i_Search_sl_most => k_is)
    (case l_Search_sl_most => k_is)
    (case c_Search_sl_most_ => k_is)
    (case k_Search_sl_most => k_is)
    (case a_Search_sl_look => k_is)
    (case i_Search_sl_look => k_is)
    (case l_Search_sl_look => k_is)
    (case c_Search_sl_look_ => k_is)
    (case k_Search_sl_look => k_is)
    (case a_Search_sl_size => k_is)
    (case i_Search_sl_size => k_is)
    (case l_Search_sl_size => k_is)
    (case c_Search_sl_size_ => k_is)
    (case k_Search_sl_size => k_is)
    (case a_Search_sl_ends => k_is)
    (case i_Search_sl_ends => k_is)
    (case l_Search_sl_ends => k_is)
    (case c_Search_sl_ends_ => k_is)
    (case k_Search_sl_ends => k_is)
    (case a_Search_sl_back => k_is)
    (case i_Search_sl_back => k_is)
    (case l_Search_sl_back => k_is)
    (case c_Search_sl_back_ => k_is)
    (case k_Search_sl_back => k_is)
    (case a_Search_sl_again => k_is)
    (case i_Search_sl_again => k_is)
    (case l_Search_sl_again => k_is)
    (case c_Search_sl_again_ => k_is)
    (case k_Search_sl_again => k_is)
    (case a_Search_sl_state => k_is)
    (case i_Search_sl_state => k_is)
    (case l_Search_sl_state => k_is)
    (case c_Search_sl_state_ => k_is)
    (case k_Search_sl_state => k_is)
    (case a_answer_change => k_is)
    (case l_answer_change => k_is)
    (case c_answer_change_ => k_is)
    (case k_answer_change => k_is)
    (case a_answer_about_hours => k_is)
    (case l_answer_about_hours => k_is)
    (case c_answer_about_hours_ => k_is)
    (case k_answer_about_hours => k_is)
    (case a_answer_about_legs => k_is)
    (case l_answer_about_legs => k_is)
    (case c_answer_about_legs_ => k_is)
    (case k_answer_about_legs => k_is)
    (case a_answer_about_sizes => k_is)
    (case l_answer_about_sizes => k_is)
    (case c_answer_about_sizes_ => k_is)
    (case k_answer_about_sizes => k_is)
    (case a_answer_about_changes => k_is)
    (case l_answer_about_changes => k_is)
    (case c_answer_about_changes_ => k_is)
    (case k_answer_about_changes => k_is)
    (case a_answer_call => k_is)
    (case l_answer_call => k_is)
    (case c_answer_call_ => k_is)
    (case k_answer_call => k_is)
    (case a_answers => k_is)
    (case l_answers => k_is)
    (case c_answers_ => k_is)
    (case k_answers => k_is)
    (case pg_Changes => k_is)
    (case hd_Changes => k_is)
    (case po_Changes => k_is)
    (case sa_Changes => k_is)
    (case mk_Changes => k_is)
    (case kc_Changes => k_is)
    (case na_Changes_behind => k_is)
    (case na_Changes_ahead => k_is)
    (case pg_Area => k_is)
    (case hd_Area => k_is)
    (case po_Area => k_is)
    (case sa_Area => k_is)
    (case mk_Area => k_is)
    (case kc_Area => k_is)
    (case na_Area_x => k_is)
    (case na_Area_y => k_is)
    (case na_Area_wide => k_is)
    (case na_Area_high => k_is)
    (case pg_Craft => k_is)
    (case hd_Craft => k_is)
    (case po_Craft => k_is)
    (case sa_Craft => k_is)
    (case mk_Craft => k_is)
    (case kc_Craft => k_is)
    (case na_Craft_speed => k_is)
    (case na_Craft_see => k_is)
    (case na_Craft_hours => k_is)
    (case na_Craft_strip => k_is)
    (case pg_Plan => k_is)
    (case hd_Plan => k_is)
    (case po_Plan => k_is)
    (case sa_Plan => k_is)
    (case mk_Plan => k_is)
    (case kc_Plan => k_is)
    (case na_Plan_way => k_is)
    (case na_Plan_hours => k_is)
    (case na_Plan_shares => k_is)
    (case pg_Course => k_is)
    (case hd_Course => k_is)
    (case po_Course => k_is)
    (case sa_Course => k_is)
    (case mk_Course => k_is)
    (case kc_Course => k_is)
    (case na_Course_area => k_is)
    (case na_Course_craft => k_is)
    (case na_Course_way => k_is)
    (case na_Course_legs => k_is)
    (case na_Course_before => k_is)
    (case na_Course_long => k_is)
    (case na_Course_pitch => k_is)
    (case pg_Search => k_is)
    (case hd_Search => k_is)
    (case po_Search => k_is)
    (case sa_Search => k_is)
    (case mk_Search => k_is)
    (case kc_Search => k_is)
    (case na_Search_changes => k_is)
    (case na_Search_area => k_is)
    (case na_Search_crafts => k_is)
    (case na_Search_plan => k_is)
    (case na_Search_hour => k_is)
    (case kk_MOST_CHANGES => k_is)
    (case kk_MOST_HOURS => k_is)
    (case kk_NO_SUCH_CRAFT => k_is)
    (case kk_NO_SUCH_LEG => k_is)
    (case kk_NO_SUCH_CHANGE => k_is)
    (case kk_NO_PLAN => k_is)
    (case kk_PLAN_STANDS => k_is)
    (case kk_PLAN_TAKEN => k_is)
    (case kk_NOT_AS_TOLD => k_is)
    (case kk_NO_MORE_CRAFT => k_is)
    (case kk_CANNOT_BE_DONE => k_is)
    (case kk_NO_LEGS => k_is)
    (case kk_BEYOND_PLAN => k_is)
    (case kk_FARTHEST_PLACE => k_is)
    (case kk_LONGEST_SIDE => k_is)
    (case kk_MOST_CRAFT => k_is)
    (case kk_MOST_SPEED => k_is)
    (case kk_MOST_SEE => k_is)
    (case ga_SIZES => k_is)
    (case ql_SIZES => k_is)
    (case nb_abs => k_is)
    (case nb_enumerate => k_is)
    (case nb_len => k_is)
    (case nb_max => k_is)
    (case nb_min => k_is)
    (case nb_range => k_is)
    (case nb_sum => k_is)
  case S =>
    intro K H xs a hO hwi hask hx
    cases hx with
    | cons h1 h2 =>
      cases h2
      cases h1 with
      | lst hs ha =>
        have e := L2.ints_dw a.1 _ ha
        subst e
        have q : ((Codec.inLen 0 29000 a.1 && a.1.all (Codec.inInt (-2147483648) 4294967295)) && true) = true := hwi
        rw [Bool.and_eq_true, Bool.and_eq_true] at q
        exact ⟨_, a.1, rfl, hs, (Codec.inNat_iff.mp q.1.1).2, hask, fun H' p hp => .lst (L2.SqL.of hp) (L2.dw_ints _)⟩

