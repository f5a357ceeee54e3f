import PyProof.Rows.All
import Wide.All
import OpenK.AllK
import Wide.FinOn
import PyProof.EqAt
import PyProof.EqKinds
import PyProof.TupleCall
import KE.BitLaws
import KE.KNest
import KE.KTryMore
import PyProof.Rows.SortShellAny
import KE.KDictSum
import PySem.Challenge.RW_barewire_k33_joins_walked
-- CHANGE: your row's module here, as the last of these rows
set_option Elab.async false
set_option linter.all false
set_option maxRecDepth 100000
namespace L2
open PySem PySem.Spec PyProof.Rows

/-- a key: an int or a str -/
abbrev Key := Sum Int Str
def keyIs : Key → Value → Bool
  | .inl k, v => Value.isInt k v
  | .inr x, v => Value.isStrOf x v
def keyH (w : World) : Key → Int
  | .inl k => hashInt k
  | .inr x => hashStr w x
theorem keyIs_shape : ∀ {k : Key} {v : Value}, keyIs k v = true → (∃ i t, k = Sum.inl i ∧ v = Value.int i t) ∨ (∃ x t, k = Sum.inr x ∧ v = Value.str x t)
  | .inl i, v, h => by
    obtain ⟨t, e⟩ := Value.isInt_shape (k := i) (v := v) h
    exact .inl ⟨i, t, rfl, e⟩
  | .inr x, v, h => by
    obtain ⟨t, e⟩ := Value.isStrOf_shape (x := x) (v := v) h
    exact .inr ⟨x, t, rfl, e⟩
theorem key_ll (a b : Int) : decide ((Sum.inl a : Key) = Sum.inl b) = (a == b) := by
  by_cases e : a = b
  · subst e; simp
  · have h : ¬ (Sum.inl a : Key) = Sum.inl b := fun q => e (Sum.inl.inj q)
    rw [decide_eq_false h]
    exact (beq_eq_false_iff_ne.mpr e).symm
theorem key_rr (a b : Str) : decide ((Sum.inr a : Key) = Sum.inr b) = decide (a = b) := by
  by_cases e : a = b
  · subst e; simp
  · have h : ¬ (Sum.inr a : Key) = Sum.inr b := fun q => e (Sum.inr.inj q)
    rw [decide_eq_false h, decide_eq_false e]
theorem key_lr (a : Int) (b : Str) : decide ((Sum.inl a : Key) = Sum.inr b) = false := decide_eq_false (fun q => nomatch q)
theorem key_rl (a : Str) (b : Int) : decide ((Sum.inr a : Key) = Sum.inl b) = false := decide_eq_false (fun q => nomatch q)

def mixKind (prog : Program) (w : World) : PySem.KeyKind prog w Key where
  is := keyIs
  hash := keyH w
  inj := fun v a b ha hb => by
    rcases keyIs_shape ha with ⟨i, t, rfl, rfl⟩ | ⟨x, t, rfl, rfl⟩
    · rcases keyIs_shape hb with ⟨j, u, rfl, e⟩ | ⟨y, u, rfl, e⟩
      · injection e with e1 _; rw [e1]
      · exact nomatch e
    · rcases keyIs_shape hb with ⟨j, u, rfl, e⟩ | ⟨y, u, rfl, e⟩
      · exact nomatch e
      · injection e with e1 _; rw [e1]
  byValue := fun k v h => by
    rcases keyIs_shape h with ⟨i, t, rfl, rfl⟩ | ⟨x, t, rfl, rfl⟩ <;> rfl
  pyHash := fun hv h => by
    rcases keyIs_shape hv with ⟨i, t, rfl, rfl⟩ | ⟨x, t, rfl, rfl⟩
    · exact wpAny_pyHash_int h
    · exact wpAny_pyHash_str h
  eqBool := fun hu hv h => by
    rcases keyIs_shape hu with ⟨i, t, rfl, rfl⟩ | ⟨x, t, rfl, rfl⟩
    · rcases keyIs_shape hv with ⟨j, u, rfl, rfl⟩ | ⟨y, u, rfl, rfl⟩
      · rw [key_ll] at h; exact wpAny_eqBool_int h
      · rw [key_lr] at h; exact SeqAt.EqAt.int_str i t y u _ _ _ _ h
    · rcases keyIs_shape hv with ⟨j, u, rfl, rfl⟩ | ⟨y, u, rfl, rfl⟩
      · rw [key_rl] at h; exact SeqAt.EqAt.str_int x t j u _ _ _ _ h
      · rw [key_rr] at h; exact wpAny_eqBool_str h
  «strs» := fun k x t v h => by
    rcases keyIs_shape h with ⟨i, u, rfl, e⟩ | ⟨y, u, rfl, e⟩
    · exact nomatch e
    · injection e with e1 _
      subst e1
      cases v <;> rfl

end L2

namespace L2
open PySem PySem.Spec PyProof.Rows

/-- a value, without the heap -/
inductive V where
  | non | bl (b : Bool) | int (i : Int) | str (x : Str) | byt (b : Array UInt8) | flt (b : UInt64) | ref (a : Addr) | ty (n : String)
  deriving DecidableEq

def RelV : V → Value → Prop
  | .non, u => u = Value.none
  | .bl b, u => u = Value.bool b
  | .int i, u => ∃ t, u = Value.int i t
  | .str x, u => ∃ t, u = Value.str x t
  | .byt b, u => ∃ t, u = Value.bytes b t
  | .flt b, u => ∃ t, u = Value.float b t
  | .ref a, u => u = Value.ref a
  | .ty n, u => u = Value.type n

abbrev Vals : List V → List Value → Prop := Paired RelV
theorem Vals.length {xs : List V} {us : List Value} (r : Vals xs us) : xs.length = us.length := Paired.length r
theorem Vals.get : ∀ {xs : List V} {us : List Value} {i : Nat} {x : V}, Vals xs us → xs[i]? = some x → ∃ u, us[i]? = some u ∧ RelV x u
  | _, _, _, _, .nil, e => by simp at e
  | _, _, 0, _, .cons r _, e => by simp at e; subst e; exact ⟨_, rfl, r⟩
  | _, _, i + 1, x, .cons _ t, e => by
    obtain ⟨u, h1, h2⟩ := Vals.get (i := i) (x := x) t (by simpa using e)
    exact ⟨u, by simpa using h1, h2⟩
theorem Vals.set {x : V} {u : Value} (r : RelV x u) : ∀ {xs : List V} {us : List Value} (i : Nat), Vals xs us → Vals (xs.set i x) (us.set i u)
  | _, _, _, .nil => .nil
  | _, _, 0, .cons _ t => .cons r t
  | _, _, i + 1, .cons q t => .cons q (Vals.set r i t)
theorem Vals.append : ∀ {xs ys : List V} {us ws : List Value}, Vals xs us → Vals ys ws → Vals (xs ++ ys) (us ++ ws)
  | _, _, _, _, .nil, s => s
  | _, _, _, _, .cons r t, s => .cons r (Vals.append t s)
theorem Vals.take : ∀ {xs : List V} {us : List Value} (n : Nat), Vals xs us → Vals (xs.take n) (us.take n)
  | _, _, 0, _ => .nil
  | _, _, _ + 1, .nil => .nil
  | _, _, n + 1, .cons r t => .cons r (Vals.take n t)
theorem Vals.drop : ∀ {xs : List V} {us : List Value} (n : Nat), Vals xs us → Vals (xs.drop n) (us.drop n)
  | _, _, 0, r => r
  | _, _, _ + 1, .nil => .nil
  | _, _, n + 1, .cons _ t => Vals.drop n t
def RelO : Option V → Option Value → Prop
  | some v, some u => RelV v u
  | none, none => True
  | _, _ => False
def KV {κ : Type} : List (κ × V) → List (κ × Value) → Prop := Paired fun (p : κ × V) (q : κ × Value) => p.1 = q.1 ∧ RelV p.2 q.2

/-- a key of a dict (00_mix): an int or a text -/
def kV : Key → V
  | .inl i => .int i
  | .inr x => .str x

/-- what stands at a tracked address -/
inductive HO where
  /-- a list -/
  | lst (xs : List V)
  /-- a tuple (never changes) -/
  | tup (xs : List V)
  /-- a dict whose keys are ints and texts; one whose keys are tuples of ints and texts (the empty one is both) -/
  | dK (kvs : List (Key × V)) | dT (kvs : List (List Key × V))
  /-- a set of ints: its members, its size -/
  | set (S : Int → Bool) (n : Nat)
  /-- an instance of the class at C, its dict at dx, its attributes -/
  | ins (C dx : Addr) (fs : List (Str × V))
  /-- the dict of the instance at x -/
  | own (x : Addr)
  /-- the dict of an exception -/
  | xd (fs : List (Str × V))
  /-- a bound method, f of x -/
  | met (f x : Addr)
  /-- a range object lo, lo + 1, .. below hi -/
  | rng (lo hi : Int)
  /-- a thing that is known to the object (the script; a dict while a loop walks it): read, never written while it is so -/
  | frz (o : Obj) (u : HO)
  /-- a code object's table -/
  | tbl (ps : Array Value)
  /-- any other thing, by what is true of its one object (a def of one's own: SetO a S n := HO.ext fun h => ..) -/
  | ext (φ : Heap → Prop)

abbrev Hp := Addr → Option HO
def upd (H : Hp) (a : Addr) (o : HO) : Hp := fun b => if b = a then some o else H b
theorem upd_same {H : Hp} {a : Addr} {o : HO} : upd H a o a = some o := by unfold upd; rw [if_pos rfl]
theorem upd_ne {H : Hp} {a b : Addr} {o : HO} (h : b ≠ a) : upd H a o b = H b := by unfold upd; rw [if_neg h]
theorem ne_of_none {H : Hp} {a b : Addr} {o : HO} (h : H a = some o) (h' : H b = none) : a ≠ b := by
  intro e; subst e; rw [h] at h'; cases h'

section
variable (P : Program) (w : World)
def ObjOk (H : Hp) (h : Heap) (a : Addr) : HO → Prop
  | .lst xs => xs.length ≤ sizeLine ∧ ∃ (its : List Value) (n : Nat), Vals xs its ∧ h.get? a = some { cls := .type "list", data := .seq its.toArray n }
  | .tup xs => xs.length ≤ sizeLine ∧ ∃ its : List Value, Vals xs its ∧ IsTup h a its.toArray
  | .dK kvs => kvs.length ≤ sizeLine ∧ (a == sysModules) = false ∧ ∃ vs, KV kvs vs ∧ h.DictOf (mixKind P w) a vs
  | .dT kvs => kvs.length ≤ sizeLine ∧ (a == sysModules) = false ∧ ∃ xs : List (List Key × Addr × Value),
      Paired (fun (p : List Key × V) (q : List Key × Addr × Value) => p.1 = q.1 ∧ H q.2.1 = some (.tup (p.1.map kV)) ∧ RelV p.2 q.2.2) kvs xs ∧
      ∃ o es ep, h.get? a = some o ∧ o.ExactDict ∧ o.data = .dict es ep ∧ es.toList = xs.map (entryOfKey (tupleKind (mixKind P w))) ∧ (xs.map (·.1)).Nodup
  | .set S n => h.SetOf (intKind P w) a S n
  | .ins C dx fs => H dx = some (.own a) ∧ fs.length ≤ 1000 ∧ dx ≠ a ∧ h.get? a = some (PySem.W.instObj C dx) ∧
      ∃ mA, h.Ns1 dx mA ∧ (∀ f, RelO (fs.lookup f) (mA f)) ∧ PySem.Within mA (fs.map (·.1))
  | .own _ => ∃ o, h.get? a = some o
  | .xd fs => ∃ mA, h.Ns1 a mA ∧ ∀ f, RelO (fs.lookup f) (mA f)
  | .rng lo hi => ∃ t u v, h.get? a = some { cls := .type "range", data := .fields #[.int lo t, .int hi u, .int 1 v] }
  | .frz o u => h.get? a = some o ∧ ObjOk H h a u
  | .tbl ps => h.get? a = some { cls := .none, data := .fields ps }
  | .met f x => h.get? a = some (PySem.W.methodObj (.ref f) (.ref x))
  | .ext φ => φ h ∧ (∃ o, h.get? a = some o) ∧ ∀ h1 h2 : Heap, φ h1 → (∀ o, h1.get? a = some o → h2.get? a = some o) → φ h2
/-- the abstract heap is held -/
def HOk (H : Hp) (h : Heap) : Prop := ∀ a o, H a = some o → ObjOk P w H h a o
end

section
variable {P : Program} {w : World} {H H' : Hp} {h h' : Heap} {a : Addr} {o : HO}
theorem ObjOk.lt (x : ObjOk P w H h a o) : a < h.objs.size := by
  cases o with
  | lst xs => obtain ⟨_, _, _, _, e⟩ := x; exact Heap.lt_size e
  | tup xs => obtain ⟨_, _, _, p⟩ := x; exact p.lt
  | dK kvs => obtain ⟨_, _, _, _, o, _, _, e, _⟩ := x; exact Heap.lt_size e
  | dT kvs => obtain ⟨_, _, _, _, o, _, _, e, _⟩ := x; exact Heap.lt_size e
  | set S n => obtain ⟨o, _, _, _, e, _⟩ := x; exact Heap.lt_size e
  | ins C dx fs => obtain ⟨_, _, _, e, _⟩ := x; exact Heap.lt_size e
  | own y => obtain ⟨_, e⟩ := x; exact Heap.lt_size e
  | xd fs => obtain ⟨_, ⟨_, _, _, e, _⟩, _⟩ := x; exact Heap.lt_size e
  | rng lo hi => obtain ⟨_, _, _, e⟩ := x; exact Heap.lt_size e
  | frz ob u => obtain ⟨e, _⟩ := x; exact Heap.lt_size e
  | tbl ps => exact Heap.lt_size (show h.get? a = some _ from x)
  | met f y => exact Heap.lt_size (show h.get? a = some _ from x)
  | ext φ => obtain ⟨_, ⟨_, e⟩, _⟩ := x; exact Heap.lt_size e
theorem Paired.mapP {α β : Type} {F G : α → β → Prop} : ∀ {l₁ : List α} {l₂ : List β}, Paired F l₁ l₂ → (∀ a b, F a b → G a b) → Paired G l₁ l₂
  | _, _, .nil, _ => .nil
  | _, _, .cons r t, f => .cons (f _ _ r) (Paired.mapP t f)
/-- what an object's description leans on: its own object, its own dict, the tuples -/
theorem ObjOk.stay (x : ObjOk P w H h a o) (k : ∀ b u, (b = a ∨ H b = some (.own a)) → h.get? b = some u → h'.get? b = some u)
    (ho : ∀ b, H b = some (.own a) → H' b = some (.own a)) (ht : ∀ b xs, H b = some (.tup xs) → H' b = some (.tup xs)) : ObjOk P w H' h' a o := by
  induction o with
  | lst xs => obtain ⟨z, its, n, r, e⟩ := x; exact ⟨z, its, n, r, k _ _ (.inl rfl) e⟩
  | tup xs => obtain ⟨z, its, r, ob, e, c⟩ := x; exact ⟨z, its, r, ob, k _ _ (.inl rfl) e, c⟩
  | dK kvs => obtain ⟨z, y, vs, r, ob, es, ep, e, c⟩ := x; exact ⟨z, y, vs, r, ob, es, ep, k _ _ (.inl rfl) e, c⟩
  | dT kvs =>
    obtain ⟨z, y, xs, r, ob, es, ep, e, c⟩ := x
    exact ⟨z, y, xs, Paired.mapP r fun p q z => ⟨z.1, ht _ _ z.2.1, z.2.2⟩, ob, es, ep, k _ _ (.inl rfl) e, c⟩
  | set S n => obtain ⟨ob, es, ep, t, e, c⟩ := x; exact ⟨ob, es, ep, t, k _ _ (.inl rfl) e, c⟩
  | ins C dx fs =>
    obtain ⟨d, z, ne, e, mA, ⟨od, es, ep, e2, c⟩, r⟩ := x
    exact ⟨ho _ d, z, ne, k _ _ (.inl rfl) e, mA, ⟨od, es, ep, k _ _ (.inr d) e2, c⟩, r⟩
  | own y => obtain ⟨ob, e⟩ := x; exact ⟨ob, k _ _ (.inl rfl) e⟩
  | xd fs => obtain ⟨mA, ⟨od, es, ep, e, c⟩, r⟩ := x; exact ⟨mA, ⟨od, es, ep, k _ _ (.inl rfl) e, c⟩, r⟩
  | rng lo hi => obtain ⟨t, u, v, e⟩ := x; exact ⟨t, u, v, k _ _ (.inl rfl) e⟩
  | frz ob u ih => obtain ⟨e, q⟩ := x; exact ⟨k _ _ (.inl rfl) e, ih q⟩
  | tbl ps =>
    have e : h.get? a = some { cls := .none, data := .fields ps } := x
    show h'.get? a = some { cls := .none, data := .fields ps }
    exact k a _ (.inl rfl) e
  | met f y =>
    have e : h.get? a = some (PySem.W.methodObj (.ref f) (.ref y)) := x
    show h'.get? a = some (PySem.W.methodObj (.ref f) (.ref y))
    exact k a _ (.inl rfl) e
  | ext φ => obtain ⟨p, ⟨o, e⟩, st⟩ := x; exact ⟨st _ _ p fun o q => k _ _ (.inl rfl) q, ⟨o, k _ _ (.inl rfl) e⟩, st⟩
theorem HOk.lt (x : HOk P w H h) (e : H a = some o) : a < h.objs.size := (x a o e).lt
theorem HOk.fresh (x : HOk P w H h) (e : h.objs.size ≤ a) : H a = none := by
  cases q : H a with
  | none => rfl
  | some u => exact absurd (Nat.lt_of_lt_of_le (x.lt q) e) (Nat.lt_irrefl _)
/-- every object of the heap is kept -/
theorem HOk.kept (x : HOk P w H h) (k : ∀ b u, h.get? b = some u → h'.get? b = some u) : HOk P w H h' := fun a o e =>
  (x a o e).stay (fun b u _ q => k b u q) (fun _ q => q) fun _ _ q => q
/-- a new object is laid and tracked -/
theorem HOk.laid (x : HOk P w H h) (k : ∀ b u, h.get? b = some u → h'.get? b = some u) (hp : h.objs.size ≤ a) (new : ObjOk P w (upd H a o) h' a o) : HOk P w (upd H a o) h' := fun b u e => by
  have hn := x.fresh hp
  by_cases hb : b = a
  · subst hb; rw [upd_same] at e; cases e; exact new
  · rw [upd_ne hb] at e
    exact (x b u e).stay (fun c v _ q => k c v q) (fun c q => by rw [upd_ne (ne_of_none q hn)]; exact q) fun c xs q => by rw [upd_ne (ne_of_none q hn)]; exact q
end

/-- what may be read as u: it is u, or a known u -/
def Rd (H : Hp) (a : Addr) (u : HO) : Prop := H a = some u ∨ ∃ o, H a = some (.frz o u)
theorem Rd.of {H : Hp} {a : Addr} {u : HO} (h : H a = some u) : Rd H a u := .inl h
theorem Rd.ok {P : Program} {w : World} {H : Hp} {h : Heap} {a : Addr} {u : HO} (r : Rd H a u) (x : HOk P w H h) : ObjOk P w H h a u := by
  rcases r with r | ⟨o, r⟩
  · exact x a u r
  · obtain ⟨_, q⟩ := x a _ r
    exact q
/-- what may be written -/
def Mut : Option HO → Prop
  | some (.lst _) => True
  | some (.dK _) => True
  | some (.dT _) => True
  | some (.set _ _) => True
  | some (.ins _ _ _) => True
  | some (.ext _) => True
  | _ => False
section
variable {P : Program} {w : World} {H : Hp} {h h' : Heap} {x e : Addr} {o' : HO}
/-- the object at e is changed: x itself, or the dict of the instance x -/
theorem HOk.write (ok : HOk P w H h) (mu : Mut (H x)) (he : e = x ∨ H e = some (.own x)) (k : ∀ b u, b ≠ e → h.get? b = some u → h'.get? b = some u) (heo : ∃ u, h'.get? e = some u)
    (new : ObjOk P w (upd H x o') h' x o') : HOk P w (upd H x o') h' := fun b u q => by
  have nown : ∀ c y, H c = some (.own y) → c ≠ x := fun c y r z => by subst z; rw [r] at mu; exact mu
  have ntup : ∀ c xs, H c = some (.tup xs) → c ≠ x := fun c xs r z => by subst z; rw [r] at mu; exact mu
  by_cases hb : b = x
  · subst hb; rw [upd_same] at q; cases q; exact new
  · rw [upd_ne hb] at q
    by_cases hbe : b = e
    · have q' : H b = some (.own x) := by
        rcases he with z | z
        · exact absurd (hbe.trans z) hb
        · rw [hbe]; exact z
      rw [q] at q'; cases q'
      obtain ⟨v, hv⟩ := heo
      exact ⟨v, by rw [hbe]; exact hv⟩
    · refine (ok b u q).stay (fun c v hc r => k c v ?_ r) (fun c r => by rw [upd_ne (nown c b r)]; exact r) fun c xs r => by rw [upd_ne (ntup c xs r)]; exact r
      rcases hc with rfl | hc
      · exact hbe
      · rintro rfl
        rcases he with z | z
        · exact nown c b hc z
        · rw [hc] at z; cases z; exact hb rfl
end

structure Un (fs ex : List Addr) (H H' : Hp) (h h' : Heap) : Prop where
  keep : ∀ b o, h.get? b = some o → H b = none → b ∉ fs → b ∉ ex → h'.get? b = some o
  slot : ∀ b o, h.get? b = some o → H b = none → b ∈ fs → b ∉ ex → ∃ sl, h'.get? b = some { o with slots := sl }
  free : ∀ b o, h.get? b = some o → H b = none → b ∉ ex → H' b = none
  there : ∀ b o, h.get? b = some o → b ∉ ex → ∃ o', h'.get? b = some o'
  tups : ∀ b xs, H b = some (.tup xs) → H' b = some (.tup xs)
  frzs : ∀ b o u, H b = some (.frz o u) → H' b = some (.frz o u)
  tbls : ∀ b ps, H b = some (.tbl ps) → ∃ more, H' b = some (.tbl (ps ++ more))
section
variable {fs fs' ex ex' : List Addr} {H H1 H2 : Hp} {h h1 h2 h' : Heap} {a x e : Addr} {o : HO}
theorem Un.any (u : Un fs ex H H1 h h1) {b : Addr} {ob : Obj} (q : h.get? b = some ob) (n : H b = none) (hx : b ∉ ex) : ∃ sl, h1.get? b = some { ob with slots := sl } := by
  by_cases hb : b ∈ fs
  · exact u.slot b ob q n hb hx
  · exact ⟨ob.slots, u.keep b ob q n hb hx⟩
theorem Un.trans (a : Un fs ex H H1 h h1) (b : Un fs ex H1 H2 h1 h2) : Un fs ex H H2 h h2 where
  keep := fun c ob q n hc hx => b.keep c ob (a.keep c ob q n hc hx) (a.free c ob q n hx) hc hx
  slot := fun c ob q n hc hx => by
    obtain ⟨sl, e1⟩ := a.slot c ob q n hc hx
    obtain ⟨sl', e2⟩ := b.slot c _ e1 (a.free c ob q n hx) hc hx
    exact ⟨sl', e2⟩
  free := fun c ob q n hx => by
    obtain ⟨o', e1⟩ := a.there c ob q hx
    exact b.free c o' e1 (a.free c ob q n hx) hx
  there := fun c ob q hx => by
    obtain ⟨o', e1⟩ := a.there c ob q hx
    exact b.there c o' e1 hx
  tups := fun c xs q => b.tups c xs (a.tups c xs q)
  frzs := fun c ob xs q => b.frzs c ob xs (a.frzs c ob xs q)
  tbls := fun c ps q => by
    obtain ⟨m1, e1⟩ := a.tbls c ps q
    obtain ⟨m2, e2⟩ := b.tbls c _ e1
    exact ⟨m1 ++ m2, by rw [e2, Array.append_assoc]⟩
theorem Un.kept (k : ∀ b u, h.get? b = some u → h'.get? b = some u) : Un fs ex H H h h' :=
  ⟨fun b ob q _ _ _ => k b ob q, fun b ob q _ _ _ => ⟨ob.slots, k b ob q⟩, fun _ _ _ n _ => n, fun b ob q _ => ⟨ob, k b ob q⟩, fun _ _ q => q, fun _ _ _ q => q, fun _ ps q => ⟨#[], by rw [q]; simp⟩⟩
theorem Un.refl : Un fs ex H H h h := Un.kept fun _ _ q => q
theorem Un.laid (k : ∀ b u, h.get? b = some u → h'.get? b = some u) (hp : h.objs.size ≤ a) (hn : H a = none) : Un fs ex H (upd H a o) h h' where
  keep := fun b u q _ _ _ => k b u q
  slot := fun b u q _ _ _ => ⟨u.slots, k b u q⟩
  free := fun b u q n _ => by rw [upd_ne (Nat.ne_of_lt (Nat.lt_of_lt_of_le (Heap.lt_size q) hp))]; exact n
  there := fun b u q _ => ⟨u, k b u q⟩
  tups := fun b xs q => by rw [upd_ne (ne_of_none q hn)]; exact q
  frzs := fun b u xs q => by rw [upd_ne (ne_of_none q hn)]; exact q
  tbls := fun b ps q => ⟨#[], by rw [upd_ne (ne_of_none q hn), q]; simp⟩
theorem Un.write (mu : Mut (H x)) (he : e = x ∨ H e = some (.own x)) (k : ∀ b u, b ≠ e → h.get? b = some u → h'.get? b = some u) (heo : ∃ u, h'.get? e = some u) : Un fs ex H (upd H x o) h h' := by
  have hx : ∀ b, H b = none → b ≠ x := fun b n z => by subst z; rw [n] at mu; exact mu
  have hb : ∀ b, H b = none → b ≠ e := fun b n z => by
    subst z
    rcases he with r | r
    · exact hx b n r
    · rw [n] at r; cases r
  have hm : ∀ b u, H b = some u → ¬ Mut (some u) → b ≠ x := fun b u q nm z => by subst z; rw [q] at mu; exact nm mu
  refine ⟨fun b u q n _ _ => k b u (hb b n) q, fun b u q n _ _ => ⟨u.slots, k b u (hb b n) q⟩, fun b u q n _ => by rw [upd_ne (hx b n)]; exact n, fun b u q _ => ?_,
    fun b xs q => by rw [upd_ne (hm b _ q fun z => z)]; exact q, fun b u xs q => by rw [upd_ne (hm b _ q fun z => z)]; exact q, fun b ps q => ⟨#[], by rw [upd_ne (hm b _ q fun z => z), q]; simp⟩⟩
  by_cases hbe : b = e
  · subst hbe; exact heo
  · exact ⟨u, k b u hbe q⟩
theorem Un.mono (u : Un fs ex H H1 h h1) (hs : ∀ b ∈ fs, b ∈ fs') (hx : ∀ b ∈ ex, b ∈ ex') : Un fs' ex' H H1 h h1 :=
  ⟨fun b ob q n hb he => u.keep b ob q n (fun z => hb (hs b z)) fun z => he (hx b z), fun _ _ q n _ he => u.any q n fun z => he (hx _ z), fun b ob q n he => u.free b ob q n fun z => he (hx b z), fun b ob q he => u.there b ob q fun z => he (hx b z), u.tups, u.frzs, u.tbls⟩
end

def trk (h : Heap) (H : Hp) : List Addr := (List.range h.objs.size).filter fun a => (H a).isSome
def hidT (h : Heap) (H : Hp) : Heap := PySem.W.hideAll h (trk h H)
theorem hidT_size (h : Heap) (H : Hp) : (hidT h H).objs.size = h.objs.size := PySem.W.hideAll_size _ _
theorem hidT_get {h : Heap} {H : Hp} {b : Addr} {o : Obj} (e : h.get? b = some o) (n : H b = none) : (hidT h H).get? b = some o :=
  PySem.W.hideAll_get _ e fun hm => by
    have q : (H b).isSome = true := (List.mem_filter.mp hm).2
    rw [n] at q; simp at q
theorem of_hidT {h : Heap} {H : Hp} {b : Addr} {o : Obj} (e : (hidT h H).get? b = some o) : h.get? b = some o ∧ H b = none := by
  have e' : h.get? b = some o := PySem.W.of_hideAll (trk h H) e
  refine ⟨e', ?_⟩
  cases q : H b with
  | none => rfl
  | some x =>
    have hm : b ∈ trk h H := List.mem_filter.mpr ⟨List.mem_range.mpr (Heap.lt_size e'), by simp [q]⟩
    have z : (hidT h H).get? b = none := PySem.W.hideAll_none (trk h H) hm
    rw [z] at e; cases e

def allNews (g h : Heap) (L : Addr) : List (Addr × Obj) := (List.range h.objs.size).filterMap fun a => if a = L ∨ (g.get? a).isSome = true then none else (h.get? a).map fun o => (a, o)
def rest (g h : Heap) (L d : Addr) : List (Addr × Obj) := (allNews g h L).filter fun p => decide (p.1 ≠ d)
end L2

namespace L2
open PySem PySem.Spec PyProof.Rows

/-- the module's facts, over the base: the heap at the law's entry without what is tracked there -/
structure Mod (K : PySem.W.Frag) (mg : Str → Option Value) (base : Heap) : Prop where
  kin : K.In base
  glob : base.Ns mainGlobals mg
  blt : ∃ mb, base.Ns builtinsNs mb ∧ ∀ x : Str, x ≠ "__name__" → mb x = bootBuiltins x
  nolimit : base.NoLimit

/-- all generators are bare, and those that were there stand as they did -/
def GB (g₀ g : Array GenState) : Prop := AllBare g ∧ ∀ (i : Nat) x, g₀[i]? = some x → g[i]? = some x
theorem GB.trans {a b c : Array GenState} (x : GB a b) (y : GB b c) : GB a c := ⟨y.1, fun i z e => y.2 i z (x.2 i z e)⟩
theorem GB.self {a : Array GenState} (x : AllBare a) : GB a a := ⟨x, fun _ _ e => e⟩
/-- the context: a def's body (or a comprehension's block) running. base: fixed through the whole law; s₀, H₀: the entry; outer: the frames whose slots others may change (a def's callers); stack: all frames that run;
   ex: iterators that were made ahead of the entry and are walked here (a comprehension's); fn: the names whose cells were made at the entry (a def: all; a comprehension's block: its own); calm: not within an except suite; pn: pins that every state bears; xe: what is wanted of an exception that leaves the code -/
structure Cx where
  prog : Program
  w : World
  K : PySem.W.Frag
  mg : Str → Option Value
  base : Heap
  A : Around
  N : List Str
  s_0 : Shared
  H_0 : Hp
  env : Env
  outer : List Env
  stack : List Env
  ex : List Addr
  fn : Str → Bool
  calm : Bool
  pn : List (Addr × Obj)
  xe : Value → Shared → Prop
/-- the callers' frames -/
def frs (l : List Env) : List Addr := l.filterMap (·.frame)
abbrev Cx.fs (X : Cx) : List Addr := frs X.outer

def Vis (sc : Scope) (x : Str) : Prop := sc.names.lookup x = some .local ∨ sc.names.lookup x = some .cell ∨ sc.names.lookup x = some .free
def Loc (sc : Scope) (x : Str) : Prop := sc.names.lookup x = some .local ∨ sc.names.lookup x = some .cell
def Look (env : Env) (h : Heap) (m : Str → Option Value) (x : Str) (u : Value) : Prop :=
  (env.kindOf x = some .local ∧ m x = some u) ∨ ((env.kindOf x = some .cell ∨ env.kindOf x = some .free) ∧ ∃ c, env.cells.lookup x = some c ∧ h.IsCell c (some u))

structure Cx.Ok (X : Cx) : Prop where
  mod : Mod X.K X.mg X.base
  kind : X.env.scope.kind = .function
  glob : X.env.globals = mainGlobals
  blt : X.env.builtins = builtinsNs
  above : X.s_0.heap.objs.size ≤ X.env.locals
  inj : ∀ x y c, X.env.cells.lookup x = some c → X.env.cells.lookup y = some c → x = y
  has : ∀ x, (X.env.kindOf x = some .cell ∨ X.env.kindOf x = some .free) → ∃ c, X.env.cells.lookup x = some c
  cab : ∀ x c, X.fn x = true → X.env.cells.lookup x = some c → X.s_0.heap.objs.size ≤ c
  hd : X.calm = true → X.A.handled = none
  frames : X.A.frames = some X.stack
  stk : X.stack = X.outer ∨ (X.stack = X.env :: X.outer ∧ X.env.frame = some X.env.locals)
  exf : ∀ b ∈ X.ex, b ≠ X.env.locals ∧ ∀ x c, X.env.cells.lookup x = some c → c ≠ b
  bs : ∀ b o, X.base.get? b = some o → X.s_0.heap.get? b = some o ∧ X.H_0 b = none
  bsz : X.base.objs.size ≤ X.s_0.heap.objs.size
  noex : ∀ b o, X.base.get? b = some o → b ∉ X.ex
  exfs : ∀ b ∈ X.ex, b ∉ X.fs
  funs : X.s_0.heap.FunFrames X.base X.outer
  frf : ∀ b ∈ X.fs, X.H_0 b = none

structure Inv (X : Cx) (pins : List (Addr × Obj)) (σ : List (Option V)) (H : Hp) (s : Shared) : Prop where
  ok : X.Ok
  os : s.os = X.s_0.os
  bare : GB X.s_0.gens s.gens
  base : Un X.fs X.ex X.H_0 H X.s_0.heap s.heap
  loc : ∃ m, s.heap.Ns X.env.locals m ∧ ∀ (i : Nat) (x : Str) (v : V), X.N[i]? = some x → σ[i]? = some (some v) → Vis X.env.scope x → ∃ u, RelV v u ∧ Look X.env s.heap m x u
  cell : ∀ x c, X.env.cells.lookup x = some c → ∃ v, s.heap.IsCell c v
  free : H X.env.locals = none
  freeC : ∀ x c, X.env.cells.lookup x = some c → H c = none
  pin : ∀ p ∈ X.pn ++ pins, s.heap.get? p.1 = some p.2 ∧ H p.1 = none ∧ p.1 ≠ X.env.locals ∧ p.1 ∉ X.fs ∧ ∀ v, p.2.data ≠ .cell v
  hok : HOk X.prog X.w H s.heap
  len : σ.length = X.N.length

section
variable {X : Cx} {pins : List (Addr × Obj)} {σ : List (Option V)} {H H' : Hp} {s : Shared} {h' : Heap}

theorem Cx.Ok.nofr (ok : X.Ok) {b : Addr} {o : Obj} (e : X.base.get? b = some o) : b ∉ X.fs := fun hb => by
  have := (ok.funs.mem hb).1
  rw [e] at this; cases this
theorem Inv.bs (I : Inv X pins σ H s) : ∀ b o, X.base.get? b = some o → s.heap.get? b = some o ∧ H b = none := fun b o e =>
  ⟨I.base.keep b o (I.ok.bs b o e).1 (I.ok.bs b o e).2 (I.ok.nofr e) (I.ok.noex b o e), I.base.free b o (I.ok.bs b o e).1 (I.ok.bs b o e).2 (I.ok.noex b o e)⟩
theorem Inv.bk (I : Inv X pins σ H s) : ∀ b o, X.base.get? b = some o → s.heap.get? b = some o := fun b o e => (I.bs b o e).1
theorem Inv.mod (I : Inv X pins σ H s) : Mod X.K X.mg X.base := I.ok.mod
theorem Inv.kIn (I : Inv X pins σ H s) : X.K.In s.heap := I.ok.mod.kin.keeps I.bk
theorem Inv.nolimit (I : Inv X pins σ H s) : s.heap.NoLimit := I.ok.mod.nolimit.keeps I.bk
/-- the frame over the base: for OpenK's rules (K.In X.base is I.mod.kin) -/
theorem Inv.fr (I : Inv X pins σ H s) : ∃ m, Fr X.base X.env.locals s.heap m :=
  let ⟨m, hn, _⟩ := I.loc
  ⟨m, hn, I.bk, Nat.le_trans I.ok.bsz I.ok.above⟩
theorem Inv.lt (I : Inv X pins σ H s) : X.env.locals < s.heap.objs.size := let ⟨_, hn, _⟩ := I.loc; hn.lt
theorem Inv.sz (I : Inv X pins σ H s) : X.s_0.heap.objs.size ≤ s.heap.objs.size := Nat.le_trans I.ok.above (Nat.le_of_lt I.lt)
theorem Inv.nofs (I : Inv X pins σ H s) {a : Addr} (h : s.heap.objs.size ≤ a) : a ∉ X.fs := fun hb => by
  obtain ⟨_, o, ho, _⟩ := I.ok.funs.mem hb
  exact absurd (Nat.lt_of_lt_of_le (Heap.lt_size ho) (Nat.le_trans I.sz h)) (Nat.lt_irrefl _)
theorem Inv.cne (I : Inv X pins σ H s) : ∀ x c, X.env.cells.lookup x = some c → c ≠ X.env.locals := fun x c e z => by
  obtain ⟨v, o, ho, hd⟩ := I.cell x c e
  obtain ⟨m, ⟨o', es, ep, ho', hd', _⟩, _⟩ := I.loc
  rw [z, ho'] at ho; cases ho; rw [hd'] at hd; cases hd
theorem Inv.funs (I : Inv X pins σ H s) : s.heap.FunFrames X.base X.outer := by
  have all : ∀ (l : List Env), (∀ b ∈ frs l, b ∈ X.fs) → X.s_0.heap.FunFrames X.base l → s.heap.FunFrames X.base l := by
    intro l
    induction l with
    | nil => intro _ _; trivial
    | cons env r ih =>
      intro hs hl
      obtain ⟨hk, ⟨L, o, hf, hn, ho, hd⟩, hr⟩ := hl
      have hL : L ∈ X.fs := hs L (by unfold frs; rw [List.filterMap_cons, hf]; exact List.mem_cons_self)
      obtain ⟨sl, e⟩ := I.base.slot L o ho (I.ok.frf L hL) hL fun z => I.ok.exfs L z hL
      exact ⟨hk, ⟨L, _, hf, hn, e, hd⟩, ih (fun b hb => hs b (by unfold frs; rw [List.filterMap_cons, hf]; exact List.mem_cons_of_mem _ hb)) hr⟩
  exact all X.outer (fun _ hb => hb) I.ok.funs

/-- the frames that run, for a call -/
theorem Inv.stack (I : Inv X pins σ H s) : s.heap.FunFrames X.base X.stack := by
  rcases I.ok.stk with e | ⟨e, hf⟩
  · rw [e]; exact I.funs
  · rw [e]
    obtain ⟨m, hn, _⟩ := I.loc
    refine .cons (by rw [I.ok.kind]; decide) hf hn ?_ I.funs
    exact Heap.get?_none_of_le (Nat.le_trans I.ok.bsz I.ok.above)
theorem Inv.stkSub (I : Inv X pins σ H s) : ∀ b ∈ frs X.stack, b ∈ X.env.locals :: X.fs := fun b hb => by
  rcases I.ok.stk with e | ⟨e, hf⟩
  · rw [e] at hb; exact List.mem_cons_of_mem _ hb
  · rw [e] at hb
    unfold frs at hb
    rw [List.filterMap_cons, hf] at hb
    exact hb
theorem Inv.stkFree (I : Inv X pins σ H s) : ∀ b ∈ frs X.stack, H b = none := fun b hb => by
  rcases List.mem_cons.mp (I.stkSub b hb) with e | hb
  · rw [e]; exact I.free
  · obtain ⟨_, o, ho, _⟩ := I.ok.funs.mem hb
    exact I.base.free b o ho (I.ok.frf b hb) fun z => I.ok.exfs b z hb

/-- THE STEP: the untracked objects but the frame and the records at ch are kept (the callers' frames up to slots), the frame's map is kept, the new abstract heap is held -/
theorem Inv.step {g' : Array GenState} {t' : Nat} {d' : Drawn} {ch : List Addr} (I : Inv X pins σ H s)
    (hch : ∀ b ∈ ch, (b ∈ X.ex ∨ X.s_0.heap.objs.size ≤ b) ∧ b ≠ X.env.locals ∧ (∀ x c, X.env.cells.lookup x = some c → c ≠ b) ∧ ∀ p ∈ X.pn ++ pins, p.1 ≠ b)
    (keep : ∀ b o, b ≠ X.env.locals → b ∉ X.fs → b ∉ ch → s.heap.get? b = some o → H b = none → h'.get? b = some o)
    (slot : ∀ b o, b ≠ X.env.locals → b ∈ X.fs → b ∉ ch → s.heap.get? b = some o → H b = none → ∃ sl, h'.get? b = some { o with slots := sl }) (free : ∀ b o, b ∉ ch → s.heap.get? b = some o → H b = none → H' b = none)
    (there : ∀ b o, b ∉ ch → s.heap.get? b = some o → ∃ o', h'.get? b = some o')
    (tups : ∀ b xs, H b = some (.tup xs) → H' b = some (.tup xs)) (frzs : ∀ b o u, H b = some (.frz o u) → H' b = some (.frz o u)) (tbls : ∀ b ps, H b = some (.tbl ps) → ∃ more, H' b = some (.tbl (ps ++ more)))
    (ns : ∀ m, s.heap.Ns X.env.locals m → h'.Ns X.env.locals m) (hok : HOk X.prog X.w H' h') (hg : GB X.s_0.gens g') :
    Inv X pins σ H' { s with heap := h', gens := g', drawn := d', toks := t' } := by
  have neL : ∀ b o, X.s_0.heap.get? b = some o → b ≠ X.env.locals := fun b o e => Nat.ne_of_lt (Nat.lt_of_lt_of_le (Heap.lt_size e) I.ok.above)
  have neC : ∀ b o, X.s_0.heap.get? b = some o → b ∉ X.ex → b ∉ ch := fun b o e hx hb => by
    rcases (hch b hb).1 with z | z
    · exact hx z
    · exact absurd (Nat.lt_of_lt_of_le (Heap.lt_size e) z) (Nat.lt_irrefl _)
  have cellK : ∀ x c, X.env.cells.lookup x = some c → ∀ v, s.heap.IsCell c v → h'.IsCell c v := fun x c e v ⟨o, ho, hd⟩ => by
    have nch : c ∉ ch := fun z => (hch c z).2.2.1 x c e rfl
    by_cases hc : c ∈ X.fs
    · obtain ⟨sl, q⟩ := slot c o (I.cne x c e) hc nch ho (I.freeC x c e)
      exact ⟨_, q, hd⟩
    · exact ⟨o, keep c o (I.cne x c e) hc nch ho (I.freeC x c e), hd⟩
  refine ⟨I.ok, I.os, hg, ⟨fun b o e n hb hx => ?_, fun b o e n hb hx => ?_, fun b o e n hx => ?_, fun b o e hx => ?_, fun b xs e => tups b xs (I.base.tups b xs e), fun b o xs e => frzs b o xs (I.base.frzs b o xs e), fun b ps e => ?_⟩, ?_, fun x c e => ?_, ?_, fun x c e => ?_, fun p hp => ?_, hok, I.len⟩
  · exact keep b o (neL b o e) hb (neC b o e hx) (I.base.keep b o e n hb hx) (I.base.free b o e n hx)
  · obtain ⟨sl, e1⟩ := I.base.slot b o e n hb hx
    obtain ⟨sl', e2⟩ := slot b _ (neL b o e) hb (neC b o e hx) e1 (I.base.free b o e n hx)
    exact ⟨sl', e2⟩
  · obtain ⟨o', e1⟩ := I.base.there b o e hx
    exact free b o' (neC b o e hx) e1 (I.base.free b o e n hx)
  · obtain ⟨o', e1⟩ := I.base.there b o e hx
    exact there b o' (neC b o e hx) e1
  · obtain ⟨m1, e1⟩ := I.base.tbls b ps e
    obtain ⟨m2, e2⟩ := tbls b _ e1
    exact ⟨m1 ++ m2, by rw [e2, Array.append_assoc]⟩
  · obtain ⟨m, hn, hl⟩ := I.loc
    refine ⟨m, ns m hn, fun i x v e1 e2 e3 => ?_⟩
    obtain ⟨u, r, l⟩ := hl i x v e1 e2 e3
    refine ⟨u, r, ?_⟩
    rcases l with l | ⟨k, c, e, z⟩
    · exact .inl l
    · exact .inr ⟨k, c, e, cellK x c e _ z⟩
  · obtain ⟨v, z⟩ := I.cell x c e
    exact ⟨v, cellK x c e v z⟩
  · obtain ⟨m, ⟨o, _, _, ho, _⟩, _⟩ := I.loc
    exact free _ o (fun z => (hch _ z).2.1 rfl) ho I.free
  · obtain ⟨v, o, ho, hd⟩ := I.cell x c e
    exact free c o (fun z => (hch c z).2.2.1 x c e rfl) ho (I.freeC x c e)
  · obtain ⟨e, n, ne, nf, d⟩ := I.pin p hp
    have nch : p.1 ∉ ch := fun z => (hch p.1 z).2.2.2 p hp rfl
    exact ⟨keep p.1 p.2 ne nf nch e n, free p.1 p.2 nch e n, ne, nf, d⟩
/-- .. where the frame's own object is kept too -/
theorem Inv.un {t' : Nat} (I : Inv X pins σ H s) (u : Un X.fs [] H H' s.heap h') (hok : HOk X.prog X.w H' h') : Inv X pins σ H' { s with heap := h', toks := t' } := by
  obtain ⟨m, ⟨o, es, ep, ho, r⟩, _⟩ := id I.loc
  obtain ⟨sl, hL⟩ := u.any ho I.free (by simp)
  exact I.step (g' := s.gens) (d' := s.drawn) (ch := []) (fun _ z => nomatch z) (fun b o _ hb _ e n => u.keep b o e n hb (by simp)) (fun b o _ hb _ e n => u.slot b o e n hb (by simp)) (fun b o _ e n => u.free b o e n (by simp)) (fun b o _ e => u.there b o e (by simp)) u.tups u.frzs u.tbls (fun m' hm => by
    obtain ⟨o', es', ep', ho', r'⟩ := hm
    rw [ho] at ho'; cases ho'
    exact ⟨_, es', ep', hL, r'⟩) hok I.bare
/-- behind a call (or a comprehension's block): the slots of this frame may have changed too, the records at ch may have turned -/
theorem Inv.call {g' : Array GenState} {t' : Nat} {d' : Drawn} {ch : List Addr} (I : Inv X pins σ H s) (u : Un (frs X.stack) ch H H' s.heap h') (hok : HOk X.prog X.w H' h') (hg : GB s.gens g')
    (hch : ∀ b ∈ ch, (b ∈ X.ex ∨ X.s_0.heap.objs.size ≤ b) ∧ b ≠ X.env.locals ∧ (∀ x c, X.env.cells.lookup x = some c → c ≠ b) ∧ ∀ p ∈ X.pn ++ pins, p.1 ≠ b) :
    Inv X pins σ H' { s with heap := h', gens := g', drawn := d', toks := t' } := by
  obtain ⟨m, ⟨o, es, ep, ho, r⟩, _⟩ := id I.loc
  obtain ⟨sl, hL⟩ := u.any ho I.free fun z => (hch _ z).2.1 rfl
  exact I.step (ch := ch) hch (fun b o hL hb hc e n => u.keep b o e n (fun z => (List.mem_cons.mp (I.stkSub b z)).elim hL hb) hc) (fun b o _ _ hc e n => u.any e n hc) (fun b o hc e n => u.free b o e n hc) (fun b o hc e => u.there b o e hc) u.tups u.frzs u.tbls (fun m' hm => by
    obtain ⟨o', es', ep', ho', r'⟩ := hm
    rw [ho] at ho'; cases ho'
    exact ⟨_, es', ep', hL, r'⟩) hok (I.bare.trans hg)
/-- an untracked record of ours (an iterator) has turned -/
theorem Inv.turned {t' : Nat} {it : Addr} (I : Inv X pins σ H s) (k : ∀ b o, b ≠ it → s.heap.get? b = some o → h'.get? b = some o) (hn : H it = none) (hL : it ≠ X.env.locals)
    (h1 : it ∈ X.ex ∨ X.s_0.heap.objs.size ≤ it) (h2 : ∀ x c, X.env.cells.lookup x = some c → c ≠ it) (h3 : ∀ p ∈ X.pn ++ pins, p.1 ≠ it) : Inv X pins σ H { s with heap := h', toks := t' } := by
  have nit : ∀ b u, H b = some u → b ≠ it := fun b u e z => by rw [z, hn] at e; cases e
  refine I.step (g' := s.gens) (d' := s.drawn) (ch := [it]) (fun b hb => ?_) (fun b o _ _ hc e _ => k b o (fun z => hc (by simp [z])) e) (fun b o _ _ hc e _ => ⟨o.slots, k b o (fun z => hc (by simp [z])) e⟩) (fun _ _ _ _ n => n)
    (fun b o hc e => ⟨o, k b o (fun z => hc (by simp [z])) e⟩) (fun _ _ e => e) (fun _ _ _ e => e) (fun b ps e => ⟨#[], by rw [e]; simp⟩) (fun m hm => ?_) (fun b u e => ?_) I.bare
  · have e : b = it := by simpa using hb
    subst e
    exact ⟨h1, hL, h2, h3⟩
  · obtain ⟨o, es, ep, ho, r⟩ := hm
    exact ⟨o, es, ep, k _ o (Ne.symm hL) ho, r⟩
  · refine (I.hok b u e).stay (fun c v hc q => k c v ?_ q) (fun _ q => q) fun _ _ q => q
    rcases hc with z | z
    · rw [z]; exact nit b u e
    · exact nit c _ z
theorem Inv.tok (I : Inv X pins σ H s) (t : Nat) : Inv X pins σ H { s with toks := t } := I.un (h' := s.heap) (t' := t) Un.refl I.hok
/-- all objects kept -/
theorem Inv.kept {t' : Nat} (I : Inv X pins σ H s) (k : ∀ b u, s.heap.get? b = some u → h'.get? b = some u) : Inv X pins σ H { s with heap := h', toks := t' } := I.un (Un.kept k) (I.hok.kept k)
/-- a new object laid and tracked -/
theorem Inv.laid {a : Addr} {o : HO} {t' : Nat} (I : Inv X pins σ H s) (k : ∀ b u, s.heap.get? b = some u → h'.get? b = some u) (hp : s.heap.objs.size ≤ a) (new : ObjOk X.prog X.w (upd H a o) h' a o) :
    Inv X pins σ (upd H a o) { s with heap := h', toks := t' } := I.un (Un.laid k hp (I.hok.fresh hp)) (I.hok.laid k hp new)
/-- an object written -/
theorem Inv.write {x e : Addr} {o : HO} {t' : Nat} (I : Inv X pins σ H s) (mu : Mut (H x)) (he : e = x ∨ H e = some (.own x)) (k : ∀ b u, b ≠ e → s.heap.get? b = some u → h'.get? b = some u) (heo : ∃ u, h'.get? e = some u)
    (new : ObjOk X.prog X.w (upd H x o) h' x o) : Inv X pins σ (upd H x o) { s with heap := h', toks := t' } := I.un (Un.write mu he k heo) (I.hok.write mu he k heo new)
/-- forgetting slots, pins -/
theorem Inv.weak {σ' : List (Option V)} (I : Inv X pins σ H s) (hl : σ'.length = σ.length) (w : ∀ (i : Nat) v, σ'[i]? = some (some v) → σ[i]? = some (some v)) : Inv X pins σ' H s :=
  ⟨I.ok, I.os, I.bare, I.base, let ⟨m, hn, hl'⟩ := I.loc; ⟨m, hn, fun i x v e1 e2 e3 => hl' i x v e1 (w i v e2) e3⟩, I.cell, I.free, I.freeC, I.pin, I.hok, hl.trans I.len⟩
theorem Inv.pins_of {pins' : List (Addr × Obj)} (I : Inv X pins σ H s) (h : ∀ p ∈ pins', s.heap.get? p.1 = some p.2 ∧ H p.1 = none ∧ p.1 ≠ X.env.locals ∧ p.1 ∉ X.fs ∧ ∀ v, p.2.data ≠ .cell v) : Inv X pins' σ H s :=
  ⟨I.ok, I.os, I.bare, I.base, I.loc, I.cell, I.free, I.freeC, fun p hp => (List.mem_append.mp hp).elim (fun z => I.pin p (List.mem_append_left _ z)) (h p), I.hok, I.len⟩

theorem nodup_ix {N : List Str} (hN : N.Nodup) {i j : Nat} {x : Str} (a : N[i]? = some x) (b : N[j]? = some x) : i = j := by
  obtain ⟨h1, e1⟩ := List.getElem?_eq_some_iff.mp a
  obtain ⟨h2, e2⟩ := List.getElem?_eq_some_iff.mp b
  exact (List.getElem_inj hN).mp (e1.trans e2.symm)

/-- a name is stored; what changed -/
theorem store_ok2 {M : Model} {A : Around} {E : Value → Shared → Prop} {i : Nat} {x : Str} {v : V} {u : Value} {Q : Unit → Shared → Prop} (I : Inv X pins σ H s) (hN : X.N.Nodup) (hi : X.N[i]? = some x) (hx : Loc X.env.scope x) (r : RelV v u)
    (h : ∀ s', Inv X pins (σ.set i (some v)) H s' → (∃ a, Heap.SameBut a s.heap s'.heap ∧ (a = X.env.locals ∨ X.env.cells.lookup x = some a)) → Q () s') (hf : X.fn x = true ∨ X.env.scope.names.lookup x = some .local := by first | exact .inl rfl | exact .inr rfl | assumption) : wpAny M A (storeName X.env x u) Q E s := by
  obtain ⟨m, hn, hl⟩ := id I.loc
  have hcls : (X.env.scope.kind == .class || (X.env.scope.kind == .module && X.env.locals != X.env.globals)) = false := by rw [I.ok.kind]; rfl
  have hiσ : i < σ.length := by rw [I.len]; exact (List.getElem?_eq_some_iff.mp hi).1
  have cne := I.cne
  have tracked : ∀ {a : Addr} {h' : Heap}, (∃ o, s.heap.get? a = some o ∧ H a = none) → Heap.SameBut a s.heap h' → HOk X.prog X.w H h' := fun {a h'} ha hs b ob e => by
    obtain ⟨_, _, hfree⟩ := ha
    refine (I.hok b ob e).stay (fun c w' hc q => (hs.2 c ?_).trans q) (fun _ q => q) fun _ _ q => q
    rintro rfl
    rcases hc with rfl | hc
    · rw [hfree] at e; cases e
    · rw [hfree] at hc; cases hc
  rcases hx with hk | hk
  · refine wpAny_storeName_local hk hn (fun h' hn' hs => ?_) hcls
    obtain ⟨oL, _, _, hoL, _⟩ := id hn
    refine h _ ⟨I.ok, I.os, I.bare, ⟨fun b o e n hb hx => ?_, fun b o e n hb hx => ?_, I.base.free, fun b o e hx => ?_, I.base.tups, I.base.frzs, I.base.tbls⟩, ⟨_, hn', fun j y v' e1 e2 e3 => ?_⟩, fun y c e => ?_, I.free, I.freeC, fun p hp => ?_, tracked ⟨oL, hoL, I.free⟩ hs, by simpa using I.len⟩ ⟨_, hs, .inl rfl⟩
    · exact (hs.2 b (Nat.ne_of_lt (Nat.lt_of_lt_of_le (Heap.lt_size e) I.ok.above))).trans (I.base.keep b o e n hb hx)
    · obtain ⟨sl, e1⟩ := I.base.slot b o e n hb hx
      exact ⟨sl, (hs.2 b (Nat.ne_of_lt (Nat.lt_of_lt_of_le (Heap.lt_size e) I.ok.above))).trans e1⟩
    · obtain ⟨o', e1⟩ := I.base.there b o e hx
      exact ⟨o', (hs.2 b (Nat.ne_of_lt (Nat.lt_of_lt_of_le (Heap.lt_size e) I.ok.above))).trans e1⟩
    · by_cases hj : j = i
      · subst hj
        rw [hi] at e1; cases e1
        rw [List.getElem?_set_self hiσ] at e2
        cases e2
        exact ⟨u, r, .inl ⟨hk, by simp⟩⟩
      · rw [List.getElem?_set_ne (Ne.symm hj)] at e2
        obtain ⟨u', r', q⟩ := hl j y v' e1 e2 e3
        refine ⟨u', r', ?_⟩
        rcases q with ⟨k, e⟩ | ⟨k, c, e, z⟩
        · refine .inl ⟨k, ?_⟩
          have : y ≠ x := fun e => hj (nodup_ix hN e1 (e ▸ hi))
          simp [this, e]
        · exact .inr ⟨k, c, e, z.sameBut hs (cne y c e)⟩
    · obtain ⟨w', z⟩ := I.cell y c e
      exact ⟨w', z.sameBut hs (cne y c e)⟩
    · obtain ⟨e, n, ne, nf, d⟩ := I.pin p hp
      exact ⟨(hs.2 p.1 ne).trans e, n, ne, nf, d⟩
  · have hfn : X.fn x = true := by
      rcases hf with z | z
      · exact z
      · rw [z] at hk; cases hk
    obtain ⟨c, hc⟩ := I.ok.has x (.inl hk)
    obtain ⟨w', z⟩ := I.cell x c hc
    refine wpAny_storeName_cell I.ok.kind hk hc z (fun h' hc' hs => ?_)
    obtain ⟨oc, hoc, hocd⟩ := id z
    refine h { s with heap := h' } ⟨I.ok, I.os, I.bare, ⟨fun b o e n hb hx => ?_, fun b o e n hb hx => ?_, I.base.free, fun b o e hx => ?_, I.base.tups, I.base.frzs, I.base.tbls⟩, ⟨m, hn.sameBut hs (Ne.symm (cne x c hc)), fun j y v' e1 e2 e3 => ?_⟩, fun y c' e => ?_, I.free, I.freeC, fun p hp => ?_, tracked ⟨oc, hoc, I.freeC x c hc⟩ hs, by simpa using I.len⟩ ⟨c, hs, .inr hc⟩
    · exact (hs.2 b (Nat.ne_of_lt (Nat.lt_of_lt_of_le (Heap.lt_size e) (I.ok.cab x c hfn hc)))).trans (I.base.keep b o e n hb hx)
    · obtain ⟨sl, e1⟩ := I.base.slot b o e n hb hx
      exact ⟨sl, (hs.2 b (Nat.ne_of_lt (Nat.lt_of_lt_of_le (Heap.lt_size e) (I.ok.cab x c hfn hc)))).trans e1⟩
    · obtain ⟨o', e1⟩ := I.base.there b o e hx
      exact ⟨o', (hs.2 b (Nat.ne_of_lt (Nat.lt_of_lt_of_le (Heap.lt_size e) (I.ok.cab x c hfn hc)))).trans e1⟩
    · by_cases hj : j = i
      · subst hj
        rw [hi] at e1; cases e1
        rw [List.getElem?_set_self hiσ] at e2
        cases e2
        exact ⟨u, r, .inr ⟨.inl hk, c, hc, hc'⟩⟩
      · rw [List.getElem?_set_ne (Ne.symm hj)] at e2
        obtain ⟨u', r', q⟩ := hl j y v' e1 e2 e3
        refine ⟨u', r', ?_⟩
        rcases q with q | ⟨k, c', e, z'⟩
        · exact .inl q
        · refine .inr ⟨k, c', e, z'.sameBut hs ?_⟩
          rintro rfl
          exact hj (nodup_ix hN e1 (I.ok.inj _ _ _ e hc ▸ hi))
    · by_cases hcc : c' = c
      · subst hcc; exact ⟨_, hc'⟩
      · obtain ⟨w2, z2⟩ := I.cell y c' e
        exact ⟨w2, z2.sameBut hs hcc⟩
    · obtain ⟨e, n, ne, nf, d⟩ := I.pin p hp
      refine ⟨(hs.2 p.1 ?_).trans e, n, ne, nf, d⟩
      intro q
      rw [q, hoc] at e
      have q' : oc = p.2 := Option.some.inj e
      exact d w' (by rw [← q']; exact hocd)
theorem store_ok {M : Model} {A : Around} {E : Value → Shared → Prop} {i : Nat} {x : Str} {v : V} {u : Value} {Q : Unit → Shared → Prop} (I : Inv X pins σ H s) (hN : X.N.Nodup) (hi : X.N[i]? = some x) (hx : Loc X.env.scope x) (r : RelV v u)
    (h : ∀ s', Inv X pins (σ.set i (some v)) H s' → Q () s') (hf : X.fn x = true ∨ X.env.scope.names.lookup x = some .local := by first | exact .inl rfl | exact .inr rfl | assumption) : wpAny M A (storeName X.env x u) Q E s :=
  store_ok2 I hN hi hx r (fun s' I' _ => h s' I') hf
/-- behind a call or a block, the state as it is -/
theorem Inv.call' {s' : Shared} {ch : List Addr} (I : Inv X pins σ H s) (ho : s'.os = s.os) (u : Un (frs X.stack) ch H H' s.heap s'.heap) (hok : HOk X.prog X.w H' s'.heap) (hg : GB s.gens s'.gens)
    (hch : ∀ b ∈ ch, (b ∈ X.ex ∨ X.s_0.heap.objs.size ≤ b) ∧ b ≠ X.env.locals ∧ (∀ x c, X.env.cells.lookup x = some c → c ≠ b) ∧ ∀ p ∈ X.pn ++ pins, p.1 ≠ b) : Inv X pins σ H' s' := by
  obtain ⟨h', g', d', t', o'⟩ := s'
  have e : o' = s.os := ho
  subst e
  exact I.call (g' := g') (t' := t') (d' := d') u hok hg hch
end

/-- an exception: its class, its own dict's address (where it has one), the abstract heap behind it -/
abbrev XK := Value → Option Addr → Hp → Prop
abbrev St := List (Option V)
abbrev VK := V → Hp → Prop
/-- an expression's reading; a test's; an argument list's -/
abbrev TE := St → Hp → VK → Prop
abbrev TT := St → Hp → (Bool → Hp → Prop) → Prop
abbrev TA := St → Hp → (List V → Hp → Prop) → Prop
/-- what is wanted behind a statement -/
structure Ends where
  nx : St → Hp → Prop
  rt : VK
  bk : St → Hp → Prop := fun _ _ => False
  ct : St → Hp → Prop := fun _ _ => False
abbrev TS := Ends → St → Hp → Prop

def EP (X : Cx) (pins : List (Addr × Obj)) (σ : St) (Q : VK) (u : Value) (s' : Shared) : Prop := ∃ v H', Inv X pins σ H' s' ∧ RelV v u ∧ Q v H'
def TP (X : Cx) (pins : List (Addr × Obj)) (σ : St) (Q : Bool → Hp → Prop) (b : Bool) (s' : Shared) : Prop := ∃ H', Inv X pins σ H' s' ∧ Q b H'
def AP (X : Cx) (pins : List (Addr × Obj)) (σ : St) (Q : List V → Hp → Prop) (us : List Value) (s' : Shared) : Prop := ∃ vs H', Inv X pins σ H' s' ∧ Vals vs us ∧ Q vs H'
def SP (X : Cx) (pins : List (Addr × Obj)) (D : Ends) (f : Flow) (s' : Shared) : Prop :=
  match f with
  | .next => ∃ σ' H', Inv X pins σ' H' s' ∧ D.nx σ' H'
  | .brk => ∃ σ' H', Inv X pins σ' H' s' ∧ D.bk σ' H'
  | .cont => ∃ σ' H', Inv X pins σ' H' s' ∧ D.ct σ' H'
  | .ret u => ∃ v σ' H', Inv X pins σ' H' s' ∧ RelV v u ∧ D.rt v H'

def PE (X : Cx) (e : Expr) (t : TE) : Prop :=
  ∀ (pins : List (Addr × Obj)) (s : Shared) (σ : St) (H : Hp) (Q : VK), Inv X pins σ H s → t σ H Q → wpAny (model X.prog X.w) X.A (eval e X.env) (EP X pins σ Q) X.xe s
def PT (X : Cx) (e : Expr) (t : TT) : Prop :=
  ∀ (pins : List (Addr × Obj)) (s : Shared) (σ : St) (H : Hp) (Q : Bool → Hp → Prop), Inv X pins σ H s → t σ H Q → wpAny (model X.prog X.w) X.A (isTrue e X.env (eval e X.env)) (TP X pins σ Q) X.xe s
/-- a test whatever its 'whole' is (and, or) -/
def PW (X : Cx) (e : Expr) (t : TT) : Prop :=
  ∀ (whole : Sem Value) (pins : List (Addr × Obj)) (s : Shared) (σ : St) (H : Hp) (Q : Bool → Hp → Prop), Inv X pins σ H s → t σ H Q → wpAny (model X.prog X.w) X.A (isTrue e X.env whole) (TP X pins σ Q) X.xe s
theorem PW.pt {X : Cx} {e : Expr} {t : TT} (h : PW X e t) : PT X e t := h _
/-- an argument list (no star), from the left -/
def PA (X : Cx) (es : List Expr) (t : TA) : Prop :=
  ∀ (pos : Pos) (pins : List (Addr × Obj)) (s : Shared) (σ : St) (H : Hp) (Q : List V → Hp → Prop), Inv X pins σ H s → t σ H Q → wpAny (model X.prog X.w) X.A (spliced (backTo pos (starEach es X.env))) (AP X pins σ Q) X.xe s
def PS (X : Cx) (st : Stmt) (t : TS) : Prop :=
  ∀ (pins : List (Addr × Obj)) (s : Shared) (σ : St) (H : Hp) (D : Ends), Inv X pins σ H s → t D σ H → wpAny (model X.prog X.w) X.A (exec st X.env) (SP X pins D) X.xe s
def PSs (X : Cx) (st : List Stmt) (t : TS) : Prop :=
  ∀ (pins : List (Addr × Obj)) (s : Shared) (σ : St) (H : Hp) (D : Ends), Inv X pins σ H s → t D σ H → wpAny (model X.prog X.w) X.A (execs st X.env) (SP X pins D) X.xe s
/-- weaken the end -/
theorem thn {α : Type} {t : Sem α} {Q Q' : α → Shared → Prop} {M : Model} {A : Around} {E : Value → Shared → Prop} {s : Shared} (h : wpAny M A t Q E s) (hQ : ∀ a s, Q a s → Q' a s) : wpAny M A t Q' E s := wpAny_mono h hQ fun _ _ x => x
end L2

namespace L2
open PySem PySem.Spec PyProof.Rows
section
variable {X : Cx}

def tVar (i : Nat) : TE := fun σ H Q => ∃ v, σ[i]? = some (some v) ∧ Q v H
def tC (v : V) : TE := fun _ H Q => Q v H
theorem pe_var {i : Nat} {x : Str} {pos : Pos} (hN : X.N[i]? = some x) (hv : Vis X.env.scope x) (hd : (x == ("__debug__" : Str)) = false := by decide) (hcd : (x == ("__classdict__" : Str)) = false := by decide) : PE X (.Name x pos) (tVar i) := by
  intro pins s σ H Q I h
  obtain ⟨v, e, h⟩ := h
  obtain ⟨m, hn, hl⟩ := I.loc
  obtain ⟨u, r, l⟩ := hl i x v hN e hv
  have fin : EP X pins σ Q u s := ⟨v, H, I, r, h⟩
  rcases l with ⟨hk, hm⟩ | ⟨hk, c, hc, hcell⟩
  · exact wpAny_Name (wpAny_loadName_local I.ok.kind hk hn hm fin) hd
  · rcases hk with hk | hk
    · exact wpAny_Name (wpAny_loadName_cell I.ok.kind hk hc hcell fin) hd
    · exact wpAny_Name (wpAny_loadName_free I.ok.kind hk hc hcell fin hcd) hd
theorem pe_int {i j pos} : PE X (.Constant (.int i) j pos) (tC (.int i)) := fun _ _ _ H _ I h => wpAny_Constant_int ⟨.int i, H, I.tok _, ⟨_, rfl⟩, h⟩
theorem pe_bl {b j pos} : PE X (.Constant (.bool b) j pos) (tC (.bl b)) := fun _ _ _ H _ I h => Constant_bool ⟨.bl b, H, I, rfl, h⟩
theorem pe_non {j pos} : PE X (.Constant .none j pos) (tC .non) := fun _ _ _ H _ I h => Constant_none ⟨.non, H, I, rfl, h⟩
theorem pe_str {x j pos} : PE X (.Constant (.str x) j pos) (tC (.str x)) := fun _ _ _ H _ I h => Calls.Constant_str ⟨.str x, H, I.tok _, ⟨_, rfl⟩, h⟩

/-- a global name of the def -/
def Gl (X : Cx) (x : Str) : Prop := X.env.kindOf x = some .globalImplicit
theorem ld_glob {E : Value → Shared → Prop} {pins : List (Addr × Obj)} {s : Shared} {σ : St} {H : Hp} {x : Str} {u : Value} {pos : Pos} {Q : Value → Shared → Prop} (I : Inv X pins σ H s) (hg : Gl X x) (hm : X.mg x = some u) (h : Q u s)
    (hd : (x == ("__debug__" : Str)) = false := by decide) : wpAny (model X.prog X.w) X.A (eval (.Name x pos) X.env) Q E s :=
  Calls.Name_function_global I.ok.kind hg (Calls.loadGlobal_global (by rw [I.ok.glob]; exact I.mod.glob.keeps I.bk) hm h) hd
theorem ld_blt {E : Value → Shared → Prop} {pins : List (Addr × Obj)} {s : Shared} {σ : St} {H : Hp} {x : Str} {u : Value} {pos : Pos} {Q : Value → Shared → Prop} (I : Inv X pins σ H s) (hg : Gl X x) (hm : X.mg x = none) (hv : bootBuiltins x = some u) (h : Q u s)
    (hn : x ≠ "__name__" := by decide) (hd : (x == ("__debug__" : Str)) = false := by decide) : wpAny (model X.prog X.w) X.A (eval (.Name x pos) X.env) Q E s := by
  obtain ⟨mb, h1, h2⟩ := I.mod.blt
  exact Calls.Name_function_global I.ok.kind hg (Calls.loadGlobal_builtin (by rw [I.ok.glob]; exact I.mod.glob.keeps I.bk) hm (by rw [I.ok.blt]; exact h1.keeps I.bk) ((h2 x hn).trans hv) h) hd
theorem pe_bltn {x : Str} {v : V} {u : Value} {pos : Pos} (hg : Gl X x) (hm : X.mg x = none) (hv : bootBuiltins x = some u) (r : RelV v u) (hn : x ≠ "__name__" := by decide) (hd : (x == ("__debug__" : Str)) = false := by decide) : PE X (.Name x pos) (tC v) :=
  fun _ _ _ H _ I h => ld_blt I hg hm hv ⟨v, H, I, r, h⟩ hn hd

/-- two ints -/
def t2I (ta tb : TE) (k : Int → Int → Hp → Prop) : St → Hp → Prop := fun σ H => ta σ H fun x H1 => tb σ H1 fun y H2 => ∃ i j, x = .int i ∧ y = .int j ∧ k i j H2
def tAdd (ta tb : TE) : TE := fun σ H Q => t2I ta tb (fun i j H2 => Q (.int (i + j)) H2) σ H
def tSub (ta tb : TE) : TE := fun σ H Q => t2I ta tb (fun i j H2 => Q (.int (i - j)) H2) σ H
/-- the left factor below 2^64 -/
def tMul (ta tb : TE) : TE := fun σ H Q => t2I ta tb (fun i j H2 => (-(2 ^ 64) < i ∧ i < 2 ^ 64) ∧ Q (.int (i * j)) H2) σ H
variable {a b : Expr} {ta tb : TE} {pos : Pos}
def PC (X : Cx) (op : CmpOp) (a b : Expr) (t : TE) : Prop :=
  ∀ (pins : List (Addr × Obj)) (s : Shared) (σ : St) (H : Hp) (Q : VK), Inv X pins σ H s → t σ H Q →
    wpAny (model X.prog X.w) X.A (eval a X.env) (fun v s₁ => wpAny (model X.prog X.w) X.A (eval b X.env) (fun u s₂ => wpAny (model X.prog X.w) X.A (compareOp op v u) (EP X pins σ Q) X.xe s₂) X.xe s₁) X.xe s
def tCmp (p : Int → Int → Bool) (ta tb : TE) : TE := fun σ H Q => t2I ta tb (fun i j H2 => Q (.bl (p i j)) H2) σ H
abbrev tLt : TE → TE → TE := tCmp fun i j => decide (i < j)
abbrev tLe : TE → TE → TE := tCmp fun i j => decide (i ≤ j)
abbrev tGt : TE → TE → TE := tCmp fun i j => decide (j < i)
abbrev tGe : TE → TE → TE := tCmp fun i j => decide (j ≤ i)
abbrev tEqI : TE → TE → TE := tCmp fun i j => decide (i = j)
abbrev tNeI : TE → TE → TE := tCmp fun i j => !decide (i = j)
/-- is None -/
def tIsN (ta : TE) : TE := fun σ H Q => ta σ H fun x H1 => Q (.bl (decide (x = .non))) H1
def tNotN (ta : TE) : TE := fun σ H Q => ta σ H fun x H1 => Q (.bl (!decide (x = .non))) H1
/-- a comparison as a value, as a test -/
def tB (t : TE) : TT := fun σ H Q => t σ H fun x H1 => ∃ c, x = .bl c ∧ Q c H1
variable {tA tB' : TT} {rest : List Expr}
def tAnd (t u : TT) : TT := fun σ H Q => t σ H fun c H1 => if c = true then u σ H1 Q else Q false H1
def tOr (t u : TT) : TT := fun σ H Q => t σ H fun c H1 => if c = true then Q true H1 else u σ H1 Q
def tNot (t : TT) : TT := fun σ H Q => t σ H fun c H1 => Q (!c) H1
theorem pw_and1 (ha : PT X a tA) : PW X (.BoolOp .And [a] pos) tA := by
  intro wh pins s σ H Q I h
  refine isTrue_and (thn (ha pins s σ H Q I h) fun c s1 e => ?_)
  cases c with
  | true => exact isTrue_and_nil e
  | false => exact e
theorem pw_or1 (ha : PT X a tA) : PW X (.BoolOp .Or [a] pos) tA := by
  intro wh pins s σ H Q I h
  refine isTrue_or (thn (ha pins s σ H Q I h) fun c s1 e => ?_)
  cases c with
  | false => exact isTrue_or_nil e
  | true => exact e
theorem pw_and (ha : PT X a tA) (hb : PW X (.BoolOp .And (b :: rest) pos) tB') : PW X (.BoolOp .And (a :: b :: rest) pos) (tAnd tA tB') := by
  intro wh pins s σ H Q I h
  refine isTrue_and (thn (ha pins s σ H _ I h) fun c s1 ⟨H1, I1, q1⟩ => ?_)
  cases c with
  | true => exact hb wh pins s1 σ H1 Q I1 q1
  | false => exact ⟨H1, I1, q1⟩
theorem pw_or (ha : PT X a tA) (hb : PW X (.BoolOp .Or (b :: rest) pos) tB') : PW X (.BoolOp .Or (a :: b :: rest) pos) (tOr tA tB') := by
  intro wh pins s σ H Q I h
  refine isTrue_or (thn (ha pins s σ H _ I h) fun c s1 ⟨H1, I1, q1⟩ => ?_)
  cases c with
  | true => exact ⟨H1, I1, q1⟩
  | false => exact hb wh pins s1 σ H1 Q I1 q1
theorem pt_not (ha : PT X a tA) : PT X (.UnaryOp .Not a pos) (tNot tA) := by
  intro pins s σ H Q I h
  exact isTrue_not (ha pins s σ H (fun c H1 => Q (!c) H1) I h)
/-- .. as values (bools) -/
def tAndV (ta tb : TE) : TE := fun σ H Q => ta σ H fun x H1 => ∃ c, x = .bl c ∧ if c = true then tb σ H1 Q else Q (.bl false) H1
def tOrV (ta tb : TE) : TE := fun σ H Q => ta σ H fun x H1 => ∃ c, x = .bl c ∧ if c = true then Q (.bl true) H1 else tb σ H1 Q
def tNotV (ta : TE) : TE := fun σ H Q => ta σ H fun x H1 => ∃ c, x = .bl c ∧ Q (.bl (!c)) H1
theorem pe_one {op} {t : TE} (h : PE X a t) : PE X (.BoolOp op [a] pos) t := fun pins s σ H Q I hw => BoolOp_one (h pins s σ H Q I hw)
theorem pe_and (ha : PE X a ta) (hb : PE X (.BoolOp .And (b :: rest) pos) tb) : PE X (.BoolOp .And (a :: b :: rest) pos) (tAndV ta tb) := by
  intro pins s σ H Q I h
  refine BoolOp_and (thn (ha pins s σ H _ I h) fun v s1 ⟨x, H1, I1, r1, q1⟩ => ?_)
  obtain ⟨c, rfl, q1⟩ := q1
  cases r1
  refine wpAny_truthy_bool ?_
  cases c with
  | true => exact hb pins s1 σ H1 Q I1 q1
  | false => exact ⟨.bl false, H1, I1, rfl, q1⟩
theorem pe_not (ha : PE X a ta) : PE X (.UnaryOp .Not a pos) (tNotV ta) := by
  intro pins s σ H Q I h
  refine UnaryOp_ (thn (ha pins s σ H _ I h) fun v s1 ⟨x, H1, I1, r1, q1⟩ => ?_)
  obtain ⟨c, rfl, q1⟩ := q1
  cases r1
  exact not_of (wpAny_truthy_bool ⟨.bl (!c), H1, I1, rfl, q1⟩)
/-- a if t else b -/
def tIf (t : TT) (ta tb : TE) : TE := fun σ H Q => t σ H fun c H1 => if c = true then ta σ H1 Q else tb σ H1 Q
theorem pe_ifExp {c : Expr} (hc : PT X c tA) (ha : PE X a ta) (hb : PE X b tb) : PE X (.IfExp c a b pos) (tIf tA ta tb) := by
  intro pins s σ H Q I h
  refine wpAny_IfExp (thn (hc pins s σ H _ I h) fun d s1 ⟨H1, I1, q1⟩ => ?_)
  cases d with
  | true => exact ha pins s1 σ H1 Q I1 q1
  | false => exact hb pins s1 σ H1 Q I1 q1
end
end L2

namespace L2
open PySem PySem.Spec PyProof.Rows

def SqL (K : PySem.W.Frag) (H : Hp) (a : Addr) (xs : List V) : Prop :=
  Rd H a (.lst xs) ∨
    ∃ (o : Obj) (its : Array Value) (n : Nat), K.lookup a = some o ∧ o.cls = .type "list" ∧ o.dict = none ∧ o.data = .seq its n ∧ its.size ≤ sizeLine ∧ Vals xs its.toList
def SqT (K : PySem.W.Frag) (H : Hp) (a : Addr) (xs : List V) : Prop :=
  Rd H a (.tup xs) ∨
    ∃ (o : Obj) (its : Array Value) (n : Nat), K.lookup a = some o ∧ o.cls = .type "tuple" ∧ o.data = .seq its n ∧ its.size ≤ sizeLine ∧ Vals xs its.toList
def absV : Value → Option V
  | .none => some .non
  | .bool b => some (.bl b)
  | .int i _ => some (.int i)
  | .str x _ => some (.str x)
  | .bytes b _ => some (.byt b)
  | .float b _ => some (.flt b)
  | .ref a => some (.ref a)
  | .type n => some (.ty n)
  | _ => none
theorem RelV.abs {x : V} {u : Value} (r : RelV x u) : absV u = some x := by
  cases x with
  | non => cases r; rfl
  | bl _ => cases r; rfl
  | int _ => obtain ⟨t, rfl⟩ := r; rfl
  | str _ => obtain ⟨t, rfl⟩ := r; rfl
  | byt _ => obtain ⟨t, rfl⟩ := r; rfl
  | flt _ => obtain ⟨t, rfl⟩ := r; rfl
  | ref _ => cases r; rfl
  | ty _ => cases r; rfl
theorem RelV.inj {x y : V} {u : Value} (r : RelV x u) (q : RelV y u) : x = y := Option.some.inj (r.abs.symm.trans q.abs)
theorem Vals.inj : ∀ {xs ys : List V} {us : List Value}, Vals xs us → Vals ys us → xs = ys
  | _, _, _, .nil, .nil => rfl
  | _, _, _, .cons r t, .cons r' t' => by rw [r.inj r', Vals.inj t t']
section
variable {X : Cx} {pins : List (Addr × Obj)} {σ : St} {H : Hp} {s : Shared} {a : Addr} {xs ys : List V}
theorem SqL.of {K : PySem.W.Frag} (h : H a = some (.lst xs)) : SqL K H a xs := .inl (.inl h)
theorem SqT.of {K : PySem.W.Frag} (h : H a = some (.tup xs)) : SqT K H a xs := .inl (.inl h)
theorem Inv.list (I : Inv X pins σ H s) (h : SqL X.K H a xs) : ∃ its : List Value, Vals xs its ∧ PlainL s.heap a its.toArray ∧ xs.length ≤ sizeLine := by
  rcases h with h | ⟨o, its, n, hk, hc, hd, hs, hz, r⟩
  · obtain ⟨z, its, n, r, e⟩ := h.ok I.hok
    exact ⟨its, r, ⟨_, n, e, rfl, rfl, rfl⟩, z⟩
  · refine ⟨its.toList, r, ⟨o, n, I.kIn a o hk, hc, hd, by simpa using hs⟩, ?_⟩
    have e := r.length
    simp only [Array.length_toList] at e
    omega
theorem Inv.tuple (I : Inv X pins σ H s) (h : SqT X.K H a xs) : ∃ its : List Value, Vals xs its ∧ IsTup s.heap a its.toArray ∧ xs.length ≤ sizeLine := by
  rcases h with h | ⟨o, its, n, hk, hc, hs, hz, r⟩
  · obtain ⟨z, its, r, p⟩ := h.ok I.hok
    exact ⟨its, r, p, z⟩
  · refine ⟨its.toList, r, ⟨o, I.kIn a o hk, hc, n, by simpa using hs⟩, ?_⟩
    have e := r.length
    simp only [Array.length_toList] at e
    omega
theorem Inv.list_inj (I : Inv X pins σ H s) (h : SqL X.K H a xs) (h' : SqL X.K H a ys) : xs = ys := by
  obtain ⟨its, r, ⟨o, n, e, _, _, d⟩, _⟩ := I.list h
  obtain ⟨its', r', ⟨o', n', e', _, _, d'⟩, _⟩ := I.list h'
  rw [e] at e'; cases e'
  rw [d] at d'
  injection d' with d1 _
  have : its = its' := by simpa using congrArg Array.toList d1
  subst this
  exact r.inj r'
theorem Inv.tuple_inj (I : Inv X pins σ H s) (h : SqT X.K H a xs) (h' : SqT X.K H a ys) : xs = ys := by
  obtain ⟨its, r, ⟨o, e, _, n, d⟩, _⟩ := I.tuple h
  obtain ⟨its', r', ⟨o', e', _, n', d'⟩, _⟩ := I.tuple h'
  rw [e] at e'; cases e'
  rw [d] at d'
  injection d' with d1 _
  have : its = its' := by simpa using congrArg Array.toList d1
  subst this
  exact r.inj r'
end

abbrev Cx.wish (X : Cx) (E : Value → Shared → Prop) : Cx := { X with xe := E }
/-- no exception leaves -/
abbrev Cx.nox (X : Cx) : Cx := X.wish fun _ _ => False
theorem Cx.Ok.wish {X : Cx} (ok : X.Ok) (E : Value → Shared → Prop) : (X.wish E).Ok :=
  ⟨ok.mod, ok.kind, ok.glob, ok.blt, ok.above, ok.inj, ok.has, ok.cab, ok.hd, ok.frames, ok.stk, ok.exf, ok.bs, ok.bsz, ok.noex, ok.exfs, ok.funs, ok.frf⟩
theorem Cx.Ok.unwish {X : Cx} {E : Value → Shared → Prop} (ok : (X.wish E).Ok) : X.Ok :=
  ⟨ok.mod, ok.kind, ok.glob, ok.blt, ok.above, ok.inj, ok.has, ok.cab, ok.hd, ok.frames, ok.stk, ok.exf, ok.bs, ok.bsz, ok.noex, ok.exfs, ok.funs, ok.frf⟩
section
variable {X : Cx} {pins : List (Addr × Obj)} {σ : St} {H : Hp} {s : Shared} {E : Value → Shared → Prop}
theorem Inv.wish (I : Inv X pins σ H s) (E : Value → Shared → Prop) : Inv (X.wish E) pins σ H s := ⟨I.ok.wish E, I.os, I.bare, I.base, I.loc, I.cell, I.free, I.freeC, I.pin, I.hok, I.len⟩
theorem Inv.unwish (I : Inv (X.wish E) pins σ H s) : Inv X pins σ H s := ⟨I.ok.unwish, I.os, I.bare, I.base, I.loc, I.cell, I.free, I.freeC, I.pin, I.hok, I.len⟩
theorem SP.unwish {D : Ends} {f : Flow} {s' : Shared} (h : SP (X.wish E) pins D f s') : SP X pins D f s' := by
  cases f with
  | next => obtain ⟨σ', H', I, q⟩ := h; exact ⟨σ', H', I.unwish, q⟩
  | brk => obtain ⟨σ', H', I, q⟩ := h; exact ⟨σ', H', I.unwish, q⟩
  | cont => obtain ⟨σ', H', I, q⟩ := h; exact ⟨σ', H', I.unwish, q⟩
  | ret u => obtain ⟨v, σ', H', I, r, q⟩ := h; exact ⟨v, σ', H', I.unwish, r, q⟩
theorem PE.nox {e : Expr} {t : TE} (h : PE X.nox e t) : PE X e t := fun pins s σ H Q I hw =>
  wpAny_mono (h pins s σ H Q (I.wish _) hw) (fun _ _ ⟨v, H', I', r, q⟩ => ⟨v, H', I'.unwish, r, q⟩) fun _ _ z => False.elim z
theorem PT.nox {e : Expr} {t : TT} (h : PT X.nox e t) : PT X e t := fun pins s σ H Q I hw =>
  wpAny_mono (h pins s σ H Q (I.wish _) hw) (fun _ _ ⟨H', I', q⟩ => ⟨H', I'.unwish, q⟩) fun _ _ z => False.elim z
theorem PSs.nox {st : List Stmt} {t : TS} (h : PSs X.nox st t) : PSs X st t := fun pins s σ H D I hw =>
  wpAny_mono (h pins s σ H D (I.wish _) hw) (fun _ _ q => q.unwish) fun _ _ z => False.elim z
end

section
variable {X : Cx} {st : Stmt} {rest : List Stmt} {t u : TS} {e : Expr} {te : TE} {pos : Pos}
def tNext : TS := fun D σ H => D.nx σ H
def tSeq (t u : TS) : TS := fun D σ H => t { D with nx := u D } σ H
theorem pss_nil : PSs X [] tNext := fun _ _ σ H _ I h => wpAny_execs_nil ⟨σ, H, I, h⟩
theorem pss_cons (h1 : PS X st t) (h2 : PSs X rest u) : PSs X (st :: rest) (tSeq t u) := by
  intro pins s σ H D I h
  refine wpAny_execs_cons (thn (h1 pins s σ H { D with nx := u D } I h) fun f s1 q => ?_)
  cases f with
  | next =>
    obtain ⟨σ', H', I', q⟩ := q
    exact h2 pins s1 σ' H' D I' q
  | ret v => exact q
  | brk => exact q
  | cont => exact q
theorem pss_one (h1 : PS X st t) : PSs X [st] t := by
  intro pins s σ H D I h
  refine wpAny_execs_cons (thn (h1 pins s σ H D I h) fun f s1 q => ?_)
  cases f with
  | next => exact wpAny_execs_nil q
  | ret v => exact q
  | brk => exact q
  | cont => exact q
def tBreak : TS := fun D σ H => D.bk σ H
def tCont : TS := fun D σ H => D.ct σ H
/-- in a def's body nothing is shown -/
theorem Inv.quiet {pins : List (Addr × Obj)} {σ : St} {H : Hp} {s : Shared} (I : Inv X pins σ H s) : interactive X.env = false := by simp [interactive, I.ok.kind]
/-- an expression whose value is dropped -/
def tDrop (te : TE) : TS := fun D σ H => te σ H fun _ H1 => D.nx σ H1
theorem ps_expr (he : PE X e te) (hs : swapsWith e none pos.line X.env = pure false := by rfl) : PS X (.Expr e pos) (tDrop te) := by
  intro pins s σ H D I h
  exact wpAny_Expr_any (thn (he pins s σ H _ I h) fun v s1 ⟨x, H1, I1, r1, q1⟩ => ⟨σ, H1, I1, q1⟩) I.quiet hs
def tRet (te : TE) : TS := fun D σ H => te σ H D.rt
theorem ps_ret (he : PE X e te) : PS X (.Return (some e) pos) (tRet te) := by
  intro pins s σ H D I h
  exact wpAny_Return_some (thn (he pins s σ H _ I h) fun v s1 ⟨x, H1, I1, r1, q1⟩ => ⟨x, σ, H1, I1, r1, q1⟩)
def tRetN : TS := fun D _ H => D.rt .non H
def tIfS (c : TT) (t u : TS) : TS := fun D σ H => c σ H fun b H1 => if b = true then t D σ H1 else u D σ H1
theorem ps_if {c : Expr} {a b : List Stmt} {tc : TT} (hc : PT X c tc) (ha : PSs X a t) (hb : PSs X b u) : PS X (.If c a b pos) (tIfS tc t u) := by
  intro pins s σ H D I h
  refine wpAny_If (thn (hc pins s σ H _ I h) fun d s1 ⟨H1, I1, q1⟩ => ?_)
  cases d with
  | true => exact ha pins s1 σ H1 D I1 q1
  | false => exact hb pins s1 σ H1 D I1 q1
/-- code that the proof never comes to -/
def tNever : TS := fun _ _ _ => False
end

abbrev TG := V → St → Hp → (St → Hp → Prop) → Prop
abbrev TGs := List V → St → Hp → (St → Hp → Prop) → Prop
def PG (X : Cx) (target : Expr) (t : TG) : Prop :=
  ∀ (pins : List (Addr × Obj)) (s : Shared) (σ : St) (H : Hp) (v : V) (u : Value) (Q : St → Hp → Prop), Inv X pins σ H s → RelV v u → t v σ H Q →
    wpAny (model X.prog X.w) X.A (assign target X.env u) (fun _ s' => ∃ σ' H', Inv X pins σ' H' s' ∧ Q σ' H') X.xe s
/-- several targets, one after another -/
def PGs (X : Cx) (ts : List Expr) (t : TGs) : Prop :=
  ∀ (pins : List (Addr × Obj)) (s : Shared) (σ : St) (H : Hp) (vs : List V) (us : List Value) (Q : St → Hp → Prop), Inv X pins σ H s → Vals vs us → t vs σ H Q →
    wpAny (model X.prog X.w) X.A (assignInOrder ((assignEach ts X.env).map (·.2)) us) (fun _ s' => ∃ σ' H', Inv X pins σ' H' s' ∧ Q σ' H') X.xe s
/-- o[i] = v, by values -/
abbrev TSet := V → V → V → Hp → (Hp → Prop) → Prop
def PSet (X : Cx) (t : TSet) : Prop :=
  ∀ (pins : List (Addr × Obj)) (s : Shared) (σ : St) (H : Hp) (o i v : V) (ov iv u : Value) (Q : Hp → Prop), Inv X pins σ H s → RelV o ov → RelV i iv → RelV v u → t o i v H Q →
    wpAny (model X.prog X.w) X.A (setItem ov iv u) (fun _ s' => ∃ H', Inv X pins σ H' s' ∧ Q H') X.xe s
/-- a op= b, by values -/
abbrev TIp := V → V → Hp → VK → Prop
def PIp (X : Cx) (op : Operator) (t : TIp) : Prop :=
  ∀ (pins : List (Addr × Obj)) (s : Shared) (σ : St) (H : Hp) (x y : V) (v u : Value) (Q : VK), Inv X pins σ H s → RelV x v → RelV y u → t x y H Q →
    wpAny (model X.prog X.w) X.A (inplaceOp op v u) (EP X pins σ Q) X.xe s
section
variable {X : Cx} {pos : Pos}
def gName (i : Nat) : TG := fun v σ H Q => Q (σ.set i (some v)) H
theorem pg_name {i : Nat} {x : Str} (hN : X.N.Nodup) (hi : X.N[i]? = some x) (hx : Loc X.env.scope x) (hf : X.fn x = true ∨ X.env.scope.names.lookup x = some .local := by first | exact .inl rfl | exact .inr rfl | assumption) : PG X (.Name x pos) (gName i) := by
  intro pins s σ H v u Q I r h
  exact wpAny_assign_Name (store_ok I hN hi hx r (fun s' I' => ⟨_, H, I', h⟩) hf)
def gNil : TGs := fun vs σ H Q => vs = [] ∧ Q σ H
def gCons (t : TG) (u : TGs) : TGs := fun vs σ H Q => ∃ v r, vs = v :: r ∧ t v σ H fun σ' H' => u r σ' H' Q
theorem pgs_nil : PGs X [] gNil := by
  intro pins s σ H vs us Q I r h
  obtain ⟨e, h⟩ := h
  subst e
  cases r
  exact assignInOrder_nil ⟨σ, H, I, h⟩
theorem pgs_cons {e : Expr} {es : List Expr} {t : TG} {u : TGs} (h1 : PG X e t) (h2 : PGs X es u)
    (hs : (assignEach (e :: es) X.env).map (·.2) = assign e X.env :: (assignEach es X.env).map (·.2) := by rfl) : PGs X (e :: es) (gCons t u) := by
  intro pins s σ H vs us Q I r h
  obtain ⟨v, vr, e1, h⟩ := h
  subst e1
  cases r with
  | cons r rr =>
    rw [hs]
    refine assignInOrder_cons (thn (h1 pins s σ H _ _ _ I r h) fun _ s1 ⟨σ1, H1, I1, q1⟩ => ?_)
    exact h2 pins s1 σ1 H1 _ _ Q I1 rr q1
/-- (a, b, ..) = a tuple of that length -/
def gTup (K : PySem.W.Frag) (n : Nat) (t : TGs) : TG := fun v σ H Q => ∃ a xs, v = .ref a ∧ SqT K H a xs ∧ xs.length = n ∧ t xs σ H Q
theorem pg_tup {es : List Expr} {k : Nat} {t : TGs} {n : Nat} (hc : X.calm = true) (h : PGs X es t)
    (hn : (assignEach es X.env).length = n := by rfl) (hst : (assignEach es X.env).findIdx? (·.1) = none := by rfl) : PG X (.Tuple es k pos) (gTup X.K n t) := by
  intro pins s σ H v u Q I r hw
  obtain ⟨a, xs, e1, hq, hl, hw⟩ := hw
  subst e1
  cases r
  obtain ⟨its, rv, ht, hz⟩ := I.tuple hq
  refine assign_Tuple_tuple (I.ok.hd hc) ht (by simp [hn, ← hl, rv.length]) hst fun h' hx => ?_
  have I1 : Inv X pins σ H { s with heap := h' } := I.kept (t' := s.toks) fun b o e => hx b o (Nat.ne_of_lt (Heap.lt_size e)) e
  exact h pins _ σ H xs _ Q I1 (by simpa using rv) hw
/-- o[i] = .. -/
def gSub (to ti : TE) (t : TSet) : TG := fun v σ H Q => to σ H fun o H1 => ti σ H1 fun i H2 => t o i v H2 fun H3 => Q σ H3
/-- target = value -/
def tAsg (te : TE) (g : TG) : TS := fun D σ H => te σ H fun x H1 => g x σ H1 D.nx
theorem ps_asg {tg e : Expr} {te : TE} {g : TG} (he : PE X e te) (hg : PG X tg g) (hs : swapsWithSole [tg] e pos.line X.env = pure false := by rfl) (hw : swappedStores [tg] e X.env = pure none := by rfl)
    (h1 : (assignEach [tg] X.env).map (·.2) = [assign tg X.env] := by rfl) : PS X (.Assign [tg] e pos) (tAsg te g) := by
  intro pins s σ H D I h
  refine wpAny_Assign_stores (thn (he pins s σ H _ I h) fun v s1 ⟨x, H1, I1, r1, q1⟩ => ?_) hs hw
  rw [h1]
  exact thn (hg pins s1 σ H1 x v _ I1 r1 q1) fun _ s2 q => q
/-- name = value -/
theorem ps_set {i : Nat} {x : Str} {e : Expr} {te : TE} {pos' : Pos} (hN : X.N.Nodup) (hi : X.N[i]? = some x) (hx : Loc X.env.scope x) (he : PE X e te) (hs : swapsWith e (some (.Name x pos')) pos.line X.env = pure false := by rfl) (hf : X.fn x = true ∨ X.env.scope.names.lookup x = some .local := by first | exact .inl rfl | exact .inr rfl | assumption) :
    PS X (.Assign [.Name x pos'] e pos) (tAsg te (gName i)) := by
  intro pins s σ H D I h
  refine wpAny_Assign_Name (thn (he pins s σ H _ I h) fun v s1 ⟨y, H1, I1, r1, q1⟩ => ?_) hs
  exact store_ok I1 hN hi hx r1 (fun s2 I2 => ⟨_, H1, I2, q1⟩) hf
/-- a, b = x, y with plain local names: stored from the right; the pair itself is not tracked (the opening rows as in PyProof/Rows/TupAssign.lean:23) -/
def tPar (i j : Nat) (ta : TA) : TS := fun D σ H => ta σ H fun vs H1 => ∃ v w, vs = [v, w] ∧ D.nx ((σ.set i (some v)).set j (some w)) H1
/-- name op= e -/
def tAug (i : Nat) (te : TE) (ti : TIp) : TS := fun D σ H => ∃ x, σ[i]? = some (some x) ∧ te σ H fun y H1 => ti x y H1 fun z H2 => D.nx (σ.set i (some z)) H2
theorem ps_aug {i : Nat} {x : Str} {e : Expr} {te : TE} {op : Operator} {ti : TIp} {pos' : Pos} (hN : X.N.Nodup) (hi : X.N[i]? = some x) (hx : Loc X.env.scope x) (he : PE X e te) (ho : PIp X op ti) (hf : X.fn x = true ∨ X.env.scope.names.lookup x = some .local := by first | exact .inl rfl | exact .inr rfl | assumption) :
    PS X (.AugAssign (.Name x pos') op e pos) (tAug i te ti) := by
  intro pins s σ H D I h
  obtain ⟨v, e1, h⟩ := h
  obtain ⟨m, hn, hl⟩ := I.loc
  have vis : Vis X.env.scope x := by rcases hx with k | k; exact .inl k; exact .inr (.inl k)
  obtain ⟨u, r, l⟩ := hl i x v hi e1 vis
  refine wpAny_AugAssign_Name ?_
  have go : wpAny (model X.prog X.w) X.A (eval e X.env) (fun w s₂ => wpAny (model X.prog X.w) X.A (inplaceOp op u w) (fun r s₃ => wpAny (model X.prog X.w) X.A (storeName X.env x r) (fun _ => SP X pins D .next) X.xe s₃) X.xe s₂) X.xe s := by
    refine thn (he pins s σ H _ I h) fun w s1 ⟨y, H1, I1, r1, q1⟩ => ?_
    refine thn (ho pins s1 σ H1 v y u w _ I1 r r1 q1) fun z s2 ⟨zv, H2, I2, r2, q2⟩ => ?_
    exact store_ok I2 hN hi hx r2 (fun s3 I3 => ⟨_, H2, I3, q2⟩) hf
  rcases l with ⟨hk, hm⟩ | ⟨hk, c, hc, hcell⟩
  · exact wpAny_loadName_local I.ok.kind hk hn hm go
  · rcases hk with hk | hk
    · exact wpAny_loadName_cell I.ok.kind hk hc hcell go
    · rcases hx with k | k
      · have : X.env.scope.names.lookup x = some .free := hk
        rw [k] at this; cases this
      · have : X.env.scope.names.lookup x = some .free := hk
        rw [k] at this; cases this
/-- o[i] op= e -/
def tAugS (to ti te : TE) (tget : V → V → Hp → VK → Prop) (tip : TIp) (tset : TSet) : TS := fun D σ H => to σ H fun o H1 => ti σ H1 fun i H2 => tget o i H2 fun x H3 => te σ H3 fun y H4 => tip x y H4 fun z H5 => tset o i z H5 fun H6 => D.nx σ H6
/-- o[i], by values -/
def PGet (X : Cx) (t : V → V → Hp → VK → Prop) : Prop :=
  ∀ (pins : List (Addr × Obj)) (s : Shared) (σ : St) (H : Hp) (o i : V) (ov iv : Value) (Q : VK), Inv X pins σ H s → RelV o ov → RelV i iv → t o i H Q →
    wpAny (model X.prog X.w) X.A (getItem ov iv) (EP X pins σ Q) X.xe s
/-- ints -/
def ipI (f : Int → Int → Int) : TIp := fun x y H Q => ∃ i j, x = .int i ∧ y = .int j ∧ Q (.int (f i j)) H
theorem ip_add : PIp X .Add (ipI fun i j => i + j) := by
  intro pins s σ H x y v u Q I r1 r2 h
  obtain ⟨i, j, e1, e2, q⟩ := h
  subst e1; subst e2
  obtain ⟨t, rfl⟩ := r1
  obtain ⟨t', rfl⟩ := r2
  exact iadd_int ⟨.int _, H, I.tok _, ⟨_, rfl⟩, q⟩
end

section
variable {X : Cx} {pos : Pos}
/-- the invariant W with its measure -/
def tWhile (c : TT) (tb : TS) : TS := fun D σ H => ∃ W : Nat → St → Hp → Prop, (∃ m, W m σ H) ∧ ∀ m σ H, W m σ H →
  c σ H fun b H1 => if b = true then ∃ N : St → Hp → Prop, (∀ σ' H', N σ' H' → ∃ m', m' < m ∧ W m' σ' H') ∧ tb { D with nx := N, ct := N, bk := D.nx } σ H1 else D.nx σ H1
theorem ps_while {c : Expr} {body : List Stmt} {tc : TT} {tb : TS} (hp : PassesOwn (model X.prog X.w) X.A X.env X.xe) (hc : PT X c tc) (hb : PSs X body tb) : PS X (.While c body [] pos) (tWhile tc tb) := by
  intro pins s σ H D I h
  obtain ⟨W, ⟨m0, w0⟩, turn⟩ := h
  refine wpAny_While (codeAny_whileLoop (fun n s' => ∃ σ' H', Inv X pins σ' H' s' ∧ W n σ' H') ?_ m0 ⟨σ, H, I, w0⟩)
  rintro n s1 ⟨σ1, H1, I1, w1⟩
  refine wpAny_passesOwn hp (thn (hc pins s1 σ1 H1 _ I1 (turn n σ1 H1 w1)) fun b s2 ⟨H2, I2, q2⟩ => ?_)
  cases b with
  | true =>
    obtain ⟨N, hN, q2⟩ := q2
    rw [if_pos rfl]
    refine wpAny_passesOwn hp (thn (hb pins s2 σ1 H2 _ I2 q2) fun f s3 q3 => ?_)
    cases f with
    | next =>
      obtain ⟨σ3, H3, I3, n3⟩ := q3
      obtain ⟨m', hm, w3⟩ := hN σ3 H3 n3
      exact ⟨m', hm, σ3, H3, I3, w3⟩
    | cont =>
      obtain ⟨σ3, H3, I3, n3⟩ := q3
      obtain ⟨m', hm, w3⟩ := hN σ3 H3 n3
      exact ⟨m', hm, σ3, H3, I3, w3⟩
    | brk => exact q3
    | ret v => exact q3
  | false =>
    rw [if_neg Bool.false_ne_true]
    exact wpAny_execs_nil ⟨σ1, H2, I2, q2⟩
end

/-- at turn i: it yields x (the heap may grow), or it stops -/
structure It where
  go : Nat → Hp → Prop
  yld : Nat → Hp → V → Hp → Prop
  stop : Nat → Hp → Prop
/-- the iterator's own objects may turn: they are not the frame's, not pinned, younger than the entry (or a comprehension's own) -/
def FpOk (X : Cx) (pins : List (Addr × Obj)) (H : Hp) (b : Addr) : Prop :=
  H b = none ∧ b ≠ X.env.locals ∧ b ∉ X.fs ∧ (b ∈ X.ex ∨ X.s_0.heap.objs.size ≤ b) ∧ (∀ x c, X.env.cells.lookup x = some c → c ≠ b) ∧ ∀ p ∈ X.pn ++ pins, p.1 ≠ b
theorem Inv.fpOk {X : Cx} {pins : List (Addr × Obj)} {σ : St} {H H' : Hp} {s : Shared} {b : Addr} (I : Inv X pins σ H s) (hb : s.heap.objs.size ≤ b) (hn : H' b = none) : FpOk X pins H' b := by
  refine ⟨hn, Nat.ne_of_gt (Nat.lt_of_lt_of_le I.lt hb), I.nofs hb, .inr (Nat.le_trans I.sz hb), fun x c e z => ?_, fun p hp z => ?_⟩
  · obtain ⟨v, q⟩ := I.cell x c e
    exact absurd (Nat.lt_of_lt_of_le q.lt (by rw [z]; exact hb)) (Nat.lt_irrefl _)
  · exact absurd (Nat.lt_of_lt_of_le (Heap.lt_size (I.pin p hp).1) (by rw [z]; exact hb)) (Nat.lt_irrefl _)
structure Turn (P : Program) (w : World) (K : PySem.W.Frag) (tg : Expr) (J : It) (fp : List Addr) (it : Addr) (tn : Nat → Heap → Prop) : Prop where
  mem : it ∈ fp
  obj : ∀ i h, tn i h → ∀ b ∈ fp, ∃ o, h.get? b = some o ∧ ∀ v, o.data ≠ .cell v
  keep : ∀ i h h', tn i h → (∀ b ∈ fp, ∀ o, h.get? b = some o → h'.get? b = some o) → tn i h'
  item : ∀ (X : Cx), X.prog = P → X.w = w → X.K = K → X.calm = true → ∀ (i : Nat) (pins : List (Addr × Obj)) (s : Shared) (σ : St) (H : Hp) (E : Value → Shared → Prop), Inv X pins σ H s → (∀ b ∈ fp, FpOk X pins H b) → tn i s.heap → J.go i H →
    wpAny (model P w) X.A (pyNext (.ref it)) (fun r s1 => ∃ u, r = some u ∧
      wpAny (model P w) X.A (letOwnedTupleGo tg (.ref it) u) (fun _ s2 => ∃ x H', Inv X pins σ H' s2 ∧ RelV x u ∧ J.yld i H x H' ∧ tn (i + 1) s2.heap ∧ ∀ b ∈ fp, H' b = none) E s1) E s
  done : ∀ (X : Cx), X.prog = P → X.w = w → X.K = K → X.calm = true → ∀ (i : Nat) (pins : List (Addr × Obj)) (s : Shared) (σ : St) (H : Hp) (E : Value → Shared → Prop), Inv X pins σ H s → (∀ b ∈ fp, FpOk X pins H b) → tn i s.heap → J.stop i H →
    wpAny (model P w) X.A (pyNext (.ref it)) (fun r s1 => r = none ∧ Inv X pins σ H s1) E s
  self : ∀ (A : Around) (i : Nat) (s : Shared) (Q : Value → Shared → Prop) (E : Value → Shared → Prop), tn i s.heap → Q (.ref it) s → wpAny (model P w) A (pyIter (.ref it)) Q E s
abbrev TI := St → Hp → (It → Hp → Prop) → Prop
/-- an iterator has come -/
def PIE (X : Cx) (pins : List (Addr × Obj)) (σ : St) (tg : Expr) (R : It → Hp → Prop) (itv : Value) (s2 : Shared) : Prop :=
  ∃ (it : Addr) (fp : List Addr) (tn : Nat → Heap → Prop) (J : It) (H' : Hp), itv = .ref it ∧ Inv X pins σ H' s2 ∧ Turn X.prog X.w X.K tg J fp it tn ∧ tn 0 s2.heap ∧ (∀ b ∈ fp, FpOk X pins H' b) ∧ R J H'
def PI (X : Cx) (tg iter : Expr) (wi : TI) : Prop :=
  ∀ (pins : List (Addr × Obj)) (s : Shared) (σ : St) (H : Hp) (R : It → Hp → Prop), Inv X pins σ H s → wi σ H R →
    wpAny (model X.prog X.w) X.A (eval iter X.env) (fun v s1 => wpAny (model X.prog X.w) X.A (pyIter v) (PIE X pins σ tg R) X.xe s1) X.xe s

/-- the step ahead of the store is nothing for an iterator that keeps no tuple -/
theorem go_of {M : Model} {A : Around} {E : Value → Shared → Prop} {s : Shared} {tg : Expr} {it : Addr} {u : Value} {o : Obj} {n : String} {vs : Array Value} {Q : Unit → Shared → Prop} (ho : s.heap.get? it = some o) (hc : o.cls = .type n) (hd : o.data = .fields vs)
    (hn : ["enumerate", "zip", "dict_itemiterator", "dict_reverseitemiterator", "odict_iterator", "itertools.zip_longest", "itertools.pairwise"].contains n = false) (hQ : Q () s) : wpAny M A (letOwnedTupleGo tg (.ref it) u) Q E s := by
  unfold letOwnedTupleGo
  cases tg <;> first
    | exact wpAny_pure hQ
    | (cases u <;> first
        | exact wpAny_pure hQ
        | (refine wpAny_bind (wpAny_load ho ?_)
           rw [hc, hd]
           show wpAny M A (if (["enumerate", "zip", "dict_itemiterator", "dict_reverseitemiterator", "odict_iterator", "itertools.zip_longest", "itertools.pairwise"].contains n && vs[0]? == some (rawInt _)) = true then _ else _) Q E s
           rw [if_neg (by intro h; rw [hn, Bool.false_and] at h; cases h)]
           exact wpAny_pure hQ))

/-- the list at a, as it stands at each turn (a loop may append to it) -/
def Itl (K : PySem.W.Frag) (a : Addr) : It :=
  ⟨fun i H => ∃ xs x, SqL K H a xs ∧ xs[i]? = some x, fun i H x H' => H' = H ∧ ∀ xs, SqL K H a xs → xs[i]? = some x, fun i H => ∃ xs, SqL K H a xs ∧ xs.length ≤ i⟩
def Itt (K : PySem.W.Frag) (a : Addr) : It :=
  ⟨fun i H => ∃ xs x, SqT K H a xs ∧ xs[i]? = some x, fun i H x H' => H' = H ∧ ∀ xs, SqT K H a xs → xs[i]? = some x, fun i H => ∃ xs, SqT K H a xs ∧ xs.length ≤ i⟩
/-- lo, lo + 1, .. (n of them) -/
def Itr (lo : Int) (n : Nat) : It := ⟨fun i _ => i < n, fun i H x H' => H' = H ∧ x = .int (lo + i), fun i _ => n ≤ i⟩
theorem turn_list {P : Program} {w : World} {K : PySem.W.Frag} {tg : Expr} (a it : Addr) : Turn P w K tg (Itl K a) [it] it (fun i h => h.IsListIter it a i) where
  mem := by simp
  obj := fun i h st b hb => by
    have e : b = it := by simpa using hb
    subst e
    obtain ⟨o, e, c, d⟩ := st
    exact ⟨o, e, fun v z => by rw [d] at z; cases z⟩
  keep := fun i h h' st k => st.at fun o e => k it (by simp) o e
  item := by
    intro X hP hw hK hc i pins s σ H E I hf st hg
    subst hP hw hK
    obtain ⟨xs, x, hq, hx⟩ := hg
    obtain ⟨its, rv, p, hz⟩ := I.list hq
    obtain ⟨u, hu, ru⟩ := rv.get hx
    obtain ⟨f0, f1, f2, f3, f4, f5⟩ := hf it (by simp)
    refine wpAny_pyNext_list_item st p.isList (x := u) (by simpa using hu) fun h' st' sb => ?_
    have I1 : Inv X pins σ H { s with heap := h' } := I.turned (t' := s.toks) (fun b o hb e => (sb.2 b hb).trans e) f0 f1 f3 f4 f5
    obtain ⟨o, e, c, d⟩ := id st'
    exact ⟨u, rfl, go_of (s := { s with heap := h' }) e c d (by decide) ⟨x, H, I1, ru, ⟨rfl, fun ys hy => by rw [I.list_inj hy hq]; exact hx⟩, st', fun b hb => (hf b hb).1⟩⟩
  done := by
    intro X hP hw hK hc i pins s σ H E I hf st hg
    subst hP hw hK
    obtain ⟨xs, hq, hx⟩ := hg
    obtain ⟨its, rv, p, hz⟩ := I.list hq
    obtain ⟨f0, f1, f2, f3, f4, f5⟩ := hf it (by simp)
    have hl := rv.length
    exact wpAny_pyNext_list_end (I.ok.hd hc) st p.isList (by simp; omega) fun h' eb => ⟨rfl, I.turned (t' := s.toks) (fun b o hb e => eb b o hb e) f0 f1 f3 f4 f5⟩
  self := fun _ _ _ _ _ st h => wpAny_pyIter_listiter st h
theorem turn_tuple {P : Program} {w : World} {K : PySem.W.Frag} {tg : Expr} (a it : Addr) : Turn P w K tg (Itt K a) [it] it (fun i h => h.IsTupleIter it a i) where
  mem := by simp
  obj := fun i h st b hb => by
    have e : b = it := by simpa using hb
    subst e
    obtain ⟨o, e, c, d⟩ := st
    exact ⟨o, e, fun v z => by rw [d] at z; cases z⟩
  keep := fun i h h' st k => st.at fun o e => k it (by simp) o e
  item := by
    intro X hP hw hK hc i pins s σ H E I hf st hg
    subst hP hw hK
    obtain ⟨xs, x, hq, hx⟩ := hg
    obtain ⟨its, rv, p, hz⟩ := I.tuple hq
    obtain ⟨u, hu, ru⟩ := rv.get hx
    obtain ⟨f0, f1, f2, f3, f4, f5⟩ := hf it (by simp)
    refine wpAny_pyNext_tuple_item st (show s.heap.IsTuple a its.toArray from p) (x := u) (by simpa using hu) fun h' st' sb => ?_
    have I1 : Inv X pins σ H { s with heap := h' } := I.turned (t' := s.toks) (fun b o hb e => (sb.2 b hb).trans e) f0 f1 f3 f4 f5
    obtain ⟨o, e, c, d⟩ := id st'
    exact ⟨u, rfl, go_of (s := { s with heap := h' }) e c d (by decide) ⟨x, H, I1, ru, ⟨rfl, fun ys hy => by rw [I.tuple_inj hy hq]; exact hx⟩, st', fun b hb => (hf b hb).1⟩⟩
  done := by
    intro X hP hw hK hc i pins s σ H E I hf st hg
    subst hP hw hK
    obtain ⟨xs, hq, hx⟩ := hg
    obtain ⟨its, rv, p, hz⟩ := I.tuple hq
    obtain ⟨f0, f1, f2, f3, f4, f5⟩ := hf it (by simp)
    have hl := rv.length
    exact wpAny_pyNext_tuple_end (I.ok.hd hc) st (show s.heap.IsTuple a its.toArray from p) (by simp; omega) fun h' eb => ⟨rfl, I.turned (t' := s.toks) (fun b o hb e => eb b o hb e) f0 f1 f3 f4 f5⟩
  self := fun _ _ _ _ _ st h => wpAny_pyIter_tupleiter st h
theorem turn_range {P : Program} {w : World} {K : PySem.W.Frag} {tg : Expr} (it : Addr) (lo : Int) (n : Nat) : Turn P w K tg (Itr lo n) [it] it (fun i h => IsRangeIter h it (lo + (i : Nat) * 1) ((n : Int) - (i : Nat)) 1) where
  mem := by simp
  obj := fun i h st b hb => by
    have e : b = it := by simpa using hb
    subst e
    exact ⟨_, st, fun v z => by
      have z' : Data.fields _ = Data.cell v := z
      cases z'⟩
  keep := fun i h h' st k => k it (by simp) _ st
  item := by
    intro X hP hw hK hc i pins s σ H E I hf st hg
    subst hP hw hK
    obtain ⟨f0, f1, f2, f3, f4, f5⟩ := hf it (by simp)
    have W := Walks.range (prog := X.prog) (w := X.w) (I.ok.hd hc) it lo 1 n
    refine W.item i s _ _ hg st fun v h' tk hv st' kk => ?_
    obtain ⟨t, rfl⟩ := hv
    have I1 : Inv X pins σ H { s with heap := h', toks := tk } := I.turned (fun b o hb e => kk b o (by simpa using hb) e) f0 f1 f3 f4 f5
    refine ⟨_, rfl, go_of (s := { s with heap := h', toks := tk }) (n := "range_iterator") st' rfl rfl (by decide) ⟨.int (lo + i), H, I1, ⟨t, ?_⟩, ⟨rfl, rfl⟩, st', fun b hb => (hf b hb).1⟩⟩
    rw [Int.mul_one]
  done := by
    intro X hP hw hK hc i pins s σ H E I hf st hg
    subst hP hw hK
    obtain ⟨f0, f1, f2, f3, f4, f5⟩ := hf it (by simp)
    exact wpAny_pyNext_range_end (I.ok.hd hc) st (by have : n ≤ i := hg; omega) fun h' eb => ⟨rfl, I.turned (t' := s.toks) (fun b o hb e => eb b o hb e) f0 f1 f3 f4 f5⟩
  self := fun _ _ _ _ _ st h => wpAny_pyIter_rangeiter st h
end L2

namespace L2
open PySem PySem.Spec PyProof.Rows
section
variable {X : Cx} {tg : Expr}
def iList (K : PySem.W.Frag) (tl : TE) : TI := fun σ H R => tl σ H fun x H1 => ∃ a, x = .ref a ∧ (∃ xs, SqL K H1 a xs) ∧ R (Itl K a) H1
def iTup (K : PySem.W.Frag) (tl : TE) : TI := fun σ H R => tl σ H fun x H1 => ∃ a, x = .ref a ∧ (∃ xs, SqT K H1 a xs) ∧ R (Itt K a) H1
theorem pi_list {l : Expr} {tl : TE} (hl : PE X l tl) : PI X tg l (iList X.K tl) := by
  intro pins s σ H R I h
  refine thn (hl pins s σ H _ I h) fun v s1 ⟨x, H1, I1, r1, q1⟩ => ?_
  obtain ⟨a, e, ⟨xs, hq⟩, q⟩ := q1
  subst e
  cases r1
  obtain ⟨its, rv, p, hz⟩ := I1.list hq
  refine wpAny_pyIter_list p.isList ?_
  refine ⟨s1.heap.objs.size, [s1.heap.objs.size], _, _, H1, rfl, I1.kept (t' := s1.toks) fun b o e => Heap.get?_push_of_some _ e, turn_list a _, ⟨_, Heap.get?_push_size _ rfl, rfl, rfl⟩, fun b hb => ?_, q⟩
  have e : b = s1.heap.objs.size := by simpa using hb
  subst e
  exact I1.fpOk (Nat.le_refl _) (I1.hok.fresh (Nat.le_refl _))
theorem pi_tup {l : Expr} {tl : TE} (hl : PE X l tl) : PI X tg l (iTup X.K tl) := by
  intro pins s σ H R I h
  refine thn (hl pins s σ H _ I h) fun v s1 ⟨x, H1, I1, r1, q1⟩ => ?_
  obtain ⟨a, e, ⟨xs, hq⟩, q⟩ := q1
  subst e
  cases r1
  obtain ⟨its, rv, p, hz⟩ := I1.tuple hq
  refine wpAny_pyIter_tuple (show s1.heap.IsTuple a its.toArray from p) ?_
  refine ⟨s1.heap.objs.size, [s1.heap.objs.size], _, _, H1, rfl, I1.kept (t' := s1.toks) fun b o e => Heap.get?_push_of_some _ e, turn_tuple a _, ⟨_, Heap.get?_push_size _ rfl, rfl, rfl⟩, fun b hb => ?_, q⟩
  have e : b = s1.heap.objs.size := by simpa using hb
  subst e
  exact I1.fpOk (Nat.le_refl _) (I1.hok.fresh (Nat.le_refl _))
/-- a range object just made, walked -/
theorem range_it {pins : List (Addr × Obj)} {σ : St} {H : Hp} {s : Shared} {R : It → Hp → Prop} {E : Value → Shared → Prop} {lo hi : Int} {t u v : Tok} {tk : Nat} (I : Inv X pins σ H s) (h1 : -(2 ^ 62) ≤ lo) (h2 : lo < 2 ^ 62) (h3 : -(2 ^ 62) ≤ hi) (h4 : hi < 2 ^ 62)
    (q : R (Itr lo (hi - lo).toNat) H) : wpAny (model X.prog X.w) X.A (pyIter (.ref s.heap.objs.size)) (PIE X pins σ tg R) E { s with heap := s.heap.push { cls := .type "range", data := .fields #[.int lo t, .int hi u, .int 1 v] }, toks := tk } := by
  refine wpAny_pyIter_range (IsRange.new ..) (small_one h1 h2 h3 h4) ?_
  have I1 : Inv X pins σ H { s with heap := s.heap.push { cls := .type "range", data := .fields #[.int lo t, .int hi u, .int 1 v] }, toks := tk } := I.kept fun b o e => Heap.get?_push_of_some _ e
  refine ⟨(s.heap.push { cls := .type "range", data := .fields #[.int lo t, .int hi u, .int 1 v] }).objs.size, [(s.heap.push { cls := .type "range", data := .fields #[.int lo t, .int hi u, .int 1 v] }).objs.size], _, _, H, rfl,
    I1.kept (t' := tk) fun b o e => Heap.get?_push_of_some _ e, turn_range _ lo (hi - lo).toNat, ?_, fun b hb => ?_, q⟩
  · have e1 : lo + ((0 : Nat) : Int) * 1 = lo := by simp
    have e2 : (((hi - lo).toNat : Nat) : Int) - ((0 : Nat) : Int) = Builtin.Range.rangeSize lo hi 1 := by rw [rangeSize_one]; split <;> omega
    show IsRangeIter _ _ (lo + ((0 : Nat) : Int) * 1) ((((hi - lo).toNat : Nat) : Int) - ((0 : Nat) : Int)) 1
    rw [e1, e2]
    exact Heap.get?_push_size _ rfl
  · have e : b = (s.heap.push { cls := .type "range", data := .fields #[.int lo t, .int hi u, .int 1 v] }).objs.size := by simpa using hb
    subst e
    exact I1.fpOk (Nat.le_refl _) (I1.hok.fresh (Nat.le_refl _))
def iRng1 (ta : TA) : TI := fun σ H R => ta σ H fun vs H1 => ∃ j : Int, vs = [.int j] ∧ -(2 ^ 62) ≤ j ∧ j < 2 ^ 62 ∧ R (Itr 0 j.toNat) H1
def iRng2 (ta : TA) : TI := fun σ H R => ta σ H fun vs H1 => ∃ i j : Int, vs = [.int i, .int j] ∧ (-(2 ^ 62) ≤ i ∧ i < 2 ^ 62 ∧ -(2 ^ 62) ≤ j ∧ j < 2 ^ 62) ∧ R (Itr i (j - i).toNat) H1
theorem pi_range1 {a : Expr} {ta : TA} {p pos : Pos} (hg : Gl X "range") (hm : X.mg "range" = none) (ha : PA X [a] ta) (hs : starEach [a] X.env = [(false, eval a X.env)] := by rfl) : PI X tg (.Call (.Name "range" p) [a] [] pos) (iRng1 ta) := by
  intro pins s σ H R I h
  refine Call_ (ld_blt I hg hm boot_range (PyProof.Rows.callWith_type1 (thn (ha pos pins s σ H _ I h) fun us s1 ⟨vs, H1, I1, r1, q1⟩ => ?_) hs rfl))
  obtain ⟨j, e, q1, q2, q⟩ := q1
  subst e
  cases r1 with
  | cons r rr =>
    cases rr
    obtain ⟨t, rfl⟩ := r
    exact call_range_1 (range_it I1 (by omega) (by omega) q1 q2 (by simpa using q))
/-- W: the invariant by the turn and a measure; N: what the body is to reach -/
def tFor (wi : TI) (g : TG) (tb : TS) : TS := fun D σ H => wi σ H fun J H1 => ∃ W : Nat → Nat → St → Hp → Prop, (∃ m, W 0 m σ H1) ∧ ∀ i m σ H, W i m σ H →
  (J.stop i H ∧ D.nx σ H) ∨ (J.go i H ∧ ∃ N : St → Hp → Prop, (∀ σ' H', N σ' H' → ∃ m', m' < m ∧ W (i + 1) m' σ' H') ∧ ∀ x H', J.yld i H x H' → g x σ H' fun σ2 H2 => tb { D with nx := N, ct := N, bk := D.nx } σ2 H2)
/-- the records at fp as they stand -/
def pinsAt (fp : List Addr) (h : Heap) : List (Addr × Obj) := fp.filterMap fun b => (h.get? b).map fun o => (b, o)
theorem mem_pinsAt {fp : List Addr} {h : Heap} {b : Addr} {o : Obj} (hb : b ∈ fp) (e : h.get? b = some o) : (b, o) ∈ pinsAt fp h := List.mem_filterMap.mpr ⟨b, hb, by rw [e]; rfl⟩
theorem of_pinsAt {fp : List Addr} {h : Heap} {p : Addr × Obj} (hp : p ∈ pinsAt fp h) : p.1 ∈ fp ∧ h.get? p.1 = some p.2 := by
  obtain ⟨b, hb, e⟩ := List.mem_filterMap.mp hp
  cases q : h.get? b with
  | none => rw [q] at e; cases e
  | some o =>
    rw [q] at e
    have e' : (b, o) = p := Option.some.inj e
    subst e'
    exact ⟨hb, q⟩
theorem Inv.pinned {pins : List (Addr × Obj)} {σ : St} {H : Hp} {s : Shared} {fp : List Addr} (I : Inv X pins σ H s) (hf : ∀ b ∈ fp, FpOk X pins H b) (ho : ∀ b ∈ fp, ∃ o, s.heap.get? b = some o ∧ ∀ v, o.data ≠ .cell v) : Inv X (pins ++ pinsAt fp s.heap) σ H s :=
  I.pins_of fun p hp => (List.mem_append.mp hp).elim (fun z => I.pin p (List.mem_append_right _ z)) fun z => by
    obtain ⟨hb, e⟩ := of_pinsAt z
    obtain ⟨f0, f1, f2, _⟩ := hf p.1 hb
    obtain ⟨o, e', d⟩ := ho p.1 hb
    rw [e] at e'; cases e'
    exact ⟨e, f0, f1, f2, d⟩
theorem Inv.unpinned {pins pl : List (Addr × Obj)} {σ : St} {H : Hp} {s : Shared} (I : Inv X (pins ++ pl) σ H s) : Inv X pins σ H s := I.pins_of fun p hp => I.pin p (List.mem_append_right _ (List.mem_append_left _ hp))
theorem ps_for {iter : Expr} {body : List Stmt} {wi : TI} {g : TG} {tb : TS} {pos : Pos} (hp : PassesOwn (model X.prog X.w) X.A X.env X.xe) (hc : X.calm = true) (hi : PI X tg iter wi) (hg : PG X tg g) (hb : PSs X body tb)
    (hs : ∀ x, foldedSetIterable iter X.env x = pure x := by intro _; rfl) : PS X (.For tg iter body [] pos) (tFor wi g tb) := by
  intro pins s σ H D I h
  refine wpAny_For (thn (hi pins s σ H _ I h) fun v s1 h1 => thn h1 fun itv s2 h2 => ?_) hs
  obtain ⟨it, fp, tn, J, H2, e, I2, T, st2, f2, W, ⟨m0, w0⟩, turn⟩ := h2
  subst e
  -- what stays true of the iterator's objects through the loop
  have stat : ∀ {H' : Hp}, (∀ b ∈ fp, H' b = none) → ∀ b ∈ fp, FpOk X pins H' b := fun hn b hb => ⟨hn b hb, (f2 b hb).2⟩
  refine codeAny_forLoop_any (fun n s' => ∃ i σ' H', Inv X pins σ' H' s' ∧ tn i s'.heap ∧ (∀ b ∈ fp, H' b = none) ∧ W i n σ' H') ?_ m0 ⟨0, σ, H2, I2, st2, fun b hb => (f2 b hb).1, w0⟩
  rintro n s3 ⟨i, σ3, H3, I3, st3, fr3, w3⟩
  rcases turn i n σ3 H3 w3 with ⟨stop, qn⟩ | ⟨go, N, hN, step⟩
  · refine wpAny_passesOwn hp (thn (T.done X rfl rfl rfl hc i pins s3 σ3 H3 X.xe I3 (stat fr3) st3 stop) fun r s4 ⟨hr, I4⟩ => ?_)
    subst hr
    exact wpAny_execs_nil ⟨σ3, H3, I4, qn⟩
  · refine wpAny_passesOwn hp (thn (T.item X rfl rfl rfl hc i pins s3 σ3 H3 X.xe I3 (stat fr3) st3 go) fun r s4 ⟨u, hr, h4⟩ => ?_)
    subst hr
    refine wpAny_passesOwn hp (thn h4 fun _ s5 ⟨x, H5, I5, r5, y5, st5, fr5⟩ => ?_)
    have I5' := I5.pinned (stat fr5) (T.obj _ _ st5)
    refine wpAny_passesOwn hp (thn (hg _ s5 σ3 H5 x u _ I5' r5 (step x H5 y5)) fun _ s6 ⟨σ6, H6, I6, q6⟩ => ?_)
    refine wpAny_passesOwn hp (thn (hb _ s6 σ6 H6 _ I6 q6) fun f s7 q7 => ?_)
    have again : ∀ {σ7 : St} {H7 : Hp}, Inv X (pins ++ pinsAt fp s5.heap) σ7 H7 s7 → N σ7 H7 → ∃ m, m < n ∧ ∃ i σ' H', Inv X pins σ' H' s7 ∧ tn i s7.heap ∧ (∀ b ∈ fp, H' b = none) ∧ W i m σ' H' := fun {σ7 H7} I7 n7 => by
      obtain ⟨m', hm, w7⟩ := hN σ7 H7 n7
      refine ⟨m', hm, i + 1, σ7, H7, I7.unpinned, T.keep _ _ _ st5 fun b hb o e => (I7.pin (b, o) (List.mem_append_right _ (List.mem_append_right _ (mem_pinsAt hb e)))).1, fun b hb => ?_, w7⟩
      obtain ⟨o, e, d⟩ := T.obj _ _ st5 b hb
      exact (I7.pin (b, o) (List.mem_append_right _ (List.mem_append_right _ (mem_pinsAt hb e)))).2.1
    cases f with
    | next => obtain ⟨σ7, H7, I7, n7⟩ := q7; exact again I7 n7
    | cont => obtain ⟨σ7, H7, I7, n7⟩ := q7; exact again I7 n7
    | brk => obtain ⟨σ7, H7, I7, q7⟩ := q7; exact ⟨σ7, H7, I7.unpinned, q7⟩
    | ret v => obtain ⟨x7, σ7, H7, I7, r7, q7⟩ := q7; exact ⟨x7, σ7, H7, I7.unpinned, r7, q7⟩
end

end L2

namespace L2
open PySem PySem.Spec PyProof.Rows

abbrev R2 := V → V → Hp → VK → Prop
/-- a two-place operation on values: f is binaryOp op, inplaceOp op or compareOp op -/
def OpR (X : Cx) (f : Value → Value → Sem Value) (r : R2) : Prop :=
  ∀ (pins : List (Addr × Obj)) (s : Shared) (σ : St) (H : Hp) (x y : V) (v u : Value) (Q : VK), Inv X pins σ H s → RelV x v → RelV y u → r x y H Q →
    wpAny (model X.prog X.w) X.A (f v u) (EP X pins σ Q) X.xe s
/-- a one-place operation -/
def UnR (X : Cx) (f : Value → Sem Value) (r : V → Hp → VK → Prop) : Prop :=
  ∀ (pins : List (Addr × Obj)) (s : Shared) (σ : St) (H : Hp) (x : V) (v : Value) (Q : VK), Inv X pins σ H s → RelV x v → r x H Q →
    wpAny (model X.prog X.w) X.A (f v) (EP X pins σ Q) X.xe s
/-- a call of a value that is known (a builtin, a type) with values -/
def CallR (X : Cx) (f : Value) (r : List V → Hp → VK → Prop) : Prop :=
  ∀ (pins : List (Addr × Obj)) (s : Shared) (σ : St) (H : Hp) (xs : List V) (us : List Value) (Q : VK), Inv X pins σ H s → Vals xs us → r xs H Q →
    wpAny (model X.prog X.w) X.A (call f us) (EP X pins σ Q) X.xe s
/-- a value's truth -/
def TruR (X : Cx) (r : V → Hp → (Bool → Hp → Prop) → Prop) : Prop :=
  ∀ (pins : List (Addr × Obj)) (s : Shared) (σ : St) (H : Hp) (x : V) (v : Value) (Q : Bool → Hp → Prop), Inv X pins σ H s → RelV x v → r x H Q →
    wpAny (model X.prog X.w) X.A (truthy v) (TP X pins σ Q) X.xe s

def tOp (r : R2) (ta tb : TE) : TE := fun σ H Q => ta σ H fun x H1 => tb σ H1 fun y H2 => r x y H2 Q
def tUn (r : V → Hp → VK → Prop) (ta : TE) : TE := fun σ H Q => ta σ H fun x H1 => r x H1 Q
/-- ints in, under C, and a value out -/
def rI (C : Int → Int → Prop) (g : Int → Int → V) : R2 := fun x y H Q => ∃ i j, x = .int i ∧ y = .int j ∧ C i j ∧ Q (g i j) H
def rI0 (g : Int → Int → V) : R2 := fun x y H Q => ∃ i j, x = .int i ∧ y = .int j ∧ Q (g i j) H
def rU (g : Int → V) : V → Hp → VK → Prop := fun x H Q => ∃ i, x = .int i ∧ Q (g i) H

section
variable {X : Cx} {a b c : Expr} {ta tb tc : TE} {pos : Pos}

theorem binT (ha : PE X a ta) (hb : PE X b tb) {pins : List (Addr × Obj)} {s : Shared} {σ : St} {H : Hp} {R : V → V → Hp → Prop} (I : Inv X pins σ H s)
    (h : ta σ H fun x H1 => tb σ H1 fun y H2 => R x y H2) {Q : Value → Shared → Prop} {f : Value → Value → Sem Value}
    (hf : ∀ v u s2 x y H2, Inv X pins σ H2 s2 → RelV x v → RelV y u → R x y H2 → wpAny (model X.prog X.w) X.A (f v u) Q X.xe s2) :
    wpAny (model X.prog X.w) X.A (eval a X.env) (fun v s₁ => wpAny (model X.prog X.w) X.A (eval b X.env) (fun u s₂ => wpAny (model X.prog X.w) X.A (f v u) Q X.xe s₂) X.xe s₁) X.xe s := by
  refine thn (ha pins s σ H _ I h) fun v s1 ⟨x, H1, I1, r1, q1⟩ => ?_
  refine thn (hb pins s1 σ H1 _ I1 q1) fun u s2 ⟨y, H2, I2, r2, q2⟩ => ?_
  exact hf v u s2 x y H2 I2 r1 r2 q2

theorem pe_op {op : Operator} {r : R2} (ho : OpR X (binaryOp op) r) (ha : PE X a ta) (hb : PE X b tb) : PE X (.BinOp a op b pos) (tOp r ta tb) := by
  intro pins s σ H Q I h
  exact wpAny_BinOp (binT ha hb I h fun v u s2 x y H2 I2 rx ry q => ho pins s2 σ H2 x y v u Q I2 rx ry q)
theorem pe_un {op : UnaryOp} {r : V → Hp → VK → Prop} (ho : UnR X (unaryOp op) r) (ha : PE X a ta) : PE X (.UnaryOp op a pos) (tUn r ta) := by
  intro pins s σ H Q I h
  exact UnaryOp_ (thn (ha pins s σ H _ I h) fun v s1 ⟨x, H1, I1, r1, q1⟩ => ho pins s1 σ H1 x v Q I1 r1 q1)
theorem opI {f : Value → Value → Sem Value} {C : Int → Int → Prop} {g : Int → Int → Int}
    (rule : ∀ (i j : Int) (t u : Tok) (s : Shared) (Q : Value → Shared → Prop) (E : Value → Shared → Prop), C i j → Q (.int (g i j) s.toks) { s with toks := s.toks + 1 } → wpAny (model X.prog X.w) X.A (f (.int i t) (.int j u)) Q E s) :
    OpR X f (rI C fun i j => .int (g i j)) := by
  intro pins s σ H x y v u Q I rx ry h
  obtain ⟨i, j, rfl, rfl, hc, q⟩ := h
  obtain ⟨t, rfl⟩ := rx
  obtain ⟨t', rfl⟩ := ry
  exact rule i j t t' s _ _ hc ⟨.int (g i j), H, I.tok _, ⟨_, rfl⟩, q⟩
theorem opI0 {f : Value → Value → Sem Value} {g : Int → Int → Int}
    (rule : ∀ (i j : Int) (t u : Tok) (s : Shared) (Q : Value → Shared → Prop) (E : Value → Shared → Prop), Q (.int (g i j) s.toks) { s with toks := s.toks + 1 } → wpAny (model X.prog X.w) X.A (f (.int i t) (.int j u)) Q E s) :
    OpR X f (rI0 fun i j => .int (g i j)) := by
  intro pins s σ H x y v u Q I rx ry h
  obtain ⟨i, j, rfl, rfl, q⟩ := h
  obtain ⟨t, rfl⟩ := rx
  obtain ⟨t', rfl⟩ := ry
  exact rule i j t t' s _ _ ⟨.int (g i j), H, I.tok _, ⟨_, rfl⟩, q⟩
theorem opB0 {f : Value → Value → Sem Value} {g : Int → Int → Bool}
    (rule : ∀ (i j : Int) (t u : Tok) (s : Shared) (Q : Value → Shared → Prop) (E : Value → Shared → Prop), Q (.bool (g i j)) s → wpAny (model X.prog X.w) X.A (f (.int i t) (.int j u)) Q E s) :
    OpR X f (rI0 fun i j => .bl (g i j)) := by
  intro pins s σ H x y v u Q I rx ry h
  obtain ⟨i, j, rfl, rfl, q⟩ := h
  obtain ⟨t, rfl⟩ := rx
  obtain ⟨t', rfl⟩ := ry
  exact rule i j t t' s _ _ ⟨.bl (g i j), H, I, rfl, q⟩

def CDiv (i j : Int) : Prop := 0 < j ∧ j < 1073741824
def CDivN (i j : Int) : Prop := j ≠ 0 ∧ j.natAbs < 1073741824
def CPow (i j : Int) : Prop := 0 ≤ j ∧ j ≤ 1000000 ∧ i.natAbs < 2 ^ 64
def CMul (i j : Int) : Prop := (-(2 ^ 64) < i ∧ i < 2 ^ 64) ∨ (-(2 ^ 64) < j ∧ j < 2 ^ 64)
theorem CMul.ok {i j : Int} (h : CMul i j) : IntMulOk i j := by
  rcases h with ⟨h1, h2⟩ | ⟨h1, h2⟩
  · exact .of_left (intBits_le_64 h1 h2)
  · exact .of_right (intBits_le_64 h1 h2)
theorem two_pow_nn (k : Nat) : (0 : Int) ≤ 2 ^ k := by
  rw [two_pow_cast]
  exact Int.natCast_nonneg _

theorem op_add : OpR X (binaryOp .Add) (rI0 fun i j => .int (i + j)) := opI0 fun _ _ _ _ _ _ _ q => add_int q
theorem op_sub : OpR X (binaryOp .Sub) (rI0 fun i j => .int (i - j)) := opI0 fun _ _ _ _ _ _ _ q => sub_int q
/-- % by a positive divisor of any size -/
theorem op_mod : OpR X (binaryOp .Mod) (rI (fun _ j => 0 < j) fun i j => .int (i % j)) := opI fun i j _ _ _ _ _ hc q => by
  have h1 : (0 : Int) < j := hc
  exact mod_int' (by omega) (by rw [Int.fmod_eq_emod_of_nonneg i (by omega)]; exact q)
theorem op_shl : OpR X (binaryOp .LShift) (rI CPow fun i j => .int (i * 2 ^ j.toNat)) := opI fun _ _ _ _ _ _ _ hc q => lshift_int_small hc.1 hc.2.1 hc.2.2 q
theorem op_shr : OpR X (binaryOp .RShift) (rI (fun _ j => 0 ≤ j) fun i j => .int (i / 2 ^ j.toNat)) := opI fun i j _ _ _ _ _ hc q =>
  rshift_int hc (by rw [Int.fdiv_eq_ediv_of_nonneg i (two_pow_nn _)]; exact q)
theorem op_and : OpR X (binaryOp .BitAnd) (rI0 fun i j => .int (Builtin.bitAnd i j)) := opI0 fun _ _ _ _ _ _ _ q => and_int q
theorem unI {f : Value → Sem Value} {g : Int → Int}
    (rule : ∀ (i : Int) (t : Tok) (s : Shared) (Q : Value → Shared → Prop) (E : Value → Shared → Prop), Q (.int (g i) s.toks) { s with toks := s.toks + 1 } → wpAny (model X.prog X.w) X.A (f (.int i t)) Q E s) :
    UnR X f (rU fun i => .int (g i)) := by
  intro pins s σ H x v Q I rx h
  obtain ⟨i, rfl, q⟩ := h
  obtain ⟨t, rfl⟩ := rx
  exact rule i t s _ _ ⟨.int (g i), H, I.tok _, ⟨_, rfl⟩, q⟩
theorem un_neg : UnR X (unaryOp .USub) (rU fun i => .int (-i)) := unI fun _ _ _ _ _ q => neg_int q
end

/-- the scalars that == tells apart as data does -/
def scal : V → V → Bool
  | .non, .non => true | .non, .int _ => true | .int _, .non => true | .non, .bl _ => true | .bl _, .non => true | .non, .str _ => true | .str _, .non => true
  | .int _, .int _ => true | .bl _, .bl _ => true | .str _, .str _ => true | .byt _, .byt _ => true
  | .int _, .str _ => true | .str _, .int _ => true | .bl _, .str _ => true | .str _, .bl _ => true
  | _, _ => false
def rEq : R2 := fun x y H Q => scal x y = true ∧ Q (.bl (decide (x = y))) H
def rNe : R2 := fun x y H Q => scal x y = true ∧ Q (.bl (!decide (x = y))) H

theorem dec_int {i j : Int} : decide (V.int i = V.int j) = (i == j) := by
  rw [Bool.eq_iff_iff]
  simp
theorem dec_bl {i j : Bool} : decide (V.bl i = V.bl j) = (i == j) := by
  rw [Bool.eq_iff_iff]
  simp
theorem dec_str {i j : Str} : decide (V.str i = V.str j) = (i == j) := by
  rw [Bool.eq_iff_iff]
  simp
theorem dec_byt {i j : Array UInt8} : decide (V.byt i = V.byt j) = (i.toList == j.toList) := by
  rw [Bool.eq_iff_iff]
  cases i
  cases j
  simp

section
variable {X : Cx} {a b c : Expr} {ta tb tc : TE} {pos : Pos}
theorem fin_bl {pins : List (Addr × Obj)} {σ : St} {H : Hp} {s : Shared} {Q : VK} {k k' : Bool} (I : Inv X pins σ H s) (q : Q (.bl k) H) (e : k = k') : EP X pins σ Q (.bool k') s := by
  subst e
  exact ⟨.bl k, H, I, rfl, q⟩
theorem op_eq : OpR X (compareOp .Eq) rEq := by
  intro pins s σ H x y v u Q I rx ry h
  obtain ⟨hs, q⟩ := h
  cases x with
  | non =>
    cases rx
    cases y with
    | non => cases ry; exact PySem.EqNone.eq_none_none (fin_bl I q (by simp))
    | bl j => cases ry; exact PySem.EqNone.eq_none_bool (fin_bl I q (by simp))
    | int j => obtain ⟨t', rfl⟩ := ry; exact PySem.EqNone.eq_none_int (fin_bl I q (by simp))
    | str j => obtain ⟨t', rfl⟩ := ry; exact PySem.EqNone.eq_none_str (fin_bl I q (by simp))
    | _ => exact absurd (show false = true from hs) Bool.false_ne_true
  | bl i =>
    cases rx
    cases y with
    | non => cases ry; exact PySem.EqNone.eq_bool_none (fin_bl I q (by simp))
    | bl j => cases ry; exact eq_bool (fin_bl I q dec_bl)
    | str j => obtain ⟨t', rfl⟩ := ry; exact PySem.EqMixed.eq_bool_str (fin_bl I q (by simp))
    | _ => exact absurd (show false = true from hs) Bool.false_ne_true
  | int i =>
    obtain ⟨t, rfl⟩ := rx
    cases y with
    | non => cases ry; exact PySem.EqNone.eq_int_none (fin_bl I q (by simp))
    | int j => obtain ⟨t', rfl⟩ := ry; exact eq_int (fin_bl I q dec_int)
    | str j => obtain ⟨t', rfl⟩ := ry; exact PySem.EqMixed.eq_int_str (fin_bl I q (by simp))
    | _ => exact absurd (show false = true from hs) Bool.false_ne_true
  | str i =>
    obtain ⟨t, rfl⟩ := rx
    cases y with
    | non => cases ry; exact PySem.EqNone.eq_str_none (fin_bl I q (by simp))
    | bl j => cases ry; exact PySem.EqMixed.eq_str_bool (fin_bl I q (by simp))
    | int j => obtain ⟨t', rfl⟩ := ry; exact PySem.EqMixed.eq_str_int (fin_bl I q (by simp))
    | str j => obtain ⟨t', rfl⟩ := ry; exact eq_str (fin_bl I q dec_str)
    | _ => exact absurd (show false = true from hs) Bool.false_ne_true
  | byt i =>
    obtain ⟨t, rfl⟩ := rx
    cases y with
    | byt j => obtain ⟨t', rfl⟩ := ry; exact PySem.W.eq_bytes (fin_bl I q dec_byt)
    | _ => exact absurd (show false = true from hs) Bool.false_ne_true
  | _ => cases y <;> exact absurd (show false = true from hs) Bool.false_ne_true
theorem op_ne : OpR X (compareOp .NotEq) rNe := by
  intro pins s σ H x y v u Q I rx ry h
  obtain ⟨hs, q⟩ := h
  cases x with
  | non =>
    cases rx
    cases y with
    | non => cases ry; exact PySem.EqNone.ne_none_none (fin_bl I q (by simp))
    | bl j => cases ry; exact PySem.EqNone.ne_none_bool (fin_bl I q (by simp))
    | int j => obtain ⟨t', rfl⟩ := ry; exact PySem.EqNone.ne_none_int (fin_bl I q (by simp))
    | str j => obtain ⟨t', rfl⟩ := ry; exact PySem.EqNone.ne_none_str (fin_bl I q (by simp))
    | _ => exact absurd (show false = true from hs) Bool.false_ne_true
  | bl i =>
    cases rx
    cases y with
    | non => cases ry; exact PySem.EqNone.ne_bool_none (fin_bl I q (by simp))
    | bl j => cases ry; exact ne_bool (fin_bl I q (congrArg not dec_bl))
    | str j => obtain ⟨t', rfl⟩ := ry; exact PySem.EqMixed.ne_bool_str (fin_bl I q (by simp))
    | _ => exact absurd (show false = true from hs) Bool.false_ne_true
  | int i =>
    obtain ⟨t, rfl⟩ := rx
    cases y with
    | non => cases ry; exact PySem.EqNone.ne_int_none (fin_bl I q (by simp))
    | int j => obtain ⟨t', rfl⟩ := ry; exact ne_int (fin_bl I q (congrArg not dec_int))
    | str j => obtain ⟨t', rfl⟩ := ry; exact PySem.EqMixed.ne_int_str (fin_bl I q (by simp))
    | _ => exact absurd (show false = true from hs) Bool.false_ne_true
  | str i =>
    obtain ⟨t, rfl⟩ := rx
    cases y with
    | non => cases ry; exact PySem.EqNone.ne_str_none (fin_bl I q (by simp))
    | bl j => cases ry; exact PySem.EqMixed.ne_str_bool (fin_bl I q (by simp))
    | int j => obtain ⟨t', rfl⟩ := ry; exact PySem.EqMixed.ne_str_int (fin_bl I q (by simp))
    | str j => obtain ⟨t', rfl⟩ := ry; exact ne_str (fin_bl I q (congrArg not dec_str))
    | _ => exact absurd (show false = true from hs) Bool.false_ne_true
  | byt i =>
    obtain ⟨t, rfl⟩ := rx
    cases y with
    | byt j => obtain ⟨t', rfl⟩ := ry; exact PySem.W.ne_bytes (fin_bl I q (congrArg not dec_byt))
    | _ => exact absurd (show false = true from hs) Bool.false_ne_true
  | _ => cases y <;> exact absurd (show false = true from hs) Bool.false_ne_true

theorem op_lt : OpR X (compareOp .Lt) (rI0 fun i j => .bl (decide (i < j))) := opB0 fun _ _ _ _ _ _ _ q => lt_int q
theorem op_le : OpR X (compareOp .LtE) (rI0 fun i j => .bl (decide (i ≤ j))) := opB0 fun _ _ _ _ _ _ _ q => le_int q
/-- is, is not of two objects that are tracked lists or instances -/
def isObj : HO → Bool
  | .lst _ => true
  | .ins _ _ _ => true
  | _ => false
/-- two rules for one operation: by cases -/
theorem OpR.or {f : Value → Value → Sem Value} {r r' : R2} (h : OpR X f r) (h' : OpR X f r') : OpR X f (fun x y H Q => r x y H Q ∨ r' x y H Q) := by
  intro pins s σ H x y v u Q I rx ry q
  rcases q with q | q
  · exact h pins s σ H x y v u Q I rx ry q
  · exact h' pins s σ H x y v u Q I rx ry q

theorem nomark (b : Expr) {op : CmpOp} (h : op ≠ .In := by decide) (h2 : op ≠ .NotIn := by decide) : behindInMarks op b = false := by
  have e1 : (op == CmpOp.In) = false := by cases op <;> first | rfl | exact absurd rfl h
  have e2 : (op == CmpOp.NotIn) = false := by cases op <;> first | rfl | exact absurd rfl h2
  cases b <;> simp [behindInMarks, e1, e2]
/-- a comparison as a value; hm: nomark b, or (for in, not in) by with_unfolding_all rfl -/
theorem pe_cmpR {op : CmpOp} {r : R2} (ho : OpR X (compareOp op) r) (ha : PE X a ta) (hb : PE X b tb) (hm : behindInMarks op b = false) : PE X (.Compare a [op] [b] pos) (tOp r ta tb) := by
  intro pins s σ H Q I h
  exact wpAny_Compare1 (binT ha hb I h fun v u s2 x y H2 I2 rx ry q => ho pins s2 σ H2 x y v u Q I2 rx ry q) hm
/-- a reading of a value as a test -/
def tTest (t : TE) : TT := fun σ H Q => t σ H fun x H' => ∃ k, x = .bl k ∧ Q k H'
theorem pt_cmpR {op : CmpOp} {r : R2} (ho : OpR X (compareOp op) r) (ha : PE X a ta) (hb : PE X b tb) (hm : behindInMarks op b = false) : PT X (.Compare a [op] [b] pos) (tTest (tOp r ta tb)) := by
  intro pins s σ H Q I h
  refine wpAny_isTrue_Compare1 (thn (ha pins s σ H _ I h) fun v s1 ⟨x, H1, I1, r1, q1⟩ => thn (hb pins s1 σ H1 _ I1 q1) fun u s2 ⟨y, H2, I2, r2, q2⟩ =>
    thn (ho pins s2 σ H2 x y v u _ I2 r1 r2 q2) fun c s3 ⟨z, H3, I3, r3, k, e, q3⟩ => ?_) hm
  subst e
  cases r3
  exact wpAny_truthy_bool ⟨H3, I3, q3⟩
/-- a op1 b op2 c -/
def tChain (r r' : R2) (ta tb tc : TE) : TE := fun σ H Q => ta σ H fun x H1 => tb σ H1 fun y H2 => r x y H2 fun z H3 => ∃ k, z = .bl k ∧
  (if k = true then tc σ H3 fun w' H4 => r' y w' H4 Q else Q (.bl false) H3)
theorem pe_chain {op op' : CmpOp} {r r' : R2} (ho : OpR X (compareOp op) r) (ho' : OpR X (compareOp op') r') (ha : PE X a ta) (hb : PE X b tb) (hc : PE X c tc)
    (hm : lastMarks [op, op'] [b, c] = false := by with_unfolding_all rfl) : PE X (.Compare a [op, op'] [b, c] pos) (tChain r r' ta tb tc) := by
  intro pins s σ H Q I h
  refine Compare_chain (thn (ha pins s σ H _ I h) fun v s1 ⟨x, H1, I1, r1, q1⟩ => chain_link (thn (hb pins s1 σ H1 _ I1 q1) fun u s2 ⟨y, H2, I2, r2, q2⟩ =>
    thn (ho pins s2 σ H2 x y v u _ I2 r1 r2 q2) fun d s3 ⟨z, H3, I3, r3, k, e, q3⟩ => ?_)) hm
  subst e
  cases r3
  refine wpAny_truthy_bool ?_
  cases k with
  | false => exact ite_ff ⟨.bl false, H3, I3, rfl, q3⟩
  | true => exact ite_tt (chain_last (thn (hc pins s3 σ H3 _ I3 q3) fun w' s4 ⟨z', H4, I4, r4, q4⟩ => ho' pins s4 σ H4 y z' u w' Q I4 r2 r4 q4))
/-- a value's truth by the abstract heap -/
def TruV (K : PySem.W.Frag) (x : V) (H : Hp) (k : Bool) : Prop :=
  match x with
  | .non => k = false
  | .bl b => k = b
  | .int i => k = (i != 0)
  | .str y => y.length ≤ sizeLine ∧ k = ((y.length : Int) != 0)
  | .byt y => y.size ≤ sizeLine ∧ k = ((y.size : Int) != 0)
  | .ref p => (∃ xs, SqL K H p xs ∧ k = !xs.isEmpty) ∨ (∃ xs, SqT K H p xs ∧ k = !xs.isEmpty) ∨ ∃ kvs, H p = some (.dK kvs) ∧ k = !kvs.isEmpty
  | _ => False
theorem isEmpty_kv {κ : Type} {kvs : List (κ × V)} {vs : List (κ × Value)} (r : KV kvs vs) : (!vs.isEmpty) = !kvs.isEmpty := by
  cases r <;> rfl
theorem isEmpty_of {xs : List V} {its : List Value} (r : Vals xs its) : (!its.toArray.isEmpty) = !xs.isEmpty := by
  cases r <;> simp
theorem line63 : (sizeLine : Nat) < 2 ^ 63 := by rw [sizeLine_eq]; decide
theorem tru_ok : TruR X (fun x H Q => ∃ k, TruV X.K x H k ∧ Q k H) := by
  intro pins s σ H x v Q I rx h
  obtain ⟨k, e, q⟩ := h
  have hl := line63
  have hs : sizeLine = 16777216 := sizeLine_eq
  cases x with
  | non =>
    cases rx
    have e' : k = false := e
    subst e'
    exact truthy_none ⟨H, I, q⟩
  | bl b =>
    cases rx
    have e' : k = b := e
    subst e'
    exact wpAny_truthy_bool ⟨H, I, q⟩
  | int i =>
    obtain ⟨t, rfl⟩ := rx
    have e' : k = (i != 0) := e
    subst e'
    exact PySem.P.truthy_int ⟨H, I, q⟩
  | str y =>
    obtain ⟨t, rfl⟩ := rx
    obtain ⟨hy, e'⟩ : y.length ≤ sizeLine ∧ k = ((y.length : Int) != 0) := e
    subst e'
    exact PySem.P.truthy_str (by omega) ⟨H, I.tok _, q⟩
  | byt y =>
    obtain ⟨t, rfl⟩ := rx
    obtain ⟨hy, e'⟩ : y.size ≤ sizeLine ∧ k = ((y.size : Int) != 0) := e
    subst e'
    exact PySem.W.truthy_bytes (by omega) ⟨H, I.tok _, q⟩
  | ref p =>
    cases rx
    have e' : (∃ xs, SqL X.K H p xs ∧ k = !xs.isEmpty) ∨ (∃ xs, SqT X.K H p xs ∧ k = !xs.isEmpty) ∨ ∃ kvs, H p = some (.dK kvs) ∧ k = !kvs.isEmpty := e
    rcases e' with ⟨xs, hx, e'⟩ | ⟨xs, hx, e'⟩ | ⟨kvs, hx, e'⟩
    · subst e'
      obtain ⟨its, r, pl, hz⟩ := I.list hx
      have hlen := r.length
      exact wpAny_truthy_list pl.isList (by simp only [List.size_toArray]; omega) ⟨H, I.tok _, by rw [isEmpty_of r]; exact q⟩
    · subst e'
      obtain ⟨its, r, pl, hz⟩ := I.tuple hx
      have hlen := r.length
      exact truthy_tuple pl (by simp only [List.size_toArray]; omega) ⟨H, I.tok _, by rw [isEmpty_of r]; exact q⟩
    · subst e'
      obtain ⟨hz, hS, vs, r, m⟩ : kvs.length ≤ sizeLine ∧ (p == sysModules) = false ∧ ∃ vs, KV kvs vs ∧ s.heap.DictOf (mixKind X.prog X.w) p vs := I.hok p _ hx
      have hlen : kvs.length = vs.length := Paired.length r
      exact wpAny_truthy_dict hS m (by omega) ⟨H, I.tok _, by rw [isEmpty_kv r]; exact q⟩
  | _ => exact (show False from e).elim
/-- any expression whose test is its value's truth (a name, a call, a subscript, a field ..: he by fun _ => rfl) -/
theorem pt_truth (ha : PE X a ta) (he : ∀ whole, isTrue a X.env whole = (do let v ← whole; standAt a.pos; holding [v] (truthy v))) :
    PT X a (fun σ H Q => ta σ H fun x H' => ∃ k, TruV X.K x H' k ∧ Q k H') := by
  intro pins s σ H Q I h
  exact isTrue_plain (thn (ha pins s σ H _ I h) fun v s1 ⟨x, H1, I1, r1, q1⟩ => tru_ok pins s1 σ H1 x v Q I1 r1 q1) (he _)

theorem op_add_str : OpR X (binaryOp .Add) (fun x y H Q => ∃ i j, x = .str i ∧ y = .str j ∧ i.length + j.length ≤ sizeLine ∧ Q (.str (i ++ j)) H) := by
  intro pins s σ H x y v u Q I rx ry h
  obtain ⟨i, j, rfl, rfl, hz, q⟩ := h
  obtain ⟨t, rfl⟩ := rx
  obtain ⟨t', rfl⟩ := ry
  exact add_str (fun t' tk => ⟨.str (i ++ j), H, I.tok _, ⟨_, rfl⟩, q⟩) hz
def PlainIxT (b : Expr) : Prop := ∀ o i, subscripted b false o i = operate [o, i] (getItem o i)
theorem vals1 {x : V} {us : List Value} (r : Vals [x] us) : ∃ u, us = [u] ∧ RelV x u := by
  cases r with
  | cons r1 r2 => cases r2; exact ⟨_, rfl, r1⟩
theorem vals2 {x y : V} {us : List Value} (r : Vals [x, y] us) : ∃ u w', us = [u, w'] ∧ RelV x u ∧ RelV y w' := by
  cases r with
  | cons r1 r2 =>
    cases r2 with
    | cons r3 r4 => cases r4; exact ⟨_, _, rfl, r1, r3⟩
theorem call_int1 : CallR X (.type "int") (fun xs H Q => (∃ i, xs = [.int i] ∧ Q (.int i) H) ∨ ∃ k, xs = [.bl k] ∧ Q (.int (if k then 1 else 0)) H) := by
  intro pins s σ H xs us Q I r h
  rcases h with ⟨i, rfl, q⟩ | ⟨k, rfl, q⟩
  · obtain ⟨u, rfl, t, rfl⟩ := vals1 r
    exact call_int_int ⟨.int i, H, I, ⟨_, rfl⟩, q⟩
  · obtain ⟨u, rfl, r1⟩ := vals1 r
    cases r1
    exact call_int_bool ⟨.int (if k then 1 else 0), H, I.tok _, ⟨_, rfl⟩, q⟩
/-- len of a str, a bytes, a list, a tuple -/
def LenV (K : PySem.W.Frag) (x : V) (H : Hp) (n : Nat) : Prop :=
  match x with
  | .str y => y.length ≤ sizeLine ∧ n = y.length
  | .byt y => y.size ≤ sizeLine ∧ n = y.size
  | .ref p => (∃ xs, SqL K H p xs ∧ n = xs.length) ∨ ∃ xs, SqT K H p xs ∧ n = xs.length
  | _ => False
theorem call_len : CallR X (.builtin "len") (fun xs H Q => ∃ x n, xs = [x] ∧ LenV X.K x H n ∧ Q (.int n) H) := by
  intro pins s σ H xs us Q I r h
  obtain ⟨x, n, rfl, e, q⟩ := h
  obtain ⟨u, rfl, rx⟩ := vals1 r
  have hl := line63
  have hs : sizeLine = 16777216 := sizeLine_eq
  cases x with
  | str y =>
    obtain ⟨t, rfl⟩ := rx
    obtain ⟨hy, e'⟩ : y.length ≤ sizeLine ∧ n = y.length := e
    subst e'
    exact len_str (by omega) ⟨.int _, H, I.tok _, ⟨_, rfl⟩, q⟩
  | byt y =>
    obtain ⟨t, rfl⟩ := rx
    obtain ⟨hy, e'⟩ : y.size ≤ sizeLine ∧ n = y.size := e
    subst e'
    exact PySem.W.len_bytes (by omega) ⟨.int _, H, I.tok _, ⟨_, rfl⟩, q⟩
  | ref p =>
    cases rx
    have e' : (∃ xs, SqL X.K H p xs ∧ n = xs.length) ∨ ∃ xs, SqT X.K H p xs ∧ n = xs.length := e
    rcases e' with ⟨xs, hx, e'⟩ | ⟨xs, hx, e'⟩
    · subst e'
      obtain ⟨its, r', pl, hz⟩ := I.list hx
      have hlen := r'.length
      exact Calls.call_len_list pl.isList (by simp only [List.size_toArray]; omega) ⟨.int xs.length, H, I.tok _, ⟨_, by simp only [List.size_toArray]; rw [hlen]⟩, q⟩
    · subst e'
      obtain ⟨its, r', pl, hz⟩ := I.tuple hx
      have hlen := r'.length
      exact len_tuple pl (by simp only [List.size_toArray]; omega) ⟨.int xs.length, H, I.tok _, ⟨_, by simp only [List.size_toArray]; rw [hlen]⟩, q⟩
  | _ => exact (show False from e).elim
end
end L2

namespace L2
open PySem PySem.Spec PyProof.Rows

structure ObjM (h : Heap) (x dx C : Addr) (mA : Str → Option Value) : Prop where
  obj : h.get? x = some (PySem.W.instObj C dx)
  ns : h.Ns1 dx mA
  ne : dx ≠ x

theorem lookIn_ns {h : Heap} {dx : Addr} {mA : Str → Option Value} (n : h.Ns1 dx mA) : ∃ od, h.get? dx = some od ∧ ∀ name, PySem.W.lookIn name od = some (mA name) := by
  obtain ⟨o, es, ep, ho, hd, hk, _, hm⟩ := n
  refine ⟨o, ho, fun name => ?_⟩
  have e := hm name
  unfold nsFind findBy at e
  rw [← Array.find?_toList] at e
  unfold PySem.W.lookIn
  rw [hd]
  dsimp only
  split
  · rename_i y q
    rw [q] at e
    exact congrArg some e
  · rename_i q
    rw [q] at e
    have a : es.toList.any (·.refKey) = false := by
      rw [List.any_eq_false]
      intro y hy
      obtain ⟨z, t, hkey⟩ := hk y (Array.mem_toList_iff.mp hy)
      simp [DictEntry.refKey, hkey]
    have a' : ¬ es.toList.any (·.refKey) = true := by rw [a]; exact Bool.false_ne_true
    rw [if_neg a']
    exact congrArg some e

theorem ObjM.look {h : Heap} {x dx C : Addr} {mA : Str → Option Value} (I : ObjM h x dx C mA) : ∃ od, PySem.W.InstAt h x (PySem.W.instObj C dx) C (some od) ∧ ∀ name, PySem.W.lookIn name od = some (mA name) :=
  let ⟨od, ho, hl⟩ := lookIn_ns I.ns
  ⟨od, ⟨I.obj, rfl, rfl, ho⟩, hl⟩

section
variable {prog : Program} {w : World} {A : Around} {E : Value → Shared → Prop} {s : Shared} {K : PySem.W.Frag} {x dx C f : Addr} {mA : Str → Option Value} {name : Str} {v : Value}

end

def putF (f : Str) (v : V) : List (Str × V) → List (Str × V)
  | [] => [(f, v)]
  | (g, x) :: r => if g = f then (g, v) :: r else (g, x) :: putF f v r
section
variable {P : Program} {w : World} {H H' : Hp} {h h' : Heap} {a C dx : Addr} {fs fs' : List (Str × V)}
theorem ins_get (hok : HOk P w H h) (e : H a = some (.ins C dx fs)) : ∃ mA, ObjM h a dx C mA ∧ (∀ f, RelO (fs.lookup f) (mA f)) ∧ PySem.Within mA (fs.map (·.1)) ∧ fs.length ≤ 1000 ∧ H dx = some (.own a) := by
  obtain ⟨d, z, ne, ob, mA, n, r, q⟩ := (show ObjOk P w H h a (.ins C dx fs) from hok a _ e)
  exact ⟨mA, ⟨ob, n, ne⟩, r, q, z, d⟩
end

structure Cls (K : PySem.W.Frag) (C : Addr) : Prop where
  pg : PySem.W.plainGet K C Str.empty = true
  hd : PySem.W.hasDictIn K C = true
  po : PySem.W.plainOver K C = true
  sa : PySem.W.findIn K (.ref C) "__setattr__" = some (some (.builtin "object.__setattr__"))
theorem Cls.get {K : PySem.W.Frag} {C : Addr} (c : Cls K C) (f : Str) : PySem.W.plainGet K C f = true := c.pg
/-- no class of it has the name -/
def NoAttr (K : PySem.W.Frag) (C : Addr) (f : Str) : Prop := PySem.W.findIn K (.ref C) f = some none
/-- a constant of the class -/
structure Con (K : PySem.W.Frag) (C : Addr) (f : Str) (v : V) (u : Value) : Prop where
  at_ : PySem.W.findIn K (.ref C) f = some (some u)
  rel : RelV v u
  get : PySem.W.specialIn K u "__get__" = some none
  cp : PySem.W.copiedNames.contains f = false
/-- a method: a plain def of the class or of one above it -/
structure Meth (K : PySem.W.Frag) (C : Addr) (m : Str) (f : Addr) : Prop where
  at_ : PySem.W.findIn K (.ref C) m = some (some (.ref f))
  fn : PySem.W.isFn K (.ref f) = true
  kp : PySem.W.keepIn K (.ref f) = true

section
variable {X : Cx} {pins : List (Addr × Obj)} {σ : St} {H : Hp} {s : Shared} {a C dx : Addr} {fs : List (Str × V)} {f : Str} {v : V} {A : Around} {E : Value → Shared → Prop}

/-- a new instance, tracked, without attributes -/
theorem Inv.made (I : Inv X pins σ H s) : Inv X pins σ (upd (upd H s.heap.objs.size (.own (s.heap.objs.size + 1))) (s.heap.objs.size + 1) (.ins C s.heap.objs.size []))
    { s with heap := (s.heap.push PySem.W.emptyDict).push (PySem.W.instObj C s.heap.objs.size) } := by
  have e1 : (s.heap.push PySem.W.emptyDict).get? s.heap.objs.size = some PySem.W.emptyDict := Heap.get?_push_size s.heap rfl
  have e2 : ((s.heap.push PySem.W.emptyDict).push (PySem.W.instObj C s.heap.objs.size)).get? (s.heap.objs.size + 1) = some (PySem.W.instObj C s.heap.objs.size) := by
    have := Heap.get?_push_size (s.heap.push PySem.W.emptyDict) (o := PySem.W.instObj C s.heap.objs.size) rfl
    rwa [Heap.size_push] at this
  have e3 : (s.heap.push PySem.W.emptyDict).Ns s.heap.objs.size (fun _ => none) := ⟨PySem.W.emptyDict, #[], _, e1, rfl, (fun e he => absurd he (by simp)), fun _ => rfl⟩
  have I1 := I.laid (a := s.heap.objs.size) (o := .own (s.heap.objs.size + 1)) (h' := s.heap.push PySem.W.emptyDict) (t' := s.toks) (fun b u q => Heap.get?_push_of_some _ q) (Nat.le_refl _) ⟨_, e1⟩
  refine I1.laid (a := s.heap.objs.size + 1) (o := .ins C s.heap.objs.size []) (t' := s.toks) (fun b u q => Heap.get?_push_of_some _ q) (Nat.le_of_eq (Heap.size_push _ _)) ?_
  have ne : s.heap.objs.size ≠ s.heap.objs.size + 1 := Nat.ne_of_lt (Nat.lt_succ_self _)
  refine ⟨by rw [upd_ne ne, upd_same], Nat.zero_le _, ne, e2, fun _ => none, (Heap.Ns1.of_empty e3).at fun o q => Heap.get?_push_of_some _ q, fun _ => True.intro, fun y hy => absurd rfl hy⟩

end

/-- e.f, an attribute of the instance -/
def tFld (K : PySem.W.Frag) (ta : TE) (f : Str) : TE := fun σ H Q => ta σ H fun x H1 => ∃ a C dx fs v, x = .ref a ∧ H1 a = some (.ins C dx fs) ∧ Cls K C ∧ NoAttr K C f ∧ fs.lookup f = some v ∧ Q v H1
/-- e.f, a constant of the class -/
def tCon (K : PySem.W.Frag) (ta : TE) (f : Str) : TE := fun σ H Q => ta σ H fun x H1 => ∃ a C dx fs v u, x = .ref a ∧ H1 a = some (.ins C dx fs) ∧ Cls K C ∧ Con K C f v u ∧ fs.lookup f = none ∧ Q v H1
/-- e.f = value -/
def sFld (K : PySem.W.Frag) (ta tv : TE) (f : Str) : TS := fun D σ H => tv σ H fun y H1 => ta σ H1 fun x H2 => ∃ a C dx fs, x = .ref a ∧ H2 a = some (.ins C dx fs) ∧ Cls K C ∧ NoAttr K C f ∧ fs.length < 1000 ∧
  D.nx σ (upd H2 a (.ins C dx (putF f y fs)))
/-- an augmented operator on two values -/
def InOp (X : Cx) (op : Operator) (rd : V → V → Hp → VK → Prop) : Prop :=
  ∀ (pins : List (Addr × Obj)) (s : Shared) (σ : St) (H : Hp) (x y : V) (u v : Value) (Q : VK), Inv X pins σ H s → RelV x u → RelV y v → rd x y H Q → wpAny (model X.prog X.w) X.A (inplaceOp op u v) (EP X pins σ Q) X.xe s
/-- e.f op= value -/
def sFldAug (K : PySem.W.Frag) (ta tv : TE) (rd : V → V → Hp → VK → Prop) (f : Str) : TS := fun D σ H => ta σ H fun x H1 => ∃ a C dx fs v, x = .ref a ∧ H1 a = some (.ins C dx fs) ∧ Cls K C ∧ NoAttr K C f ∧ fs.lookup f = some v ∧
  tv σ H1 fun y H2 => rd v y H2 fun z H3 => ∃ dx' fs', H3 a = some (.ins C dx' fs') ∧ fs'.length < 1000 ∧ D.nx σ (upd H3 a (.ins C dx' (putF f z fs')))

section
variable {X : Cx} {o e value : Expr} {f : Str} {pos pos' tpos : Pos} {ta tv : TE}
def rAdd : V → V → Hp → VK → Prop := fun x y H Q => ∃ i j, x = .int i ∧ y = .int j ∧ Q (.int (i + j)) H
def rSub : V → V → Hp → VK → Prop := fun x y H Q => ∃ i j, x = .int i ∧ y = .int j ∧ Q (.int (i - j)) H
end

section
variable {X : Cx} {pins : List (Addr × Obj)} {σ : St} {H : Hp} {s : Shared} {A : Around} {E : Value → Shared → Prop} {Q : Value → Shared → Prop} {c : Value} {b : Bool}
/-- the type of a value, as the fragment's deciders take it; for an instance its class -/
inductive TyOf (K : PySem.W.Frag) (H : Hp) : V → Value → Prop where
  | non : TyOf K H .non (.type "NoneType")
  | bl (x : Bool) : TyOf K H (.bl x) (.type "bool")
  | int (i : Int) : TyOf K H (.int i) (.type "int")
  | str (x : Str) : TyOf K H (.str x) (.type "str")
  | flt (x : UInt64) : TyOf K H (.flt x) (.type "float")
  | lst {a : Addr} {xs : List V} (e : H a = some (.lst xs)) : TyOf K H (.ref a) (.type "list")
  | frz {a : Addr} {o : Obj} {xs : List V} (e : H a = some (.frz o (.lst xs))) : TyOf K H (.ref a) (.type "list")
  | tup {a : Addr} {xs : List V} (e : H a = some (.tup xs)) : TyOf K H (.ref a) (.type "tuple")
  | dK {a : Addr} {kvs : List (Key × V)} (e : H a = some (.dK kvs)) : TyOf K H (.ref a) (.type "dict")
  | dT {a : Addr} {kvs : List (List Key × V)} (e : H a = some (.dT kvs)) : TyOf K H (.ref a) (.type "dict")
  | ins {a C dx : Addr} {fs : List (Str × V)} (e : H a = some (.ins C dx fs)) (cl : Cls K C) (ha : PySem.W.findIn K (.ref C) "__class__" = some (some (.builtin "object.__class__")))
      (hn : PySem.W.specialIn K (.builtin "object.__class__") "__get__" = some (some (.builtin "getset_descriptor.__get__"))) (htk : PySem.W.takesIn K (.builtin "object.__class__") = some true)
      (hm : PySem.W.mroIn K C (.type "object") = some true) : TyOf K H (.ref a) (.ref C)
/-- isinstance(x, c) for one class c, a built-in or an own one: kitOne's answer -/
theorem isinst_ok {x : V} {u t : Value} (I : Inv X pins σ H s) (rx : RelV x u) (ty : TyOf X.K H x t) (e : PySem.W.kitOne X.K t c = some b) (h : ∀ tk, Q (.bool b) { s with toks := tk }) :
    wpAny (model X.prog X.w) A (call (.builtin "isinstance") [u, c]) Q E s := by
  cases ty with
  | non => cases (show u = Value.none from rx); exact PySem.W.kia_one PySem.W.kitx_none I.kIn True.intro e (fun z => nomatch z) h
  | bl y => cases (show u = Value.bool y from rx); exact PySem.W.kia_one PySem.W.kitx_bool I.kIn True.intro e (fun z => nomatch z) h
  | int i => obtain ⟨t, q⟩ := (show ∃ t, u = Value.int i t from rx); cases q; exact PySem.W.kia_one PySem.W.kitx_int I.kIn True.intro e (fun z => nomatch z) h
  | str y => obtain ⟨t, q⟩ := (show ∃ t, u = Value.str y t from rx); cases q; exact PySem.W.kia_one PySem.W.kitx_str I.kIn True.intro e (fun z => nomatch z) h
  | flt y => obtain ⟨t, q⟩ := (show ∃ t, u = Value.float y t from rx); cases q; exact PySem.W.kia_one PySem.W.kitx_float I.kIn True.intro e (fun z => nomatch z) h
  | @lst a xs ea =>
    cases (show u = Value.ref a from rx)
    obtain ⟨_, _, n, _, h1⟩ := (show ObjOk X.prog X.w H s.heap a (.lst xs) from I.hok a _ ea)
    exact PySem.W.kia_one PySem.W.kitx_list I.kIn ⟨_, h1, rfl⟩ e (fun z => nomatch z) h
  | @frz a ob xs ea =>
    cases (show u = Value.ref a from rx)
    obtain ⟨_, _, _, n, _, h1⟩ := (show ObjOk X.prog X.w H s.heap a (.frz ob (.lst xs)) from I.hok a _ ea)
    exact PySem.W.kia_one PySem.W.kitx_list I.kIn ⟨_, h1, rfl⟩ e (fun z => nomatch z) h
  | @tup a xs ea =>
    cases (show u = Value.ref a from rx)
    obtain ⟨_, _, _, p⟩ := (show ObjOk X.prog X.w H s.heap a (.tup xs) from I.hok a _ ea)
    obtain ⟨o, h1, h2, _⟩ := p
    exact PySem.W.kia_one PySem.W.kitx_tuple I.kIn ⟨o, h1, h2⟩ e (fun z => nomatch z) h
  | @dK a kvs ea =>
    cases (show u = Value.ref a from rx)
    obtain ⟨_, _, vs, _, p⟩ := (show ObjOk X.prog X.w H s.heap a (.dK kvs) from I.hok a _ ea)
    obtain ⟨o, es, ep, h1, h2, _⟩ := p
    exact PySem.W.kia_one PySem.W.kitx_dict I.kIn ⟨o, h1, h2.1⟩ e (fun z => nomatch z) h
  | @dT a kvs ea =>
    cases (show u = Value.ref a from rx)
    obtain ⟨_, _, xs, _, o, es, ep, h1, h2, _⟩ := (show ObjOk X.prog X.w H s.heap a (.dT kvs) from I.hok a _ ea)
    exact PySem.W.kia_one PySem.W.kitx_dict I.kIn ⟨o, h1, h2.1⟩ e (fun z => nomatch z) h
  | @ins a C dx fs ea cl ha hn htk hm =>
    cases (show u = Value.ref a from rx)
    obtain ⟨mA, O, _⟩ := ins_get I.hok ea
    obtain ⟨od, J, _⟩ := O.look
    exact PySem.W.kia_one (PySem.W.kitx_own (cl.get _) cl.hd ha hn htk hm) I.kIn J e (fun z => nomatch z) h
end
end L2

namespace L2
open PySem PySem.Spec PyProof.Rows

structure Room (k : Nat) (A : Around) : Prop where
  hd : A.handled = none
  dp : A.depth + 3 * k + 5 < recursionLimit
  un : A.units + 16 * k + 200 < cLine
theorem Room.mono {j k : Nat} {A : Around} (r : Room k A) (h : j ≤ k) : Room j A := ⟨r.hd, by have := r.dp; omega, by have := r.un; omega⟩
theorem Room.deeper {k : Nat} {A : Around} (r : Room (k + 1) A) (env : Env) : Room k (A.deeper env) :=
  ⟨r.hd, by have := r.dp; show A.depth + 1 + 3 * k + 5 < _; omega, by have := r.un; show A.units + 3 + 16 * k + 200 < _; omega⟩
theorem Room.in1 {k : Nat} {A : Around} (r : Room (k + 1) A) : Room k A.in1 :=
  ⟨r.hd, by have := r.dp; show A.depth + 3 * k + 5 < _; omega, by have := r.un; show A.units + 1 + 16 * k + 200 < _; omega⟩
theorem Room.depth {k : Nat} {A : Around} (r : Room k A) : A.depth < recursionLimit := by have := r.dp; omega
theorem Room.units {k : Nat} {A : Around} (r : Room k A) : A.units + 64 < cLine := by have := r.un; omega
def tNil : TA := fun _ H Q => Q [] H
def tCons (ta : TE) (tr : TA) : TA := fun σ H Q => ta σ H fun x H1 => tr σ H1 fun xs H2 => Q (x :: xs) H2
section
variable {X : Cx} {e : Expr} {es : List Expr} {te : TE} {t : TA} {pos : Pos}
theorem pa_nil : PA X [] tNil := fun _ _ _ _ H Q I h => Calls.spliced_nil ⟨[], H, I, .nil, h⟩
theorem pa_cons (ha : PE X e te) (hr : PA X es t) (hs : starEach (e :: es) X.env = (false, eval e X.env) :: starEach es X.env := by rfl) : PA X (e :: es) (tCons te t) := by
  intro pos pins s σ H Q I h
  rw [hs]
  show wpAny _ _ (spliced ((false, eval e X.env) :: backTo pos (starEach es X.env))) _ _ s
  refine Calls.spliced_cons (thn (ha pins s σ H _ I h) fun u s1 ⟨x, H1, I1, r1, q1⟩ => ?_)
  exact thn (hr pos pins s1 σ H1 _ I1 q1) fun us s2 ⟨xs, H2, I2, r2, q2⟩ => ⟨x :: xs, H2, I2, .cons r1 r2, q2⟩

/-- a tuple, a list of written items -/
def tTup (t : TA) : TE := fun σ H Q => t σ H fun xs H1 => xs.length ≤ sizeLine ∧ ∀ p, H1 p = none → Q (.ref p) (upd H1 p (.tup xs))
def tLst (t : TA) : TE := fun σ H Q => t σ H fun xs H1 => xs.length ≤ sizeLine ∧ ∀ p, H1 p = none → Q (.ref p) (upd H1 p (.lst xs))
theorem pe_tup {x1} (h : PA X es t) : PE X (.Tuple es x1 pos) (tTup t) := by
  intro pins s σ H Q I hq
  refine wpAny_Tuple_spliced (thn (h pos pins s σ H _ I hq) fun us s1 ⟨xs, H1, I1, r, z, q⟩ => ⟨by rw [← r.length]; exact z, ?_⟩)
  have hf : H1 s1.heap.objs.size = none := I1.hok.fresh (Nat.le_refl _)
  refine ⟨.ref s1.heap.objs.size, upd H1 s1.heap.objs.size (.tup xs), I1.laid (t' := s1.toks) (fun b u e => Heap.get?_push_of_some _ e) (Nat.le_refl _) ?_, rfl, q _ hf⟩
  exact ⟨z, us, r, ⟨_, Heap.get?_push_size _ rfl, rfl, _, rfl⟩⟩
theorem pe_lst (h : PA X es t) : PE X (.List es pos) (tLst t) := by
  intro pins s σ H Q I hq
  refine wpAny_List_spliced (thn (h pos pins s σ H _ I hq) fun us s1 ⟨xs, H1, I1, r, z, q⟩ => ⟨by rw [← r.length]; exact z, ?_⟩)
  have hf : H1 s1.heap.objs.size = none := I1.hok.fresh (Nat.le_refl _)
  refine ⟨.ref s1.heap.objs.size, upd H1 s1.heap.objs.size (.lst xs), I1.laid (t' := s1.toks) (fun b u e => Heap.get?_push_of_some _ e) (Nat.le_refl _) ?_, rfl, q _ hf⟩
  exact ⟨z, us, 0, r, Heap.get?_push_size _ rfl⟩
end

/-- a def's promise: the bound arguments in the parameters' order, the heap, the wanted end, the wanted exception -/
abbrev Sp := List V → Hp → VK → XK → Prop
/-- how an exception lies behind a call (file 08 gives it): the callers' frames, abstract heap and state ahead of the call, the wish, the exception, the state -/
abbrev CXT := List Env → Hp → Shared → XK → Value → Shared → Prop

/-- the state at a call -/
structure Env0 (P : Program) (w : World) (K : PySem.W.Frag) (mg : Str → Option Value) (base : Heap) (A : Around) (outer : List Env) (s : Shared) (H : Hp) : Prop where
  frames : A.frames = some outer
  mod : Mod K mg base
  bs : ∀ b o, base.get? b = some o → s.heap.get? b = some o ∧ H b = none
  bsz : base.objs.size ≤ s.heap.objs.size
  funs : s.heap.FunFrames base outer
  frf : ∀ b ∈ frs outer, H b = none
  hok : HOk P w H s.heap
  bare : AllBare s.gens
/-- a call's end -/
def CE (outer : List Env) (P : Program) (w : World) (H : Hp) (s : Shared) (Q : VK) (u : Value) (s' : Shared) : Prop :=
  ∃ v H', s'.os = s.os ∧ GB s.gens s'.gens ∧ Un (frs outer) [] H H' s.heap s'.heap ∧ HOk P w H' s'.heap ∧ RelV v u ∧ Q v H'
def CR (CX : CXT) (outer : List Env) (P : Program) (w : World) (H : Hp) (s : Shared) (Q : VK) (E : XK) (r : Result) (s' : Shared) : Prop :=
  match r with
  | .ok (.ret u) => CE outer P w H s Q u s'
  | .ok _ => False
  | .error e => CX outer H s E e s'
structure FnOk (P : Program) (w : World) (K : PySem.W.Frag) (mg : Str → Option Value) (base : Heap) (CX : CXT) (k : Nat) (f : Addr) (fd : FuncData) (ps : List Str) (sp : Sp) : Prop where
  len : ∀ vs H Q E, sp vs H Q E → vs.length = ps.length
  run : ∀ (A : Around) (outer : List Env) (s : Shared) (H : Hp) (args : Args) (us : List Value) (vs : List V) (Q : VK) (E : XK), Room k A → Env0 P w K mg base A outer s H → BindsTo s fd args (ps.zip us) → Vals vs us → sp vs H Q E →
    codeAny (model P w) A (.call (.ref f) args) (CR CX outer P w H s Q E) s
theorem FnOk.mono {P : Program} {w : World} {K : PySem.W.Frag} {mg : Str → Option Value} {base : Heap} {CX : CXT} {j k : Nat} {f : Addr} {fd : FuncData} {ps : List Str} {sp : Sp} (F : FnOk P w K mg base CX j f fd ps sp) (h : j ≤ k) :
    FnOk P w K mg base CX k f fd ps sp := ⟨F.len, fun A outer s H args us vs Q E hr => F.run A outer s H args us vs Q E (hr.mono h)⟩
/-- a weaker promise -/
theorem FnOk.imp {P : Program} {w : World} {K : PySem.W.Frag} {mg : Str → Option Value} {base : Heap} {CX : CXT} {k : Nat} {f : Addr} {fd : FuncData} {ps : List Str} {sp sp' : Sp} (F : FnOk P w K mg base CX k f fd ps sp)
    (h : ∀ vs H Q E, sp' vs H Q E → sp vs H Q E) : FnOk P w K mg base CX k f fd ps sp' :=
  ⟨fun vs H Q E q => F.len vs H Q E (h _ _ _ _ q), fun A outer s H args us vs Q E hr he hb hv hs => F.run A outer s H args us vs Q E hr he hb hv (h _ _ _ _ hs)⟩

theorem Env0.in1 {P : Program} {w : World} {K : PySem.W.Frag} {mg : Str → Option Value} {base : Heap} {A : Around} {outer : List Env} {s : Shared} {H : Hp} (e : Env0 P w K mg base A outer s H) :
    Env0 P w K mg base A.in1 outer s H := ⟨e.frames, e.mod, e.bs, e.bsz, e.funs, e.frf, e.hok, e.bare⟩

section
variable {X : Cx} {pins : List (Addr × Obj)} {σ : St} {H : Hp} {s s' : Shared}
/-- from a body: what a callee wants -/
theorem Inv.env0 (I : Inv X pins σ H s) : Env0 X.prog X.w X.K X.mg X.base X.A X.stack s H :=
  ⟨I.ok.frames, I.ok.mod, I.bs, Nat.le_trans I.ok.bsz I.sz, I.stack, I.stkFree, I.hok, I.bare.1⟩
/-- behind a call -/
theorem Inv.after {Q : VK} {u : Value} (I : Inv X pins σ H s) (h : CE X.stack X.prog X.w H s Q u s') : EP X pins σ Q u s' := by
  obtain ⟨v, H', os, bare, un, hok, r, q⟩ := h
  obtain ⟨hh, g, d, t, os'⟩ := s'
  obtain rfl : os' = s.os := os
  exact ⟨v, H', I.call (h' := hh) (g' := g) (d' := d) (t' := t) (ch := []) un hok bare (fun b z => absurd z (by simp)), r, q⟩
end

/-- f(..): the written arguments, then the defaults dvs; E: what is wanted of an exception -/
def tCall (sp : Sp) (dvs : List V) (E : XK) (t : TA) : TE := fun σ H Q => t σ H fun vs H1 => sp (vs ++ dvs) H1 Q E
/-- o.m(..) of an instance of the class at C -/
def tMeth (C : Addr) (m : Str) (sp : Sp) (dvs : List V) (E : XK) (ta : TE) (t : TA) : TE := fun σ H Q => ta σ H fun x H1 => ∃ a dx fs, x = .ref a ∧ H1 a = some (.ins C dx fs) ∧ fs.lookup m = none ∧
  t σ H1 fun vs H2 => sp (x :: (vs ++ dvs)) H2 Q E
/-- C(..): a new instance and its dict, then __init__ -/
def tMake (C : Addr) (sp : Sp) (dvs : List V) (E : XK) (t : TA) : TE := fun σ H Q => t σ H fun vs H1 => ∀ x dx, H1 x = none → H1 dx = none → dx ≠ x →
  sp (.ref x :: (vs ++ dvs)) (upd (upd H1 dx (.own x)) x (.ins C dx [])) (fun v H2 => v = .non ∧ Q (.ref x) H2) E

/-- how the parameters are bound: us the positional arguments, kw the keywords' values by name, ds the defaults that fill up -/
def Binds (K : PySem.W.Frag) (fd : FuncData) (ps : List Str) (ds : List Value) : Prop :=
  ∀ (s : Shared) (us : List Value), K.In s.heap → (us ++ ds).length = ps.length → BindsTo s fd ⟨us, []⟩ (ps.zip (us ++ ds))
/-- every parameter is given -/
theorem Binds.all {K : PySem.W.Frag} {fd : FuncData} {ps : List Str} (h : ∀ us : List Value, us.length = ps.length → bindArgs fd ⟨us, []⟩ = pure (ps.zip us)) : Binds K fd ps [] := fun s us _ hl => by
  rw [List.append_nil] at hl ⊢
  exact .of_eq (h us hl)

/-- an exception of a callee reaches what this body wants of exceptions -/
def Passes (CX : CXT) (X : Cx) (E : XK) : Prop := ∀ (pins : List (Addr × Obj)) (σ : St) (H : Hp) (s : Shared) (e : Value) (s' : Shared), Inv X pins σ H s → CX X.stack H s E e s' → X.xe e s'

section
variable {X : Cx} {CX : CXT} {k : Nat} {f C : Addr} {fd : FuncData} {ps : List Str} {sp : Sp} {dvs : List V} {ds : List Value} {E : XK} {x m : Str} {p pos apos : Pos} {e o : Expr} {es : List Expr} {ta : TE} {t : TA}

/-- what a class must have to be made -/
structure Mk (K : PySem.W.Frag) (C f : Addr) : Prop where
  makes : PySem.W.makesIn K C = true
  init : PySem.W.findIn K (.ref C) "__init__" = some (some (.ref f))
  fn : PySem.W.isFn K (.ref f) = true
  kp : PySem.W.keepIn K (.ref C) = true

end

/-- the values of the keywords, from the left -/
def PK (X : Cx) (kws : List Keyword) (t : TA) : Prop :=
  ∀ (pos : Pos) (pins : List (Addr × Obj)) (s : Shared) (σ : St) (H : Hp) (Q : List V → Hp → Prop), Inv X pins σ H s → t σ H Q → wpAny (model X.prog X.w) X.A (evalAll ((backToKw pos (keywordEach kws X.env)).map (·.2))) (AP X pins σ Q) X.xe s
section
variable {X : Cx} {CX : CXT} {k : Nat} {f C : Addr} {fd : FuncData} {ps ks : List Str} {sp : Sp} {E : XK} {x m : Str} {p pos apos kpos : Pos} {e o : Expr} {es : List Expr} {kws : List Keyword} {te ta : TE} {t tk : TA} {nm : Option Str}
/-- how a call with keywords binds: g puts the positional values us and the keywords' values ws (names ks) in the parameters' order, defaults among them -/
structure KBinds (K : PySem.W.Frag) (fd : FuncData) (ps ks : List Str) (g : List Value → List Value → List Value) (gV : List V → List V → List V) : Prop where
  to : ∀ (s : Shared) (us ws : List Value), K.In s.heap → (g us ws).length = ps.length → BindsTo s fd ⟨us, ks.zip ws⟩ (ps.zip (g us ws))
  rel : ∀ {vs : List V} {us : List Value} {zs : List V} {ws : List Value}, Vals vs us → Vals zs ws → Vals (gV vs zs) (g us ws)
def tCallK (sp : Sp) (gV : List V → List V → List V) (E : XK) (t tk : TA) : TE := fun σ H Q => t σ H fun vs H1 => tk σ H1 fun zs H2 => sp (gV vs zs) H2 Q E
variable {g : List Value → List Value → List Value} {gV : List V → List V → List V}
end

/-- names: the parameters first -/
structure FnScope (N P : List Str) (sc : Scope) : Prop where
  kind : sc.kind = .function
  co : sc.isCoroutine = false
  gen : sc.isGenerator = false
  nd : N.Nodup
  pre : N.take P.length = P
  par : ∀ x ∈ P, sc.names.lookup x = some .local ∨ sc.names.lookup x = some .cell
  nofree : ∀ y ∈ sc.names, y.2 ≠ .free

theorem bindL_out {kindOf : Str → Option NameKind} {x : Str} : ∀ {binds : List (Str × Value)} {m : Str → Option Value}, (∀ v, (x, v) ∉ binds) → bindL kindOf binds m x = m x
  | [], _, _ => rfl
  | (n, v) :: r, m, h => by
    unfold bindL
    rw [bindL_out fun w hw => h w (List.mem_cons_of_mem _ hw)]
    split
    · have : x ≠ n := by rintro rfl; exact h v List.mem_cons_self
      simp [this]
    · rfl
theorem bindC_out {kindOf : Str → Option NameKind} {x : Str} : ∀ {binds : List (Str × Value)} {m : Str → Option Value}, (∀ v, (x, v) ∉ binds) → bindC kindOf binds m x = m x
  | [], _, _ => rfl
  | (n, v) :: r, m, h => by
    unfold bindC
    rw [bindC_out fun w hw => h w (List.mem_cons_of_mem _ hw)]
    split
    · rfl
    · have : x ≠ n := by rintro rfl; exact h v List.mem_cons_self
      simp [this]
theorem bindL_get {kindOf : Str → Option NameKind} {x : Str} {v : Value} : ∀ {P : List Str} {vs : List Value} {i : Nat} {m : Str → Option Value}, P.Nodup → P[i]? = some x → vs[i]? = some v → kindOf x = some .local →
    bindL kindOf (P.zip vs) m x = some v
  | [], _, _, _, _, h, _, _ => by simp at h
  | _ :: _, [], _, _, _, _, h, _ => by simp at h
  | p :: P, w :: vs, 0, m, nd, h1, h2, hk => by
    simp at h1 h2; subst h1; subst h2
    show bindL kindOf ((p, w) :: P.zip vs) m p = _
    unfold bindL
    rw [bindL_out fun v hv => (List.nodup_cons.mp nd).1 (List.of_mem_zip hv).1, if_pos hk]
    simp
  | p :: P, w :: vs, i + 1, m, nd, h1, h2, hk => by
    show bindL kindOf ((p, w) :: P.zip vs) m x = _
    unfold bindL
    exact bindL_get (i := i) (List.nodup_cons.mp nd).2 (by simpa using h1) (by simpa using h2) hk
theorem bindC_get {kindOf : Str → Option NameKind} {x : Str} {v : Value} : ∀ {P : List Str} {vs : List Value} {i : Nat} {m : Str → Option Value}, P.Nodup → P[i]? = some x → vs[i]? = some v → kindOf x ≠ some .local →
    bindC kindOf (P.zip vs) m x = some v
  | [], _, _, _, _, h, _, _ => by simp at h
  | _ :: _, [], _, _, _, _, h, _ => by simp at h
  | p :: P, w :: vs, 0, m, nd, h1, h2, hk => by
    simp at h1 h2; subst h1; subst h2
    show bindC kindOf ((p, w) :: P.zip vs) m p = _
    unfold bindC
    rw [bindC_out fun v hv => (List.nodup_cons.mp nd).1 (List.of_mem_zip hv).1, if_neg hk]
    simp
  | p :: P, w :: vs, i + 1, m, nd, h1, h2, hk => by
    show bindC kindOf ((p, w) :: P.zip vs) m x = _
    unfold bindC
    exact bindC_get (i := i) (List.nodup_cons.mp nd).2 (by simpa using h1) (by simpa using h2) hk

/-- the names' values at the entry -/
def start (N : List Str) (vs : List V) : St := vs.map some ++ List.replicate (N.length - vs.length) none

/-- the context of a def's body, at its entry; an exception leaves the frame, then lies as CX says -/
def cxOf (CX : CXT) (P : Program) (w : World) (K : PySem.W.Frag) (mg : Str → Option Value) (base : Heap) (N : List Str) (qual : Str) (scope : Scope) (f : Addr) (cd : Value) (A : Around) (outer : List Env) (s : Shared) (H : Hp) (E : XK) : Cx where
  prog := P
  w := w
  K := K
  mg := mg
  base := base
  A := A.deeper (envOfC qual scope s.heap.objs.size f cd)
  N := N
  s_0 := s
  H_0 := H
  env := envOfC qual scope s.heap.objs.size f cd
  outer := outer
  stack := envOfC qual scope s.heap.objs.size f cd :: outer
  ex := []
  calm := true
  fn := fun _ => true
  pn := []
  xe := fun e s' => wpAny (model P w) (A.deeper (envOfC qual scope s.heap.objs.size f cd)) (leaving (envOfC qual scope s.heap.objs.size f cd) e) (fun _ s'' => CX outer H s E e s'') (fun e' s'' => CX outer H s E e' s'') s'

theorem cell_has {sc : Scope} {n : Nat} {x : Str} (h : sc.names.lookup x = some .cell) : ∃ c, (cellsFrom n sc.names []).lookup x = some c := by
  have q := PySem.W.cellsFrom_some sc.names n [] (.inl h)
  exact Option.isSome_iff_exists.mp q

theorem inv_start {CX : CXT} {P : Program} {w : World} {K : PySem.W.Frag} {mg : Str → Option Value} {base : Heap} {N ps : List Str} {qual : Str} {scope : Scope} {f : Addr} {cd : Value} {A : Around} {outer : List Env} {s s1 : Shared} {H : Hp} {E : XK} {us : List Value} {vs : List V}
    (S : FnScope N ps scope) (hd : A.handled = none) (e0 : Env0 P w K mg base A outer s H) (hl : vs.length = ps.length) (r : Vals vs us)
    (x : InCallC s s.heap.objs.size (bindL (envOfC qual scope s.heap.objs.size f cd).kindOf (ps.zip us) fun _ => none) (cellsFrom (s.heap.objs.size + 1) scope.names []) (bindC (envOfC qual scope s.heap.objs.size f cd).kindOf (ps.zip us) fun _ => none) s1) :
    Inv (cxOf CX P w K mg base N qual scope f cd A outer s H E) [] (start N vs) H s1 := by
  have hpl : ps.length ≤ N.length := by have := congrArg List.length S.pre; rw [List.length_take] at this; omega
  obtain ⟨h1, tk, rfl, hk⟩ := x.done
  have noA : ∀ b : Addr, b ∉ (cxOf CX P w K mg base N qual scope f cd A outer s H E).ex := fun b z => absurd (show b ∈ ([] : List Addr) from z) (by simp)
  refine ⟨⟨e0.mod, S.kind, rfl, rfl, Nat.le_refl _, fun y z c h1 h2 => ?_, fun y hy => ?_, fun y c _ h => ?_, fun _ => hd, Around.frames_deeper e0.frames, .inr ⟨rfl, rfl⟩, fun b z => absurd z (noA b), e0.bs, e0.bsz, fun b _ _ => noA b, fun b z => absurd z (noA b), e0.funs, e0.frf⟩,
    rfl, .self e0.bare, Un.kept hk, ⟨_, x.toInCall.ns, fun i y v h1 h2 h3 => ?_⟩, fun y c h => ⟨_, x.cell y c h⟩, e0.hok.fresh (Nat.le_refl _), fun y c h => ?_, fun p hp => absurd (show p ∈ ([] : List (Addr × Obj)) from hp) (by simp), e0.hok.kept hk, ?_⟩
  · exact name_of_addr x.apart (PySem.mem_of_lookup h1) (PySem.mem_of_lookup h2)
  · have hy : scope.names.lookup y = some .cell ∨ scope.names.lookup y = some .free := hy
    rcases hy with hy | hy
    · exact cell_has hy
    · exact absurd rfl (S.nofree _ (PySem.mem_of_lookup hy))
  · exact Nat.le_of_lt (x.above y c (PySem.mem_of_lookup h))
  · have hi : i < vs.length := by
      unfold start at h2
      by_cases hi : i < vs.length
      · exact hi
      · rw [List.getElem?_append_right (by simpa using hi)] at h2
        rw [List.getElem?_replicate] at h2
        split at h2 <;> cases h2
    have ha : vs[i]? = some v := by
      unfold start at h2
      rw [List.getElem?_append_left (by simpa using hi), List.getElem?_map] at h2
      cases e : vs[i]? with
      | none => rw [e] at h2; cases h2
      | some a => rw [e] at h2; cases h2; rfl
    obtain ⟨u, hu, rv⟩ := r.get ha
    have hp : ps[i]? = some y := by
      rw [← S.pre, List.getElem?_take_of_lt (by omega)]; exact h1
    have ndP : ps.Nodup := by rw [← S.pre]; exact S.nd.sublist (List.take_sublist _ _)
    refine ⟨u, rv, ?_⟩
    rcases S.par y (List.mem_of_getElem? hp) with k | k
    · exact .inl ⟨k, bindL_get ndP hp hu k⟩
    · obtain ⟨c, e⟩ := cell_has (n := s.heap.objs.size + 1) k
      refine .inr ⟨.inl k, c, e, ?_⟩
      have q := x.cell y c e
      rw [bindC_get ndP hp hu (by show scope.names.lookup y ≠ _; rw [k]; decide)] at q
      exact q
  · exact e0.hok.fresh (Nat.le_of_lt (x.above y c (PySem.mem_of_lookup h)))
  · unfold start
    show _ = N.length
    rw [List.length_append, List.length_map, List.length_replicate]
    omega

/-- THE RULE: a def (or a method) of the text, by its body. The body's reading t is chosen for each entry; it is run at the parameters' values -/
theorem fn_of {CX : CXT} {P : Program} {w : World} {K : PySem.W.Frag} {mg : Str → Option Value} {base : Heap} {k : Nat} {f : Addr} {name qual : Str} {params : Arguments} {body : List Stmt} {scope : Scope} {dV kV doc pm cdv ct oc : Value} {an od : Option Addr}
    {osl : Array (Option Value)} {N ps : List Str} {sp : Sp} (lk : K.lookup f = some ⟨oc, od, .func (PySem.W.fnOf name qual params body scope dV kV doc pm an cdv ct), osl⟩) (hcd : PySem.W.codeIn K cdv qual = true) (S : FnScope N ps scope)
    (len : ∀ vs H Q E, sp vs H Q E → vs.length = ps.length)
    (hbody : ∀ (A : Around) (outer : List Env) (s : Shared) (H : Hp) (vs : List V) (Q : VK) (E : XK), Room k (A.deeper (envOfC qual scope s.heap.objs.size f cdv)) → sp vs H Q E →
      ∃ t, PSs (cxOf CX P w K mg base N qual scope f cdv A outer s H E) body t ∧ t { nx := fun _ H' => Q .non H', rt := Q } (start N vs) H) :
    FnOk P w K mg base CX (k + 1) f (PySem.W.fnOf name qual params body scope dV kV doc pm an cdv ct) ps sp := by
  refine ⟨len, fun A outer s H args us vs Q E hr e0 hb r hsp => ?_⟩
  have hl := len _ _ _ _ hsp
  have KX : K.In s.heap := e0.mod.kin.keeps fun b o e => (e0.bs b o e).1
  have lim : s.heap.NoLimit := e0.mod.nolimit.keeps fun b o e => (e0.bs b o e).1
  have hkind : ∀ y ∈ ps.zip us, scope.names.lookup y.1 = some .local ∨ (scope.names.lookup y.1 = some .cell ∧ ((cellsFrom (s.heap.objs.size + 1) scope.names []).lookup y.1).isSome = true) := fun ⟨n, v⟩ hy => by
    rcases S.par n (List.of_mem_zip hy).1 with q | q
    · exact .inl q
    · exact .inr ⟨q, PySem.W.cellsFrom_some _ _ _ (.inl q)⟩
  refine codeAny_call_function hr.depth (KX _ _ lk) rfl S.co S.gen rfl (PySem.W.codeRec_of KX hcd) (hb _ _ _ _ ?_)
  refine wpAny_newFunctionEnv_cells S.kind hkind fun env he s1 x => ?_
  subst he
  refine ⟨lim.keeps x.toInCall.keep, codeAny_func ?_⟩
  obtain ⟨t, ht, hq⟩ := hbody A outer s H vs Q E (hr.deeper _) hsp
  have I : Inv (cxOf CX P w K mg base N qual scope f cdv A outer s H E) [] (start N vs) H s1 := inv_start S hr.hd e0 hl r x
  refine wpAny_mono (ht [] s1 (start N vs) H _ I hq) (fun fl s' hs => ?_) fun e s' hs => hs
  have fin : ∀ {σ' : St} {H' : Hp} {v : V} {u : Value}, Inv (cxOf CX P w K mg base N qual scope f cdv A outer s H E) [] σ' H' s' → RelV v u → Q v H' → CE outer P w H s Q u s' :=
    fun {σ' H' v u} J rv q => ⟨v, H', J.os, J.bare, J.base, J.hok, rv, q⟩
  cases fl with
  | ret u =>
    obtain ⟨v, σ', H', J, rv, q⟩ := hs
    exact fin J rv q
  | next =>
    obtain ⟨σ', H', J, q⟩ := hs
    exact fin (v := V.non) (u := Value.none) J rfl q
  | brk =>
    obtain ⟨_, _, _, q⟩ := hs
    exact False.elim q
  | cont =>
    obtain ⟨_, _, _, q⟩ := hs
    exact False.elim q
end L2

namespace L2
open PySem PySem.Spec PyProof.Rows
section
variable {X : Cx} {x : Str} {p pos : Pos} {e : Expr} {es : List Expr} {t : TA} {id T : String} {r : List V → Hp → VK → Prop}

def tCB (r : List V → Hp → VK → Prop) (t : TA) : TE := fun σ H Q => t σ H fun vs H1 => r vs H1 Q
/-- f(e, ..), f a built-in function -/
theorem pe_callB (hc : CallR X (.builtin id) r) (hg : Gl X x) (hm : X.mg x = none) (hv : bootBuiltins x = some (.builtin id)) (ha : PA X (e :: es) t) (hn : x ≠ "__name__" := by decide) (hdb : (x == ("__debug__" : Str)) = false := by decide)
    (he : starEach (e :: es) X.env = (false, eval e X.env) :: starEach es X.env := by rfl) (hpl : (backTo pos (starEach es X.env)).any (·.1) = false := by rfl) : PE X (.Call (.Name x p) (e :: es) [] pos) (tCB r t) := by
  intro pins s σ H Q I h
  refine wpAny_Call_Name_kw (ld_blt I hg hm hv ?_ hn hdb)
  exact PyProof.Rows.callWith_builtin1 (thn (ha pos pins s σ H _ I h) fun us s1 ⟨vs, H1, I1, r1, q1⟩ => hc pins s1 σ H1 vs us Q I1 r1 q1) he hpl
/-- T(e, ..), T a built-in type -/
theorem pe_callTy (hc : CallR X (.type T) r) (hg : Gl X x) (hm : X.mg x = none) (hv : bootBuiltins x = some (.type T)) (ha : PA X (e :: es) t) (hn : x ≠ "__name__" := by decide) (hdb : (x == ("__debug__" : Str)) = false := by decide)
    (he : starEach (e :: es) X.env = (false, eval e X.env) :: starEach es X.env := by rfl) (hpl : (backTo pos (starEach es X.env)).any (·.1) = false := by rfl) : PE X (.Call (.Name x p) (e :: es) [] pos) (tCB r t) := by
  intro pins s σ H Q I h
  refine wpAny_Call_Name_kw (ld_blt I hg hm hv ?_ hn hdb)
  exact PyProof.Rows.callWith_type1 (thn (ha pos pins s σ H _ I h) fun us s1 ⟨vs, H1, I1, r1, q1⟩ => hc pins s1 σ H1 vs us Q I1 r1 q1) he hpl
end
end L2

namespace HT
open PySem PyProof.Rows

/-- t < u of tuples of ints -/
def lexLt : List Int → List Int → Bool
  | [], [] => false
  | [], _ :: _ => true
  | _ :: _, [] => false
  | x :: xs, y :: ys => if x = y then lexLt xs ys else decide (x < y)
section
open PySem.SeqAt
open PySem.AutoSeq1 (wpAny_loadPart')
open PySem.MeetsSeq PySem.MeetsSeq2 PySem.MeetsSeq3

end

section
variable {prog : Program} {w : World} {A : Around} {E : Value → Shared → Prop} {s : Shared}

/-- a slice's bound as a place among n (d where it is left out) -/
def sIx (n d : Nat) : Option Int → Nat
  | none => d
  | some v => if v < 0 then (v + (n : Int)).toNat else min v.toNat n
theorem sIx_none (n d : Nat) : sIx n d none = d := rfl
theorem sIx_nat (n d k : Nat) : sIx n d (some (k : Int)) = min k n := by
  show (if (k : Int) < 0 then ((k : Int) + (n : Int)).toNat else min (k : Int).toNat n) = min k n
  rw [if_neg (by omega), Int.toNat_natCast]
theorem sIx_le (n d : Nat) (hd : d ≤ n) (o : Option Int) : sIx n d o ≤ n := by
  cases o with
  | none => exact hd
  | some v =>
    show (if v < 0 then (v + (n : Int)).toNat else min v.toNat n) ≤ n
    by_cases hv : v < 0
    · rw [if_pos hv]; omega
    · rw [if_neg hv]; exact Nat.min_le_right _ _
theorem clip_eq (v : Int) (n d : Nat) : (if v < 0 then max (v + (n : Int)) 0 else min v (n : Int)) = ((sIx n d (some v) : Nat) : Int) := by
  show (if v < 0 then max (v + (n : Int)) 0 else min v (n : Int)) = (((if v < 0 then (v + (n : Int)).toNat else min v.toNat n) : Nat) : Int)
  by_cases hv : v < 0
  · simp only [if_pos hv]; omega
  · simp only [if_neg hv]; omega
theorem adjust_gen (lo hi : Option Int) (n : Nat) : Builtin.Slice.sliceAdjust lo hi 1 (n : Int) = (((sIx n 0 lo : Nat) : Int), ((sIx n n hi : Nat) : Int)) := by
  have h1 : ¬ ((1 : Int) < 0) := by omega
  unfold Builtin.Slice.sliceAdjust
  simp only [h1, if_false]
  refine Prod.ext ?_ ?_
  · cases lo with
    | none => rfl
    | some v => exact clip_eq v n 0
  · cases hi with
    | none => rfl
    | some v => exact clip_eq v n n
theorem places_gen (i j : Nat) : Builtin.Slice.slicePlaces (i : Int) (j : Int) 1 = j - i := by
  unfold Builtin.Slice.slicePlaces
  have h1 : (1 : Int) > 0 := by omega
  simp only [h1, if_true, Int.ediv_one]
  split <;> omega
theorem slicePart_ {v : Value} {o : Option Int} {Q : Option Int → Shared → Prop} (p : IsPart v o) (h : Q o s) : wpAny (model prog w) A (Builtin.Slice.slicePartIndex v) Q E s := by
  cases p with
  | none => exact slicePart_none h
  | int i t => exact slicePart_int h
theorem sliceApplied_gen {sl : Addr} {vl vu : Value} {lo hi : Option Int} {n : Nat} {Q : Int × Int × Nat → Shared → Prop} (hs : s.heap.IsSliceOf sl vl vu .none) (pl : IsPart vl lo) (pu : IsPart vu hi)
    (h : Q (((sIx n 0 lo : Nat) : Int), 1, sIx n n hi - sIx n 0 lo) s) : wpAny (model prog w) A (Builtin.Slice.sliceApplied (.ref sl) (pure (n : Int))) Q E s := by
  obtain ⟨os, hos, hcs, hds⟩ := id hs
  unfold Builtin.Slice.sliceApplied Builtin.Slice.sliceFields
  refine wpAny_bind (wpAny_bind (wpAny_field hos hds (x := vl) rfl (wpAny_bind (wpAny_field hos hds (x := vu) rfl (wpAny_bind (wpAny_field hos hds (x := .none) rfl (wpAny_pure ?_)))))))
  refine wpAny_bind (slicePart_none ?_)
  show wpAny _ _ (if ((1 : Int) == 0) = true then _ else _) _ _ s
  rw [if_neg (by decide)]
  refine wpAny_bind (slicePart_ pl (wpAny_bind (slicePart_ pu (wpAny_bind (wpAny_pure ?_)))))
  show wpAny _ _ (match Builtin.Slice.sliceAdjust lo hi 1 (n : Int) with | (lo, hi) => pure (lo, (1 : Int), Builtin.Slice.slicePlaces lo hi 1)) _ _ s
  rw [adjust_gen lo hi n]
  show wpAny _ _ (pure (((sIx n 0 lo : Nat) : Int), (1 : Int), Builtin.Slice.slicePlaces ((sIx n 0 lo : Nat) : Int) ((sIx n n hi : Nat) : Int) 1)) _ _ s
  rw [places_gen]
  exact wpAny_pure h
theorem pick_gen (xs : Array Value) (i k : Nat) : ((List.range k).filterMap fun (m : Nat) => xs[((i : Int) + (m : Int) * 1).toNat]?).toArray = ((xs.toList.drop i).take k).toArray := by
  have e : (fun (m : Nat) => xs[((i : Int) + (m : Int) * 1).toNat]?) = fun m => xs[i + m]? := by
    funext m
    have : ((i : Int) + (m : Int) * 1).toNat = i + m := by omega
    rw [this]
  rw [e]
  have := pick_run xs i k
  rw [List.filterMap_map] at this
  have e2 : ((fun x => xs[x]?) ∘ fun x => i + x) = fun m => xs[i + m]? := rfl
  rw [e2] at this
  rw [this]

theorem getItem_tuple_cut {t sl : Addr} {items : Array Value} {vl vu : Value} {lo hi : Option Int} {Q : Value → Shared → Prop} (ht : IsTup s.heap t items) (hs : s.heap.IsSliceOf sl vl vu .none) (pl : IsPart vl lo) (pu : IsPart vu hi)
    (hw : ¬ (sIx items.size 0 lo = 0 ∧ sIx items.size items.size hi = items.size))
    (h : Q (.ref s.heap.objs.size) { s with heap := s.heap.push { cls := .type "tuple", data := .seq ((items.toList.drop (sIx items.size 0 lo)).take (sIx items.size items.size hi - sIx items.size 0 lo)).toArray } })
    (hsz : items.size ≤ sizeLine) : wpAny (model prog w) A (getItem (.ref t) (.ref sl)) Q E s := by
  have htake : sizeOk (.seq ((items.toList.drop (sIx items.size 0 lo)).take (sIx items.size items.size hi - sIx items.size 0 lo)).toArray) := by
    show ((items.toList.drop (sIx items.size 0 lo)).take (sIx items.size items.size hi - sIx items.size 0 lo)).toArray.size ≤ sizeLine
    rw [List.size_toArray, List.length_take, List.length_drop, Array.length_toList]
    omega
  have hj : sIx items.size items.size hi ≤ items.size := sIx_le _ _ (Nat.le_refl _) hi
  obtain ⟨os, hos, hcs, hds⟩ := id hs
  have hTs : s.TypeIs (.ref sl) "slice" := ⟨os, hos, hcs⟩
  unfold getItem
  try with_reducible refine wpAny_holding ?_
  first | refine wpAny_bind (wpAny_pure ?_) | skip
  refine wpAny_bind (wpAny_sequenceKey ht.typeIs (by decide) ?_)
  refine wpAny_bind (wpAny_callSpecial?_slot (name := Str.ofString "__getitem__") ht.typeIs PyProof.Rows.slot_tuple_getitem
    (wpAny_call_entry PyProof.Rows.slot_tuple_getitem ht.typeIs entry_tuple_getitem ?_ (args_tuple_getitem _ _)))
  show wpAny _ _ (Builtin.Tuple.tupleItemsOf (.ref t) >>= _) _ _ s
  refine wpAny_bind (tupleItemsOf_ ht ?_)
  refine wpAny_bind (wpAny_typeOf hTs ?_)
  rw [if_pos (by decide)]
  refine wpAny_bind (sliceApplied_gen hs pl pu ?_)
  have hno : ¬ ((((sIx items.size 0 lo : Nat) : Int) == 0 && (1 : Int) == 1 && (sIx items.size items.size hi - sIx items.size 0 lo) == items.size) = true) := by
    intro q
    rw [Bool.and_eq_true, Bool.and_eq_true] at q
    have q1 : ((sIx items.size 0 lo : Nat) : Int) = 0 := eq_of_beq q.1.1
    have q2 : sIx items.size items.size hi - sIx items.size 0 lo = items.size := eq_of_beq q.2
    exact hw ⟨by omega, by omega⟩
  show wpAny _ _ (if (((sIx items.size 0 lo : Nat) : Int) == 0 && (1 : Int) == 1 && (sIx items.size items.size hi - sIx items.size 0 lo) == items.size) = true then _ else _) _ _ s
  rw [if_neg hno, pick_gen]
  first
    | exact wpAny_bind (m := Builtin.Tuple.tupleExact _) (wpAny_newObj_type (wpAny_pure ⟨_, rfl, wpAny_pure h⟩) htake)
    | exact wpAny_bind (m := Builtin.Tuple.tupleExact _) (wpAny_newObj_type (wpAny_bind (wpAny_pure (wpAny_pure ⟨_, rfl, wpAny_pure h⟩))) htake)
    | exact wpAny_bind (wpAny_bind (m := Builtin.Tuple.tupleExact _) (wpAny_newObj_type (wpAny_pure (wpAny_pure ⟨_, rfl, wpAny_pure h⟩)) htake))
    | exact wpAny_bind (wpAny_bind (m := Builtin.Tuple.tupleExact _) (wpAny_newObj_type (wpAny_pure ⟨_, rfl, wpAny_pure h⟩) htake))
end
end HT

namespace L2
open PySem PySem.Spec PyProof.Rows

abbrev TO := St → Hp → (Option Int → Hp → Prop) → Prop
/-- a slice's part (left out, or an int) -/
def PO (X : Cx) (e : Option Expr) (t : TO) : Prop :=
  ∀ (pins : List (Addr × Obj)) (s : Shared) (σ : St) (H : Hp) (Q : Option Int → Hp → Prop), Inv X pins σ H s → t σ H Q →
    wpAny (model X.prog X.w) X.A (evalPart e X.env) (fun u s' => ∃ o H', Inv X pins σ H' s' ∧ IsPart u o ∧ Q o H') X.xe s
def tNoPart : TO := fun _ H Q => Q none H
def tPart (t : TE) : TO := fun σ H Q => t σ H fun x H1 => ∃ i, x = .int i ∧ Q (some i) H1

section
variable {X : Cx} {e : Expr} {te : TE} {lo hi : Option Expr} {tl th : TO} {pos p2 : Pos}

theorem po_none : PO X none tNoPart := by
  intro pins s σ H Q I h
  rw [evalPart_none]
  exact wpAny_pure ⟨none, H, I, .none, h⟩
theorem po_some (h : PE X e te) : PO X (some e) (tPart te) := by
  intro pins s σ H Q I hw
  rw [evalPart_some]
  refine thn (h pins s σ H _ I hw) fun u s1 ⟨x, H1, I1, r1, q1⟩ => ?_
  obtain ⟨i, rfl, q⟩ := q1
  obtain ⟨t, rfl⟩ := r1
  exact ⟨some i, H1, I1, .int i t, q⟩

/-- what a slice of a value is, by values: the slice object stands at sl -/
def SlR (X : Cx) (r : V → Option Int → Option Int → Hp → VK → Prop) : Prop :=
  ∀ (pins : List (Addr × Obj)) (s : Shared) (σ : St) (H : Hp) (x : V) (v vl vu : Value) (lo hi : Option Int) (sl : Addr) (Q : VK), Inv X pins σ H s → RelV x v → s.heap.IsSliceOf sl vl vu .none → IsPart vl lo → IsPart vu hi → r x lo hi H Q →
    ∃ T id, typeLookup (.type T) "__getitem__" = pure (some (.builtin id)) ∧ s.TypeIs v T ∧ wpAny (model X.prog X.w) X.A (getItem v (.ref sl)) (EP X pins σ Q) X.xe s
theorem SlR.or {r r' : V → Option Int → Option Int → Hp → VK → Prop} (h : SlR X r) (h' : SlR X r') : SlR X (fun x lo hi H Q => r x lo hi H Q ∨ r' x lo hi H Q) := by
  intro pins s σ H x v vl vu lo hi sl Q I rx hs pl pu q
  rcases q with q | q
  · exact h pins s σ H x v vl vu lo hi sl Q I rx hs pl pu q
  · exact h' pins s σ H x v vl vu lo hi sl Q I rx hs pl pu q
def tSl (r : V → Option Int → Option Int → Hp → VK → Prop) (te : TE) (tl th : TO) : TE := fun σ H Q => te σ H fun x H1 => tl σ H1 fun l H2 => th σ H2 fun u H3 => r x l u H3 Q
/-- a[lo:hi], any a -/
theorem pe_slice {r : V → Option Int → Option Int → Hp → VK → Prop} (hr : SlR X r) (he : PE X e te) (hl : PO X lo tl) (hu : PO X hi th) : PE X (.Subscript e (.Slice lo hi none p2) pos) (tSl r te tl th) := by
  intro pins s σ H Q I h
  refine Subscript_ (thn (he pins s σ H _ I h) fun v s1 ⟨x, H1, I1, r1, q1⟩ => ?_)
  refine wpAny_Slice (thn (hl pins s1 σ H1 _ I1 q1) fun vl s2 ⟨l, H2, I2, pl, q2⟩ => thn (hu pins s2 σ H2 _ I2 q2) fun vu s3 ⟨u, H3, I3, pu, q3⟩ => ?_)
  rw [evalPart_none]
  refine wpAny_pure ?_
  have I4 : Inv X pins σ H3 { s3 with heap := s3.heap.push { cls := .type "slice", data := .fields #[vl, vu, .none] } } := I3.kept (t' := s3.toks) fun b ob q => Heap.get?_push_of_some _ q
  obtain ⟨T, id, hT, ht, hg⟩ := hr pins { s3 with heap := s3.heap.push { cls := .type "slice", data := .fields #[vl, vu, .none] } } σ H3 x v vl vu l u s3.heap.objs.size Q I4 r1 (Heap.IsSliceOf.new ..) pl pu q3
  show wpAny (model X.prog X.w) X.A (subscriptTail e (.Slice lo hi none p2) v (.ref s3.heap.objs.size)) (EP X pins σ Q) X.xe { s3 with heap := s3.heap.push { cls := .type "slice", data := .fields #[vl, vu, .none] } }
  exact tail_any (ops := [.ref s3.heap.objs.size, v]) ht hT hg (by with_unfolding_all rfl)

/-- the items of xs[lo:hi] -/
def cutV (xs : List V) (lo hi : Option Int) : List V := (xs.drop (HT.sIx xs.length 0 lo)).take (HT.sIx xs.length xs.length hi - HT.sIx xs.length 0 lo)
theorem cutV_length (xs : List V) (lo hi : Option Int) : (cutV xs lo hi).length ≤ xs.length := by
  unfold cutV
  rw [List.length_take, List.length_drop]
  omega
/-- t[lo:hi], not the whole of it (the whole would be t itself) -/
def rSlT (K : PySem.W.Frag) : V → Option Int → Option Int → Hp → VK → Prop := fun x lo hi H Q => ∃ a xs, x = .ref a ∧ SqT K H a xs ∧
  ¬ (HT.sIx xs.length 0 lo = 0 ∧ HT.sIx xs.length xs.length hi = xs.length) ∧ ∀ p, H p = none → Q (.ref p) (upd H p (.tup (cutV xs lo hi)))
theorem sl_tup : SlR X (rSlT X.K) := by
  intro pins s σ H x v vl vu lo hi sl Q I rx hs pl pu h
  obtain ⟨a, xs, rfl, hx, hw, q⟩ := h
  cases rx
  obtain ⟨its, r, ht, hz⟩ := I.tuple hx
  have hlen : its.toArray.size = xs.length := by rw [List.size_toArray]; exact r.length.symm
  refine ⟨"tuple", _, PyProof.Rows.slot_tuple_getitem.lookup, ht.typeIs, ?_⟩
  refine HT.getItem_tuple_cut ht hs pl pu (by rw [hlen]; exact hw) ?_ (by rw [hlen]; exact hz)
  rw [hlen]
  refine ⟨.ref s.heap.objs.size, _, I.laid (t' := s.toks) (o := .tup (cutV xs lo hi)) (fun b ob q => Heap.get?_push_of_some _ q) (Nat.le_refl _) ?_, rfl, q _ (I.hok.fresh (Nat.le_refl _))⟩
  exact ⟨Nat.le_trans (cutV_length xs lo hi) hz, _, (r.drop (HT.sIx xs.length 0 lo)).take (HT.sIx xs.length xs.length hi - HT.sIx xs.length 0 lo), IsTup.new _ _⟩

def rLtT (K : PySem.W.Frag) : R2 := fun x y H Q => ∃ a b ns ms, x = .ref a ∧ y = .ref b ∧ SqT K H a (ns.map V.int) ∧ SqT K H b (ms.map V.int) ∧ Q (.bl (HT.lexLt ns ms)) H
/-- t + u, t not empty: u empty gives t itself -/
def rCatT (K : PySem.W.Frag) : R2 := fun x y H Q => ∃ a b xs ys, x = .ref a ∧ y = .ref b ∧ SqT K H a xs ∧ SqT K H b ys ∧ xs ≠ [] ∧ xs.length + ys.length ≤ sizeLine ∧
  (ys = [] → Q (.ref a) H) ∧ (ys ≠ [] → ∀ p, H p = none → Q (.ref p) (upd H p (.tup (xs ++ ys))))
end
end L2

namespace L2
open PySem PySem.Spec PyProof.Rows

/-- the place that an index of any sign means -/
def ixN (n : Nat) (i : Int) : Option Nat := if 0 ≤ i then (if i < n then some i.toNat else none) else if -(n : Int) ≤ i then some (i + n).toNat else none
def atI {α : Type} (xs : List α) (i : Int) : Option α := (ixN xs.length i).bind fun j => xs[j]?
theorem ixN_seq {n : Nat} {i : Int} {j : Nat} (h : ixN n i = some j) : seqIndex? i n = some j ∧ j < n ∧ -(n : Int) ≤ i ∧ i < n := by
  unfold ixN at h
  by_cases h0 : 0 ≤ i
  · rw [if_pos h0] at h
    by_cases h1 : i < n
    · rw [if_pos h1] at h
      have e : i.toNat = j := Option.some.inj h
      exact ⟨by rw [seqIndex_of h0 h1, e], by omega, by omega, h1⟩
    · rw [if_neg h1] at h; cases h
  · rw [if_neg h0] at h
    by_cases h1 : -(n : Int) ≤ i
    · rw [if_pos h1] at h
      have e : (i + n).toNat = j := Option.some.inj h
      exact ⟨by rw [seqIndex_neg (by omega) h1, e], by omega, h1, by omega⟩
    · rw [if_neg h1] at h; cases h
theorem atI_get {α : Type} {xs : List α} {i : Int} {v : α} (h : atI xs i = some v) : ∃ j, seqIndex? i xs.length = some j ∧ xs[j]? = some v ∧ j < xs.length ∧ -(xs.length : Int) ≤ i ∧ i < xs.length := by
  unfold atI at h
  cases e : ixN xs.length i with
  | none => rw [e] at h; cases h
  | some j =>
    rw [e] at h
    obtain ⟨h1, h2, h3, h4⟩ := ixN_seq e
    exact ⟨j, h1, h, h2, h3, h4⟩
/-- what stands as an index of a plain subscript -/
def PlainIx (b : Expr) : Prop := ∀ o i, subscripted b false o i = operate [o, i] (getItem o i)
/-- a subscript by values -/
def IxR (X : Cx) (r : R2) : Prop :=
  ∀ (value slice : Expr) (pins : List (Addr × Obj)) (s : Shared) (σ : St) (H : Hp) (x y : V) (v u : Value) (Q : VK), Inv X pins σ H s → RelV x v → RelV y u → r x y H Q →
    subscripted slice false v u = operate [v, u] (getItem v u) → wpAny (model X.prog X.w) X.A (subscriptTail value slice v u) (EP X pins σ Q) X.xe s
/-- a call of a builtin's method by values: the receiver, the arguments -/
def MtR (X : Cx) (id : String) (r : V → List V → Hp → VK → Prop) : Prop :=
  ∀ (pins : List (Addr × Obj)) (s : Shared) (σ : St) (H : Hp) (x : V) (xs : List V) (v : Value) (us : List Value) (Q : VK), Inv X pins σ H s → RelV x v → Vals xs us → r x xs H Q →
    wpAny (model X.prog X.w) X.A (call (.builtin id) (v :: us)) (EP X pins σ Q) X.xe s
section
variable {X : Cx} {a b : Expr} {ta tb : TE} {pos : Pos}
theorem IxR.or {r r' : R2} (h : IxR X r) (h' : IxR X r') : IxR X (fun x y H Q => r x y H Q ∨ r' x y H Q) := by
  intro value slice pins s σ H x y v u Q I rx ry q hs
  rcases q with q | q
  · exact h value slice pins s σ H x y v u Q I rx ry q hs
  · exact h' value slice pins s σ H x y v u Q I rx ry q hs
theorem MtR.or {id : String} {r r' : V → List V → Hp → VK → Prop} (h : MtR X id r) (h' : MtR X id r') : MtR X id (fun x xs H Q => r x xs H Q ∨ r' x xs H Q) := by
  intro pins s σ H x xs v us Q I rx rs q
  rcases q with q | q
  · exact h pins s σ H x xs v us Q I rx rs q
  · exact h' pins s σ H x xs v us Q I rx rs q
/-- a[b] -/
theorem pe_ix {r : R2} (hr : IxR X r) (ha : PE X a ta) (hb : PE X b tb) (hs : PlainIx b) : PE X (.Subscript a b pos) (tOp r ta tb) := by
  intro pins s σ H Q I h
  exact Subscript_ (binT ha hb I h fun v u s2 x y H2 I2 rx ry q => hr a b pins s2 σ H2 x y v u Q I2 rx ry q (hs _ _))

def rIxL (K : PySem.W.Frag) : R2 := fun x y H Q => ∃ p xs i v, x = .ref p ∧ y = .int i ∧ SqL K H p xs ∧ atI xs i = some v ∧ Q v H
def rIxT (K : PySem.W.Frag) : R2 := fun x y H Q => ∃ p xs i v, x = .ref p ∧ y = .int i ∧ SqT K H p xs ∧ atI xs i = some v ∧ Q v H
def rIxS : R2 := fun x y H Q => ∃ z i c, x = .str z ∧ y = .int i ∧ z.length ≤ sizeLine ∧ atI z.cps.toList i = some c ∧ Q (.str ⟨#[c]⟩) H
theorem ix_list : IxR X (rIxL X.K) := by
  intro value slice pins s σ H x y v u Q I rx ry h hs
  obtain ⟨p, xs, i, z, rfl, rfl, hq, he, q⟩ := h
  cases rx
  obtain ⟨t, rfl⟩ := ry
  obtain ⟨its, r, pl, hz⟩ := I.list hq
  obtain ⟨j, h1, h2, h3, h4, h5⟩ := atI_get he
  obtain ⟨w, ew, rw'⟩ := r.get h2
  have hl := r.length
  have hn := line63
  have fin : EP X pins σ Q w s := ⟨z, H, I, rw', q⟩
  by_cases h0 : 0 ≤ i
  · have hj : i.toNat = j := by
      rw [seqIndex_of h0 h5] at h1
      exact Option.some.inj h1
    exact item_listR pl.isList h0 (by omega) (by rw [hj]; simpa using ew) fin hs
  · have hj : (i + (its.toArray.size : Int)).toNat = j := by
      rw [seqIndex_neg (by omega) h4] at h1
      rw [List.size_toArray, ← hl]
      exact Option.some.inj h1
    exact subscriptTail_builtinR (x := w) pl.isList.typeIs slot_list_getitem.lookup
      (wpAny_getItem_list_neg (Q := fun r s' => r = w ∧ EP X pins σ Q r s') pl.isList (by omega) (by rw [List.size_toArray] <;> omega) (by omega) (by rw [hj]; simpa using ew) ⟨rfl, fin⟩) hs
theorem ix_tup : IxR X (rIxT X.K) := by
  intro value slice pins s σ H x y v u Q I rx ry h hs
  obtain ⟨p, xs, i, z, rfl, rfl, hq, he, q⟩ := h
  cases rx
  obtain ⟨t, rfl⟩ := ry
  obtain ⟨its, r, pl, hz⟩ := I.tuple hq
  obtain ⟨j, h1, h2, h3, h4, h5⟩ := atI_get he
  obtain ⟨w, ew, rw'⟩ := r.get h2
  have hl := r.length
  have hn := line63
  have fin : EP X pins σ Q w s := ⟨z, H, I, rw', q⟩
  exact subscriptTail_builtinR (x := w) pl.typeIs slot_tuple_getitem.lookup
    (getItem_tuple (j := j) (Q := fun r s' => r = w ∧ EP X pins σ Q r s') pl (by omega) (by omega) (by rw [List.size_toArray, ← hl]; exact h1) (by simpa using ew) ⟨rfl, fin⟩) hs
theorem ix_str : IxR X rIxS := by
  intro value slice pins s σ H x y v u Q I rx ry h hs
  obtain ⟨z, i, c, rfl, rfl, hz, he, q⟩ := h
  obtain ⟨t, rfl⟩ := rx
  obtain ⟨t', rfl⟩ := ry
  obtain ⟨j, h1, h2, h3, h4, h5⟩ := atI_get he
  have hl : z.cps.toList.length = z.length := by simp [Str.length]
  rw [hl] at h1 h4 h5
  have hn := line63
  exact tail_any (typeIs_str s z t) slot_str_getitem.lookup (getItem_str (c := c) (by
    have e1 : decide (i < -(2 ^ 63 : Int)) = false := decide_eq_false (by omega)
    have e2 : decide (i ≥ 2 ^ 63) = false := decide_eq_false (by omega)
    rw [e1, e2, Bool.or_false]) (by rw [h1]; simpa using h2) ⟨.str ⟨#[c]⟩, H, I.tok _, ⟨_, rfl⟩, q⟩) hs
/-- list, tuple or str -/
def rIx (K : PySem.W.Frag) : R2 := fun x y H Q => rIxL K x y H Q ∨ rIxT K x y H Q ∨ rIxS x y H Q
theorem ix_seq : IxR X (rIx X.K) := ix_list.or (ix_tup.or ix_str)

theorem Inv.lst {pins : List (Addr × Obj)} {σ : St} {H : Hp} {s : Shared} {p : Addr} {xs : List V} (I : Inv X pins σ H s) (h : H p = some (.lst xs)) :
    ∃ (its : List Value) (n : Nat), Vals xs its ∧ s.heap.get? p = some { cls := .type "list", data := .seq its.toArray n } ∧ xs.length ≤ sizeLine := by
  obtain ⟨z, its, n, r, e⟩ := I.hok p _ h
  exact ⟨its, n, r, e, z⟩
def rSetL : V → V → V → Hp → (Hp → Prop) → Prop := fun o i v H Q => ∃ p xs k j, o = .ref p ∧ i = .int k ∧ H p = some (.lst xs) ∧ ixN xs.length k = some j ∧ Q (upd H p (.lst (xs.set j v)))
theorem slice_bounds (lo hi : Option Int) (n : Nat) : (sliceBounds lo hi none n).1 = ((HT.sIx n 0 lo : Nat) : Int) ∧ (sliceBounds lo hi none n).2.1 = ((HT.sIx n n hi : Nat) : Int) ∧ (sliceBounds lo hi none n).2.2 = 1 := by
  refine ⟨?_, ?_, rfl⟩
  · cases lo with
    | none => simp [sliceBounds, HT.sIx]
    | some i =>
      simp only [sliceBounds, HT.sIx, Option.getD_none, show (1 : Int) > 0 by decide, if_true]
      by_cases h : i < 0
      · simp only [h, if_true] <;> omega
      · simp only [h, if_false] <;> omega
  · cases hi with
    | none => simp [sliceBounds, HT.sIx]
    | some i =>
      simp only [sliceBounds, HT.sIx, Option.getD_none, show (1 : Int) > 0 by decide, if_true]
      by_cases h : i < 0
      · simp only [h, if_true] <;> omega
      · simp only [h, if_false] <;> omega
theorem slicePick_cut (its : List Value) (lo hi : Option Int) : slicePick its.toArray lo hi none = ((its.drop (HT.sIx its.length 0 lo)).take (HT.sIx its.length its.length hi - HT.sIx its.length 0 lo)).toArray := by
  obtain ⟨h1, h2, h3⟩ := slice_bounds lo hi its.toArray.size
  unfold slicePick
  rw [h1, h2, h3]
  simp only [sliceRange_one, pick_run, List.size_toArray] <;> rfl
/-- xs[lo:hi] of a list: a new list -/
def rSlL (K : PySem.W.Frag) : V → Option Int → Option Int → Hp → VK → Prop := fun x lo hi H Q => ∃ a xs, x = .ref a ∧ SqL K H a xs ∧ ∀ p, H p = none → Q (.ref p) (upd H p (.lst (cutV xs lo hi)))
theorem sl_list : SlR X (rSlL X.K) := by
  intro pins s σ H x v vl vu lo hi sl Q I rx hs pl pu h
  obtain ⟨a, xs, rfl, hx, q⟩ := h
  cases rx
  obtain ⟨its, r, ht, hz⟩ := I.list hx
  have hlen := r.length
  refine ⟨"list", _, slot_list_getitem.lookup, ht.isList.typeIs, ?_⟩
  refine wpAny_getItem_list_slice ht.isList hs pl pu .none (by simp) ?_ (by rw [List.size_toArray] <;> omega)
  rw [slicePick_cut, ← hlen]
  refine ⟨.ref s.heap.objs.size, _, I.laid (t' := s.toks) (o := .lst (cutV xs lo hi)) (fun b ob q => Heap.get?_push_of_some _ q) (Nat.le_refl _) ?_, rfl, q _ (I.hok.fresh (Nat.le_refl _))⟩
  exact ⟨Nat.le_trans (cutV_length xs lo hi) hz, _, 0, (r.drop (HT.sIx xs.length 0 lo)).take (HT.sIx xs.length xs.length hi - HT.sIx xs.length 0 lo), Heap.get?_push_size _ rfl⟩

def flatV : V → Bool
  | .non => true
  | .bl _ => true
  | .int _ => true
  | .str _ => true
  | _ => false
/-- == of flat values -/
def eqV : V → V → Bool
  | .non, .non => true
  | .bl a, .bl b => a == b
  | .bl a, .int b => (if a then 1 else 0) == b
  | .int a, .bl b => a == (if b then 1 else 0)
  | .int a, .int b => a == b
  | .str a, .str b => a == b
  | _, _ => false
theorem eqAt_V {A : Around} {s : Shared} {y x : V} {u v : Value} (ry : RelV y u) (rx : RelV x v) (fy : flatV y = true) (fx : flatV x = true) : SeqAt.EqAt A s u v (eqV y x) := by
  cases y with
  | non =>
    cases ry
    cases x with
    | non => cases rx; exact SeqAt.EqAt.same _
    | bl b => cases rx; exact SeqAt.EqAt.none_bool b
    | int b => obtain ⟨t, rfl⟩ := rx; exact SeqAt.EqAt.none_int b t
    | str b => obtain ⟨t, rfl⟩ := rx; exact SeqAt.EqAt.none_str b t
    | _ => exact absurd (show false = true from fx) Bool.false_ne_true
  | bl a =>
    cases ry
    cases x with
    | non => cases rx; exact SeqAt.EqAt.bool_none a
    | bl b => cases rx; exact SeqAt.EqAt.bool_bool a b
    | int b => obtain ⟨t, rfl⟩ := rx; exact SeqAt.EqAt.bool_int a b t
    | str b => obtain ⟨t, rfl⟩ := rx; exact SeqAt.EqAt.bool_str a b t
    | _ => exact absurd (show false = true from fx) Bool.false_ne_true
  | int a =>
    obtain ⟨t', rfl⟩ := ry
    cases x with
    | non => cases rx; exact SeqAt.EqAt.int_none a t'
    | bl b => cases rx; exact SeqAt.EqAt.int_bool a t' b
    | int b => obtain ⟨t, rfl⟩ := rx; exact SeqAt.EqAt.int_int a t' b t
    | str b => obtain ⟨t, rfl⟩ := rx; exact SeqAt.EqAt.int_str a t' b t
    | _ => exact absurd (show false = true from fx) Bool.false_ne_true
  | str a =>
    obtain ⟨t', rfl⟩ := ry
    cases x with
    | non => cases rx; exact SeqAt.EqAt.str_none a t'
    | bl b => cases rx; exact SeqAt.EqAt.str_bool a t' b
    | int b => obtain ⟨t, rfl⟩ := rx; exact SeqAt.EqAt.str_int a t' b t
    | str b => obtain ⟨t, rfl⟩ := rx; exact SeqAt.EqAt.str_str a t' b t
    | _ => exact absurd (show false = true from fx) Bool.false_ne_true
  | _ => exact absurd (show false = true from fy) Bool.false_ne_true
/-- the items' answers, read off the values (a value's own answer does not lean on its token) -/
def eqU (x : V) (u : Value) : Bool := match u with
  | .none => eqV .non x
  | .bool b => eqV (.bl b) x
  | .int i _ => eqV (.int i) x
  | .str z _ => eqV (.str z) x
  | _ => false
theorem eqU_of {x y : V} {u : Value} (r : RelV y u) (f : flatV y = true) : eqU x u = eqV y x := by
  cases y with
  | non => cases r; rfl
  | bl b => cases r; rfl
  | int i => obtain ⟨t, rfl⟩ := r; rfl
  | str z => obtain ⟨t, rfl⟩ := r; rfl
  | _ => exact absurd (show false = true from f) Bool.false_ne_true
theorem any_eqU {x : V} : ∀ {xs : List V} {us : List Value}, Vals xs us → xs.all flatV = true → us.any (eqU x) = xs.any fun y => eqV y x
  | _, _, .nil, _ => rfl
  | y :: xs, u :: us, .cons r t, f => by
    rw [List.all_cons, Bool.and_eq_true] at f
    rw [List.any_cons, List.any_cons, eqU_of r f.1, any_eqU t f.2]
theorem mem_eqAt {A : Around} {s : Shared} {x : V} {v : Value} (rx : RelV x v) (fx : flatV x = true) : ∀ {xs : List V} {us : List Value}, Vals xs us → xs.all flatV = true → ∀ u ∈ us, SeqAt.EqAt A s u v (eqU x u)
  | _, _, .nil, _ => fun u hu => by cases hu
  | y :: xs, u :: us, .cons r t, f => fun u' hu => by
    rw [List.all_cons, Bool.and_eq_true] at f
    rcases List.mem_cons.mp hu with rfl | hu
    · rw [eqU_of r f.1]; exact eqAt_V r rx f.1 fx
    · exact mem_eqAt rx fx t f.2 u' hu
def inV (x : V) (xs : List V) : Bool := xs.any fun y => eqV y x
/-- x in a list or tuple of flat items -/
def rIn (K : PySem.W.Frag) (neg : Bool) : R2 := fun x y H Q => ∃ p xs, y = .ref p ∧ (SqL K H p xs ∨ SqT K H p xs) ∧ flatV x = true ∧ xs.all flatV = true ∧ Q (.bl (if neg then !inV x xs else inV x xs)) H
theorem op_in_seq : OpR X (compareOp .In) (rIn X.K false) := by
  intro pins s σ H x y v u Q I rx ry h
  obtain ⟨p, xs, rfl, hq, fx, fs, q⟩ := h
  cases ry
  rcases hq with hq | hq
  · obtain ⟨its, r, pl, hz⟩ := I.list hq
    refine SeqAt.in_listAt (eqU x) pl.isList (fun w hw => mem_eqAt rx fx r fs w (by simpa using hw)) ⟨.bl _, H, I, rfl, ?_⟩
    rw [show its.toArray.any (eqU x) = its.any (eqU x) by simp, any_eqU r fs]
    exact q
  · obtain ⟨its, r, pl, hz⟩ := I.tuple hq
    refine SeqAt.in_tupleAt (eqU x) pl (fun w hw => mem_eqAt rx fx r fs w (by simpa using hw)) ⟨.bl _, H, I, rfl, ?_⟩
    rw [show its.toArray.any (eqU x) = its.any (eqU x) by simp, any_eqU r fs]
    exact q
theorem CallR.or {f : Value} {r r' : List V → Hp → VK → Prop} (h : CallR X f r) (h' : CallR X f r') : CallR X f (fun xs H Q => r xs H Q ∨ r' xs H Q) := by
  intro pins s σ H xs us Q I rs q
  rcases q with q | q
  · exact h pins s σ H xs us Q I rs q
  · exact h' pins s σ H xs us Q I rs q
theorem call_list_of : CallR X (.type "list") (fun xs H Q => ∃ p ys, xs = [.ref p] ∧ (SqL X.K H p ys ∨ SqT X.K H p ys) ∧ ∀ l, H l = none → Q (.ref l) (upd H l (.lst ys))) := by
  intro pins s σ H xs us Q I r h
  obtain ⟨p, ys, rfl, hq, q⟩ := h
  obtain ⟨u, rfl, rx⟩ := vals1 r
  cases rx
  have fin : ∀ (its : List Value), Vals ys its → ys.length ≤ sizeLine → ∀ (h' : Heap) (c' : Nat), (∀ b o', s.heap.get? b = some o' → h'.get? b = some o') →
      h'.get? s.heap.objs.size = some { cls := .type "list", dict := none, data := .seq its.toArray c', slots := #[] } → EP X pins σ Q (.ref s.heap.objs.size) { s with heap := h' } := fun its r' hz h' c' kp e =>
    ⟨.ref s.heap.objs.size, _, I.laid (t' := s.toks) kp (Nat.le_refl _) (show ObjOk X.prog X.w _ h' _ (.lst ys) from ⟨hz, its, c', r', e⟩), rfl, q _ (I.hok.fresh (Nat.le_refl _))⟩
  rcases hq with hq | hq
  · obtain ⟨its, r', pl, hz⟩ := I.list hq
    have hlen := r'.length
    obtain ⟨o, ho, hc, n, hd⟩ := pl.isList
    exact call_list_seq p (.inl rfl) ho hc hd (fun h' c' kp e => fin its r' hz h' c' kp e) (by simp only [List.size_toArray] <;> omega)
  · obtain ⟨its, r', pl, hz⟩ := I.tuple hq
    have hlen := r'.length
    obtain ⟨o, ho, hc, n, hd⟩ := pl
    exact call_list_seq p (.inr rfl) ho hc hd (fun h' c' kp e => fin its r' hz h' c' kp e) (by simp only [List.size_toArray] <;> omega)
/-- the value is of that builtin type -/
def tyV (K : PySem.W.Frag) (T : String) (x : V) (H : Hp) : Prop := match x with
  | .str _ => T = "str"
  | .int _ => T = "int"
  | .ref p => (T = "list" ∧ ∃ xs, SqL K H p xs) ∨ (T = "tuple" ∧ ∃ o, K.lookup p = some o ∧ o.cls = .type "tuple" ∧ o.dict = none) ∨
      (T = "dict" ∧ ((∃ kvs, H p = some (.dK kvs)) ∨ ∃ kvs, H p = some (.dT kvs))) ∨ (T = "set" ∧ ∃ S n, H p = some (.set S n))
  | _ => False
theorem tyV_is {pins : List (Addr × Obj)} {σ : St} {H : Hp} {s : Shared} {T : String} {x : V} {v : Value} (I : Inv X pins σ H s) (r : RelV x v) (ty : tyV X.K T x H) :
    s.TypeIs v T ∧ ∀ a, v = .ref a → ∃ ob, s.heap.get? a = some ob ∧ ob.dict = none := by
  cases x with
  | str z =>
    obtain ⟨t, rfl⟩ := r
    cases (show T = "str" from ty)
    exact ⟨typeIs_str s z t, fun _ e => nomatch e⟩
  | int i =>
    obtain ⟨t, rfl⟩ := r
    cases (show T = "int" from ty)
    exact ⟨typeIs_int s i t, fun _ e => nomatch e⟩
  | ref p =>
    cases r
    rcases ty with ⟨rfl, xs, hq⟩ | ⟨rfl, o, hk, hc, hd⟩ | ⟨rfl, hk⟩ | ⟨rfl, S, n, hk⟩
    · obtain ⟨its, _, pl, _⟩ := I.list hq
      refine ⟨pl.isList.typeIs, fun a e => ?_⟩
      cases e
      obtain ⟨o, n, e, c, hd, _⟩ := pl
      exact ⟨o, e, hd⟩
    · refine ⟨⟨o, I.kIn p o hk, hc⟩, fun a e => ?_⟩
      cases e
      exact ⟨o, I.kIn _ o hk, hd⟩
    · have z : ∃ o, s.heap.get? p = some o ∧ o.ExactDict := by
        rcases hk with ⟨kvs, hk⟩ | ⟨kvs, hk⟩
        · obtain ⟨_, _, _, _, o, _, _, e, ex, _⟩ := I.hok p _ hk
          exact ⟨o, e, ex⟩
        · obtain ⟨_, _, _, _, o, _, _, e, ex, _⟩ := I.hok p _ hk
          exact ⟨o, e, ex⟩
      obtain ⟨o, e, ex⟩ := z
      refine ⟨⟨o, e, ex.1⟩, fun a e2 => ?_⟩
      cases e2
      exact ⟨o, e, ex.2.1⟩
    · obtain ⟨o, _, _, _, e, ex, _⟩ := I.hok p _ hk
      refine ⟨⟨o, e, ex.1⟩, fun a e2 => ?_⟩
      cases e2
      exact ⟨o, e, ex.2.1⟩
  | _ => exact False.elim ty
def tBM0 (K : PySem.W.Frag) (T : String) (r : V → List V → Hp → VK → Prop) (to : TE) : TE := fun σ H Q => to σ H fun x H1 => tyV K T x H1 ∧ r x [] H1 Q
def tBM (K : PySem.W.Frag) (T : String) (r : V → List V → Hp → VK → Prop) (to : TE) (t : TA) : TE := fun σ H Q => to σ H fun x H1 => tyV K T x H1 ∧ t σ H1 fun xs H2 => r x xs H2 Q
variable {o e : Expr} {es : List Expr} {to : TE} {t : TA} {name : Str} {apos cpos : Pos} {T id : String} {r : V → List V → Hp → VK → Prop}
theorem pe_bm0 (pa : PlainAttrs T) (slot : Slot T name id) (hty : typeOf (.builtin id) = pure (.type "method_descriptor")) (hm : MtR X id r) (ho : PE X o to)
    (hbase : attributeBase o name X.env (eval o X.env) = eval o X.env := by rfl) (hline : (apos.endLine == cpos.line) = true := by rfl) : PE X (.Call (.Attribute o name apos) [] [] cpos) (tBM0 X.K T r to) := by
  intro pins s σ H Q I h
  refine wpAny_Call_method0_late hbase hline (thn (ho pins s σ H _ I h) fun v s1 ⟨x, H1, I1, r1, ty, q1⟩ => ?_)
  obtain ⟨h1, h2⟩ := tyV_is I1 r1 ty
  exact ⟨T, id, pa, slot, hty, h1, h2, Calls.callWith_builtin rfl (PySem.evalArgs_none (hm pins s1 σ H1 x [] v [] Q I1 r1 .nil q1))⟩
theorem pe_bm (pa : PlainAttrs T) (slot : Slot T name id) (hty : typeOf (.builtin id) = pure (.type "method_descriptor")) (hm : MtR X id r) (ho : PE X o to) (ha : PA X (e :: es) t)
    (hbase : attributeBase o name X.env (eval o X.env) = eval o X.env := by rfl)
    (hfew : ((backTo cpos (starEach (e :: es) X.env)).all (fun x => !x.1) && (backToKw cpos (keywordEach [] X.env)).all (fun x => x.1.isSome)
      && decide ((e :: es).length + ([] : List Keyword).length + (if ([] : List Keyword).isEmpty then 0 else 1) < 30)) = true := by rfl)
    (hline : (apos.endLine == cpos.line) = true := by rfl) (hs : starEach (e :: es) X.env = (false, eval e X.env) :: starEach es X.env := by rfl) (hplain : (backTo cpos (starEach es X.env)).any (·.1) = false := by rfl) :
    PE X (.Call (.Attribute o name apos) (e :: es) [] cpos) (tBM X.K T r to t) := by
  intro pins s σ H Q I h
  refine wpAny_Call_method_late hbase hfew hline rfl (thn (ho pins s σ H _ I h) fun v s1 ⟨x, H1, I1, r1, ty, q1⟩ => ?_)
  obtain ⟨h1, h2⟩ := tyV_is I1 r1 ty
  refine ⟨T, id, pa, slot, hty, h1, h2, ?_⟩
  have hA := ha cpos pins s1 σ H1 _ I1 q1
  rw [hs] at hA ⊢
  refine Calls.callWith_builtin (by show (false || (backTo cpos (starEach es X.env)).any (·.1)) = false; rw [hplain] <;> rfl) (Calls.evalArgs_plain ?_)
  exact thn hA fun us s2 ⟨vs, H2, I2, r2, q2⟩ => hm pins s2 σ H2 x vs v us Q I2 r1 r2 q2
end
end L2

namespace L2
open PySem PySem.Spec PyProof.Rows

def MtM (X : Cx) (id : String) (r : V → List V → Hp → VK → Prop) : Prop :=
  ∀ (pins : List (Addr × Obj)) (s : Shared) (σ : St) (H : Hp) (x : V) (xs : List V) (v : Value) (us : List Value) (Q : VK), Inv X pins σ H s → RelV x v → Vals xs us → r x xs H Q →
    wpAny (model X.prog X.w) X.A (call (.builtin id) (v :: us)) (EP X pins σ Q) X.xe s

theorem Vals.one : ∀ {x : V} {us : List Value}, Vals [x] us → ∃ u, us = [u] ∧ RelV x u
  | _, _, .cons r .nil => ⟨_, rfl, r⟩
theorem Vals.two : ∀ {x y : V} {us : List Value}, Vals [x, y] us → ∃ u v, us = [u, v] ∧ RelV x u ∧ RelV y v
  | _, _, _, .cons r (.cons q .nil) => ⟨_, _, rfl, r, q⟩
theorem Vals.zero : ∀ {us : List Value}, Vals [] us → us = []
  | _, .nil => rfl
theorem Vals.dropLast {xs : List V} {us : List Value} (h : Vals xs us) : Vals xs.dropLast us.dropLast := by
  induction h with
  | nil => exact .nil
  | cons r t ih =>
    cases t with
    | nil => exact .nil
    | cons q t' => exact .cons r ih
theorem Vals.eraseIdx : ∀ {xs : List V} {us : List Value} (i : Nat), Vals xs us → Vals (xs.eraseIdx i) (us.eraseIdx i)
  | _, _, _, .nil => .nil
  | _, _, 0, .cons _ t => t
  | _, _, i + 1, .cons r t => .cons r (Vals.eraseIdx i t)
theorem Vals.reverse {xs : List V} {us : List Value} (h : Vals xs us) : Vals xs.reverse us.reverse := by
  induction h with
  | nil => exact .nil
  | cons r t ih => rw [List.reverse_cons, List.reverse_cons]; exact Vals.append ih (.cons r .nil)
theorem Vals.rep {xs : List V} {us : List Value} (h : Vals xs us) : ∀ k : Nat, Vals (List.replicate k xs).flatten (List.replicate k us).flatten
  | 0 => .nil
  | k + 1 => by
    rw [List.replicate_succ, List.replicate_succ, List.flatten_cons, List.flatten_cons]
    exact Vals.append h (Vals.rep h k)
theorem foldl_rep (its : List Value) : ∀ (k : Nat) (acc : List Value),
    List.foldl (fun x1 x2 => x1 ++ x2) acc.toArray (List.replicate k its.toArray) = (acc ++ (List.replicate k its).flatten).toArray
  | 0, acc => by simp
  | k + 1, acc => by
    have e : acc.toArray ++ its.toArray = (acc ++ its).toArray := by simp
    have e2 : (acc ++ its) ++ (List.replicate k its).flatten = acc ++ (List.replicate (k + 1) its).flatten := by
      rw [List.replicate_succ, List.flatten_cons, List.append_assoc]
    rw [← e2, ← foldl_rep its k (acc ++ its), ← e, List.replicate_succ, List.foldl_cons]

section
variable {X : Cx} {pins : List (Addr × Obj)} {σ : St} {H : Hp} {s : Shared} {l b : Addr} {xs ys zs : List V}

theorem Inv.lset {its its' : List Value} {n : Nat} {f : Array Value → Array Value} {t' : Nat} (I : Inv X pins σ H s) (hH : H l = some (.lst xs))
    (e : s.heap.get? l = some { cls := .type "list", data := .seq its.toArray n }) (hf : f its.toArray = its'.toArray) (hv : Vals ys its') (hz : ys.length ≤ sizeLine) :
    Inv X pins σ (upd H l (.lst ys)) { s with heap := s.heap.update l (Obj.mapSeq f), toks := t' } := by
  have q := PySem.IsL.update e f
  rw [hf] at q
  refine I.write (x := l) (e := l) (by rw [hH]; exact trivial) (.inl rfl) (fun b' u hb hu => (Heap.get?_update_other s.heap (Obj.mapSeq f) (Ne.symm hb)).trans hu) ⟨_, q⟩ ?_
  exact ⟨hz, its', _, hv, q⟩
theorem Inv.lnew {its : List Value} {t' : Nat} (I : Inv X pins σ H s) (hv : Vals ys its) (hz : ys.length ≤ sizeLine) :
    Inv X pins σ (upd H s.heap.objs.size (.lst ys)) { s with heap := s.heap.push { cls := .type "list", data := .seq its.toArray }, toks := t' } :=
  I.laid (fun _ _ q => Heap.get?_push_of_some _ q) (Nat.le_refl _) ⟨hz, its, 0, hv, Heap.get?_push_size _ rfl⟩
theorem Inv.fresh (I : Inv X pins σ H s) : H s.heap.objs.size = none := I.hok.fresh (Nat.le_refl _)
theorem Inv.lstM (I : Inv X pins σ H s) (hH : H l = some (.lst xs)) : xs.length ≤ sizeLine ∧ ∃ (its : List Value) (n : Nat), Vals xs its ∧ xs.length = its.length ∧ s.heap.get? l = some { cls := .type "list", data := .seq its.toArray n } := by
  obtain ⟨z, its, n, r, e⟩ := I.hok l _ hH
  exact ⟨z, its, n, r, r.length, e⟩

theorem notLongL {n : Nat} (h : n ≤ sizeLine) : Builtin.List.listTooLong n = false := by
  unfold Builtin.List.listTooLong
  exact decide_eq_false (by omega)
end

section
variable {X : Cx}

def rAppend : V → List V → Hp → VK → Prop := fun x vs H Q => ∃ l xs y, x = .ref l ∧ vs = [y] ∧ H l = some (.lst xs) ∧ xs.length < sizeLine ∧ Q .non (upd H l (.lst (xs ++ [y])))
theorem mt_append : MtM X "list.append" rAppend := by
  intro pins s σ H x vs v us Q I rx rv h
  obtain ⟨l, xs, y, rfl, rfl, hH, hz, q⟩ := h
  cases rx
  obtain ⟨u, rfl, ru⟩ := rv.one
  obtain ⟨z, its, n, r, hl, e⟩ := I.lstM hH
  refine call_meets F.slot_list_append ⟨_, e, rfl⟩ F.entry_list_append (F.args_list_append_2 _ _) (PySem.list_append l its.toArray n u (by rw [List.size_toArray]; omega)) ⟨e, ?_⟩
  refine ⟨.non, _, I.lset (its' := its ++ [u]) hH e (by simp) (r.append (.cons ru .nil)) ?_, rfl, q⟩
  rw [List.length_append, List.length_singleton]
  omega

def rExtend : V → List V → Hp → VK → Prop := fun x vs H Q => ∃ l b xs zs, x = .ref l ∧ vs = [.ref b] ∧ H l = some (.lst xs) ∧ H b = some (.lst zs) ∧ xs.length + zs.length ≤ sizeLine ∧ Q .non (upd H l (.lst (xs ++ zs)))
def rPop : V → List V → Hp → VK → Prop := fun x vs H Q => ∃ l xs y, x = .ref l ∧ vs = [] ∧ H l = some (.lst xs) ∧ xs[xs.length - 1]? = some y ∧ Q y (upd H l (.lst xs.dropLast))
def rPopAt : V → List V → Hp → VK → Prop := fun x vs H Q => ∃ l xs i k y, x = .ref l ∧ vs = [.int i] ∧ H l = some (.lst xs) ∧ -(2 ^ 63) ≤ i ∧ i < 2 ^ 63 ∧ seqIndex? i xs.length = some k ∧ xs[k]? = some y ∧ Q y (upd H l (.lst (xs.eraseIdx k)))
def rReverse : V → List V → Hp → VK → Prop := fun x vs H Q => ∃ l xs, x = .ref l ∧ vs = [] ∧ H l = some (.lst xs) ∧ Q .non (upd H l (.lst xs.reverse))
theorem mt_reverse : MtM X "list.reverse" rReverse := by
  intro pins s σ H x vs v us Q I rx rv h
  obtain ⟨l, xs, rfl, rfl, hH, q⟩ := h
  cases rx
  have hus := rv.zero
  subst hus
  obtain ⟨z, its, n, r, hl, e⟩ := I.lstM hH
  refine call_meets F.slot_list_reverse ⟨_, e, rfl⟩ F.entry_list_reverse (F.args_list_reverse_1 _) (AutoSeq1.list_reverse_list_0 l its.toArray n (by rw [List.size_toArray]; omega)) ⟨e, ?_⟩
  refine ⟨.non, _, I.lset (its' := its.reverse) hH e (by simp) r.reverse ?_, rfl, q⟩
  rw [List.length_reverse]
  omega

def rClear : V → List V → Hp → VK → Prop := fun x vs H Q => ∃ l xs, x = .ref l ∧ vs = [] ∧ H l = some (.lst xs) ∧ Q .non (upd H l (.lst []))
def rCat : R2 := fun x y H Q => ∃ l b xs zs, x = .ref l ∧ y = .ref b ∧ H l = some (.lst xs) ∧ H b = some (.lst zs) ∧ xs.length + zs.length ≤ sizeLine ∧ ∀ p, H p = none → Q (.ref p) (upd H p (.lst (xs ++ zs)))
theorem op_cat : OpR X (binaryOp .Add) rCat := by
  intro pins s σ H x y v u Q I rx ry h
  obtain ⟨l, b, xs, zs, rfl, rfl, hH, hB, hz, q⟩ := h
  cases rx
  cases ry
  obtain ⟨z, its, n, r, hl, e⟩ := I.lstM hH
  obtain ⟨z2, its2, n2, r2, hl2, e2⟩ := I.lstM hB
  refine PySem.P.add_list e e2 ?_ (by rw [List.size_toArray, List.size_toArray]; omega)
  have ea : its.toArray ++ its2.toArray = (its ++ its2).toArray := by simp
  rw [ea]
  exact ⟨.ref _, _, I.lnew (t' := s.toks) (r.append r2) (by rw [List.length_append]; omega), rfl, q _ I.fresh⟩
/-- a list times an int (a negative one is nothing) -/
def rRep : R2 := fun x y H Q => ∃ l k xs, x = .ref l ∧ y = .int k ∧ H l = some (.lst xs) ∧ -(2 ^ 63) ≤ k ∧ k < 2 ^ 63 ∧ xs.length * k.toNat ≤ sizeLine ∧
  ∀ p, H p = none → Q (.ref p) (upd H p (.lst (List.replicate k.toNat xs).flatten))
theorem len_rep {α : Type} (xs : List α) (k : Nat) : (List.replicate k xs).flatten.length = k * xs.length := by
  induction k with
  | zero => simp
  | succ k ih => rw [List.replicate_succ, List.flatten_cons, List.length_append, ih, Nat.succ_mul, Nat.add_comm]
theorem op_rep : OpR X (binaryOp .Mult) rRep := by
  intro pins s σ H x y v u Q I rx ry h
  obtain ⟨l, k, xs, rfl, rfl, hH, h1, h2, hz, q⟩ := h
  cases rx
  obtain ⟨t, rfl⟩ := ry
  obtain ⟨z, its, n, r, hl, e⟩ := I.lstM hH
  have hlen : its.toArray.size * k.toNat ≤ sizeLine := by rw [List.size_toArray, ← hl]; exact hz
  have hcap : ¬ its.toArray.size * k.toNat > (2 ^ 63 - 1) / 8 := by
    have : (sizeLine : Nat) ≤ (2 ^ 63 - 1) / 8 := by decide
    omega
  have hfit : ¬ (!Builtin.List.listFitsIndex k) = true := by
    rw [fitsIndex_both h1 h2]
    exact Bool.false_ne_true
  have hlong : ¬ Builtin.List.listTooLong (its.toArray.size * k.toNat) = true := by
    rw [notLongL hlen]
    exact Bool.false_ne_true
  have hnew : List.foldl (fun x1 x2 => x1 ++ x2) #[] (List.replicate (if its.toArray.isEmpty = true then 0 else k.toNat) its.toArray) = (List.replicate k.toNat its).flatten.toArray := by
    have f0 : ∀ m : Nat, List.foldl (fun x1 x2 => x1 ++ x2) #[] (List.replicate m its.toArray) = (List.replicate m its).flatten.toArray := fun m => by
      have := foldl_rep its m []
      rw [List.nil_append] at this
      exact this
    rw [f0]
    cases its with
    | nil => simp
    | cons a r' => rw [if_neg (by simp)]
  refine wpAny_binaryOp_repeat_ref (T := "list") (U := "int") (by decide) ⟨_, e, rfl⟩ (fun s' => typeIs_int s' k t) noFill_list_mul F.fills_int_mul F.slot_int_rmul repeat_list F.slot_int_index.lookup
    (call_meets F.slot_int_rmul (typeIs_int s k t) F.entry_int_rmul (F.args_int_rmul_2 _ _) (int___rmul___int_list k t l its.toArray n)
      ⟨e, rfl, ⟨_, e, rfl⟩, call_meets F.slot_list_mul ⟨_, e, rfl⟩ F.entry_list_mul (F.args_list_mul_2 _ _) (AutoListH.list___mul___list_int_3 l its.toArray n k t hfit hcap hlong) ⟨e, ?_⟩⟩)
  rw [hnew]
  exact ⟨.ref _, _, I.lnew (t' := s.toks) (r.rep k.toNat) (by rw [len_rep, Nat.mul_comm]; exact hz), rfl, q _ I.fresh⟩

end

section
variable {prog : Program} {w : World} {A : Around} {E : Value → Shared → Prop} {s : Shared}
set_option maxRecDepth 100000 in
end

section
variable {X : Cx}
end
end L2

namespace L2
open PySem PySem.Spec PyProof.Rows

theorem Vals.ints : ∀ {ns : List Int} {us : List Value}, Vals (ns.map V.int) us → IntsAre us ns
  | [], us, h => by
    rw [List.map_nil] at h
    cases h
    exact IntsAre.nil
  | n :: ns, us, h => by
    rw [List.map_cons] at h
    cases h with
    | cons r t =>
      obtain ⟨k, rfl⟩ := r
      exact IntsAre.cons n k (Vals.ints t)
theorem Vals.strs : ∀ {xs : List Str} {us : List Value}, Vals (xs.map V.str) us → StrsAre us xs
  | [], us, h => by
    rw [List.map_nil] at h
    cases h
    exact StrsAre.nil
  | x :: xs, us, h => by
    rw [List.map_cons] at h
    cases h with
    | cons r t =>
      obtain ⟨k, rfl⟩ := r
      exact StrsAre.cons x k (Vals.strs t)
theorem Vals.ref1 {a : Addr} {us : List Value} (r : Vals [V.ref a] us) : us = [Value.ref a] := by
  cases r with
  | cons r t =>
    cases t
    cases r
    rfl
section
variable {prog : Program} {w : World} {A : Around} {E : Value → Shared → Prop} {s : Shared} {l : Addr} {its : List Value} {ns : List Int} {Q : Value → Shared → Prop}
theorem sum_raw (hh : A.handled = none) (hl : s.heap.IsList l its.toArray) (hi : IntsAre its ns)
    (h : ∀ h' tk t', (∀ b o, s.heap.get? b = some o → h'.get? b = some o) → Q (.int ns.sum t') { s with heap := h', toks := tk }) : wpAny (model prog w) A (call (.builtin "sum") [.ref l]) Q E s := by
  obtain ⟨xs, e⟩ := hi.allInts.items
  have hn : numsOf (intItems xs).toList = ns := by rw [← e]; exact hi.numsOf
  rw [nums_intItems] at hn
  rw [e] at hl
  refine PySem.sum_intListG hh hl fun h' tk t' hk => ?_
  have := h h' tk t' hk
  rw [preSum_eq, List.take_of_length_le (by simp), hn]; exact this
theorem min_raw (hh : A.handled = none) (hl : s.heap.IsList l its.toArray) (hi : IntsAre its ns) (hne : 0 < ns.length)
    (h : ∀ h' tk M t', (∀ b o, s.heap.get? b = some o → h'.get? b = some o) → M ∈ ns → (∀ a, a ∈ ns → M ≤ a) → Q (.int M t') { s with heap := h', toks := tk }) : wpAny (model prog w) A (call (.builtin "min") [.ref l]) Q E s := by
  obtain ⟨xs, e⟩ := hi.allInts.items
  have hn : numsOf (intItems xs).toList = ns := by rw [← e]; exact hi.numsOf
  rw [nums_intItems] at hn
  subst hn
  rw [e] at hl
  have hsz : 0 < xs.size := by simpa using hne
  refine PySem.min_intList hh hl hsz fun v h' tk hv hk => ?_
  obtain ⟨t, rfl⟩ := intItems_at hv
  obtain ⟨h1, h2⟩ := argBest_lt (numAt xs) (xs.size - 1)
  refine h h' tk _ t hk ?_ fun a ha => ?_
  · rw [numAt_eq]; exact PySem.getD_mem (by rw [List.length_map, Array.length_toList]; omega)
  · obtain ⟨j, hj, rfl⟩ := mem_getD ha
    rw [List.length_map, Array.length_toList] at hj
    rw [← numAt_eq]; exact h2 j (by omega)
end

section
variable {X : Cx}
/-- sum(xs) of a list of ints -/
def rSum (K : PySem.W.Frag) : List V → Hp → VK → Prop := fun vs H Q => ∃ (a : Addr) (ns : List Int), vs = [V.ref a] ∧ SqL K H a (ns.map V.int) ∧ Q (.int ns.sum) H
/-- max(xs), min(xs) of a list of ints -/
def rMax (K : PySem.W.Frag) : List V → Hp → VK → Prop := fun vs H Q => ∃ (a : Addr) (ns : List Int), vs = [V.ref a] ∧ SqL K H a (ns.map V.int) ∧ 0 < ns.length ∧ ∀ m, m ∈ ns → (∀ y, y ∈ ns → y ≤ m) → Q (.int m) H
def rMin (K : PySem.W.Frag) : List V → Hp → VK → Prop := fun vs H Q => ∃ (a : Addr) (ns : List Int), vs = [V.ref a] ∧ SqL K H a (ns.map V.int) ∧ 0 < ns.length ∧ ∀ m, m ∈ ns → (∀ y, y ∈ ns → m ≤ y) → Q (.int m) H
theorem cr_sum (hc : X.calm = true) : CallR X (.builtin "sum") (rSum X.K) := by
  intro pins s σ H vs us Q I r h
  obtain ⟨a, ns, rfl, hs, q⟩ := h
  obtain ⟨its, rv, hl, _⟩ := I.list hs
  rw [Vals.ref1 r]
  exact sum_raw (I.ok.hd hc) hl.isList rv.ints fun h' tk t' hk => ⟨.int _, H, I.kept hk, ⟨_, rfl⟩, q⟩
theorem cr_min (hc : X.calm = true) : CallR X (.builtin "min") (rMin X.K) := by
  intro pins s σ H vs us Q I r h
  obtain ⟨a, ns, rfl, hs, hne, q⟩ := h
  obtain ⟨its, rv, hl, _⟩ := I.list hs
  rw [Vals.ref1 r]
  exact min_raw (I.ok.hd hc) hl.isList rv.ints hne fun h' tk m t' hk h1 h2 => ⟨.int _, H, I.kept hk, ⟨_, rfl⟩, q m h1 h2⟩

def rSorted (K : PySem.W.Frag) : List V → Hp → VK → Prop := fun vs H Q => ∃ (a : Addr) (ns : List Int), vs = [V.ref a] ∧ SqL K H a (ns.map V.int) ∧ ns.length < 64 ∧
  ∀ (ns' : List Int) (p : Addr), ns'.Perm ns → ns'.Pairwise (· ≤ ·) → H p = none → Q (.ref p) (upd H p (.lst (ns'.map V.int)))
def rSortedS (K : PySem.W.Frag) : List V → Hp → VK → Prop := fun vs H Q => ∃ (a : Addr) (xs : List Str), vs = [V.ref a] ∧ SqL K H a (xs.map V.str) ∧ xs.length < 64 ∧
  ∀ (ys : List Str) (p : Addr), ys.Perm xs → sortedS ys = true → H p = none → Q (.ref p) (upd H p (.lst (ys.map V.str)))
/-- xs.sort(), ints -/
def rSort : V → List V → Hp → VK → Prop := fun x xs H Q => ∃ (a : Addr) (ns : List Int), x = V.ref a ∧ xs = [] ∧ H a = some (.lst (ns.map V.int)) ∧ ns.length < 64 ∧
  ∀ ns' : List Int, ns'.Perm ns → ns'.Pairwise (· ≤ ·) → Q .non (upd H a (.lst (ns'.map V.int)))
end

section
variable {X : Cx}
def rIndex (K : PySem.W.Frag) : V → List V → Hp → VK → Prop := fun x xs H Q => ∃ (a : Addr) (ys : List V) (y : V) (j : Nat) (z : V), x = V.ref a ∧ xs = [y] ∧ SqL K H a ys ∧ flatV y = true ∧ ys.all flatV = true ∧ ys[j]? = some z ∧ eqV z y = true ∧
  (∀ (m : Nat) (z' : V), m < j → ys[m]? = some z' → eqV z' y = false) ∧ Q (.int (j : Nat)) H
theorem flat_at {ys : List V} (f : ys.all flatV = true) {j : Nat} {z : V} (h : ys[j]? = some z) : flatV z = true := List.all_eq_true.mp f z (List.mem_of_getElem? h)
theorem mt_index : MtR X "list.index" (rIndex X.K) := by
  intro pins s σ H x xs v us Q I rx rxs h
  obtain ⟨a, ys, y, j, z, rfl, rfl, hs, fy, fys, hz, hzj, hno, q⟩ := h
  cases rx
  cases rxs with
  | cons ry rt =>
    rename_i uy ut
    cases rt
    obtain ⟨its, rv, ⟨⟨cls, dd, data, sl⟩, n, ho, hc, hdn, hd⟩, hlen⟩ := I.list hs
    simp only at hc hd
    subst hc hd
    obtain ⟨u, hu, ru⟩ := rv.get hz
    obtain ⟨hjl, hje⟩ := List.getElem?_eq_some_iff.mp hu
    have hvl := rv.length
    have hj : j < its.toArray.size := by simpa using hjl
    have hsl := sizeLine_eq
    refine call_meets PySem.F.slot_list_index ⟨_, ho, rfl⟩ PySem.F.entry_list_index (PySem.F.args_list_index_2 _ _)
      (SeqAt.list_indexAt a its.toArray n dd sl uy (eqU y) j hj (by omega) ?_ ?_) ⟨ho, fun u' hu' => mem_eqAt ry fy rv fys u' (by simpa using hu'), ?_⟩
    · have e1 : its.toArray[j] = u := by simpa using hje
      rw [e1, eqU_of ru (flat_at fys hz)]
      exact hzj
    · intro m hm hmj
      have hml : m < its.length := by simpa using hm
      have hmy : m < ys.length := by omega
      have hy' : ys[m]? = some ys[m] := List.getElem?_eq_getElem hmy
      obtain ⟨u2, hu2, ru2⟩ := rv.get hy'
      obtain ⟨_, hme⟩ := List.getElem?_eq_some_iff.mp hu2
      have e1 : its.toArray[m] = u2 := by simpa using hme
      rw [e1, eqU_of ru2 (flat_at fys hy')]
      exact hno m _ hmj hy'
    · exact ⟨.int (j : Nat), H, I.tok _, ⟨_, rfl⟩, q⟩
end

section
variable {X : Cx}
end

section
variable {X : Cx}
def rAny (K : PySem.W.Frag) : List V → Hp → VK → Prop := fun vs H Q => ∃ (a : Addr) (bs : List Bool), vs = [V.ref a] ∧ SqL K H a (bs.map V.bl) ∧ Q (.bl (bs.any id)) H
def rAll (K : PySem.W.Frag) : List V → Hp → VK → Prop := fun vs H Q => ∃ (a : Addr) (bs : List Bool), vs = [V.ref a] ∧ SqL K H a (bs.map V.bl) ∧ Q (.bl (bs.all id)) H
end

mutual
inductive Dp (K : PySem.W.Frag) (H : Hp) : V → PyData → Prop
  | non : Dp K H .non .none
  | bl (b : Bool) : Dp K H (.bl b) (.bool b)
  | int (i : Int) : Dp K H (.int i) (.int i)
  | str (x : Str) : Dp K H (.str x) (.str x)
  | lst {a : Addr} {xs : List V} {ds : List PyData} : SqL K H a xs → DpAll K H xs ds → Dp K H (.ref a) (.list ds)
  | tup {a : Addr} {xs : List V} {ds : List PyData} : SqT K H a xs → DpAll K H xs ds → Dp K H (.ref a) (.tuple ds)
inductive DpAll (K : PySem.W.Frag) (H : Hp) : List V → List PyData → Prop
  | nil : DpAll K H [] []
  | cons {v : V} {vs : List V} {d : PyData} {ds : List PyData} : Dp K H v d → DpAll K H vs ds → DpAll K H (v :: vs) (d :: ds)
end
section
variable {X : Cx} {pins : List (Addr × Obj)} {σ : St} {H : Hp} {s : Shared}
mutual
theorem Dp.reads (I : Inv X pins σ H s) : ∀ (d : PyData) (v : V) (u : Value), Dp X.K H v d → RelV v u → ∃ as, Reads s.heap u d as
  | .none, _, _, h, r => by
    cases h
    cases r
    exact ⟨_, Reads.none⟩
  | .bool b, _, _, h, r => by
    cases h
    cases r
    exact ⟨_, Reads.bool b⟩
  | .int i, _, _, h, r => by
    cases h
    obtain ⟨t, rfl⟩ := r
    exact ⟨_, Reads.int i t⟩
  | .str x, _, _, h, r => by
    cases h
    obtain ⟨t, rfl⟩ := r
    exact ⟨_, Reads.str x t⟩
  | .list ds, _, _, h, r => by
    cases h with
    | lst hs ha =>
      cases r
      obtain ⟨its, rv, ⟨o, n, ho, hc, _, hd⟩, _⟩ := I.list hs
      obtain ⟨as, hr⟩ := Dp.readsAll I ds _ its ha rv
      exact ⟨_, Reads.list ho hc hd hr⟩
  | .tuple ds, _, _, h, r => by
    cases h with
    | tup hs ha =>
      cases r
      obtain ⟨its, rv, ⟨o, ho, hc, n, hd⟩, _⟩ := I.tuple hs
      obtain ⟨as, hr⟩ := Dp.readsAll I ds _ its ha rv
      exact ⟨_, Reads.tuple ho hc hd hr⟩
  | .dict _, _, _, h, _ => by cases h
theorem Dp.readsAll (I : Inv X pins σ H s) : ∀ (ds : List PyData) (vs : List V) (us : List Value), DpAll X.K H vs ds → Vals vs us → ∃ as, ReadsAll s.heap us ds as
  | [], _, _, h, r => by
    cases h
    cases r
    exact ⟨_, ReadsAll.nil⟩
  | d :: ds, _, _, h, r => by
    cases h with
    | cons h1 h2 =>
      cases r with
      | cons r1 r2 =>
        obtain ⟨as, q1⟩ := Dp.reads I d _ _ h1 r1
        obtain ⟨bs, q2⟩ := Dp.readsAll I ds _ _ h2 r2
        exact ⟨_, ReadsAll.cons q1 q2⟩
end
end
section
variable {X : Cx}
def rEqD (K : PySem.W.Frag) : R2 := fun x y H Q => ∃ d e, Dp K H x d ∧ Dp K H y e ∧ SeqAt.shaped d = true ∧ SeqAt.shaped e = true ∧ Q (.bl (PyData.eqv d e)) H
def rNeD (K : PySem.W.Frag) : R2 := fun x y H Q => ∃ d e, Dp K H x d ∧ Dp K H y e ∧ SeqAt.shaped d = true ∧ SeqAt.shaped e = true ∧ Q (.bl (!PyData.eqv d e)) H
theorem op_eqD (hu : X.A.units + 64 < cLine) : OpR X (compareOp .Eq) (rEqD X.K) := by
  intro pins s σ H x y v u Q I rx ry h
  obtain ⟨d, e, hd, he, sd, se, q⟩ := h
  obtain ⟨as, r1⟩ := Dp.reads I d x v hd rx
  obtain ⟨bs, r2⟩ := Dp.reads I e y u he ry
  exact SeqAt.compareEq_shaped r1 r2 sd se hu ⟨.bl _, H, I, rfl, q⟩
theorem op_neD (hu : X.A.units + 64 < cLine) : OpR X (compareOp .NotEq) (rNeD X.K) := by
  intro pins s σ H x y v u Q I rx ry h
  obtain ⟨d, e, hd, he, sd, se, q⟩ := h
  obtain ⟨as, r1⟩ := Dp.reads I d x v hd rx
  obtain ⟨bs, r2⟩ := Dp.reads I e y u he ry
  exact SeqAt.compareNe_shaped r1 r2 sd se hu ⟨.bl _, H, I, rfl, q⟩
end
end L2

namespace L2
open PySem PySem.Spec PyProof.Rows
abbrev CellAt (h : Heap) (c : Addr) (v : Option Value) : Prop := h.IsCell c v
def relS (scope sc : Scope) : Scope :=
  { scope with names := scope.names.map fun (n, k) => if (k == .free && sc.kind == .function && sc.names.lookup n == some .cell) then (n, .cell) else (n, k) }

def cloFrom (cells : List (Str × Addr)) : List (Str × NameKind) → List (Str × Addr) → List (Str × Addr)
  | [], acc => acc
  | (n, k) :: r, acc => if k == .free then cloFrom cells r ((n, (cells.lookup n).getD 0) :: acc) else cloFrom cells r acc

theorem closure_loop (env : Env) (f : Str × NameKind → List (Str × Addr) → Sem (ForInStep (List (Str × Addr))))
    (hf : ∀ n k c, f (n, k) c = if k == .free then (do let a ← cellOf env n; pure (.yield ((n, a) :: c))) else pure (.yield c)) :
    ∀ (names : List (Str × NameKind)) (acc : List (Str × Addr)), (∀ y ∈ names, y.2 = .free → ∃ c, env.cells.lookup y.1 = some c) → forIn names acc f = pure (cloFrom env.cells names acc)
  | [], acc, _ => by rw [List.forIn_nil]; rfl
  | (n, k) :: r, acc, h => by
    rw [List.forIn_cons, hf]
    have ih := fun acc => closure_loop env f hf r acc fun y hy => h y (List.mem_cons_of_mem _ hy)
    unfold cloFrom
    by_cases hk : (k == NameKind.free) = true
    · rw [if_pos hk, if_pos hk]
      obtain ⟨c, hc⟩ := h (n, k) List.mem_cons_self (by simpa using hk)
      have e : cellOf env n = pure c := by unfold cellOf; rw [hc]
      rw [e]
      have e2 : (env.cells.lookup n).getD 0 = c := by rw [hc]; rfl
      rw [e2]
      exact ih _
    · rw [if_neg hk, if_neg hk]
      exact ih _
theorem closure_ok {scope : Scope} {env : Env} (h : ∀ y ∈ scope.names, y.2 = .free → ∃ c, env.cells.lookup y.1 = some c) : closureFor scope env = pure (cloFrom env.cells scope.names []) := by
  simp only [closureFor]
  rw [closure_loop env _ (fun n k c => rfl) scope.names [] h]
  rfl

theorem mem_lookup {α : Type} : ∀ {l : List (Str × α)} {n : Str} {c : α}, (n, c) ∈ l → ∃ c', l.lookup n = some c'
  | (k, v) :: r, n, c, h => by
    rw [List.lookup_cons]
    cases hb : n == k with
    | true => exact ⟨_, rfl⟩
    | false =>
      rcases List.mem_cons.mp h with e | h
      · cases e; simp at hb
      · exact mem_lookup h

theorem cloFrom_mem {cells : List (Str × Addr)} : ∀ {names : List (Str × NameKind)} {acc : List (Str × Addr)} {n : Str} {c : Addr}, (n, c) ∈ cloFrom cells names acc → (n, c) ∈ acc ∨ ((n, .free) ∈ names ∧ c = (cells.lookup n).getD 0)
  | [], _, _, _, h => .inl h
  | (m, k) :: r, acc, n, c, h => by
    unfold cloFrom at h
    split at h
    · rename_i hk
      have hk : k = .free := by simpa using hk
      rcases cloFrom_mem h with h | ⟨h1, h2⟩
      · rcases List.mem_cons.mp h with e | h
        · cases e; exact .inr ⟨hk ▸ List.mem_cons_self, rfl⟩
        · exact .inl h
      · exact .inr ⟨List.mem_cons_of_mem _ h1, h2⟩
    · rcases cloFrom_mem h with h | ⟨h1, h2⟩
      · exact .inl h
      · exact .inr ⟨List.mem_cons_of_mem _ h1, h2⟩
theorem cloFrom_acc {cells : List (Str × Addr)} : ∀ {names : List (Str × NameKind)} {acc : List (Str × Addr)} {p : Str × Addr}, p ∈ acc → p ∈ cloFrom cells names acc
  | [], _, _, h => h
  | (m, k) :: r, acc, p, h => by
    unfold cloFrom
    split
    · exact cloFrom_acc (List.mem_cons_of_mem _ h)
    · exact cloFrom_acc h
theorem cloFrom_has {cells : List (Str × Addr)} : ∀ {names : List (Str × NameKind)} {acc : List (Str × Addr)} {n : Str}, (n, .free) ∈ names → (n, (cells.lookup n).getD 0) ∈ cloFrom cells names acc
  | (m, k) :: r, acc, n, h => by
    unfold cloFrom
    rcases List.mem_cons.mp h with e | h
    · cases e
      exact cloFrom_acc List.mem_cons_self
    · split
      · exact cloFrom_has h
      · exact cloFrom_has h

theorem cells_mem : ∀ {names : List (Str × NameKind)} {h : Heap} {acc : List (Str × Addr)} {x : Str} {c : Addr}, (x, c) ∈ cellsFrom h.objs.size names acc →
    (x, c) ∈ acc ∨ ((x, .cell) ∈ names ∧ h.objs.size ≤ c ∧ CellAt (pushCells h names) c none)
  | [], _, _, _, _, h => .inl h
  | (n, k) :: r, h, acc, x, c, hm => by
    unfold cellsFrom at hm
    unfold pushCells
    split at hm
    · rename_i hk
      rw [if_pos hk]
      have hk : k = .cell := by simpa using hk
      rw [← Heap.size_push h { cls := .type "cell", data := .cell none }] at hm
      rcases cells_mem hm with hm | ⟨h1, h2, h3⟩
      · rcases List.mem_cons.mp hm with e | hm
        · cases e
          exact .inr ⟨hk ▸ List.mem_cons_self, Nat.le_refl _, _, pushCells_keeps r _ _ _ (Heap.get?_push_size _ rfl), rfl⟩
        · exact .inl hm
      · rw [Heap.size_push] at h2
        exact .inr ⟨List.mem_cons_of_mem _ h1, Nat.le_of_succ_le h2, h3⟩
    · rename_i hk
      rw [if_neg hk]
      rcases cells_mem hm with hm | ⟨h1, h2, h3⟩
      · exact .inl hm
      · exact .inr ⟨List.mem_cons_of_mem _ h1, h2, h3⟩
theorem cells_acc : ∀ {names : List (Str × NameKind)} {n : Nat} {acc : List (Str × Addr)} {p : Str × Addr}, p ∈ acc → p ∈ cellsFrom n names acc
  | [], _, _, _, h => h
  | (m, k) :: r, n, acc, p, h => by
    unfold cellsFrom
    split
    · exact cells_acc (List.mem_cons_of_mem _ h)
    · exact cells_acc h
theorem cells_has : ∀ {names : List (Str × NameKind)} {n : Nat} {acc : List (Str × Addr)} {x : Str}, (x, .cell) ∈ names → ∃ c, (x, c) ∈ cellsFrom n names acc
  | (m, k) :: r, n, acc, x, h => by
    unfold cellsFrom
    rcases List.mem_cons.mp h with e | h
    · cases e
      exact ⟨n, cells_acc List.mem_cons_self⟩
    · split
      · exact cells_has h
      · exact cells_has h
theorem cells_inj : ∀ {names : List (Str × NameKind)} {h : Heap} {acc : List (Str × Addr)} {x y : Str} {c : Addr}, (∀ p ∈ acc, p.2 < h.objs.size) → (∀ x y c, (x, c) ∈ acc → (y, c) ∈ acc → x = y) →
    (x, c) ∈ cellsFrom h.objs.size names acc → (y, c) ∈ cellsFrom h.objs.size names acc → x = y
  | [], _, _, _, _, _, _, hi, h1, h2 => hi _ _ _ h1 h2
  | (n, k) :: r, h, acc, x, y, c, hl, hi, h1, h2 => by
    unfold cellsFrom at h1 h2
    split at h1
    · rename_i hk
      rw [if_pos hk] at h2
      rw [← Heap.size_push h { cls := .type "cell", data := .cell none }] at h1 h2
      refine cells_inj (h := h.push _) (fun p hp => ?_) (fun x y c a b => ?_) h1 h2
      · rw [Heap.size_push]
        rcases List.mem_cons.mp hp with rfl | hp
        · exact Nat.lt_succ_self _
        · exact Nat.lt_succ_of_lt (hl p hp)
      · rcases List.mem_cons.mp a with e | a <;> rcases List.mem_cons.mp b with e' | b
        · cases e; cases e'; rfl
        · cases e; exact absurd (hl _ b) (Nat.lt_irrefl _)
        · cases e'; exact absurd (hl _ a) (Nat.lt_irrefl _)
        · exact hi _ _ _ a b
    · rename_i hk
      rw [if_neg hk] at h2
      exact cells_inj hl hi h1 h2

theorem newEnv_comp {M : Model} {A : Around} {E : Value → Shared → Prop} {s : Shared} {scope : Scope} {globals : Addr} {closure : List (Str × Addr)} {qual : Str} {func : Option Addr} {code : Value} {around : Env} {builtins : Addr} {Q : Env → Shared → Prop}
    (h : Q (newEnv scope s.heap.objs.size globals (cellsFrom (s.heap.objs.size + 1) scope.names closure) qual func code (some around) builtins)
      { s with heap := pushCells (s.heap.push { cls := .type "dict", data := .dict #[] }) scope.names }) :
    wpAny M A (newFunctionEnv scope globals closure [] qual func code (some around) builtins) Q E s := by
  simp only [newFunctionEnv, Option.isSome_some, if_true]
  refine wpAny_bind (wpAny_alloc ?_)
  refine wpAny_bind (wpAny_layCells _ (fun n k c => rfl) scope.names closure _ _ ?_)
  rw [show ({ s with heap := s.heap.push { cls := .type "dict", data := .dict #[] } } : Shared).heap.objs.size = s.heap.objs.size + 1 from Heap.size_push ..]
  rw [List.forIn_nil]
  exact wpAny_bind (wpAny_pure (wpAny_pure h))

/-- every name of the written scope, in the scope that runs -/
theorem lookup_relS {sc : Scope} : ∀ {names : List (Str × NameKind)} {x : Str} {k : NameKind},
    (names.map fun (n, k) => if (k == NameKind.free && sc.kind == .function && sc.names.lookup n == some .cell) then (n, NameKind.cell) else (n, k)).lookup x = some k →
    ∃ k', names.lookup x = some k' ∧ (k = k' ∨ (k' = .free ∧ k = .cell))
  | [], _, _, h => by simp at h
  | (n, k₀) :: r, x, k, h => by
    have ih := @lookup_relS sc r x k
    have h' : List.lookup x ((if (k₀ == NameKind.free && sc.kind == .function && sc.names.lookup n == some .cell) = true then (n, NameKind.cell) else (n, k₀)) :: (r.map _)) = some k := h
    cases hx : x == n with
    | true =>
      simp only [List.lookup_cons, hx]
      by_cases hc : (k₀ == NameKind.free && sc.kind == .function && sc.names.lookup n == some .cell) = true
      · rw [if_pos hc] at h'
        simp only [List.lookup_cons, hx] at h'
        cases h'
        simp only [Bool.and_eq_true, beq_iff_eq] at hc
        exact ⟨k₀, rfl, .inr ⟨hc.1.1, rfl⟩⟩
      · rw [if_neg hc] at h'
        simp only [List.lookup_cons, hx] at h'
        cases h'
        exact ⟨_, rfl, .inl rfl⟩
    | false =>
      simp only [List.lookup_cons, hx]
      by_cases hc : (k₀ == NameKind.free && sc.kind == .function && sc.names.lookup n == some .cell) = true
      · rw [if_pos hc] at h'
        simp only [List.lookup_cons, hx] at h'
        exact ih h'
      · rw [if_neg hc] at h'
        simp only [List.lookup_cons, hx] at h'
        exact ih h'
/-- the names of a comprehension's block: its own (with their places in N), or captured -/
structure BlkOk (N : List Str) (sc scope : Scope) (own : List (Str × Nat)) : Prop where
  kind : scope.kind = .function
  uniq : ∀ y ∈ scope.names, scope.names.lookup y.1 = some y.2
  ix : ∀ p ∈ own, N[p.2]? = some p.1
  free : ∀ y ∈ scope.names, y.2 = .free → sc.names.lookup y.1 = some .cell ∨ sc.names.lookup y.1 = some .free
  own : ∀ y ∈ scope.names, y.2 = .local ∨ y.2 = .cell → y.1 ∈ own.map (·.1) ∨ y.1 ∉ N
/-- the slots of the block's own names forgotten -/
def wipe (σ : St) : List Nat → St
  | [] => σ
  | v :: vs => (wipe σ vs).set v none
theorem wipe_length (σ : St) : ∀ vs : List Nat, (wipe σ vs).length = σ.length
  | [] => rfl
  | v :: vs => by unfold wipe; rw [List.length_set, wipe_length σ vs]
theorem wipe_some {σ : St} {i : Nat} {x : V} : ∀ {vs : List Nat}, (wipe σ vs)[i]? = some (some x) → σ[i]? = some (some x) ∧ i ∉ vs
  | [], h => ⟨h, by simp⟩
  | v :: vs, h => by
    unfold wipe at h
    by_cases hi : v = i
    · subst hi
      by_cases hv : v < (wipe σ vs).length
      · rw [List.getElem?_set_self hv] at h; cases h
      · rw [List.getElem?_eq_none (by simpa using hv)] at h; cases h
    · rw [List.getElem?_set_ne hi] at h
      obtain ⟨h1, h2⟩ := wipe_some h
      exact ⟨h1, by simp only [List.mem_cons, not_or]; exact ⟨fun e => hi e.symm, h2⟩⟩

/-- the context of a block that starts at s, its iterator's objects at fp -/
abbrev Cx.blk (X : Cx) (s : Shared) (H : Hp) (scope : Scope) (cenv : Env) (fp : List Addr) : Cx := { X with s_0 := s, H_0 := H, env := cenv, outer := X.stack, ex := fp, fn := fun x => scope.names.lookup x == some .cell, pn := [], xe := fun _ _ => False }
section
variable {X : Cx} {pins : List (Addr × Obj)} {σ : St} {H : Hp} {s : Shared}
theorem block_start {scope : Scope} {own : List (Str × Nat)} {fp : List Addr} (I : Inv X pins σ H s) (ok : BlkOk X.N X.env.scope scope own) (hN : X.N.Nodup) (hfp : ∀ b ∈ fp, FpOk X pins H b ∧ b < s.heap.objs.size) :
    Inv (X.blk s H scope (compEnvC scope (cellsFrom (s.heap.objs.size + 1) scope.names (cloFrom X.env.cells scope.names [])) s.heap.objs.size X.env) fp) [] (wipe σ (own.map (·.2))) H { s with heap := pushCells (s.heap.push { cls := .type "dict", data := .dict #[] }) scope.names } := by
  have hfree : ∀ y ∈ scope.names, y.2 = .free → ∃ c, X.env.cells.lookup y.1 = some c := fun y hy e => by
    rcases ok.free y hy e with k | k
    · exact I.ok.has _ (.inl k)
    · exact I.ok.has _ (.inr k)
  generalize hcenv : compEnvC scope (cellsFrom (s.heap.objs.size + 1) scope.names (cloFrom X.env.cells scope.names [])) s.heap.objs.size X.env = cenv
  have kp : ∀ b o, s.heap.get? b = some o → (pushCells (s.heap.push { cls := .type "dict", data := .dict #[] }) scope.names).get? b = some o := fun b o e => pushCells_keeps _ _ _ _ (Heap.get?_push_of_some _ e)
  have hL : cenv.locals = s.heap.objs.size := by rw [← hcenv]; rfl
  have hcl : cenv.cells = cellsFrom (s.heap.objs.size + 1) scope.names (cloFrom X.env.cells scope.names []) := by rw [← hcenv]; rfl
  have hsc : cenv.scope = relS scope X.env.scope := by rw [← hcenv]; rfl
  rw [← Heap.size_push s.heap { cls := .type "dict", data := .dict #[] }] at hcl
  have cm : ∀ {y c}, (y, c) ∈ cloFrom X.env.cells scope.names [] → X.env.cells.lookup y = some c ∧ c < s.heap.objs.size := fun {y c} hm => by
    rcases cloFrom_mem hm with hm | ⟨h1, rfl⟩
    · cases hm
    · obtain ⟨c, hc⟩ := hfree _ h1 rfl
      rw [hc]
      obtain ⟨w, z⟩ := I.cell _ _ hc
      exact ⟨rfl, z.lt⟩
  have mem : ∀ {y c}, cenv.cells.lookup y = some c → (X.env.cells.lookup y = some c ∧ c < s.heap.objs.size) ∨ (s.heap.objs.size + 1 ≤ c ∧ CellAt (pushCells (s.heap.push { cls := .type "dict", data := .dict #[] }) scope.names) c none) := fun {y c} e => by
    rw [hcl] at e
    rcases cells_mem (PySem.mem_of_lookup e) with hm | ⟨_, h2, h3⟩
    · exact .inl (cm hm)
    · rw [Heap.size_push] at h2; exact .inr ⟨h2, h3⟩
  have look : ∀ {y}, scope.names.lookup y = some .free → ∃ c, cenv.cells.lookup y = some c ∧ X.env.cells.lookup y = some c := fun {y} hl => by
    have hy : (y, NameKind.free) ∈ scope.names := PySem.mem_of_lookup hl
    obtain ⟨c', e'⟩ := mem_lookup (cells_acc (names := scope.names) (n := (s.heap.push { cls := .type "dict", data := .dict #[] }).objs.size) (cloFrom_has (cells := X.env.cells) (acc := []) hy))
    rw [← hcl] at e'
    refine ⟨c', e', ?_⟩
    rw [hcl] at e'
    rcases cells_mem (PySem.mem_of_lookup e') with hm | ⟨h1, _, _⟩
    · exact (cm hm).1
    · have := ok.uniq _ h1
      rw [hl] at this; cases this
  have okB : (X.blk s H scope cenv fp).Ok := by
    refine ⟨I.ok.mod, by show cenv.scope.kind = _; rw [hsc]; exact ok.kind, by show cenv.globals = _; rw [← hcenv]; exact I.ok.glob, by show cenv.builtins = _; rw [← hcenv]; exact I.ok.blt, by show s.heap.objs.size ≤ cenv.locals; rw [hL]; exact Nat.le_refl _,
      fun y z c e1 e2 => ?_, fun y hy => ?_, fun y c z e => ?_, I.ok.hd, I.ok.frames, .inl rfl, fun b hb => ⟨?_, fun y c e z => ?_⟩, I.bs, Nat.le_trans I.ok.bsz I.sz, fun b o e hb => ?_, fun b hb z => ?_, I.stack, I.stkFree⟩
    · have e1 : cenv.cells.lookup y = some c := e1
      have e2 : cenv.cells.lookup z = some c := e2
      rw [hcl] at e1 e2
      refine cells_inj (fun p hp => ?_) (fun y z c a b => I.ok.inj y z c (cm a).1 (cm b).1) (PySem.mem_of_lookup e1) (PySem.mem_of_lookup e2)
      rw [Heap.size_push]
      exact Nat.lt_succ_of_lt (cm (y := p.1) (c := p.2) hp).2
    · show ∃ c, cenv.cells.lookup y = some c
      have key : ∀ k, cenv.kindOf y = some k → (k = .cell ∨ k = .free) → ∃ c, cenv.cells.lookup y = some c := fun k hk hk' => by
        unfold Env.kindOf at hk
        rw [hsc] at hk
        obtain ⟨k', e, r⟩ := lookup_relS hk
        have : k' = .cell ∨ k' = .free := by
          rcases r with rfl | ⟨rfl, _⟩
          · exact hk'
          · exact .inr rfl
        rcases this with rfl | rfl
        · obtain ⟨c, hm⟩ := cells_has (n := (s.heap.push { cls := .type "dict", data := .dict #[] }).objs.size) (acc := cloFrom X.env.cells scope.names []) (PySem.mem_of_lookup e)
          obtain ⟨c', e'⟩ := mem_lookup hm
          exact ⟨c', by rw [hcl]; exact e'⟩
        · obtain ⟨c, h1, _⟩ := look e
          exact ⟨c, h1⟩
      rcases hy with hy | hy
      · exact key _ hy (.inl rfl)
      · exact key _ hy (.inr rfl)
    · have z : (scope.names.lookup y == some NameKind.cell) = true := z
      have z : scope.names.lookup y = some .cell := by simpa using z
      have e : cenv.cells.lookup y = some c := e
      rw [hcl] at e
      rcases cells_mem (PySem.mem_of_lookup e) with hm | ⟨_, h2, _⟩
      · rcases cloFrom_mem hm with hm | ⟨h1, _⟩
        · cases hm
        · have q := ok.uniq _ h1
          rw [z] at q; cases q
      · rw [Heap.size_push] at h2
        exact Nat.le_of_succ_le h2
    · show b ≠ cenv.locals
      rw [hL]; exact Nat.ne_of_lt (hfp b hb).2
    · have e : cenv.cells.lookup y = some c := e
      rcases mem e with ⟨h1, _⟩ | ⟨h1, _⟩
      · exact (hfp b hb).1.2.2.2.2.1 y c h1 z
      · have h2 : s.heap.objs.size + 1 ≤ b := by rw [← z]; exact h1
        exact absurd (Nat.lt_of_lt_of_le (hfp b hb).2 (Nat.le_of_succ_le h2)) (Nat.lt_irrefl _)
    · rcases (hfp b hb).1.2.2.2.1 with z | z
      · exact I.ok.noex b o e z
      · exact absurd (Nat.lt_of_lt_of_le (Heap.lt_size e) (Nat.le_trans I.ok.bsz z)) (Nat.lt_irrefl _)
    · rcases List.mem_cons.mp (I.stkSub b z) with z | z
      · exact (hfp b hb).1.2.1 z
      · exact (hfp b hb).1.2.2.1 z
  refine ⟨okB, rfl, .self I.bare.1, Un.kept kp, ⟨fun _ => none, ?_, fun i y av e1 e2 e3 => ?_⟩, fun y c e => ?_, ?_, fun y c e => ?_, fun p hp => ?_, I.hok.kept kp, by rw [wipe_length]; exact I.len⟩
  · show Heap.Ns _ cenv.locals _
    rw [hL]
    exact Heap.Ns.keeps (Heap.Ns.new ..) fun b o e => pushCells_keeps _ _ _ _ e
  · obtain ⟨e2, hne⟩ := wipe_some e2
    have hfr : scope.names.lookup y = some .free ∧ (cenv.kindOf y = some .cell ∨ cenv.kindOf y = some .free) := by
      have key : ∀ k, cenv.scope.names.lookup y = some k → k = .local ∨ k = .cell ∨ k = .free → scope.names.lookup y = some .free ∧ (cenv.kindOf y = some .cell ∨ cenv.kindOf y = some .free) := fun k hk hk' => by
        have hk0 := hk
        rw [hsc] at hk
        obtain ⟨k', e, r⟩ := lookup_relS hk
        have no : ¬ (k' = .local ∨ k' = .cell) := fun hh => by
          rcases ok.own _ (PySem.mem_of_lookup e) hh with e' | e'
          · obtain ⟨p, hp, hpy⟩ := List.mem_map.mp e'
            have e3 := ok.ix p hp
            have : p.1 = y := hpy
            rw [this] at e3
            exact hne (List.mem_map.mpr ⟨p, hp, nodup_ix hN e3 e1⟩)
          · exact e' (List.mem_of_getElem? e1)
        rcases r with rfl | ⟨rfl, rfl⟩
        · rcases hk' with rfl | rfl | rfl
          · exact absurd (.inl rfl) no
          · exact absurd (.inr rfl) no
          · exact ⟨e, .inr hk0⟩
        · exact ⟨e, .inl hk0⟩
      have e3 : Vis cenv.scope y := e3
      rcases e3 with e3 | e3 | e3
      · exact key _ e3 (.inl rfl)
      · exact key _ e3 (.inr (.inl rfl))
      · exact key _ e3 (.inr (.inr rfl))
    obtain ⟨m, hn, hl⟩ := I.loc
    have hvis : Vis X.env.scope y := (ok.free _ (PySem.mem_of_lookup hfr.1) rfl).elim (fun k => .inr (.inl k)) (fun k => .inr (.inr k))
    obtain ⟨w, r, q⟩ := hl i y av e1 e2 hvis
    refine ⟨w, r, .inr ⟨hfr.2, ?_⟩⟩
    obtain ⟨c, h1, h2⟩ := look hfr.1
    rcases q with ⟨k, _⟩ | ⟨_, c', e', z⟩
    · have k : X.env.scope.names.lookup y = some .local := k
      rcases ok.free _ (PySem.mem_of_lookup hfr.1) rfl with k' | k' <;> rw [show X.env.scope.names.lookup y = _ from k'] at k <;> cases k
    · rw [h2] at e'; cases e'
      exact ⟨c, h1, z.keeps kp⟩
  · have e : cenv.cells.lookup y = some c := e
    rcases mem e with ⟨h1, _⟩ | ⟨_, z⟩
    · obtain ⟨w, z⟩ := I.cell y c h1
      exact ⟨w, z.keeps kp⟩
    · exact ⟨_, z⟩
  · show H cenv.locals = none
    rw [hL]; exact I.hok.fresh (Nat.le_refl _)
  · have e : cenv.cells.lookup y = some c := e
    rcases mem e with ⟨h1, _⟩ | ⟨h1, _⟩
    · exact I.freeC y c h1
    · exact I.hok.fresh (Nat.le_of_succ_le h1)
  · exact absurd (show p ∈ ([] : List (Addr × Obj)) ++ [] from hp) (by simp)

/-- an item appended to a tracked list -/
theorem app_ok {E : Value → Shared → Prop} {D : Addr} {xs : List V} {y : V} {v : Value} {Q : Value → Shared → Prop} (I : Inv X pins σ H s) (hD : H D = some (.lst xs)) (hz : xs.length < sizeLine) (r : RelV y v)
    (h : ∀ s', Inv X pins σ (upd H D (.lst (xs ++ [y]))) s' → Q .none s') : wpAny (model X.prog X.w) X.A (call (.builtin "list.append") [.ref D, v]) Q E s := by
  obtain ⟨hz', its, n, ri, e⟩ := I.hok D _ hD
  have hl := ri.length
  refine append_at (hsz := by rw [List.size_toArray]; omega) e fun h' sb ho' => ?_
  refine h { s with heap := h' } (I.write (t' := s.toks) (by rw [hD]; trivial) (.inl rfl) (fun b u hb q => (sb.2 b hb).trans q) ⟨_, ho'⟩ ⟨by rw [List.length_append]; exact hz, its ++ [v], n + 1, ri.append (.cons r .nil), ?_⟩)
  rw [ho']
  simp

/-- a clause's tests -/
def PTs (X : Cx) (ifs : List Expr) (t : TT) : Prop :=
  ∀ (pins : List (Addr × Obj)) (s : Shared) (σ : St) (H : Hp) (Q : Bool → Hp → Prop), Inv X pins σ H s → t σ H Q →
    wpAny (model X.prog X.w) X.A (forIn ifs true fun c r => if r = true then do let ok ← isTrue c X.env (eval c X.env); pure (ForInStep.yield ok) else pure (ForInStep.yield r)) (TP X pins σ Q) X.xe s
def tYes : TT := fun _ H Q => Q true H
theorem pts_nil : PTs X [] tYes := fun _ _ _ H _ I h => wpAny_tests_nil ⟨H, I, h⟩
end

theorem thnF {α : Type} {t : Sem α} {Q Q' : α → Shared → Prop} {M : Model} {A : Around} {E : Value → Shared → Prop} {s : Shared} (h : wpAny M A t Q (fun _ _ => False) s) (hQ : ∀ a s, Q a s → Q' a s) : wpAny M A t Q' E s := wpAny_mono h hQ fun _ _ z => False.elim z

/-- the loop of a list comprehension's block, the target of any form (codeAny_compLoop_tests asks a target that no tuple goes to; statement and proof follow it, PyProof/CompMap.lean:41-61, with the step letOwnedTupleGo kept) -/
theorem compLoop_any {prog : Program} {w : World} {A : Around} {R : Result → Shared → Prop} {s : Shared} {elt target iter : Expr} {ifs : List Expr} {scope : Scope} {pos : Pos} {it acc : Value} {env : Env} (I : Nat → Shared → Prop)
    (turn : ∀ n s, I n s → wpAny (model prog w) A (pyNext it) (fun r s₁ => match r with
      | none => R (.ok .next) s₁
      | some v => wpAny (model prog w) A (letOwnedTupleGo target it v) (fun _ s₁' => wpAny (model prog w) A (assign target env v) (fun _ s₂ =>
          wpAny (model prog w) A (forIn ifs true fun c r => if r = true then do let ok ← isTrue c env (eval c env); pure (ForInStep.yield ok) else pure (ForInStep.yield r)) (fun ok s₃ =>
            if ok = true then wpAny (model prog w) A (eval elt env) (fun x s₄ =>
              wpAny (model prog w) A (call (.builtin "list.append") [acc, x]) (fun _ s₅ => ∃ m, m < n ∧ I m s₅) (notedBy (model prog w) A env fun e s' => R (.error e) s') s₄) (notedBy (model prog w) A env fun e s' => R (.error e) s') s₃
            else ∃ m, m < n ∧ I m s₃) (notedBy (model prog w) A env fun e s' => R (.error e) s') s₂) (notedBy (model prog w) A env fun e s' => R (.error e) s') s₁') (notedBy (model prog w) A env fun e s' => R (.error e) s') s₁) (notedBy (model prog w) A env fun e s' => R (.error e) s') s)
    (n : Nat) (h : I n s) :
    codeAny (model prog w) A (.compLoop (.ListComp elt [⟨target, iter, ifs, 0⟩] scope pos) 0 it acc env) R s := by
  refine codeAny_loop rfl I (fun n s hI => ?_) n h
  show wpAny _ A ((compTurn (.ListComp elt [⟨target, iter, ifs, 0⟩] scope pos) 0 it acc env).onRaise (fun x => do noteFrame x env; theTreesLotGoes x)) _ _ s
  refine wpAny_noted ?_
  rw [compTurn_list]
  refine wpAny_bind (wpAny_standAt (wpAny_bind (wpAny_mono (turn n s hI) (fun r s₁ h₁ => ?_) fun _ _ h' => h')))
  cases r with
  | none => exact wpAny_pure h₁
  | some v =>
    refine wpAny_bind (wpAny_mono h₁ (fun _ s₁' h₁' => ?_) fun _ _ h' => h')
    refine wpAny_bind (wpAny_mono h₁' (fun _ s₂ h₂ => wpAny_bind (wpAny_mono h₂ (fun ok s₃ h₃ => ?_) fun _ _ h' => h')) fun _ _ h' => h')
    cases ok with
    | false => exact wpAny_pure ⟨rfl, h₃⟩
    | true =>
      exact wpAny_bind (wpAny_bind (wpAny_mono h₃ (fun x s₄ h₄ => wpAny_bind (wpAny_mono h₄ (fun _ s₅ h₅ => wpAny_pure (wpAny_pure ⟨rfl, h₅⟩)) fun _ _ h' => h')) fun _ _ h' => h'))

section
variable {X : Cx}
/-- [elt for target in iter if ..]: D the new list; W by the turn and a measure, Nx what a turn is to reach -/
def tLc (wi : TI) (g : TG) (tt : TT) (te : TE) (vs : List Nat) : TE := fun σ H Q => wi σ H fun J H1 => ∀ D, H1 D = none → ∃ W : Nat → Nat → Hp → Prop, (∃ m, W 0 m (upd H1 D (.lst []))) ∧ ∀ i m H, W i m H →
  (J.stop i H ∧ Q (.ref D) H) ∨ (J.go i H ∧ ∃ Nx : Hp → Prop, (∀ H', Nx H' → ∃ m', m' < m ∧ W (i + 1) m' H') ∧ ∀ x H', J.yld i H x H' → g x (wipe σ vs) H' fun σ2 H2 => wipe σ2 vs = wipe σ vs ∧ tt σ2 H2 fun b H3 =>
    if b = true then te σ2 H3 fun y H4 => ∃ acc, H4 D = some (.lst acc) ∧ acc.length < sizeLine ∧ Nx (upd H4 D (.lst (acc ++ [y]))) else Nx H3)
theorem lc_core {pins : List (Addr × Obj)} {s : Shared} {σ : St} {H : Hp} {Q : VK} {elt tg iter : Expr} {ifs : List Expr} {scope : Scope} {own : List (Str × Nat)} {pos pos' : Pos} {wi : TI} {g : TG} {tt : TT} {te : TE} {use : Option (Value → Sem Unit)} {Qf : Value → Shared → Prop}
    (hc : X.calm = true) (hN : X.N.Nodup) (I : Inv X pins σ H s) (hi : PI X tg iter wi) (ok : BlkOk X.N X.env.scope scope own)
    (hg : ∀ (s : Shared) (H : Hp) (C : Addr) (cl : List (Str × Addr)) (fp : List Addr), PG (X.blk s H scope (compEnvC scope cl C X.env) fp) tg g) (ht : ∀ (s : Shared) (H : Hp) (C : Addr) (cl : List (Str × Addr)) (fp : List Addr), PTs (X.blk s H scope (compEnvC scope cl C X.env) fp) ifs tt)
    (he : ∀ (s : Shared) (H : Hp) (C : Addr) (cl : List (Str × Addr)) (fp : List Addr), PE (X.blk s H scope (compEnvC scope cl C X.env) fp) elt te) (hs : ∀ x, foldedSetIterable iter X.env x = pure x)
    (h : tLc wi g tt te (own.map (·.2)) σ H Q)
    (hRR : ∀ D C s' m H', Inv X pins σ H' s' → Q (.ref D) H' → s'.heap.Ns C m → FpOk X pins H' C → compPost (model X.prog X.w) X.A X.xe use Qf (.ref D) C (.ok .next) s') :
    wpAny (model X.prog X.w) X.A (comprehension (.ListComp elt [⟨tg, iter, ifs, 0⟩] scope pos) scope X.env pos' (newList []) false (eval iter X.env) use) Qf X.xe s := by
  have hfree : ∀ y ∈ scope.names, y.2 = .free → ∃ c, X.env.cells.lookup y.1 = some c := fun y hy e => by
    rcases ok.free y hy e with k | k
    · exact I.ok.has _ (.inl k)
    · exact I.ok.has _ (.inr k)
  refine wpAny_comprehension_free (use := use) rfl hs (closure_ok hfree) ok.kind (fun y hy e => by rw [ok.uniq y hy, e])
    (thn (hi pins s σ H _ I h) fun xv s1 hx => thn hx fun itv s2 h2 => ?_)
  obtain ⟨it, fp, tn, J, H2, e, I2, T, st2, f2, q⟩ := h2
  subst e
  refine wpAny_newObj_type (newEnv_comp ?_) (by show 0 ≤ sizeLine; decide)
  generalize hD : s2.heap.objs.size = D
  have hDn : H2 D = none := I2.hok.fresh (Nat.le_of_eq hD)
  obtain ⟨W, ⟨m0, w0⟩, turn⟩ := q D hDn
  -- the new list
  generalize hs3 : ({ s2 with heap := s2.heap.push { cls := .type "list", data := .seq ([] : List Value).toArray } } : Shared) = s3
  have I3 : Inv X pins σ (upd H2 D (.lst [])) s3 := by
    rw [← hs3]
    refine I2.laid (t' := s2.toks) (fun b o e => Heap.get?_push_of_some _ e) (Nat.le_of_eq hD) ⟨Nat.zero_le _, [], 0, .nil, ?_⟩
    rw [← hD]
    exact Heap.get?_push_size _ rfl
  have h3 : s3.heap = s2.heap.push { cls := .type "list", data := .seq ([] : List Value).toArray } := by rw [← hs3]
  have sz : ∀ b ∈ fp, b < s2.heap.objs.size := fun b hb => by
    obtain ⟨o, e, _⟩ := T.obj _ _ st2 b hb
    exact Heap.lt_size e
  have f3 : ∀ b ∈ fp, FpOk X pins (upd H2 D (.lst [])) b ∧ b < s3.heap.objs.size := fun b hb => by
    have hlt := sz b hb
    refine ⟨⟨?_, (f2 b hb).2⟩, by rw [h3, Heap.size_push]; exact Nat.lt_succ_of_lt hlt⟩
    rw [upd_ne (by rw [← hD]; exact Nat.ne_of_lt hlt)]
    exact (f2 b hb).1
  have st3 : tn 0 s3.heap := T.keep _ _ _ st2 fun b _ o e => by rw [h3]; exact Heap.get?_push_of_some _ e
  have I4 := block_start I3 ok hN f3
  have pg := hg s3 (upd H2 D (.lst [])) s3.heap.objs.size (cellsFrom (s3.heap.objs.size + 1) scope.names (cloFrom X.env.cells scope.names [])) fp
  have pt := ht s3 (upd H2 D (.lst [])) s3.heap.objs.size (cellsFrom (s3.heap.objs.size + 1) scope.names (cloFrom X.env.cells scope.names [])) fp
  have pe := he s3 (upd H2 D (.lst [])) s3.heap.objs.size (cellsFrom (s3.heap.objs.size + 1) scope.names (cloFrom X.env.cells scope.names [])) fp
  show codeAny _ _ (.compStart (.ListComp elt [⟨tg, iter, ifs, 0⟩] scope pos) 0 (.ref it) (.ref D) (compEnvC scope (cellsFrom (s3.heap.objs.size + 1) scope.names (cloFrom X.env.cells scope.names [])) s3.heap.objs.size X.env)) (compPost (model X.prog X.w) X.A X.xe use Qf (.ref D) s3.heap.objs.size) { s3 with heap := pushCells (s3.heap.push { cls := .type "dict", data := .dict #[] }) scope.names }
  have nfp : ∀ b ∈ fp, (upd H2 D (.lst [])) b = none := fun b hb => (f3 b hb).1.1
  generalize hce : compEnvC scope (cellsFrom (s3.heap.objs.size + 1) scope.names (cloFrom X.env.cells scope.names [])) s3.heap.objs.size X.env = ce at I4 pg pt pe ⊢
  have cL : ce.locals = s3.heap.objs.size := by subst hce; rfl
  generalize hH3 : upd H2 D (.lst []) = H3 at I3 I4 pg pt pe w0 nfp f3
  generalize hs4 : ({ s3 with heap := pushCells (s3.heap.push { cls := .type "dict", data := .dict #[] }) scope.names } : Shared) = s4 at I4 ⊢
  have st4 : tn 0 s4.heap := T.keep _ _ _ st3 fun b _ o e => by rw [← hs4]; exact pushCells_keeps _ _ _ _ (Heap.get?_push_of_some _ e)
  have stat : ∀ {σ' : St} {H' : Hp} {s' : Shared}, Inv (X.blk s3 H3 scope ce fp) [] σ' H' s' → (∀ b ∈ fp, H' b = none) → ∀ b ∈ fp, FpOk (X.blk s3 H3 scope ce fp) [] H' b := fun {σ' H' s'} I' hn b hb =>
    ⟨hn b hb, (I'.ok.exf b hb).1, I'.ok.exfs b hb, .inl hb, fun x c e => (I'.ok.exf b hb).2 x c e, fun p hp => absurd (show p ∈ ([] : List (Addr × Obj)) ++ [] from hp) (by simp)⟩
  have loop : codeAny (model X.prog X.w) X.A (.compLoop (.ListComp elt [⟨tg, iter, ifs, 0⟩] scope pos) 0 (.ref it) (.ref D) ce) (compPost (model X.prog X.w) X.A X.xe use Qf (.ref D) s3.heap.objs.size) s4 := by
    refine compLoop_any (fun n s' => ∃ i H', Inv (X.blk s3 H3 scope ce fp) [] (wipe σ (own.map (·.2))) H' s' ∧ tn i s'.heap ∧ (∀ b ∈ fp, H' b = none) ∧ W i n H') ?_ m0 ⟨0, H3, I4, st4, nfp, w0⟩
    rintro n s5 ⟨i, H5, I5, st5, n5, w5⟩
    rcases turn i n H5 w5 with ⟨stop, qq⟩ | ⟨go, Nx, hNx, step⟩
    · have td := T.done (X.blk s3 H3 scope ce fp) rfl rfl rfl hc i [] s5 _ H5 (fun _ _ => False) I5 (stat I5 n5) st5 stop
      refine thnF td fun r s6 ⟨hr, I6⟩ => ?_
      subst hr
      -- back in the def's context
      have I7 : Inv X pins σ H5 s6 := I3.call' (ch := fp) I6.os I6.base I6.hok I6.bare fun b hb => ⟨(f3 b hb).1.2.2.2.1, (f3 b hb).1.2.1, (f3 b hb).1.2.2.2.2.1, (f3 b hb).1.2.2.2.2.2⟩
      have nC : H5 s3.heap.objs.size = none := by
        have z : H5 ce.locals = none := I6.free
        rw [cL] at z
        exact z
      obtain ⟨m, hn, _⟩ := I6.loc
      have hn : s6.heap.Ns ce.locals m := hn
      rw [cL] at hn
      exact hRR D s3.heap.objs.size s6 m H5 I7 qq hn (I3.fpOk (Nat.le_refl _) nC)
    · have ti := T.item (X.blk s3 H3 scope ce fp) rfl rfl rfl hc i [] s5 _ H5 (fun _ _ => False) I5 (stat I5 n5) st5 go
      refine thnF ti fun r s6 ⟨u, hr, h6⟩ => ?_
      subst hr
      refine thnF h6 fun _ s7 ⟨x, H7, I7, r7, y7, st7, n7⟩ => ?_
      have I7' := I7.pinned (stat I7 n7) (T.obj _ _ st7)
      refine thnF (pg _ s7 _ H7 x u _ I7' r7 (step x H7 y7)) fun _ s8 ⟨σ8, H8, I8, hw8, q8⟩ => ?_
      refine thnF (pt _ s8 σ8 H8 _ I8 q8) fun b s9 ⟨H9, I9, q9⟩ => ?_
      -- the turn's end
      have fin : ∀ {s' : Shared} {H' : Hp}, Inv (X.blk s3 H3 scope ce fp) ([] ++ pinsAt fp s7.heap) σ8 H' s' → Nx H' → ∃ m, m < n ∧ ∃ i H', Inv (X.blk s3 H3 scope ce fp) [] (wipe σ (own.map (·.2))) H' s' ∧ tn i s'.heap ∧ (∀ b ∈ fp, H' b = none) ∧ W i m H' := fun {s' H'} I' nx => by
        obtain ⟨m', hm, w'⟩ := hNx H' nx
        have pin' : ∀ b ∈ fp, ∀ o, s7.heap.get? b = some o → s'.heap.get? b = some o ∧ H' b = none := fun b hb o e =>
          let z := I'.pin (b, o) (List.mem_append_right _ (List.mem_append_right _ (mem_pinsAt hb e)))
          ⟨z.1, z.2.1⟩
        have hl : (wipe σ (own.map (·.2))).length = σ8.length := by rw [← hw8, wipe_length]
        refine ⟨m', hm, i + 1, H', (I'.unpinned (pins := [])).weak hl (fun j v e => ?_), T.keep _ _ _ st7 fun b hb o e => (pin' b hb o e).1, fun b hb => ?_, w'⟩
        · rw [← hw8] at e
          exact (wipe_some e).1
        · obtain ⟨o, e, _⟩ := T.obj _ _ st7 b hb
          exact (pin' b hb o e).2
      cases b with
      | false =>
        simp only [Bool.false_eq_true, if_false] at q9 ⊢
        exact fin I9 q9
      | true =>
        simp only [if_true] at q9 ⊢
        refine thnF (pe _ s9 σ8 H9 _ I9 q9) fun z s10 ⟨yv, H10, I10, r10, acc, hD10, hz10, nx⟩ => ?_
        exact app_ok (X := X.blk s3 H3 scope ce fp) I10 hD10 hz10 r10 fun s11 I11 => fin I11 nx
  exact codeAny_compStart_list loop (T.self X.A 0 _ _ _ st4 loop)
/-- as a value -/
theorem pe_lc {elt tg iter : Expr} {ifs : List Expr} {scope : Scope} {own : List (Str × Nat)} {pos : Pos} {wi : TI} {g : TG} {tt : TT} {te : TE} (hc : X.calm = true) (hN : X.N.Nodup) (hi : PI X tg iter wi) (ok : BlkOk X.N X.env.scope scope own)
    (hg : ∀ (s : Shared) (H : Hp) (C : Addr) (cl : List (Str × Addr)) (fp : List Addr), PG (X.blk s H scope (compEnvC scope cl C X.env) fp) tg g) (ht : ∀ (s : Shared) (H : Hp) (C : Addr) (cl : List (Str × Addr)) (fp : List Addr), PTs (X.blk s H scope (compEnvC scope cl C X.env) fp) ifs tt)
    (he : ∀ (s : Shared) (H : Hp) (C : Addr) (cl : List (Str × Addr)) (fp : List Addr), PE (X.blk s H scope (compEnvC scope cl C X.env) fp) elt te) (hs : ∀ x, foldedSetIterable iter X.env x = pure x := by intro _; rfl) :
    PE X (.ListComp elt [⟨tg, iter, ifs, 0⟩] scope pos) (tLc wi g tt te (own.map (·.2))) := by
  intro pins s σ H Q I h
  rw [eval_ListComp]
  refine lc_core hc hN I hi ok hg ht he hs h fun D C s' m H' I' q hn f => ⟨m, hn, fun h'' sb => ?_⟩
  obtain ⟨f0, f1, f2, f3, f4, f5⟩ := f
  exact ⟨.ref D, H', I'.turned (t' := s'.toks) (fun b o hb e => (sb.2 b hb).trans e) f0 f1 f3 f4 f5, rfl, q⟩
/-- name = [..] on one line, the name a local -/
theorem ps_setLc {i : Nat} {y : Str} {py : Pos} {elt tg iter : Expr} {ifs : List Expr} {scope : Scope} {own : List (Str × Nat)} {pos spos : Pos} {wi : TI} {g : TG} {tt : TT} {te : TE} (hc : X.calm = true) (hN : X.N.Nodup) (hy : X.N[i]? = some y) (hyl : X.env.scope.names.lookup y = some .local)
    (hsw : swapsWith (.ListComp elt [⟨tg, iter, ifs, 0⟩] scope pos) (some (.Name y py)) spos.line X.env = pure true) (hi : PI X tg iter wi) (ok : BlkOk X.N X.env.scope scope own)
    (hg : ∀ (s : Shared) (H : Hp) (C : Addr) (cl : List (Str × Addr)) (fp : List Addr), PG (X.blk s H scope (compEnvC scope cl C X.env) fp) tg g) (ht : ∀ (s : Shared) (H : Hp) (C : Addr) (cl : List (Str × Addr)) (fp : List Addr), PTs (X.blk s H scope (compEnvC scope cl C X.env) fp) ifs tt)
    (he : ∀ (s : Shared) (H : Hp) (C : Addr) (cl : List (Str × Addr)) (fp : List Addr), PE (X.blk s H scope (compEnvC scope cl C X.env) fp) elt te) (hs : ∀ x, foldedSetIterable iter X.env x = pure x := by intro _; rfl) :
    PS X (.Assign [.Name y py] (.ListComp elt [⟨tg, iter, ifs, 0⟩] scope pos) spos) (tAsg (tLc wi g tt te (own.map (·.2))) (gName i)) := by
  intro pins s σ H D I h
  rw [exec_Assign_Name_used _ _ _ _ hsw]
  refine wpAny_bind (wpAny_standAt (wpAny_bind ?_))
  show wpAny _ X.A (do let _ ← comprehension (.ListComp elt [⟨tg, iter, ifs, 0⟩] scope pos) scope X.env (firstIterPos [⟨tg, iter, ifs, 0⟩] pos) (newList []) false (eval iter X.env) (some (assign (.Name y py) X.env))) _ _ s
  have h : tLc wi g tt te (own.map (·.2)) σ H (fun x H1 => gName i x σ H1 D.nx) := h
  refine wpAny_bind (thn (lc_core (Qf := fun _ s' => SP X pins D .next s') hc hN I hi ok hg ht he hs h fun L C s' m H' I' q hn f => ?_) fun _ s' hq => wpAny_pure (wpAny_pure hq))
  show wpAny _ _ (assign (.Name y py) X.env (.ref L)) _ _ _
  refine wpAny_assign_Name (store_ok2 (v := V.ref L) I' hN hy (.inl hyl) rfl (fun s2 I2 ⟨a, sb, ha⟩ => ?_) (.inr hyl))
  obtain ⟨f0, f1, f2, f3, f4, f5⟩ := f
  have haC : C ≠ a := by
    rcases ha with z | z
    · rw [z]; exact f1
    · exact fun e => f4 y a z e.symm
  refine ⟨m, hn.sameBut sb haC, fun h3 sb3 => ?_⟩
  exact ⟨_, H', I2.turned (t' := s2.toks) (fun b o hb e => (sb3.2 b hb).trans e) f0 f1 f3 f4 f5, q⟩
theorem sw_true {elt : Expr} {gs : List Comprehension} {scope : Scope} {pos py : Pos} {y : Str} {l : Nat} {env : Env} (hk : env.scope.kind = .function) (hy : env.scope.names.lookup y = some .local) (hl : (py.line == pos.line) = true)
    (ha : (scope.names.any fun (n, k) => n == y && (k == .local || k == .cell)) = false) : swapsWith (.ListComp elt gs scope pos) (some (.Name y py)) l env = pure true := by
  have ky : env.kindOf y = some .local := hy
  have hb : env.blockKind = .function := by unfold Env.blockKind; rw [hk]; rfl
  unfold swapsWith
  simp only [hb, ky, ha, Expr.pos, hl]
  rfl
end

def blkC (N : List Str) (sc scope : Scope) (own : List (Str × Nat)) : Bool :=
  (match scope.kind with | .function => true | _ => false) && (scope.names.all fun y => decide (scope.names.lookup y.1 = some y.2)) && (own.all fun p => decide (N[p.2]? = some p.1)) &&
    (scope.names.all fun y => match y.2 with
      | .free => (match sc.names.lookup y.1 with | some .cell => true | some .free => true | _ => false)
      | .local => decide (y.1 ∈ own.map (·.1)) || decide (y.1 ∉ N)
      | .cell => decide (y.1 ∈ own.map (·.1)) || decide (y.1 ∉ N)
      | _ => true)
theorem blkOk_by {N : List Str} {sc scope : Scope} {own : List (Str × Nat)} (h : blkC N sc scope own = true) : BlkOk N sc scope own := by
  unfold blkC at h
  simp only [Bool.and_eq_true, List.all_eq_true, decide_eq_true_eq] at h
  obtain ⟨⟨⟨h1, h2⟩, h3⟩, h4⟩ := h
  refine ⟨?_, h2, h3, fun y hy e => ?_, fun y hy e => ?_⟩
  · split at h1
    · assumption
    · cases h1
  · have q := h4 y hy
    simp only [e] at q
    split at q <;> first | exact .inl (by assumption) | exact .inr (by assumption) | cases q
  · have q := h4 y hy
    rcases e with e | e <;> (simp only [e, Bool.or_eq_true, decide_eq_true_eq] at q; exact q)
end L2

namespace L2
open PySem PySem.Spec PyProof.Rows

theorem compTurn2_out (elt t0 i0 t1 i1 : Expr) (ifs0 ifs1 : List Expr) (scope : Scope) (pos : Pos) (it acc : Value) (env : Env) :
    compTurn (.ListComp elt [⟨t0, i0, ifs0, 0⟩, ⟨t1, i1, ifs1, 0⟩] scope pos) 0 it acc env = (do
      standAt i0.pos
      match ← pyNext it with
      | none => pure (.done .next)
      | some v =>
        letOwnedTupleGo t0 it v
        assign t0 env v
        let mut ok := true
        for c in ifs0 do
          if ok then ok ← isTrue c env (eval c env)
        if ok then
          let x ← eval i1 env
          standAt i1.pos
          let x ← foldedSetIterable i1 env x
          let _ ← runOwn (.compStart (.ListComp elt [⟨t0, i0, ifs0, 0⟩, ⟨t1, i1, ifs1, 0⟩] scope pos) 1 (← holding [x] (pyIter x)) acc env) env
        again (.compLoop (.ListComp elt [⟨t0, i0, ifs0, 0⟩, ⟨t1, i1, ifs1, 0⟩] scope pos) 0 it acc env)) := by rfl
theorem compTurn2_in (elt t0 i0 t1 i1 : Expr) (ifs0 ifs1 : List Expr) (scope : Scope) (pos : Pos) (it acc : Value) (env : Env) :
    compTurn (.ListComp elt [⟨t0, i0, ifs0, 0⟩, ⟨t1, i1, ifs1, 0⟩] scope pos) 1 it acc env = (do
      standAt i1.pos
      match ← pyNext it with
      | none => pure (.done .next)
      | some v =>
        letOwnedTupleGo t1 it v
        assign t1 env v
        let mut ok := true
        for c in ifs1 do
          if ok then ok ← isTrue c env (eval c env)
        if ok then
          (do let _ ← call (.builtin "list.append") [acc, ← eval elt env])
        again (.compLoop (.ListComp elt [⟨t0, i0, ifs0, 0⟩, ⟨t1, i1, ifs1, 0⟩] scope pos) 1 it acc env)) := by rfl

section
variable {prog : Program} {w : World} {A : Around} {R : Result → Shared → Prop} {s : Shared} {elt t0 i0 t1 i1 : Expr} {ifs0 ifs1 : List Expr} {scope : Scope} {pos : Pos} {it acc : Value} {env : Env}
/-- the loop of the first clause -/
theorem compLoop2_out (hs : ∀ x, foldedSetIterable i1 env x = pure x) (I : Nat → Shared → Prop)
    (turn : ∀ n s, I n s → wpAny (model prog w) A (pyNext it) (fun r s₁ => match r with
      | none => R (.ok .next) s₁
      | some v => wpAny (model prog w) A (letOwnedTupleGo t0 it v) (fun _ s₁' => wpAny (model prog w) A (assign t0 env v) (fun _ s₂ =>
          wpAny (model prog w) A (forIn ifs0 true fun c r => if r = true then do let ok ← isTrue c env (eval c env); pure (ForInStep.yield ok) else pure (ForInStep.yield r)) (fun ok s₃ =>
            if ok = true then wpAny (model prog w) A (eval i1 env) (fun x s₄ => wpAny (model prog w) A (pyIter x) (fun it1 s₅ =>
              codeAny (model prog w) A (.compStart (.ListComp elt [⟨t0, i0, ifs0, 0⟩, ⟨t1, i1, ifs1, 0⟩] scope pos) 1 it1 acc env) (fun r s' => match r with
                | .ok _ => ∃ m, m < n ∧ I m s'
                | .error _ => False) s₅) (notedBy (model prog w) A env fun e s' => R (.error e) s') s₄) (notedBy (model prog w) A env fun e s' => R (.error e) s') s₃
            else ∃ m, m < n ∧ I m s₃) (notedBy (model prog w) A env fun e s' => R (.error e) s') s₂) (notedBy (model prog w) A env fun e s' => R (.error e) s') s₁') (notedBy (model prog w) A env fun e s' => R (.error e) s') s₁) (notedBy (model prog w) A env fun e s' => R (.error e) s') s)
    (n : Nat) (h : I n s) :
    codeAny (model prog w) A (.compLoop (.ListComp elt [⟨t0, i0, ifs0, 0⟩, ⟨t1, i1, ifs1, 0⟩] scope pos) 0 it acc env) R s := by
  refine codeAny_loop rfl I (fun n s hI => ?_) n h
  show wpAny _ A ((compTurn (.ListComp elt [⟨t0, i0, ifs0, 0⟩, ⟨t1, i1, ifs1, 0⟩] scope pos) 0 it acc env).onRaise (fun x => do noteFrame x env; theTreesLotGoes x)) _ _ s
  refine wpAny_noted ?_
  rw [compTurn2_out]
  refine wpAny_bind (wpAny_standAt (wpAny_bind (wpAny_mono (turn n s hI) (fun r s₁ h₁ => ?_) fun _ _ h' => h')))
  cases r with
  | none => exact wpAny_pure h₁
  | some v =>
    refine wpAny_bind (wpAny_mono h₁ (fun _ s₁' h₁' => ?_) fun _ _ h' => h')
    refine wpAny_bind (wpAny_mono h₁' (fun _ s₂ h₂ => wpAny_bind (wpAny_mono h₂ (fun ok s₃ h₃ => ?_) fun _ _ h' => h')) fun _ _ h' => h')
    cases ok with
    | false => exact wpAny_pure ⟨rfl, h₃⟩
    | true =>
      refine wpAny_bind (wpAny_mono h₃ (fun x s₄ h₄ => ?_) fun _ _ h' => h')
      refine wpAny_bind (wpAny_standAt (wpAny_bind (wpAny_of_eq (hs x) (wpAny_bind (wpAny_holding (wpAny_mono h₄ (fun it1 s₅ h₅ => ?_) fun _ _ h' => h'))))))
      refine wpAny_bind (wpAny_runOwn ?_)
      rw [Around.mark_none]
      refine codeAny_mono h₅ fun r s' hr => ?_
      cases r with
      | ok f =>
        first
          | exact wpAny_pure ⟨rfl, hr⟩
          | exact wpAny_bind (wpAny_pure (wpAny_pure ⟨rfl, hr⟩))
      | error e => exact hr.elim
/-- the loop of the second -/
theorem compLoop2_in (I : Nat → Shared → Prop)
    (turn : ∀ n s, I n s → wpAny (model prog w) A (pyNext it) (fun r s₁ => match r with
      | none => R (.ok .next) s₁
      | some v => wpAny (model prog w) A (letOwnedTupleGo t1 it v) (fun _ s₁' => wpAny (model prog w) A (assign t1 env v) (fun _ s₂ =>
          wpAny (model prog w) A (forIn ifs1 true fun c r => if r = true then do let ok ← isTrue c env (eval c env); pure (ForInStep.yield ok) else pure (ForInStep.yield r)) (fun ok s₃ =>
            if ok = true then wpAny (model prog w) A (eval elt env) (fun x s₄ =>
              wpAny (model prog w) A (call (.builtin "list.append") [acc, x]) (fun _ s₅ => ∃ m, m < n ∧ I m s₅) (notedBy (model prog w) A env fun e s' => R (.error e) s') s₄) (notedBy (model prog w) A env fun e s' => R (.error e) s') s₃
            else ∃ m, m < n ∧ I m s₃) (notedBy (model prog w) A env fun e s' => R (.error e) s') s₂) (notedBy (model prog w) A env fun e s' => R (.error e) s') s₁') (notedBy (model prog w) A env fun e s' => R (.error e) s') s₁) (notedBy (model prog w) A env fun e s' => R (.error e) s') s)
    (n : Nat) (h : I n s) :
    codeAny (model prog w) A (.compLoop (.ListComp elt [⟨t0, i0, ifs0, 0⟩, ⟨t1, i1, ifs1, 0⟩] scope pos) 1 it acc env) R s := by
  refine codeAny_loop rfl I (fun n s hI => ?_) n h
  show wpAny _ A ((compTurn (.ListComp elt [⟨t0, i0, ifs0, 0⟩, ⟨t1, i1, ifs1, 0⟩] scope pos) 1 it acc env).onRaise (fun x => do noteFrame x env; theTreesLotGoes x)) _ _ s
  refine wpAny_noted ?_
  rw [compTurn2_in]
  refine wpAny_bind (wpAny_standAt (wpAny_bind (wpAny_mono (turn n s hI) (fun r s₁ h₁ => ?_) fun _ _ h' => h')))
  cases r with
  | none => exact wpAny_pure h₁
  | some v =>
    refine wpAny_bind (wpAny_mono h₁ (fun _ s₁' h₁' => ?_) fun _ _ h' => h')
    refine wpAny_bind (wpAny_mono h₁' (fun _ s₂ h₂ => wpAny_bind (wpAny_mono h₂ (fun ok s₃ h₃ => ?_) fun _ _ h' => h')) fun _ _ h' => h')
    cases ok with
    | false => exact wpAny_pure ⟨rfl, h₃⟩
    | true =>
      exact wpAny_bind (wpAny_bind (wpAny_mono h₃ (fun x s₄ h₄ => wpAny_bind (wpAny_mono h₄ (fun _ s₅ h₅ => wpAny_pure (wpAny_pure ⟨rfl, h₅⟩)) fun _ _ h' => h')) fun _ _ h' => h'))
/-- the second clause's start -/
theorem compStart1_ok (h0 : codeAny (model prog w) A (.compLoop (.ListComp elt [⟨t0, i0, ifs0, 0⟩, ⟨t1, i1, ifs1, 0⟩] scope pos) 1 it acc env) R s)
    (h : wpAny (model prog w) A (pyIter it) (fun it' s' => codeAny (model prog w) A (.compLoop (.ListComp elt [⟨t0, i0, ifs0, 0⟩, ⟨t1, i1, ifs1, 0⟩] scope pos) 1 it' acc env) R s')
      (notedBy (model prog w) A env fun x s' => R (.error x) s') s) :
    codeAny (model prog w) A (.compStart (.ListComp elt [⟨t0, i0, ifs0, 0⟩, ⟨t1, i1, ifs1, 0⟩] scope pos) 1 it acc env) R s := by
  refine codeAny_of_tree ?_
  show wpAny _ _ ((compStart (.ListComp elt [⟨t0, i0, ifs0, 0⟩, ⟨t1, i1, ifs1, 0⟩] scope pos) 1 it acc env).onRaise (fun x => do noteFrame x env; standAt theWindowsPlace)) _ _ s
  refine wpAny_notedAt ?_
  unfold compStart
  show wpAny _ _ (ask >>= _) _ _ s
  refine wpAny_bind (wpAny_askSetting (wpAny_ite ?_))
  split
  · first
      | exact wpAny_bind (wpAny_pure (wpAny_pure (And.intro rfl h0)))
      | exact wpAny_pure (And.intro rfl h0)
  · first
      | exact wpAny_bind (wpAny_rule (wpAny_bind (wpAny_standAt (wpAny_bind (wpAny_mono h (fun it' s' h' => wpAny_pure (And.intro rfl h')) fun _ _ x => x)))))
      | (refine wpAny_bind (wpAny_rule ?_); show wpAny _ _ (standAt i1.pos >>= _) _ _ s; exact wpAny_bind (wpAny_standAt (wpAny_bind (wpAny_mono h (fun it' s' h' => wpAny_pure (And.intro rfl h')) fun _ _ x => x))))
end

theorem wipe_out {σ : St} {i : Nat} : ∀ {vs : List Nat}, i ∉ vs → (wipe σ vs)[i]? = σ[i]?
  | [], _ => rfl
  | v :: vs, h => by
    have h1 : v ≠ i := fun e => h (by rw [e]; exact List.mem_cons_self)
    have h2 : i ∉ vs := fun m => h (List.mem_cons_of_mem _ m)
    unfold wipe
    rw [List.getElem?_set_ne h1]
    exact wipe_out h2
section
variable {X : Cx}
/-- [elt for tg in iter if .. for tg1 in iter1 if ..]: behind the first clause's store and tests the second source's own loop, from which Nx is reached. vs: the block's names; vs1: those of the second target -/
def tLc2 (wi : TI) (g : TG) (tt : TT) (wi1 : TI) (g1 : TG) (tt1 : TT) (te : TE) (vs vs1 : List Nat) : TE := fun σ H Q => wi σ H fun J H1 => ∀ D, H1 D = none → ∃ W : Nat → Nat → Hp → Prop, (∃ m, W 0 m (upd H1 D (.lst []))) ∧ ∀ i m H, W i m H →
  (J.stop i H ∧ Q (.ref D) H) ∨ (J.go i H ∧ ∃ Nx : Hp → Prop, (∀ H', Nx H' → ∃ m', m' < m ∧ W (i + 1) m' H') ∧ ∀ x H', J.yld i H x H' → g x (wipe σ vs) H' fun σ2 H2 => wipe σ2 vs = wipe σ vs ∧ tt σ2 H2 fun b H3 =>
    if b = true then wi1 σ2 H3 fun J1 H4 => ∃ W1 : Nat → Nat → Hp → Prop, (∃ m, W1 0 m H4) ∧ ∀ j k H, W1 j k H →
      (J1.stop j H ∧ Nx H) ∨ (J1.go j H ∧ ∃ Nx1 : Hp → Prop, (∀ H', Nx1 H' → ∃ k', k' < k ∧ W1 (j + 1) k' H') ∧ ∀ x H', J1.yld j H x H' → g1 x (wipe σ2 vs1) H' fun σ3 H5 => wipe σ3 vs1 = wipe σ2 vs1 ∧ tt1 σ3 H5 fun b H6 =>
        if b = true then te σ3 H6 fun y H7 => ∃ acc, H7 D = some (.lst acc) ∧ acc.length < sizeLine ∧ Nx1 (upd H7 D (.lst (acc ++ [y]))) else Nx1 H6)
    else Nx H3)
theorem lc2_core {pins : List (Addr × Obj)} {s : Shared} {σ : St} {H : Hp} {Q : VK} {elt tg iter tg1 iter1 : Expr} {ifs ifs1 : List Expr} {scope : Scope} {own : List (Str × Nat)} {vs1 : List Nat} {pos pos' : Pos} {wi wi1 : TI} {g g1 : TG} {tt tt1 : TT} {te : TE} {use : Option (Value → Sem Unit)} {Qf : Value → Shared → Prop}
    (hc : X.calm = true) (hN : X.N.Nodup) (I : Inv X pins σ H s) (hi : PI X tg iter wi) (ok : BlkOk X.N X.env.scope scope own) (hv : ∀ i ∈ vs1, i ∈ own.map (·.2))
    (hg : ∀ (s : Shared) (H : Hp) (C : Addr) (cl : List (Str × Addr)) (fp : List Addr), PG (X.blk s H scope (compEnvC scope cl C X.env) fp) tg g) (ht : ∀ (s : Shared) (H : Hp) (C : Addr) (cl : List (Str × Addr)) (fp : List Addr), PTs (X.blk s H scope (compEnvC scope cl C X.env) fp) ifs tt)
    (he : ∀ (s : Shared) (H : Hp) (C : Addr) (cl : List (Str × Addr)) (fp : List Addr), PE (X.blk s H scope (compEnvC scope cl C X.env) fp) elt te) (hs : ∀ x, foldedSetIterable iter X.env x = pure x)
    (hi1 : ∀ (s : Shared) (H : Hp) (C : Addr) (cl : List (Str × Addr)) (fp : List Addr), PI (X.blk s H scope (compEnvC scope cl C X.env) fp) tg1 iter1 wi1)
    (hg1 : ∀ (s : Shared) (H : Hp) (C : Addr) (cl : List (Str × Addr)) (fp : List Addr), PG (X.blk s H scope (compEnvC scope cl C X.env) fp) tg1 g1)
    (ht1 : ∀ (s : Shared) (H : Hp) (C : Addr) (cl : List (Str × Addr)) (fp : List Addr), PTs (X.blk s H scope (compEnvC scope cl C X.env) fp) ifs1 tt1)
    (hs1 : ∀ env x, foldedSetIterable iter1 env x = pure x)
    (h : tLc2 wi g tt wi1 g1 tt1 te (own.map (·.2)) vs1 σ H Q)
    (hRR : ∀ D C s' m H', Inv X pins σ H' s' → Q (.ref D) H' → s'.heap.Ns C m → FpOk X pins H' C → compPost (model X.prog X.w) X.A X.xe use Qf (.ref D) C (.ok .next) s') :
    wpAny (model X.prog X.w) X.A (comprehension (.ListComp elt [⟨tg, iter, ifs, 0⟩, ⟨tg1, iter1, ifs1, 0⟩] scope pos) scope X.env pos' (newList []) false (eval iter X.env) use) Qf X.xe s := by
  have hfree : ∀ y ∈ scope.names, y.2 = .free → ∃ c, X.env.cells.lookup y.1 = some c := fun y hy e => by
    rcases ok.free y hy e with k | k
    · exact I.ok.has _ (.inl k)
    · exact I.ok.has _ (.inr k)
  refine wpAny_comprehension_free (use := use) rfl hs (closure_ok hfree) ok.kind (fun y hy e => by rw [ok.uniq y hy, e])
    (thn (hi pins s σ H _ I h) fun xv s1 hx => thn hx fun itv s2 h2 => ?_)
  obtain ⟨it, fp, tn, J, H2, e, I2, T, st2, f2, q⟩ := h2
  subst e
  refine wpAny_newObj_type (newEnv_comp ?_) (by show 0 ≤ sizeLine; decide)
  generalize hD : s2.heap.objs.size = D
  have hDn : H2 D = none := I2.hok.fresh (Nat.le_of_eq hD)
  obtain ⟨W, ⟨m0, w0⟩, turn⟩ := q D hDn
  -- the new list
  generalize hs3 : ({ s2 with heap := s2.heap.push { cls := .type "list", data := .seq ([] : List Value).toArray } } : Shared) = s3
  have I3 : Inv X pins σ (upd H2 D (.lst [])) s3 := by
    rw [← hs3]
    refine I2.laid (t' := s2.toks) (fun b o e => Heap.get?_push_of_some _ e) (Nat.le_of_eq hD) ⟨Nat.zero_le _, [], 0, .nil, ?_⟩
    rw [← hD]
    exact Heap.get?_push_size _ rfl
  have h3 : s3.heap = s2.heap.push { cls := .type "list", data := .seq ([] : List Value).toArray } := by rw [← hs3]
  have sz : ∀ b ∈ fp, b < s2.heap.objs.size := fun b hb => by
    obtain ⟨o, e, _⟩ := T.obj _ _ st2 b hb
    exact Heap.lt_size e
  have f3 : ∀ b ∈ fp, FpOk X pins (upd H2 D (.lst [])) b ∧ b < s3.heap.objs.size := fun b hb => by
    have hlt := sz b hb
    refine ⟨⟨?_, (f2 b hb).2⟩, by rw [h3, Heap.size_push]; exact Nat.lt_succ_of_lt hlt⟩
    rw [upd_ne (by rw [← hD]; exact Nat.ne_of_lt hlt)]
    exact (f2 b hb).1
  have st3 : tn 0 s3.heap := T.keep _ _ _ st2 fun b _ o e => by rw [h3]; exact Heap.get?_push_of_some _ e
  have I4 := block_start I3 ok hN f3
  have pg := hg s3 (upd H2 D (.lst [])) s3.heap.objs.size (cellsFrom (s3.heap.objs.size + 1) scope.names (cloFrom X.env.cells scope.names [])) fp
  have pt := ht s3 (upd H2 D (.lst [])) s3.heap.objs.size (cellsFrom (s3.heap.objs.size + 1) scope.names (cloFrom X.env.cells scope.names [])) fp
  have pe := he s3 (upd H2 D (.lst [])) s3.heap.objs.size (cellsFrom (s3.heap.objs.size + 1) scope.names (cloFrom X.env.cells scope.names [])) fp
  have pi1 := hi1 s3 (upd H2 D (.lst [])) s3.heap.objs.size (cellsFrom (s3.heap.objs.size + 1) scope.names (cloFrom X.env.cells scope.names [])) fp
  have pg1 := hg1 s3 (upd H2 D (.lst [])) s3.heap.objs.size (cellsFrom (s3.heap.objs.size + 1) scope.names (cloFrom X.env.cells scope.names [])) fp
  have pt1 := ht1 s3 (upd H2 D (.lst [])) s3.heap.objs.size (cellsFrom (s3.heap.objs.size + 1) scope.names (cloFrom X.env.cells scope.names [])) fp
  show codeAny _ _ (.compStart (.ListComp elt [⟨tg, iter, ifs, 0⟩, ⟨tg1, iter1, ifs1, 0⟩] scope pos) 0 (.ref it) (.ref D) (compEnvC scope (cellsFrom (s3.heap.objs.size + 1) scope.names (cloFrom X.env.cells scope.names [])) s3.heap.objs.size X.env)) (compPost (model X.prog X.w) X.A X.xe use Qf (.ref D) s3.heap.objs.size) { s3 with heap := pushCells (s3.heap.push { cls := .type "dict", data := .dict #[] }) scope.names }
  have nfp : ∀ b ∈ fp, (upd H2 D (.lst [])) b = none := fun b hb => (f3 b hb).1.1
  generalize hce : compEnvC scope (cellsFrom (s3.heap.objs.size + 1) scope.names (cloFrom X.env.cells scope.names [])) s3.heap.objs.size X.env = ce at I4 pg pt pe pi1 pg1 pt1 ⊢
  have cL : ce.locals = s3.heap.objs.size := by subst hce; rfl
  generalize hH3 : upd H2 D (.lst []) = H3 at I3 I4 pg pt pe pi1 pg1 pt1 w0 nfp f3
  generalize hs4 : ({ s3 with heap := pushCells (s3.heap.push { cls := .type "dict", data := .dict #[] }) scope.names } : Shared) = s4 at I4 ⊢
  have st4 : tn 0 s4.heap := T.keep _ _ _ st3 fun b _ o e => by rw [← hs4]; exact pushCells_keeps _ _ _ _ (Heap.get?_push_of_some _ e)
  have stat : ∀ {σ' : St} {H' : Hp} {s' : Shared}, Inv (X.blk s3 H3 scope ce fp) [] σ' H' s' → (∀ b ∈ fp, H' b = none) → ∀ b ∈ fp, FpOk (X.blk s3 H3 scope ce fp) [] H' b := fun {σ' H' s'} I' hn b hb =>
    ⟨hn b hb, (I'.ok.exf b hb).1, I'.ok.exfs b hb, .inl hb, fun x c e => (I'.ok.exf b hb).2 x c e, fun p hp => absurd (show p ∈ ([] : List (Addr × Obj)) ++ [] from hp) (by simp)⟩
  have loop : codeAny (model X.prog X.w) X.A (.compLoop (.ListComp elt [⟨tg, iter, ifs, 0⟩, ⟨tg1, iter1, ifs1, 0⟩] scope pos) 0 (.ref it) (.ref D) ce) (compPost (model X.prog X.w) X.A X.xe use Qf (.ref D) s3.heap.objs.size) s4 := by
    refine compLoop2_out (hs1 ce) (fun n s' => ∃ i H', Inv (X.blk s3 H3 scope ce fp) [] (wipe σ (own.map (·.2))) H' s' ∧ tn i s'.heap ∧ (∀ b ∈ fp, H' b = none) ∧ W i n H') ?_ m0 ⟨0, H3, I4, st4, nfp, w0⟩
    rintro n s5 ⟨i, H5, I5, st5, n5, w5⟩
    rcases turn i n H5 w5 with ⟨stop, qq⟩ | ⟨go, Nx, hNx, step⟩
    · have td := T.done (X.blk s3 H3 scope ce fp) rfl rfl rfl hc i [] s5 _ H5 (fun _ _ => False) I5 (stat I5 n5) st5 stop
      refine thnF td fun r s6 ⟨hr, I6⟩ => ?_
      subst hr
      -- back in the def's context
      have I7 : Inv X pins σ H5 s6 := I3.call' (ch := fp) I6.os I6.base I6.hok I6.bare fun b hb => ⟨(f3 b hb).1.2.2.2.1, (f3 b hb).1.2.1, (f3 b hb).1.2.2.2.2.1, (f3 b hb).1.2.2.2.2.2⟩
      have nC : H5 s3.heap.objs.size = none := by
        have z : H5 ce.locals = none := I6.free
        rw [cL] at z
        exact z
      obtain ⟨m, hn, _⟩ := I6.loc
      have hn : s6.heap.Ns ce.locals m := hn
      rw [cL] at hn
      exact hRR D s3.heap.objs.size s6 m H5 I7 qq hn (I3.fpOk (Nat.le_refl _) nC)
    · have ti := T.item (X.blk s3 H3 scope ce fp) rfl rfl rfl hc i [] s5 _ H5 (fun _ _ => False) I5 (stat I5 n5) st5 go
      refine thnF ti fun r s6 ⟨u, hr, h6⟩ => ?_
      subst hr
      refine thnF h6 fun _ s7 ⟨x, H7, I7, r7, y7, st7, n7⟩ => ?_
      have I7' := I7.pinned (stat I7 n7) (T.obj _ _ st7)
      refine thnF (pg _ s7 _ H7 x u _ I7' r7 (step x H7 y7)) fun _ s8 ⟨σ8, H8, I8, hw8, q8⟩ => ?_
      refine thnF (pt _ s8 σ8 H8 _ I8 q8) fun b s9 ⟨H9, I9, q9⟩ => ?_
      -- the turn's end, from any slots that know what the block knew at its start
      have fin : ∀ {σ9 : St} {s' : Shared} {H' : Hp}, Inv (X.blk s3 H3 scope ce fp) ([] ++ pinsAt fp s7.heap) σ9 H' s' → (wipe σ (own.map (·.2))).length = σ9.length → (∀ (j : Nat) v, (wipe σ (own.map (·.2)))[j]? = some (some v) → σ9[j]? = some (some v)) → Nx H' →
          ∃ m, m < n ∧ ∃ i H', Inv (X.blk s3 H3 scope ce fp) [] (wipe σ (own.map (·.2))) H' s' ∧ tn i s'.heap ∧ (∀ b ∈ fp, H' b = none) ∧ W i m H' := fun {σ9 s' H'} I' hl hk nx => by
        obtain ⟨m', hm, w'⟩ := hNx H' nx
        have pin' : ∀ b ∈ fp, ∀ o, s7.heap.get? b = some o → s'.heap.get? b = some o ∧ H' b = none := fun b hb o e =>
          let z := I'.pin (b, o) (List.mem_append_right _ (List.mem_append_right _ (mem_pinsAt hb e)))
          ⟨z.1, z.2.1⟩
        refine ⟨m', hm, i + 1, H', (I'.unpinned (pins := [])).weak hl hk, T.keep _ _ _ st7 fun b hb o e => (pin' b hb o e).1, fun b hb => ?_, w'⟩
        obtain ⟨o, e, _⟩ := T.obj _ _ st7 b hb
        exact (pin' b hb o e).2
      have hl8 : (wipe σ (own.map (·.2))).length = σ8.length := by rw [← hw8, wipe_length]
      have hk8 : ∀ (j : Nat) v, (wipe σ (own.map (·.2)))[j]? = some (some v) → σ8[j]? = some (some v) := fun j v e => by
        rw [← hw8] at e
        exact (wipe_some e).1
      have hk9 : ∀ (j : Nat) v, (wipe σ (own.map (·.2)))[j]? = some (some v) → (wipe σ8 vs1)[j]? = some (some v) := fun j v e => by
        rw [← hw8] at e
        obtain ⟨e1, e2⟩ := wipe_some e
        rw [wipe_out fun z => e2 (hv j z)]
        exact e1
      cases b with
      | false =>
        simp only [Bool.false_eq_true, if_false] at q9 ⊢
        exact fin I9 hl8 hk8 q9
      | true =>
        simp only [if_true] at q9 ⊢
        refine thnF (pi1 _ s9 σ8 H9 _ I9 q9) fun xv s10 hx => thnF hx fun itv s11 h11 => ?_
        obtain ⟨it1, fp1, tn1, J1, H11, e1, I11, T1, st11, f11, W1, ⟨m1, w1⟩, turn1⟩ := h11
        subst e1
        -- the inner loop
        have stat1 : ∀ {H' : Hp}, (∀ b ∈ fp1, H' b = none) → ∀ b ∈ fp1, FpOk (X.blk s3 H3 scope ce fp) ([] ++ pinsAt fp s7.heap) H' b := fun hn b hb => ⟨hn b hb, (f11 b hb).2⟩
        have loop1 : codeAny (model X.prog X.w) X.A (.compLoop (.ListComp elt [⟨tg, iter, ifs, 0⟩, ⟨tg1, iter1, ifs1, 0⟩] scope pos) 1 (.ref it1) (.ref D) ce)
            (fun r s' => match r with
              | .ok _ => ∃ m, m < n ∧ ∃ i H', Inv (X.blk s3 H3 scope ce fp) [] (wipe σ (own.map (·.2))) H' s' ∧ tn i s'.heap ∧ (∀ b ∈ fp, H' b = none) ∧ W i m H'
              | .error _ => False) s11 := by
          refine compLoop2_in (fun k s' => ∃ j H', Inv (X.blk s3 H3 scope ce fp) ([] ++ pinsAt fp s7.heap) (wipe σ8 vs1) H' s' ∧ tn1 j s'.heap ∧ (∀ b ∈ fp1, H' b = none) ∧ W1 j k H') ?_ m1 ⟨0, H11, I11.weak (wipe_length _ _) (fun j v e => (wipe_some e).1), st11, fun b hb => (f11 b hb).1, w1⟩
          rintro k s12 ⟨j, H12, I12, st12, n12, w12⟩
          rcases turn1 j k H12 w12 with ⟨stop1, nx1⟩ | ⟨go1, Nx1, hNx1, step1⟩
          · refine thnF (T1.done (X.blk s3 H3 scope ce fp) rfl rfl rfl hc j _ s12 (wipe σ8 vs1) H12 (fun _ _ => False) I12 (stat1 n12) st12 stop1) fun r s13 ⟨hr, I13⟩ => ?_
            subst hr
            exact fin I13 (hl8.trans (wipe_length σ8 vs1).symm) hk9 nx1
          · refine thnF (T1.item (X.blk s3 H3 scope ce fp) rfl rfl rfl hc j _ s12 (wipe σ8 vs1) H12 (fun _ _ => False) I12 (stat1 n12) st12 go1) fun r s13 ⟨u1, hr, h13⟩ => ?_
            subst hr
            refine thnF h13 fun _ s14 ⟨x1, H14, I14, r14, y14, st14, n14⟩ => ?_
            have I14' := I14.pinned (stat1 n14) (T1.obj _ _ st14)
            refine thnF (pg1 _ s14 (wipe σ8 vs1) H14 x1 u1 _ I14' r14 (step1 x1 H14 y14)) fun _ s15 ⟨σ15, H15, I15, hw15, q15⟩ => ?_
            refine thnF (pt1 _ s15 σ15 H15 _ I15 q15) fun b1 s16 ⟨H16, I16, q16⟩ => ?_
            have fin1 : ∀ {s' : Shared} {H' : Hp}, Inv (X.blk s3 H3 scope ce fp) (([] ++ pinsAt fp s7.heap) ++ pinsAt fp1 s14.heap) σ15 H' s' → Nx1 H' → ∃ m, m < k ∧ ∃ j H', Inv (X.blk s3 H3 scope ce fp) ([] ++ pinsAt fp s7.heap) (wipe σ8 vs1) H' s' ∧ tn1 j s'.heap ∧ (∀ b ∈ fp1, H' b = none) ∧ W1 j m H' := fun {s' H'} I' nx => by
              obtain ⟨m', hm, w'⟩ := hNx1 H' nx
              have pin' : ∀ b ∈ fp1, ∀ o, s14.heap.get? b = some o → s'.heap.get? b = some o ∧ H' b = none := fun b hb o e =>
                let z := I'.pin (b, o) (List.mem_append_right _ (List.mem_append_right _ (mem_pinsAt hb e)))
                ⟨z.1, z.2.1⟩
              refine ⟨m', hm, j + 1, H', I'.unpinned.weak (by rw [← hw15, wipe_length]) (fun j v e => by rw [← hw15] at e; exact (wipe_some e).1), T1.keep _ _ _ st14 fun b hb o e => (pin' b hb o e).1, fun b hb => ?_, w'⟩
              obtain ⟨o, e, _⟩ := T1.obj _ _ st14 b hb
              exact (pin' b hb o e).2
            cases b1 with
            | false =>
              simp only [Bool.false_eq_true, if_false] at q16 ⊢
              exact fin1 I16 q16
            | true =>
              simp only [if_true] at q16 ⊢
              refine thnF (pe _ s16 σ15 H16 _ I16 q16) fun z s17 ⟨yv, H17, I17, r17, acc, hD17, hz17, nx⟩ => ?_
              exact app_ok (X := X.blk s3 H3 scope ce fp) I17 hD17 hz17 r17 fun s18 I18 => fin1 I18 nx
        exact compStart1_ok loop1 (T1.self X.A 0 _ _ _ st11 loop1)
  exact codeAny_compStart_list loop (T.self X.A 0 _ _ _ st4 loop)
/-- as a value -/
theorem pe_lc2 {elt tg iter tg1 iter1 : Expr} {ifs ifs1 : List Expr} {scope : Scope} {own : List (Str × Nat)} {vs1 : List Nat} {pos : Pos} {wi wi1 : TI} {g g1 : TG} {tt tt1 : TT} {te : TE} (hc : X.calm = true) (hN : X.N.Nodup) (hi : PI X tg iter wi) (ok : BlkOk X.N X.env.scope scope own) (hv : ∀ i ∈ vs1, i ∈ own.map (·.2))
    (hg : ∀ (s : Shared) (H : Hp) (C : Addr) (cl : List (Str × Addr)) (fp : List Addr), PG (X.blk s H scope (compEnvC scope cl C X.env) fp) tg g) (ht : ∀ (s : Shared) (H : Hp) (C : Addr) (cl : List (Str × Addr)) (fp : List Addr), PTs (X.blk s H scope (compEnvC scope cl C X.env) fp) ifs tt)
    (hi1 : ∀ (s : Shared) (H : Hp) (C : Addr) (cl : List (Str × Addr)) (fp : List Addr), PI (X.blk s H scope (compEnvC scope cl C X.env) fp) tg1 iter1 wi1)
    (hg1 : ∀ (s : Shared) (H : Hp) (C : Addr) (cl : List (Str × Addr)) (fp : List Addr), PG (X.blk s H scope (compEnvC scope cl C X.env) fp) tg1 g1) (ht1 : ∀ (s : Shared) (H : Hp) (C : Addr) (cl : List (Str × Addr)) (fp : List Addr), PTs (X.blk s H scope (compEnvC scope cl C X.env) fp) ifs1 tt1)
    (he : ∀ (s : Shared) (H : Hp) (C : Addr) (cl : List (Str × Addr)) (fp : List Addr), PE (X.blk s H scope (compEnvC scope cl C X.env) fp) elt te) (hs : ∀ x, foldedSetIterable iter X.env x = pure x := by intro _; rfl) (hs1 : ∀ env x, foldedSetIterable iter1 env x = pure x := by intro _ _; rfl) :
    PE X (.ListComp elt [⟨tg, iter, ifs, 0⟩, ⟨tg1, iter1, ifs1, 0⟩] scope pos) (tLc2 wi g tt wi1 g1 tt1 te (own.map (·.2)) vs1) := by
  intro pins s σ H Q I h
  rw [eval_ListComp]
  refine lc2_core hc hN I hi ok hv hg ht he hs hi1 hg1 ht1 hs1 h fun D C s' m H' I' q hn f => ⟨m, hn, fun h'' sb => ?_⟩
  obtain ⟨f0, f1, f2, f3, f4, f5⟩ := f
  exact ⟨.ref D, H', I'.turned (t' := s'.toks) (fun b o hb e => (sb.2 b hb).trans e) f0 f1 f3 f4 f5, rfl, q⟩
end
end L2

namespace L2
open PySem PySem.Spec PyProof.Rows

section
variable {κ : Type} [DecidableEq κ]
def valV (kvs : List (κ × V)) (k : κ) : Option V := (kvs.find? fun kv => decide (kv.1 = k)).map (·.2)
/-- in its place, or at the end -/
def putK (kvs : List (κ × V)) (k : κ) (v : V) : List (κ × V) :=
  if (kvs.any fun kv => decide (kv.1 = k)) = true then kvs.map (fun kv => if kv.1 = k then (kv.1, v) else kv) else kvs ++ [(k, v)]
def dropK (kvs : List (κ × V)) (k : κ) : List (κ × V) := kvs.filter fun kv => decide (kv.1 ≠ k)

theorem valV_pos {p : κ × V} {r : List (κ × V)} {k : κ} (e : p.1 = k) : valV (p :: r) k = some p.2 := by simp [valV, List.find?_cons, e]
theorem valV_neg {p : κ × V} {r : List (κ × V)} {k : κ} (e : ¬ p.1 = k) : valV (p :: r) k = valV r k := by simp [valV, List.find?_cons, e]
theorem valV_any (k : κ) : ∀ kvs : List (κ × V), (kvs.any fun kv => decide (kv.1 = k)) = (valV kvs k).isSome
  | [] => rfl
  | p :: r => by
    rw [List.any_cons]
    by_cases e : p.1 = k
    · simp only [valV_pos e, decide_eq_true e, Bool.true_or, Option.isSome_some]
    · rw [valV_neg e, decide_eq_false e, Bool.false_or]; exact valV_any k r
theorem RelO.isSome_eq {o : Option V} {u : Option Value} (r : RelO o u) : o.isSome = u.isSome := by
  cases o with
  | none => cases u with
    | none => rfl
    | some _ => exact (show False from r).elim
  | some _ => cases u with
    | none => exact (show False from r).elim
    | some _ => rfl
theorem RelO.getD {o : Option V} {u : Option Value} {d : V} {d' : Value} (r : RelO o u) (rd : RelV d d') : RelV (o.getD d) (u.getD d') := by
  cases o with
  | none => cases u with
    | none => exact rd
    | some _ => exact (show False from r).elim
  | some _ => cases u with
    | none => exact (show False from r).elim
    | some _ => exact r

/-- raw tables of the same keys -/
theorem KV.val {kvs : List (κ × V)} {vs : List (κ × Value)} (r : KV kvs vs) (k : κ) : RelO (valV kvs k) (valueAt vs k) := by
  unfold KV at r
  induction r with
  | nil => exact True.intro
  | @cons p q ps qs h t ih =>
    obtain ⟨h1, h2⟩ := h
    by_cases e : p.1 = k
    · have e' : q.1 = k := h1.symm.trans e
      have b : valueAt (q :: qs) k = some q.2 := by simp [valueAt, List.find?_cons, e']
      rw [valV_pos e, b]; exact h2
    · have e' : ¬ q.1 = k := fun z => e (h1.trans z)
      have b : valueAt (q :: qs) k = valueAt qs k := by simp [valueAt, List.find?_cons, e']
      rw [valV_neg e, b]; exact ih
theorem KV.any {kvs : List (κ × V)} {vs : List (κ × Value)} (r : KV kvs vs) (k : κ) : (kvs.any fun kv => decide (kv.1 = k)) = vs.any fun kv => decide (kv.1 = k) := by
  unfold KV at r
  induction r with
  | nil => rfl
  | cons h t ih => rw [List.any_cons, List.any_cons, ih, h.1]
theorem KV.repl {kvs : List (κ × V)} {vs : List (κ × Value)} (r : KV kvs vs) (k : κ) {y : V} {u : Value} (ry : RelV y u) :
    KV (kvs.map fun kv => if kv.1 = k then (kv.1, y) else kv) (vs.map fun kv => if kv.1 = k then (kv.1, u) else kv) := by
  unfold KV at r ⊢
  induction r with
  | nil => exact .nil
  | @cons p q ps qs h t ih =>
    rw [List.map_cons, List.map_cons]
    refine .cons ?_ ih
    obtain ⟨h1, h2⟩ := h
    by_cases e : p.1 = k
    · rw [if_pos e, if_pos (h1.symm.trans e)]; exact ⟨h1, ry⟩
    · rw [if_neg e, if_neg (fun z => e (h1.trans z))]; exact ⟨h1, h2⟩
theorem KV.put {kvs : List (κ × V)} {vs : List (κ × Value)} (r : KV kvs vs) (k : κ) {y : V} {u : Value} (ry : RelV y u) : KV (putK kvs k y) (stored vs k u) := by
  unfold putK stored
  rw [r.any k]
  by_cases e : (vs.any fun kv => decide (kv.1 = k)) = true
  · rw [if_pos e, if_pos e]; exact r.repl k ry
  · rw [if_neg e, if_neg e]; exact Paired.snoc r ⟨rfl, ry⟩
theorem KV.drop {kvs : List (κ × V)} {vs : List (κ × Value)} (r : KV kvs vs) (k : κ) : KV (dropK kvs k) (without vs k) := by
  unfold KV at r ⊢
  unfold dropK without
  induction r with
  | nil => exact .nil
  | @cons p q ps qs h t ih =>
    obtain ⟨h1, h2⟩ := h
    rw [List.filter_cons, List.filter_cons]
    by_cases e : p.1 = k
    · have a : ¬ decide (p.1 ≠ k) = true := by simp [e]
      have b : ¬ decide (q.1 ≠ k) = true := by simp [h1.symm.trans e]
      rw [if_neg a, if_neg b]; exact ih
    · have e' : ¬ q.1 = k := fun z => e (h1.trans z)
      have a : decide (p.1 ≠ k) = true := by simp [e]
      have b : decide (q.1 ≠ k) = true := by simp [e']
      rw [if_pos a, if_pos b]; exact .cons ⟨h1, h2⟩ ih
theorem KV.keys {kvs : List (κ × V)} {vs : List (κ × Value)} (r : KV kvs vs) : kvs.map (·.1) = vs.map (·.1) := by
  unfold KV at r
  induction r with
  | nil => rfl
  | cons h t ih => rw [List.map_cons, List.map_cons, ih, h.1]
theorem KV.length {kvs : List (κ × V)} {vs : List (κ × Value)} (r : KV kvs vs) : kvs.length = vs.length := Paired.length r
end


/-- raw entries of a dict with tuple keys -/
abbrev KT (H : Hp) : List (List Key × V) → List (List Key × Addr × Value) → Prop := Paired fun p q => p.1 = q.1 ∧ H q.2.1 = some (.tup (p.1.map kV)) ∧ RelV p.2 q.2.2
theorem KT.val {H : Hp} {kvs : List (List Key × V)} {xs : List (List Key × Addr × Value)} (r : KT H kvs xs) (k : List Key) : RelO (valV kvs k) ((atKey xs k).map (·.2)) := by
  induction r with
  | nil => exact True.intro
  | @cons p q ps qs h t ih =>
    obtain ⟨h1, _, h2⟩ := h
    by_cases e : p.1 = k
    · have e' : q.1 = k := h1.symm.trans e
      have b : atKey (q :: qs) k = some q.2 := by simp [atKey, List.find?_cons, e']
      rw [valV_pos e, b]; exact h2
    · have e' : ¬ q.1 = k := fun z => e (h1.trans z)
      have b : atKey (q :: qs) k = atKey qs k := by simp [atKey, List.find?_cons, e']
      rw [valV_neg e, b]; exact ih
theorem KT.repl {H : Hp} {kvs : List (List Key × V)} {xs : List (List Key × Addr × Value)} (r : KT H kvs xs) (k : List Key) {y : V} {u : Value} (ry : RelV y u) :
    KT H (kvs.map fun kv => if kv.1 = k then (kv.1, y) else kv) (xs.map (putAt k u)) := by
  induction r with
  | nil => exact .nil
  | @cons p q ps qs h t ih =>
    rw [List.map_cons, List.map_cons]
    refine .cons ?_ ih
    obtain ⟨h1, h2, h3⟩ := h
    unfold putAt
    by_cases e : p.1 = k
    · rw [if_pos e, if_pos (h1.symm.trans e)]; exact ⟨h1, h2, ry⟩
    · rw [if_neg e, if_neg (fun z => e (h1.trans z))]; exact ⟨h1, h2, h3⟩
theorem KT.put {H : Hp} {kvs : List (List Key × V)} {xs : List (List Key × Addr × Value)} (r : KT H kvs xs) (k : List Key) {b : Addr} {y : V} {u : Value} (hb : H b = some (.tup (k.map kV))) (ry : RelV y u) :
    KT H (putK kvs k y) (storedH xs k b u) := by
  have e : (kvs.any fun kv => decide (kv.1 = k)) = (atKey xs k).isSome := by
    rw [valV_any, (r.val k).isSome_eq, Option.isSome_map]
  unfold putK storedH
  rw [e]
  by_cases q : (atKey xs k).isSome = true
  · rw [if_pos q, if_pos q]; exact r.repl k ry
  · rw [if_neg q, if_neg q]; exact Paired.snoc r ⟨rfl, hb, ry⟩
theorem KT.keeps {H H' : Hp} {kvs : List (List Key × V)} {xs : List (List Key × Addr × Value)} (r : KT H kvs xs) (ht : ∀ b ys, H b = some (.tup ys) → H' b = some (.tup ys)) : KT H' kvs xs :=
  Paired.mapP r fun _ _ z => ⟨z.1, ht _ _ z.2.1, z.2.2⟩

section
variable {P : Program} {w : World} {H : Hp} {h : Heap} {a : Addr}
theorem rd_of {u : HO} (ok : HOk P w H h) (e : Rd H a u) : ObjOk P w H h a u := e.ok ok
theorem dk_rd {kvs : List (Key × V)} (ok : HOk P w H h) (e : Rd H a (.dK kvs)) : kvs.length ≤ sizeLine ∧ (a == sysModules) = false ∧ ∃ vs, KV kvs vs ∧ h.DictOf (mixKind P w) a vs :=
  show ObjOk P w H h a (.dK kvs) from rd_of ok e
end

/-- what the dict at a holds at the key y -/
def DGet (H : Hp) (a : Addr) (y : V) (r : Option V) : Prop :=
  (∃ kvs k, Rd H a (.dK kvs) ∧ y = kV k ∧ r = valV kvs k) ∨ ∃ kvs k b, Rd H a (.dT kvs) ∧ y = .ref b ∧ H b = some (.tup (k.map kV)) ∧ r = valV kvs k
/-- the heap behind a[y] = v -/
def DPut (H : Hp) (a : Addr) (y v : V) (H' : Hp) : Prop :=
  (∃ kvs k, H a = some (.dK kvs) ∧ y = kV k ∧ kvs.length < sizeLine ∧ H' = upd H a (.dK (putK kvs k v))) ∨
  ∃ kvs k b, H a = some (.dT kvs) ∧ y = .ref b ∧ H b = some (.tup (k.map kV)) ∧ kvs.length < sizeLine ∧ H' = upd H a (.dT (putK kvs k v))
theorem DGet.k {H : Hp} {a : Addr} {kvs : List (Key × V)} {k : Key} (e : H a = some (.dK kvs)) : DGet H a (kV k) (valV kvs k) := .inl ⟨kvs, k, .inl e, rfl, rfl⟩
theorem DGet.t {H : Hp} {a b : Addr} {kvs : List (List Key × V)} {k : List Key} (e : H a = some (.dT kvs)) (eb : H b = some (.tup (k.map kV))) : DGet H a (.ref b) (valV kvs k) := .inr ⟨kvs, k, b, .inl e, rfl, eb, rfl⟩
theorem DPut.k {H : Hp} {a : Addr} {kvs : List (Key × V)} {k : Key} {v : V} (e : H a = some (.dK kvs)) (hl : kvs.length < sizeLine) : DPut H a (kV k) v (upd H a (.dK (putK kvs k v))) := .inl ⟨kvs, k, e, rfl, hl, rfl⟩
theorem DPut.t {H : Hp} {a b : Addr} {kvs : List (List Key × V)} {k : List Key} {v : V} (e : H a = some (.dT kvs)) (eb : H b = some (.tup (k.map kV))) (hl : kvs.length < sizeLine) :
    DPut H a (.ref b) v (upd H a (.dT (putK kvs k v))) := .inr ⟨kvs, k, b, e, rfl, eb, hl, rfl⟩


section
variable {X : Cx} {pins : List (Addr × Obj)} {σ : St} {H : Hp} {s : Shared} {a : Addr} {y v : V} {u r : Value} {o : Option V} {A : Around} {E : Value → Shared → Prop}

theorem Inv.big (I : Inv X pins σ H s) : sysModules < s.heap.objs.size := by
  have h : mainGlobals < s.heap.objs.size := (I.mod.glob.keeps I.bk).lt
  exact Nat.lt_trans (by decide) h

end

section
variable {X : Cx} {pins : List (Addr × Obj)} {σ : St} {H : Hp} {s : Shared} {a : Addr} {kvs : List (Key × V)} {k : Key} {u : Value} {A : Around} {E : Value → Shared → Prop}
/-- len(d) -/
theorem d_len {Q : Value → Shared → Prop} (I : Inv X pins σ H s) (e : Rd H a (.dK kvs)) (h : ∀ t s', Inv X pins σ H s' → Q (.int kvs.length t) s') : wpAny (model X.prog X.w) A (call (.builtin "len") [.ref a]) Q E s := by
  obtain ⟨z, hd, vs, rel, dd⟩ := dk_rd I.hok e
  refine call_len_dict hd dd (by rw [← rel.length]; rw [sizeLine_eq] at z; omega) ?_
  rw [← rel.length]
  exact h _ _ (I.tok _)
end


/-- the element of a subscription, not a slice -/
def NoSl (i : Expr) : Prop := ∀ ov iv, subscripted i false ov iv = operate [ov, iv] (getItem ov iv)
/-- d[y] -/
def tDGet (td ty : TE) : TE := fun σ H Q => td σ H fun x H1 => ty σ H1 fun y H2 => ∃ a v, x = .ref a ∧ DGet H2 a y (some v) ∧ Q v H2
/-- y in d, y not in d -/
def tDIn (ty td : TE) : TE := fun σ H Q => ty σ H fun y H1 => td σ H1 fun x H2 => ∃ a o, x = .ref a ∧ DGet H2 a y o ∧ Q (.bl o.isSome) H2
def tDNotIn (ty td : TE) : TE := fun σ H Q => ty σ H fun y H1 => td σ H1 fun x H2 => ∃ a o, x = .ref a ∧ DGet H2 a y o ∧ Q (.bl (!o.isSome)) H2
/-- d[y] = v -/
def sDPut (td ty tv : TE) : TS := fun D σ H => tv σ H fun v H1 => td σ H1 fun x H2 => ty σ H2 fun y H3 => ∃ a H4, x = .ref a ∧ DPut H3 a y v H4 ∧ D.nx σ H4
/-- d[y] op= v -/
def sDAug (td ty tv : TE) (rd : V → V → Hp → VK → Prop) : TS := fun D σ H => td σ H fun x H1 => ty σ H1 fun y H2 => ∃ a v, x = .ref a ∧ DGet H2 a y (some v) ∧
  tv σ H2 fun y2 H3 => rd v y2 H3 fun z H4 => ∃ H5, DPut H4 a y z H5 ∧ D.nx σ H5
/-- del d[y] -/
def sDDel (td ty : TE) : TS := fun D σ H => td σ H fun x H1 => ty σ H1 fun y H2 => ∃ a kvs k, x = .ref a ∧ H2 a = some (.dK kvs) ∧ y = kV k ∧ (valV kvs k).isSome = true ∧ D.nx σ (upd H2 a (.dK (dropK kvs k)))

section
variable {X : Cx} {o i e value : Expr} {pos pos' tpos : Pos} {td ty tv : TE}
end


/-- {}, to be a dict of the kind that is wanted -/
def tDNewK : TE := fun _ H Q => ∀ p, H p = none → Q (.ref p) (upd H p (.dK []))
def tDNewT : TE := fun _ H Q => ∀ p, H p = none → Q (.ref p) (upd H p (.dT []))
section
variable {X : Cx} {pos : Pos}
end

/-- the pairs of a display, from the left -/
def tPairs : List (TE × TE) → St → Hp → (List (V × V) → Hp → Prop) → Prop
  | [], _, H, Q => Q [] H
  | (tk, tv) :: r, σ, H, Q => tk σ H fun x H1 => tv σ H1 fun y H2 => tPairs r σ H2 fun ps H3 => Q ((x, y) :: ps) H3
abbrev VV : List (V × V) → List (Value × Value) → Prop := Paired fun p q => RelV p.1 q.1 ∧ RelV p.2 q.2
def PPs (X : Cx) (pos : Pos) (keys : List (Option Expr)) (values : List Expr) (trs : List (TE × TE)) : Prop :=
  ∀ (pins : List (Addr × Obj)) (s : Shared) (σ : St) (H : Hp) (Q : List (V × V) → Hp → Prop), Inv X pins σ H s → tPairs trs σ H Q →
    wpAny (model X.prog X.w) X.A (evalPairs (pairTrees keys values X.env pos)) (fun vs s' => ∃ ps H', Inv X pins σ H' s' ∧ VV ps vs ∧ Q ps H') X.xe s
def mergeK (kvs more : List (Key × V)) : List (Key × V) := more.foldl (fun acc kv => putK acc kv.1 kv.2) kvs
/-- {k: v, ..} with keys ints and texts; the new dict stands empty while the pairs are made -/
def tDisp (trs : List (TE × TE)) : TE := fun σ H Q => ∀ p, H p = none → tPairs trs σ (upd H p (.dK [])) fun ps H2 => H2 p = some (.dK []) ∧ ∃ kvs : List (Key × V), ps = kvs.map (fun kv => (kV kv.1, kv.2)) ∧ kvs.length ≤ 15 ∧ Q (.ref p) (upd H2 p (.dK (mergeK [] kvs)))
/-- a method call o.m(e) of a built-in, with one argument: what must be seen of the text -/
structure M1 (X : Cx) (o : Expr) (m : Str) (apos : Pos) (e : Expr) (cpos : Pos) : Prop where
  base : attributeBase o m X.env (eval o X.env) = eval o X.env
  few : ((backTo cpos (starEach [e] X.env)).all (fun x => !x.1) && (backToKw cpos (keywordEach [] X.env)).all (fun x => x.1.isSome)
    && decide (([e] : List Expr).length + ([] : List Keyword).length + (if ([] : List Keyword).isEmpty then 0 else 1) < 30)) = true
  line : (apos.endLine == cpos.line) = true
  trees : backTo cpos (starEach [e] X.env) = [(false, eval e X.env)]
structure M2 (X : Cx) (o : Expr) (m : Str) (apos : Pos) (e f : Expr) (cpos : Pos) : Prop where
  base : attributeBase o m X.env (eval o X.env) = eval o X.env
  few : ((backTo cpos (starEach [e, f] X.env)).all (fun x => !x.1) && (backToKw cpos (keywordEach [] X.env)).all (fun x => x.1.isSome)
    && decide (([e, f] : List Expr).length + ([] : List Keyword).length + (if ([] : List Keyword).isEmpty then 0 else 1) < 30)) = true
  line : (apos.endLine == cpos.line) = true
  trees : backTo cpos (starEach [e, f] X.env) = [(false, eval e X.env), (false, eval f X.env)]

/-- a is a dict, whatever its keys -/
def IsD (H : Hp) (a : Addr) : Prop := (∃ kvs, Rd H a (.dK kvs)) ∨ ∃ kvs, Rd H a (.dT kvs)
section
variable {X : Cx} {pins : List (Addr × Obj)} {σ : St} {H : Hp} {s : Shared} {a : Addr} {y d : V} {u r : Value} {o : Option V} {A : Around} {E : Value → Shared → Prop}
end

def tDGet1 (td ty : TE) : TE := fun σ H Q => td σ H fun x H1 => ∃ a, x = .ref a ∧ IsD H1 a ∧ ty σ H1 fun y H2 => ∃ o, DGet H2 a y o ∧ Q (o.getD .non) H2
def tDGet2 (td ty tx : TE) : TE := fun σ H Q => td σ H fun x H1 => ∃ a, x = .ref a ∧ IsD H1 a ∧ ty σ H1 fun y H2 => tx σ H2 fun z H3 => ∃ o, DGet H3 a y o ∧ Q (o.getD z) H3
/-- d.pop(k): there; d.pop(k, x): there or not -/
def tDPop1 (td ty : TE) : TE := fun σ H Q => td σ H fun x H1 => ∃ a, x = .ref a ∧ IsD H1 a ∧ ty σ H1 fun y H2 => ∃ kvs k v, H2 a = some (.dK kvs) ∧ y = kV k ∧ valV kvs k = some v ∧ Q v (upd H2 a (.dK (dropK kvs k)))
def tDPop2 (td ty tx : TE) : TE := fun σ H Q => td σ H fun x H1 => ∃ a, x = .ref a ∧ IsD H1 a ∧ ty σ H1 fun y H2 => tx σ H2 fun z H3 => ∃ kvs k, H3 a = some (.dK kvs) ∧ y = kV k ∧
  (∀ v, valV kvs k = some v → Q v (upd H3 a (.dK (dropK kvs k)))) ∧ (valV kvs k = none → Q z H3)
section
variable {X : Cx} {o e f : Expr} {apos cpos : Pos} {td ty tx : TE}
end

section
variable {X : Cx} {pins : List (Addr × Obj)} {σ : St} {H : Hp} {s : Shared} {a : Addr} {kvs : List (Key × V)} {A : Around} {E : Value → Shared → Prop}
end


section
variable {X : Cx} {pins : List (Addr × Obj)} {σ : St} {H : Hp} {s : Shared} {a : Addr} {y : V} {u : Value} {A : Around} {E : Value → Shared → Prop}
end
end L2

namespace L2
open PySem PySem.Spec PyProof.Rows

section
variable {prog : Program} {w : World} {A : Around} {E : Value → Shared → Prop}
end

section
variable {X : Cx}
end
end L2

namespace L2
open PySem PySem.Spec PyProof.Rows

section
variable {X : Cx} {pins : List (Addr × Obj)} {σ : St} {H : Hp} {s : Shared} {h' : Heap}
end
/-- the statement runs while the thing at d is locked (read, not written); d and what stands there are the reading's choice -/
def tLock (t : TS) : TS := fun D σ H => ∃ d u, H d = some u ∧ Mut (some u) ∧ ∀ od, t ⟨fun σ' H' => H' d = some (.frz od u) ∧ D.nx σ' (upd H' d u), fun v H' => H' d = some (.frz od u) ∧ D.rt v (upd H' d u), fun σ' H' => H' d = some (.frz od u) ∧ D.bk σ' (upd H' d u), fun σ' H' => H' d = some (.frz od u) ∧ D.ct σ' (upd H' d u)⟩ σ (upd H d (.frz od u))
def tLockE (t : TE) : TE := fun σ H Q => ∃ d u, H d = some u ∧ Mut (some u) ∧ ∀ od, t σ (upd H d (.frz od u)) fun v H' => H' d = some (.frz od u) ∧ Q v (upd H' d u)
section
variable {X : Cx}
theorem pi_one {tg : Expr} {pins : List (Addr × Obj)} {σ : St} {H : Hp} {s : Shared} {R : It → Hp → Prop} {J : It} {tn : Nat → Heap → Prop} {tk : Nat} (I : Inv X pins σ H s) (o : Obj)
    (T : Turn X.prog X.w X.K tg J [s.heap.objs.size] s.heap.objs.size tn) (st : tn 0 (s.heap.push o)) (q : R J H) : PIE X pins σ tg R (.ref s.heap.objs.size) { s with heap := s.heap.push o, toks := tk } := by
  refine ⟨s.heap.objs.size, [s.heap.objs.size], tn, J, H, rfl, I.kept fun b ob e => Heap.get?_push_of_some _ e, T, st, fun b hb => ?_, q⟩
  have e : b = s.heap.objs.size := by simpa using hb
  subst e
  exact I.fpOk (Nat.le_refl _) (I.hok.fresh (Nat.le_refl _))
end

/-- lo, lo + c, .. (n of them) -/
def Itc (lo c : Int) (n : Nat) : It := ⟨fun i _ => i < n, fun i H x H' => H' = H ∧ x = .int (lo + (i : Nat) * c), fun i _ => n ≤ i⟩
theorem turn_rangeC {P : Program} {w : World} {K : PySem.W.Frag} {tg : Expr} (it : Addr) (lo c : Int) (n : Nat) : Turn P w K tg (Itc lo c n) [it] it (fun i h => IsRangeIter h it (lo + (i : Nat) * c) ((n : Int) - (i : Nat)) c) where
  mem := by simp
  obj := fun i h st b hb => by
    have e : b = it := by simpa using hb
    subst e
    exact ⟨_, st, fun v z => nomatch z⟩
  keep := fun i h h' st k => k it (by simp) _ st
  item := by
    intro X hP hw hK hc i pins s σ H E I hf st hg
    subst hP hw hK
    obtain ⟨f0, f1, f2, f3, f4, f5⟩ := hf it (by simp)
    have W := Walks.range (prog := X.prog) (w := X.w) (I.ok.hd hc) it lo c n
    refine W.item i s _ _ hg st fun v h' tk hv st' kk => ?_
    obtain ⟨t, rfl⟩ := hv
    have I1 : Inv X pins σ H { s with heap := h', toks := tk } := I.turned (fun b o hb e => kk b o (by simpa using hb) e) f0 f1 f3 f4 f5
    exact ⟨_, rfl, go_of (s := { s with heap := h', toks := tk }) (n := "range_iterator") st' rfl rfl (by decide) ⟨.int (lo + (i : Nat) * c), H, I1, ⟨t, rfl⟩, ⟨rfl, rfl⟩, st', fun b hb => (hf b hb).1⟩⟩
  done := by
    intro X hP hw hK hc i pins s σ H E I hf st hg
    subst hP hw hK
    obtain ⟨f0, f1, f2, f3, f4, f5⟩ := hf it (by simp)
    exact wpAny_pyNext_range_end (I.ok.hd hc) st (by have : n ≤ i := hg; omega) fun h' eb => ⟨rfl, I.turned (t' := s.toks) (fun b o hb e => eb b o hb e) f0 f1 f3 f4 f5⟩
  self := fun A i s Q E st h => wpAny_pyIter_rangeiter st h
/-- range(i, j, c): small bounds, n items -/
def RgC (i j c : Int) (n : Nat) : Prop := c ≠ 0 ∧ c.natAbs < 1073741824 ∧ Builtin.Range.small i j c = true ∧ Builtin.Range.rangeSize i j c = n
theorem RgC.neg {i j : Int} (ha : -(2 ^ 62) ≤ i) (ha' : i < 2 ^ 62) (hb : -(2 ^ 62) ≤ j) (hb' : j < 2 ^ 62) : RgC i j (-1) (i - j).toNat :=
  ⟨by decide, by decide, PySem.W.small_down ha ha' hb hb', PySem.W.rangeSize_downNat i j⟩
def iRng3 (ta : TA) : TI := fun σ H R => ta σ H fun vs H1 => ∃ (i j c : Int) (n : Nat), vs = [.int i, .int j, .int c] ∧ RgC i j c n ∧ R (Itc i c n) H1
section
variable {X : Cx} {tg : Expr}
theorem pi_range3 {a b c : Expr} {ta : TA} {p pos : Pos} (hg : Gl X "range") (hm : X.mg "range" = none) (ha : PA X [a, b, c] ta)
    (hs : starEach [a, b, c] X.env = (false, eval a X.env) :: starEach [b, c] X.env := by rfl) (hpl : (backTo pos (starEach [b, c] X.env)).any (·.1) = false := by rfl) :
    PI X tg (.Call (.Name "range" p) [a, b, c] [] pos) (iRng3 ta) := by
  intro pins s σ H R I h
  refine Call_ (ld_blt I hg hm boot_range (PyProof.Rows.callWith_type1 (thn (ha pos pins s σ H _ I h) fun us s1 ⟨vs, H1, I1, r1, q1⟩ => ?_) hs hpl))
  obtain ⟨i, j, k, n, e, ⟨c0, c1, c2, c3⟩, q⟩ := q1
  subst e
  cases r1 with
  | cons r rr =>
    cases rr with
    | cons r' rr =>
      cases rr with
      | cons r'' rr =>
        cases rr
        obtain ⟨t, rfl⟩ := r
        obtain ⟨t', rfl⟩ := r'
        obtain ⟨t'', rfl⟩ := r''
        refine call_range_3 c0 ?_ (.inl (PyProof.noPylong_small c1))
        refine wpAny_pyIter_range (IsRange.new ..) c2 ?_
        have I2 : Inv X pins σ H1 { s1 with heap := s1.heap.push { cls := .type "range", data := .fields #[.int i t, .int j t', .int k t''] } } := I1.kept (t' := s1.toks) fun b o e => Heap.get?_push_of_some _ e
        refine pi_one (tk := s1.toks) I2 _ (turn_rangeC _ i k n) ?_ q
        have e1 : i + ((0 : Nat) : Int) * k = i := by simp
        have e2 : (n : Int) - ((0 : Nat) : Int) = Builtin.Range.rangeSize i j k := by rw [c3]; simp
        show IsRangeIter _ _ (i + ((0 : Nat) : Int) * k) ((n : Int) - ((0 : Nat) : Int)) k
        rw [e1, e2]
        exact Heap.get?_push_size _ rfl
end
/-- the list at a (n items at the start, which the loop leaves there), from its end -/
def Itv (K : PySem.W.Frag) (a : Addr) (n : Nat) : It :=
  ⟨fun i H => i < n ∧ ∃ (xs : List V) (x : V), SqL K H a xs ∧ xs[n - 1 - i]? = some x, fun i H x H' => H' = H ∧ ∀ xs, SqL K H a xs → xs[n - 1 - i]? = some x, fun i _ => n ≤ i⟩
def iRev (K : PySem.W.Frag) (ta : TA) : TI := fun σ H R => ta σ H fun vs H1 => ∃ (a : Addr) (xs : List V), vs = [.ref a] ∧ SqL K H1 a xs ∧ R (Itv K a xs.length) H1
section
variable {X : Cx} {tg : Expr}
end

def Its (x : Str) : It := ⟨fun i _ => i < x.cps.size, fun i H v H' => H' = H ∧ ∃ c, x.cps[i]? = some c ∧ v = .str ⟨#[c]⟩, fun i _ => x.cps.size ≤ i⟩
theorem turn_str {P : Program} {w : World} {K : PySem.W.Frag} {tg : Expr} (it : Addr) (x : Str) (t : Tok) (ty : String) (hty : ty = "str_ascii_iterator" ∨ ty = "str_iterator") :
    Turn P w K tg (Its x) [it] it (fun i h => h.IsStrIter it ty x t i) where
  mem := by simp
  obj := fun i h st b hb => by
    have e : b = it := by simpa using hb
    subst e
    obtain ⟨o, e, c, d⟩ := st
    exact ⟨o, e, fun v z => by rw [d] at z; cases z⟩
  keep := fun i h h' st k => let ⟨o, ho, r⟩ := st; ⟨o, k it (by simp) o ho, r⟩
  item := by
    intro X hP hw hK hc i pins s σ H E I hf st hg
    subst hP hw hK
    obtain ⟨f0, f1, f2, f3, f4, f5⟩ := hf it (by simp)
    have W : Walks X.prog X.w X.A it [it] [it] x.cps.size (SignAt x) (fun i h => h.IsStrIter it ty x t i) := by
      rcases hty with e | e
      · rw [e]; exact Walks.strAscii (I.ok.hd hc) it x t
      · rw [e]; exact Walks.strWide (I.ok.hd hc) it x t
    have hno : ["enumerate", "zip", "dict_itemiterator", "dict_reverseitemiterator", "odict_iterator", "itertools.zip_longest", "itertools.pairwise"].contains ty = false := by
      rcases hty with e | e
      · rw [e]; decide
      · rw [e]; decide
    refine W.item i s _ _ hg st fun v h' tk hv st' kk => ?_
    obtain ⟨c, u, hcx, rfl⟩ := hv
    have I1 : Inv X pins σ H { s with heap := h', toks := tk } := I.turned (fun b o hb e => kk b o (by simpa using hb) e) f0 f1 f3 f4 f5
    obtain ⟨oi, e, cc, dd⟩ := id st'
    exact ⟨_, rfl, go_of (s := { s with heap := h', toks := tk }) e cc dd hno ⟨.str ⟨#[c]⟩, H, I1, ⟨u, rfl⟩, ⟨rfl, c, hcx, rfl⟩, st', fun b hb => (hf b hb).1⟩⟩
  done := by
    intro X hP hw hK hc i pins s σ H E I hf st hg
    subst hP hw hK
    obtain ⟨f0, f1, f2, f3, f4, f5⟩ := hf it (by simp)
    have hx : x.cps[i]? = none := Array.getElem?_eq_none hg
    rcases hty with e | e
    · rw [e] at st
      exact wpAny_pyNext_ascii_end (I.ok.hd hc) st hx fun h' eb => ⟨rfl, I.turned (t' := s.toks) (fun b o hb e => eb b o hb e) f0 f1 f3 f4 f5⟩
    · rw [e] at st
      exact wpAny_pyNext_wide_end (I.ok.hd hc) st hx fun h' eb => ⟨rfl, I.turned (t' := s.toks) (fun b o hb e => eb b o hb e) f0 f1 f3 f4 f5⟩
  self := fun A i s Q E st h => by
    rcases hty with e | e
    · rw [e] at st; exact wpAny_pyIter_striter_ascii st h
    · rw [e] at st; exact wpAny_pyIter_striter_wide st h
def iStr (te : TE) : TI := fun σ H R => te σ H fun v H1 => ∃ x, v = .str x ∧ R (Its x) H1
theorem pi_str {X : Cx} {tg e : Expr} {te : TE} (he : PE X e te) : PI X tg e (iStr te) := by
  intro pins s σ H R I h
  refine thn (he pins s σ H _ I h) fun v s1 ⟨y, H1, I1, r1, x, ex, q⟩ => ?_
  subst ex
  obtain ⟨t, rfl⟩ := r1
  cases ha : x.cps.all (· < 128)
  · exact wpAny_pyIter_wide ha (pi_one (tk := s1.toks) I1 _ (turn_str _ x t "str_iterator" (.inr rfl)) ⟨_, Heap.get?_push_size _ rfl, rfl, rfl⟩ q)
  · exact wpAny_pyIter_ascii ha (pi_one (tk := s1.toks) I1 _ (turn_str _ x t "str_ascii_iterator" (.inl rfl)) ⟨_, Heap.get?_push_size _ rfl, rfl, rfl⟩ q)

section
variable {prog : Program} {w : World} {A : Around} {E : Value → Shared → Prop} {s : Shared}
end

section
variable {X : Cx} {pins : List (Addr × Obj)} {σ : St} {H : Hp} {s : Shared} {d : Addr} {o : Obj}
end

/-- the keys of the locked dict at d, in their order -/
def Itk (d : Addr) (o : Obj) (kvs : List (Key × V)) : It :=
  ⟨fun i H => H d = some (.frz o (.dK kvs)) ∧ i < kvs.length, fun i H x H' => H' = H ∧ ∃ k v, kvs[i]? = some (k, v) ∧ x = kV k, fun i H => H d = some (.frz o (.dK kvs)) ∧ kvs.length ≤ i⟩
/-- .. of tuple keys: the key's own tuple -/
def Itkt (d : Addr) (o : Obj) (kvs : List (List Key × V)) : It :=
  ⟨fun i H => H d = some (.frz o (.dT kvs)) ∧ i < kvs.length, fun i H x H' => H' = H ∧ ∃ (k : List Key) (v : V) (q : Addr), kvs[i]? = some (k, v) ∧ x = .ref q ∧ H q = some (.tup (k.map kV)), fun i H => H d = some (.frz o (.dT kvs)) ∧ kvs.length ≤ i⟩
/-- the values -/
def Itd (d : Addr) (o : Obj) (kvs : List (Key × V)) : It :=
  ⟨fun i H => H d = some (.frz o (.dK kvs)) ∧ i < kvs.length, fun i H x H' => H' = H ∧ ∃ k, kvs[i]? = some (k, x), fun i H => H d = some (.frz o (.dK kvs)) ∧ kvs.length ≤ i⟩
/-- the pairs, each a new tuple -/
def Iti (d : Addr) (o : Obj) (kvs : List (Key × V)) : It :=
  ⟨fun i H => H d = some (.frz o (.dK kvs)) ∧ i < kvs.length, fun i H x H' => ∃ T k v, kvs[i]? = some (k, v) ∧ x = .ref T ∧ H T = none ∧ H' = upd H T (.tup [kV k, v]), fun i H => H d = some (.frz o (.dK kvs)) ∧ kvs.length ≤ i⟩
section
variable {P : Program} {w : World} {K : PySem.W.Frag} {tg : Expr} {d : Addr} {o : Obj} {es : Array DictEntry} {ep : Nat}
end

/-- the dict is locked (tLock, or by the caller) -/
def iKeys (td : TE) : TI := fun σ H R => td σ H fun x H1 => ∃ d o, x = .ref d ∧ ((∃ kvs, H1 d = some (.frz o (.dK kvs)) ∧ R (Itk d o kvs) H1) ∨ ∃ kvs, H1 d = some (.frz o (.dT kvs)) ∧ R (Itkt d o kvs) H1)
def iVals (td : TE) : TI := fun σ H R => td σ H fun x H1 => ∃ d o kvs, x = .ref d ∧ H1 d = some (.frz o (.dK kvs)) ∧ R (Itd d o kvs) H1
def iItems (td : TE) : TI := fun σ H R => td σ H fun x H1 => ∃ d o kvs, x = .ref d ∧ H1 d = some (.frz o (.dK kvs)) ∧ R (Iti d o kvs) H1
def iKeysM (td : TE) : TI := fun σ H R => td σ H fun x H1 => ∃ d o kvs, x = .ref d ∧ H1 d = some (.frz o (.dK kvs)) ∧ R (Itk d o kvs) H1
section
variable {X : Cx} {tg e : Expr} {td : TE} {apos cpos : Pos}
end

/-- the list at a as it stands at each turn, each item in a new pair -/
def Ite (K : PySem.W.Frag) (a : Addr) : It :=
  ⟨fun i H => ∃ (xs : List V) (x : V), SqL K H a xs ∧ xs[i]? = some x, fun i H v H' => ∃ T x, v = .ref T ∧ H T = none ∧ H' = upd H T (.tup [.int (i : Nat), x]) ∧ ∀ xs, SqL K H a xs → xs[i]? = some x, fun i H => ∃ xs : List V, SqL K H a xs ∧ xs.length ≤ i⟩
def iEnum (K : PySem.W.Frag) (ta : TA) : TI := fun σ H R => ta σ H fun vs H1 => ∃ a xs, vs = [.ref a] ∧ SqL K H1 a xs ∧ R (Ite K a) H1
/-- the lists at a and b as they stand at each turn, the items in new pairs -/
def Itz (K : PySem.W.Frag) (a b : Addr) : It :=
  ⟨fun i H => ∃ (xs ys : List V) (x y : V), SqL K H a xs ∧ SqL K H b ys ∧ xs[i]? = some x ∧ ys[i]? = some y,
    fun i H v H' => ∃ T x y, v = .ref T ∧ H T = none ∧ H' = upd H T (.tup [x, y]) ∧ (∀ xs, SqL K H a xs → xs[i]? = some x) ∧ ∀ ys, SqL K H b ys → ys[i]? = some y,
    fun i H => ∃ xs ys : List V, SqL K H a xs ∧ SqL K H b ys ∧ (xs.length ≤ i ∨ ys.length ≤ i)⟩
def iZip (K : PySem.W.Frag) (ta : TA) : TI := fun σ H R => ta σ H fun vs H1 => ∃ a b xs ys, vs = [.ref a, .ref b] ∧ SqL K H1 a xs ∧ SqL K H1 b ys ∧ R (Itz K a b) H1
end L2

section 
namespace Bits
open PySem PyProof.Rows

end Bits
end 

section 
namespace TL
open PySem PySem.Builtin PySem.Builtin.Str PySem.StrLaws

abbrev tl (x : Str) : List Nat := x.cps.toList
/-- S stands at the head of l -/
def pre (S l : List Nat) : Bool := l.take S.length == S
/-- l cut at each S from the left; k signs are still to be passed over -/
def spl (S : List Nat) : Nat → List Nat → List Nat → List (List Nat)
  | _, acc, [] => [acc]
  | 0, acc, c :: r => if pre S (c :: r) = true then acc :: spl S (S.length - 1) [] r else spl S 0 (acc ++ [c]) r
  | k + 1, acc, _ :: r => spl S k acc r
/-- what stands before the first S, and behind it -/
def par (S : List Nat) : List Nat → List Nat → Option (List Nat × List Nat)
  | _, [] => none
  | acc, c :: r => if pre S (c :: r) = true then some (acc, (c :: r).drop S.length) else par S (acc ++ [c]) r

/-- joined lists -/
def joinL (S : List Nat) : List (List Nat) → List Nat
  | [] => []
  | [p] => p
  | p :: q :: r => p ++ (S ++ joinL S (q :: r))
/-- the signs of a number -/
def numL (n : Nat) : List Nat := (Nat.toDigits 10 n).map Char.toNat
def wstep (st : List (List Nat) × List Nat) (c : Nat) : List (List Nat) × List Nat :=
  if Unicode.isSpace c = true then (if st.2 = [] then st else (st.1 ++ [st.2], [])) else (st.1, st.2 ++ [c])
def wfin (st : List (List Nat) × List Nat) : List (List Nat) := if st.2 = [] then st.1 else st.1 ++ [st.2]
end TL
end 

namespace L2
open PySem PySem.Spec PyProof.Rows

/-- a new list of texts, tracked -/
def rNewStrs (ys : List Str) : Hp → VK → Prop := fun H Q => ∀ p, H p = none → Q (.ref p) (upd H p (.lst (ys.map V.str)))

section
variable {X : Cx} {pins : List (Addr × Obj)} {σ : St} {H : Hp} {s : Shared} {Q : VK}
end

section
variable {X : Cx}

end

section
variable {X : Cx} {o e : Expr} {to te : TE}
def tM0 (r : V → List V → Hp → VK → Prop) (to : TE) : TE := fun σ H Q => to σ H fun x H1 => (∃ a, x = .str a) ∧ r x [] H1 Q
def tM1 (r : V → List V → Hp → VK → Prop) (to te : TE) : TE := fun σ H Q => to σ H fun x H1 => (∃ a, x = .str a) ∧ te σ H1 fun y H2 => r x [y] H2 Q
end
end L2

namespace L2
open PySem PySem.Spec PyProof.Rows

section
variable {X : Cx}
end

theorem IsPart.raw {v : Value} {o : Option Int} (p : IsPart v o) : ∃ l : Option (Int × Tok), v = partValue l ∧ l.map (·.1) = o := by
  cases p with
  | none => exact ⟨none, rfl, rfl⟩
  | int i t => exact ⟨some (i, t), rfl, rfl⟩

/-- a part, clipped, as the text's slice reckons it -/
def clipS (n d : Nat) : Option Int → Int
  | none => (d : Int)
  | some i => max 0 (min (if i < 0 then i + (n : Int) else i) (n : Int))
theorem clipS_eq (n d : Nat) (o : Option Int) : clipS n d o = ((HT.sIx n d o : Nat) : Int) := by
  cases o with
  | none => rfl
  | some v =>
    show max (0 : Int) (min (if v < 0 then v + (n : Int) else v) (n : Int)) = (((if v < 0 then (v + (n : Int)).toNat else min v.toNat n) : Nat) : Int)
    by_cases hv : v < 0
    · simp only [if_pos hv]
      omega
    · simp only [if_neg hv]
      omega
theorem sidx_clip (a b : Option Int) (n : Nat) : Builtin.Str.strSliceIndices a b 1 n = sliceRange (clipS n 0 a) (clipS n n b) 1 := by
  have h1 : ((1 : Int) > 0) = True := by simp
  cases a <;> cases b <;> first
    | rfl
    | (simp only [Builtin.Str.strSliceIndices, clipS, h1, if_true]; rfl)
    | simp [Builtin.Str.strSliceIndices, clipS]
theorem sidx (a b : Option Int) (n : Nat) : Builtin.Str.strSliceIndices a b 1 n = (List.range (HT.sIx n n b - HT.sIx n 0 a)).map (fun k => HT.sIx n 0 a + k) := by
  rw [sidx_clip, clipS_eq, clipS_eq]
  generalize HT.sIx n 0 a = p
  generalize HT.sIx n n b = q
  simp only [sliceRange, show ((1 : Int) > 0) = True from by simp, if_true]
  by_cases hlt : (p : Int) < q
  · have e3 : (((q : Int) - p + 1 - 1) / 1).toNat = q - p := by first | omega | (simp; done) | (simp; omega)
    simp only [hlt, if_true, e3]
    refine List.map_congr_left fun k _ => ?_
    omega
  · have : q - p = 0 := by omega
    simp [hlt, this]

/-- z[lo:hi] -/
def cutS (z : Str) (lo hi : Option Int) : Str :=
  ⟨((z.cps.toList.drop (HT.sIx z.length 0 lo)).take (HT.sIx z.length z.length hi - HT.sIx z.length 0 lo)).toArray⟩
theorem sliceText_cut (z : Str) (lo hi : Option Int) : PySem.StrLaws.sliceText z lo hi = cutS z lo hi := by
  have h1 : HT.sIx z.length 0 lo ≤ z.length := HT.sIx_le _ _ (Nat.zero_le _) _
  have h2 : HT.sIx z.length z.length hi ≤ z.length := HT.sIx_le _ _ (Nat.le_refl _) _
  have hp : HT.sIx z.length 0 lo ≤ max (HT.sIx z.length 0 lo) (HT.sIx z.length z.length hi) := Nat.le_max_left _ _
  have hq : max (HT.sIx z.length 0 lo) (HT.sIx z.length z.length hi) ≤ z.length := Nat.max_le.mpr ⟨h1, h2⟩
  have hd : max (HT.sIx z.length 0 lo) (HT.sIx z.length z.length hi) - HT.sIx z.length 0 lo = HT.sIx z.length z.length hi - HT.sIx z.length 0 lo := by omega
  have e : Builtin.Str.strSliceIndices lo hi 1 z.length =
      Builtin.Str.strSliceIndices (some ((HT.sIx z.length 0 lo : Nat) : Int)) (some ((max (HT.sIx z.length 0 lo) (HT.sIx z.length z.length hi) : Nat) : Int)) 1 z.length := by
    rw [PySem.StrLaws.strSliceIndices_plain hp hq, hd, sidx]
  have e2 : PySem.StrLaws.sliceText z lo hi =
      PySem.StrLaws.sliceText z (some ((HT.sIx z.length 0 lo : Nat) : Int)) (some ((max (HT.sIx z.length 0 lo) (HT.sIx z.length z.length hi) : Nat) : Int)) := by
    unfold PySem.StrLaws.sliceText
    rw [e]
  rw [e2, PySem.StrLaws.sliceText_nat z hp hq, hd]
  rfl
theorem cutS_length (z : Str) (lo hi : Option Int) : (cutS z lo hi).length ≤ z.length := by
  show (((z.cps.toList.drop (HT.sIx z.length 0 lo)).take (HT.sIx z.length z.length hi - HT.sIx z.length 0 lo)).toArray).size ≤ z.cps.size
  rw [List.size_toArray, List.length_take, List.length_drop, Array.length_toList]
  omega
def rSlS : V → Option Int → Option Int → Hp → VK → Prop := fun x lo hi H Q => ∃ z, x = .str z ∧ z.length ≤ sizeLine ∧ Q (.str (cutS z lo hi)) H
theorem sl_str {X : Cx} : SlR X rSlS := by
  intro pins s σ H x v vl vu lo hi sl Q I rx hs pl pu h
  obtain ⟨z, rfl, hz, q⟩ := h
  obtain ⟨t, rfl⟩ := rx
  obtain ⟨os, hos, hcs, hds⟩ := hs
  obtain ⟨l, rfl, rfl⟩ := IsPart.raw pl
  obtain ⟨u, rfl, rfl⟩ := IsPart.raw pu
  refine ⟨"str", _, F.slot_str_getitem.lookup, typeIs_str _ _ _, ?_⟩
  refine wpAny_getItem_str_slice (l := l) (u := u) (st := none) ⟨os, hos, hcs, hds⟩ rfl ?_
  have hl : (PySem.StrLaws.sliceText z (l.map (·.1)) (u.map (·.1))).length ≤ sizeLine := by
    rw [sliceText_cut]
    exact Nat.le_trans (cutS_length z _ _) hz
  rw [← sliceText_cut] at q
  unfold PySem.StrLaws.sliceText at q hl
  show Made.post (if ((1 : Int) == 1 && (Builtin.Str.strSliceIndices (l.map (·.1)) (u.map (·.1)) 1 z.length).length == z.length) = true then Made.val (.str z t)
    else Made.str ⟨((Builtin.Str.strSliceIndices (l.map (·.1)) (u.map (·.1)) 1 z.length).filterMap (z.cps[·]?)).toArray⟩) (EP X pins σ Q) s
  by_cases c : ((1 : Int) == 1 && (Builtin.Str.strSliceIndices (l.map (·.1)) (u.map (·.1)) 1 z.length).length == z.length) = true
  · rw [if_pos c] at q ⊢
    exact ⟨.str z, H, I, ⟨t, rfl⟩, q⟩
  · rw [if_neg c] at q hl ⊢
    exact ⟨hl, .str _, H, I.tok _, ⟨_, rfl⟩, q⟩
end L2

namespace Att
open PySem PySem.W PySem.Calls PyProof.Rows

theorem ints_of_wellAll {P : Params} {h : Heap} : ∀ (ns : List Int) (vs : List Value), WellAll P h vs (ns.map WData.int) → IntsAre vs ns := by
  intro ns
  induction ns with
  | nil =>
    intro vs w
    rw [List.map_nil] at w
    cases w
    exact .nil
  | cons n ns ih =>
    intro vs w
    rw [List.map_cons] at w
    cases w with
    | cons a b =>
      cases a
      exact .cons _ _ (ih _ b)

theorem script_of {l : OpenLaw} {n : Nat} (hn : l.most = some n) {P : Params} {h : Heap} {args : List WData} {vals : List Value}
    (hpre : l.row.toRowW.claim.pre args = true) (hwl : WellAll P h vals args) :
    ∃ a vs ns, vals = [Value.ref a] ∧ args = [WData.list (ns.map WData.int)] ∧ h.get? a = some { cls := .type "list", data := .seq vs.toArray } ∧ IntsAre vs ns ∧ ns.length ≤ n := by
  have hsh : WShape.hasAll [] args [.list .int] = true := (pre_splitW hpre).1
  have hc : l.pre.holds [] { args := args } = true := (pre_splitW hpre).2
  obtain ⟨d, r, rfl, h1, h2⟩ := hasAllW_cons hsh
  obtain rfl := hasAllW_nil h2
  obtain ⟨xs, rfl, h3⟩ := hasW_list h1
  obtain ⟨ns, rfl⟩ := items_int h3
  have hlen : ns.length ≤ n := by
    unfold OpenLaw.pre at hc
    have h4 : (WTm.not (.lt (.lit (.int (n : Int))) (.len (.arg 0)))).holds [] { args := [.list (ns.map .int)] } = true := by
      have h4 := (holds_andW hc).1
      rw [hn] at h4
      exact h4
    have h5 := condW_of h4 (w_not (w_lt w_lit (w_len_list (w_arg rfl))))
    rw [List.length_map] at h5
    refine Nat.le_of_not_lt fun q => ?_
    have q' : (n : Int) < ((ns.length : Nat) : Int) := by omega
    first
      | (rw [decide_eq_true q'] at h5; exact absurd h5 (by decide))
      | (simp at h5; omega)
  cases hwl with
  | cons w1 w2 =>
    cases w2
    cases w1 with
    | list ho hall => exact ⟨_, _, ns, rfl, rfl, ho, ints_of_wellAll ns _ hall, hlen⟩

theorem post_true (l : OpenLaw) (args : List WData) : l.row.toRowW.claim.post args (.bool true) args = true :=
  postW_of (r := l.row.toRowW) (X := (true == true))
    (show WShape.has [] (.bool true) .bool = true by first | rfl | decide | simp [WShape.has, WShape.arms, WShape.armsAll])
    (show (WTm.eq .res (.lit (.bool true))).value [] { args := args, res := some (.bool true), after := args } = some (.bool (true == true)) from w_eq_bool (w_res rfl) w_lit) rfl

/-- the same from a codeAny of the CALL (for a layer whose function contracts speak of calls) -/
theorem attach_call {l : OpenLaw} {n : Nat} {q : Program} {loose : List Str} {XP : (Str → Option Value) → Heap → Prop} {YP : World → Heap → Prop} {d : DefRec}
    (hn : l.most = some n) (hdf : d.params.defaults = [])
    (call : ∀ (w : World) (s₀ s₁ : Shared) (mg mb : Str → Option Value) (fa : Addr) (o : Obj) (pm cd doc : Value) (a : Addr) (vs : List Value) (ns : List Int),
      Ground q loose [] XP w s₀ mg mb s₁.heap → YP w s₁.heap →
      s₁.heap.get? fa = some o → o.data = .func (docDef d.name d.params d.body d.scope pm cd doc) → s₁.heap.CodeRec cd d.name → mg d.name = some (.ref fa) →
      s₁.heap.get? a = some { cls := .type "list", data := .seq vs.toArray } → IntsAre vs ns → ns.length ≤ n → s₁.gens = #[] →
      codeAny (model l.prog w) callerA (.call (.ref fa) ⟨[.ref a], []⟩) (fun r s' => r = .ok (.ret (.bool true)) ∧ OldK s₁.heap s'.heap ∧ s'.os = s₁.os ∧ AllBare s'.gens) s₁) :
    WalkO q loose XP YP l.row.toRowW d [] (fun f vs => PySem.call f vs) := by
  intro w s₀ s₁ mg mb G Y fa o pm cd doc dV kV ho hd hcd hD hmg hg args vals as hpre hlay hrd hwl hlo
  obtain rfl : dV = .none := Dflts.none hD hdf
  obtain rfl : kV = .none := Dflts.noKw hD
  obtain ⟨a, vs, ns, rfl, rfl, hobj, hints, hlen⟩ := script_of hn hpre hwl
  refine enter_call (codeAny_mono (call w s₀ s₁ mg mb fa o pm cd doc a vs ns G Y ho (fd_plain hd) hcd hmg hobj hints hlen hg) fun r s' hq => ?_)
  obtain ⟨rfl, h2, h3, h4⟩ := hq
  exact ⟨.inl ⟨.bool true, .bool true, [], rfl, fun _ => rfl, .bool true, post_true l _, fun _ => ⟨List.Pairwise.nil, fun _ hm => (nomatch hm)⟩⟩, h2, h3, h4⟩

section
variable {prog : Program} {w : World} {A : Around} {E : Value → Shared → Prop} {s : Shared} {K : Frag}

def noObjs (h : Heap) : Heap := { h with objs := #[] }
def ledger (h : Heap) (L d : Addr) : List (Addr × Obj) := (List.range h.objs.size).filterMap fun a => if a = L ∨ a = d then none else (h.get? a).map fun o => (a, o)
end
end Att

namespace L2
open PySem PySem.Spec PyProof.Rows

theorem vals_ints : ∀ {vs : List Value} {ns : List Int}, IntsAre vs ns → Vals (ns.map V.int) vs
  | _, _, .nil => .nil
  | _, _, .cons n t h => .cons ⟨t, rfl⟩ (vals_ints h)

/-- nothing is tracked but the script, known to the object (or it is an object of the module) -/
def Only (H : Hp) : Prop := ∀ b, H b = none ∨ ∃ o xs, H b = some (.frz o (.lst xs))

end L2

namespace L2
open PySem PySem.Spec PyProof.Rows

abbrev KOf {K : PySem.W.Frag} {h : Heap} (_ : K.In h) : PySem.W.Frag := K

end L2

namespace L2
open PySem PySem.Spec PyProof.Rows

/-- the j-th statement of a class's body -/
def inClass (s : Stmt) (j : Nat) : Stmt := match s with
  | .ClassDef _ _ _ body _ _ _ _ _ _ _ => body.getD j (.Pass ⟨0, 0, 0, 0⟩)
  | _ => .Pass ⟨0, 0, 0, 0⟩
def defArgs (s : Stmt) : Arguments := match s with
  | .FunctionDef _ a _ _ _ _ _ _ _ _ => a
  | _ => { posonlyargs := [], args := [], vararg := none, kwonlyargs := [], kw_defaults := [], kwarg := none, defaults := [] }
def defBody (s : Stmt) : List Stmt := match s with
  | .FunctionDef _ _ b _ _ _ _ _ _ _ => b
  | _ => []
def defScope (s : Stmt) : Scope := match s with
  | .FunctionDef _ _ _ _ _ _ sc _ _ _ => sc
  | _ => { kind := .function, names := [], isGenerator := false, isCoroutine := false }

abbrev CX0 : CXT := fun _ _ _ _ _ _ => False
abbrev E0 : XK := fun _ _ _ => False
structure Fun (K : PySem.W.Frag) (x qual : Str) (st : Stmt) (f : Addr) (fd : FuncData) : Prop where
  ex : ∃ (oc : Value) (od : Option Addr) (kV doc pm : Value) (an : Option Addr) (cdv ct : Value) (osl : Array (Option Value)),
    fd = PySem.W.fnOf x qual (defArgs st) (defBody st) (defScope st) .none kV doc pm an cdv ct ∧ K.lookup f = some ⟨oc, od, .func fd, osl⟩ ∧ PySem.W.codeIn K cdv qual = true
  kp : PySem.W.keepIn K (.ref f) = true
section
variable {P : Program} {w : World} {K : PySem.W.Frag} {mg : Str → Option Value} {base : Heap}
/-- THE RULE for a def: its body as a term of rules, and the reading of that term -/
theorem Fun.ok {x qual : Str} {st : Stmt} {f : Addr} {fd : FuncData} {N ps : List Str} {k : Nat} {sp : Sp} (F : Fun K x qual st f fd) (S : FnScope N ps (defScope st)) (len : ∀ vs H Q E, sp vs H Q E → vs.length = ps.length)
    (hbody : ∀ (cdv : Value) (A : Around) (outer : List Env) (s : Shared) (H : Hp) (vs : List V) (Q : VK) (E : XK), Room k (A.deeper (envOfC qual (defScope st) s.heap.objs.size f cdv)) → sp vs H Q E →
      ∃ t, PSs (cxOf CX0 P w K mg base N qual (defScope st) f cdv A outer s H E).nox (defBody st) t ∧ t { nx := fun _ H' => Q .non H', rt := Q } (start N vs) H) : FnOk P w K mg base CX0 (k + 1) f fd ps sp := by
  obtain ⟨oc, od, kV, doc, pm, an, cdv, ct, osl, rfl, lk, hcd⟩ := F.ex
  refine fn_of lk hcd S len fun A outer s H vs Q E hr hsp => ?_
  obtain ⟨t, h, q⟩ := hbody cdv A outer s H vs Q E hr hsp
  exact ⟨t, h.nox, q⟩
/-- how its arguments bind (no defaults): h is «fun _ _ _ _ _ _ us hl => match us, hl with | [_, _], _ => rfl», one _ a parameter -/
theorem Fun.binds {x qual : Str} {st : Stmt} {f : Addr} {fd : FuncData} {ps : List Str} (F : Fun K x qual st f fd)
    (h : ∀ (kV doc pm : Value) (an : Option Addr) (cdv ct : Value) (us : List Value), us.length = ps.length → bindArgs (PySem.W.fnOf x qual (defArgs st) (defBody st) (defScope st) .none kV doc pm an cdv ct) ⟨us, []⟩ = pure (ps.zip us)) : Binds K fd ps [] := by
  obtain ⟨oc, od, kV, doc, pm, an, cdv, ct, osl, rfl, lk, hcd⟩ := F.ex
  exact .all (h kV doc pm an cdv ct)
theorem fun_mk {x qual : Str} {st : Stmt} {f : Addr} {oc : Value} {od an : Option Addr} {osl : Array (Option Value)} {kV doc pm cdv ct : Value} (l : K.lookup f = some ⟨oc, od, .func (PySem.W.fnOf x qual (defArgs st) (defBody st) (defScope st) .none kV doc pm an cdv ct), osl⟩)
    (c : PySem.W.codeIn K cdv qual = true) (k : PySem.W.keepIn K (.ref f) = true) : Fun K x qual st f (PySem.W.fnOf x qual (defArgs st) (defBody st) (defScope st) .none kV doc pm an cdv ct) := ⟨⟨oc, od, kV, doc, pm, an, cdv, ct, osl, rfl, l, c⟩, k⟩
end
section
variable {X : Cx}
theorem pv (i : Nat) {x : Str} {pos : Pos} (hN : X.N[i]? = some x := by rfl) (hv : Vis X.env.scope x := by first | exact Or.inl rfl | exact Or.inr (Or.inl rfl) | exact Or.inr (Or.inr rfl)) (hd : (x == ("__debug__" : Str)) = false := by decide)
    (hcd : (x == ("__classdict__" : Str)) = false := by decide) : PE X (.Name x pos) (tVar i) := pe_var hN hv hd hcd
/-- len of a dict -/
theorem call_lenD : CallR X (.builtin "len") (fun xs H Q => ∃ a kvs, xs = [V.ref a] ∧ H a = some (.dK kvs) ∧ Q (.int kvs.length) H) := by
  intro pins s σ H xs us Q I r h
  obtain ⟨a, kvs, rfl, ha, q⟩ := h
  obtain ⟨u, rfl, ru⟩ := vals1 r
  cases ru
  exact d_len I (.inl ha) fun t s' I' => ⟨.int kvs.length, H, I', ⟨t, rfl⟩, q⟩
end

/-- all that was tracked is as it was -/
def Same (H H' : Hp) : Prop := ∀ b o, H b = some o → H' b = some o
theorem Same.refl (H : Hp) : Same H H := fun _ _ h => h
theorem Same.trans {H H1 H2 : Hp} (a : Same H H1) (b : Same H1 H2) : Same H H2 := fun c o h => b c o (a c o h)
theorem Same.free {H H' : Hp} (e : Same H H') {l : Addr} (h : H' l = Option.none) : H l = Option.none := by
  cases q : H l with
  | none => rfl
  | some o =>
    rw [e l o q] at h
    cases h
theorem Same.seq {K : PySem.W.Frag} {H H' : Hp} {a : Addr} {xs : List V} (e : Same H H') (h : SqL K H a xs) : SqL K H' a xs := by
  rcases h with (h | ⟨o, h⟩) | h
  · exact .inl (.inl (e _ _ h))
  · exact .inl (.inr ⟨o, e _ _ h⟩)
  · exact .inr h

section
variable {κ : Type} [DecidableEq κ]
end
/-- a new instance and its __init__ leave all that was tracked as it was -/
theorem Same.made {H H1 : Hp} {x dx C : Addr} (nx : H x = Option.none) (nd : H dx = Option.none) (k : ∀ b o, (upd (upd H dx (.own x)) x (.ins C dx [])) b = some o → b ≠ x → H1 b = some o) : Same H H1 := fun b o e =>
  k b o (by rw [upd_ne (ne_of_none e nx), upd_ne (ne_of_none e nd)]; exact e) (ne_of_none e nx)
end L2
set_option Elab.async false
set_option linter.all false
set_option maxRecDepth 100000
namespace L2
open PySem PySem.Spec PyProof.Rows
section
variable {prog : Program} {w : World} {A : Around} {E : Value → Shared → Prop} {s : Shared}
end
section
variable {X : Cx} {pos : Pos}
/-- (a, b, ..) = a list of that length -/
def gLst (K : PySem.W.Frag) (n : Nat) (t : TGs) : TG := fun v σ H Q => ∃ a xs, v = .ref a ∧ SqL K H a xs ∧ xs.length = n ∧ t xs σ H Q
theorem cr_isinst : CallR X (.builtin "isinstance") (fun xs H Q => ∃ x n t b, xs = [x, .ty n] ∧ TyOf X.K H x t ∧ PySem.W.kitOne X.K t (.type n) = some b ∧ Q (.bl b) H) := by
  intro pins s σ H xs us Q I r h
  obtain ⟨x, n, t, b, rfl, ty, e, q⟩ := h
  obtain ⟨u, v, rfl, ru, rv⟩ := vals2 r
  cases rv
  exact isinst_ok I ru ty e fun tk => ⟨.bl b, H, I.tok tk, rfl, q⟩

def CMulB (i j : Int) : Prop := i.natAbs < 2 ^ 4000 ∧ j.natAbs < 2 ^ 4000
def CPowB (i j : Int) : Prop := 0 ≤ j ∧ j ≤ 100 ∧ i.natAbs < 2 ^ 4000
def CDivB (i j : Int) : Prop := 0 < j ∧ j.natAbs < 2 ^ 8000
theorem op_mulB : OpR X (binaryOp .Mult) (rI CMulB fun i j => .int (i * j)) := opI fun i j _ _ _ _ _ hc q =>
  mul_int q (IntMulOk.of_le (intBits_le_iff.mpr hc.1) (intBits_le_iff.mpr hc.2) (by decide))
theorem op_powB : OpR X (binaryOp .Pow) (rI CPowB fun i j => .int (i ^ j.toNat)) := opI fun i j _ _ _ _ _ hc q =>
  pow_int hc.1 (by
    have h1 : Builtin.Int.intBits i ≤ 4000 := intBits_le_iff.mpr hc.2.2
    have h2 := hc.2.1
    have h0 := hc.1
    have h3 : (Builtin.Int.intBits i : Int) * j ≤ 4000 * j := Int.mul_le_mul_of_nonneg_right (by omega) h0
    have h4 : (4000 : Int) * j ≤ 4000 * 100 := by omega
    exact Int.le_trans h3 (Int.le_trans h4 (by decide))) q
theorem op_fdivB : OpR X (binaryOp .FloorDiv) (rI CDivB fun i j => .int (i / j)) := opI fun i j _ _ _ _ _ hc q => by
  have h1 : (0 : Int) < j := hc.1
  refine floordiv_int (by omega) (by rw [Int.fdiv_eq_ediv_of_nonneg i (by omega)]; exact q) (.inl (PyProof.noPylong_of_log2 ?_))
  have h2 := hc.2
  have hne : j.natAbs ≠ 0 := by omega
  exact Nat.lt_of_lt_of_le ((Nat.log2_lt hne).mpr h2) (by decide)

def tStar (K : PySem.W.Frag) (ta : TE) (tr : TA) : TA := fun σ H Q => ta σ H fun x H1 => ∃ a ys, x = .ref a ∧ SqL K H1 a ys ∧ tr σ H1 fun xs H2 => Q (ys ++ xs) H2
theorem pa_star {e : Expr} {es : List Expr} {te : TE} {t : TA} {p : Pos} (ha : PE X e te) (hr : PA X es t) (hs : starEach (.Starred e p :: es) X.env = (true, eval e X.env) :: starEach es X.env := by rfl) : PA X (.Starred e p :: es) (tStar X.K te t) := by
  intro pos pins s σ H Q I h
  refine PySem.W.items_star (thn (ha pins s σ H _ I h) fun u s1 ⟨x, H1, I1, r1, a, ys, e1, hq, q1⟩ => ?_) hs
  subst e1
  cases r1
  obtain ⟨its, rv, ⟨o, n, ho, hc, hd0, hd⟩, hz⟩ := I1.list hq
  have hlen := rv.length
  have hty : s1.TypeIs (.ref a) "list" := ⟨o, ho, hc⟩
  unfold PySem.W.StarOf notIterableAtAll
  refine wpAny_bind (wpAny_specialOf hty PySem.F.slot_list_iter.lookup (wpAny_pure ⟨rfl, ?_⟩))
  refine wpAny_collect_seq a (.inl rfl) ho hc hd (fun h' hk => ?_) (by simp only [List.size_toArray]; omega)
  have I2 : Inv X pins σ H1 { s1 with heap := h' } := I1.kept (t' := s1.toks) hk
  exact thn (hr pos pins _ σ H1 _ I2 q1) fun us s2 ⟨xs, H2, I3, r2, q2⟩ => ⟨ys ++ xs, H2, I3, by simpa using rv.append r2, q2⟩
end

theorem upd_new {H : Hp} {a b : Addr} {o u : HO} (hn : H a = none) (h : H b = some o) : upd H a u b = some o := by rw [upd_ne (ne_of_none h hn)]; exact h
theorem Same.new {H H' : Hp} {a : Addr} {u : HO} (s : Same H H') (hn : H' a = none) : Same H (upd H' a u) := fun b o h => upd_new hn (s b o h)
theorem Same.one {H : Hp} {a : Addr} {u : HO} (hn : H a = none) : Same H (upd H a u) := fun b o h => upd_new hn h
theorem Same.get {H H' : Hp} {b : Addr} {o : HO} (s : Same H H') (h : H b = some o) : H' b = some o := s b o h
/-- an own new object is changed: what was ahead of it stays -/
theorem Same.own {H H' : Hp} {a : Addr} {u : HO} (s : Same H H') (hn : H a = none) : Same H (upd H' a u) := fun b o h => by
  rw [upd_ne (ne_of_none h hn)]; exact s b o h
theorem Same.seqT {K : PySem.W.Frag} {H H' : Hp} {a : Addr} {xs : List V} (e : Same H H') (h : SqT K H a xs) : SqT K H' a xs := by
  rcases h with (h | ⟨o, h⟩) | h
  · exact .inl (.inl (e _ _ h))
  · exact .inl (.inr ⟨o, e _ _ h⟩)
  · exact .inr h
mutual
theorem Same.dp {K : PySem.W.Frag} {H H' : Hp} (s : Same H H') : ∀ (d : PyData) (v : V), Dp K H v d → Dp K H' v d
  | .none, _, h => by cases h; exact .non
  | .bool b, _, h => by cases h; exact .bl b
  | .int i, _, h => by cases h; exact .int i
  | .str x, _, h => by cases h; exact .str x
  | .list ds, _, h => by
    cases h with
    | lst hs ha => exact .lst (s.seq hs) (Same.dpAll s ds _ ha)
  | .tuple ds, _, h => by
    cases h with
    | tup hs ha => exact .tup (s.seqT hs) (Same.dpAll s ds _ ha)
  | .dict _, _, h => by cases h
theorem Same.dpAll {K : PySem.W.Frag} {H H' : Hp} (s : Same H H') : ∀ (ds : List PyData) (vs : List V), DpAll K H vs ds → DpAll K H' vs ds
  | [], _, h => by cases h; exact .nil
  | d :: ds, _, h => by
    cases h with
    | cons h1 h2 => exact .cons (Same.dp s d _ h1) (Same.dpAll s ds _ h2)
end
end L2
set_option Elab.async false
set_option linter.all false
set_option maxRecDepth 100000
namespace L2
open PySem PySem.Spec PyProof.Rows
inductive Kd (H : Hp) : V → String → Prop
  | non : Kd H .non "NoneType"
  | bl (b : Bool) : Kd H (.bl b) "bool"
  | int (i : Int) : Kd H (.int i) "int"
  | str (x : Str) : Kd H (.str x) "str"
  | lst {a : Addr} {xs : List V} (e : H a = some (.lst xs)) : Kd H (.ref a) "list"
  | tup {a : Addr} {xs : List V} (e : H a = some (.tup xs)) : Kd H (.ref a) "tuple"
theorem Kd.ty {K : PySem.W.Frag} {H : Hp} {v : V} {n : String} (h : Kd H v n) : TyOf K H v (.type n) := by
  cases h with
  | non => exact .non
  | bl b => exact .bl b
  | int i => exact .int i
  | str x => exact .str x
  | lst e => exact .lst e
  | tup e => exact .tup e
def kitB (n c : String) : Bool := n == c || (n == "bool" && c == "int")
theorem Same.kd {H H' : Hp} (s : Same H H') {v : V} {n : String} (h : Kd H v n) : Kd H' v n := by
  cases h with
  | non => exact .non
  | bl b => exact .bl b
  | int i => exact .int i
  | str x => exact .str x
  | lst e => exact .lst (s _ _ e)
  | tup e => exact .tup (s _ _ e)
mutual
inductive Dh (H : Hp) : V → PyData → Prop
  | non : Dh H .non .none
  | bl (b : Bool) : Dh H (.bl b) (.bool b)
  | int (i : Int) : Dh H (.int i) (.int i)
  | str (x : Str) : Dh H (.str x) (.str x)
  | lst {a : Addr} {xs : List V} {ds : List PyData} : H a = some (.lst xs) → DhAll H xs ds → Dh H (.ref a) (.list ds)
  | tup {a : Addr} {xs : List V} {ds : List PyData} : H a = some (.tup xs) → DhAll H xs ds → Dh H (.ref a) (.tuple ds)
inductive DhAll (H : Hp) : List V → List PyData → Prop
  | nil : DhAll H [] []
  | cons {v : V} {vs : List V} {d : PyData} {ds : List PyData} : Dh H v d → DhAll H vs ds → DhAll H (v :: vs) (d :: ds)
end
mutual
theorem Dh.dp {K : PySem.W.Frag} {H : Hp} : ∀ (d : PyData) (v : V), Dh H v d → Dp K H v d
  | .none, _, h => by cases h; exact .non
  | .bool b, _, h => by cases h; exact .bl b
  | .int i, _, h => by cases h; exact .int i
  | .str x, _, h => by cases h; exact .str x
  | .list ds, _, h => by
    cases h with
    | lst hs ha => exact .lst (SqL.of hs) (Dh.dpAll ds _ ha)
  | .tuple ds, _, h => by
    cases h with
    | tup hs ha => exact .tup (SqT.of hs) (Dh.dpAll ds _ ha)
  | .dict _, _, h => by cases h
theorem Dh.dpAll {K : PySem.W.Frag} {H : Hp} : ∀ (ds : List PyData) (vs : List V), DhAll H vs ds → DpAll K H vs ds
  | [], _, h => by cases h; exact .nil
  | d :: ds, _, h => by
    cases h with
    | cons h1 h2 => exact .cons (Dh.dp d _ h1) (Dh.dpAll ds _ h2)
end
mutual
theorem Same.dh {H H' : Hp} (s : Same H H') : ∀ (d : PyData) (v : V), Dh H v d → Dh H' v d
  | .none, _, h => by cases h; exact .non
  | .bool b, _, h => by cases h; exact .bl b
  | .int i, _, h => by cases h; exact .int i
  | .str x, _, h => by cases h; exact .str x
  | .list ds, _, h => by
    cases h with
    | lst hs ha => exact .lst (s _ _ hs) (Same.dhAll s ds _ ha)
  | .tuple ds, _, h => by
    cases h with
    | tup hs ha => exact .tup (s _ _ hs) (Same.dhAll s ds _ ha)
  | .dict _, _, h => by cases h
theorem Same.dhAll {H H' : Hp} (s : Same H H') : ∀ (ds : List PyData) (vs : List V), DhAll H vs ds → DhAll H' vs ds
  | [], _, h => by cases h; exact .nil
  | d :: ds, _, h => by
    cases h with
    | cons h1 h2 => exact .cons (Same.dh s d _ h1) (Same.dhAll s ds _ h2)
end
theorem DhAll.get {H : Hp} : ∀ {vs : List V} {ds : List PyData}, DhAll H vs ds → ∀ (i : Nat), i < ds.length → ∃ v, vs[i]? = some v ∧ Dh H v (ds.getD i .none)
  | _, _, .nil, i, h => by simp at h
  | _, _, .cons h1 h2, 0, _ => ⟨_, rfl, h1⟩
  | _, _, .cons h1 h2, i + 1, h => by
    obtain ⟨v, e, r⟩ := DhAll.get h2 i (by simpa using h)
    exact ⟨v, by simpa using e, by simpa using r⟩
def kindD : PyData → String
  | .none => "NoneType" | .bool _ => "bool" | .int _ => "int" | .str _ => "str" | .list _ => "list" | .tuple _ => "tuple" | .dict _ => "dict"
theorem Dh.kd {H : Hp} {v : V} {d : PyData} (h : Dh H v d) : Kd H v (kindD d) := by
  cases h with
  | non => exact .non
  | bl b => exact .bl b
  | int i => exact .int i
  | str x => exact .str x
  | lst e _ => exact .lst e
  | tup e _ => exact .tup e
theorem getD_appL {α : Type} {xs ys : List α} (d : α) (j : Nat) (h : j < xs.length) : (xs ++ ys).getD j d = xs.getD j d := by
  rw [List.getD_eq_getElem?_getD, List.getD_eq_getElem?_getD, List.getElem?_append_left h]
theorem getD_appR {α : Type} {xs ys : List α} (d : α) (j : Nat) (h : xs.length ≤ j) : (xs ++ ys).getD j d = ys.getD (j - xs.length) d := by
  rw [List.getD_eq_getElem?_getD, List.getD_eq_getElem?_getD, List.getElem?_append_right h]
def stirN (c k : Int) : Int := (c % 10 ^ 60 + 7919 * k + 1) * 27182818284590452353602874713527 % 170141183460469231731687303715884105727
def stir (c k : Int) : Int := (stirN c k ^ 5 + 48271 * k) ^ 3 % 162259276829213363391578010288127 / 7
def drSt (c : Int) (sizes : List Int) : Nat → List Int × Int
  | 0 => ([], c)
  | i + 1 => if c < 10 ^ 18 ∨ (drSt c sizes i).2 = 0 then ((drSt c sizes i).1 ++ [stir c i % sizes.getD i 1], (drSt c sizes i).2)
      else ((drSt c sizes i).1 ++ [(drSt c sizes i).2 % sizes.getD i 1], (drSt c sizes i).2 / sizes.getD i 1)
def drawn (c : Int) (sizes : List Int) : List Int := (drSt c sizes sizes.length).1
theorem drSt_len (c : Int) (sizes : List Int) : ∀ i, (drSt c sizes i).1.length = i
  | 0 => rfl
  | i + 1 => by
    have ih := drSt_len c sizes i
    unfold drSt
    split <;> simp [ih]
theorem drawn_len (c : Int) (sizes : List Int) : (drawn c sizes).length = sizes.length := drSt_len c sizes _
theorem drSt_in (c : Int) (sizes : List Int) (hs : ∀ i, i < sizes.length → 0 < sizes.getD i 1) : ∀ i, i ≤ sizes.length → ∀ j, j < i → 0 ≤ (drSt c sizes i).1.getD j 0 ∧ (drSt c sizes i).1.getD j 0 < sizes.getD j 1
  | 0, _, j, hj => by omega
  | i + 1, hi, j, hj => by
    have ih := drSt_in c sizes hs i (by omega)
    have hl := drSt_len c sizes i
    have hp := hs i (by omega)
    by_cases hji : j < i
    · have h := ih j hji
      unfold drSt
      split
      · rw [getD_appL _ _ (by omega)]; exact h
      · rw [getD_appL _ _ (by omega)]; exact h
    · have e : j = i := by omega
      subst e
      unfold drSt
      split
      · rw [getD_appR _ _ (by omega), hl, Nat.sub_self]
        exact ⟨Int.emod_nonneg _ (by omega), Int.emod_lt_of_pos _ hp⟩
      · rw [getD_appR _ _ (by omega), hl, Nat.sub_self]
        exact ⟨Int.emod_nonneg _ (by omega), Int.emod_lt_of_pos _ hp⟩
theorem drawn_in (c : Int) (sizes : List Int) (hs : ∀ i, i < sizes.length → 0 < sizes.getD i 1) (j : Nat) (hj : j < sizes.length) : 0 ≤ (drawn c sizes).getD j 0 ∧ (drawn c sizes).getD j 0 < sizes.getD j 1 :=
  drSt_in c sizes hs _ (Nat.le_refl _) j hj
theorem stirN_in (c k : Int) : 0 ≤ stirN c k ∧ stirN c k < 170141183460469231731687303715884105727 :=
  ⟨Int.emod_nonneg _ (by decide), Int.emod_lt_of_pos _ (by decide)⟩
end L2
namespace L2
open PySem PySem.Spec PyProof.Rows
def constV : Expr → Option V
  | .Constant (.int i) _ _ => some (.int i)
  | .Constant (.bool b) _ _ => some (.bl b)
  | .Constant (.str x) _ _ => some (.str x)
  | .Constant .none _ _ => some .non
  | _ => none
def constVs : List Expr → Option (List V)
  | [] => some []
  | e :: es => match constV e, constVs es with
    | some v, some vs => some (v :: vs)
    | _, _ => none
def tK (vs : List V) : TA := fun _ H Q => Q vs H
theorem pe_const {X : Cx} {e : Expr} {v : V} (h : constV e = some v) : PE X e (tC v) := by
  unfold constV at h
  split at h
  · cases h; exact pe_int
  · cases h; exact pe_bl
  · cases h; exact pe_str
  · cases h; exact pe_non
  · cases h
theorem star_const {e : Expr} {es : List Expr} {env : Env} {v : V} (h : constV e = some v) : starEach (e :: es) env = (false, eval e env) :: starEach es env := by
  unfold constV at h
  split at h
  · rfl
  · rfl
  · rfl
  · rfl
  · cases h
theorem pa_consts {X : Cx} : ∀ {es : List Expr} {vs : List V}, constVs es = some vs → PA X es (tK vs)
  | [], _, h => by cases h; exact pa_nil
  | e :: es, _, h => by
    unfold constVs at h
    split at h
    · rename_i v vs h1 h2
      cases h
      exact pa_cons (pe_const h1) (pa_consts h2) (star_const h1)
    · cases h
end L2
namespace L2
open PySem PySem.Spec PyProof.Rows
end L2
namespace L2
open PySem PySem.Spec PyProof.Rows
section
variable {X : Cx} {pos : Pos}
theorem pa_kk {es : List Expr} (vs : List V) (h : constVs es = some vs) : PA X es (tK vs) := pa_consts h
theorem pgn (i : Nat) {x : Str} (hN : X.N.Nodup) (hi : X.N[i]? = some x) (hx : Loc X.env.scope x) (hf : X.fn x = true ∨ X.env.scope.names.lookup x = some .local := by first | exact .inl rfl | exact .inr rfl | assumption) : PG X (.Name x pos) (gName i) := pg_name hN hi hx hf
theorem psn (i : Nat) {x : Str} {e : Expr} {te : TE} {pos' : Pos} (hN : X.N.Nodup) (hi : X.N[i]? = some x) (hx : Loc X.env.scope x) (he : PE X e te) (hs : swapsWith e (some (.Name x pos')) pos.line X.env = pure false := by rfl) (hf : X.fn x = true ∨ X.env.scope.names.lookup x = some .local := by first | exact .inl rfl | exact .inr rfl | assumption) :
    PS X (.Assign [.Name x pos'] e pos) (tAsg te (gName i)) := ps_set hN hi hx he hs hf
theorem pen (v : V) {x : Str} {u : Value} (hg : Gl X x) (hm : X.mg x = none) (hv : bootBuiltins x = some u) (r : RelV v u) (hn : x ≠ "__name__" := by decide) (hd : (x == ("__debug__" : Str)) = false := by decide) : PE X (.Name x pos) (tC v) := pe_bltn hg hm hv r hn hd
end
end L2
namespace L2
open PySem PySem.Spec PyProof.Rows
section
variable {X : Cx}
theorem pe_lcn (own : List (Str × Nat)) (g : TG) {elt tg iter : Expr} {ifs : List Expr} {scope : Scope} {pos : Pos} {wi : TI} {tt : TT} {te : TE} (hc : X.calm = true) (hN : X.N.Nodup) (hi : PI X tg iter wi) (ok : BlkOk X.N X.env.scope scope own)
    (hg : ∀ (s : Shared) (H : Hp) (C : Addr) (cl : List (Str × Addr)) (fp : List Addr), PG (X.blk s H scope (compEnvC scope cl C X.env) fp) tg g) (ht : ∀ (s : Shared) (H : Hp) (C : Addr) (cl : List (Str × Addr)) (fp : List Addr), PTs (X.blk s H scope (compEnvC scope cl C X.env) fp) ifs tt)
    (he : ∀ (s : Shared) (H : Hp) (C : Addr) (cl : List (Str × Addr)) (fp : List Addr), PE (X.blk s H scope (compEnvC scope cl C X.env) fp) elt te) (hs : ∀ x, foldedSetIterable iter X.env x = pure x := by intro _; rfl) :
    PE X (.ListComp elt [⟨tg, iter, ifs, 0⟩] scope pos) (tLc wi g tt te (own.map (·.2))) := pe_lc hc hN hi ok hg ht he hs
theorem ps_setLcn (i : Nat) (own : List (Str × Nat)) (g : TG) {y : Str} {py : Pos} {elt tg iter : Expr} {ifs : List Expr} {scope : Scope} {pos spos : Pos} {wi : TI} {tt : TT} {te : TE} (hc : X.calm = true) (hN : X.N.Nodup) (hy : X.N[i]? = some y) (hyl : X.env.scope.names.lookup y = some .local)
    (hsw : swapsWith (.ListComp elt [⟨tg, iter, ifs, 0⟩] scope pos) (some (.Name y py)) spos.line X.env = pure true) (hi : PI X tg iter wi) (ok : BlkOk X.N X.env.scope scope own)
    (hg : ∀ (s : Shared) (H : Hp) (C : Addr) (cl : List (Str × Addr)) (fp : List Addr), PG (X.blk s H scope (compEnvC scope cl C X.env) fp) tg g) (ht : ∀ (s : Shared) (H : Hp) (C : Addr) (cl : List (Str × Addr)) (fp : List Addr), PTs (X.blk s H scope (compEnvC scope cl C X.env) fp) ifs tt)
    (he : ∀ (s : Shared) (H : Hp) (C : Addr) (cl : List (Str × Addr)) (fp : List Addr), PE (X.blk s H scope (compEnvC scope cl C X.env) fp) elt te) (hs : ∀ x, foldedSetIterable iter X.env x = pure x := by intro _; rfl) :
    PS X (.Assign [.Name y py] (.ListComp elt [⟨tg, iter, ifs, 0⟩] scope pos) spos) (tAsg (tLc wi g tt te (own.map (·.2))) (gName i)) := ps_setLc hc hN hy hyl hsw hi ok hg ht he hs
end
end L2
set_option Elab.async false
set_option linter.all false
set_option maxRecDepth 100000
namespace L2
open PySem PySem.Spec PyProof.Rows
section
variable {X : Cx}
end
section
variable {X : Cx}
theorem ixL (K : PySem.W.Frag) (h : X.K = K) : IxR X (rIxL K) := by subst h; exact ix_list
theorem listS (K : PySem.W.Frag) (h : X.K = K) : CallR X (.type "list") (fun xs H Q => ∃ p ys, xs = [.ref p] ∧ (SqL K H p ys ∨ SqT K H p ys) ∧ ∀ l, H l = none → Q (.ref l) (upd H l (.lst ys))) := by subst h; exact call_list_of
theorem inS (K : PySem.W.Frag) (h : X.K = K) : OpR X (compareOp .In) (rIn K false) := by subst h; exact op_in_seq
theorem isiS (K : PySem.W.Frag) (h : X.K = K) : CallR X (.builtin "isinstance") (fun xs H Q => ∃ x n t b, xs = [x, .ty n] ∧ TyOf K H x t ∧ PySem.W.kitOne K t (.type n) = some b ∧ Q (.bl b) H) := by subst h; exact cr_isinst
theorem sumS (K : PySem.W.Frag) (h : X.K = K) (hc : X.calm = true) : CallR X (.builtin "sum") (rSum K) := by subst h; exact cr_sum hc
theorem eqS (K : PySem.W.Frag) (h : X.K = K) (hu : X.A.units + 64 < cLine) : OpR X (compareOp .Eq) (rEqD K) := by subst h; exact op_eqD hu
theorem neS (K : PySem.W.Frag) (h : X.K = K) (hu : X.A.units + 64 < cLine) : OpR X (compareOp .NotEq) (rNeD K) := by subst h; exact op_neD hu
theorem pt_tr (K : PySem.W.Frag) {a : Expr} {ta : TE} (h : X.K = K) (ha : PE X a ta) (he : ∀ whole, isTrue a X.env whole = (do let v ← whole; standAt a.pos; holding [v] (truthy v))) :
    PT X a (fun σ H Q => ta σ H fun x H' => ∃ k, TruV K x H' k ∧ Q k H') := by subst h; exact pt_truth ha he
end
def bitM (w : Int) (k : Nat) : Int := Builtin.bitAnd (w / 2 ^ k) 1
def bitsM (b : Nat) (w : Int) : List Int := (List.range b).map (bitM w)
def chkM (c : Str) (bs : List Int) : List Int := if c = "none" then [] else [(bs.sum + (if c = "odd" then 1 else 0)) % 2]
def levM (b : Nat) (c : Str) (w : Int) : List Int := [0] ++ bitsM b w ++ chkM c (bitsM b w) ++ [1]
theorem bitM_eq (w : Int) (k : Nat) : bitM w k = w / 2 ^ k % 2 := bitAnd_m1 _
end L2
set_option Elab.async false
set_option linter.all false
set_option maxRecDepth 100000
namespace L2
open PySem PySem.Spec PyProof.Rows
section
variable {X : Cx}
end
end L2
set_option Elab.async false
set_option linter.all false
set_option maxRecDepth 100000
namespace L2
open PySem PySem.Spec PyProof.Rows
/-- the context of a generator's block -/
abbrev Cx.gen (X : Cx) (A' : Around) (s : Shared) (H : Hp) (cenv : Env) (fp : List Addr) (pn : List (Addr × Obj)) : Cx := { X with A := A', s_0 := s, H_0 := H, env := cenv, outer := X.stack, stack := cenv :: X.stack, ex := fp, fn := fun _ => false, pn := pn, xe := fun _ _ => False }
section
variable {X : Cx} {pins : List (Addr × Obj)} {σ : St} {H : Hp} {s : Shared}
end
section
variable {g0 : Array GenState} {s : Shared}
end
section
variable {X : Cx}
/-- what a generator's block tells: n the yields that may still come, m a measure; S what is wanted at the end, YC behind a yield (Nx: going on) -/
def GW (J : It) (g : TG) (tt : TT) (te : TE) (vs : List Nat) (σ' : St) (W : Nat → Nat → Nat → Hp → Prop) (S : Nat → Hp → Prop) (YC : Nat → V → (Hp → Prop) → Hp → Prop) : Prop :=
  ∀ n i m H, W n i m H → (J.stop i H ∧ S n H) ∨ (J.go i H ∧ ∀ x H', J.yld i H x H' → g x σ' H' fun σ2 H2 => wipe σ2 vs = σ' ∧ tt σ2 H2 fun b H3 =>
    if b = true then te σ2 H3 fun y H4 => ∃ n', n = n' + 1 ∧ YC n' y (fun H5 => ∃ m', W n' (i + 1) m' H5) H4 else ∃ m', m' < m ∧ W n (i + 1) m' H3)
/-- the end of a generator, and what it yields -/
def genR (X' : Cx) (σ' : St) (S : Nat → Hp → Prop) (n : Nat) (_ s₁ : Shared) : Prop := ∃ H', Inv X' [] σ' H' s₁ ∧ S n H'
def genY (X' : Cx) (σ' : St) (fp : List Addr) (YC : Nat → V → (Hp → Prop) → Hp → Prop) : Protocol := fun n _ v s kap =>
  ∃ y H' Nx, RelV y v ∧ Inv X' [] σ' H' s ∧ (∀ b ∈ fp, H' b = none) ∧ YC n y Nx H' ∧ (∀ H'' (s'' : Shared), Nx H'' → Inv X' [] σ' H'' s'' → (∀ b ∈ fp, H'' b = none) → (∀ b ∈ fp, ∀ o, s.heap.get? b = some o → s''.heap.get? b = some o) → kap (.send .none) s'')
end
end L2
set_option Elab.async false
set_option linter.all false
set_option maxRecDepth 100000
namespace L2
open PySem PySem.Spec PyProof.Rows
def tabφ (P : Addr) (ps0 : Array Value) : Heap → Prop := fun h => ∃ more, h.get? P = some (PySem.W.tabObj (ps0 ++ more)) ∧ TriplesOk (ps0 ++ more).toList
theorem tabφ_stay {P : Addr} {ps0 : Array Value} : ∀ h1 h2 : Heap, tabφ P ps0 h1 → (∀ o, h1.get? P = some o → h2.get? P = some o) → tabφ P ps0 h2 := fun _ _ ⟨more, e, t⟩ k => ⟨more, k _ e, t⟩
section
variable {X : Cx} {pins : List (Addr × Obj)} {σ : St} {H : Hp} {s : Shared}
/-- a def's code object and its table, as K has them -/
def CodeHdK (K : PySem.W.Frag) (c P : Addr) : Prop :=
  ∃ od sl vs file tf flags tg inF text tt, K.lookup c = some ⟨.type "code", od, .fields vs, sl⟩ ∧ vs[11]? = some (.ref P) ∧ vs.getD 11 .none = .ref P ∧ vs.getD 18 .none = .str file tf ∧
    vs.getD 7 .none = .int flags tg ∧ vs.getD 9 .none = .bool inF ∧ vs.getD 10 .none = .int text tt ∧ c ≠ P
theorem CodeHdK.hd {K : PySem.W.Frag} {h : Heap} {c P : Addr} (x : CodeHdK K c P) (k : K.In h) : PySem.W.CodeHd h c P := by
  obtain ⟨od, sl, vs, file, tf, flags, tg, inF, text, tt, e, r⟩ := x
  exact ⟨_, vs, file, tf, flags, tg, inF, text, tt, k _ _ e, rfl, rfl, r⟩
/-- the module's own __builtins__ -/
def BltOk (base : Heap) (mg : Str → Option Value) : Prop := ∃ bm ob, mg "__builtins__" = some (.ref bm) ∧ bm ≠ builtinsNs ∧ base.get? bm = some ob ∧ ob.cls = .type "module" ∧ ob.dict = some builtinsNs ∧ ob.data = .plain
end
section
variable {X : Cx}
abbrev allYC (Q : VK) : Nat → V → (Hp → Prop) → Hp → Prop := fun _ y Nx H' => ∃ k, y = .bl k ∧ if k = true then Nx H' else Q (.bl false) H'
/-- all(elt for target in iter if ..) -/
def tAll (P : Addr) (ps0 : Array Value) (wi : TI) (g : TG) (tt : TT) (te : TE) (vs : List Nat) : TE := fun σ H Q => wi σ H fun J H1 => H1 P = some (.ext (tabφ P ps0)) ∧ ∃ W : Nat → Nat → Nat → Hp → Prop, (∃ n m, W n 0 m H1) ∧
  GW J g tt te vs (wipe σ vs) W (fun _ H' => Q (.bl true) H') (allYC Q)
end
end L2
set_option Elab.async false
set_option linter.all false
set_option maxRecDepth 100000
namespace L2
open PySem PySem.Spec PyProof.Rows
def minusK (K : PySem.W.Frag) (tabs : List Addr) : PySem.W.Frag := K.filter fun p => !tabs.contains p.1
theorem minus_lookup (tabs : List Addr) (a : Addr) : ∀ K : PySem.W.Frag, (minusK K tabs).lookup a = if tabs.contains a = true then none else K.lookup a
  | [] => by unfold minusK; simp
  | (b, o) :: K => by
    have ih := minus_lookup tabs a K
    unfold minusK at ih ⊢
    rw [List.filter_cons]
    by_cases hb : tabs.contains b = true
    · rw [if_neg (by simp only [hb]; decide), ih]
      by_cases ha : tabs.contains a = true
      · rw [if_pos ha, if_pos ha]
      · rw [if_neg ha, if_neg ha, List.lookup_cons]
        have : (a == b) = false := by
          cases e : a == b with
          | false => rfl
          | true => rw [beq_iff_eq] at e; subst e; exact absurd hb ha
        rw [this]
    · have hb' : tabs.contains b = false := by simpa using hb
      rw [if_pos (by simp only [hb']; decide), List.lookup_cons, List.lookup_cons, ih]
      cases e : a == b with
      | false => rfl
      | true =>
        rw [beq_iff_eq] at e
        subst e
        show some o = if tabs.contains a = true then none else some o
        rw [if_neg hb]
theorem minus_of {K : PySem.W.Frag} {tabs : List Addr} {a : Addr} {o : Obj} (h : K.lookup a = some o) (hn : a ∉ tabs) : (minusK K tabs).lookup a = some o := by
  rw [minus_lookup, if_neg (by simpa using hn)]; exact h
theorem of_minus {K : PySem.W.Frag} {tabs : List Addr} {a : Addr} {o : Obj} (h : (minusK K tabs).lookup a = some o) : K.lookup a = some o ∧ a ∉ tabs := by
  rw [minus_lookup] at h
  by_cases z : tabs.contains a = true
  · rw [if_pos z] at h; cases h
  · rw [if_neg z] at h; exact ⟨h, by simpa using z⟩
/-- the tables as they stand at the law's entry -/
def TabH (h : Heap) (tabs : List Addr) : Prop := ∀ P ∈ tabs, h.get? P = some (PySem.W.tabObj #[]) ∧ ∃ c, PySem.W.CodeHd h c P
def Tb (tabs : List Addr) (H : Hp) : Prop := ∀ P ∈ tabs, H P = some (.ext (tabφ P #[]))
theorem Tb.same {tabs : List Addr} {H H' : Hp} (t : Tb tabs H) (s : Same H H') : Tb tabs H' := fun P hP => s _ _ (t P hP)
theorem not_tab {K : PySem.W.Frag} {h : Heap} {tabs : List Addr} (X : K.In h) (T : TabH h tabs) {a : Addr} {o : Obj} (e : K.lookup a = some o) (hd : o.data ≠ .fields #[]) : a ∉ tabs := fun z => by
  have := X _ _ e
  rw [(T a z).1] at this
  cases this
  exact hd rfl
theorem codeIn_minus {K : PySem.W.Frag} {h : Heap} {tabs : List Addr} (X : K.In h) (T : TabH h tabs) {cd : Value} {q : Str} (e : PySem.W.codeIn K cd q = true) : PySem.W.codeIn (minusK K tabs) cd q = true := by
  cases cd with
  | ref c =>
    have hn : c ∉ tabs := fun z => by
      unfold PySem.W.codeIn at e
      cases k : K.lookup c with
      | none => simp only [k] at e; cases e
      | some o =>
        have := X _ _ k
        rw [(T c z).1] at this
        cases this
        simp only [k] at e
        cases e
    have e2 : (minusK K tabs).lookup c = K.lookup c := by rw [minus_lookup, if_neg (by simpa using hn)]
    unfold PySem.W.codeIn at e ⊢
    simp only [e2]
    exact e
  | _ => cases e
/-- every def of the text has a table, empty at the law's entry -/
def TabsOf (q : Program) (mg : Str → Option Value) (h : Heap) : Prop := ∀ d ∈ recsOf q, ∃ a o fd c P, mg d.name = some (.ref a) ∧ h.get? a = some o ∧ o.data = .func fd ∧ fd.code = .ref c ∧ h.IsCode c P #[] ∧ h.TableAt c P #[]
theorem keepIn_minus {K : PySem.W.Frag} {f : Addr} {oc : Value} {od : Option Addr} {fd : FuncData} {sl : Array (Option Value)} (l : K.lookup f = some ⟨oc, od, .func fd, sl⟩) : PySem.W.keepIn K (.ref f) = true := by
  unfold PySem.W.keepIn
  simp only [l]
/-- a def whose code object is known -/
structure FunC (K : PySem.W.Frag) (x qual : Str) (st : Stmt) (f : Addr) (fd : FuncData) (c : Addr) : Prop where
  ex : ∃ (oc : Value) (od : Option Addr) (kV doc pm : Value) (an : Option Addr) (ct : Value) (osl : Array (Option Value)),
    fd = PySem.W.fnOf x qual (defArgs st) (defBody st) (defScope st) .none kV doc pm an (.ref c) ct ∧ K.lookup f = some ⟨oc, od, .func fd, osl⟩ ∧ PySem.W.codeIn K (.ref c) qual = true
  kp : PySem.W.keepIn K (.ref f) = true
theorem FunC.ok {P : Program} {w : World} {K : PySem.W.Frag} {mg : Str → Option Value} {base : Heap} {x qual : Str} {st : Stmt} {f c : Addr} {fd : FuncData} {N ps : List Str} {k : Nat} {sp : Sp} (F : FunC K x qual st f fd c) (S : FnScope N ps (defScope st)) (len : ∀ vs H Q E, sp vs H Q E → vs.length = ps.length)
    (hbody : ∀ (A : Around) (outer : List Env) (s : Shared) (H : Hp) (vs : List V) (Q : VK) (E : XK), Room k (A.deeper (envOfC qual (defScope st) s.heap.objs.size f (.ref c))) → sp vs H Q E →
      ∃ t, PSs (cxOf CX0 P w K mg base N qual (defScope st) f (.ref c) A outer s H E).nox (defBody st) t ∧ t { nx := fun _ H' => Q .non H', rt := Q } (start N vs) H) : FnOk P w K mg base CX0 (k + 1) f fd ps sp := by
  obtain ⟨oc, od, kV, doc, pm, an, ct, osl, rfl, lk, hcd⟩ := F.ex
  refine fn_of lk hcd S len fun A outer s H vs Q E hr hsp => ?_
  obtain ⟨t, h, q⟩ := hbody A outer s H vs Q E hr hsp
  exact ⟨t, h.nox, q⟩
theorem law_callT {P : Program} {w : World} {K : PySem.W.Frag} {tabs : List Addr} {mg mb : Str → Option Value} {k : Nat} {fa a : Addr} {fd : FuncData} {x : Str} {sp : Sp} {s₁ : Shared} {vs : List Value} {ns : List Int}
    (KX : K.In s₁.heap) (TK : TabH s₁.heap tabs) (BM : BltOk s₁.heap mg) (hns : s₁.heap.Ns mainGlobals mg) (hb : s₁.heap.Ns builtinsNs mb) (hbb : ∀ x : Str, x ≠ "__name__" → mb x = bootBuiltins x) (hlim : s₁.heap.NoLimit) (hg : s₁.gens = #[])
    (ha : s₁.heap.get? a = some { cls := .type "list", data := .seq vs.toArray }) (hi : IntsAre vs ns) (hl : ns.length ≤ sizeLine) (hr : Room k callerA)
    (F : ∀ base : Heap, (minusK K tabs).In base → base.Ns mainGlobals mg → BltOk base mg → FnOk P w (minusK K tabs) mg base CX0 k fa fd [x] sp) (hbind : ∀ (s : Shared) (u : Value), BindsTo s fd ⟨[u], []⟩ [(x, u)])
    (hsp : ∀ H : Hp, Tb tabs H → SqL (minusK K tabs) H a (ns.map V.int) → (H a = none ∨ ∃ o xs, H a = some (.frz o (.lst xs))) → sp [.ref a] H (fun v H' => v = .bl true ∧ Tb tabs H' ∧ ∀ o xs, H a = some (.frz o xs) → H' a = some (.frz o xs)) fun _ _ _ => False) :
    codeAny (model P w) callerA (.call (.ref fa) ⟨[.ref a], []⟩) (fun r s' => r = .ok (.ret (.bool true)) ∧ OldK s₁.heap s'.heap ∧ s'.os = s₁.os ∧ AllBare s'.gens) s₁ := by
  have rv := vals_ints hi
  have lenV := hi.length
  have tabAt : ∀ b ∈ tabs, s₁.heap.get? b = some (PySem.W.tabObj #[]) := fun b hb => (TK b hb).1
  have core : ∀ H : Hp, Tb tabs H → SqL (minusK K tabs) H a (ns.map V.int) → HOk P w H s₁.heap → (∀ b, H b ≠ none → b = a ∨ b ∈ tabs) → (H a ≠ none → K.lookup a = none) → (H a = none ∨ ∃ o xs, H a = some (.frz o (.lst xs))) →
      codeAny (model P w) callerA (.call (.ref fa) ⟨[.ref a], []⟩) (fun r s' => r = .ok (.ret (.bool true)) ∧ OldK s₁.heap s'.heap ∧ s'.os = s₁.os ∧ AllBare s'.gens) s₁ := by
    intro H hT hS hok hA hK hfz
    have base_of : ∀ {b : Addr} {o : Obj}, s₁.heap.get? b = some o → H b = none → (hidT s₁.heap H).get? b = some o := fun e n => hidT_get e n
    have noA : ∀ {b : Addr} {o : Obj} {es : Array DictEntry} {ep : Nat}, s₁.heap.get? b = some o → o.data = .dict es ep → H b = none := fun {b o es ep} e d => by
      cases q : H b with
      | none => rfl
      | some u =>
        rcases hA b (by rw [q]; simp) with e' | e'
        · subst e'
          rw [ha] at e; cases e
          have d' : Data.seq vs.toArray _ = Data.dict es ep := d
          cases d'
        · rw [tabAt b e'] at e; cases e
          have d' : Data.fields _ = Data.dict es ep := d
          cases d'
    have nsK : ∀ {b : Addr} {m : Str → Option Value}, s₁.heap.Ns b m → (hidT s₁.heap H).Ns b m := fun {b m} ⟨o, es, ep, e, d, r⟩ => ⟨o, es, ep, base_of e (noA e d), d, r⟩
    have hKb : (minusK K tabs).In (hidT s₁.heap H) := fun b o e => by
      obtain ⟨e1, e2⟩ := of_minus e
      refine base_of (KX b o e1) ?_
      cases q : H b with
      | none => rfl
      | some u =>
        rcases hA b (by rw [q]; simp) with e' | e'
        · subst e'
          rw [hK (by rw [q]; simp)] at e1; cases e1
        · exact absurd e' e2
    have hM : Mod (minusK K tabs) mg (hidT s₁.heap H) := ⟨hKb, nsK hns, ⟨mb, nsK hb, hbb⟩, let ⟨mc, h1, h2⟩ := hlim; ⟨mc, nsK h1, h2⟩⟩
    have e0 : Env0 P w (minusK K tabs) mg (hidT s₁.heap H) callerA [] s₁ H := ⟨rfl, hM, fun b o e => of_hidT e, Nat.le_of_eq (hidT_size _ _), trivial, fun b hb => absurd (show b ∈ ([] : List Addr) from hb) (by simp), hok, .of_eq hg⟩
    have hBM : BltOk (hidT s₁.heap H) mg := by
      obtain ⟨bm, ob, b1, b2, b3, b4, b5, b6⟩ := BM
      refine ⟨bm, ob, b1, b2, base_of b3 ?_, b4, b5, b6⟩
      cases q : H bm with
      | none => rfl
      | some u =>
        rcases hA bm (by rw [q]; simp) with e' | e'
        · subst e'
          rw [ha] at b3; cases b3
          cases b6
        · rw [tabAt bm e'] at b3; cases b3
          cases b6
    refine codeAny_mono ((F _ hKb (nsK hns) hBM).run callerA [] s₁ H ⟨[.ref a], []⟩ [.ref a] [.ref a] _ _ hr e0 (hbind s₁ (.ref a)) (.cons rfl .nil) (hsp H hT hS hfz)) fun r s' h => ?_
    cases r with
    | error e => exact False.elim h
    | ok fl =>
      cases fl with
      | next => exact False.elim h
      | brk => exact False.elim h
      | cont => exact False.elim h
      | ret u =>
        obtain ⟨v, H', os, bare, un, hok', r', q, qT, qa⟩ := h
        have q' : v = .bl true := q
        subst q'
        obtain rfl : u = Value.bool true := r'
        refine ⟨rfl, ⟨fun b o e => ?_, fun b o e => un.there b o e (by simp)⟩, os, bare.1⟩
        cases q : H b with
        | none => exact .inl (un.keep b o e q (by intro z; exact absurd (show b ∈ ([] : List Addr) from z) (by simp)) (by simp))
        | some u =>
          by_cases hbt : b ∈ tabs
          · obtain ⟨⟨more, e2, _⟩, _, _⟩ := hok' b _ (qT b hbt)
            rw [tabAt b hbt] at e; cases e
            obtain ⟨c, hc⟩ := (TK b hbt).2
            exact .inr (.inl ⟨(hc.tab (tabAt b hbt)).isCodeTable, rfl, #[], more, rfl, e2⟩)
          · have e' : b = a := (hA b (by rw [q]; simp)).resolve_right hbt
            subst e'
            rcases hfz with z | ⟨ob, xs, z⟩
            · rw [q] at z; cases z
            · have z2 := qa _ _ z
              obtain ⟨e1, _⟩ := hok b _ z
              obtain ⟨e2, _⟩ := hok' b _ z2
              rw [e] at e1; cases e1
              exact .inl e2
  have tabOk : ∀ (H : Hp) (b : Addr), b ∈ tabs → ObjOk P w H s₁.heap b (.ext (tabφ b #[])) := fun H b hb => ⟨⟨#[], by rw [tabAt b hb]; rfl, trivial⟩, ⟨_, tabAt b hb⟩, tabφ_stay⟩
  have aNot : a ∉ tabs := fun z => by rw [tabAt a z] at ha; cases ha
  cases hk : K.lookup a with
  | some o =>
    have e := KX a o hk
    rw [ha] at e
    cases e
    refine core (fun b => if b ∈ tabs then some (.ext (tabφ b #[])) else none) (fun b hb => if_pos hb) (.inr ⟨_, vs.toArray, _, minus_of hk aNot, rfl, rfl, rfl, by rw [List.size_toArray, lenV]; exact hl, by simpa using rv⟩) (fun b u z => ?_) (fun b z => ?_) (fun z => absurd (if_neg aNot) z) (.inl (if_neg aNot))
    · by_cases hb : b ∈ tabs
      · have z' := (if_pos hb).symm.trans z
        cases z'
        exact tabOk _ b hb
      · have z' := (if_neg hb).symm.trans z
        cases z'
    · by_cases hb : b ∈ tabs
      · exact .inr hb
      · exact absurd (if_neg hb) z
  | none =>
    refine core (fun b => if b = a then some (.frz { cls := .type "list", data := .seq vs.toArray } (.lst (ns.map V.int))) else if b ∈ tabs then some (.ext (tabφ b #[])) else none)
      (fun b hb => (if_neg (show ¬ b = a from fun z => aNot (by rw [← z]; exact hb))).trans (if_pos hb)) (.inl (.inr ⟨{ cls := .type "list", data := .seq vs.toArray }, if_pos rfl⟩)) (fun b u z => ?_) (fun b z => ?_) (fun _ => hk) (.inr ⟨_, _, if_pos rfl⟩)
    · by_cases hb : b = a
      · have z' := (if_pos hb).symm.trans z
        cases z'
        subst hb
        exact ⟨ha, by rw [List.length_map]; exact hl, vs, _, rv, ha⟩
      · have z := (if_neg hb).symm.trans z
        by_cases hb2 : b ∈ tabs
        · have z' := (if_pos hb2).symm.trans z
          cases z'
          exact tabOk _ b hb2
        · have z' := (if_neg hb2).symm.trans z
          cases z'
    · by_cases hb : b = a
      · exact .inl hb
      · by_cases hb2 : b ∈ tabs
        · exact .inr hb2
        · exact absurd ((if_neg hb).trans (if_neg hb2)) z
/-- the law's own promise: a script of at most 63 whole numbers, the tables grown at most -/
def spLawT (K : PySem.W.Frag) (tabs : List Addr) : Sp := fun vs H Q _ => ∃ (a : Addr) (ns : List Int), vs = [.ref a] ∧ SqL K H a (ns.map V.int) ∧ ns.length ≤ 63 ∧ Tb tabs H ∧ ∀ H', Same H H' → Q (.bl true) H'
end L2
set_option Elab.async false
set_option linter.all false
set_option maxRecDepth 100000
namespace L2
open PySem PySem.Spec PyProof.Rows
section
variable {X : Cx}
abbrev sumYC (acc : Nat → Int) (S : Addr) : Nat → V → (Hp → Prop) → Hp → Prop := fun n y Nx H' => ∃ x, y = .int x ∧ acc (n + 1) + x = acc n ∧ InLong x ∧ InLong (acc n) ∧ H' S = some (.lst [.int (acc (n + 1))]) ∧ Nx (upd H' S (.lst [.int (acc n)]))
def tSum (P : Addr) (ps0 : Array Value) (wi : TI) (g : TG) (tt : TT) (te : TE) (vs : List Nat) : TE := fun σ H Q => wi σ H fun J H1 => H1 P = some (.ext (tabφ P ps0)) ∧ ∃ acc : Nat → Int, ∀ S, H1 S = none → ∃ W : Nat → Nat → Nat → Hp → Prop, (∃ n m, acc n = 0 ∧ W n 0 m (upd H1 S (.lst [.int 0]))) ∧
  GW J g tt te vs (wipe σ vs) W (fun n H' => Q (.int (acc n)) H') (sumYC acc S)
end
end L2
namespace L2
open PySem PySem.Spec PyProof.Rows
end L2
set_option Elab.async false
set_option linter.all false
set_option maxRecDepth 100000
namespace L2
open PySem PySem.Spec PyProof.Rows
theorem ObjOk.ex {P : Program} {w : World} {H : Hp} {h : Heap} {a : Addr} {o : HO} (x : ObjOk P w H h a o) : ∃ ob, h.get? a = some ob := by
  cases o with
  | lst xs => obtain ⟨_, _, _, _, e⟩ := x; exact ⟨_, e⟩
  | tup xs => obtain ⟨_, _, _, p⟩ := x; obtain ⟨ob, e, _⟩ := p; exact ⟨_, e⟩
  | dK kvs => obtain ⟨_, _, _, _, o, _, _, e, _⟩ := x; exact ⟨_, e⟩
  | dT kvs => obtain ⟨_, _, _, _, o, _, _, e, _⟩ := x; exact ⟨_, e⟩
  | set S n => obtain ⟨o, _, _, _, e, _⟩ := x; exact ⟨_, e⟩
  | ins C dx fs => obtain ⟨_, _, _, e, _⟩ := x; exact ⟨_, e⟩
  | own y => obtain ⟨_, e⟩ := x; exact ⟨_, e⟩
  | xd fs => obtain ⟨_, ⟨_, _, _, e, _⟩, _⟩ := x; exact ⟨_, e⟩
  | rng lo hi => obtain ⟨_, _, _, e⟩ := x; exact ⟨_, e⟩
  | frz ob u => obtain ⟨e, _⟩ := x; exact ⟨_, e⟩
  | tbl ps => exact ⟨_, (show h.get? a = some _ from x)⟩
  | met f y => exact ⟨_, (show h.get? a = some _ from x)⟩
  | ext φ => obtain ⟨_, ⟨_, e⟩, _⟩ := x; exact ⟨_, e⟩
/-- what the heap B holds of what stands ahead of an exception -/
structure FlyB (fr : List Env) (s : Shared) (H' : Hp) (B h' : Heap) : Prop where
  trk : ∀ a u, H' a = some u → ∃ o, h'.get? a = some o ∧ B.get? a = some o
  old : ∀ b o, (∃ o0, s.heap.get? b = some o0) → b ∉ frs fr → h'.get? b = some o → B.get? b = some o
/-- an exception in flight behind a call -/
structure Fly (P : Program) (w : World) (fr : List Env) (H : Hp) (s : Shared) (cls : Value) (H' : Hp) (ea : Addr) (B : Heap) (a0 : Value) (s' : Shared) : Prop where
  os : s'.os = s.os
  gb : GB s.gens s'.gens
  un : Un (frs fr) [] H H' s.heap s'.heap
  hok : HOk P w H' s'.heap
  new : s.heap.get? ea = none
  notrk : H' ea = none
  fl : Heap.FlyingW B fr ea cls a0 s'.heap
  fb : FlyB fr s H' B s'.heap
def CXW (P : Program) (w : World) : CXT := fun fr H s E e s' => ∃ cls H' ea B a0, e = .ref ea ∧ Fly P w fr H s cls H' ea B a0 s' ∧ E cls none H'
section
variable {P : Program} {w : World} {fr : List Env} {H H' H1 : Hp} {s s' s1 : Shared} {cls a0 : Value} {ea : Addr} {B h3 : Heap}
theorem hok_B (hok : HOk P w H' s'.heap) (trk : ∀ a u, H' a = some u → ∃ o, s'.heap.get? a = some o ∧ B.get? a = some o) (st : B.StaysIn h3) : HOk P w H' h3 := fun a u e => by
  refine (hok a u e).stay (fun b o hb q => ?_) (fun _ q => q) fun _ _ q => q
  have : ∃ v, H' b = some v := by
    rcases hb with rfl | hb
    · exact ⟨_, e⟩
    · exact ⟨_, hb⟩
  obtain ⟨v, hv⟩ := this
  obtain ⟨o', e1, e2⟩ := trk b v hv
  rw [q] at e1; cases e1
  exact st _ _ e2
theorem Fly.nf (F : Fly P w fr H s cls H' ea B a0 s') {b : Addr} (hb : b ∈ frs fr) : ∃ o, s'.heap.get? b = some o ∧ ∀ vs, o.data ≠ .fields vs := (F.fl.2.2.1.mem hb).2
end
section
variable {X : Cx} {pins : List (Addr × Obj)} {σ : St} {H H' : Hp} {s s' : Shared} {cls a0 : Value} {ea : Addr} {B : Heap}
theorem Inv.fly (I : Inv X pins σ H s) (F : Fly X.prog X.w X.stack H s cls H' ea B a0 s') : Inv X pins σ H' s' :=
  I.call' (ch := []) F.os F.un F.hok F.gb (fun b z => absurd z (by simp))
end
/-- out of a def: what lies around B at the def's own frame lies so at its caller's -/
theorem fly_out {X : Cx} {pins : List (Addr × Obj)} {σ : St} {H1 H' : Hp} {s1 s' : Shared} {cls a0 : Value} {ea : Addr} {B h2 : Heap} (I : Inv X pins σ H1 s1) (hst : X.stack = X.env :: X.outer) (hfr : X.env.frame = some X.env.locals) (hex : X.ex = [])
    (os : s'.os = s1.os) (gb : GB s1.gens s'.gens) (un : Un (frs X.stack) [] H1 H' s1.heap s'.heap) (hok : HOk X.prog X.w H' s'.heap) (new : s1.heap.get? ea = none) (notrk : H' ea = none)
    (fb : FlyB X.stack s1 H' B s'.heap) (nf : ∀ b ∈ frs X.stack, ∃ o, s'.heap.get? b = some o ∧ ∀ vs, o.data ≠ .fields vs)
    (fl : Heap.FlyingW B X.outer ea cls a0 h2) (up : s'.heap.UpToSlots h2) : Fly X.prog X.w X.outer X.H_0 X.s_0 cls H' ea B a0 { s' with heap := h2 } := by
  have hfs : frs X.stack = X.env.locals :: frs X.outer := by
    rw [hst]; unfold frs; rw [List.filterMap_cons, hfr]
  have base := I.base
  rw [hex] at base
  have ne : ∀ b o, X.s_0.heap.get? b = some o → b ≠ X.env.locals := fun b o e => Nat.ne_of_lt (Nat.lt_of_lt_of_le (Heap.lt_size e) I.ok.above)
  have out : ∀ b o, X.s_0.heap.get? b = some o → b ∉ frs X.outer → b ∉ frs X.stack := fun b o e h z => by
    rw [hfs] at z
    rcases List.mem_cons.mp z with z | z
    · exact ne b o e z
    · exact h z
  have inn : ∀ b, b ∈ frs X.outer → b ∈ frs X.stack := fun b h => by rw [hfs]; exact List.mem_cons_of_mem _ h
  refine ⟨os.trans I.os, I.bare.trans gb, ⟨fun b o q n hb hx => ?_, fun b o q n hb hx => ?_, fun b o q n hx => ?_, fun b o q hx => ?_, fun b xs e => un.tups b xs (base.tups b xs e), fun b o u e => un.frzs b o u (base.frzs b o u e), fun b ps e => ?_⟩, hok_B hok fb.trk fl.1, ?_, notrk, fl, fun a u e => ?_, fun b o q hb e => ?_⟩
  · have e1 := base.keep b o q n hb (by simp)
    have n1 := base.free b o q n (by simp)
    have hb' := out b o q hb
    exact fl.1 _ _ (fb.old b o ⟨o, e1⟩ hb' (un.keep b o e1 n1 hb' (by simp)))
  · obtain ⟨sl, e1⟩ := base.slot b o q n hb (by simp)
    have n1 := base.free b o q n (by simp)
    obtain ⟨sl2, e2⟩ := un.slot b _ e1 n1 (inn b hb) (by simp)
    obtain ⟨o', e3, hn⟩ := nf b (inn b hb)
    rw [e2] at e3; cases e3
    obtain ⟨sl3, e4⟩ := up b _ e2 hn
    exact ⟨sl3, e4⟩
  · obtain ⟨o1, e1⟩ := base.there b o q (by simp)
    exact un.free b o1 e1 (base.free b o q n (by simp)) (by simp)
  · obtain ⟨o1, e1⟩ := base.there b o q (by simp)
    obtain ⟨o2, e2⟩ := un.there b o1 e1 (by simp)
    by_cases hb : b ∈ frs X.stack
    · obtain ⟨o', e3, hn⟩ := nf b hb
      obtain ⟨sl3, e4⟩ := up b _ e3 hn
      exact ⟨_, e4⟩
    · exact ⟨_, fl.1 _ _ (fb.old b o2 ⟨o1, e1⟩ hb e2)⟩
  · obtain ⟨m1, e1⟩ := base.tbls b ps e
    obtain ⟨m2, e2⟩ := un.tbls b _ e1
    exact ⟨m1 ++ m2, by rw [e2, Array.append_assoc]⟩
  · cases e : X.s_0.heap.get? ea with
    | none => rfl
    | some o =>
      obtain ⟨o1, e1⟩ := base.there ea o e (by simp)
      rw [new] at e1; cases e1
  · obtain ⟨o, _, e2⟩ := fb.trk a u e
    exact ⟨o, fl.1 _ _ e2, e2⟩
  · obtain ⟨o0, q⟩ := q
    obtain ⟨o1, e1⟩ := base.there b o0 q (by simp)
    obtain ⟨o2, e2⟩ := un.there b o1 e1 (by simp)
    have e3 := fb.old b o2 ⟨o1, e1⟩ (out b o0 q hb) e2
    have e4 := fl.1 _ _ e3
    have e : h2.get? b = some o := e
    rw [e] at e4; cases e4
    exact e3
/-- the frames' heap B -/
theorem funFrames_of {h base B : Heap} : ∀ {l : List Env}, h.FunFrames base l → (∀ b ∈ l.filterMap (·.frame), B.get? b = none) → h.FunFrames B l
  | [], _, _ => trivial
  | env :: l, ⟨hk, ⟨L, o, hf, hn, ho, hd⟩, hr⟩, hb => by
    have hm : ∀ b, b ∈ L :: l.filterMap (·.frame) → B.get? b = none := fun b hb' => hb b (by rw [List.filterMap_cons, hf]; exact hb')
    exact ⟨hk, ⟨L, o, hf, hm L (by simp), ho, hd⟩, funFrames_of hr fun b z => hm b (List.mem_cons_of_mem _ z)⟩
/-- what is wanted of an exception, by its class's number -/
abbrev XW := Nat → St → Hp → Prop
/-- it flies here from a callee -/
def XFly (cl : Nat → Addr) (R : XW) (X : Cx) : Prop := ∀ (pins : List (Addr × Obj)) (σ : St) (H H' : Hp) (s s' : Shared) (x : Nat) (ea : Addr) (B : Heap) (a0 : Value), Inv X pins σ H s → Fly X.prog X.w X.stack H s (.ref (cl x)) H' ea B a0 s' → R x σ H' → X.xe (.ref ea) s'
/-- it was made here -/
def XMade (cl : Nat → Addr) (R : XW) (X : Cx) : Prop := ∀ (pins : List (Addr × Obj)) (σ : St) (H : Hp) (s : Shared) (h' : Heap) (x : Nat) (ea : Addr) (args : List Value), Inv X pins σ H s → Heap.MadeExcOf s.heap h' ea (.ref (cl x)) args → R x σ H → X.xe (.ref ea) { s with heap := h' }
abbrev RE (cl : Nat → Addr) (E : XK) : XW := fun x _ H => E (.ref (cl x)) none H
section
variable {P : Program} {w : World} {K : PySem.W.Frag} {mg : Str → Option Value} {base : Heap} {N : List Str} {qual : Str} {scope : Scope} {f : Addr} {cd : Value} {A : Around} {outer : List Env} {s : Shared} {H : Hp} {E : XK} {cl : Nat → Addr}
theorem def_fly : XFly cl (RE cl E) (cxOf (CXW P w) P w K mg base N qual scope f cd A outer s H E) := fun pins σ H1 H' s1 s' x ea B a0 I F q => by
  show wpAny _ _ (leaving _ _) _ _ _
  refine wpAny_leaves_onW I.ok.frames rfl F.fl fun h' fl up => ?_
  exact ⟨_, H', ea, B, a0, rfl, fly_out I rfl rfl rfl F.os F.gb F.un F.hok F.new F.notrk F.fb (fun b hb => F.nf hb) fl up, q⟩
theorem def_made : XMade cl (RE cl E) (cxOf (CXW P w) P w K mg base N qual scope f cd A outer s H E) := fun pins σ H1 s1 h' x ea args I M q => by
  have Bst : (PySem.W.hideAll s1.heap (frs (cxOf (CXW P w) P w K mg base N qual scope f cd A outer s H E).stack)).StaysIn s1.heap := fun b o e => PySem.W.of_hideAll _ e
  have nfr : ∀ a u, H1 a = some u → a ∉ frs (cxOf (CXW P w) P w K mg base N qual scope f cd A outer s H E).stack := fun a u e z => by rw [I.stkFree a z] at e; cases e
  show wpAny _ _ (leaving _ _) _ _ _
  refine wpAny_leaves_madeW (base := PySem.W.hideAll s1.heap (frs (cxOf (CXW P w) P w K mg base N qual scope f cd A outer s H E).stack)) (h := s1.heap) I.ok.frames rfl Bst (funFrames_of I.stack fun b hb => PySem.W.hideAll_none _ hb) M fun h2 t fl _ _ up => ?_
  have notrk : H1 ea = none := by
    cases e : H1 ea with
    | none => rfl
    | some u =>
      obtain ⟨o, e1⟩ := (I.hok ea u e).ex
      rw [M.new] at e1; cases e1
  refine ⟨_, H1, ea, _, _, rfl, fly_out (s' := { s1 with heap := h' }) I rfl rfl rfl rfl (.self I.bare.1) (Un.kept M.keeps) (I.hok.kept M.keeps) M.new notrk ⟨fun a u e => ?_, fun b o hb hn e => ?_⟩ (fun b hb => ?_) fl up, q⟩
  · obtain ⟨o, e1⟩ := (I.hok a u e).ex
    exact ⟨o, M.keeps _ _ e1, PySem.W.hideAll_get _ e1 (nfr a u e)⟩
  · obtain ⟨o0, q0⟩ := hb
    have e : h'.get? b = some o := e
    have := M.keeps _ _ q0
    rw [e] at this; cases this
    exact PySem.W.hideAll_get _ q0 hn
  · obtain ⟨_, o, e1, hn⟩ := I.stack.mem hb
    exact ⟨o, M.keeps _ _ e1, hn⟩
end
end L2
set_option Elab.async false
set_option linter.all false
set_option maxRecDepth 100000
namespace L2
open PySem PySem.Spec PyProof.Rows PySem.W PySem.Builtin PySem.Builtin.ObjectAttr PySem.Builtin.Getset_descriptor PySem.Calls
def ExcAt (x C : Addr) (h : Heap) : Prop := ∃ o, h.get? x = some o ∧ o.cls = .ref C
def xcOk (K : Frag) (C : Addr) : Bool := findIn K (.ref C) "__getattribute__" == some (some (.builtin "BaseException.__getattribute__")) && findIn K (.ref C) "__getattr__" == some none && mroIn K C (.type "BaseException") == some true && (clsIn K C).isSome && findIn K (.ref C) "__class__" == some (some (.builtin "object.__class__")) && specialIn K (.builtin "object.__class__") "__get__" == some (some (.builtin "getset_descriptor.__get__")) && takesIn K (.builtin "object.__class__") == some true && mroIn K C (.type "object") == some true
section
variable {K : Frag} {x C : Addr}
theorem ExcAt.ty {h : Heap} (p : ExcAt x C h) (M : Model) : Looks M h (typeOf (.ref x)) (.ref C) := by
  obtain ⟨o, e, ec⟩ := p
  exact ec ▸ (Looks.ld e).andThen .now
end
end L2
set_option Elab.async false
set_option linter.all false
set_option maxRecDepth 100000
namespace L2
open PySem PySem.Spec PyProof.Rows
abbrev vmro : List Value := [.type "ValueError", .type "Exception", .type "BaseException", .type "object"]
abbrev vnew : String := "ValueError.__new__"
theorem exc_obj {K : PySem.W.Frag} {C : Addr} (q : PySem.W.excIn K C vmro vnew = true) : ∃ (bm : List Value) (N : Addr) (nm qn : Str) (bs : List Value) (hd : Bool) (sn : List Str) (sub : List Value) (ab : Bool) (col : Option Bool) (dd : Option Addr) (k0 k1 k2 k3 k5 : Option Value) (oN : Obj) (es : Array DictEntry) (ep : Nat),
    K.lookup C = some (excClassObj nm qn C N bs bm hd sn sub ab col dd k0 k1 k2 k3 k5 vnew) ∧ K.lookup N = some oN ∧ PySem.W.tailIn K vmro bm = true ∧ PySem.W.nsOkIn K N = true ∧ PySem.W.nsIn K N "__init__" = some none := by
  unfold PySem.W.excIn at q
  split at q
  · rename_i dd0 cd0 sl0 lk
    split at q
    · rename_i C1 bm1 j0 j1 j2 j3 nn j5 em es1
      simp only [Bool.and_eq_true, beq_iff_eq, Bool.not_eq_true'] at q
      obtain ⟨⟨⟨⟨⟨e1, e2⟩, e3⟩, e4⟩, e5⟩, e6⟩ := q
      subst e1 e2
      obtain ⟨nm, bs, mro, ns, qn, hd, sn, sub, ab, col, del⟩ := cd0
      obtain ⟨l⟩ := sl0
      dsimp only at em e3 e4 e5 e6 es1
      subst em e3 es1
      have : ∃ oN, K.lookup ns = some oN := by
        unfold PySem.W.nsOkIn at e5
        cases e : K.lookup ns with
        | none => rw [e] at e5; cases e5
        | some o => exact ⟨o, rfl⟩
      obtain ⟨oN, hN⟩ := this
      exact ⟨_, ns, nm, qn, bs, hd, sn, sub, ab, col, dd0, _, _, _, _, _, oN, #[], 0, lk, hN, e4, e5, e6⟩
    · cases q
  · cases q
section
variable {X : Cx} {cl : Nat → Addr} {R : XW}
theorem ps_raise {x : Nat} {cn m : Str} {np cp cpos pos : Pos} {kk : Nat} (hx : XMade cl R X) (hc : X.calm = true) (hg : Gl X cn) (hm : X.mg cn = some (.ref (cl x))) (q : PySem.W.excIn X.K (cl x) vmro vnew = true) (hdb : (cn == ("__debug__" : Str)) = false := by decide) :
    PS X (.Raise (some (.Call (.Name cn np) [.Constant (.str m) kk cp] [] cpos)) none pos) (fun _ σ H => R x σ H) := by
  intro pins s σ H D I h
  obtain ⟨bm, N, nm, qn, bs, hd, sn, sub, ab, col, dd, k0, k1, k2, k3, k5, oN, _, _, lk, lN, tl, okN, ini⟩ := exc_obj q
  have NsN : ∀ h', X.K.In h' → h'.Ns N (s.heap.nsMap N) := fun h' X' => by
    have n0 : s.heap.Ns N (s.heap.nsMap N) := .of_isNs (PySem.W.isNs_of_in I.kIn okN)
    obtain ⟨o, es, ep, e, r⟩ := n0
    rw [I.kIn _ _ lN] at e; cases e
    exact ⟨_, es, ep, X' _ _ lN, r⟩
  have tail0 : ∀ h', X.K.In h' → OwnTail h' vmro bm := fun h' X' => PySem.W.tail_of_in X' tl
  refine wpAny_Raise_call_subT (C := cl x) (nm := nm) (q := qn) (N := N) (bs := bs) (bm := bm) (hdct := hd) (sn := sn) (sub := sub) (ab := ab) (col := col) (dd := dd) (k0 := k0) (k1 := k1) (k2 := k2) (k3 := k3) (k5 := k5) (mN := s.heap.nsMap N) PySem.F.excBase_ValueError ((tail0 s.heap I.kIn).hasType (by decide +kernel)) (I.ok.hd hc) rfl (PySem.W.nsMap_none_of_in I.kIn okN ini) ?_
  refine ld_glob I hg hm ⟨rfl, ?_⟩ hdb
  show wpAny _ _ (evalArgs _ true ((false, _) :: []) []) _ _ _
  refine Calls.evalArgs_plain (thn ((pa_cons (e := .Constant (.str m) kk cp) pe_str pa_nil : PA X _ _) cpos pins s σ H (fun vs H' => H' = H ∧ vs.length = 1) I ⟨rfl, rfl⟩) fun us s1 ⟨vs, H1, I1, r, e1, e2⟩ => ?_)
  subst e1
  refine ⟨rfl, by rw [← r.length, e2, sizeLine_eq]; decide, I1.kIn _ _ lk, NsN _ I1.kIn, tail0 _ I1.kIn, fun h' e M => hx pins σ _ s1 h' x e us I1 M h⟩
def EX (cl : Nat → Addr) (R : XW) (σ : St) : XK := fun c _ H' => ∃ x, c = .ref (cl x) ∧ R x σ H'
def tCallX (cl : Nat → Addr) (R : XW) (sp : Sp) (t : TA) : TE := fun σ H Q => t σ H fun vs H1 => sp vs H1 Q (EX cl R σ)
variable {k : Nat} {f : Addr} {fd : FuncData} {ps : List Str} {sp : Sp} {x : Str} {p pos : Pos} {e : Expr} {es : List Expr} {t : TA}
theorem run_fnX {pins : List (Addr × Obj)} {σ : St} {H : Hp} {s : Shared} {Q : VK} {us : List Value} {vs : List V} (F : FnOk X.prog X.w X.K X.mg X.base (CXW X.prog X.w) k f fd ps sp) (hr : Room k X.A) (hb : Binds X.K fd ps []) (hx : XFly cl R X)
    (I : Inv X pins σ H s) (r : Vals vs us) (h : sp vs H Q (EX cl R σ)) : wpAny (model X.prog X.w) X.A (call (.ref f) us) (EP X pins σ Q) X.xe s := by
  have hl : (us ++ []).length = ps.length := by rw [List.append_nil, ← r.length]; exact F.len _ _ _ _ h
  have hb1 := hb s us I.kIn hl
  rw [List.append_nil] at hb1
  refine wpAny_call (codeAny_mono (F.run X.A X.stack s H ⟨us, []⟩ us vs Q (EX cl R σ) hr I.env0 hb1 r h) fun rs s' hq => ?_)
  cases rs with
  | error e0 =>
    obtain ⟨c0, H', ea, B, a0, rfl, fl, x0, rfl, hR⟩ := hq
    exact hx pins σ H H' s s' x0 ea B a0 I fl hR
  | ok fl =>
    cases fl with
    | ret u => exact I.after hq
    | next => exact False.elim hq
    | brk => exact False.elim hq
    | cont => exact False.elim hq
theorem pe_callX (F : FnOk X.prog X.w X.K X.mg X.base (CXW X.prog X.w) k f fd ps sp) (hr : Room k X.A) (hg : Gl X x) (hm : X.mg x = some (.ref f)) (hk : PySem.W.keepIn X.K (.ref f) = true) (hb : Binds X.K fd ps []) (hx : XFly cl R X)
    (ha : PA X (e :: es) t) (hdb : (x == ("__debug__" : Str)) = false := by decide) (he : starEach (e :: es) X.env = (false, eval e X.env) :: starEach es X.env := by rfl) (hpl : (backTo pos (starEach es X.env)).any (·.1) = false := by rfl) :
    PE X (.Call (.Name x p) (e :: es) [] pos) (tCallX cl R sp t) := by
  intro pins s σ H Q I h
  refine wpAny_Call_Name_kw (ld_glob I hg hm ?_ hdb)
  refine PySem.W.callWith_K (h₀ := X.base) I.ok.mod.kin hk (thn (ha pos pins s σ H _ I h) fun us s1 ⟨vs, H1, I1, r, q⟩ => ⟨I1.kIn, ?_⟩) he hpl
  exact run_fnX F hr hb hx I1 r q
end
/-- within an except suite -/
abbrev Cx.sx (X : Cx) (ea : Addr) : Cx := { X with A := X.A.mark (some (.ref ea)), calm := false, xe := fun _ _ => False }
/-- within a try -/
abbrev Cx.tr (X : Cx) (pn : List (Addr × Obj)) (E : Value → Shared → Prop) : Cx := { X with pn := pn, xe := E }
section
variable {X : Cx} {pins : List (Addr × Obj)} {σ : St} {H : Hp} {s : Shared} {ea : Addr}
theorem Inv.sx (I : Inv X pins σ H s) (ea : Addr) : Inv (X.sx ea) pins σ H s :=
  ⟨⟨I.ok.mod, I.ok.kind, I.ok.glob, I.ok.blt, I.ok.above, I.ok.inj, I.ok.has, I.ok.cab, fun h => (by have h : false = true := h; cases h), I.ok.frames, I.ok.stk, I.ok.exf, I.ok.bs, I.ok.bsz, I.ok.noex, I.ok.exfs, I.ok.funs, I.ok.frf⟩, I.os, I.bare, I.base, I.loc, I.cell, I.free, I.freeC, I.pin, I.hok, I.len⟩
theorem Inv.tr (I : Inv X pins σ H s) (E : Value → Shared → Prop) : Inv (X.tr (X.pn ++ pins) E) [] σ H s :=
  ⟨⟨I.ok.mod, I.ok.kind, I.ok.glob, I.ok.blt, I.ok.above, I.ok.inj, I.ok.has, I.ok.cab, I.ok.hd, I.ok.frames, I.ok.stk, I.ok.exf, I.ok.bs, I.ok.bsz, I.ok.noex, I.ok.exfs, I.ok.funs, I.ok.frf⟩, I.os, I.bare, I.base, I.loc, I.cell, I.free, I.freeC, fun p hp => I.pin p (by simpa using hp), I.hok, I.len⟩
/-- the exception itself is told of -/
theorem Inv.exc {H' : Hp} {C : Addr} {B : Heap} {a0 : Value} {s' : Shared} (I : Inv X pins σ H s) (F : Fly X.prog X.w X.stack H s (.ref C) H' ea B a0 s') : Inv X pins σ (upd H' ea (.ext (ExcAt ea C))) s' := by
  have J := I.fly F
  obtain ⟨ob, hob, hc⟩ := F.fl.there
  have nb : ∀ b o, s.heap.get? b = some o → b ≠ ea := fun b o e z => by rw [z, F.new] at e; cases e
  have new0 : ∀ b o, X.s_0.heap.get? b = some o → b ∉ X.ex → b ≠ ea := fun b o e hx => by
    obtain ⟨o1, e1⟩ := I.base.there b o e hx
    exact nb b o1 e1
  have keep : ∀ {b : Addr} {u : HO}, H' b = some u → upd H' ea (.ext (ExcAt ea C)) b = some u := fun {b u} e => by
    rw [upd_ne]; exact e
    rintro rfl; rw [F.notrk] at e; cases e
  refine ⟨J.ok, J.os, J.bare, ⟨J.base.keep, J.base.slot, fun b o e n hx => ?_, J.base.there, fun b xs e => keep (J.base.tups b xs e), fun b o u e => keep (J.base.frzs b o u e), fun b ps e => ?_⟩, J.loc, J.cell, ?_, fun x c e => ?_, fun p hp => ?_, fun b u e => ?_, J.len⟩
  · rw [upd_ne (new0 b o e hx)]; exact J.base.free b o e n hx
  · obtain ⟨m, e1⟩ := J.base.tbls b ps e
    exact ⟨m, keep e1⟩
  · obtain ⟨m, ⟨o, es, ep, ho, _⟩, _⟩ := id I.loc
    rw [upd_ne (nb _ _ ho)]; exact J.free
  · obtain ⟨v, o, ho, _⟩ := I.cell x c e
    rw [upd_ne (nb _ _ ho)]; exact J.freeC x c e
  · obtain ⟨h1, h2, h3⟩ := J.pin p hp
    refine ⟨h1, ?_, h3⟩
    rw [upd_ne (nb _ _ (I.pin p hp).1)]; exact h2
  · by_cases hb : b = ea
    · subst hb
      rw [upd_same] at e; cases e
      refine ⟨⟨ob, hob, hc⟩, ⟨ob, hob⟩, fun h1 h2 ⟨o, p1, p2⟩ k => ⟨o, k o p1, p2⟩⟩
    · rw [upd_ne hb] at e
      refine (J.hok b u e).stay (fun _ _ _ q => q) (fun c q => ?_) fun c xs q => ?_
      · exact keep q
      · exact keep q
end
section
variable {X : Cx} {cl : Nat → Addr}
/-- try: body; except C: suite -/
def tTry (X : Cx) (cl : Nat → Addr) (body : List Stmt) (mt : Nat → Bool) (ts : TS) : TS := fun D σ H => ∃ (R' : XW) (tb : TS), (∀ pn E', XFly cl R' (X.tr pn E') → PSs (X.tr pn E') body tb) ∧ tb D σ H ∧ ∀ x σ' H', R' x σ' H' → mt x = true ∧ ts D σ' H'
def Ends.unb (D : Ends) (i : Nat) : Ends := { nx := fun σ H => D.nx (σ.set i none) H, rt := D.rt, bk := fun σ H => D.bk (σ.set i none) H, ct := fun σ H => D.ct (σ.set i none) H }
/-- try: body; except C as n: suite -/
def tTryAs (X : Cx) (cl : Nat → Addr) (body : List Stmt) (mt : Nat → Bool) (i : Nat) (ts : TS) : TS := fun D σ H => ∃ (R' : XW) (tb : TS), (∀ pn E', XFly cl R' (X.tr pn E') → PSs (X.tr pn E') body tb) ∧ tb D σ H ∧
  ∀ x σ' H', R' x σ' H' → mt x = true ∧ ∀ ea, H' ea = none → ts (D.unb i) (σ'.set i (some (.ref ea))) (upd H' ea (.ext (ExcAt ea (cl x))))
end
section
variable {P : Program} {w : World} {K : PySem.W.Frag} {mg : Str → Option Value} {base : Heap}
theorem Fun.okW {x qual : Str} {st : Stmt} {f : Addr} {fd : FuncData} {N ps : List Str} {k : Nat} {sp : Sp} (F : Fun K x qual st f fd) (S : FnScope N ps (defScope st)) (len : ∀ vs H Q E, sp vs H Q E → vs.length = ps.length)
    (hbody : ∀ (cdv : Value) (A : Around) (outer : List Env) (s : Shared) (H : Hp) (vs : List V) (Q : VK) (E : XK), Room k (A.deeper (envOfC qual (defScope st) s.heap.objs.size f cdv)) → sp vs H Q E →
      ∃ t, PSs (cxOf (CXW P w) P w K mg base N qual (defScope st) f cdv A outer s H E) (defBody st) t ∧ t { nx := fun _ H' => Q .non H', rt := Q } (start N vs) H) : FnOk P w K mg base (CXW P w) (k + 1) f fd ps sp := by
  obtain ⟨oc, od, kV, doc, pm, an, cdv, ct, osl, rfl, lk, hcd⟩ := F.ex
  exact fn_of lk hcd S len fun A outer s H vs Q E hr hsp => hbody cdv A outer s H vs Q E hr hsp
theorem FunC.okW {x qual : Str} {st : Stmt} {f c : Addr} {fd : FuncData} {N ps : List Str} {k : Nat} {sp : Sp} (F : FunC K x qual st f fd c) (S : FnScope N ps (defScope st)) (len : ∀ vs H Q E, sp vs H Q E → vs.length = ps.length)
    (hbody : ∀ (A : Around) (outer : List Env) (s : Shared) (H : Hp) (vs : List V) (Q : VK) (E : XK), Room k (A.deeper (envOfC qual (defScope st) s.heap.objs.size f (.ref c))) → sp vs H Q E →
      ∃ t, PSs (cxOf (CXW P w) P w K mg base N qual (defScope st) f (.ref c) A outer s H E) (defBody st) t ∧ t { nx := fun _ H' => Q .non H', rt := Q } (start N vs) H) : FnOk P w K mg base (CXW P w) (k + 1) f fd ps sp := by
  obtain ⟨oc, od, kV, doc, pm, an, ct, osl, rfl, lk, hcd⟩ := F.ex
  exact fn_of lk hcd S len fun A outer s H vs Q E hr hsp => hbody A outer s H vs Q E hr hsp
/-- no exception is wished for: none leaves -/
theorem FnOk.quiet {k : Nat} {f : Addr} {fd : FuncData} {ps : List Str} {sp sp' : Sp} (F : FnOk P w K mg base (CXW P w) k f fd ps sp) (h : ∀ vs H Q E, sp' vs H Q E → sp vs H Q E0) : FnOk P w K mg base CX0 k f fd ps sp' :=
  ⟨fun vs H Q E q => F.len vs H Q E0 (h _ _ _ _ q), fun A outer s H args us vs Q E hr he hb hv hs => codeAny_mono (F.run A outer s H args us vs Q E0 hr he hb hv (h _ _ _ _ hs)) fun r s' q => by
    cases r with
    | ok fl => cases fl <;> exact q
    | error e => obtain ⟨_, _, _, _, _, _, _, z⟩ := q; exact z.elim⟩
end
end L2
set_option Elab.async false
set_option linter.all false
set_option maxRecDepth 100000
namespace L2
open PySem PySem.Spec PyProof.Rows
/-- the own classes of error, by numbers -/
def xName : Nat → Str
  | 0 => "NoWord" | 1 => "NoLevels" | 2 => "NoSpeech" | 3 => "NoLine" | 4 => "NoText" | 5 => "NoOrder" | 6 => "NoBeat" | _ => "WireError"
/-- where such a class stands -/
def clK (K : PySem.W.Frag) (x : Nat) : Addr := match PySem.W.nsIn K mainGlobals (xName x) with
  | some (some (.ref C)) => C
  | _ => 0
/-- the own classes of objects, by numbers -/
def iName : Nat → Str
  | 0 => "Listener" | 1 => "Desk" | _ => "Wire"
def clI (K : PySem.W.Frag) (x : Nat) : Addr := match PySem.W.nsIn K mainGlobals (iName x) with
  | some (some (.ref C)) => C
  | _ => 0
/-- an exception of such a class -/
abbrev excφ (K : PySem.W.Frag) (x : Nat) (p : Addr) : Heap → Prop := ExcAt p (clK K x)
/-- data -/
inductive D where
  | exc (x : Nat) | cls (x : Nat)
  | non | bl (b : Bool) | int (i : Int) | str (x : Str) | ref (a : Addr) | ty (n : String) | rng (lo hi : Int)
  | lst (ds : List D) | fl (ds : List D) | tup (ds : List D) | ft (ds : List D) | dct (ks : List Key) (ds : List D) | ins (C : Nat) (ns : List Str) (ds : List D)
/-- no list, dict or object within -/
def D.nl : D → Bool
  | .lst _ => false | .dct _ _ => false | .ins _ _ _ => false
  | .tup ds => nls ds
  | _ => true
where nls : List D → Bool
  | [] => true
  | d :: ds => d.nl && nls ds
/-- a list that nobody changes -/
def LK (K : PySem.W.Frag) (H : Hp) (p : Addr) (vs : List V) : Prop :=
  (∃ o, H p = some (.frz o (.lst vs))) ∨ ∃ (o : Obj) (its : Array Value) (n : Nat), K.lookup p = some o ∧ o.cls = .type "list" ∧ o.dict = none ∧ o.data = .seq its n ∧ its.size ≤ sizeLine ∧ Vals vs its.toList
theorem LK.sq {K : PySem.W.Frag} {H : Hp} {p : Addr} {vs : List V} (h : LK K H p vs) : SqL K H p vs := by
  rcases h with ⟨o, h⟩ | h
  · exact .inl (.inr ⟨o, h⟩)
  · exact .inr h
mutual
/-- the value v stands for the data d in the heap H; the changeable objects on the way, in their order -/
inductive Rep (K : PySem.W.Frag) (H : Hp) : List Addr → V → D → Prop
  | non : Rep K H [] .non .non
  | bl (b : Bool) : Rep K H [] (.bl b) (.bl b)
  | int (i : Int) : Rep K H [] (.int i) (.int i)
  | str (x : Str) : Rep K H [] (.str x) (.str x)
  | ref (a : Addr) : Rep K H [] (.ref a) (.ref a)
  | ty (n : String) : Rep K H [] (.ty n) (.ty n)
  | exc {p : Addr} {x : Nat} : H p = some (.ext (excφ K x p)) → Rep K H [] (.ref p) (.exc x)
  | cls {p : Addr} {x : Nat} : p = clK K x → Rep K H [] (.ref p) (.cls x)
  | rng {p : Addr} {lo hi : Int} : H p = some (.rng lo hi) → Rep K H [] (.ref p) (.rng lo hi)
  | lst {p : Addr} {l : List Addr} {vs : List V} {ds : List D} : H p = some (.lst vs) → Reps K H l vs ds → Rep K H (p :: l) (.ref p) (.lst ds)
  | fl {p : Addr} {vs : List V} {ds : List D} : LK K H p vs → Reps K H [] vs ds → Rep K H [] (.ref p) (.fl ds)
  | tup {p : Addr} {l : List Addr} {vs : List V} {ds : List D} : H p = some (.tup vs) → Reps K H l vs ds → Rep K H l (.ref p) (.tup ds)
  | ft {p : Addr} {vs : List V} {ds : List D} : SqT K H p vs → Reps K H [] vs ds → Rep K H [] (.ref p) (.ft ds)
  | dct {p : Addr} {l : List Addr} {kvs : List (Key × V)} {ks : List Key} {ds : List D} : H p = some (.dK kvs) → kvs.map (·.1) = ks → Reps K H l (kvs.map (·.2)) ds → Rep K H (p :: l) (.ref p) (.dct ks ds)
  | ins {p dx : Addr} {C : Nat} {l : List Addr} {fs : List (Str × V)} {ns : List Str} {ds : List D} : H p = some (.ins (clI K C) dx fs) → fs.map (·.1) = ns → Reps K H l (fs.map (·.2)) ds → Rep K H (p :: l) (.ref p) (.ins C ns ds)
inductive Reps (K : PySem.W.Frag) (H : Hp) : List Addr → List V → List D → Prop
  | nil : Reps K H [] [] []
  | cons {l l' : List Addr} {v : V} {vs : List V} {d : D} {ds : List D} : Rep K H l v d → Reps K H l' vs ds → Reps K H (l ++ l') (v :: vs) (d :: ds)
end
/-- may it change -/
def mutO : HO → Bool
  | .lst _ => true | .dK _ => true | .ins _ _ _ => true | _ => false
section
variable {K : PySem.W.Frag} {H H' : Hp}
theorem SqT.keep {p : Addr} {vs : List V} (h : SqT K H p vs) (k : ∀ a o, H a = some o → mutO o = false → H' a = some o) : SqT K H' p vs := by
  rcases h with (h | ⟨o, h⟩) | h
  · exact .inl (.inl (k _ _ h rfl))
  · exact .inl (.inr ⟨o, k _ _ h rfl⟩)
  · exact .inr h
theorem LK.keep {p : Addr} {vs : List V} (h : LK K H p vs) (k : ∀ a o, H a = some o → mutO o = false → H' a = some o) : LK K H' p vs := by
  rcases h with ⟨o, h⟩ | h
  · exact .inl ⟨o, k _ _ h rfl⟩
  · exact .inr h
mutual
theorem Rep.keep : ∀ {l : List Addr} {v : V} {d : D}, Rep K H l v d → (∀ a o, H a = some o → (a ∈ l ∨ mutO o = false) → H' a = some o) → Rep K H' l v d
  | _, _, _, .non, _ => .non
  | _, _, _, .bl b, _ => .bl b
  | _, _, _, .int b, _ => .int b
  | _, _, _, .str b, _ => .str b
  | _, _, _, .ref b, _ => .ref b
  | _, _, _, .ty b, _ => .ty b
  | _, _, _, .exc h, k => .exc (k _ _ h (.inr rfl))
  | _, _, _, .cls x, _ => .cls x
  | _, _, _, .rng h, k => .rng (k _ _ h (.inr rfl))
  | _, _, _, .lst h r, k => .lst (k _ _ h (.inl (by simp))) (Reps.keep r fun a o e z => k a o e (z.imp_left fun m => by simp [m]))
  | _, _, _, .fl h r, k => .fl (h.keep fun a o e z => k a o e (.inr z)) (Reps.keep r k)
  | _, _, _, .tup h r, k => .tup (k _ _ h (.inr rfl)) (Reps.keep r k)
  | _, _, _, .ft h r, k => .ft (h.keep fun a o e z => k a o e (.inr z)) (Reps.keep r k)
  | _, _, _, .dct h e r, k => .dct (k _ _ h (.inl (by simp))) e (Reps.keep r fun a o e z => k a o e (z.imp_left fun m => by simp [m]))
  | _, _, _, .ins h e r, k => .ins (k _ _ h (.inl (by simp))) e (Reps.keep r fun a o e z => k a o e (z.imp_left fun m => by simp [m]))
theorem Reps.keep : ∀ {l : List Addr} {vs : List V} {ds : List D}, Reps K H l vs ds → (∀ a o, H a = some o → (a ∈ l ∨ mutO o = false) → H' a = some o) → Reps K H' l vs ds
  | _, _, _, .nil, _ => .nil
  | _, _, _, .cons h r, k => .cons (Rep.keep h fun a o e z => k a o e (z.imp_left fun m => by simp [m])) (Reps.keep r fun a o e z => k a o e (z.imp_left fun m => by simp [m]))
end
mutual
theorem Rep.dom : ∀ {l : List Addr} {v : V} {d : D}, Rep K H l v d → ∀ a ∈ l, ∃ o, H a = some o ∧ mutO o = true
  | _, _, _, .non, a, m => by simp at m
  | _, _, _, .bl b, a, m => by simp at m
  | _, _, _, .int b, a, m => by simp at m
  | _, _, _, .str b, a, m => by simp at m
  | _, _, _, .ref b, a, m => by simp at m
  | _, _, _, .ty b, a, m => by simp at m
  | _, _, _, .exc h, a, m => by simp at m
  | _, _, _, .cls x, a, m => by simp at m
  | _, _, _, .rng h, a, m => by simp at m
  | _, _, _, .lst h r, a, m => by
    rcases List.mem_cons.mp m with rfl | m
    · exact ⟨_, h, rfl⟩
    · exact Reps.dom r a m
  | _, _, _, .fl h r, a, m => by simp at m
  | _, _, _, .tup h r, a, m => Reps.dom r a m
  | _, _, _, .ft h r, a, m => by simp at m
  | _, _, _, .dct h e r, a, m => by
    rcases List.mem_cons.mp m with rfl | m
    · exact ⟨_, h, rfl⟩
    · exact Reps.dom r a m
  | _, _, _, .ins h e r, a, m => by
    rcases List.mem_cons.mp m with rfl | m
    · exact ⟨_, h, rfl⟩
    · exact Reps.dom r a m
theorem Reps.dom : ∀ {l : List Addr} {vs : List V} {ds : List D}, Reps K H l vs ds → ∀ a ∈ l, ∃ o, H a = some o ∧ mutO o = true
  | _, _, _, .nil, a, m => by simp at m
  | _, _, _, .cons h r, a, m => by
    rcases List.mem_append.mp m with m | m
    · exact Rep.dom h a m
    · exact Reps.dom r a m
end
mutual
theorem Rep.nodes : ∀ {l : List Addr} {v : V} {d : D}, Rep K H l v d → d.nl = true → l = []
  | _, _, _, .non, _ => rfl
  | _, _, _, .bl b, _ => rfl
  | _, _, _, .int b, _ => rfl
  | _, _, _, .str b, _ => rfl
  | _, _, _, .ref b, _ => rfl
  | _, _, _, .ty b, _ => rfl
  | _, _, _, .exc h, _ => rfl
  | _, _, _, .cls x, _ => rfl
  | _, _, _, .rng h, _ => rfl
  | _, _, _, .lst h r, k => by simp [D.nl] at k
  | _, _, _, .fl h r, k => rfl
  | _, _, _, .tup h r, k => Reps.nodes r (by simpa [D.nl] using k)
  | _, _, _, .ft h r, k => rfl
  | _, _, _, .dct h e r, k => by simp [D.nl] at k
  | _, _, _, .ins h e r, k => by simp [D.nl] at k
theorem Reps.nodes : ∀ {l : List Addr} {vs : List V} {ds : List D}, Reps K H l vs ds → D.nl.nls ds = true → l = []
  | _, _, _, .nil, _ => rfl
  | _, _, _, .cons h r, k => by
    have k : (_ && _) = true := k
    rw [Bool.and_eq_true] at k
    rw [Rep.nodes h k.1, Reps.nodes r k.2]; rfl
end
theorem Same.k {l : List Addr} (s : Same H H') : ∀ a o, H a = some o → (a ∈ l ∨ mutO o = false) → H' a = some o := fun a o e _ => s a o e
theorem Rep.same {l : List Addr} {v : V} {d : D} (h : Rep K H l v d) (s : Same H H') : Rep K H' l v d := h.keep s.k
theorem Reps.same {l : List Addr} {vs : List V} {ds : List D} (h : Reps K H l vs ds) (s : Same H H') : Reps K H' l vs ds := h.keep s.k
theorem Reps.len : ∀ {l : List Addr} {vs : List V} {ds : List D}, Reps K H l vs ds → vs.length = ds.length
  | _, _, _, .nil => rfl
  | _, _, _, .cons h r => by simp [Reps.len r]
theorem Reps.app : ∀ {l m : List Addr} {vs ws : List V} {ds es : List D}, Reps K H l vs ds → Reps K H m ws es → Reps K H (l ++ m) (vs ++ ws) (ds ++ es)
  | _, _, _, _, _, _, .nil, r => r
  | _, _, _, _, _, _, .cons h t, r => by rw [List.append_assoc]; exact .cons h (Reps.app t r)
theorem Reps.get : ∀ {l : List Addr} {vs : List V} {ds : List D}, Reps K H l vs ds → ∀ {i : Nat} {d : D}, ds[i]? = some d → ∃ v m, vs[i]? = some v ∧ Rep K H m v d ∧ List.Sublist m l
  | _, _, _, .nil, i, d, e => by simp at e
  | _, _, _, .cons h r, 0, d, e => by
    simp only [List.getElem?_cons_zero, Option.some.injEq] at e
    subst e
    exact ⟨_, _, rfl, h, List.sublist_append_left _ _⟩
  | _, _, _, .cons h r, i + 1, d, e => by
    obtain ⟨v, m, e1, e2, e3⟩ := Reps.get r (i := i) (by simpa using e)
    exact ⟨v, m, by simpa using e1, e2, e3.trans (List.sublist_append_right _ _)⟩
/-- what a list, a tuple is -/
theorem Rep.lstI {l : List Addr} {v : V} {ds : List D} (h : Rep K H l v (.lst ds)) : ∃ p vs m, v = .ref p ∧ H p = some (.lst vs) ∧ Reps K H m vs ds ∧ l = p :: m := by
  cases h with
  | lst h r => exact ⟨_, _, _, rfl, h, r, rfl⟩
theorem Rep.flI {l : List Addr} {v : V} {ds : List D} (h : Rep K H l v (.fl ds)) : ∃ p vs, v = .ref p ∧ LK K H p vs ∧ Reps K H [] vs ds ∧ l = [] := by
  cases h with
  | fl h r => exact ⟨_, _, rfl, h, r, rfl⟩
theorem Rep.dctI {l : List Addr} {v : V} {ks : List Key} {ds : List D} (h : Rep K H l v (.dct ks ds)) : ∃ p kvs m, v = .ref p ∧ H p = some (.dK kvs) ∧ kvs.map (·.1) = ks ∧ Reps K H m (kvs.map (·.2)) ds ∧ l = p :: m := by
  cases h with
  | dct h e r => exact ⟨_, _, _, rfl, h, e, r, rfl⟩
theorem Rep.tupI {l : List Addr} {v : V} {ds : List D} (h : Rep K H l v (.tup ds)) : ∃ p vs, v = .ref p ∧ H p = some (.tup vs) ∧ Reps K H l vs ds := by
  cases h with
  | tup h r => exact ⟨_, _, rfl, h, r⟩
theorem Rep.ftI {l : List Addr} {v : V} {ds : List D} (h : Rep K H l v (.ft ds)) : ∃ p vs, v = .ref p ∧ SqT K H p vs ∧ Reps K H [] vs ds ∧ l = [] := by
  cases h with
  | ft h r => exact ⟨_, _, rfl, h, r, rfl⟩
theorem Rep.intI {l : List Addr} {v : V} {i : Int} (h : Rep K H l v (.int i)) : v = .int i ∧ l = [] := by cases h; exact ⟨rfl, rfl⟩
theorem Rep.blI {l : List Addr} {v : V} {i : Bool} (h : Rep K H l v (.bl i)) : v = .bl i ∧ l = [] := by cases h; exact ⟨rfl, rfl⟩
theorem Rep.strI {l : List Addr} {v : V} {i : Str} (h : Rep K H l v (.str i)) : v = .str i ∧ l = [] := by cases h; exact ⟨rfl, rfl⟩
theorem Rep.tyI {l : List Addr} {v : V} {i : String} (h : Rep K H l v (.ty i)) : v = .ty i ∧ l = [] := by cases h; exact ⟨rfl, rfl⟩
end
/-- for each name: is it its own (nobody else holds what it holds), and its data -/
abbrev DSt := List (Option (Bool × D))
def OwnN (S : DSt) (L : Nat → List Addr) (a : Addr) : Prop := ∃ i d, S[i]? = some (some (true, d)) ∧ a ∈ L i
def AnyN (S : DSt) (L : Nat → List Addr) (a : Addr) : Prop := ∃ i b d, S[i]? = some (some (b, d)) ∧ a ∈ L i
theorem OwnN.any {S : DSt} {L : Nat → List Addr} {a : Addr} (h : OwnN S L a) : AnyN S L a := let ⟨i, d, e, m⟩ := h; ⟨i, true, d, e, m⟩
structure SR (K : PySem.W.Frag) (G : List (Addr × HO)) (H : Hp) (σ : St) (S : DSt) (L : Nat → List Addr) : Prop where
  len : σ.length = S.length
  gs : ∀ p ∈ G, H p.1 = some p.2 ∧ mutO p.2 = false
  rep : ∀ i b d, S[i]? = some (some (b, d)) → ∃ v, σ[i]? = some (some v) ∧ Rep K H (L i) v d
  own : ∀ i d, S[i]? = some (some (true, d)) → (L i).Nodup
  sep : ∀ i j d b e, S[i]? = some (some (true, d)) → S[j]? = some (some (b, e)) → i ≠ j → ∀ a ∈ L i, a ∉ L j
/-- of what kind a value is: made anew but for what the names is own; free of what any name owns; anything -/
inductive Kn where
  | bor (is : List Nat) | safe | weak
def Kn.cat : Kn → Kn → Kn
  | .bor is, .bor js => if is.all fun i => !js.contains i then .bor (is ++ js) else .weak
  | .bor [], .safe => .safe
  | .safe, .bor [] => .safe
  | .safe, .safe => .safe
  | _, _ => .weak
def D.nk (d : D) (k : Kn) : Kn := if d.nl then .bor [] else k
structure KP (H : Hp) (S : DSt) (L : Nat → List Addr) (l : List Addr) (k : Kn) : Prop where
  any : ∀ a ∈ l, H a = none ∨ AnyN S L a
  kd : match k with
    | .bor is => l.Nodup ∧ ∀ a ∈ l, H a = none ∨ ∃ i ∈ is, ∃ d, S[i]? = some (some (true, d)) ∧ a ∈ L i
    | .safe => ∀ a ∈ l, H a = none ∨ ¬ OwnN S L a
    | .weak => True
section
variable {K : PySem.W.Frag} {G : List (Addr × HO)} {H H1 H2 : Hp} {σ : St} {S : DSt} {L : Nat → List Addr} {l m : List Addr} {k k' : Kn}
theorem SR.same (s : SR K G H σ S L) (e : Same H H1) : SR K G H1 σ S L :=
  ⟨s.len, fun p hp => ⟨e _ _ (s.gs p hp).1, (s.gs p hp).2⟩, fun i b d h => let ⟨v, e1, e2⟩ := s.rep i b d h; ⟨v, e1, e2.same e⟩, s.own, s.sep⟩
theorem SR.dom (s : SR K G H σ S L) {a : Addr} (h : AnyN S L a) : ∃ o, H a = some o ∧ mutO o = true := by
  obtain ⟨i, b, d, e, m⟩ := h
  obtain ⟨v, _, r⟩ := s.rep i b d e
  exact r.dom a m
theorem KP.nil (k : Kn) : KP H S L [] k := ⟨fun a m => by simp at m, by cases k <;> simp⟩
theorem KP.back (h : KP H1 S L l k) (e : Same H H1) : KP H S L l k := by
  refine ⟨fun a m => (h.any a m).imp_left e.free, ?_⟩
  have := h.kd
  cases k with
  | bor is => exact ⟨this.1, fun a m => (this.2 a m).imp_left e.free⟩
  | safe => exact fun a m => (this a m).imp_left e.free
  | weak => trivial
theorem KP.toSafe (h : KP H S L l (.bor [])) : KP H S L l .safe := ⟨h.any, fun a m => by
  rcases h.kd.2 a m with z | ⟨i, hi, _⟩
  · exact .inl z
  · simp at hi⟩
theorem KP.toWeak (h : KP H S L l k) : KP H S L l .weak := ⟨h.any, trivial⟩
theorem KP.sub (h : KP H S L l k) (s : List.Sublist m l) : KP H S L m k := by
  refine ⟨fun a z => h.any a (s.subset z), ?_⟩
  have := h.kd
  cases k with
  | bor is => exact ⟨this.1.sublist s, fun a z => this.2 a (s.subset z)⟩
  | safe => exact fun a z => this a (s.subset z)
  | weak => trivial
/-- first l, made from H to H1; then m, made behind H1 -/
theorem KP.cat (s : SR K G H σ S L) (e : Same H H1) (hl : KP H S L l k) (dl : ∀ a ∈ l, ∃ o, H1 a = some o ∧ mutO o = true) (hm : KP H1 S L m k') : KP H S L (l ++ m) (k.cat k') := by
  have any : ∀ a ∈ l ++ m, H a = none ∨ AnyN S L a := fun a z => by
    rcases List.mem_append.mp z with z | z
    · exact hl.any a z
    · exact (hm.any a z).imp_left e.free
  have hmb := hm.back e
  have weak : KP H S L (l ++ m) .weak := ⟨any, trivial⟩
  have safe : KP H S L l .safe → KP H S L m .safe → KP H S L (l ++ m) .safe := fun p q => ⟨any, fun a z => by
    rcases List.mem_append.mp z with z | z
    · exact p.kd a z
    · exact q.kd a z⟩
  cases k with
  | bor is =>
    cases k' with
    | bor js =>
      show KP H S L (l ++ m) (if _ then _ else _)
      split
      · rename_i hd
        refine ⟨any, List.nodup_append.mpr ⟨hl.kd.1, hm.kd.1, fun a ha b hb => ?_⟩, fun a z => ?_⟩
        · rintro rfl
          obtain ⟨o, ho, _⟩ := dl a ha
          rcases hm.kd.2 a hb with z | ⟨j, hj, d, hd1, hd2⟩
          · rw [ho] at z; cases z
          · rcases hl.kd.2 a ha with z | ⟨i, hi, d', hd3, hd4⟩
            · obtain ⟨o', ho', _⟩ := s.dom ⟨j, _, _, hd1, hd2⟩
              rw [z] at ho'; cases ho'
            · have hij : i ≠ j := by
                rintro rfl
                have := List.all_eq_true.mp hd i hi
                simp [List.contains_iff_mem, hj] at this
              exact s.sep i j _ _ _ hd3 hd1 hij a hd4 hd2
        · rcases List.mem_append.mp z with z | z
          · exact (hl.kd.2 a z).imp_right fun ⟨i, hi, r⟩ => ⟨i, List.mem_append.mpr (.inl hi), r⟩
          · exact (hmb.kd.2 a z).imp_right fun ⟨i, hi, r⟩ => ⟨i, List.mem_append.mpr (.inr hi), r⟩
      · exact weak
    | safe =>
      cases is with
      | nil => exact safe hl.toSafe hmb
      | cons i is => exact weak
    | weak => cases is <;> exact weak
  | safe =>
    cases k' with
    | bor js =>
      cases js with
      | nil => exact safe hl hmb.toSafe
      | cons i is => exact weak
    | safe => exact safe hl hmb
    | weak => exact weak
  | weak => cases k' <;> exact weak
theorem KP.nk {v : V} {d : D} (h : KP H S L l k) (r : Rep K H1 l v d) : KP H S L l (d.nk k) := by
  unfold D.nk
  split
  · rename_i z
    rw [r.nodes z]; exact .nil _
  · exact h
end
end L2
set_option Elab.async false
set_option linter.all false
set_option maxRecDepth 100000
namespace L2
open PySem PySem.Spec PyProof.Rows
inductive Rs (α : Type) where
  | ok (a : α) | exc (x : Addr)
def bnd {α β : Type} (o : Option (Rs α)) (g : α → Option (Rs β)) : Option (Rs β) := match o with
  | some (.ok a) => g a
  | some (.exc x) => some (.exc x)
  | none => none
theorem bnd_ok {α β : Type} {o : Option (Rs α)} {g : α → Option (Rs β)} {b : β} (h : bnd o g = some (.ok b)) : ∃ a, o = some (.ok a) ∧ g a = some (.ok b) := by
  unfold bnd at h; split at h
  · exact ⟨_, rfl, h⟩
  · cases h
  · cases h
theorem bnd_ex {α β : Type} {o : Option (Rs α)} {g : α → Option (Rs β)} {x : Addr} (h : bnd o g = some (.exc x)) : o = some (.exc x) ∨ ∃ a, o = some (.ok a) ∧ g a = some (.exc x) := by
  unfold bnd at h; split at h
  · exact .inr ⟨_, rfl, h⟩
  · exact .inl (by cases h; rfl)
  · cases h
abbrev EF := DSt → Option (Rs (D × Kn))
abbrev AF := DSt → Option (Rs (List D × Kn))
abbrev TF := DSt → Option (Rs Bool)
/-- what is wanted where an exception of the class at x flies -/
abbrev XR := Addr → St → Hp → Prop
structure DE (K : PySem.W.Frag) (G : List (Addr × HO)) (R : XR) (t : TE) (f : EF) : Prop where
  ok : ∀ {H σ S L}, SR K G H σ S L → ∀ {d k}, f S = some (.ok (d, k)) → ∀ {Q : VK}, (∀ v H' l, Same H H' → Rep K H' l v d → KP H S L l k → Q v H') → t σ H Q
  ex : ∀ {H σ S L}, SR K G H σ S L → ∀ {x}, f S = some (.exc x) → ∀ {Q : VK}, (∀ H', Same H H' → R x σ H') → t σ H Q
structure DA (K : PySem.W.Frag) (G : List (Addr × HO)) (R : XR) (t : TA) (f : AF) : Prop where
  ok : ∀ {H σ S L}, SR K G H σ S L → ∀ {ds k}, f S = some (.ok (ds, k)) → ∀ {Q : List V → Hp → Prop}, (∀ vs H' l, Same H H' → Reps K H' l vs ds → KP H S L l k → Q vs H') → t σ H Q
  ex : ∀ {H σ S L}, SR K G H σ S L → ∀ {x}, f S = some (.exc x) → ∀ {Q : List V → Hp → Prop}, (∀ H', Same H H' → R x σ H') → t σ H Q
structure DT (K : PySem.W.Frag) (G : List (Addr × HO)) (R : XR) (t : TT) (f : TF) : Prop where
  ok : ∀ {H σ S L}, SR K G H σ S L → ∀ {b}, f S = some (.ok b) → ∀ {Q : Bool → Hp → Prop}, (∀ H', Same H H' → Q b H') → t σ H Q
  ex : ∀ {H σ S L}, SR K G H σ S L → ∀ {x}, f S = some (.exc x) → ∀ {Q : Bool → Hp → Prop}, (∀ H', Same H H' → R x σ H') → t σ H Q
section
variable {K : PySem.W.Frag} {G : List (Addr × HO)} {R : XR}
def eVar (i : Nat) : EF := fun S => match S[i]? with
  | some (some (true, d)) => some (.ok (d, .bor [i]))
  | some (some (false, d)) => some (.ok (d, .safe))
  | _ => none
theorem de_var (i : Nat) : DE K G R (tVar i) (eVar i) where
  ok := by
    intro H σ S L s d k h Q q
    unfold eVar at h
    split at h
    · rename_i d' e
      cases h
      obtain ⟨v, e1, e2⟩ := s.rep i _ _ e
      exact ⟨v, e1, q v H _ (Same.refl H) e2 ⟨fun a m => .inr ⟨i, _, _, e, m⟩, s.own i _ e, fun a m => .inr ⟨i, by simp, _, e, m⟩⟩⟩
    · rename_i d' e
      cases h
      obtain ⟨v, e1, e2⟩ := s.rep i _ _ e
      refine ⟨v, e1, q v H _ (Same.refl H) e2 ⟨fun a m => .inr ⟨i, _, _, e, m⟩, fun a m => .inr ?_⟩⟩
      rintro ⟨j, d2, e3, m2⟩
      have hij : j ≠ i := by rintro rfl; rw [e] at e3; cases e3
      exact s.sep j i _ _ _ e3 e hij a m2 m
    · cases h
  ex := by
    intro H σ S L s x h
    unfold eVar at h
    split at h <;> cases h
def eC (d : D) : EF := fun _ => some (.ok (d, .bor []))
theorem de_c {v : V} {d : D} (h : ∀ H, Rep K H [] v d) : DE K G R (tC v) (eC d) where
  ok := by
    intro H σ S L s d' k e Q q
    cases e
    exact q v H [] (Same.refl H) (h H) (.nil _)
  ex := by intro H σ S L s x e; cases e
theorem de_int (i : Int) : DE K G R (tC (.int i)) (eC (.int i)) := de_c fun _ => .int i
theorem de_bl (i : Bool) : DE K G R (tC (.bl i)) (eC (.bl i)) := de_c fun _ => .bl i
theorem de_str (i : Str) : DE K G R (tC (.str i)) (eC (.str i)) := de_c fun _ => .str i
theorem de_non : DE K G R (tC .non) (eC .non) := de_c fun _ => .non
theorem de_ty (n : String) : DE K G R (tC (.ty n)) (eC (.ty n)) := de_c fun _ => .ty n
def eTwo (g : D × Kn → D × Kn → Option (D × Kn)) (fa fb : EF) : EF := fun S => bnd (fa S) fun a => bnd (fb S) fun b => (g a b).map .ok
theorem map_ok {α : Type} {o : Option α} {b : α} (h : o.map Rs.ok = some (.ok b)) : o = some b := by
  cases o with
  | none => cases h
  | some a => cases h; rfl
theorem map_ex {α : Type} {o : Option α} {x : Addr} (h : o.map Rs.ok = some (.exc x)) : False := by
  cases o with
  | none => cases h
  | some a => cases h
theorem de_two {r : R2} {g : D × Kn → D × Kn → Option (D × Kn)} {ta tb : TE} {fa fb : EF} (ha : DE K G R ta fa) (hb : DE K G R tb fb)
    (h : ∀ {H σ S L H1 H2 x y lx ly a k b k' d kd}, SR K G H σ S L → Same H H1 → Same H1 H2 → Rep K H1 lx x a → KP H S L lx k → Rep K H2 ly y b → KP H1 S L ly k' → g (a, k) (b, k') = some (d, kd) → ∀ {Q : VK}, (∀ v H' l, Same H2 H' → Rep K H' l v d → KP H S L l kd → Q v H') → r x y H2 Q) :
    DE K G R (tOp r ta tb) (eTwo g fa fb) where
  ok := by
    intro H σ S L s d k e Q q
    obtain ⟨⟨a, ka⟩, e1, e⟩ := bnd_ok e
    obtain ⟨⟨b, kb⟩, e2, e⟩ := bnd_ok e
    refine ha.ok s e1 fun x H1 lx s1 r1 k1 => ?_
    refine hb.ok (s.same s1) e2 fun y H2 ly s2 r2 k2 => ?_
    exact h s s1 s2 r1 k1 r2 k2 (map_ok e) fun v H' l s3 r3 k3 => q v H' l ((s1.trans s2).trans s3) r3 k3
  ex := by
    intro H σ S L s x e Q q
    rcases bnd_ex e with e1 | ⟨⟨a, ka⟩, e1, e⟩
    · exact ha.ex s e1 q
    · refine ha.ok s e1 fun x H1 lx s1 r1 k1 => ?_
      rcases bnd_ex e with e2 | ⟨⟨b, kb⟩, e2, e⟩
      · exact hb.ex (s.same s1) e2 fun H' s2 => q H' (s1.trans s2)
      · exact (map_ex e).elim
/-- the answer has no changeable thing in it -/
def g0 (g : D → D → Option D) : D × Kn → D × Kn → Option (D × Kn) := fun a b => (g a.1 b.1).map fun d => (d, .bor [])
theorem de_op {r : R2} {g : D → D → Option D} {ta tb : TE} {fa fb : EF} (h : ∀ {H x y lx ly a b d}, Rep K H lx x a → Rep K H ly y b → g a b = some d → ∀ {Q : VK}, (∀ v, Rep K H [] v d → Q v H) → r x y H Q) (ha : DE K G R ta fa) (hb : DE K G R tb fb) :
    DE K G R (tOp r ta tb) (eTwo (g0 g) fa fb) :=
  de_two ha hb fun {H σ S L H1 H2 x y lx ly a k b k' d kd} s s1 s2 r1 k1 r2 k2 e Q q => by
    unfold g0 at e
    cases e3 : g a b with
    | none => rw [e3] at e; cases e
    | some d' =>
      rw [e3] at e; cases e
      exact h (r1.same s2) r2 e3 fun v rv => q v H2 [] (Same.refl _) rv (.nil _)
def gI (f : Int → Int → D) : D → D → Option D
  | .int i, .int j => some (f i j)
  | _, _ => none
def gIc (c : Int → Int → Prop) [∀ i j, Decidable (c i j)] (f : Int → Int → D) : D → D → Option D
  | .int i, .int j => if c i j then some (f i j) else none
  | _, _ => none
theorem gI_some {f : Int → Int → D} {a b d : D} (h : gI f a b = some d) : ∃ i j, a = .int i ∧ b = .int j ∧ d = f i j := by
  unfold gI at h; split at h
  · cases h; exact ⟨_, _, rfl, rfl, rfl⟩
  · cases h
theorem gIc_some {c : Int → Int → Prop} [∀ i j, Decidable (c i j)] {f : Int → Int → D} {a b d : D} (h : gIc c f a b = some d) : ∃ i j, a = .int i ∧ b = .int j ∧ c i j ∧ d = f i j := by
  unfold gIc at h; split at h
  · split at h
    · rename_i z; cases h; exact ⟨_, _, rfl, rfl, z, rfl⟩
    · cases h
  · cases h
theorem de_rI0 {g : Int → Int → V} {f : Int → Int → D} {ta tb : TE} {fa fb : EF} (hg : ∀ H i j, Rep K H [] (g i j) (f i j)) (ha : DE K G R ta fa) (hb : DE K G R tb fb) : DE K G R (tOp (rI0 g) ta tb) (eTwo (g0 (gI f)) fa fb) :=
  de_op (fun {H x y lx ly a b d} r1 r2 e Q q => by
    obtain ⟨i, j, rfl, rfl, rfl⟩ := gI_some e
    exact ⟨i, j, r1.intI.1, r2.intI.1, q _ (hg H i j)⟩) ha hb
theorem de_rI {C : Int → Int → Prop} {c : Int → Int → Prop} [∀ i j, Decidable (c i j)] {g : Int → Int → V} {f : Int → Int → D} {ta tb : TE} {fa fb : EF} (hC : ∀ i j, c i j → C i j) (hg : ∀ H i j, Rep K H [] (g i j) (f i j)) (ha : DE K G R ta fa) (hb : DE K G R tb fb) :
    DE K G R (tOp (rI C g) ta tb) (eTwo (g0 (gIc c f)) fa fb) :=
  de_op (fun {H x y lx ly a b d} r1 r2 e Q q => by
    obtain ⟨i, j, rfl, rfl, z, rfl⟩ := gIc_some e
    exact ⟨i, j, r1.intI.1, r2.intI.1, hC i j z, q _ (hg H i j)⟩) ha hb
/-- a number within the line that the rules know -/
def small (i : Int) : Bool := decide (i.natAbs < 2 ^ 4000)
abbrev eSub : EF → EF → EF := eTwo (g0 (gI fun i j => .int (i - j)))
abbrev eMod : EF → EF → EF := eTwo (g0 (gIc (fun _ j => 0 < j) fun i j => .int (i % j)))
abbrev eDiv : EF → EF → EF := eTwo (g0 (gIc (fun _ j => 0 < j ∧ small j = true) fun i j => .int (i / j)))
abbrev ePow : EF → EF → EF := eTwo (g0 (gIc (fun i j => 0 ≤ j ∧ j ≤ 100 ∧ small i = true) fun i j => .int (i ^ j.toNat)))
abbrev eShl : EF → EF → EF := eTwo (g0 (gIc (fun i j => 0 ≤ j ∧ j ≤ 1000000 ∧ i.natAbs < 2 ^ 64) fun i j => .int (i * 2 ^ j.toNat)))
abbrev eShr : EF → EF → EF := eTwo (g0 (gIc (fun i j => 0 ≤ j) fun i j => .int (i / 2 ^ j.toNat)))
abbrev eAndB : EF → EF → EF := eTwo (g0 (gI fun i j => .int (Builtin.bitAnd i j)))
abbrev eOrB : EF → EF → EF := eTwo (g0 (gI fun i j => .int (Builtin.bitOr i j)))
abbrev eXorB : EF → EF → EF := eTwo (g0 (gI fun i j => .int (Builtin.bitXor i j)))
abbrev eLt : EF → EF → EF := eTwo (g0 (gI fun i j => .bl (decide (i < j))))
abbrev eLe : EF → EF → EF := eTwo (g0 (gI fun i j => .bl (decide (i ≤ j))))
abbrev eGt : EF → EF → EF := eTwo (g0 (gI fun i j => .bl (decide (j < i))))
abbrev eGe : EF → EF → EF := eTwo (g0 (gI fun i j => .bl (decide (j ≤ i))))
theorem small_of {i : Int} (h : small i = true) : i.natAbs < 2 ^ 4000 := of_decide_eq_true h
theorem small8 {i : Int} (h : small i = true) : i.natAbs < 2 ^ 8000 := Nat.lt_of_lt_of_le (small_of h) (Nat.pow_le_pow_right (by decide) (by decide))
section
variable {ta tb : TE} {fa fb : EF}
theorem de_sub (ha : DE K G R ta fa) (hb : DE K G R tb fb) : DE K G R (tOp (rI0 fun i j => .int (i - j)) ta tb) (eSub fa fb) := de_rI0 (fun _ _ _ => .int _) ha hb
theorem de_mod (ha : DE K G R ta fa) (hb : DE K G R tb fb) : DE K G R (tOp (rI (fun _ j => 0 < j) fun i j => .int (i % j)) ta tb) (eMod fa fb) := de_rI (fun _ _ h => h) (fun _ _ _ => .int _) ha hb
theorem de_div (ha : DE K G R ta fa) (hb : DE K G R tb fb) : DE K G R (tOp (rI CDivB fun i j => .int (i / j)) ta tb) (eDiv fa fb) := de_rI (fun _ _ h => ⟨h.1, small8 h.2⟩) (fun _ _ _ => .int _) ha hb
theorem de_pow (ha : DE K G R ta fa) (hb : DE K G R tb fb) : DE K G R (tOp (rI CPowB fun i j => .int (i ^ j.toNat)) ta tb) (ePow fa fb) := de_rI (fun _ _ h => ⟨h.1, h.2.1, small_of h.2.2⟩) (fun _ _ _ => .int _) ha hb
theorem de_shl (ha : DE K G R ta fa) (hb : DE K G R tb fb) : DE K G R (tOp (rI CPow fun i j => .int (i * 2 ^ j.toNat)) ta tb) (eShl fa fb) := de_rI (fun _ _ h => h) (fun _ _ _ => .int _) ha hb
theorem de_shr (ha : DE K G R ta fa) (hb : DE K G R tb fb) : DE K G R (tOp (rI (fun _ j => 0 ≤ j) fun i j => .int (i / 2 ^ j.toNat)) ta tb) (eShr fa fb) := de_rI (fun _ _ h => h) (fun _ _ _ => .int _) ha hb
theorem de_and (ha : DE K G R ta fa) (hb : DE K G R tb fb) : DE K G R (tOp (rI0 fun i j => .int (Builtin.bitAnd i j)) ta tb) (eAndB fa fb) := de_rI0 (fun _ _ _ => .int _) ha hb
theorem de_lt (ha : DE K G R ta fa) (hb : DE K G R tb fb) : DE K G R (tOp (rI0 fun i j => .bl (decide (i < j))) ta tb) (eLt fa fb) := de_rI0 (fun _ _ _ => .bl _) ha hb
end
section
variable {X : Cx}
def rOr (r r' : R2) : R2 := fun x y H Q => r x y H Q ∨ r' x y H Q
theorem opOr {f : Value → Value → Sem Value} {r r' : R2} (h : OpR X f r) (h' : OpR X f r') : OpR X f (rOr r r') := by
  intro pins s σ H x y v u Q I rx ry q
  rcases q with q | q
  · exact h pins s σ H x y v u Q I rx ry q
  · exact h' pins s σ H x y v u Q I rx ry q
def rcOr (r r' : List V → Hp → VK → Prop) : List V → Hp → VK → Prop := fun xs H Q => r xs H Q ∨ r' xs H Q
theorem crOr {f : Value} {r r' : List V → Hp → VK → Prop} (h : CallR X f r) (h' : CallR X f r') : CallR X f (rcOr r r') := by
  intro pins s σ H xs us Q I r q
  rcases q with q | q
  · exact h pins s σ H xs us Q I r q
  · exact h' pins s σ H xs us Q I r q
end
def nks (ds : List D) (k : Kn) : Kn := if D.nl.nls ds then .bor [] else k
theorem KP.nks {H H1 : Hp} {S : DSt} {L : Nat → List Addr} {l : List Addr} {k : Kn} {vs : List V} {ds : List D} (h : KP H S L l k) (r : Reps K H1 l vs ds) : KP H S L l (nks ds k) := by
  unfold L2.nks
  split
  · rename_i z
    rw [r.nodes z]; exact .nil _
  · exact h
/-- a new object on top -/
theorem KP.top {H : Hp} {S : DSt} {L : Nat → List Addr} {l : List Addr} {k : Kn} {p : Addr} (h : KP H S L l k) (hp : H p = none) (hn : p ∉ l) : KP H S L (p :: l) k := by
  refine ⟨fun a m => ?_, ?_⟩
  · rcases List.mem_cons.mp m with rfl | m
    · exact .inl hp
    · exact h.any a m
  · have := h.kd
    cases k with
    | bor is =>
      refine ⟨List.nodup_cons.mpr ⟨hn, this.1⟩, fun a m => ?_⟩
      rcases List.mem_cons.mp m with rfl | m
      · exact .inl hp
      · exact this.2 a m
    | safe =>
      intro a m
      rcases List.mem_cons.mp m with rfl | m
      · exact .inl hp
      · exact this a m
    | weak => trivial
theorem Same.upd {H : Hp} {p : Addr} {u : HO} (h : H p = none) : Same H (upd H p u) := fun a o e => by rw [upd_ne (ne_of_none e h)]; exact e
theorem Reps.notin {H : Hp} {l : List Addr} {vs : List V} {ds : List D} {p : Addr} (r : Reps K H l vs ds) (h : H p = none) : p ∉ l := fun m => by
  obtain ⟨o, e, _⟩ := r.dom p m
  rw [h] at e; cases e
theorem Rep.notin {H : Hp} {l : List Addr} {vs : V} {ds : D} {p : Addr} (r : Rep K H l vs ds) (h : H p = none) : p ∉ l := fun m => by
  obtain ⟨o, e, _⟩ := r.dom p m
  rw [h] at e; cases e
section
variable {ta tb : TE} {fa fb : EF}
def rAddA : R2 := rOr (rI0 fun i j => .int (i + j)) (rOr rCat (fun x y H Q => ∃ i j, x = .str i ∧ y = .str j ∧ i.length + j.length ≤ sizeLine ∧ Q (.str (i ++ j)) H))
theorem op_addA {X : Cx} : OpR X (binaryOp .Add) rAddA := opOr op_add (opOr op_cat op_add_str)
def gAdd : D × Kn → D × Kn → Option (D × Kn)
  | (.int i, _), (.int j, _) => some (.int (i + j), .bor [])
  | (.str i, _), (.str j, _) => if i.length + j.length ≤ sizeLine then some (.str (i ++ j), .bor []) else none
  | (.lst a, k), (.lst b, k') => if a.length + b.length ≤ sizeLine then some (.lst (a ++ b), (nks a k).cat (nks b k')) else none
  | _, _ => none
abbrev eAdd : EF → EF → EF := eTwo gAdd
theorem de_add (ha : DE K G R ta fa) (hb : DE K G R tb fb) : DE K G R (tOp rAddA ta tb) (eAdd fa fb) :=
  de_two ha hb fun {H σ S L H1 H2 x y lx ly a k b k' d kd} s s1 s2 r1 k1 r2 k2 e Q q => by
    unfold gAdd at e
    split at e
    · rename_i i _ j _ e1 e2
      cases e1; cases e2; cases e
      exact .inl ⟨i, j, r1.intI.1, r2.intI.1, q _ H2 [] (Same.refl _) (.int _) (.nil _)⟩
    · rename_i i _ j _ e1 e2
      cases e1; cases e2
      split at e
      · rename_i hz
        cases e
        exact .inr (.inr ⟨i, j, r1.strI.1, r2.strI.1, hz, q _ H2 [] (Same.refl _) (.str _) (.nil _)⟩)
      · cases e
    · rename_i a k b k' e1 e2
      cases e1; cases e2
      split at e
      · rename_i hz
        cases e
        obtain ⟨p, vs, m, rfl, hp, rp, rfl⟩ := r1.lstI
        obtain ⟨p', vs', m', rfl, hp', rp', rfl⟩ := r2.lstI
        refine .inr (.inl ⟨p, p', vs, vs', rfl, rfl, s2 _ _ hp, hp', by rw [rp.len, rp'.len]; exact hz, fun n hn => ?_⟩)
        have kk : KP H S L (m ++ m') ((L2.nks a k).cat (L2.nks b k')) := KP.cat s s1 ((k1.sub (List.sublist_cons_self _ _)).nks rp) (fun c hc => rp.dom c hc) ((k2.sub (List.sublist_cons_self _ _)).nks rp')
        have rr := (rp.same s2).app rp'
        exact q _ _ (n :: (m ++ m')) (.upd hn) (.lst upd_same (rr.same (.upd hn))) (kk.top (s1.free (s2.free hn)) (rr.notin hn))
      · cases e
    · cases e
def rMulA : R2 := rOr (rI CMulB fun i j => .int (i * j)) rRep
theorem op_mulA {X : Cx} : OpR X (binaryOp .Mult) rMulA := opOr op_mulB op_rep
def gMul : D × Kn → D × Kn → Option (D × Kn)
  | (.int i, _), (.int j, _) => if small i && small j then some (.int (i * j), .bor []) else none
  | (.lst a, _), (.int k, _) => if D.nl.nls a && decide (-(2 ^ 63) ≤ k) && decide (k < 2 ^ 63) && decide (a.length * k.toNat ≤ sizeLine) then some (.lst (List.replicate k.toNat a).flatten, .bor []) else none
  | _, _ => none
abbrev eMul : EF → EF → EF := eTwo gMul
theorem Reps.rep {H : Hp} {vs : List V} {ds : List D} (r : Reps K H [] vs ds) : ∀ n : Nat, Reps K H [] (List.replicate n vs).flatten (List.replicate n ds).flatten
  | 0 => .nil
  | n + 1 => by
    rw [List.replicate_succ, List.replicate_succ, List.flatten_cons, List.flatten_cons]
    exact Reps.app (l := []) (m := []) r (Reps.rep r n)
theorem de_mul (ha : DE K G R ta fa) (hb : DE K G R tb fb) : DE K G R (tOp rMulA ta tb) (eMul fa fb) :=
  de_two ha hb fun {H σ S L H1 H2 x y lx ly a k b k' d kd} s s1 s2 r1 k1 r2 k2 e Q q => by
    unfold gMul at e
    split at e
    · rename_i i _ j _ e1 e2
      cases e1; cases e2
      split at e
      · rename_i hz
        cases e
        rw [Bool.and_eq_true] at hz
        exact .inl ⟨i, j, r1.intI.1, r2.intI.1, ⟨small_of hz.1, small_of hz.2⟩, q _ H2 [] (Same.refl _) (.int _) (.nil _)⟩
      · cases e
    · rename_i a _ k _ e1 e2
      cases e1; cases e2
      split at e
      · rename_i hz
        cases e
        simp only [Bool.and_eq_true, decide_eq_true_eq] at hz
        obtain ⟨⟨⟨h1, h2⟩, h3⟩, h4⟩ := hz
        obtain ⟨p, vs, m, rfl, hp, rp, rfl⟩ := r1.lstI
        have hm := rp.nodes h1
        subst hm
        refine .inr ⟨p, k, vs, rfl, r2.intI.1, s2 _ _ hp, h2, h3, by rw [rp.len]; exact h4, fun n hn => ?_⟩
        have rr := (rp.same s2).rep k.toNat
        exact q _ _ [n] (.upd hn) (.lst upd_same (rr.same (.upd hn))) (KP.top (.nil _) (s1.free (s2.free hn)) (by simp))
      · cases e
    · cases e
end
mutual
def D.eqv : D → D → Bool
  | .non, .non => true
  | .bl a, .bl b => a == b
  | .bl a, .int j => (if a then 1 else 0) == j
  | .int i, .bl b => i == (if b then 1 else 0)
  | .int i, .int j => i == j
  | .str x, .str y => x == y
  | .lst a, .lst b => eqvs a b
  | .tup a, .tup b => eqvs a b
  | _, _ => false
def D.eqvs : List D → List D → Bool
  | [], [] => true
  | x :: xs, y :: ys => D.eqv x y && D.eqvs xs ys
  | _, _ => false
end
mutual
/-- comparable, to this depth -/
def D.lay : Nat → D → Bool
  | _, .non => true
  | _, .bl _ => true
  | _, .int _ => true
  | _, .str x => x.cps.all (· < 0x110000)
  | n + 1, .lst a => lays n a
  | n + 1, .tup a => lays n a
  | _, _ => false
def D.lays : Nat → List D → Bool
  | _, [] => true
  | n, x :: xs => D.lay n x && D.lays n xs
end
end
end L2
set_option Elab.async false
set_option linter.all false
set_option maxRecDepth 100000
namespace L2
open PySem PySem.Spec PyProof.Rows
section
variable {K : PySem.W.Frag} {G : List (Addr × HO)} {R : XR}
mutual
def D.toP : D → PyData
  | .non => .none
  | .bl b => .bool b
  | .int i => .int i
  | .str x => .str x
  | .lst a => .list (D.toPs a)
  | .tup a => .tuple (D.toPs a)
  | _ => .none
def D.toPs : List D → List PyData
  | [] => []
  | x :: xs => D.toP x :: D.toPs xs
end
theorem D.lays_cons (n : Nat) (x : D) (xs : List D) : D.lays n (x :: xs) = (D.lay n x && D.lays n xs) := by cases n <;> rfl
mutual
theorem D.lay_ok : ∀ (n : Nat) (d : D), d.lay n = true → d.toP.canLay0 = true ∧ d.toP.depth ≤ n
  | n, .non, _ => ⟨rfl, Nat.zero_le _⟩
  | n, .bl _, _ => ⟨rfl, Nat.zero_le _⟩
  | n, .int _, _ => ⟨rfl, Nat.zero_le _⟩
  | n, .str x, h => by
    have h : x.cps.all (· < 0x110000) = true := by cases n <;> exact h
    exact ⟨h, Nat.zero_le _⟩
  | n + 1, .lst a, h => by
    obtain ⟨h1, h2⟩ := D.lays_ok n a h
    exact ⟨h1, Nat.succ_le_succ h2⟩
  | n + 1, .tup a, h => by
    obtain ⟨h1, h2⟩ := D.lays_ok n a h
    exact ⟨h1, Nat.succ_le_succ h2⟩
  | 0, .lst a, h => by cases h
  | 0, .tup a, h => by cases h
  | n, .ref a, h => by cases n <;> cases h
  | n, .fl a, h => by cases n <;> cases h
  | n, .ft a, h => by cases n <;> cases h
  | n, .ty a, h => by cases n <;> cases h
  | n, .exc a, h => by cases n <;> cases h
  | n, .cls a, h => by cases n <;> cases h
  | n, .rng a b, h => by cases n <;> cases h
  | n, .dct a b, h => by cases n <;> cases h
  | n, .ins a b c, h => by cases n <;> cases h
theorem D.lays_ok : ∀ (n : Nat) (ds : List D), D.lays n ds = true → PyData.canLayAll0 (D.toPs ds) = true ∧ PyData.depthAll (D.toPs ds) ≤ n
  | n, [], _ => ⟨rfl, Nat.zero_le _⟩
  | n, x :: xs, h => by
    rw [D.lays_cons, Bool.and_eq_true] at h
    obtain ⟨h1, h2⟩ := D.lay_ok n x h.1
    obtain ⟨h3, h4⟩ := D.lays_ok n xs h.2
    refine ⟨?_, Nat.max_le.mpr ⟨h2, h4⟩⟩
    show (_ && _) = true
    rw [h1, h3]; rfl
end
mutual
theorem Rep.dp {H : Hp} : ∀ {l : List Addr} {v : V} {d : D} (n : Nat), Rep K H l v d → d.lay n = true → Dp K H v d.toP
  | _, _, _, _, .non, _ => .non
  | _, _, _, _, .bl b, _ => .bl b
  | _, _, _, _, .int b, _ => .int b
  | _, _, _, _, .str b, _ => .str b
  | _, _, _, n, .ref b, h => by cases n <;> cases h
  | _, _, _, n, .ty b, h => by cases n <;> cases h
  | _, _, _, n, .exc b, h => by cases n <;> cases h
  | _, _, _, n, .cls b, h => by cases n <;> cases h
  | _, _, _, n, .rng b, h => by cases n <;> cases h
  | _, _, _, n + 1, .lst h r, k => .lst (SqL.of h) (Reps.dp n r k)
  | _, _, _, 0, .lst h r, k => by cases k
  | _, _, _, n, .fl h r, k => by cases n <;> cases k
  | _, _, _, n + 1, .tup h r, k => .tup (SqT.of h) (Reps.dp n r k)
  | _, _, _, n, .ft h r, k => by cases n <;> cases k
  | _, _, _, 0, .tup h r, k => by cases k
  | _, _, _, n, .dct h e r, k => by cases n <;> cases k
  | _, _, _, n, .ins h e r, k => by cases n <;> cases k
theorem Reps.dp {H : Hp} : ∀ {l : List Addr} {vs : List V} {ds : List D} (n : Nat), Reps K H l vs ds → D.lays n ds = true → DpAll K H vs (D.toPs ds)
  | _, _, _, _, .nil, _ => .nil
  | _, _, _, n, .cons h r, k => by
    rw [D.lays_cons, Bool.and_eq_true] at k
    exact .cons (Rep.dp n h k.1) (Reps.dp n r k.2)
end
mutual
theorem D.eqv_toP : ∀ (n m : Nat) (d e : D), d.lay n = true → e.lay m = true → PyData.eqv d.toP e.toP = d.eqv e := by
  intro n m d e h1 h2
  cases d <;> cases e <;> first | rfl | (cases n <;> cases h1; done) | (cases m <;> cases h2; done) | skip
  · cases n with
    | zero => cases h1
    | succ n => cases m with
      | zero => cases h2
      | succ m => exact D.eqvs_toP n m _ _ h1 h2
  · cases n with
    | zero => cases h1
    | succ n => cases m with
      | zero => cases h2
      | succ m => exact D.eqvs_toP n m _ _ h1 h2
theorem D.eqvs_toP : ∀ (n m : Nat) (d e : List D), D.lays n d = true → D.lays m e = true → PyData.eqvAll (D.toPs d) (D.toPs e) = D.eqvs d e
  | n, m, [], [], _, _ => rfl
  | n, m, [], _ :: _, _, _ => rfl
  | n, m, _ :: _, [], _, _ => rfl
  | n, m, x :: xs, y :: ys, h1, h2 => by
    rw [D.lays_cons, Bool.and_eq_true] at h1 h2
    show (PyData.eqv _ _ && _) = (D.eqv _ _ && _)
    rw [D.eqv_toP n m x y h1.1 h2.1, D.eqvs_toP n m xs ys h1.2 h2.2]
end
theorem D.shaped_of {d : D} (h : d.lay 60 = true) : SeqAt.shaped d.toP = true := by
  obtain ⟨h1, h2⟩ := D.lay_ok 60 d h
  unfold SeqAt.shaped
  rw [h1, decide_eq_true (by omega)]; rfl
/-- == of two flat things, where that is plain -/
def scD : D → D → Option Bool
  | .non, .non => some true | .non, .int _ => some false | .int _, .non => some false | .non, .bl _ => some false | .bl _, .non => some false | .non, .str _ => some false | .str _, .non => some false
  | .int i, .int j => some (decide (i = j)) | .bl i, .bl j => some (decide (i = j)) | .str i, .str j => some (decide (i = j))
  | .int _, .str _ => some false | .str _, .int _ => some false | .bl _, .str _ => some false | .str _, .bl _ => some false
  | _, _ => none
def gEqB (a b : D) : Option Bool := match scD a b with
  | some c => some c
  | none => if a.lay 60 && b.lay 60 then some (a.eqv b) else none
def gEq (a b : D) : Option D := (gEqB a b).map .bl
def gNe (a b : D) : Option D := (gEqB a b).map fun c => .bl (!c)
theorem scD_ok {H : Hp} {lx ly : List Addr} {x y : V} {a b : D} {c : Bool} (r1 : Rep K H lx x a) (r2 : Rep K H ly y b) (h : scD a b = some c) : scal x y = true ∧ decide (x = y) = c := by
  unfold scD at h
  split at h <;> cases h <;> cases r1 <;> cases r2 <;> refine ⟨rfl, ?_⟩ <;> simp [decide_eq_decide]
def rEqA (K : PySem.W.Frag) : R2 := rOr rEq (rEqD K)
def rNeA (K : PySem.W.Frag) : R2 := rOr rNe (rNeD K)
theorem eqA {X : Cx} (K : PySem.W.Frag) (h : X.K = K) (hu : X.A.units + 64 < cLine) : OpR X (compareOp .Eq) (rEqA K) := opOr op_eq (eqS K h hu)
theorem neA {X : Cx} (K : PySem.W.Frag) (h : X.K = K) (hu : X.A.units + 64 < cLine) : OpR X (compareOp .NotEq) (rNeA K) := opOr op_ne (neS K h hu)
abbrev eEq : EF → EF → EF := eTwo (g0 gEq)
abbrev eNe : EF → EF → EF := eTwo (g0 gNe)
section
variable {ta tb : TE} {fa fb : EF}
theorem gEqB_ok {H : Hp} {lx ly : List Addr} {x y : V} {a b : D} {c : Bool} (r1 : Rep K H lx x a) (r2 : Rep K H ly y b) (h : gEqB a b = some c) :
    (scal x y = true ∧ decide (x = y) = c) ∨ ∃ d e, Dp K H x d ∧ Dp K H y e ∧ SeqAt.shaped d = true ∧ SeqAt.shaped e = true ∧ PyData.eqv d e = c := by
  unfold gEqB at h
  split at h
  · rename_i c' e
    cases h
    exact .inl (scD_ok r1 r2 e)
  · split at h
    · rename_i hl
      rw [Bool.and_eq_true] at hl
      cases h
      exact .inr ⟨a.toP, b.toP, r1.dp 60 hl.1, r2.dp 60 hl.2, D.shaped_of hl.1, D.shaped_of hl.2, D.eqv_toP 60 60 a b hl.1 hl.2⟩
    · cases h
theorem de_eq (ha : DE K G R ta fa) (hb : DE K G R tb fb) : DE K G R (tOp (rEqA K) ta tb) (eEq fa fb) :=
  de_op (fun {H x y lx ly a b d} r1 r2 e Q q => by
    unfold gEq at e
    cases e1 : gEqB a b with
    | none => rw [e1] at e; cases e
    | some c =>
      rw [e1] at e; cases e
      rcases gEqB_ok r1 r2 e1 with ⟨h1, h2⟩ | ⟨d, e, h1, h2, h3, h4, h5⟩
      · exact .inl ⟨h1, by rw [h2]; exact q _ (.bl c)⟩
      · exact .inr ⟨d, e, h1, h2, h3, h4, by rw [h5]; exact q _ (.bl c)⟩) ha hb
theorem de_ne (ha : DE K G R ta fa) (hb : DE K G R tb fb) : DE K G R (tOp (rNeA K) ta tb) (eNe fa fb) :=
  de_op (fun {H x y lx ly a b d} r1 r2 e Q q => by
    unfold gNe at e
    cases e1 : gEqB a b with
    | none => rw [e1] at e; cases e
    | some c =>
      rw [e1] at e; cases e
      rcases gEqB_ok r1 r2 e1 with ⟨h1, h2⟩ | ⟨d, e, h1, h2, h3, h4, h5⟩
      · exact .inl ⟨h1, by rw [h2]; exact q _ (.bl (!c))⟩
      · exact .inr ⟨d, e, h1, h2, h3, h4, by rw [h5]; exact q _ (.bl (!c))⟩) ha hb
def isN : D → Bool
  | .non => true
  | _ => false
theorem Rep.isN {H : Hp} {l : List Addr} {v : V} {d : D} (r : Rep K H l v d) : decide (v = .non) = L2.isN d := by cases r <;> rfl
def gIsN (a b : D) : Option D := match b with
  | .non => some (.bl (isN a))
  | _ => none
def gNotN (a b : D) : Option D := match b with
  | .non => some (.bl (!isN a))
  | _ => none
abbrev eIsN : EF → EF → EF := eTwo (g0 gIsN)
abbrev eNotN : EF → EF → EF := eTwo (g0 gNotN)
def gIx : D × Kn → D × Kn → Option (D × Kn)
  | (.lst ds, k), (.int i, _) => (atI ds i).map fun d => (d, d.nk (match k with | .bor (_ :: _) => .weak | k => k))
  | (.tup ds, k), (.int i, _) => (atI ds i).map fun d => (d, d.nk k)
  | (.fl ds, k), (.int i, _) => (atI ds i).map fun d => (d, d.nk k)
  | (.str z, _), (.int i, _) => if z.length ≤ sizeLine then (atI z.cps.toList i).map fun c => (.str ⟨#[c]⟩, .bor []) else none
  | _, _ => none
abbrev eIx : EF → EF → EF := eTwo gIx
theorem Reps.at {H : Hp} {l : List Addr} {vs : List V} {ds : List D} (r : Reps K H l vs ds) {i : Int} {d : D} (h : atI ds i = some d) : ∃ v m, atI vs i = some v ∧ Rep K H m v d ∧ List.Sublist m l := by
  unfold atI at h ⊢
  rw [r.len]
  cases e : ixN ds.length i with
  | none => rw [e] at h; cases h
  | some j =>
    rw [e] at h
    obtain ⟨v, m, e1, e2, e3⟩ := r.get (show ds[j]? = some d from h)
    exact ⟨v, m, e1, e2, e3⟩
theorem ixA {X : Cx} (K : PySem.W.Frag) (h : X.K = K) : IxR X (rIx K) := by subst h; exact ix_seq
theorem de_ix (ha : DE K G R ta fa) (hb : DE K G R tb fb) : DE K G R (tOp (rIx K) ta tb) (eIx fa fb) :=
  de_two ha hb fun {H σ S L H1 H2 x y lx ly a k b k' d kd} s s1 s2 r1 k1 r2 k2 e Q q => by
    unfold gIx at e
    split at e
    · rename_i ds k i _ e1 e2
      cases e1; cases e2
      cases e3 : atI ds i with
      | none => rw [e3] at e; cases e
      | some d' =>
        rw [e3] at e; cases e
        obtain ⟨p, vs, m, rfl, hp, rp, rfl⟩ := r1.lstI
        obtain ⟨v, n, e4, e5, e6⟩ := rp.at e3
        have kk := (k1.sub (e6.trans (List.sublist_cons_self _ _)))
        refine .inl ⟨p, vs, i, v, rfl, r2.intI.1, SqL.of (s2 _ _ hp), e4, q v H2 n (Same.refl _) (e5.same s2) ?_⟩
        refine KP.nk ?_ e5
        split
        · exact kk.toWeak
        · exact kk
    · rename_i ds k i _ e1 e2
      cases e1; cases e2
      cases e3 : atI ds i with
      | none => rw [e3] at e; cases e
      | some d' =>
        rw [e3] at e; cases e
        obtain ⟨p, vs, rfl, hp, rp⟩ := r1.tupI
        obtain ⟨v, n, e4, e5, e6⟩ := rp.at e3
        exact .inr (.inl ⟨p, vs, i, v, rfl, r2.intI.1, SqT.of (s2 _ _ hp), e4, q v H2 n (Same.refl _) (e5.same s2) (KP.nk (k1.sub e6) e5)⟩)
    · rename_i ds k i _ e1 e2
      cases e1; cases e2
      cases e3 : atI ds i with
      | none => rw [e3] at e; cases e
      | some d' =>
        rw [e3] at e; cases e
        obtain ⟨p, vs, rfl, hp, rp, rfl⟩ := r1.flI
        obtain ⟨v, n, e4, e5, e6⟩ := rp.at e3
        exact .inl ⟨p, vs, i, v, rfl, r2.intI.1, (hp.keep fun a o e _ => s2 a o e).sq, e4, q v H2 n (Same.refl _) (e5.same s2) (KP.nk (k1.sub e6) e5)⟩
    · rename_i z _ i _ e1 e2
      cases e1; cases e2
      split at e
      · rename_i hz
        cases e3 : atI z.cps.toList i with
        | none => rw [e3] at e; cases e
        | some c =>
          rw [e3] at e; cases e
          exact .inr (.inr ⟨z, i, c, r1.strI.1, r2.intI.1, hz, e3, q _ H2 [] (Same.refl _) (.str _) (.nil _)⟩)
      · cases e
    · cases e
end
end
end L2
set_option Elab.async false
set_option linter.all false
set_option maxRecDepth 100000
namespace L2
open PySem PySem.Spec PyProof.Rows
section
variable {K : PySem.W.Frag} {G : List (Addr × HO)} {R : XR}
def aNil : AF := fun _ => some (.ok ([], .bor []))
def aCons (f : EF) (g : AF) : AF := fun S => bnd (f S) fun a => bnd (g S) fun b => some (.ok (a.1 :: b.1, (a.1.nk a.2).cat b.2))
def aStar (f : EF) (g : AF) : AF := fun S => bnd (f S) fun a => match a.1 with
  | .lst ds => bnd (g S) fun b => some (.ok (ds ++ b.1, (nks ds a.2).cat b.2))
  | .fl ds => bnd (g S) fun b => some (.ok (ds ++ b.1, (nks ds a.2).cat b.2))
  | _ => none
def aK (ds : List D) : AF := fun _ => some (.ok (ds, .bor []))
theorem da_nil : DA K G R tNil aNil where
  ok := by intro H σ S L s ds k e Q q; cases e; exact q [] H [] (Same.refl H) .nil (.nil _)
  ex := by intro H σ S L s x e; cases e
theorem da_cons {te : TE} {t : TA} {f : EF} {g : AF} (he : DE K G R te f) (ht : DA K G R t g) : DA K G R (tCons te t) (aCons f g) where
  ok := by
    intro H σ S L s ds k e Q q
    obtain ⟨⟨a, ka⟩, e1, e⟩ := bnd_ok e
    obtain ⟨⟨b, kb⟩, e2, e⟩ := bnd_ok e
    cases e
    refine he.ok s e1 fun x H1 lx s1 r1 k1 => ?_
    refine ht.ok (s.same s1) e2 fun xs H2 ls s2 r2 k2 => ?_
    exact q _ H2 _ (s1.trans s2) (.cons (r1.same s2) r2) (KP.cat s s1 (k1.nk r1) (fun c hc => r1.dom c hc) k2)
  ex := by
    intro H σ S L s x e Q q
    rcases bnd_ex e with e1 | ⟨⟨a, ka⟩, e1, e⟩
    · exact he.ex s e1 q
    · refine he.ok s e1 fun x H1 lx s1 r1 k1 => ?_
      rcases bnd_ex e with e2 | ⟨⟨b, kb⟩, e2, e⟩
      · exact ht.ex (s.same s1) e2 fun H' s2 => q H' (s1.trans s2)
      · cases e
theorem da_star {te : TE} {t : TA} {f : EF} {g : AF} (he : DE K G R te f) (ht : DA K G R t g) : DA K G R (tStar K te t) (aStar f g) where
  ok := by
    intro H σ S L s ds k e Q q
    obtain ⟨⟨a, ka⟩, e1, e⟩ := bnd_ok e
    refine he.ok s e1 fun x H1 lx s1 r1 k1 => ?_
    dsimp only at e
    split at e
    · obtain ⟨⟨b, kb⟩, e2, e⟩ := bnd_ok e
      cases e
      obtain ⟨p, vs, m, rfl, hp, rp, rfl⟩ := r1.lstI
      refine ⟨p, vs, rfl, SqL.of hp, ?_⟩
      refine ht.ok (s.same s1) e2 fun xs H2 ls s2 r2 k2 => ?_
      exact q _ H2 _ (s1.trans s2) ((rp.same s2).app r2) (KP.cat s s1 ((k1.sub (List.sublist_cons_self _ _)).nks rp) (fun c hc => rp.dom c hc) k2)
    · obtain ⟨⟨b, kb⟩, e2, e⟩ := bnd_ok e
      cases e
      obtain ⟨p, vs, rfl, hp, rp, rfl⟩ := r1.flI
      refine ⟨p, vs, rfl, hp.sq, ?_⟩
      refine ht.ok (s.same s1) e2 fun xs H2 ls s2 r2 k2 => ?_
      exact q _ H2 _ (s1.trans s2) ((rp.same s2).app r2) (KP.cat s s1 (k1.nks rp) (fun c hc => rp.dom c hc) k2)
    · cases e
  ex := by
    intro H σ S L s x e Q q
    rcases bnd_ex e with e1 | ⟨⟨a, ka⟩, e1, e⟩
    · exact he.ex s e1 q
    · refine he.ok s e1 fun x H1 lx s1 r1 k1 => ?_
      dsimp only at e
      split at e
      · obtain ⟨p, vs, m, rfl, hp, rp, rfl⟩ := r1.lstI
        refine ⟨p, vs, rfl, SqL.of hp, ?_⟩
        rcases bnd_ex e with e2 | ⟨b, e2, e⟩
        · exact ht.ex (s.same s1) e2 fun H' s2 => q H' (s1.trans s2)
        · cases e
      · obtain ⟨p, vs, rfl, hp, rp, rfl⟩ := r1.flI
        refine ⟨p, vs, rfl, hp.sq, ?_⟩
        rcases bnd_ex e with e2 | ⟨b, e2, e⟩
        · exact ht.ex (s.same s1) e2 fun H' s2 => q H' (s1.trans s2)
        · cases e
      · cases e
/-- constants -/
def vD : V → D
  | .non => .non | .bl b => .bl b | .int i => .int i | .str x => .str x | .ty n => .ty n | .ref a => .ref a | _ => .non
def flatC : V → Bool
  | .non => true | .bl _ => true | .int _ => true | .str _ => true | _ => false
theorem reps_flat {H : Hp} : ∀ vs : List V, vs.all flatC = true → Reps K H [] vs (vs.map vD)
  | [], _ => .nil
  | v :: vs, h => by
    rw [List.all_cons, Bool.and_eq_true] at h
    refine Reps.cons (l := []) (l' := []) ?_ (reps_flat vs h.2)
    cases v <;> first | exact .non | exact .bl _ | exact .int _ | exact .str _ | (simp [flatC] at h)
theorem da_k {vs : List V} (h : vs.all flatC = true) : DA K G R (tK vs) (aK (vs.map vD)) where
  ok := by intro H σ S L s ds k e Q q; cases e; exact q vs H [] (Same.refl H) (reps_flat vs h) (.nil _)
  ex := by intro H σ S L s x e; cases e
def eTup (f : AF) : EF := fun S => bnd (f S) fun a => if a.1.length ≤ sizeLine then some (.ok (.tup a.1, a.2)) else none
def eLst (f : AF) : EF := fun S => bnd (f S) fun a => if a.1.length ≤ sizeLine then some (.ok (.lst a.1, a.2)) else none
theorem de_tup {t : TA} {f : AF} (h : DA K G R t f) : DE K G R (tTup t) (eTup f) where
  ok := by
    intro H σ S L s d k e Q q
    obtain ⟨⟨a, ka⟩, e1, e⟩ := bnd_ok e
    split at e
    · rename_i hz
      cases e
      refine h.ok s e1 fun xs H1 l s1 r1 k1 => ⟨by rw [r1.len]; exact hz, fun p hp => ?_⟩
      exact q _ _ l (s1.trans (.upd hp)) (.tup upd_same (r1.same (.upd hp))) k1
    · cases e
  ex := by
    intro H σ S L s x e Q q
    rcases bnd_ex e with e1 | ⟨⟨a, ka⟩, e1, e⟩
    · exact h.ex s e1 q
    · split at e <;> cases e
theorem de_lst {t : TA} {f : AF} (h : DA K G R t f) : DE K G R (tLst t) (eLst f) where
  ok := by
    intro H σ S L s d k e Q q
    obtain ⟨⟨a, ka⟩, e1, e⟩ := bnd_ok e
    split at e
    · rename_i hz
      cases e
      refine h.ok s e1 fun xs H1 l s1 r1 k1 => ⟨by rw [r1.len]; exact hz, fun p hp => ?_⟩
      exact q _ _ (p :: l) (s1.trans (.upd hp)) (.lst upd_same (r1.same (.upd hp))) (k1.top (s1.free hp) (r1.notin hp))
    · cases e
  ex := by
    intro H σ S L s x e Q q
    rcases bnd_ex e with e1 | ⟨⟨a, ka⟩, e1, e⟩
    · exact h.ex s e1 q
    · split at e <;> cases e
def D.truth : D → Option Bool
  | .non => some false
  | .bl b => some b
  | .int i => some (i != 0)
  | .str y => if y.length ≤ sizeLine then some ((y.length : Int) != 0) else none
  | .lst ds => some !ds.isEmpty
  | .fl ds => some !ds.isEmpty
  | .tup ds => some !ds.isEmpty
  | .ft ds => some !ds.isEmpty
  | .dct ks _ => some !ks.isEmpty
  | _ => none
def isB : D → Option Bool
  | .bl b => some b
  | _ => none
def tB1 (f : EF) : TF := fun S => bnd (f S) fun a => (isB a.1).map .ok
def tTr (f : EF) : TF := fun S => bnd (f S) fun a => a.1.truth.map .ok
theorem isEmpty_len {α β : Type} {a : List α} {b : List β} (h : a.length = b.length) : a.isEmpty = b.isEmpty := by
  cases a <;> cases b <;> first | rfl | cases h
theorem Rep.tru {H : Hp} {l : List Addr} {v : V} {d : D} {b : Bool} (r : Rep K H l v d) (h : d.truth = some b) : TruV K v H b := by
  cases r with
  | non => cases h; rfl
  | bl => cases h; rfl
  | int => cases h; rfl
  | str x =>
    have h : (if x.length ≤ sizeLine then some ((x.length : Int) != 0) else none) = some b := h
    split at h
    · rename_i hz; cases h; exact ⟨hz, rfl⟩
    · cases h
  | ref => cases h
  | ty => cases h
  | exc => cases h
  | cls => cases h
  | rng => cases h
  | lst h1 r => cases h; exact .inl ⟨_, SqL.of h1, by rw [isEmpty_len r.len]⟩
  | fl h1 r => cases h; exact .inl ⟨_, h1.sq, by rw [isEmpty_len r.len]⟩
  | tup h1 r => cases h; exact .inr (.inl ⟨_, SqT.of h1, by rw [isEmpty_len r.len]⟩)
  | ft h1 r => cases h; exact .inr (.inl ⟨_, h1, by rw [isEmpty_len r.len]⟩)
  | dct h1 e r => cases h; exact .inr (.inr ⟨_, h1, by rw [← e]; simp⟩)
  | ins => cases h
theorem dt_tr {t : TE} {f : EF} (h : DE K G R t f) : DT K G R (fun σ H Q => t σ H fun x H' => ∃ k, TruV K x H' k ∧ Q k H') (tTr f) where
  ok := by
    intro H σ S L s b e Q q
    obtain ⟨⟨a, ka⟩, e1, e⟩ := bnd_ok e
    exact h.ok s e1 fun v H' l s1 r1 _ => ⟨b, r1.tru (map_ok e), q H' s1⟩
  ex := by
    intro H σ S L s x e Q q
    rcases bnd_ex e with e1 | ⟨⟨a, ka⟩, e1, e⟩
    · exact h.ex s e1 q
    · exact (map_ex e).elim
theorem isB_some {d : D} {b : Bool} (h : isB d = some b) : d = .bl b := by
  unfold isB at h; split at h <;> cases h; rfl
theorem dt_test {t : TE} {f : EF} (h : DE K G R t f) : DT K G R (tTest t) (tB1 f) where
  ok := by
    intro H σ S L s b e Q q
    obtain ⟨⟨a, ka⟩, e1, e⟩ := bnd_ok e
    have ea := isB_some (map_ok e)
    dsimp only at ea
    subst ea
    exact h.ok s e1 fun v H' l s1 r1 _ => ⟨b, r1.blI.1, q H' s1⟩
  ex := by
    intro H σ S L s x e Q q
    rcases bnd_ex e with e1 | ⟨⟨a, ka⟩, e1, e⟩
    · exact h.ex s e1 q
    · exact (map_ex e).elim
def tNotD (f : TF) : TF := fun S => bnd (f S) fun b => some (.ok (!b))
def tAndD (f g : TF) : TF := fun S => bnd (f S) fun b => if b = true then g S else some (.ok false)
def tOrD (f g : TF) : TF := fun S => bnd (f S) fun b => if b = true then some (.ok true) else g S
theorem dt_not {t : TT} {f : TF} (h : DT K G R t f) : DT K G R (tNot t) (tNotD f) where
  ok := by
    intro H σ S L s b e Q q
    obtain ⟨a, e1, e⟩ := bnd_ok e
    cases e
    exact h.ok s e1 fun H' s1 => q H' s1
  ex := by
    intro H σ S L s x e Q q
    rcases bnd_ex e with e1 | ⟨a, e1, e⟩
    · exact h.ex s e1 q
    · cases e
theorem dt_and {t u : TT} {f g : TF} (h : DT K G R t f) (h' : DT K G R u g) : DT K G R (tAnd t u) (tAndD f g) where
  ok := by
    intro H σ S L s b e Q q
    obtain ⟨a, e1, e⟩ := bnd_ok e
    refine h.ok s e1 fun H' s1 => ?_
    split at e
    · rename_i z; rw [if_pos z]; exact h'.ok (s.same s1) e fun H2 s2 => q H2 (s1.trans s2)
    · rename_i z; rw [if_neg z]; cases e; exact q H' s1
  ex := by
    intro H σ S L s x e Q q
    rcases bnd_ex e with e1 | ⟨a, e1, e⟩
    · exact h.ex s e1 q
    · refine h.ok s e1 fun H' s1 => ?_
      split at e
      · rename_i z; rw [if_pos z]; exact h'.ex (s.same s1) e fun H2 s2 => q H2 (s1.trans s2)
      · cases e
theorem dt_or {t u : TT} {f g : TF} (h : DT K G R t f) (h' : DT K G R u g) : DT K G R (tOr t u) (tOrD f g) where
  ok := by
    intro H σ S L s b e Q q
    obtain ⟨a, e1, e⟩ := bnd_ok e
    refine h.ok s e1 fun H' s1 => ?_
    split at e
    · rename_i z; rw [if_pos z]; cases e; exact q H' s1
    · rename_i z; rw [if_neg z]; exact h'.ok (s.same s1) e fun H2 s2 => q H2 (s1.trans s2)
  ex := by
    intro H σ S L s x e Q q
    rcases bnd_ex e with e1 | ⟨a, e1, e⟩
    · exact h.ex s e1 q
    · refine h.ok s e1 fun H' s1 => ?_
      split at e
      · cases e
      · rename_i z; rw [if_neg z]; exact h'.ex (s.same s1) e fun H2 s2 => q H2 (s1.trans s2)
def eNotV (f : EF) : EF := fun S => bnd (f S) fun a => (isB a.1).map fun b => .ok (.bl (!b), .bor [])
def eAndV (f g : EF) : EF := fun S => bnd (f S) fun a => match isB a.1 with
  | some true => g S
  | some false => some (.ok (.bl false, .bor []))
  | none => none
def eOrV (f g : EF) : EF := fun S => bnd (f S) fun a => match isB a.1 with
  | some false => g S
  | some true => some (.ok (.bl true, .bor []))
  | none => none
def eIf (c : TF) (f g : EF) : EF := fun S => bnd (c S) fun b => if b = true then f S else g S
theorem de_notV {t : TE} {f : EF} (h : DE K G R t f) : DE K G R (tNotV t) (eNotV f) where
  ok := by
    intro H σ S L s d k e Q q
    obtain ⟨⟨a, ka⟩, e1, e⟩ := bnd_ok e
    dsimp only at e
    cases e2 : isB a with
    | none => rw [e2] at e; cases e
    | some b =>
      rw [e2] at e; cases e
      have := isB_some e2; subst this
      exact h.ok s e1 fun v H' l s1 r1 _ => ⟨b, r1.blI.1, q _ H' [] s1 (.bl _) (.nil _)⟩
  ex := by
    intro H σ S L s x e Q q
    rcases bnd_ex e with e1 | ⟨⟨a, ka⟩, e1, e⟩
    · exact h.ex s e1 q
    · dsimp only at e
      cases e2 : isB a with
      | none => rw [e2] at e; cases e
      | some b => rw [e2] at e; cases e
theorem de_andV {t u : TE} {f g : EF} (h : DE K G R t f) (h' : DE K G R u g) : DE K G R (tAndV t u) (eAndV f g) where
  ok := by
    intro H σ S L s d k e Q q
    obtain ⟨⟨a, ka⟩, e1, e⟩ := bnd_ok e
    dsimp only at e
    split at e
    · rename_i z
      have := isB_some z; subst this
      refine h.ok s e1 fun v H' l s1 r1 _ => ⟨true, r1.blI.1, ?_⟩
      rw [if_pos rfl]
      exact h'.ok (s.same s1) e fun v2 H2 l2 s2 r2 k2 => q v2 H2 l2 (s1.trans s2) r2 (k2.back s1)
    · rename_i z
      have := isB_some z; subst this
      cases e
      refine h.ok s e1 fun v H' l s1 r1 _ => ⟨false, r1.blI.1, ?_⟩
      rw [if_neg Bool.false_ne_true]
      exact q _ H' [] s1 (.bl _) (.nil _)
    · cases e
  ex := by
    intro H σ S L s x e Q q
    rcases bnd_ex e with e1 | ⟨⟨a, ka⟩, e1, e⟩
    · exact h.ex s e1 q
    · dsimp only at e
      split at e
      · rename_i z
        have := isB_some z; subst this
        refine h.ok s e1 fun v H' l s1 r1 _ => ⟨true, r1.blI.1, ?_⟩
        rw [if_pos rfl]
        exact h'.ex (s.same s1) e fun H2 s2 => q H2 (s1.trans s2)
      · cases e
      · cases e
theorem de_if {c : TT} {t u : TE} {b : TF} {f g : EF} (hc : DT K G R c b) (h : DE K G R t f) (h' : DE K G R u g) : DE K G R (tIf c t u) (eIf b f g) where
  ok := by
    intro H σ S L s d k e Q q
    obtain ⟨a, e1, e⟩ := bnd_ok e
    refine hc.ok s e1 fun H' s1 => ?_
    split at e
    · rename_i z; rw [if_pos z]; exact h.ok (s.same s1) e fun v2 H2 l2 s2 r2 k2 => q v2 H2 l2 (s1.trans s2) r2 (k2.back s1)
    · rename_i z; rw [if_neg z]; exact h'.ok (s.same s1) e fun v2 H2 l2 s2 r2 k2 => q v2 H2 l2 (s1.trans s2) r2 (k2.back s1)
  ex := by
    intro H σ S L s x e Q q
    rcases bnd_ex e with e1 | ⟨a, e1, e⟩
    · exact hc.ex s e1 q
    · refine hc.ok s e1 fun H' s1 => ?_
      split at e
      · rename_i z; rw [if_pos z]; exact h.ex (s.same s1) e fun H2 s2 => q H2 (s1.trans s2)
      · rename_i z; rw [if_neg z]; exact h'.ex (s.same s1) e fun H2 s2 => q H2 (s1.trans s2)
def eChain (g g' : D → D → Option D) (fa fb fc : EF) : EF := fun S => bnd (fa S) fun a => bnd (fb S) fun b => match g a.1 b.1 with
  | some (.bl true) => bnd (fc S) fun c => (g' b.1 c.1).map fun d => .ok (d, .bor [])
  | some (.bl false) => some (.ok (.bl false, .bor []))
  | _ => none
theorem de_chain {r r' : R2} {g g' : D → D → Option D} {ta tb tc : TE} {fa fb fc : EF}
    (h : ∀ {H x y lx ly a b d}, Rep K H lx x a → Rep K H ly y b → g a b = some d → ∀ {Q : VK}, (∀ v, Rep K H [] v d → Q v H) → r x y H Q)
    (h' : ∀ {H x y lx ly a b d}, Rep K H lx x a → Rep K H ly y b → g' a b = some d → ∀ {Q : VK}, (∀ v, Rep K H [] v d → Q v H) → r' x y H Q)
    (ha : DE K G R ta fa) (hb : DE K G R tb fb) (hc : DE K G R tc fc) : DE K G R (tChain r r' ta tb tc) (eChain g g' fa fb fc) where
  ok := by
    intro H σ S L s d k e Q q
    obtain ⟨⟨a, ka⟩, e1, e⟩ := bnd_ok e
    obtain ⟨⟨b, kb⟩, e2, e⟩ := bnd_ok e
    refine ha.ok s e1 fun x H1 lx s1 r1 k1 => ?_
    refine hb.ok (s.same s1) e2 fun y H2 ly s2 r2 k2 => ?_
    dsimp only at e
    split at e
    · rename_i e3
      refine h (r1.same s2) r2 e3 fun z rz => ⟨true, rz.blI.1, ?_⟩
      rw [if_pos rfl]
      obtain ⟨⟨c, kc⟩, e4, e⟩ := bnd_ok e
      refine hc.ok ((s.same s1).same s2) e4 fun w H3 lw s3 r3 k3 => ?_
      dsimp only at e
      cases e5 : g' b c with
      | none => rw [e5] at e; cases e
      | some d' =>
        rw [e5] at e; cases e
        exact h' (r2.same s3) r3 e5 fun v rv => q v H3 [] ((s1.trans s2).trans s3) rv (.nil _)
    · rename_i e3
      cases e
      refine h (r1.same s2) r2 e3 fun z rz => ⟨false, rz.blI.1, ?_⟩
      rw [if_neg Bool.false_ne_true]
      exact q _ H2 [] (s1.trans s2) (.bl _) (.nil _)
    · cases e
  ex := by
    intro H σ S L s x e Q q
    rcases bnd_ex e with e1 | ⟨⟨a, ka⟩, e1, e⟩
    · exact ha.ex s e1 q
    · refine ha.ok s e1 fun x H1 lx s1 r1 k1 => ?_
      rcases bnd_ex e with e2 | ⟨⟨b, kb⟩, e2, e⟩
      · exact hb.ex (s.same s1) e2 fun H' s2 => q H' (s1.trans s2)
      · refine hb.ok (s.same s1) e2 fun y H2 ly s2 r2 k2 => ?_
        dsimp only at e
        split at e
        · rename_i e3
          refine h (r1.same s2) r2 e3 fun z rz => ⟨true, rz.blI.1, ?_⟩
          rw [if_pos rfl]
          rcases bnd_ex e with e4 | ⟨⟨c, kc⟩, e4, e⟩
          · exact hc.ex ((s.same s1).same s2) e4 fun H' s3 => q H' ((s1.trans s2).trans s3)
          · dsimp only at e
            cases e5 : g' b c with
            | none => rw [e5] at e; cases e
            | some d' => rw [e5] at e; cases e
        · cases e
        · cases e
end
end L2
set_option Elab.async false
set_option linter.all false
set_option maxRecDepth 100000
namespace L2
open PySem PySem.Spec PyProof.Rows
section
variable {K : PySem.W.Frag} {G : List (Addr × HO)} {R : XR}
def eCB (g : List D × Kn → Option (D × Kn)) (f : AF) : EF := fun S => bnd (f S) fun a => (g a).map .ok
theorem de_cb {r : List V → Hp → VK → Prop} {g : List D × Kn → Option (D × Kn)} {t : TA} {f : AF}
    (hr : ∀ {H σ S L H1 xs l ds k d kd}, SR K G H σ S L → Same H H1 → Reps K H1 l xs ds → KP H S L l k → g (ds, k) = some (d, kd) → ∀ {Q : VK}, (∀ v H' l', Same H1 H' → Rep K H' l' v d → KP H S L l' kd → Q v H') → r xs H1 Q)
    (h : DA K G R t f) : DE K G R (tCB r t) (eCB g f) where
  ok := by
    intro H σ S L s d k e Q q
    obtain ⟨⟨ds, ks⟩, e1, e⟩ := bnd_ok e
    refine h.ok s e1 fun xs H1 l s1 r1 k1 => ?_
    exact hr s s1 r1 k1 (map_ok e) fun v H' l' s2 r2 k2 => q v H' l' (s1.trans s2) r2 k2
  ex := by
    intro H σ S L s x e Q q
    rcases bnd_ex e with e1 | ⟨a, e1, e⟩
    · exact h.ex s e1 q
    · exact (map_ex e).elim
/-- the answer has no changeable thing in it, and nothing is made -/
def c0 (g : List D → Option D) : List D × Kn → Option (D × Kn) := fun a => (g a.1).map fun d => (d, .bor [])
theorem de_cb0 {r : List V → Hp → VK → Prop} {g : List D → Option D} {t : TA} {f : AF}
    (hr : ∀ {H xs l ds d}, Reps K H l xs ds → g ds = some d → ∀ {Q : VK}, (∀ v, Rep K H [] v d → Q v H) → r xs H Q) (h : DA K G R t f) : DE K G R (tCB r t) (eCB (c0 g) f) :=
  de_cb (fun {H σ S L H1 xs l ds k d kd} s s1 r1 k1 e Q q => by
    unfold c0 at e
    cases e2 : g ds with
    | none => dsimp only at e; rw [e2] at e; cases e
    | some d' =>
      dsimp only at e; rw [e2] at e; cases e
      exact hr r1 e2 fun v rv => q v H1 [] (Same.refl _) rv (.nil _)) h
theorem Reps.one {H : Hp} {l : List Addr} {xs : List V} {d : D} (r : Reps K H l xs [d]) : ∃ v, xs = [v] ∧ Rep K H l v d := by
  cases r with
  | cons h t => cases t; exact ⟨_, rfl, by simpa using h⟩
theorem Reps.two {H : Hp} {l : List Addr} {xs : List V} {d e : D} (r : Reps K H l xs [d, e]) : ∃ v u m n, xs = [v, u] ∧ l = m ++ n ∧ Rep K H m v d ∧ Rep K H n u e := by
  cases r with
  | cons h t =>
    obtain ⟨u, rfl, h2⟩ := t.one
    exact ⟨_, u, _, _, rfl, rfl, h, h2⟩
def gLen : List D → Option D
  | [.lst ds] => some (.int ds.length)
  | [.fl ds] => some (.int ds.length)
  | [.tup ds] => some (.int ds.length)
  | [.ft ds] => some (.int ds.length)
  | [.dct ks _] => some (.int ks.length)
  | [.str z] => if z.length ≤ sizeLine then some (.int z.length) else none
  | _ => none
def rLenA (K : PySem.W.Frag) : List V → Hp → VK → Prop := rcOr (fun xs H Q => ∃ x n, xs = [x] ∧ LenV K x H n ∧ Q (.int n) H) (fun xs H Q => ∃ a kvs, xs = [V.ref a] ∧ H a = some (.dK kvs) ∧ Q (.int kvs.length) H)
theorem lenA {X : Cx} (K : PySem.W.Frag) (h : X.K = K) : CallR X (.builtin "len") (rLenA K) := by subst h; exact crOr call_len call_lenD
abbrev eLen : AF → EF := eCB (c0 gLen)
theorem de_len {t : TA} {f : AF} (h : DA K G R t f) : DE K G R (tCB (rLenA K) t) (eLen f) :=
  de_cb0 (fun {H xs l ds d} r e Q q => by
    unfold gLen at e
    split at e
    · cases e
      obtain ⟨v, rfl, rv⟩ := r.one
      obtain ⟨p, vs, m, rfl, hp, rp, rfl⟩ := rv.lstI
      exact .inl ⟨_, _, rfl, .inl ⟨vs, SqL.of hp, rp.len.symm⟩, q _ (.int _)⟩
    · cases e
      obtain ⟨v, rfl, rv⟩ := r.one
      obtain ⟨p, vs, rfl, hp, rp, rfl⟩ := rv.flI
      exact .inl ⟨_, _, rfl, .inl ⟨vs, hp.sq, rp.len.symm⟩, q _ (.int _)⟩
    · cases e
      obtain ⟨v, rfl, rv⟩ := r.one
      obtain ⟨p, vs, rfl, hp, rp⟩ := rv.tupI
      exact .inl ⟨_, _, rfl, .inr ⟨vs, SqT.of hp, rp.len.symm⟩, q _ (.int _)⟩
    · cases e
      obtain ⟨v, rfl, rv⟩ := r.one
      obtain ⟨p, vs, rfl, hp, rp, rfl⟩ := rv.ftI
      exact .inl ⟨_, _, rfl, .inr ⟨vs, hp, rp.len.symm⟩, q _ (.int _)⟩
    · cases e
      obtain ⟨v, rfl, rv⟩ := r.one
      obtain ⟨p, kvs, m, rfl, hp, ek, rp, rfl⟩ := rv.dctI
      exact .inr ⟨_, kvs, rfl, hp, by have := q (.int kvs.length) (by rw [← ek, List.length_map]; exact .int _); exact this⟩
    · split at e
      · rename_i hz
        cases e
        obtain ⟨v, rfl, rv⟩ := r.one
        obtain ⟨rfl, _⟩ := rv.strI
        exact .inl ⟨_, _, rfl, ⟨hz, rfl⟩, q _ (.int _)⟩
      · cases e
    · cases e) h
def kdD : D → Option String
  | .non => some "NoneType" | .bl _ => some "bool" | .int _ => some "int" | .str _ => some "str" | .lst _ => some "list" | .tup _ => some "tuple" | .dct _ _ => some "dict"
  | _ => none
theorem Rep.ty' {H : Hp} {l : List Addr} {v : V} {d : D} {n : String} (r : Rep K H l v d) (h : kdD d = some n) : TyOf K H v (.type n) := by
  cases r <;> cases h
  · exact .non
  · exact .bl _
  · exact .int _
  · exact .str _
  · rename_i h _; exact .lst h
  · rename_i h _; exact .tup h
  · rename_i h _ _; exact .dK h
def isiB (n c : String) : Option Bool :=
  if c = "int" then some (n == "int" || n == "bool") else if c = "bool" then some (n == "bool") else if c = "str" then some (n == "str") else if c = "list" then some (n == "list") else if c = "tuple" then some (n == "tuple") else none
theorem isiB_ok {d : D} {n c : String} {b : Bool} (h : kdD d = some n) (h2 : isiB n c = some b) : PySem.W.kitOne K (.type n) (.type c) = some b := by
  unfold isiB at h2
  split at h2
  · rename_i z; subst z; cases d <;> cases h <;> cases h2 <;> with_unfolding_all rfl
  · split at h2
    · rename_i z; subst z; cases d <;> cases h <;> cases h2 <;> with_unfolding_all rfl
    · split at h2
      · rename_i z; subst z; cases d <;> cases h <;> cases h2 <;> with_unfolding_all rfl
      · split at h2
        · rename_i z; subst z; cases d <;> cases h <;> cases h2 <;> with_unfolding_all rfl
        · split at h2
          · rename_i z; subst z; cases d <;> cases h <;> cases h2 <;> with_unfolding_all rfl
          · cases h2
def gIsi : List D → Option D
  | [d, .ty c] => match kdD d with
    | some n => (isiB n c).map .bl
    | none => none
  | _ => none
abbrev eIsi : AF → EF := eCB (c0 gIsi)
theorem de_isi {t : TA} {f : AF} (h : DA K G R t f) : DE K G R (tCB (fun xs H Q => ∃ x n t b, xs = [x, .ty n] ∧ TyOf K H x t ∧ PySem.W.kitOne K t (.type n) = some b ∧ Q (.bl b) H) t) (eIsi f) :=
  de_cb0 (fun {H xs l ds d} r e Q q => by
    unfold gIsi at e
    split at e
    · rename_i dd c
      cases hk : kdD dd with
      | none => rw [hk] at e; cases e
      | some n =>
        rw [hk] at e
        dsimp only at e
        cases e3 : isiB n c with
        | none => rw [e3] at e; cases e
        | some b =>
          rw [e3] at e; cases e
          obtain ⟨v, u, m, m', rfl, rfl, r1, r2⟩ := r.two
          obtain ⟨rfl, _⟩ := r2.tyI
          exact ⟨v, c, _, b, rfl, r1.ty' hk, isiB_ok hk e3, q _ (.bl b)⟩
    · cases e) h
def gIsiLT : List D → Option D
  | [.lst _, .tup [.ty a, .ty b]] => if a = "list" ∧ b = "tuple" then some (.bl true) else none
  | _ => none
abbrev eIsiLT : AF → EF := eCB (c0 gIsiLT)
def gList : List D × Kn → Option (D × Kn)
  | ([.lst ds], k) => some (.lst ds, nks ds (match k with | .bor (_ :: _) => .weak | k => k))
  | ([.fl ds], k) => some (.lst ds, nks ds k)
  | ([.tup ds], k) => some (.lst ds, nks ds k)
  | ([.ft ds], k) => some (.lst ds, nks ds k)
  | _ => none
abbrev eList : AF → EF := eCB gList
theorem de_list {t : TA} {f : AF} (h : DA K G R t f) : DE K G R (tCB (fun xs H Q => ∃ p ys, xs = [.ref p] ∧ (SqL K H p ys ∨ SqT K H p ys) ∧ ∀ l, H l = none → Q (.ref l) (upd H l (.lst ys))) t) (eList f) :=
  de_cb (fun {H σ S L H1 xs l ds k d kd} s s1 r k1 e Q q => by
    unfold gList at e
    split at e
    · rename_i dd k e1
      cases e1; cases e
      obtain ⟨v, rfl, rv⟩ := r.one
      obtain ⟨p, vs, m, rfl, hp, rp, rfl⟩ := rv.lstI
      refine ⟨p, vs, rfl, .inl (SqL.of hp), fun n hn => ?_⟩
      have kk := k1.sub (List.sublist_cons_self p m)
      refine q _ _ (n :: m) (.upd hn) (.lst upd_same (rp.same (.upd hn))) (KP.top (KP.nks ?_ rp) (s1.free hn) (rp.notin hn))
      split
      · exact kk.toWeak
      · exact kk
    · rename_i dd k e1
      cases e1; cases e
      obtain ⟨v, rfl, rv⟩ := r.one
      obtain ⟨p, vs, rfl, hp, rp, rfl⟩ := rv.flI
      exact ⟨p, vs, rfl, .inl hp.sq, fun n hn => q _ _ [n] (.upd hn) (.lst upd_same (rp.same (.upd hn))) (KP.top (k1.nks rp) (s1.free hn) (rp.notin hn))⟩
    · rename_i dd k e1
      cases e1; cases e
      obtain ⟨v, rfl, rv⟩ := r.one
      obtain ⟨p, vs, rfl, hp, rp⟩ := rv.tupI
      exact ⟨p, vs, rfl, .inr (SqT.of hp), fun n hn => q _ _ (n :: l) (.upd hn) (.lst upd_same (rp.same (.upd hn))) (KP.top (k1.nks rp) (s1.free hn) (rp.notin hn))⟩
    · rename_i dd k e1
      cases e1; cases e
      obtain ⟨v, rfl, rv⟩ := r.one
      obtain ⟨p, vs, rfl, hp, rp, rfl⟩ := rv.ftI
      exact ⟨p, vs, rfl, .inr hp, fun n hn => q _ _ [n] (.upd hn) (.lst upd_same (rp.same (.upd hn))) (KP.top (k1.nks rp) (s1.free hn) (rp.notin hn))⟩
    · cases e) h
def gTuple : List D × Kn → Option (D × Kn)
  | ([.lst ds], k) => some (.tup ds, nks ds (match k with | .bor (_ :: _) => .weak | k => k))
  | _ => none
abbrev eTuple : AF → EF := eCB gTuple
def gRange2 : List D × Kn → Option (D × Kn)
  | ([.int i, .int j], _) => some (.rng i j, .bor [])
  | _ => none
abbrev eRange2 : AF → EF := eCB gRange2
/-- lo, lo + 1, .. as data -/
def rangeD (lo hi : Int) : List D := (List.range (hi - lo).toNat).map fun k : Nat => .int (lo + k)
def in62 (i : Int) : Bool := decide (i.natAbs.log2 < 61)
theorem in62_of {i : Int} (h : in62 i = true) : -(2 ^ 62) ≤ i ∧ i < 2 ^ 62 := by
  have h : i.natAbs.log2 < 61 := of_decide_eq_true h
  by_cases z : i.natAbs = 0
  · omega
  · have := (Nat.log2_lt z).mp h
    omega
def gListR : List D × Kn → Option (D × Kn)
  | ([.rng i j], _) => if in62 i && in62 j && decide ((j - i).toNat ≤ sizeLine) then some (.lst (rangeD i j), .bor []) else none
  | _ => none
abbrev eListR : AF → EF := eCB gListR
theorem reps_ints {H : Hp} : ∀ (ns : List Int), Reps K H [] (ns.map V.int) (ns.map D.int)
  | [] => .nil
  | n :: ns => Reps.cons (l := []) (l' := []) (.int n) (reps_ints ns)
def gInt : List D → Option D
  | [.int i] => some (.int i)
  | [.bl b] => some (.int (if b then 1 else 0))
  | _ => none
abbrev eInt : AF → EF := eCB (c0 gInt)
theorem de_int1 {t : TA} {f : AF} (h : DA K G R t f) : DE K G R (tCB (fun xs H Q => (∃ i, xs = [.int i] ∧ Q (.int i) H) ∨ ∃ k, xs = [.bl k] ∧ Q (.int (if k then 1 else 0)) H) t) (eInt f) :=
  de_cb0 (fun {H xs l ds d} r e Q q => by
    unfold gInt at e
    split at e
    · cases e
      obtain ⟨v, rfl, rv⟩ := r.one
      obtain ⟨rfl, _⟩ := rv.intI
      exact .inl ⟨_, rfl, q _ (.int _)⟩
    · cases e
      obtain ⟨v, rfl, rv⟩ := r.one
      obtain ⟨rfl, _⟩ := rv.blI
      exact .inr ⟨_, rfl, q _ (.int _)⟩
    · cases e) h
def numsD : List D → Option (List Int)
  | [] => some []
  | .int i :: ds => (numsD ds).map (i :: ·)
  | _ :: _ => none
theorem ints_map (ns : List Int) : numsD (ns.map D.int) = some ns := by
  induction ns with
  | nil => rfl
  | cons n ns ih => show (numsD (ns.map D.int)).map (n :: ·) = _; rw [ih]; rfl
theorem ints_some : ∀ {ds : List D} {ns : List Int}, numsD ds = some ns → ds = ns.map D.int
  | [], ns, h => by cases h; rfl
  | d :: ds, ns, h => by
    cases d with
    | int i =>
      have h : (numsD ds).map (i :: ·) = some ns := h
      cases e2 : numsD ds with
      | none => rw [e2] at h; cases h
      | some ms => rw [e2] at h; cases h; rw [ints_some e2]; rfl
    | _ => cases h
theorem Reps.intsI {H : Hp} : ∀ {l : List Addr} {vs : List V} (ns : List Int), Reps K H l vs (ns.map D.int) → vs = ns.map V.int ∧ l = []
  | _, _, [], r => by cases r; exact ⟨rfl, rfl⟩
  | _, _, n :: ns, r => by
    cases r with
    | cons h t =>
      obtain ⟨rfl, rfl⟩ := h.intI
      obtain ⟨rfl, rfl⟩ := Reps.intsI ns t
      exact ⟨rfl, rfl⟩
def gSum : List D → Option D
  | [.lst ds] => (numsD ds).map fun ns => .int ns.sum
  | _ => none
abbrev eSum : AF → EF := eCB (c0 gSum)
theorem de_sum {t : TA} {f : AF} (h : DA K G R t f) : DE K G R (tCB (rSum K) t) (eSum f) :=
  de_cb0 (fun {H xs l ds d} r e Q q => by
    unfold gSum at e
    split at e
    · rename_i ds
      cases e2 : numsD ds with
      | none => rw [e2] at e; cases e
      | some ns =>
        rw [e2] at e; cases e
        obtain ⟨v, rfl, rv⟩ := r.one
        obtain ⟨p, vs, m, rfl, hp, rp, rfl⟩ := rv.lstI
        rw [ints_some e2] at rp
        obtain ⟨rfl, rfl⟩ := rp.intsI
        exact ⟨p, ns, rfl, SqL.of hp, q _ (.int _)⟩
    · cases e) h
def gMax2 : List D → Option D
  | [.int i, .int j] => some (.int (if j > i then j else i))
  | _ => none
def gMin2 : List D → Option D
  | [.int i, .int j] => some (.int (if j < i then j else i))
  | _ => none
abbrev eMax2 : AF → EF := eCB (c0 gMax2)
abbrev eMin2 : AF → EF := eCB (c0 gMin2)
def eUn (g : D → Option D) (f : EF) : EF := fun S => bnd (f S) fun a => (g a.1).map fun d => .ok (d, .bor [])
def gNeg : D → Option D
  | .int i => some (.int (-i))
  | _ => none
abbrev eNeg : EF → EF := eUn gNeg
theorem de_neg {t : TE} {f : EF} (h : DE K G R t f) : DE K G R (tUn (rU fun i => .int (-i)) t) (eNeg f) where
  ok := by
    intro H σ S L s d k e Q q
    obtain ⟨⟨a, ka⟩, e1, e⟩ := bnd_ok e
    dsimp only at e
    unfold gNeg at e
    split at e
    · cases e
      exact h.ok s e1 fun v H' l s1 r1 _ => ⟨_, r1.intI.1, q _ H' [] s1 (.int _) (.nil _)⟩
    · cases e
  ex := by
    intro H σ S L s x e Q q
    rcases bnd_ex e with e1 | ⟨⟨a, ka⟩, e1, e⟩
    · exact h.ex s e1 q
    · dsimp only at e
      cases e2 : gNeg a <;> rw [e2] at e <;> cases e
abbrev OF := DSt → Option (Rs (Option Int))
structure DO (K : PySem.W.Frag) (G : List (Addr × HO)) (R : XR) (t : TO) (f : OF) : Prop where
  ok : ∀ {H σ S L}, SR K G H σ S L → ∀ {o}, f S = some (.ok o) → ∀ {Q : Option Int → Hp → Prop}, (∀ H', Same H H' → Q o H') → t σ H Q
  ex : ∀ {H σ S L}, SR K G H σ S L → ∀ {x}, f S = some (.exc x) → ∀ {Q : Option Int → Hp → Prop}, (∀ H', Same H H' → R x σ H') → t σ H Q
def oNone : OF := fun _ => some (.ok none)
def oSome (f : EF) : OF := fun S => bnd (f S) fun a => match a.1 with
  | .int i => some (.ok (some i))
  | _ => none
theorem do_none : DO K G R tNoPart oNone where
  ok := by intro H σ S L s o e Q q; cases e; exact q H (Same.refl H)
  ex := by intro H σ S L s x e; cases e
theorem do_some {t : TE} {f : EF} (h : DE K G R t f) : DO K G R (tPart t) (oSome f) where
  ok := by
    intro H σ S L s o e Q q
    obtain ⟨⟨a, ka⟩, e1, e⟩ := bnd_ok e
    dsimp only at e
    split at e
    · cases e
      exact h.ok s e1 fun v H' l s1 r1 _ => ⟨_, r1.intI.1, q H' s1⟩
    · cases e
  ex := by
    intro H σ S L s x e Q q
    rcases bnd_ex e with e1 | ⟨⟨a, ka⟩, e1, e⟩
    · exact h.ex s e1 q
    · dsimp only at e
      split at e <;> cases e
def cutD (xs : List D) (lo hi : Option Int) : List D := (xs.drop (HT.sIx xs.length 0 lo)).take (HT.sIx xs.length xs.length hi - HT.sIx xs.length 0 lo)
theorem Reps.drop {H : Hp} : ∀ {l : List Addr} {vs : List V} {ds : List D} (n : Nat), Reps K H l vs ds → ∃ m, Reps K H m (vs.drop n) (ds.drop n) ∧ List.Sublist m l
  | l, _, _, 0, r => ⟨l, r, List.Sublist.refl _⟩
  | _, _, _, n + 1, .nil => ⟨[], .nil, List.Sublist.refl _⟩
  | _, _, _, n + 1, .cons h r => by
    obtain ⟨m, r2, s⟩ := Reps.drop n r
    exact ⟨m, r2, s.trans (List.sublist_append_right _ _)⟩
theorem Reps.take {H : Hp} : ∀ {l : List Addr} {vs : List V} {ds : List D} (n : Nat), Reps K H l vs ds → ∃ m, Reps K H m (vs.take n) (ds.take n) ∧ List.Sublist m l
  | l, _, _, 0, r => ⟨[], by simpa using .nil, List.nil_sublist _⟩
  | _, _, _, n + 1, .nil => ⟨[], .nil, List.Sublist.refl _⟩
  | _, _, _, n + 1, .cons h r => by
    obtain ⟨m, r2, s⟩ := Reps.take n r
    exact ⟨_, .cons h r2, List.Sublist.append (List.Sublist.refl _) s⟩
theorem Reps.cut {H : Hp} {l : List Addr} {vs : List V} {ds : List D} (r : Reps K H l vs ds) (lo hi : Option Int) : ∃ m, Reps K H m (cutV vs lo hi) (cutD ds lo hi) ∧ List.Sublist m l := by
  unfold cutV cutD
  rw [r.len]
  obtain ⟨m, r1, s1⟩ := r.drop (HT.sIx ds.length 0 lo)
  obtain ⟨m2, r2, s2⟩ := r1.take (HT.sIx ds.length ds.length hi - HT.sIx ds.length 0 lo)
  exact ⟨m2, r2, s2.trans s1⟩
def gSl : D × Kn → Option Int → Option Int → Option (D × Kn)
  | (.lst ds, k), lo, hi => some (.lst (cutD ds lo hi), nks (cutD ds lo hi) (match k with | .bor (_ :: _) => .weak | k => k))
  | (.fl ds, k), lo, hi => some (.lst (cutD ds lo hi), nks (cutD ds lo hi) k)
  | (.tup ds, k), lo, hi => if HT.sIx ds.length 0 lo = 0 ∧ HT.sIx ds.length ds.length hi = ds.length then none else some (.tup (cutD ds lo hi), nks (cutD ds lo hi) k)
  | (.str z, _), lo, hi => if z.length ≤ sizeLine then some (.str (cutS z lo hi), .bor []) else none
  | _, _, _ => none
def eSl (f : EF) (l h : OF) : EF := fun S => bnd (f S) fun a => bnd (l S) fun lo => bnd (h S) fun hi => (gSl a lo hi).map .ok
def rSlA (K : PySem.W.Frag) : V → Option Int → Option Int → Hp → VK → Prop := fun x lo hi H Q => rSlL K x lo hi H Q ∨ rSlT K x lo hi H Q ∨ rSlS x lo hi H Q
theorem slA {X : Cx} (K : PySem.W.Frag) (h : X.K = K) : SlR X (rSlA K) := by subst h; exact SlR.or sl_list (SlR.or sl_tup sl_str)
theorem sl_run {H H3 : Hp} {S : DSt} {L : Nat → List Addr} {lx : List Addr} {x : V} {a d : D} {k kd : Kn} {lo hi : Option Int} {Q : VK} (s13 : Same H H3) (r3 : Rep K H3 lx x a) (k1 : KP H S L lx k) (e : gSl (a, k) lo hi = some (d, kd))
    (q : ∀ v H' l, Same H H' → Rep K H' l v d → KP H S L l kd → Q v H') : rSlA K x lo hi H3 Q := by
  cases a with
  | lst ds =>
    cases e
    obtain ⟨p, vs, m, rfl, hp, rp, rfl⟩ := r3.lstI
    obtain ⟨m2, r4, sb⟩ := rp.cut lo hi
    have kk := k1.sub (sb.trans (List.sublist_cons_self p m))
    refine .inl ⟨p, vs, rfl, SqL.of hp, fun n hn => ?_⟩
    refine q _ _ (n :: m2) (s13.trans (.upd hn)) (.lst upd_same (r4.same (.upd hn))) (KP.top (KP.nks ?_ r4) (s13.free hn) (r4.notin hn))
    split
    · exact kk.toWeak
    · exact kk
  | fl ds =>
    cases e
    obtain ⟨p, vs, rfl, hp, rp, rfl⟩ := r3.flI
    obtain ⟨m2, r4, sb⟩ := rp.cut lo hi
    refine .inl ⟨p, vs, rfl, hp.sq, fun n hn => ?_⟩
    exact q _ _ (n :: m2) (s13.trans (.upd hn)) (.lst upd_same (r4.same (.upd hn))) (KP.top (KP.nks (k1.sub sb) r4) (s13.free hn) (r4.notin hn))
  | tup ds =>
    have e : (if HT.sIx ds.length 0 lo = 0 ∧ HT.sIx ds.length ds.length hi = ds.length then none else some (D.tup (cutD ds lo hi), L2.nks (cutD ds lo hi) k)) = some (d, kd) := e
    split at e
    · cases e
    · rename_i hz
      cases e
      obtain ⟨p, vs, rfl, hp, rp⟩ := r3.tupI
      obtain ⟨m2, r4, sb⟩ := rp.cut lo hi
      refine .inr (.inl ⟨p, vs, rfl, SqT.of hp, by rw [rp.len]; exact hz, fun n hn => ?_⟩)
      exact q _ _ m2 (s13.trans (.upd hn)) (.tup upd_same (r4.same (.upd hn))) (KP.nks (k1.sub sb) r4)
  | str z =>
    have e : (if z.length ≤ sizeLine then some (D.str (cutS z lo hi), Kn.bor []) else none) = some (d, kd) := e
    split at e
    · rename_i hz
      cases e
      obtain ⟨rfl, _⟩ := r3.strI
      exact .inr (.inr ⟨_, rfl, hz, q _ H3 [] s13 (.str _) (.nil _)⟩)
    · cases e
  | _ => cases e
theorem de_sl {t : TE} {tl th : TO} {f : EF} {l h : OF} (hf : DE K G R t f) (hl : DO K G R tl l) (hh : DO K G R th h) : DE K G R (tSl (rSlA K) t tl th) (eSl f l h) where
  ok := by
    intro H σ S L s d k e Q q
    obtain ⟨⟨a, ka⟩, e1, e⟩ := bnd_ok e
    obtain ⟨lo, e2, e⟩ := bnd_ok e
    obtain ⟨hi, e3, e⟩ := bnd_ok e
    refine hf.ok s e1 fun x H1 lx s1 r1 k1 => ?_
    refine hl.ok (s.same s1) e2 fun H2 s2 => ?_
    refine hh.ok ((s.same s1).same s2) e3 fun H3 s3 => ?_
    exact sl_run ((s1.trans s2).trans s3) ((r1.same s2).same s3) k1 (map_ok e) q
  ex := by
    intro H σ S L s x e Q q
    rcases bnd_ex e with e1 | ⟨⟨a, ka⟩, e1, e⟩
    · exact hf.ex s e1 q
    · refine hf.ok s e1 fun x H1 lx s1 r1 k1 => ?_
      rcases bnd_ex e with e2 | ⟨lo, e2, e⟩
      · exact hl.ex (s.same s1) e2 fun H' s2 => q H' (s1.trans s2)
      · refine hl.ok (s.same s1) e2 fun H2 s2 => ?_
        rcases bnd_ex e with e3 | ⟨hi, e3, e⟩
        · exact hh.ex ((s.same s1).same s2) e3 fun H' s3 => q H' ((s1.trans s2).trans s3)
        · exact (map_ex e).elim
def D.flat : D → Bool
  | .non => true | .bl _ => true | .int _ => true | .str _ => true | _ => false
def inD (x : D) (xs : List D) : Bool := xs.any fun y => y.eqv x
theorem Rep.flatV {H : Hp} {l : List Addr} {v : V} {d : D} (r : Rep K H l v d) (h : d.flat = true) : L2.flatV v = true := by
  cases r <;> first | rfl | cases h
theorem Rep.eqV {H : Hp} {l m : List Addr} {v u : V} {d e : D} (r : Rep K H l v d) (r' : Rep K H m u e) (h : d.flat = true) (h' : e.flat = true) : L2.eqV v u = d.eqv e := by
  cases r <;> first | (exfalso; cases h; done) | (cases r' <;> first | rfl | (exfalso; cases h'; done))
theorem Reps.inV {H : Hp} {m : List Addr} {x : V} {d : D} (rx : Rep K H m x d) (hx : d.flat = true) : ∀ {l : List Addr} {vs : List V} {ds : List D}, Reps K H l vs ds → ds.all D.flat = true → vs.all L2.flatV = true ∧ L2.inV x vs = inD d ds
  | _, _, _, .nil, _ => ⟨rfl, rfl⟩
  | _, _, _, .cons h r, k => by
    rw [List.all_cons, Bool.and_eq_true] at k
    obtain ⟨h1, h2⟩ := Reps.inV rx hx r k.2
    refine ⟨by rw [List.all_cons, h.flatV k.1, h1]; rfl, ?_⟩
    show (L2.eqV _ _ || L2.inV x _) = (D.eqv _ _ || inD d _)
    rw [h.eqV rx k.1 hx, h2]
def gIn (neg : Bool) (a b : D) : Option D := match b with
  | .lst ds => if a.flat && ds.all D.flat then some (.bl (if neg then !inD a ds else inD a ds)) else none
  | .tup ds => if a.flat && ds.all D.flat then some (.bl (if neg then !inD a ds else inD a ds)) else none
  | .ft ds => if a.flat && ds.all D.flat then some (.bl (if neg then !inD a ds else inD a ds)) else none
  | .fl ds => if a.flat && ds.all D.flat then some (.bl (if neg then !inD a ds else inD a ds)) else none
  | _ => none
abbrev eIn : EF → EF → EF := eTwo (g0 (gIn false))
abbrev eNotIn : EF → EF → EF := eTwo (g0 (gIn true))
theorem de_in {neg : Bool} {ta tb : TE} {fa fb : EF} (ha : DE K G R ta fa) (hb : DE K G R tb fb) : DE K G R (tOp (rIn K neg) ta tb) (eTwo (g0 (gIn neg)) fa fb) :=
  de_op (fun {H x y lx ly a b d} r1 r2 e Q q => by
    unfold gIn at e
    split at e
    · split at e
      · rename_i hz
        rw [Bool.and_eq_true] at hz
        cases e
        obtain ⟨p, vs, m, rfl, hp, rp, rfl⟩ := r2.lstI
        obtain ⟨h1, h2⟩ := rp.inV r1 hz.1 hz.2
        exact ⟨p, vs, rfl, .inl (SqL.of hp), r1.flatV hz.1, h1, by rw [h2]; exact q _ (.bl _)⟩
      · cases e
    · split at e
      · rename_i hz
        rw [Bool.and_eq_true] at hz
        cases e
        obtain ⟨p, vs, rfl, hp, rp⟩ := r2.tupI
        obtain ⟨h1, h2⟩ := rp.inV r1 hz.1 hz.2
        exact ⟨p, vs, rfl, .inr (SqT.of hp), r1.flatV hz.1, h1, by rw [h2]; exact q _ (.bl _)⟩
      · cases e
    · split at e
      · rename_i hz
        rw [Bool.and_eq_true] at hz
        cases e
        obtain ⟨p, vs, rfl, hp, rp, rfl⟩ := r2.ftI
        obtain ⟨h1, h2⟩ := rp.inV r1 hz.1 hz.2
        exact ⟨p, vs, rfl, .inr hp, r1.flatV hz.1, h1, by rw [h2]; exact q _ (.bl _)⟩
      · cases e
    · split at e
      · rename_i hz
        rw [Bool.and_eq_true] at hz
        cases e
        obtain ⟨p, vs, rfl, hp, rp, rfl⟩ := r2.flI
        obtain ⟨h1, h2⟩ := rp.inV r1 hz.1 hz.2
        exact ⟨p, vs, rfl, .inl hp.sq, r1.flatV hz.1, h1, by rw [h2]; exact q _ (.bl _)⟩
      · cases e
    · cases e) ha hb
/-- what a def does: its arguments' data to its answer's, and whether that is made anew -/
abbrev FF := List D → Option (Rs (D × Bool))
def spP (K : PySem.W.Frag) (G : List (Addr × HO)) (F : FF) : Sp := fun vs H Q E => ∃ ds l, Reps K H l vs ds ∧ (∀ p ∈ G, H p.1 = some p.2 ∧ mutO p.2 = false) ∧ match F ds with
  | some (.ok (d, fr)) => ∀ v H' l', Same H H' → Rep K H' l' v d → (∀ a ∈ l', H a = none ∨ a ∈ l) → (fr = true → l'.Nodup ∧ ∀ a ∈ l', H a = none) → Q v H'
  | some (.exc x) => ∀ H', Same H H' → E (.ref (clK K x)) none H'
  | none => False
def callK (k : Kn) (d : D) (fr : Bool) : Kn := if fr then .bor [] else d.nk (match k with | .bor [] => .safe | .safe => .safe | _ => .weak)
def eCall (F : FF) (f : AF) : EF := fun S => bnd (f S) fun a => bnd (F a.1) fun r => some (.ok (r.1, callK a.2 r.1 r.2))
end
end L2
set_option Elab.async false
set_option linter.all false
set_option maxRecDepth 100000
namespace L2
open PySem PySem.Spec PyProof.Rows
inductive SO where
  | nx (S : DSt) | bk (S : DSt) | ct (S : DSt) | rt (d : D) (fr : Bool) (S : DSt) | ex (x : Addr) (S : DSt)
abbrev SF := DSt → Option SO
/-- from one state to a later one -/
structure Mv (H : Hp) (S : DSt) (L : Nat → List Addr) (H' : Hp) (S' : DSt) (L' : Nat → List Addr) : Prop where
  keep : ∀ a o, H a = some o → (mutO o = false ∨ ¬ OwnN S L a) → H' a = some o
  own : ∀ a, OwnN S' L' a → H a = none ∨ OwnN S L a
  any : ∀ a, AnyN S' L' a → H a = none ∨ AnyN S L a
structure RT (H : Hp) (S : DSt) (L : Nat → List Addr) (S' : DSt) (L' : Nat → List Addr) (l : List Addr) (fr : Bool) : Prop where
  any : ∀ a ∈ l, H a = none ∨ AnyN S L a
  fr : fr = true → l.Nodup ∧ (∀ a ∈ l, H a = none ∨ OwnN S L a) ∧ ∀ a ∈ l, ¬ AnyN S' L' a
section
variable {K : PySem.W.Frag} {G : List (Addr × HO)} {R : XR} {H H1 H2 : Hp} {σ : St} {S S1 S2 : DSt} {L L1 M2 : Nat → List Addr}
theorem Mv.gone (m : Mv H S L H1 S1 L1) {a : Addr} (h : H1 a = none) : H a = none ∨ OwnN S L a := by
  cases e : H a with
  | none => exact .inl rfl
  | some o =>
    by_cases z : OwnN S L a
    · exact .inr z
    · rw [m.keep a o e (.inr z)] at h; cases h
theorem Mv.same (e : Same H H1) : Mv H S L H1 S L := ⟨fun a o h _ => e a o h, fun _ h => .inr h, fun _ h => .inr h⟩
theorem Mv.refl : Mv H S L H S L := Mv.same (Same.refl H)
theorem Mv.trans (m : Mv H S L H1 S1 L1) (n : Mv H1 S1 L1 H2 S2 M2) : Mv H S L H2 S2 M2 where
  keep := fun a o h z => by
    have h1 := m.keep a o h z
    refine n.keep a o h1 (z.imp_right fun z y => ?_)
    rcases m.own a y with w | w
    · rw [h] at w; cases w
    · exact z w
  own := fun a y => by
    rcases n.own a y with w | w
    · exact m.gone w
    · exact m.own a w
  any := fun a y => by
    rcases n.any a y with w | w
    · exact (m.gone w).imp_right OwnN.any
    · exact m.any a w
theorem RT.back {S' : DSt} {L' : Nat → List Addr} {l : List Addr} {fr : Bool} (m : Mv H S L H1 S1 L1) (r : RT H1 S1 L1 S' L' l fr) : RT H S L S' L' l fr where
  any := fun a h => by
    rcases r.any a h with w | w
    · exact (m.gone w).imp_right OwnN.any
    · exact m.any a w
  fr := fun z => by
    obtain ⟨h1, h2, h3⟩ := r.fr z
    refine ⟨h1, fun a h => ?_, h3⟩
    rcases h2 a h with w | w
    · exact m.gone w
    · exact m.own a w
/-- no name but these was stored -/
def Out (ts : List Nat) (σ σ' : St) : Prop := ∀ j, j ∉ ts → σ'[j]? = σ[j]?
theorem Out.refl {ts : List Nat} {σ : St} : Out ts σ σ := fun _ _ => rfl
theorem Out.trans {ts t1 t2 : List Nat} {σ σ1 σ2 : St} (a : Out t1 σ σ1) (b : Out t2 σ1 σ2) (h1 : ∀ j ∈ t1, j ∈ ts) (h2 : ∀ j ∈ t2, j ∈ ts) : Out ts σ σ2 := fun j hj => (b j fun z => hj (h2 j z)).trans (a j fun z => hj (h1 j z))
theorem Out.mono {ts t1 : List Nat} {σ σ1 : St} (a : Out t1 σ σ1) (h1 : ∀ j ∈ t1, j ∈ ts) : Out ts σ σ1 := fun j hj => a j fun z => hj (h1 j z)
/-- what is wanted behind a statement, by its outcome -/
def SPost (K : PySem.W.Frag) (G : List (Addr × HO)) (R : XR) (ts : List Nat) (D : Ends) (H : Hp) (σ : St) (S : DSt) (L : Nat → List Addr) : SO → Prop
  | .nx S' => ∀ H' σ' L', SR K G H' σ' S' L' → Mv H S L H' S' L' → Out ts σ σ' → D.nx σ' H'
  | .bk S' => ∀ H' σ' L', SR K G H' σ' S' L' → Mv H S L H' S' L' → Out ts σ σ' → D.bk σ' H'
  | .ct S' => ∀ H' σ' L', SR K G H' σ' S' L' → Mv H S L H' S' L' → Out ts σ σ' → D.ct σ' H'
  | .rt d fr S' => ∀ v H' σ' L' l, SR K G H' σ' S' L' → Mv H S L H' S' L' → Out ts σ σ' → Rep K H' l v d → RT H S L S' L' l fr → D.rt v H'
  | .ex x S' => ∀ H' σ' L', SR K G H' σ' S' L' → Mv H S L H' S' L' → Out ts σ σ' → R x σ' H'
theorem SPost.go {D : Ends} {o : SO} {ts t1 t2 : List Nat} {σ1 : St} (p : SPost K G R ts D H σ S L o) (m : Mv H S L H1 S1 L1) (u : Out t1 σ σ1) (h1 : ∀ j ∈ t1, j ∈ ts) (h2 : ∀ j ∈ t2, j ∈ ts) : SPost K G R t2 D H1 σ1 S1 L1 o := by
  cases o with
  | nx S' => exact fun H' σ' L' s n w => p H' σ' L' s (m.trans n) (u.trans w h1 h2)
  | bk S' => exact fun H' σ' L' s n w => p H' σ' L' s (m.trans n) (u.trans w h1 h2)
  | ct S' => exact fun H' σ' L' s n w => p H' σ' L' s (m.trans n) (u.trans w h1 h2)
  | rt d fr S' => exact fun v H' σ' L' l s n w r t => p v H' σ' L' l s (m.trans n) (u.trans w h1 h2) r (t.back m)
  | ex x S' => exact fun H' σ' L' s n w => p H' σ' L' s (m.trans n) (u.trans w h1 h2)
theorem SPost.here {D : Ends} {o : SO} {ts t2 : List Nat} (p : SPost K G R ts D H σ S L o) (m : Mv H S L H1 S1 L1) (h2 : ∀ j ∈ t2, j ∈ ts) : SPost K G R t2 D H1 σ S1 L1 o := p.go (t1 := []) m .refl (fun _ z => by simp at z) h2
structure DS (K : PySem.W.Frag) (G : List (Addr × HO)) (R : XR) (ts : List Nat) (t : TS) (f : SF) : Prop where
  run : ∀ {H σ S L o}, SR K G H σ S L → f S = some o → ∀ {D : Ends}, SPost K G R ts D H σ S L o → t D σ H
theorem inl_ts {a b : List Nat} : ∀ j ∈ a, j ∈ a ++ b := fun _ h => List.mem_append.mpr (.inl h)
theorem inr_ts {a b : List Nat} : ∀ j ∈ b, j ∈ a ++ b := fun _ h => List.mem_append.mpr (.inr h)
theorem id_ts {a : List Nat} : ∀ j ∈ a, j ∈ a := fun _ h => h
def sNext : SF := fun S => some (.nx S)
def sBreak : SF := fun S => some (.bk S)
def sCont : SF := fun S => some (.ct S)
def sSeq (f g : SF) : SF := fun S => match f S with
  | some (.nx S') => g S'
  | o => o
theorem ds_next : DS K G R [] tNext sNext := ⟨fun {H σ S L o} s e D p => by cases e; exact p H σ L s .refl .refl⟩
theorem ds_seq {ta tb : List Nat} {t u : TS} {f g : SF} (h : DS K G R ta t f) (h' : DS K G R tb u g) : DS K G R (ta ++ tb) (tSeq t u) (sSeq f g) := ⟨fun {H σ S L o} s e D p => by
  unfold sSeq at e
  show t { D with nx := u D } σ H
  split at e
  · rename_i S1 e1
    exact h.run s e1 fun H' σ' L' s' m w => h'.run s' e (p.go m w inl_ts inr_ts)
  · rename_i o' hn
    refine h.run s e ?_
    have p' := p.here .refl (inl_ts (a := ta) (b := tb))
    cases o with
    | nx S1 => exact (hn S1 e).elim
    | bk S1 => exact p'
    | ct S1 => exact p'
    | rt d fr S1 => exact p'
    | ex x S1 => exact p'⟩
def exS (o : Option (Rs DSt)) (S : DSt) : Option SO := match o with
  | some (.ok S') => some (.nx S')
  | some (.exc x) => some (.ex x S)
  | none => none
def sIf (c : TF) (f g : SF) : SF := fun S => match c S with
  | some (.ok true) => f S
  | some (.ok false) => g S
  | some (.exc x) => some (.ex x S)
  | none => none
theorem ds_if {ta tb : List Nat} {c : TT} {t u : TS} {b : TF} {f g : SF} (hc : DT K G R c b) (h : DS K G R ta t f) (h' : DS K G R tb u g) : DS K G R (ta ++ tb) (tIfS c t u) (sIf b f g) := ⟨fun {H σ S L o} s e D p => by
  unfold sIf at e
  split at e
  · rename_i e1
    refine hc.ok s e1 fun H' s1 => ?_
    rw [if_pos rfl]
    exact h.run (s.same s1) e (p.here (.same s1) inl_ts)
  · rename_i e1
    refine hc.ok s e1 fun H' s1 => ?_
    rw [if_neg Bool.false_ne_true]
    exact h'.run (s.same s1) e (p.here (.same s1) inr_ts)
  · rename_i x e1
    cases e
    exact hc.ex s e1 fun H' s1 => p H' σ L (s.same s1) (.same s1) .refl
  · cases e⟩
def drops (is : List Nat) (S : DSt) : DSt := is.foldl (fun S j => S.set j none) S
theorem drops_get : ∀ {is : List Nat} {S : DSt} {j : Nat} {z : Bool × D}, (drops is S)[j]? = some (some z) → S[j]? = some (some z) ∧ j ∉ is
  | [], S, j, z, h => ⟨h, by simp⟩
  | i :: is, S, j, z, h => by
    obtain ⟨h1, h2⟩ := drops_get (is := is) (S := S.set i none) h
    by_cases hi : i = j
    · subst hi
      by_cases hl : i < S.length
      · rw [List.getElem?_set_self hl] at h1; cases h1
      · rw [List.getElem?_eq_none (by rw [List.length_set]; omega)] at h1; cases h1
    · rw [List.getElem?_set_ne hi] at h1
      exact ⟨h1, by simp only [List.mem_cons, not_or]; exact ⟨fun e => hi e.symm, h2⟩⟩
theorem drops_len : ∀ (is : List Nat) (S : DSt), (drops is S).length = S.length
  | [], S => rfl
  | i :: is, S => by
    show (drops is (S.set i none)).length = _
    rw [drops_len, List.length_set]
theorem SR.drops {σ : St} (s : SR K G H σ S L) (is : List Nat) : SR K G H σ (L2.drops is S) L :=
  ⟨by rw [drops_len]; exact s.len, s.gs, fun i b d h => s.rep i b d (drops_get h).1, fun i d h => s.own i d (drops_get h).1, fun i j d b e h1 h2 => s.sep i j d b e (drops_get h1).1 (drops_get h2).1⟩
theorem OwnN.drops {is : List Nat} {a : Addr} (h : OwnN (L2.drops is S) L a) : OwnN S L a := let ⟨i, d, e, m⟩ := h; ⟨i, d, (drops_get e).1, m⟩
theorem AnyN.drops {is : List Nat} {a : Addr} (h : AnyN (L2.drops is S) L a) : AnyN S L a := let ⟨i, b, d, e, m⟩ := h; ⟨i, b, d, (drops_get e).1, m⟩
theorem Mv.drops (is : List Nat) : Mv H S L H (L2.drops is S) L := ⟨fun a o h _ => h, fun a h => .inr h.drops, fun a h => .inr h.drops⟩
def sRet (f : EF) : SF := fun S => match f S with
  | some (.ok (d, k)) => if d.nl then some (.rt d true S) else match k with
    | .bor is => some (.rt d true (drops is S))
    | _ => some (.rt d false S)
  | some (.exc x) => some (.ex x S)
  | none => none
theorem ds_ret {t : TE} {f : EF} (h : DE K G R t f) : DS K G R [] (tRet t) (sRet f) := ⟨fun {H σ S L o} s e D p => by
  unfold sRet at e
  split at e
  · rename_i d k e1
    refine h.ok s e1 fun v H' l s1 r1 k1 => ?_
    split at e
    · rename_i z
      cases e
      have := r1.nodes z
      subst this
      exact p v H' σ L [] (s.same s1) (.same s1) .refl r1 ⟨fun a m => by simp at m, fun _ => ⟨List.nodup_nil, fun a m => by simp at m, fun a m => by simp at m⟩⟩
    · split at e
      · rename_i is
        cases e
        refine p v H' σ L l ((s.same s1).drops is) ((Mv.same s1).trans (.drops is)) .refl r1 ⟨k1.any, fun _ => ⟨k1.kd.1, fun a m => ?_, fun a m y => ?_⟩⟩
        · exact (k1.kd.2 a m).imp_right fun ⟨i, _, d', h1, h2⟩ => ⟨i, d', h1, h2⟩
        · rcases k1.kd.2 a m with z | ⟨i, hi, d', h1, h2⟩
          · obtain ⟨o, ho, _⟩ := s.dom y.drops
            rw [z] at ho; cases ho
          · obtain ⟨j, b, d2, h3, h4⟩ := y
            obtain ⟨h3, h5⟩ := drops_get h3
            have hij : i ≠ j := by rintro rfl; exact h5 hi
            exact s.sep i j _ _ _ h1 h3 hij a h2 h4
      · rename_i k' hk
        cases e
        exact p v H' σ L l (s.same s1) (.same s1) .refl r1 ⟨k1.any, fun z => by cases z⟩
  · rename_i x e1
    cases e
    exact h.ex s e1 fun H' s1 => p H' σ L (s.same s1) (.same s1) .refl
  · cases e⟩
def sRetN : SF := fun S => some (.rt .non true S)
/-- an expression alone -/
def sDrop (f : EF) : SF := fun S => match f S with
  | some (.ok _) => some (.nx S)
  | some (.exc x) => some (.ex x S)
  | none => none
def Kn.isBor : Kn → Bool
  | .bor _ => true
  | _ => false
structure KQ (P A : Addr → Prop) (S : DSt) (L : Nat → List Addr) (l : List Addr) (k : Kn) : Prop where
  any : ∀ a ∈ l, A a
  kd : match k with
    | .bor is => l.Nodup ∧ ∀ a ∈ l, (P a ∧ ¬ AnyN S L a) ∨ ∃ i ∈ is, ∃ d, S[i]? = some (some (true, d)) ∧ a ∈ L i
    | .safe => ∀ a ∈ l, ¬ OwnN S L a
    | .weak => True
def Kn.ids : Kn → List Nat
  | .bor is => is
  | _ => []
structure MvG (P A : Addr → Prop) (l : List Addr) (k : Kn) (ts : List Nat) (σ : St) (S : DSt) (L : Nat → List Addr) (σ' : St) (S' : DSt) (L' : Nat → List Addr) : Prop where
  own : ∀ a, OwnN S' L' a → (a ∈ l ∧ P a ∧ k.isBor = true) ∨ OwnN S L a
  any : ∀ a, AnyN S' L' a → A a ∨ AnyN S L a
  any2 : ∀ a, AnyN S' L' a → a ∈ l ∨ AnyN S L a
  out : ∀ j, j ∉ ts → σ'[j]? = σ[j]?
  len : σ'.length = σ.length
  outS : ∀ j, j ∉ ts → j ∉ k.ids → S'[j]? = S[j]? ∧ L' j = L j
  inS : ∀ j, j ∈ ts → ∀ d, S'[j]? = some (some (true, d)) → k.isBor = true ∧ l ≠ []
abbrev GF := D → Kn → DSt → Option DSt
structure DG (K : PySem.W.Frag) (G : List (Addr × HO)) (ts : List Nat) (g : TG) (f : GF) : Prop where
  run : ∀ {P A H σ S L x l d k S'}, SR K G H σ S L → Rep K H l x d → KQ P A S L l k → f d k S = some S' → ∀ {Q : St → Hp → Prop}, (∀ σ' L', SR K G H σ' S' L' → MvG P A l k ts σ S L σ' S' L' → Q σ' H) → g x σ H Q
def aName (i : Nat) : GF := fun d k S => if d.nl then some (S.set i (some (false, d))) else match k with
  | .bor is => some ((drops is S).set i (some (true, d)))
  | .safe => some (S.set i (some (false, d)))
  | .weak => none
theorem set_get {S : DSt} {i j : Nat} {w z : Bool × D} (h : (S.set i (some w))[j]? = some (some z)) : (j = i ∧ z = w) ∨ (j ≠ i ∧ S[j]? = some (some z)) := by
  by_cases hi : i = j
  · subst hi
    by_cases hl : i < S.length
    · rw [List.getElem?_set_self hl] at h; cases h; exact .inl ⟨rfl, rfl⟩
    · rw [List.getElem?_eq_none (by rw [List.length_set]; omega)] at h; cases h
  · rw [List.getElem?_set_ne hi] at h
    exact .inr ⟨fun e => hi e.symm, h⟩
def putL (L : Nat → List Addr) (i : Nat) (l : List Addr) : Nat → List Addr := fun j => if j = i then l else L j
theorem putL_same {i : Nat} {l : List Addr} : putL L i l i = l := if_pos rfl
theorem putL_ne {i j : Nat} {l : List Addr} (h : j ≠ i) : putL L i l j = L j := if_neg h
/-- a name takes a value: what is wanted of it -/
theorem SR.put {σ : St} {i : Nat} {x : V} {l : List Addr} {d : D} {b : Bool} (s : SR K G H σ S L) (r : Rep K H l x d) (hb : b = true → l.Nodup ∧ ∀ a ∈ l, ∀ j c e, j ≠ i → S[j]? = some (some (c, e)) → a ∉ L j) (hs : ∀ a ∈ l, ∀ j e, j ≠ i → S[j]? = some (some (true, e)) → a ∉ L j) :
    SR K G H (σ.set i (some x)) (S.set i (some (b, d))) (putL L i l) where
  len := by rw [List.length_set, List.length_set]; exact s.len
  gs := s.gs
  rep := fun j c e h => by
    rcases set_get h with ⟨rfl, z⟩ | ⟨hj, h⟩
    · cases z
      have hl : j < σ.length := by
        rw [s.len]
        have := (List.getElem?_eq_some_iff.mp h).1
        rw [List.length_set] at this; exact this
      exact ⟨x, List.getElem?_set_self hl, by rw [putL_same]; exact r⟩
    · obtain ⟨v, e1, e2⟩ := s.rep j c e h
      exact ⟨v, by rw [List.getElem?_set_ne (Ne.symm hj)]; exact e1, by rw [putL_ne hj]; exact e2⟩
  own := fun j e h => by
    rcases set_get h with ⟨rfl, z⟩ | ⟨hj, h⟩
    · cases z; rw [putL_same]; exact (hb rfl).1
    · rw [putL_ne hj]; exact s.own j e h
  sep := fun j j' e c e' h h' ne a m m' => by
    rcases set_get h with ⟨rfl, z⟩ | ⟨hj, h⟩
    · cases z
      rw [putL_same] at m
      rcases set_get h' with ⟨rfl, _⟩ | ⟨hj', h'⟩
      · exact ne rfl
      · rw [putL_ne hj'] at m'
        exact (hb rfl).2 a m j' c e' hj' h' m'
    · rw [putL_ne hj] at m
      rcases set_get h' with ⟨rfl, z⟩ | ⟨hj', h'⟩
      · rw [putL_same] at m'
        rcases set_get h with ⟨hh, _⟩ | ⟨_, h⟩
        · exact hj hh
        · exact hs a m' j e hj h m
      · rw [putL_ne hj'] at m'
        exact s.sep j j' e c e' h h' ne a m m'
theorem OwnN.put {i : Nat} {l : List Addr} {d : D} {b : Bool} {a : Addr} (h : OwnN (S.set i (some (b, d))) (putL L i l) a) : (a ∈ l ∧ b = true) ∨ OwnN S L a := by
  obtain ⟨j, e, h, m⟩ := h
  rcases set_get h with ⟨rfl, z⟩ | ⟨hj, h⟩
  · cases z; rw [putL_same] at m; exact .inl ⟨m, rfl⟩
  · rw [putL_ne hj] at m; exact .inr ⟨j, e, h, m⟩
theorem AnyN.put {i : Nat} {l : List Addr} {d : D} {b : Bool} {a : Addr} (h : AnyN (S.set i (some (b, d))) (putL L i l) a) : a ∈ l ∨ AnyN S L a := by
  obtain ⟨j, c, e, h, m⟩ := h
  rcases set_get h with ⟨rfl, z⟩ | ⟨hj, h⟩
  · cases z; rw [putL_same] at m; exact .inl m
  · rw [putL_ne hj] at m; exact .inr ⟨j, c, e, h, m⟩
theorem drops_out : ∀ {is : List Nat} {S : DSt} {j : Nat}, j ∉ is → (drops is S)[j]? = S[j]?
  | [], S, j, _ => rfl
  | i :: is, S, j, h => by
    simp only [List.mem_cons, not_or] at h
    show (drops is (S.set i none))[j]? = _
    rw [drops_out h.2, List.getElem?_set_ne (Ne.symm h.1)]
mutual
theorem Rep.node : ∀ {l : List Addr} {v : V} {d : D}, Rep K H l v d → l = [] → d.nl = false → False
  | _, _, _, .non, _, h => by cases h
  | _, _, _, .bl b, _, h => by cases h
  | _, _, _, .int b, _, h => by cases h
  | _, _, _, .str b, _, h => by cases h
  | _, _, _, .ref b, _, h => by cases h
  | _, _, _, .ty b, _, h => by cases h
  | _, _, _, .rng _, _, h => by cases h
  | _, _, _, .lst _ _, z, _ => by cases z
  | _, _, _, .dct _ _ _, z, _ => by cases z
  | _, _, _, .ins _ _ _, z, _ => by cases z
  | _, _, _, .fl _ r, z, h => by cases h
  | _, _, _, .tup _ r, z, h => Reps.node r z h
  | _, _, _, .ft _ r, z, h => by cases h
theorem Reps.node : ∀ {l : List Addr} {vs : List V} {ds : List D}, Reps K H l vs ds → l = [] → D.nl.nls ds = false → False
  | _, _, _, .nil, _, h => by cases h
  | _, _, _, @Reps.cons _ _ l l' v vs d ds h r, z, k => by
    have k : (d.nl && D.nl.nls ds) = false := k
    obtain ⟨z1, z2⟩ := List.append_eq_nil_iff.mp z
    cases e : d.nl with
    | true => rw [e, Bool.true_and] at k; exact Reps.node r z2 k
    | false => exact Rep.node h z1 e
end
theorem dg_name (i : Nat) : DG K G [i] (gName i) (aName i) := ⟨fun {P A H σ S L x l d k S'} s r kq e Q q => by
  show Q (σ.set i (some x)) H
  have hout : ∀ j, j ∉ [i] → (σ.set i (some x))[j]? = σ[j]? := fun j hj => List.getElem?_set_ne (by simpa using fun z : i = j => hj (by simp [z]))
  unfold aName at e
  split at e
  · rename_i z
    cases e
    have := r.nodes z
    subst this
    refine q _ _ (s.put r (fun z => by cases z) (fun a m => by simp at m)) ⟨fun a h => ?_, fun a h => ?_, fun a h => ?_, hout, List.length_set, fun j hj _ => ?_, fun j hj d' h => ?_⟩
    · rcases h.put with ⟨m, _⟩ | h
      · simp at m
      · exact .inr h
    · rcases h.put with m | h
      · simp at m
      · exact .inr h
    · rcases h.put with m | h
      · simp at m
      · exact .inr h
    · have hj : j ≠ i := by simpa using hj
      exact ⟨List.getElem?_set_ne (Ne.symm hj), putL_ne hj⟩
    · rcases set_get h with ⟨_, z⟩ | ⟨y, _⟩
      · cases z
      · exact absurd (by simpa using hj) y
  · rename_i hnl
    split at e
    · rename_i is
      cases e
      have hb : ∀ a ∈ l, ∀ j c e, j ≠ i → (drops is S)[j]? = some (some (c, e)) → a ∉ L j := fun a m j c e hj h m' => by
        obtain ⟨h1, h2⟩ := drops_get h
        rcases kq.kd.2 a m with ⟨_, z⟩ | ⟨i', hi', d', h3, h4⟩
        · exact z ⟨j, c, e, h1, m'⟩
        · have : i' ≠ j := by rintro rfl; exact h2 hi'
          exact s.sep i' j _ _ _ h3 h1 this a h4 m'
      refine q _ _ ((s.drops is).put r (fun _ => ⟨kq.kd.1, hb⟩) fun a m j e hj h => hb a m j true e hj h) ⟨fun a h => ?_, fun a h => ?_, fun a h => ?_, hout, List.length_set, fun j hj h2 => ?_, fun j hj d' h => ?_⟩
      · rcases h.put with ⟨m, _⟩ | h
        · rcases kq.kd.2 a m with ⟨z, _⟩ | ⟨i', hi', d', h3, h4⟩
          · exact .inl ⟨m, z, rfl⟩
          · exact .inr ⟨i', d', h3, h4⟩
        · exact .inr h.drops
      · rcases h.put with m | h
        · exact .inl (kq.any a m)
        · exact .inr h.drops
      · rcases h.put with m | h
        · exact .inl m
        · exact .inr h.drops
      · have hj : j ≠ i := by simpa using hj
        exact ⟨by rw [List.getElem?_set_ne (Ne.symm hj)]; exact drops_out h2, putL_ne hj⟩
      · refine ⟨rfl, fun z => ?_⟩
        exact r.node z (by simpa using hnl)
    · cases e
      refine q _ _ (s.put r (fun z => by cases z) fun a m j e hj h m' => kq.kd a m ⟨j, e, h, m'⟩) ⟨fun a h => ?_, fun a h => ?_, fun a h => ?_, hout, List.length_set, fun j hj _ => ?_, fun j hj d' h => ?_⟩
      · rcases h.put with ⟨_, z⟩ | h
        · cases z
        · exact .inr h
      · rcases h.put with m | h
        · exact .inl (kq.any a m)
        · exact .inr h
      · rcases h.put with m | h
        · exact .inl m
        · exact .inr h
      · have hj : j ≠ i := by simpa using hj
        exact ⟨List.getElem?_set_ne (Ne.symm hj), putL_ne hj⟩
      · rcases set_get h with ⟨_, z⟩ | ⟨y, _⟩
        · cases z
        · exact absurd (by simpa using hj) y
    · cases e⟩
theorem KQ.sub {P A : Addr → Prop} {l m : List Addr} {k : Kn} (h : KQ P A S L l k) (s : List.Sublist m l) : KQ P A S L m k := by
  refine ⟨fun a z => h.any a (s.subset z), ?_⟩
  have := h.kd
  cases k with
  | bor is => exact ⟨this.1.sublist s, fun a z => this.2 a (s.subset z)⟩
  | safe => exact fun a z => this a (s.subset z)
  | weak => trivial
theorem KQ.nil {P A : Addr → Prop} (k : Kn) : KQ P A S L [] k := ⟨fun a m => by simp at m, by cases k <;> simp⟩
theorem KQ.nk {P A : Addr → Prop} {l : List Addr} {k : Kn} {v : V} {d : D} (h : KQ P A S L l k) (r : Rep K H l v d) : KQ P A S L l (d.nk k) := by
  unfold D.nk
  split
  · rename_i z
    rw [r.nodes z]; exact .nil _
  · exact h
theorem KQ.toWeak {P A : Addr → Prop} {l : List Addr} {k : Kn} (h : KQ P A S L l k) : KQ P A S L l .weak := ⟨h.any, trivial⟩
/-- several targets for several items; the items' common kind is bor [], safe or weak -/
abbrev GFs := List D → Kn → DSt → Option DSt
def Kn.flat : Kn → Kn
  | .bor (_ :: _) => .weak
  | k => k
structure DGs (K : PySem.W.Frag) (G : List (Addr × HO)) (ts : List Nat) (g : TGs) (f : GFs) : Prop where
  run : ∀ {P A H σ S L xs l ds k S'}, SR K G H σ S L → Reps K H l xs ds → KQ P A S L l (Kn.flat k) → f ds (Kn.flat k) S = some S' → ∀ {Q : St → Hp → Prop}, (∀ σ' L', SR K G H σ' S' L' → MvG P A l (Kn.flat k) ts σ S L σ' S' L' → Q σ' H) → g xs σ H Q
def aNils : GFs := fun ds _ S => match ds with
  | [] => some S
  | _ => none
def aConss (f : GF) (g : GFs) : GFs := fun ds k S => match ds with
  | d :: ds => (f d (d.nk k) S).bind fun S' => g ds k S'
  | [] => none
theorem dgs_nil : DGs K G [] gNil aNils := ⟨fun {P A H σ S L xs l ds k S'} s r kq e Q q => by
  cases r with
  | nil => cases e; exact ⟨rfl, q σ L s ⟨fun _ h => .inr h, fun _ h => .inr h, fun _ h => .inr h, fun _ _ => rfl, rfl, fun _ _ _ => ⟨rfl, rfl⟩, fun j hj => by simp at hj⟩⟩
  | cons => cases e⟩
theorem Kn.flat_flat (k : Kn) : k.flat.flat = k.flat := by
  cases k with
  | bor is => cases is <;> rfl
  | safe => rfl
  | weak => rfl
theorem Kn.flat_ids (k : Kn) : k.flat.ids = [] := by
  cases k with
  | bor is => cases is <;> rfl
  | safe => rfl
  | weak => rfl
theorem D.nk_ids (d : D) (k : Kn) : (d.nk k.flat).ids = [] := by
  unfold D.nk
  split
  · rfl
  · exact k.flat_ids
theorem dgs_cons {ts ts' : List Nat} {g : TG} {gs : TGs} {f : GF} {fs : GFs} (h : DG K G ts g f) (h' : DGs K G ts' gs fs) : DGs K G (ts ++ ts') (gCons g gs) (aConss f fs) := ⟨fun {P A H σ S L xs l ds k S'} s r kq e Q q => by
  cases r with
  | nil => cases e
  | @cons l1 l2 v vs d ds r1 r2 =>
    have e : (f d (d.nk (Kn.flat k)) S).bind (fun S' => fs ds (Kn.flat k) S') = some S' := e
    cases e1 : f d (d.nk (Kn.flat k)) S with
    | none => rw [e1] at e; cases e
    | some S1 =>
      rw [e1] at e
      have e : fs ds (Kn.flat k) S1 = some S' := e
      refine ⟨v, vs, rfl, h.run s r1 (KQ.nk (kq.sub (List.sublist_append_left _ _)) r1) e1 fun σ1 L1 s1 m1 => ?_⟩
      have kq2 := kq.sub (List.sublist_append_right l1 l2)
      -- what the first target brought in lies in l1; if that has nodes it is of the common kind
      have own1 : ∀ a, OwnN S1 L1 a → (a ∈ l1 ∧ (Kn.flat k).isBor = true) ∨ OwnN S L a := fun a w => by
        rcases m1.own a w with ⟨z, _, b⟩ | z
        · refine .inl ⟨z, ?_⟩
          unfold D.nk at b
          split at b
          · rename_i y
            rw [r1.nodes y] at z; simp at z
          · exact b
        · exact .inr z
      have kq3 : KQ P A S1 L1 l2 (Kn.flat k) := by
        refine ⟨kq2.any, ?_⟩
        cases k with
        | bor is =>
          cases is with
          | nil =>
            have z := kq2.kd
            have nd := kq.kd.1
            refine ⟨z.1, fun a m => ?_⟩
            rcases z.2 a m with ⟨y1, y2⟩ | ⟨i, hi, _⟩
            · refine .inl ⟨y1, fun w => ?_⟩
              rcases m1.any2 a w with w | w
              · exact (List.nodup_append.mp nd).2.2 a w a m rfl
              · exact y2 w
            · simp at hi
          | cons i is => trivial
        | safe =>
          intro a m w
          rcases own1 a w with ⟨_, b⟩ | w
          · cases b
          · exact kq2.kd a m w
        | weak => trivial
      rw [← Kn.flat_flat] at e kq3
      refine h'.run s1 r2 kq3 e fun σ2 L2' s2 m2 => q σ2 L2' s2 ⟨fun a w => ?_, fun a w => ?_, fun a w => ?_, fun j hj => ?_, m2.len.trans m1.len, fun j hj hi => ?_, fun j hj d' w => ?_⟩
      · rcases m2.own a w with ⟨z1, z2, z3⟩ | w
        · exact .inl ⟨List.mem_append.mpr (.inr z1), z2, by rw [Kn.flat_flat] at z3; exact z3⟩
        · rcases m1.own a w with ⟨z1, z2, z3⟩ | w
          · refine .inl ⟨List.mem_append.mpr (.inl z1), z2, ?_⟩
            unfold D.nk at z3
            split at z3
            · rename_i y
              rw [r1.nodes y] at z1; simp at z1
            · exact z3
          · exact .inr w
      · rcases m2.any a w with z | w
        · exact .inl z
        · exact m1.any a w
      · rcases m2.any2 a w with z | w
        · exact .inl (List.mem_append.mpr (.inr z))
        · rcases m1.any2 a w with z | w
          · exact .inl (List.mem_append.mpr (.inl z))
          · exact .inr w
      · simp only [List.mem_append, not_or] at hj
        rw [m2.out j hj.2, m1.out j hj.1]
      · simp only [List.mem_append, not_or] at hj
        have z2 := m2.outS j hj.2 (by rw [Kn.flat_flat, Kn.flat_ids]; simp)
        have z1 := m1.outS j hj.1 (by rw [D.nk_ids]; simp)
        exact ⟨z2.1.trans z1.1, z2.2.trans z1.2⟩
      · by_cases h2 : j ∈ ts'
        · obtain ⟨z1, z2⟩ := m2.inS j h2 d' w
          rw [Kn.flat_flat] at z1
          exact ⟨z1, fun y => z2 (List.append_eq_nil_iff.mp y).2⟩
        · rw [(m2.outS j h2 (by rw [Kn.flat_flat, Kn.flat_ids]; simp)).1] at w
          have h1 : j ∈ ts := (List.mem_append.mp hj).resolve_right h2
          obtain ⟨z1, z2⟩ := m1.inS j h1 d' w
          refine ⟨?_, fun y => z2 (List.append_eq_nil_iff.mp y).1⟩
          unfold D.nk at z1
          split at z1
          · rename_i y
            exact absurd (r1.nodes y) z2
          · exact z1⟩
def aTup (n : Nat) (f : GFs) : GF := fun d k S => match d with
  | .tup ds => if ds.length = n then f ds (nks ds k.flat) S else none
  | _ => none
theorem nks_flat (ds : List D) (k : Kn) : nks ds k.flat = (nks ds k.flat).flat := by
  unfold nks
  split
  · rfl
  · rw [Kn.flat_flat]
theorem KQ.nks {P A : Addr → Prop} {l : List Addr} {k : Kn} {vs : List V} {ds : List D} (h : KQ P A S L l k) (r : Reps K H l vs ds) : KQ P A S L l (L2.nks ds k) := by
  unfold L2.nks
  split
  · rename_i z
    rw [r.nodes z]; exact .nil _
  · exact h
theorem KQ.flat {P A : Addr → Prop} {l : List Addr} {k : Kn} (h : KQ P A S L l k) : KQ P A S L l k.flat := by
  cases k with
  | bor is => cases is with
    | nil => exact h
    | cons i is => exact h.toWeak
  | safe => exact h
  | weak => exact h
theorem nks_ids (ds : List D) (k : Kn) : (nks ds k.flat).ids = [] := by
  unfold nks
  split
  · rfl
  · exact k.flat_ids
theorem dg_tup {ts : List Nat} {n : Nat} {gs : TGs} {fs : GFs} (h : DGs K G ts gs fs) : DG K G ts (gTup K n gs) (aTup n fs) := ⟨fun {P A H σ S L x l d k S'} s r kq e Q q => by
  unfold aTup at e
  split at e
  · rename_i ds
    split at e
    · rename_i hn
      obtain ⟨p, vs, rfl, hp, rp⟩ := r.tupI
      refine ⟨p, vs, rfl, SqT.of hp, by rw [rp.len]; exact hn, ?_⟩
      rw [nks_flat] at e
      refine h.run s rp (by rw [← nks_flat]; exact kq.flat.nks rp) e fun σ' L' s' m => q σ' L' s' ⟨fun a w => ?_, m.any, m.any2, m.out, m.len, fun j hj hi => m.outS j hj (by rw [← nks_flat, nks_ids]; simp), fun j hj d' w => ?_⟩
      case refine_2 =>
        obtain ⟨z1, z2⟩ := m.inS j hj d' w
        refine ⟨?_, z2⟩
        rw [← nks_flat] at z1
        unfold L2.nks at z1
        split at z1
        · rename_i y
          exact absurd (rp.nodes y) z2
        · cases k with
          | bor is => rfl
          | safe => exact z1
          | weak => exact z1
      rcases m.own a w with ⟨z1, z2, z3⟩ | w
      · refine .inl ⟨z1, z2, ?_⟩
        rw [← nks_flat] at z3
        unfold L2.nks at z3
        split at z3
        · rename_i y
          rw [rp.nodes y] at z1; simp at z1
        · cases k with
          | bor is => rfl
          | safe => exact z3
          | weak => exact z3
      · exact .inr w
    · cases e
  · cases e⟩
def aLst (n : Nat) (f : GFs) : GF := fun d k S => match d with
  | .lst ds => if ds.length = n then f ds (nks ds k.flat) S else none
  | _ => none
theorem KP.kq (s : SR K G H σ S L) {l : List Addr} {k : Kn} (h : KP H S L l k) : KQ (fun a => H a = none) (fun a => H a = none ∨ AnyN S L a) S L l k := by
  refine ⟨h.any, ?_⟩
  have := h.kd
  cases k with
  | bor is =>
    refine ⟨this.1, fun a m => (this.2 a m).imp_left fun z => ⟨z, fun w => ?_⟩⟩
    obtain ⟨o, ho, _⟩ := s.dom w
    rw [z] at ho; cases ho
  | safe =>
    intro a m w
    rcases this a m with z | z
    · obtain ⟨o, ho, _⟩ := s.dom w.any
      rw [z] at ho; cases ho
    · exact z w
  | weak => trivial
/-- target = value -/
def sAsg (f : EF) (g : GF) : SF := fun S => match f S with
  | some (.ok (d, k)) => (g d k S).map .nx
  | some (.exc x) => some (.ex x S)
  | none => none
theorem ds_asg {te : TE} {g : TG} {f : EF} {gf : GF} {ts : List Nat} (h : DE K G R te f) (hg : DG K G ts g gf) : DS K G R ts (tAsg te g) (sAsg f gf) := ⟨fun {H σ S L o} s e D p => by
  unfold sAsg at e
  split at e
  · rename_i d k e1
    cases e2 : gf d k S with
    | none => rw [e2] at e; cases e
    | some S' =>
      rw [e2] at e; cases e
      refine h.ok s e1 fun x H1 l s1 r1 k1 => hg.run (s.same s1) r1 (k1.kq s) e2 fun σ' L' s' m => ?_
      refine p H1 σ' L' s' ⟨fun a o h _ => s1 a o h, fun a w => ?_, fun a w => ?_⟩ m.out
      · rcases m.own a w with ⟨_, z, _⟩ | w
        · exact .inl z
        · exact .inr w
      · rcases m.any a w with z | w
        · exact z
        · exact .inr w
  · rename_i x e1
    cases e
    exact h.ex s e1 fun H' s1 => p H' σ L (s.same s1) (.same s1) .refl
  · cases e⟩
end
end L2
set_option Elab.async false
set_option linter.all false
set_option maxRecDepth 100000
namespace L2
open PySem PySem.Spec PyProof.Rows
section
variable {K : PySem.W.Frag} {G : List (Addr × HO)} {R : XR}
/-- at each later heap that keeps what no name owns the walk tells ds, item by item -/
def Iter (K : PySem.W.Frag) (H : Hp) (S : DSt) (L : Nat → List Addr) (H1 : Hp) (J : It) (ds : List D) : Prop :=
  ∀ H2, (∀ a o, H1 a = some o → (mutO o = false ∨ ((H a = none ∨ AnyN S L a) ∧ ¬ OwnN S L a)) → H2 a = some o) → ∀ i,
    (∀ d, ds[i]? = some d → J.go i H2 ∧ ∀ x H3, J.yld i H2 x H3 → Same H2 H3 ∧ ∃ l, Rep K H3 l x d ∧ ∀ a ∈ l, (∃ o, H1 a = some o) ∧ ¬ OwnN S L a ∧ (H a = none ∨ AnyN S L a)) ∧ (ds.length ≤ i → J.stop i H2)
abbrev IF := DSt → Option (Rs (List D))
structure DI (K : PySem.W.Frag) (G : List (Addr × HO)) (R : XR) (wi : TI) (f : IF) : Prop where
  ok : ∀ {H σ S L}, SR K G H σ S L → ∀ {ds}, f S = some (.ok ds) → ∀ {Q : It → Hp → Prop}, (∀ J H1, Same H H1 → Iter K H S L H1 J ds → Q J H1) → wi σ H Q
  ex : ∀ {H σ S L}, SR K G H σ S L → ∀ {x}, f S = some (.exc x) → ∀ {Q : It → Hp → Prop}, (∀ H', Same H H' → R x σ H') → wi σ H Q
/-- a list, a tuple, a text -/
def walkD : D → Kn → Option (List D)
  | .lst ds, .safe => some ds
  | .lst ds, .bor [] => some ds
  | .fl ds, k => match nks ds k with
    | .safe => some ds
    | .bor [] => some ds
    | _ => none
  | .tup ds, k => match nks ds k with
    | .safe => some ds
    | .bor [] => some ds
    | _ => none
  | .ft ds, k => match nks ds k with
    | .safe => some ds
    | .bor [] => some ds
    | _ => none
  | .str x, _ => some (x.cps.toList.map fun c => .str ⟨#[c]⟩)
  | _, _ => none
def iAny (K : PySem.W.Frag) (t : TE) : TI := fun σ H Q => iList K t σ H Q ∨ iTup K t σ H Q ∨ iStr t σ H Q
theorem pi_or {X : Cx} {tg e : Expr} {w w' : TI} (h : PI X tg e w) (h' : PI X tg e w') : PI X tg e (fun σ H Q => w σ H Q ∨ w' σ H Q) := by
  intro pins s σ H Q I q
  rcases q with q | q
  · exact h pins s σ H Q I q
  · exact h' pins s σ H Q I q
theorem pi_any {X : Cx} {tg e : Expr} {t : TE} (K : PySem.W.Frag) (hK : X.K = K) (h : PE X e t) : PI X tg e (iAny K t) := by
  subst hK
  exact pi_or (pi_list h) (pi_or (pi_tup h) (pi_str h))
def iOf (f : EF) : IF := fun S => bnd (f S) fun a => (walkD a.1 a.2).map .ok
/-- the items of a thing that stands still -/
theorem item_ok {H H1 H2 : Hp} {σ : St} {S : DSt} {L : Nat → List Addr} {l : List Addr} {vs : List V} {ds : List D} {k : Kn} (s : SR K G H σ S L) (s1 : Same H H1) (r : Reps K H1 l vs ds) (kp : KP H S L l k) (hk : k = .safe ∨ k = .bor [])
    (h2 : ∀ a o, H1 a = some o → (mutO o = false ∨ ((H a = none ∨ AnyN S L a) ∧ ¬ OwnN S L a)) → H2 a = some o) : Reps K H2 l vs ds ∧ ∀ a ∈ l, (∃ o, H1 a = some o) ∧ ¬ OwnN S L a ∧ (H a = none ∨ AnyN S L a) := by
  have kp' : KP H S L l .safe := by
    rcases hk with rfl | rfl
    · exact kp
    · exact kp.toSafe
  have no : ∀ a ∈ l, ¬ OwnN S L a := fun a m w => by
    rcases kp'.kd a m with z | z
    · obtain ⟨o, ho, _⟩ := s.dom w.any
      rw [z] at ho; cases ho
    · exact z w
  refine ⟨r.keep fun a o e z => h2 a o e (z.elim (fun m => .inr ⟨kp.any a m, no a m⟩) .inl), fun a m => ⟨?_, no a m, kp.any a m⟩⟩
  obtain ⟨o, ho, _⟩ := r.dom a m
  exact ⟨o, ho⟩
theorem nks_two {ds : List D} {k : Kn} {ds' : List D} (h : (match nks ds k with | .safe => some ds | .bor [] => some ds | _ => none) = some ds') : ds' = ds ∧ (nks ds k = .safe ∨ nks ds k = .bor []) := by
  split at h
  · rename_i z; cases h; exact ⟨rfl, .inl z⟩
  · rename_i z; cases h; exact ⟨rfl, .inr z⟩
  · cases h
theorem di_any {t : TE} {f : EF} (h : DE K G R t f) : DI K G R (iAny K t) (iOf f) where
  ok := by
    intro H σ S L s ds e Q q
    obtain ⟨⟨d, k⟩, e1, e⟩ := bnd_ok e
    have e : walkD d k = some ds := map_ok e
    cases d with
    | lst es =>
      have hk : ds = es ∧ (k = .safe ∨ k = .bor []) := by
        cases k with
        | safe => cases e; exact ⟨rfl, .inl rfl⟩
        | bor is => cases is with
          | nil => cases e; exact ⟨rfl, .inr rfl⟩
          | cons i is => cases e
        | weak => cases e
      obtain ⟨rfl, hk⟩ := hk
      refine .inl (h.ok s e1 fun v H1 l s1 r1 k1 => ?_)
      obtain ⟨p, vs, m, rfl, hp, rp, rfl⟩ := r1.lstI
      refine ⟨p, rfl, ⟨vs, SqL.of hp⟩, q _ H1 s1 fun H2 h2 i => ?_⟩
      obtain ⟨rr, nn⟩ := item_ok s s1 rp (k1.sub (List.sublist_cons_self p m)) hk h2
      have kp' : KP H S L (p :: m) .safe := by
        rcases hk with rfl | rfl
        · exact k1
        · exact k1.toSafe
      have hp2 : H2 p = some (.lst vs) := h2 p _ hp (.inr ⟨k1.any p (by simp), fun w => by
        rcases kp'.kd p (by simp) with z | z
        · obtain ⟨o, ho, _⟩ := s.dom w.any
          rw [z] at ho; cases ho
        · exact z w⟩)
      refine ⟨fun d hd => ?_, fun hi => ⟨vs, SqL.of hp2, by rw [rp.len]; exact hi⟩⟩
      obtain ⟨v, m', e2, e3, e4⟩ := rr.get hd
      refine ⟨⟨vs, v, SqL.of hp2, e2⟩, fun x H3 y => ?_⟩
      obtain ⟨rfl, y⟩ := y
      have := y vs (SqL.of hp2)
      rw [e2] at this; cases this
      exact ⟨Same.refl _, m', e3, fun a ma => nn a (e4.subset ma)⟩
    | fl es =>
      obtain ⟨rfl, hk⟩ := nks_two e
      refine .inl (h.ok s e1 fun v H1 l s1 r1 k1 => ?_)
      obtain ⟨p, vs, rfl, hp, rp, rfl⟩ := r1.flI
      refine ⟨p, rfl, ⟨vs, hp.sq⟩, q _ H1 s1 fun H2 h2 i => ?_⟩
      obtain ⟨rr, nn⟩ := item_ok s s1 rp (k1.nks rp) hk h2
      have hp2 := (hp.keep fun a o e z => h2 a o e (.inl z)).sq
      refine ⟨fun d hd => ?_, fun hi => ⟨vs, hp2, by rw [rp.len]; exact hi⟩⟩
      obtain ⟨v, m', e2, e3, e4⟩ := rr.get hd
      refine ⟨⟨vs, v, hp2, e2⟩, fun x H3 y => ?_⟩
      obtain ⟨rfl, y⟩ := y
      have := y vs hp2
      rw [e2] at this; cases this
      exact ⟨Same.refl _, m', e3, fun a ma => nn a (e4.subset ma)⟩
    | tup es =>
      obtain ⟨rfl, hk⟩ := nks_two e
      refine .inr (.inl (h.ok s e1 fun v H1 l s1 r1 k1 => ?_))
      obtain ⟨p, vs, rfl, hp, rp⟩ := r1.tupI
      refine ⟨p, rfl, ⟨vs, SqT.of hp⟩, q _ H1 s1 fun H2 h2 i => ?_⟩
      obtain ⟨rr, nn⟩ := item_ok s s1 rp (k1.nks rp) hk h2
      have hp2 : SqT K H2 p vs := SqT.of (h2 _ _ hp (.inl rfl))
      refine ⟨fun d hd => ?_, fun hi => ⟨vs, hp2, by rw [rp.len]; exact hi⟩⟩
      obtain ⟨v, m', e2, e3, e4⟩ := rr.get hd
      refine ⟨⟨vs, v, hp2, e2⟩, fun x H3 y => ?_⟩
      obtain ⟨rfl, y⟩ := y
      have := y vs hp2
      rw [e2] at this; cases this
      exact ⟨Same.refl _, m', e3, fun a ma => nn a (e4.subset ma)⟩
    | ft es =>
      obtain ⟨rfl, hk⟩ := nks_two e
      refine .inr (.inl (h.ok s e1 fun v H1 l s1 r1 k1 => ?_))
      obtain ⟨p, vs, rfl, hp, rp, rfl⟩ := r1.ftI
      refine ⟨p, rfl, ⟨vs, hp⟩, q _ H1 s1 fun H2 h2 i => ?_⟩
      obtain ⟨rr, nn⟩ := item_ok s s1 rp (k1.nks rp) hk h2
      have hp2 : SqT K H2 p vs := hp.keep fun a o e z => h2 a o e (.inl z)
      refine ⟨fun d hd => ?_, fun hi => ⟨vs, hp2, by rw [rp.len]; exact hi⟩⟩
      obtain ⟨v, m', e2, e3, e4⟩ := rr.get hd
      refine ⟨⟨vs, v, hp2, e2⟩, fun x H3 y => ?_⟩
      obtain ⟨rfl, y⟩ := y
      have := y vs hp2
      rw [e2] at this; cases this
      exact ⟨Same.refl _, m', e3, fun a ma => nn a (e4.subset ma)⟩
    | str z =>
      cases e
      refine .inr (.inr (h.ok s e1 fun v H1 l s1 r1 k1 => ?_))
      obtain ⟨rfl, _⟩ := r1.strI
      refine ⟨z, rfl, q _ H1 s1 fun H2 h2 i => ⟨fun d hd => ?_, fun hi => ?_⟩⟩
      · rw [List.getElem?_map] at hd
        cases e2 : z.cps.toList[i]? with
        | none => rw [e2] at hd; cases hd
        | some c =>
          rw [e2] at hd; cases hd
          have hc : z.cps[i]? = some c := by rw [← Array.getElem?_toList]; exact e2
          refine ⟨(Array.getElem?_eq_some_iff.mp hc).1, fun x H3 y => ?_⟩
          obtain ⟨rfl, c', e3, rfl⟩ := y
          rw [hc] at e3; cases e3
          exact ⟨Same.refl _, [], .str _, fun a m => by simp at m⟩
      · have : z.cps.size ≤ i := by simpa using hi
        exact this
    | _ => cases e
  ex := by
    intro H σ S L s x e Q q
    rcases bnd_ex e with e1 | ⟨a, e1, e⟩
    · exact .inl (h.ex s e1 q)
    · exact (map_ex e).elim
/-- .. where nothing is changed on the way (a comprehension) -/
def IterC (K : PySem.W.Frag) (H : Hp) (S : DSt) (L : Nat → List Addr) (H1 : Hp) (J : It) (ds : List D) : Prop :=
  ∀ H2, (∀ a o, H1 a = some o → (mutO o = false ∨ H a = none ∨ AnyN S L a) → H2 a = some o) → ∀ i,
    (∀ d, ds[i]? = some d → J.go i H2 ∧ ∀ x H3, J.yld i H2 x H3 → Same H2 H3 ∧ ∃ l, Rep K H3 l x d ∧ ∀ a ∈ l, (∃ o, H1 a = some o) ∧ ¬ OwnN S L a ∧ (H a = none ∨ AnyN S L a)) ∧ (ds.length ≤ i → J.stop i H2)
structure DIc (K : PySem.W.Frag) (G : List (Addr × HO)) (R : XR) (wi : TI) (f : IF) : Prop where
  ok : ∀ {H σ S L}, SR K G H σ S L → ∀ {ds}, f S = some (.ok ds) → ∀ {Q : It → Hp → Prop}, (∀ J H1, Same H H1 → IterC K H S L H1 J ds → Q J H1) → wi σ H Q
  ex : ∀ {H σ S L}, SR K G H σ S L → ∀ {x}, f S = some (.exc x) → ∀ {Q : It → Hp → Prop}, (∀ H', Same H H' → R x σ H') → wi σ H Q
theorem DI.c {wi : TI} {f : IF} (h : DI K G R wi f) : DIc K G R wi f where
  ok := by
    intro H σ S L s ds e Q q
    exact h.ok s e fun J H1 s1 it => q J H1 s1 fun H2 h2 => it H2 fun a o ho z => h2 a o ho (z.imp_right And.left)
  ex := h.ex
def walkC (d : D) (k : Kn) : Option (List D) := match d with
  | .lst ds => if D.nl.nls ds then some ds else walkD d k
  | _ => walkD d k
def iOfC (f : EF) : IF := fun S => bnd (f S) fun a => (walkC a.1 a.2).map .ok
theorem di_anyC {t : TE} {f : EF} (h : DE K G R t f) : DIc K G R (iAny K t) (iOfC f) where
  ok := by
    intro H σ S L s ds e Q q
    obtain ⟨⟨d, k⟩, e1, e⟩ := bnd_ok e
    have e : walkC d k = some ds := map_ok e
    by_cases hw : walkD d k = some ds
    · exact (di_any h).c.ok s (show iOf f S = some (.ok ds) by unfold iOf; rw [e1]; show (walkD d k).map Rs.ok = _; rw [hw]; rfl) q
    · cases d with
      | lst es =>
        have e : (if D.nl.nls es then some es else walkD (.lst es) k) = some ds := e
        split at e
        · rename_i hz
          have ee : ds = es := (Option.some.inj e).symm
          subst ee
          refine .inl (h.ok s e1 fun v H1 l s1 r1 k1 => ?_)
          obtain ⟨p, vs, m, rfl, hp, rp, rfl⟩ := r1.lstI
          have := rp.nodes hz
          subst this
          refine ⟨p, rfl, ⟨vs, SqL.of hp⟩, q _ H1 s1 fun H2 h2 i => ?_⟩
          have hp2 : H2 p = some (.lst vs) := h2 p _ hp (.inr (k1.any p (by simp)))
          have rp2 : Reps K H2 [] vs ds := rp.keep fun a o ho z => h2 a o ho (.inl (z.elim (fun m => by simp at m) id))
          refine ⟨fun d hd => ?_, fun hi => ⟨vs, SqL.of hp2, by rw [rp.len]; exact hi⟩⟩
          obtain ⟨u, m', e2, e3, e4⟩ := rp2.get hd
          refine ⟨⟨vs, u, SqL.of hp2, e2⟩, fun x H3 y => ?_⟩
          obtain ⟨rfl, y⟩ := y
          have := y vs (SqL.of hp2)
          rw [e2] at this; cases this
          exact ⟨Same.refl _, m', e3, fun a ma => by have := e4.subset ma; simp at this⟩
        · exact (hw e).elim
      | _ => exact (hw e).elim
  ex := by
    intro H σ S L s x e Q q
    rcases bnd_ex e with e1 | ⟨a, e1, e⟩
    · exact .inl (h.ex s e1 q)
    · exact (map_ex e).elim
/-- range(..) -/
def rg1 : List D → Option (List D)
  | [.int j] => if in62 j then some (rangeD 0 j) else none
  | _ => none
def rg2 : List D → Option (List D)
  | [.int i, .int j] => if in62 i && in62 j then some (rangeD i j) else none
  | _ => none
def iRg (g : List D → Option (List D)) (f : AF) : IF := fun S => bnd (f S) fun a => (g a.1).map .ok
theorem iter_range {H H1 : Hp} {S : DSt} {L : Nat → List Addr} (lo hi : Int) : Iter K H S L H1 (Itr lo (hi - lo).toNat) (rangeD lo hi) := fun H2 h2 i => by
  have hl : (rangeD lo hi).length = (hi - lo).toNat := by unfold rangeD; rw [List.length_map, List.length_range]
  refine ⟨fun d hd => ?_, fun h => by rw [hl] at h; exact h⟩
  have hi' := (List.getElem?_eq_some_iff.mp hd).1
  rw [hl] at hi'
  unfold rangeD at hd
  rw [List.getElem?_map, List.getElem?_range hi'] at hd
  cases hd
  refine ⟨hi', fun x H3 y => ?_⟩
  obtain ⟨rfl, rfl⟩ := y
  exact ⟨Same.refl _, [], .int _, fun a m => by simp at m⟩
theorem di_range1 {t : TA} {f : AF} (h : DA K G R t f) : DI K G R (iRng1 t) (iRg rg1 f) where
  ok := by
    intro H σ S L s ds e Q q
    obtain ⟨⟨as, k⟩, e1, e⟩ := bnd_ok e
    replace e : rg1 as = some ds := map_ok e
    unfold rg1 at e
    split at e
    · split at e
      · rename_i j hz
        cases e
        have hz := in62_of hz
        refine h.ok s e1 fun vs H1 l s1 r1 k1 => ?_
        obtain ⟨v, rfl, rv⟩ := r1.one
        obtain ⟨rfl, _⟩ := rv.intI
        refine ⟨j, rfl, hz.1, hz.2, q _ H1 s1 ?_⟩
        have := iter_range (K := K) (H := H) (H1 := H1) (S := S) (L := L) 0 j
        rw [show j - 0 = j by omega] at this
        exact this
      · cases e
    · cases e
  ex := by
    intro H σ S L s x e Q q
    rcases bnd_ex e with e1 | ⟨a, e1, e⟩
    · exact h.ex s e1 q
    · exact (map_ex e).elim
/-- enumerate(list) -/
def enumD (ds : List D) : List D := ds.mapIdx fun i d => .tup [.int (i : Nat), d]
def iEnumD (f : AF) : IF := fun S => bnd (f S) fun a => match a with
  | ([.lst ds], .safe) => some (.ok (enumD ds))
  | ([.lst ds], .bor []) => some (.ok (enumD ds))
  | _ => none
/-- zip(list, list) -/
def zipD (a b : List D) : List D := List.zipWith (fun x y => .tup [x, y]) a b
def iZipD (f : AF) : IF := fun S => bnd (f S) fun a => match a with
  | ([.lst ds, .lst es], .safe) => some (.ok (zipD ds es))
  | ([.lst ds, .lst es], .bor []) => some (.ok (zipD ds es))
  | _ => none
def forD (g : GF) (b : SF) : List D → DSt → Option SO
  | [], S => some (.nx S)
  | d :: ds, S => match g d .safe S with
    | none => none
    | some S1 => match b S1 with
      | some (.nx S2) => forD g b ds S2
      | some (.ct S2) => forD g b ds S2
      | some (.bk S2) => some (.nx S2)
      | some (.rt d fr S2) => some (.rt d fr S2)
      | some (.ex x S2) => some (.ex x S2)
      | none => none
def sFor (f : IF) (g : GF) (b : SF) : SF := fun S => match f S with
  | some (.ok ds) => forD g b ds S
  | some (.exc x) => some (.ex x S)
  | none => none
theorem drop_get {α : Type} : ∀ {ds : List α} {i : Nat} {d : α}, ds[i]? = some d → ds.drop i = d :: ds.drop (i + 1)
  | [], i, d, h => by simp at h
  | x :: xs, 0, d, h => by
    simp only [List.getElem?_cons_zero, Option.some.injEq] at h
    subst h; rfl
  | x :: xs, i + 1, d, h => by
    have := drop_get (ds := xs) (i := i) (d := d) (by simpa using h)
    simpa using this
/-- from a loop's start (H1: behind the walked thing's making) -/
structure MvL (H H1 : Hp) (S : DSt) (L : Nat → List Addr) (H' : Hp) (S' : DSt) (L' : Nat → List Addr) : Prop where
  keep : ∀ a o, H1 a = some o → (mutO o = false ∨ ¬ OwnN S L a) → H' a = some o
  own : ∀ a, OwnN S' L' a → H1 a = none ∨ OwnN S L a
  any : ∀ a, AnyN S' L' a → H a = none ∨ AnyN S L a
theorem MvL.gone {H H1 H' : Hp} {S S' : DSt} {L L' : Nat → List Addr} (m : MvL H H1 S L H' S' L') {a : Addr} (h : H' a = none) : H1 a = none ∨ OwnN S L a := by
  cases e : H1 a with
  | none => exact .inl rfl
  | some o =>
    by_cases z : OwnN S L a
    · exact .inr z
    · rw [m.keep a o e (.inr z)] at h; cases h
theorem MvL.mv {H H1 H' : Hp} {S S' : DSt} {L L' : Nat → List Addr} (m : MvL H H1 S L H' S' L') (s : Same H H1) : Mv H S L H' S' L' :=
  ⟨fun a o h z => m.keep a o (s a o h) z, fun a w => (m.own a w).imp_left s.free, m.any⟩
theorem MvL.trans {H H1 H' H2 : Hp} {S S' S2 : DSt} {L L' M2 : Nat → List Addr} (m : MvL H H1 S L H' S' L') (s : Same H H1) (n : Mv H' S' L' H2 S2 M2) : MvL H H1 S L H2 S2 M2 where
  keep := fun a o h z => by
    refine n.keep a o (m.keep a o h z) (z.imp_right fun z y => ?_)
    rcases m.own a y with w | w
    · rw [h] at w; cases w
    · exact z w
  own := fun a y => by
    rcases n.own a y with w | w
    · exact m.gone w
    · exact m.own a w
  any := fun a y => by
    rcases n.any a y with w | w
    · rcases m.gone w with w | w
      · exact .inl (s.free w)
      · exact .inr w.any
    · exact m.any a w
theorem for_core {g : TG} {tb : TS} {ts tc : List Nat} {gf : GF} {b : SF} {H H1 : Hp} {σ : St} {S : DSt} {L : Nat → List Addr} {J : It} {ds : List L2.D} {o : SO} {D : Ends} (hg : DG K G ts g gf) (hb : DS K G R tc tb b) (s : SR K G H σ S L) (s1 : Same H H1)
    (it : ∀ H2, (∀ a o, H1 a = some o → (mutO o = false ∨ ¬ OwnN S L a) → H2 a = some o) → ∀ i, (∀ d, ds[i]? = some d → J.go i H2 ∧ ∀ x H3, J.yld i H2 x H3 → Same H2 H3 ∧ ∃ l, Rep K H3 l x d ∧ ∀ a ∈ l, (∃ o, H1 a = some o) ∧ ¬ OwnN S L a ∧ (H a = none ∨ AnyN S L a)) ∧ (ds.length ≤ i → J.stop i H2))
    (e : forD gf b ds S = some o) (p : SPost K G R (ts ++ tc) D H σ S L o) :
    ∃ W : Nat → Nat → St → Hp → Prop, (∃ m, W 0 m σ H1) ∧ ∀ i m σ H, W i m σ H →
      (J.stop i H ∧ D.nx σ H) ∨ (J.go i H ∧ ∃ N : St → Hp → Prop, (∀ σ' H', N σ' H' → ∃ m', m' < m ∧ W (i + 1) m' σ' H') ∧ ∀ x H', J.yld i H x H' → g x σ H' fun σ2 H2 => tb { D with nx := N, ct := N, bk := D.nx } σ2 H2) := by
  refine ⟨fun i m σ' H' => m = ds.length - i ∧ i ≤ ds.length ∧ ∃ S' L', SR K G H' σ' S' L' ∧ MvL H H1 S L H' S' L' ∧ Out (ts ++ tc) σ σ' ∧ forD gf b (ds.drop i) S' = some o,
    ⟨ds.length, by simp, Nat.zero_le _, S, L, s.same s1, ⟨fun a o h _ => h, fun a w => .inr w, fun a w => .inr w⟩, .refl, by simpa using e⟩, ?_⟩
  rintro i m σ' H' ⟨rfl, hil, S', L', s', mv, ou, e'⟩
  obtain ⟨it1, it2⟩ := it H' mv.keep i
  by_cases hlt : i < ds.length
  · obtain ⟨d, hd⟩ : ∃ d, ds[i]? = some d := ⟨ds[i], List.getElem?_eq_getElem hlt⟩
    obtain ⟨go, y⟩ := it1 d hd
    rw [drop_get hd] at e'
    refine .inr ⟨go, fun σ2 H2 => i + 1 ≤ ds.length ∧ ∃ S' L', SR K G H2 σ2 S' L' ∧ MvL H H1 S L H2 S' L' ∧ Out (ts ++ tc) σ σ2 ∧ forD gf b (ds.drop (i + 1)) S' = some o, fun σ2 H2 z => ⟨ds.length - (i + 1), by omega, rfl, z⟩, fun x H3 yx => ?_⟩
    obtain ⟨s3, l, rl, nl⟩ := y x H3 yx
    unfold forD at e'
    cases e2 : gf d .safe S' with
    | none => rw [e2] at e'; cases e'
    | some S1 =>
      rw [e2] at e'
      dsimp only at e'
      have kq : KQ (fun _ => False) (fun a => H a = none ∨ AnyN S L a) S' L' l .safe := ⟨fun a m => (nl a m).2.2, fun a m w => by
        rcases mv.own a w with z | z
        · obtain ⟨o, ho⟩ := (nl a m).1
          rw [z] at ho; cases ho
        · exact (nl a m).2.1 z⟩
      refine hg.run (s'.same s3) rl kq e2 fun σ4 L4 s4 m4 => ?_
      have mv4 : MvL H H1 S L H3 S1 L4 := by
        refine ⟨fun a o h z => s3 _ _ (mv.keep a o h z), fun a w => ?_, fun a w => ?_⟩
        · rcases m4.own a w with ⟨_, z, _⟩ | w
          · exact z.elim
          · exact mv.own a w
        · rcases m4.any a w with z | w
          · exact z
          · exact mv.any a w
      have ou4 : Out (ts ++ tc) σ σ4 := ou.trans m4.out id_ts inl_ts
      cases e3 : b S1 with
      | none => rw [e3] at e'; cases e'
      | some o1 =>
        rw [e3] at e'
        refine hb.run s4 e3 ?_
        cases o1 with
        | nx S2 => exact fun H5 σ5 L5 s5 m5 w5 => ⟨hlt, S2, L5, s5, mv4.trans s1 m5, ou4.trans w5 id_ts inr_ts, e'⟩
        | ct S2 => exact fun H5 σ5 L5 s5 m5 w5 => ⟨hlt, S2, L5, s5, mv4.trans s1 m5, ou4.trans w5 id_ts inr_ts, e'⟩
        | bk S2 => cases e'; exact fun H5 σ5 L5 s5 m5 w5 => p H5 σ5 L5 s5 ((mv4.mv s1).trans m5) (ou4.trans w5 id_ts inr_ts)
        | rt d fr S2 => cases e'; exact fun v H5 σ5 L5 l s5 m5 w5 r5 t5 => p v H5 σ5 L5 l s5 ((mv4.mv s1).trans m5) (ou4.trans w5 id_ts inr_ts) r5 (t5.back (mv4.mv s1))
        | ex x S2 => cases e'; exact fun H5 σ5 L5 s5 m5 w5 => p H5 σ5 L5 s5 ((mv4.mv s1).trans m5) (ou4.trans w5 id_ts inr_ts)
  · have : i = ds.length := by omega
    subst this
    refine .inl ⟨it2 (Nat.le_refl _), ?_⟩
    rw [List.drop_length] at e'
    cases e'
    exact p H' σ' L' s' (mv.mv s1) ou
theorem ds_for {wi : TI} {g : TG} {tb : TS} {f : IF} {ts tc : List Nat} {gf : GF} {b : SF} (hi : DI K G R wi f) (hg : DG K G ts g gf) (hb : DS K G R tc tb b) : DS K G R (ts ++ tc) (tFor wi g tb) (sFor f gf b) := ⟨fun {H σ S L o} s e D p => by
  unfold sFor at e
  split at e
  · rename_i ds e1
    refine hi.ok s e1 fun J H1 s1 it => ?_
    exact for_core hg hb s s1 (fun H2 h2 => it H2 fun a o h z => h2 a o h (z.imp_right And.right)) e p
  · rename_i x e1
    cases e
    exact hi.ex s e1 fun H' s1 => p H' σ L (s.same s1) (.same s1) .refl
  · cases e⟩
/-- for x in NAME, the name an own one that the loop leaves alone, its items without changeable things -/
def backS (i : Nat) (d : D) : Option SO → Option SO
  | some (.nx S) => (match S[i]? with
    | some none => some (.nx (S.set i (some (true, d))))
    | _ => none)
  | some (.rt d' fr S) => some (.rt d' fr S)
  | some (.ex x S) => some (.ex x S)
  | _ => none
def sForL (i : Nat) (g : GF) (b : SF) : SF := fun S => match S[i]? with
  | some (some (true, .lst ds)) => if D.nl.nls ds then backS i (.lst ds) (forD g b ds (drops [i] S)) else none
  | _ => none
theorem ds_forL {g : TG} {tb : TS} {i : Nat} {ts tc : List Nat} {gf : GF} {b : SF} (hn : i ∉ ts ++ tc) (hg : DG K G ts g gf) (hb : DS K G R tc tb b) : DS K G R (ts ++ tc) (tFor (iAny K (tVar i)) g tb) (sForL i gf b) := ⟨fun {H σ S L o} s e D p => by
  unfold sForL at e
  split at e
  · rename_i ds hS
    split at e
    · rename_i hz
      obtain ⟨v, hv, rv⟩ := s.rep i _ _ hS
      obtain ⟨q, vs, m, rfl, hq, rq, hL⟩ := rv.lstI
      have := rq.nodes hz
      subst this
      have s0 := s.drops [i]
      have no : ¬ AnyN (drops [i] S) L q := fun w => by
        obtain ⟨j, c, ej, h1, h2⟩ := w
        obtain ⟨h3, h4⟩ := drops_get h1
        exact s.sep i j _ _ _ hS h3 (fun z => h4 (by simp [z])) q (by rw [hL]; simp) h2
      cases e0 : forD gf b ds (drops [i] S) with
      | none => rw [e0] at e; cases e
      | some o0 =>
        rw [e0] at e
        refine .inl ⟨_, hv, q, rfl, ⟨vs, SqL.of hq⟩, ?_⟩
        refine for_core (J := Itl K q) (ds := ds) hg hb s0 (Same.refl H) (fun H2 h2 k => ?_) e0 ?_
        · have hq2 : H2 q = some (.lst vs) := h2 q _ hq (.inr fun w => no w.any)
          have rq2 : Reps K H2 [] vs ds := rq.keep fun a o h z => h2 a o h (.inl (z.elim (fun m => by simp at m) id))
          refine ⟨fun d hd => ?_, fun hi => ⟨vs, SqL.of hq2, by rw [rq.len]; exact hi⟩⟩
          obtain ⟨u, m', e2, e3, e4⟩ := rq2.get hd
          refine ⟨⟨vs, u, SqL.of hq2, e2⟩, fun x H3 y => ?_⟩
          obtain ⟨rfl, y⟩ := y
          have := y vs (SqL.of hq2)
          rw [e2] at this; cases this
          exact ⟨Same.refl _, m', e3, fun a ma => by have := e4.subset ma; simp at this⟩
        · have mv0 : ∀ {H' S' L'}, Mv H (drops [i] S) L H' S' L' → Mv H S L H' S' L' := fun mv => (Mv.drops [i]).trans mv
          cases o0 with
          | nx S1 =>
            intro H' σ' L' s' mv ou
            have e : (match S1[i]? with | some none => some (SO.nx (S1.set i (some (true, .lst ds)))) | _ => none) = some o := e
            split at e
            · rename_i hn1
              cases e
              have hq' : H' q = some (.lst vs) := mv.keep q _ hq (.inr fun w => no w.any)
              have rq' : Reps K H' [] vs ds := rq.keep fun a o h z => mv.keep a o h (.inl (z.elim (fun m => by simp at m) id))
              have hv' : σ'[i]? = some (some (.ref q)) := (ou i hn).trans hv
              have hset : σ'.set i (some (.ref q)) = σ' := by
                refine List.ext_getElem? fun j => ?_
                by_cases hj : i = j
                · subst hj
                  rw [List.getElem?_set_self (List.getElem?_eq_some_iff.mp hv').1, hv']
                · rw [List.getElem?_set_ne hj]
              have oth : ∀ a ∈ [q], ∀ j c ej, j ≠ i → S1[j]? = some (some (c, ej)) → a ∉ L' j := fun a ha j c ej hj h1 h2 => by
                have : a = q := by simpa using ha
                subst this
                rcases mv.any a ⟨j, c, ej, h1, h2⟩ with w | w
                · rw [hq] at w; cases w
                · exact no w
              have fin := s'.put (i := i) (b := true) (Rep.lst hq' rq') (fun _ => ⟨by simp, oth⟩) (fun a ha j ej hj h => oth a ha j true ej hj h)
              rw [hset] at fin
              refine p H' σ' _ fin ⟨fun a o h z => (mv0 mv).keep a o h z, fun a w => ?_, fun a w => ?_⟩ ou
              · rcases w.put with ⟨h, _⟩ | w
                · exact .inr ⟨i, _, hS, by rw [hL]; exact h⟩
                · exact (mv0 mv).own a w
              · rcases w.put with h | w
                · exact .inr ⟨i, _, _, hS, by rw [hL]; exact h⟩
                · exact (mv0 mv).any a w
            · cases e
          | bk S1 => cases e
          | ct S1 => cases e
          | rt d fr S1 =>
            cases e
            exact fun v H' σ' L' l s' mv ou r t => p v H' σ' L' l s' (mv0 mv) ou r (t.back (.drops [i]))
          | ex x S1 =>
            cases e
            exact fun H' σ' L' s' mv ou => p H' σ' L' s' (mv0 mv) ou
    · cases e
  · cases e⟩
def whileD (c : TF) (b : SF) : Nat → DSt → Option SO
  | 0, _ => none
  | n + 1, S => match c S with
    | some (.ok true) => match b S with
      | some (.nx S2) => whileD c b n S2
      | some (.ct S2) => whileD c b n S2
      | some (.bk S2) => some (.nx S2)
      | some (.rt d fr S2) => some (.rt d fr S2)
      | some (.ex x S2) => some (.ex x S2)
      | none => none
    | some (.ok false) => some (.nx S)
    | some (.exc x) => some (.ex x S)
    | none => none
def sWhile (n : DSt → Nat) (c : TF) (b : SF) : SF := fun S => whileD c b (n S) S
theorem ds_while {tc : TT} {tb : TS} {n : DSt → Nat} {c : TF} {b : SF} {ts : List Nat} (hc : DT K G R tc c) (hb : DS K G R ts tb b) : DS K G R ts (tWhile tc tb) (sWhile n c b) := ⟨fun {H σ S L o} s e D p => by
  refine ⟨fun m σ' H' => ∃ S' L', SR K G H' σ' S' L' ∧ Mv H S L H' S' L' ∧ Out ts σ σ' ∧ whileD c b m S' = some o, ⟨n S, S, L, s, .refl, .refl, e⟩, ?_⟩
  rintro m σ' H' ⟨S', L', s', mv, ou, e'⟩
  cases m with
  | zero => cases e'
  | succ m =>
    unfold whileD at e'
    split at e'
    · rename_i e1
      refine hc.ok s' e1 fun H1 s1 => ?_
      rw [if_pos rfl]
      refine ⟨fun σ2 H2 => ∃ S' L', SR K G H2 σ2 S' L' ∧ Mv H S L H2 S' L' ∧ Out ts σ σ2 ∧ whileD c b m S' = some o, fun σ2 H2 z => ⟨m, Nat.lt_succ_self _, z⟩, ?_⟩
      have mv1 := mv.trans (Mv.same s1 (S := S') (L := L'))
      cases e3 : b S' with
      | none => rw [e3] at e'; cases e'
      | some o1 =>
        rw [e3] at e'
        refine hb.run (s'.same s1) e3 ?_
        cases o1 with
        | nx S2 => exact fun H5 σ5 L5 s5 m5 w5 => ⟨S2, L5, s5, mv1.trans m5, ou.trans w5 id_ts id_ts, e'⟩
        | ct S2 => exact fun H5 σ5 L5 s5 m5 w5 => ⟨S2, L5, s5, mv1.trans m5, ou.trans w5 id_ts id_ts, e'⟩
        | bk S2 => cases e'; exact fun H5 σ5 L5 s5 m5 w5 => p H5 σ5 L5 s5 (mv1.trans m5) (ou.trans w5 id_ts id_ts)
        | rt d fr S2 => cases e'; exact fun v H5 σ5 L5 l s5 m5 w5 r5 t5 => p v H5 σ5 L5 l s5 (mv1.trans m5) (ou.trans w5 id_ts id_ts) r5 (t5.back mv1)
        | ex x S2 => cases e'; exact fun H5 σ5 L5 s5 m5 w5 => p H5 σ5 L5 s5 (mv1.trans m5) (ou.trans w5 id_ts id_ts)
    · rename_i e1
      cases e'
      refine hc.ok s' e1 fun H1 s1 => ?_
      rw [if_neg Bool.false_ne_true]
      exact p H1 σ' L' (s'.same s1) (mv.trans (.same s1)) ou
    · rename_i x e1
      cases e'
      exact hc.ex s' e1 fun H1 s1 => p H1 σ' L' (s'.same s1) (mv.trans (.same s1)) ou
    · cases e'⟩
def sPar (i j : Nat) (f : AF) : SF := fun S => match f S with
  | some (.ok ([x, y], k)) => (match nks [x, y] k with
    | .weak => none
    | k' => (aName i x (x.nk k'.flat) S).bind fun S1 => (aName j y (y.nk k'.flat) S1).map .nx)
  | some (.exc x) => some (.ex x S)
  | _ => none
end
end L2
set_option Elab.async false
set_option linter.all false
set_option maxRecDepth 100000
namespace L2
open PySem PySem.Spec PyProof.Rows
section
variable {K : PySem.W.Frag} {G : List (Addr × HO)} {R : XR}
def sPar2 (i j : Nat) (f : AF) : SF := fun S => match f S with
  | some (.ok (ds, k)) => (aConss (aName i) (aConss (aName j) aNils) ds (nks ds k.flat) S).map .nx
  | some (.exc x) => some (.ex x S)
  | none => none
def sAug (g : D → D → Option D) (i : Nat) (f : EF) : SF := fun S => match S[i]? with
  | some (some (_, a)) => (match f S with
    | some (.ok (b, _)) => (match g a b with
      | some c => if c.nl then some (.nx (S.set i (some (false, c)))) else none
      | none => none)
    | some (.exc x) => some (.ex x S)
    | none => none)
  | _ => none
theorem ds_aug {i : Nat} {te : TE} {ti : TIp} {f : EF} {g : D → D → Option D} (hg : ∀ {H x y lx ly a b d}, Rep K H lx x a → Rep K H ly y b → g a b = some d → ∀ {Q : VK}, (∀ v, Rep K H [] v d → Q v H) → ti x y H Q) (h : DE K G R te f) :
    DS K G R [i] (tAug i te ti) (sAug g i f) := ⟨fun {H σ S L o} s e D p => by
  unfold sAug at e
  split at e
  · rename_i b0 a e1
    obtain ⟨x, e2, r2⟩ := s.rep i _ _ e1
    refine ⟨x, e2, ?_⟩
    split at e
    · rename_i b kb e3
      refine h.ok s e3 fun y H1 l s1 r1 k1 => ?_
      cases e4 : g a b with
      | none => rw [e4] at e; cases e
      | some c =>
        rw [e4] at e
        dsimp only at e
        split at e
        · rename_i hc
          cases e
          refine hg (r2.same s1) r1 e4 fun v rv => ?_
          have s' := (s.same s1).put (i := i) (b := false) rv (fun z => by cases z) (fun a m => by simp at m)
          refine p H1 _ _ s' ⟨fun a o h _ => s1 a o h, fun a w => ?_, fun a w => ?_⟩ (fun j hj => List.getElem?_set_ne (by simpa using fun z : i = j => hj (by simp [z])))
          · rcases w.put with ⟨m, _⟩ | w
            · simp at m
            · exact .inr w
          · rcases w.put with m | w
            · simp at m
            · exact .inr w
        · cases e
    · rename_i x' e3
      cases e
      exact h.ex s e3 fun H' s1 => p H' σ L (s.same s1) (.same s1) .refl
    · cases e
  · cases e⟩
theorem ip_I {f : Int → Int → Int} {H : Hp} {x y : V} {lx ly : List Addr} {a b d : D} (r1 : Rep K H lx x a) (r2 : Rep K H ly y b) (e : gI (fun i j => .int (f i j)) a b = some d) {Q : VK} (q : ∀ v, Rep K H [] v d → Q v H) : ipI f x y H Q := by
  obtain ⟨i, j, rfl, rfl, rfl⟩ := gI_some e
  exact ⟨i, j, r1.intI.1, r2.intI.1, q _ (.int _)⟩
def KD (H : Hp) (S : DSt) (L : Nat → List Addr) (l : List Addr) (k : Kn) : Prop := match k with
    | .bor is => l.Nodup ∧ ∀ a ∈ l, H a = none ∨ ∃ i ∈ is, ∃ d, S[i]? = some (some (true, d)) ∧ a ∈ L i
    | .safe => ∀ a ∈ l, H a = none ∨ ¬ OwnN S L a
    | .weak => True
theorem KP.cat2 {H H1 : Hp} {σ : St} {S : DSt} {L : Nat → List Addr} {l m : List Addr} {k k' : Kn} (s : SR K G H σ S L) (e : Same H H1) (hl : KP H S L l k) (dl : ∀ a ∈ l, ∃ o, H1 a = some o ∧ mutO o = true) (ha : ∀ a ∈ m, H a = none ∨ AnyN S L a) (hm : KD H1 S L m k') : KP H S L (l ++ m) (k.cat k') := by
  have any : ∀ a ∈ l ++ m, H a = none ∨ AnyN S L a := fun a z => by
    rcases List.mem_append.mp z with z | z
    · exact hl.any a z
    · exact ha a z
  have weak : KP H S L (l ++ m) .weak := ⟨any, trivial⟩
  have safe : KP H S L l .safe → (∀ a ∈ m, H a = none ∨ ¬ OwnN S L a) → KP H S L (l ++ m) .safe := fun p q => ⟨any, fun a z => by
    rcases List.mem_append.mp z with z | z
    · exact p.kd a z
    · exact q a z⟩
  cases k with
  | bor is =>
    cases k' with
    | bor js =>
      show KP H S L (l ++ m) (if _ then _ else _)
      split
      · rename_i hd
        refine ⟨any, List.nodup_append.mpr ⟨hl.kd.1, hm.1, fun a ha b hb => ?_⟩, fun a z => ?_⟩
        · rintro rfl
          obtain ⟨o, ho, _⟩ := dl a ha
          rcases hm.2 a hb with z | ⟨j, hj, d, hd1, hd2⟩
          · rw [ho] at z; cases z
          · rcases hl.kd.2 a ha with z | ⟨i, hi, d', hd3, hd4⟩
            · obtain ⟨o', ho', _⟩ := s.dom ⟨j, _, _, hd1, hd2⟩
              rw [z] at ho'; cases ho'
            · have hij : i ≠ j := by
                rintro rfl
                have := List.all_eq_true.mp hd i hi
                simp [List.contains_iff_mem, hj] at this
              exact s.sep i j _ _ _ hd3 hd1 hij a hd4 hd2
        · rcases List.mem_append.mp z with z | z
          · exact (hl.kd.2 a z).imp_right fun ⟨i, hi, r⟩ => ⟨i, List.mem_append.mpr (.inl hi), r⟩
          · exact (hm.2 a z).imp e.free fun ⟨i, hi, r⟩ => ⟨i, List.mem_append.mpr (.inr hi), r⟩
      · exact weak
    | safe =>
      cases is with
      | nil => exact safe hl.toSafe fun a z => (hm a z).imp_left e.free
      | cons i is => exact weak
    | weak => cases is <;> exact weak
  | safe =>
    cases k' with
    | bor js =>
      cases js with
      | nil =>
        refine safe hl fun a z => ?_
        rcases hm.2 a z with z | ⟨i, hi, _⟩
        · exact .inl (e.free z)
        · simp at hi
      | cons i is => exact weak
    | safe => exact safe hl fun a z => (hm a z).imp_left e.free
    | weak => exact weak
  | weak => cases k' <;> exact weak
def wipeD (S : DSt) : List Nat → DSt
  | [] => S
  | v :: vs => (wipeD S vs).set v none
theorem wipeD_len (S : DSt) : ∀ vs : List Nat, (wipeD S vs).length = S.length
  | [] => rfl
  | v :: vs => by unfold wipeD; rw [List.length_set, wipeD_len S vs]
theorem wipeD_some {S : DSt} {i : Nat} {x : Bool × D} : ∀ {vs : List Nat}, (wipeD S vs)[i]? = some (some x) → S[i]? = some (some x) ∧ i ∉ vs
  | [], h => ⟨h, by simp⟩
  | v :: vs, h => by
    unfold wipeD at h
    by_cases hi : v = i
    · subst hi
      by_cases hv : v < (wipeD S vs).length
      · rw [List.getElem?_set_self hv] at h; cases h
      · rw [List.getElem?_eq_none (by simpa using hv)] at h; cases h
    · rw [List.getElem?_set_ne hi] at h
      obtain ⟨h1, h2⟩ := wipeD_some h
      exact ⟨h1, by simp only [List.mem_cons, not_or]; exact ⟨fun e => hi e.symm, h2⟩⟩
theorem wipeD_out {S : DSt} {i : Nat} : ∀ {vs : List Nat}, i ∉ vs → (wipeD S vs)[i]? = S[i]?
  | [], _ => rfl
  | v :: vs, h => by
    simp only [List.mem_cons, not_or] at h
    unfold wipeD
    rw [List.getElem?_set_ne (Ne.symm h.1), wipeD_out h.2]
theorem wipe_outs {σ : St} {i : Nat} : ∀ {vs : List Nat}, i ∉ vs → (wipe σ vs)[i]? = σ[i]?
  | [], _ => rfl
  | v :: vs, h => by
    simp only [List.mem_cons, not_or] at h
    unfold wipe
    rw [List.getElem?_set_ne (Ne.symm h.1), wipe_outs h.2]
theorem wipe_in {σ : St} {i : Nat} : ∀ {vs : List Nat}, i ∈ vs → i < σ.length → (wipe σ vs)[i]? = some none
  | [], h, _ => by simp at h
  | v :: vs, h, hl => by
    unfold wipe
    by_cases hi : v = i
    · subst hi
      rw [List.getElem?_set_self (by rw [wipe_length]; exact hl)]
    · rw [List.getElem?_set_ne hi, wipe_in ((List.mem_cons.mp h).resolve_left fun e => hi e.symm) hl]
theorem wipe_eq {σ σ' : St} {vs : List Nat} (hl : σ.length = σ'.length) (h : ∀ j, j ∉ vs → σ[j]? = σ'[j]?) : wipe σ vs = wipe σ' vs := by
  refine List.ext_getElem? fun j => ?_
  by_cases hj : j ∈ vs
  · by_cases hlt : j < σ.length
    · rw [wipe_in hj hlt, wipe_in hj (by omega)]
    · rw [List.getElem?_eq_none (by rw [wipe_length]; omega), List.getElem?_eq_none (by rw [wipe_length]; omega)]
  · rw [wipe_outs hj, wipe_outs hj, h j hj]
theorem SR.wipe {H : Hp} {σ : St} {S : DSt} {L : Nat → List Addr} (s : SR K G H σ S L) (vs : List Nat) : SR K G H (L2.wipe σ vs) (wipeD S vs) L where
  len := by rw [wipe_length, wipeD_len]; exact s.len
  gs := s.gs
  rep := fun i b d h => by
    obtain ⟨h1, h2⟩ := wipeD_some h
    obtain ⟨v, e1, e2⟩ := s.rep i b d h1
    exact ⟨v, by rw [wipe_outs h2]; exact e1, e2⟩
  own := fun i d h => s.own i d (wipeD_some h).1
  sep := fun i j d b e h1 h2 => s.sep i j d b e (wipeD_some h1).1 (wipeD_some h2).1
theorem AnyN.wipe {S : DSt} {L : Nat → List Addr} {vs : List Nat} {a : Addr} (h : AnyN (wipeD S vs) L a) : AnyN S L a := let ⟨i, b, d, e, m⟩ := h; ⟨i, b, d, (wipeD_some e).1, m⟩
theorem OwnN.wipe {S : DSt} {L : Nat → List Addr} {vs : List Nat} {a : Addr} (h : OwnN (wipeD S vs) L a) : OwnN S L a := let ⟨i, d, e, m⟩ := h; ⟨i, d, (wipeD_some e).1, m⟩
/-- no name of the block is an own one outside -/
def ownAt (S : DSt) (i : Nat) : Bool := match S[i]? with
  | some (some (true, _)) => true
  | _ => false
theorem ownAt_no {S : DSt} {i : Nat} (h : ownAt S i = false) (d : D) : S[i]? ≠ some (some (true, d)) := fun e => by
  unfold ownAt at h; rw [e] at h; cases h
/-- what a block's state says outside -/
structure Blk (S : DSt) (L : Nat → List Addr) (A : Addr → Prop) (N : List Addr) (S1 : DSt) (L1 : Nat → List Addr) : Prop where
  own1 : ∀ i d, S1[i]? = some (some (true, d)) → S[i]? = some (some (true, d)) ∧ L1 i = L i
  own2 : ∀ i d, S[i]? = some (some (true, d)) → S1[i]? = some (some (true, d)) ∧ L1 i = L i
  any : ∀ a, AnyN S1 L1 a → A a
  any2 : ∀ a, AnyN S1 L1 a → a ∈ N ∨ AnyN S L a
theorem Blk.kd {S S1 : DSt} {L L1 : Nat → List Addr} {A : Addr → Prop} {N : List Addr} {H5 : Hp} {l : List Addr} {k : Kn} (b : Blk S L A N S1 L1) (h : KP H5 S1 L1 l k) : KD H5 S L l k := by
  have := h.kd
  cases k with
  | bor is =>
    refine ⟨this.1, fun a m => (this.2 a m).imp_right fun ⟨i, hi, d, h1, h2⟩ => ?_⟩
    obtain ⟨z1, z2⟩ := b.own1 i d h1
    exact ⟨i, hi, d, z1, by rw [← z2]; exact h2⟩
  | safe =>
    refine fun a m => (this a m).imp_right fun z w => z ?_
    obtain ⟨i, d, h1, h2⟩ := w
    obtain ⟨z1, z2⟩ := b.own2 i d h1
    exact ⟨i, d, z1, by rw [z2]; exact h2⟩
  | weak => trivial
/-- a target takes an item that nobody owns -/
theorem Blk.step {S S0 S1 : DSt} {L L0 L1 : Nat → List Addr} {A P : Addr → Prop} {N l : List Addr} {ts vs : List Nat} {σ σ' : St} (b : Blk S L A N S0 L0) (m : MvG P A l .safe ts σ S0 L0 σ' S1 L1) (hts : ∀ i ∈ ts, i ∈ vs) (hv : ∀ i ∈ vs, ownAt S i = false) : Blk S L A (N ++ l) S1 L1 where
  own1 := fun i d h => by
    by_cases hi : i ∈ ts
    · obtain ⟨z, _⟩ := m.inS i hi d h; cases z
    · obtain ⟨z1, z2⟩ := m.outS i hi (by simp [Kn.ids])
      rw [z1] at h
      rw [z2]
      exact b.own1 i d h
  own2 := fun i d h => by
    have hi : i ∉ ts := fun z => ownAt_no (hv i (hts i z)) d h
    obtain ⟨z1, z2⟩ := m.outS i hi (by simp [Kn.ids])
    rw [z1, z2]
    exact b.own2 i d h
  any := fun a w => (m.any a w).elim id (b.any a)
  any2 := fun a w => by
    rcases m.any2 a w with z | z
    · exact .inl (List.mem_append.mpr (.inr z))
    · exact (b.any2 a z).imp_left fun z => List.mem_append.mpr (.inl z)
theorem Blk.start {S : DSt} {L : Nat → List Addr} {A : Addr → Prop} {vs : List Nat} (hv : ∀ i ∈ vs, ownAt S i = false) (hA : ∀ a, AnyN S L a → A a) : Blk S L A [] (wipeD S vs) L where
  own1 := fun i d h => ⟨(wipeD_some h).1, rfl⟩
  own2 := fun i d h => ⟨by rw [wipeD_out fun z => ownAt_no (hv i z) d h]; exact h, rfl⟩
  any := fun a w => hA a w.wipe
  any2 := fun a w => .inr w.wipe
def lcD (g : GF) (ft : TF) (fe : EF) (S : DSt) : List D → List D → Kn → Option (List D × Kn)
  | [], acc, k => some (acc, k)
  | d :: ds, acc, k => match g d .safe S with
    | none => none
    | some S1 => match ft S1 with
      | some (.ok true) => (match fe S1 with
        | some (.ok (e, ke)) => if acc.length < sizeLine then lcD g ft fe S ds (acc ++ [e]) (k.cat (e.nk ke)) else none
        | _ => none)
      | some (.ok false) => lcD g ft fe S ds acc k
      | _ => none
def eLc (fi : IF) (g : GF) (ft : TF) (fe : EF) (vs : List Nat) : EF := fun S => bnd (fi S) fun ds =>
  if vs.all fun i => !ownAt S i then (lcD g ft fe (wipeD S vs) ds [] (.bor [])).map fun r => .ok (.lst r.1, r.2) else none
abbrev RF : XR := fun _ _ _ => False
theorem Reps.snoc {H : Hp} {l m : List Addr} {vs : List V} {ds : List D} {v : V} {d : D} (r : Reps K H l vs ds) (h : Rep K H m v d) : Reps K H (l ++ m) (vs ++ [v]) (ds ++ [d]) := by
  have := r.app (Reps.cons h .nil)
  simpa using this
/-- the list that is being made -/
structure Acc (K : PySem.W.Frag) (H : Hp) (S : DSt) (L : Nat → List Addr) (H1 : Hp) (D : Addr) (H' : Hp) (das : List L2.D) (k : Kn) : Prop where
  ex : ∃ acc l, H' D = some (.lst acc) ∧ Reps K H' l acc das ∧ KP H S L l k ∧ D ∉ l
  same : Same H1 H'
theorem Acc.grow {H H1 H' H5 H6 : Hp} {σ : St} {S S1 : DSt} {L L1 : Nat → List Addr} {D : Addr} {das : List L2.D} {k ke : Kn} {y : V} {e : L2.D} {l6 : List Addr} {N : List Addr} (a : Acc K H S L H1 D H' das k) (s : SR K G H σ S L) (s1 : Same H H1) (hD : H1 D = none)
    (s5 : Same H' H5) (s6 : Same H5 H6) (r6 : Rep K H6 l6 y e) (k6 : KP H5 S1 L1 l6 ke) (b : Blk S L (fun a => H a = none ∨ AnyN S L a) N S1 L1) (hN : D ∉ N) (hl : das.length < sizeLine) :
    ∃ acc, H6 D = some (.lst acc) ∧ acc.length < sizeLine ∧ Acc K H S L H1 D (upd H6 D (.lst (acc ++ [y]))) (das ++ [e]) (k.cat (e.nk ke)) := by
  obtain ⟨acc, l, h1, h2, h3, h4⟩ := a.ex
  have h1' := s6 _ _ (s5 _ _ h1)
  have r := (h2.same s5).same s6
  have hD6 : D ∉ l6 := fun m => by
    rcases k6.any D m with z | z
    · rw [s5 _ _ h1] at z; cases z
    · rcases b.any2 D z with z | z
      · exact hN z
      · obtain ⟨o, ho, _⟩ := s.dom z
        rw [s1.free hD] at ho; cases ho
  refine ⟨acc, h1', by rw [h2.len]; exact hl, ⟨acc ++ [y], l ++ l6, upd_same, ?_, ?_, ?_⟩, fun c o h => ?_⟩
  · refine (r.snoc r6).keep fun c o hc z => ?_
    rw [upd_ne]
    · exact hc
    · rintro rfl
      rcases z with z | z
      · rcases List.mem_append.mp z with z | z
        · exact h4 z
        · exact hD6 z
      · rw [h1'] at hc; cases hc; cases z
  · refine KP.cat2 s ((s1.trans a.same).trans s5) h3 (fun c hc => (h2.same s5).dom c hc) (fun c hc => ?_) ?_
    · rcases k6.any c hc with z | z
      · exact .inl (s1.free (a.same.free (s5.free z)))
      · exact b.any c z
    · exact b.kd (k6.nk r6)
  · intro z
    rcases List.mem_append.mp z with z | z
    · exact h4 z
    · exact hD6 z
  · rw [upd_ne (ne_of_none h hD)]
    exact s6 _ _ (s5 _ _ (a.same _ _ h))
theorem Acc.same' {H H1 H' H3 : Hp} {S : DSt} {L : Nat → List Addr} {D : Addr} {das : List L2.D} {k : Kn} (a : Acc K H S L H1 D H' das k) (s3 : Same H' H3) : Acc K H S L H1 D H3 das k := by
  obtain ⟨acc, l, h1, h2, h3, h4⟩ := a.ex
  exact ⟨⟨acc, l, s3 _ _ h1, h2.same s3, h3, h4⟩, a.same.trans s3⟩
theorem Acc.done {H H1 H' : Hp} {S : DSt} {L : Nat → List Addr} {D : Addr} {das : List L2.D} {k : Kn} (a : Acc K H S L H1 D H' das k) (s1 : Same H H1) (hD : H1 D = none) : ∃ l, Rep K H' l (.ref D) (.lst das) ∧ KP H S L l k ∧ Same H H' := by
  obtain ⟨acc, l, h1, h2, h3, h4⟩ := a.ex
  exact ⟨D :: l, .lst h1 h2, h3.top (s1.free hD) h4, s1.trans a.same⟩
theorem Acc.start {H H1 : Hp} {S : DSt} {L : Nat → List Addr} {D : Addr} (hD : H1 D = none) : Acc K H S L H1 D (upd H1 D (.lst [])) [] (.bor []) := ⟨⟨[], [], upd_same, .nil, .nil _, by simp⟩, .upd hD⟩
theorem de_lc {wi : TI} {g : TG} {tt : TT} {te : TE} {fi : IF} {ts vs : List Nat} {gf : GF} {ft : TF} {fe : EF} (hi : DIc K G R wi fi) (hg : DG K G ts g gf) (hts : ∀ i ∈ ts, i ∈ vs) (ht : DT K G RF tt ft) (he : DE K G RF te fe) :
    DE K G R (tLc wi g tt te vs) (eLc fi gf ft fe vs) where
  ok := by
    intro H σ S L s d k e Q q
    obtain ⟨ds, e1, e⟩ := bnd_ok e
    split at e
    · rename_i hv
      have hv : ∀ i ∈ vs, ownAt S i = false := fun i h => by simpa using List.all_eq_true.mp hv i h
      cases e2 : lcD gf ft fe (wipeD S vs) ds [] (.bor []) with
      | none => rw [e2] at e; cases e
      | some r =>
        rw [e2] at e; cases e
        refine hi.ok s e1 fun J H1 s1 it D hD => ?_
        refine ⟨fun i m H' => m = ds.length - i ∧ i ≤ ds.length ∧ ∃ das kk, Acc K H S L H1 D H' das kk ∧ lcD gf ft fe (wipeD S vs) (ds.drop i) das kk = some r, ⟨ds.length, by simp, Nat.zero_le _, [], .bor [], .start hD, by simpa using e2⟩, ?_⟩
        rintro i m H' ⟨rfl, hil, das, kk, ac, e'⟩
        obtain ⟨it1, it2⟩ := it H' (fun a o h _ => ac.same a o h) i
        by_cases hlt : i < ds.length
        · obtain ⟨d, hd⟩ : ∃ d, ds[i]? = some d := ⟨ds[i], List.getElem?_eq_getElem hlt⟩
          obtain ⟨go, y⟩ := it1 d hd
          rw [drop_get hd] at e'
          refine .inr ⟨go, fun H2 => i + 1 ≤ ds.length ∧ ∃ das kk, Acc K H S L H1 D H2 das kk ∧ lcD gf ft fe (wipeD S vs) (ds.drop (i + 1)) das kk = some r, fun H2 z => ⟨ds.length - (i + 1), by omega, rfl, z⟩, fun x H3 yx => ?_⟩
          obtain ⟨s3, l, rl, nl⟩ := y x H3 yx
          unfold lcD at e'
          cases e3 : gf d .safe (wipeD S vs) with
          | none => rw [e3] at e'; cases e'
          | some S1 =>
            rw [e3] at e'
            dsimp only at e'
            have sw := ((s.same (s1.trans ac.same)).wipe vs).same s3
            have kq : KQ (fun _ => False) (fun a => H a = none ∨ AnyN S L a) (wipeD S vs) L l .safe := ⟨fun a m => (nl a m).2.2, fun a m w => (nl a m).2.1 w.wipe⟩
            refine hg.run sw rl kq e3 fun σ4 L4 s4 m4 => ⟨?_, ?_⟩
            · refine (wipe_eq (by rw [m4.len, wipe_length]) fun j hj => ?_)
              rw [m4.out j fun z => hj (hts j z), wipe_outs hj]
            · have blk := (Blk.start (A := fun a => H a = none ∨ AnyN S L a) hv fun a w => .inr w).step m4 hts hv
              split at e'
              · rename_i e4
                refine ht.ok s4 e4 fun H5 s5 => ?_
                rw [if_pos rfl]
                split at e'
                · rename_i ee ke e5
                  split at e'
                  · rename_i hz
                    refine he.ok (s4.same s5) e5 fun y6 H6 l6 s6 r6 k6 => ?_
                    obtain ⟨acc, a1, a2, a3⟩ := ac.grow s s1 hD (s3.trans s5) s6 r6 k6 blk (fun m => by obtain ⟨o, ho⟩ := (nl D (by simpa using m)).1; rw [hD] at ho; cases ho) hz
                    exact ⟨acc, a1, a2, hlt, _, _, a3, e'⟩
                  · cases e'
                · cases e'
              · rename_i e4
                refine ht.ok s4 e4 fun H5 s5 => ?_
                rw [if_neg Bool.false_ne_true]
                exact ⟨hlt, das, kk, (ac.same' s3).same' s5, e'⟩
              · cases e'
        · have : i = ds.length := by omega
          subst this
          rw [List.drop_length] at e'
          cases e'
          obtain ⟨l, r1, r2, r3⟩ := ac.done s1 hD
          exact .inl ⟨it2 (Nat.le_refl _), q _ H' l r3 r1 r2⟩
    · cases e
  ex := by
    intro H σ S L s x e Q q
    rcases bnd_ex e with e1 | ⟨a, e1, e⟩
    · exact hi.ex s e1 q
    · split at e
      · cases e2 : lcD gf ft fe (wipeD S vs) a [] (.bor []) <;> rw [e2] at e <;> cases e
      · cases e
end
end L2
set_option Elab.async false
set_option linter.all false
set_option maxRecDepth 100000
namespace L2
open PySem PySem.Spec PyProof.Rows
section
variable {K : PySem.W.Frag} {G : List (Addr × HO)} {R : XR}
def allD (g : GF) (ft : TF) (fe : EF) (S : DSt) : List D → Option Bool
  | [] => some true
  | d :: ds => match g d .safe S with
    | none => none
    | some S1 => match ft S1 with
      | some (.ok true) => (match fe S1 with
        | some (.ok (.bl true, _)) => allD g ft fe S ds
        | some (.ok (.bl false, _)) => some false
        | _ => none)
      | some (.ok false) => allD g ft fe S ds
      | _ => none
def eAll (fi : IF) (g : GF) (ft : TF) (fe : EF) (vs : List Nat) : EF := fun S => bnd (fi S) fun ds =>
  if vs.all fun i => !ownAt S i then (allD g ft fe (wipeD S vs) ds).map fun r => .ok (.bl r, .bor []) else none
/-- the numbers that the block tells -/
def sumD (g : GF) (ft : TF) (fe : EF) (S : DSt) : List D → Option (List Int)
  | [] => some []
  | d :: ds => match g d .safe S with
    | none => none
    | some S1 => match ft S1 with
      | some (.ok true) => (match fe S1 with
        | some (.ok (.int x, _)) => (sumD g ft fe S ds).map (x :: ·)
        | _ => none)
      | some (.ok false) => sumD g ft fe S ds
      | _ => none
def midI (x : Int) : Bool := decide (-(2 ^ 40) ≤ x) && decide (x ≤ 2 ^ 40)
def eSumG (fi : IF) (g : GF) (ft : TF) (fe : EF) (vs : List Nat) : EF := fun S => bnd (fi S) fun ds =>
  if vs.all fun i => !ownAt S i then (match sumD g ft fe (wipeD S vs) ds with
    | some ys => if ys.all midI && decide (ys.length ≤ 2 ^ 20) then some (.ok (.int ys.sum, .bor [])) else none
    | none => none) else none
def lcIn (g : GF) (ft : TF) (fe : EF) (S : DSt) : List D → List D → Kn → Option (List D × Kn) := lcD g ft fe S
def lc2D (g : GF) (ft : TF) (f1 : IF) (g1 : GF) (ft1 : TF) (fe : EF) (vs1 : List Nat) (S : DSt) : List D → List D → Kn → Option (List D × Kn)
  | [], acc, k => some (acc, k)
  | d :: ds, acc, k => match g d .safe S with
    | none => none
    | some S1 => match ft S1 with
      | some (.ok true) => (match f1 S1 with
        | some (.ok es) => if vs1.all fun i => !ownAt S1 i then (match lcD g1 ft1 fe (wipeD S1 vs1) es acc k with
          | some r => lc2D g ft f1 g1 ft1 fe vs1 S ds r.1 r.2
          | none => none) else none
        | _ => none)
      | some (.ok false) => lc2D g ft f1 g1 ft1 fe vs1 S ds acc k
      | _ => none
def eLc2 (fi : IF) (g : GF) (ft : TF) (f1 : IF) (g1 : GF) (ft1 : TF) (fe : EF) (vs vs1 : List Nat) : EF := fun S => bnd (fi S) fun ds =>
  if vs.all fun i => !ownAt S i then (lc2D g ft f1 g1 ft1 fe vs1 (wipeD S vs) ds [] (.bor [])).map fun r => .ok (.lst r.1, r.2) else none
theorem Blk.wipe {S S1 : DSt} {L L1 : Nat → List Addr} {A : Addr → Prop} {N : List Addr} {vs : List Nat} (b : Blk S L A N S1 L1) (hv : ∀ i ∈ vs, ownAt S1 i = false) : Blk S L A N (wipeD S1 vs) L1 where
  own1 := fun i d h => b.own1 i d (wipeD_some h).1
  own2 := fun i d h => by
    obtain ⟨z1, z2⟩ := b.own2 i d h
    exact ⟨by rw [wipeD_out fun z => ownAt_no (hv i z) d z1]; exact z1, z2⟩
  any := fun a w => b.any a w.wipe
  any2 := fun a w => b.any2 a w.wipe
theorem de_lc2 {wi wi1 : TI} {g g1 : TG} {tt tt1 : TT} {te : TE} {fi f1 : IF} {ts ts1 vs vs1 : List Nat} {gf gf1 : GF} {ft ft1 : TF} {fe : EF} (hi : DIc K G R wi fi) (hg : DG K G ts g gf) (hts : ∀ i ∈ ts, i ∈ vs) (ht : DT K G RF tt ft)
    (hi1 : DIc K G RF wi1 f1) (hg1 : DG K G ts1 g1 gf1) (hts1 : ∀ i ∈ ts1, i ∈ vs1) (hvs : ∀ i ∈ vs1, i ∈ vs) (ht1 : DT K G RF tt1 ft1) (he : DE K G RF te fe) :
    DE K G R (tLc2 wi g tt wi1 g1 tt1 te vs vs1) (eLc2 fi gf ft f1 gf1 ft1 fe vs vs1) where
  ok := by
    intro H σ S L s d k e Q q
    obtain ⟨ds, e1, e⟩ := bnd_ok e
    split at e
    · rename_i hv
      have hv : ∀ i ∈ vs, ownAt S i = false := fun i h => by simpa using List.all_eq_true.mp hv i h
      cases e2 : lc2D gf ft f1 gf1 ft1 fe vs1 (wipeD S vs) ds [] (.bor []) with
      | none => rw [e2] at e; cases e
      | some r =>
        rw [e2] at e; cases e
        refine hi.ok s e1 fun J H1 s1 it D hD => ?_
        have hDn : ¬ AnyN S L D := fun w => by
          obtain ⟨o, ho, _⟩ := s.dom w
          rw [s1.free hD] at ho; cases ho
        refine ⟨fun i m H' => m = ds.length - i ∧ i ≤ ds.length ∧ ∃ das kk, Acc K H S L H1 D H' das kk ∧ lc2D gf ft f1 gf1 ft1 fe vs1 (wipeD S vs) (ds.drop i) das kk = some r, ⟨ds.length, by simp, Nat.zero_le _, [], .bor [], .start hD, by simpa using e2⟩, ?_⟩
        rintro i m H' ⟨rfl, hil, das, kk, ac, e'⟩
        obtain ⟨it1, it2⟩ := it H' (fun a o h _ => ac.same a o h) i
        by_cases hlt : i < ds.length
        · obtain ⟨d, hd⟩ : ∃ d, ds[i]? = some d := ⟨ds[i], List.getElem?_eq_getElem hlt⟩
          obtain ⟨go, y⟩ := it1 d hd
          rw [drop_get hd] at e'
          refine .inr ⟨go, fun H2 => i + 1 ≤ ds.length ∧ ∃ das kk, Acc K H S L H1 D H2 das kk ∧ lc2D gf ft f1 gf1 ft1 fe vs1 (wipeD S vs) (ds.drop (i + 1)) das kk = some r, fun H2 z => ⟨ds.length - (i + 1), by omega, rfl, z⟩, fun x H3 yx => ?_⟩
          obtain ⟨s3, l, rl, nl⟩ := y x H3 yx
          unfold lc2D at e'
          cases e3 : gf d .safe (wipeD S vs) with
          | none => rw [e3] at e'; cases e'
          | some S1 =>
            rw [e3] at e'
            dsimp only at e'
            have sw := ((s.same (s1.trans ac.same)).wipe vs).same s3
            have kq : KQ (fun _ => False) (fun a => H a = none ∨ AnyN S L a) (wipeD S vs) L l .safe := ⟨fun a m => (nl a m).2.2, fun a m w => (nl a m).2.1 w.wipe⟩
            refine hg.run sw rl kq e3 fun σ4 L4 s4 m4 => ⟨?_, ?_⟩
            · refine (wipe_eq (by rw [m4.len, wipe_length]) fun j hj => ?_)
              rw [m4.out j fun z => hj (hts j z), wipe_outs hj]
            · have blk := (Blk.start (A := fun a => H a = none ∨ AnyN S L a) hv fun a w => .inr w).step m4 hts hv
              have hDl : D ∉ [] ++ l := fun m => by obtain ⟨o, ho⟩ := (nl D (by simpa using m)).1; rw [hD] at ho; cases ho
              have hDn1 : ¬ AnyN S1 L4 D := fun w => (blk.any2 D w).elim hDl hDn
              split at e'
              · rename_i e4
                refine ht.ok s4 e4 fun H5 s5 => ?_
                rw [if_pos rfl]
                split at e'
                · rename_i es e5
                  split at e'
                  · rename_i hv1
                    have hv1 : ∀ i ∈ vs1, ownAt S1 i = false := fun i h => by simpa using List.all_eq_true.mp hv1 i h
                    cases e6 : lcD gf1 ft1 fe (wipeD S1 vs1) es das kk with
                    | none => rw [e6] at e'; cases e'
                    | some r1 =>
                      rw [e6] at e'
                      dsimp only at e'
                      have s45 := s4.same s5
                      have ac5 := (ac.same' s3).same' s5
                      have hD5 : H5 D ≠ none := by
                        obtain ⟨acc, _, h1, _⟩ := ac5.ex
                        rw [h1]; simp
                      refine hi1.ok s45 e5 fun J1 H6 s6 jt => ?_
                      refine ⟨fun j m H7 => m = es.length - j ∧ j ≤ es.length ∧ (∀ a o, H6 a = some o → a ≠ D → H7 a = some o) ∧ ∃ das kk, Acc K H S L H1 D H7 das kk ∧ lcD gf1 ft1 fe (wipeD S1 vs1) (es.drop j) das kk = some r1,
                        ⟨es.length, by simp, Nat.zero_le _, fun a o h _ => h, das, kk, ac5.same' s6, by simpa using e6⟩, ?_⟩
                      rintro j m H7 ⟨rfl, hjl, sm7, das7, kk7, ac7, e7⟩
                      have hD7 : H7 D ≠ none := by
                        obtain ⟨acc, _, h1, _⟩ := ac7.ex
                        rw [h1]; simp
                      obtain ⟨jt1, jt2⟩ := jt H7 (fun a o h z => sm7 a o h fun w => by
                        subst w
                        rcases z with z | z
                        · obtain ⟨acc, _, h1, _⟩ := (ac5.same' s6).ex
                          rw [h1] at h; cases h; cases z
                        · exact z.elim hD5 hDn1) j
                      by_cases hjt : j < es.length
                      · obtain ⟨d2, hd2⟩ : ∃ d, es[j]? = some d := ⟨es[j], List.getElem?_eq_getElem hjt⟩
                        obtain ⟨go2, y2⟩ := jt1 d2 hd2
                        rw [drop_get hd2] at e7
                        refine .inr ⟨go2, fun H8 => j + 1 ≤ es.length ∧ (∀ a o, H6 a = some o → a ≠ D → H8 a = some o) ∧ ∃ das kk, Acc K H S L H1 D H8 das kk ∧ lcD gf1 ft1 fe (wipeD S1 vs1) (es.drop (j + 1)) das kk = some r1, fun H8 z => ⟨es.length - (j + 1), by omega, rfl, z⟩, fun x2 H8 yx2 => ?_⟩
                        obtain ⟨s8, l2, rl2, nl2⟩ := y2 x2 H8 yx2
                        unfold lcD at e7
                        cases e8 : gf1 d2 .safe (wipeD S1 vs1) with
                        | none => rw [e8] at e7; cases e7
                        | some S2 =>
                          rw [e8] at e7
                          dsimp only at e7
                          -- the names' things stand, though D's list grew
                          have s7 : SR K G H7 σ4 S1 L4 := by
                            obtain ⟨acc5, _, h5, _⟩ := ac5.ex
                            refine ⟨s45.len, fun p hp => ⟨sm7 _ _ (s6 _ _ (s45.gs p hp).1) fun w => ?_, (s45.gs p hp).2⟩, fun i b d h => ?_, s45.own, s45.sep⟩
                            · have := (s45.gs p hp)
                              rw [w, h5] at this
                              have z := this.2
                              rw [← Option.some.inj this.1] at z
                              cases z
                            · obtain ⟨v, f1, f2⟩ := s45.rep i b d h
                              refine ⟨v, f1, f2.keep fun a o ho z => sm7 _ _ (s6 _ _ ho) fun w => ?_⟩
                              subst w
                              rcases z with z | z
                              · exact hDn1 ⟨i, b, d, h, z⟩
                              · rw [h5] at ho
                                cases ho
                                cases z
                          have sw2 := (s7.wipe vs1).same s8
                          have kq2 : KQ (fun _ => False) (fun a => H a = none ∨ AnyN S L a) (wipeD S1 vs1) L4 l2 .safe := ⟨fun a m => by
                              rcases (nl2 a m).2.2 with z | z
                              · exact .inl (s1.free (ac5.same.free z))
                              · exact blk.any a z, fun a m w => (nl2 a m).2.1 w.wipe⟩
                          refine hg1.run sw2 rl2 kq2 e8 fun σ9 L9 s9 m9 => ⟨?_, ?_⟩
                          · refine (wipe_eq (by rw [m9.len, wipe_length]) fun j hj => ?_)
                            rw [m9.out j fun z => hj (hts1 j z), wipe_outs hj]
                          · have blk2 := (blk.wipe hv1).step m9 hts1 fun i hi => hv i (hvs i hi)
                            have hDl2 : D ∉ ([] ++ l) ++ l2 := fun m => by
                              rcases List.mem_append.mp m with m | m
                              · exact hDl m
                              · exact (nl2 D m).2.2.elim hD5 hDn1
                            split at e7
                            · rename_i e9
                              refine ht1.ok s9 e9 fun H10 s10 => ?_
                              rw [if_pos rfl]
                              split at e7
                              · rename_i ee ke e11
                                split at e7
                                · rename_i hz
                                  refine he.ok (s9.same s10) e11 fun y12 H12 l12 s12 r12 k12 => ?_
                                  obtain ⟨acc, a1, a2, a3⟩ := ac7.grow s s1 hD (s8.trans s10) s12 r12 k12 blk2 hDl2 hz
                                  refine ⟨acc, a1, a2, hjt, fun a o h w => ?_, _, _, a3, e7⟩
                                  rw [upd_ne w]
                                  exact s12 _ _ (s10 _ _ (s8 _ _ (sm7 a o h w)))
                                · cases e7
                              · cases e7
                            · rename_i e9
                              refine ht1.ok s9 e9 fun H10 s10 => ?_
                              rw [if_neg Bool.false_ne_true]
                              exact ⟨hjt, fun a o h w => s10 _ _ (s8 _ _ (sm7 a o h w)), das7, kk7, (ac7.same' s8).same' s10, e7⟩
                            · cases e7
                      · have : j = es.length := by omega
                        subst this
                        rw [List.drop_length] at e7
                        have e7 : some (das7, kk7) = some r1 := e7
                        cases e7
                        exact .inl ⟨jt2 (Nat.le_refl _), hlt, das7, kk7, ac7, e'⟩
                  · cases e'
                · cases e'
              · rename_i e4
                refine ht.ok s4 e4 fun H5 s5 => ?_
                rw [if_neg Bool.false_ne_true]
                exact ⟨hlt, das, kk, (ac.same' s3).same' s5, e'⟩
              · cases e'
        · have : i = ds.length := by omega
          subst this
          rw [List.drop_length] at e'
          have e' : some (das, kk) = some r := e'
          cases e'
          obtain ⟨l, r1, r2, r3⟩ := ac.done s1 hD
          exact .inl ⟨it2 (Nat.le_refl _), q _ H' l r3 r1 r2⟩
    · cases e
  ex := by
    intro H σ S L s x e Q q
    rcases bnd_ex e with e1 | ⟨a, e1, e⟩
    · exact hi.ex s e1 q
    · split at e
      · cases e2 : lc2D gf ft f1 gf1 ft1 fe vs1 (wipeD S vs) a [] (.bor []) <;> rw [e2] at e <;> cases e
      · cases e
/-- no test -/
def tYesD : TF := fun _ => some (.ok true)
theorem dt_yes : DT K G R tYes tYesD where
  ok := by intro H σ S L s b e Q q; cases e; exact q H (Same.refl H)
  ex := by intro H σ S L s x e; cases e
end
end L2
set_option Elab.async false
set_option linter.all false
set_option maxRecDepth 100000
namespace L2
open PySem PySem.Spec PyProof.Rows
section
variable {K : PySem.W.Frag} {G : List (Addr × HO)} {R : XR}
def startD (m : Nat) (ds : List D) : DSt := ds.map (fun d => some (false, d)) ++ List.replicate (m - ds.length) none
def finF (n m : Nat) (f : SF) : FF := fun ds => if ds.length = n then (match f (startD m ds) with
  | some (.nx _) => some (.ok (.non, true))
  | some (.rt d fr _) => some (.ok (d, fr))
  | some (.ex x _) => some (.exc x)
  | _ => none) else none
theorem Reps.split {H : Hp} : ∀ {l : List Addr} {vs : List V} {ds : List D}, Reps K H l vs ds → ∃ Ls : Nat → List Addr, ∀ i v d, vs[i]? = some v → ds[i]? = some d → Rep K H (Ls i) v d ∧ ∀ a ∈ Ls i, a ∈ l
  | _, _, _, .nil => ⟨fun _ => [], fun i v d e _ => by simp at e⟩
  | _, _, _, @Reps.cons _ _ l1 l2 v vs d ds h r => by
    obtain ⟨Ls, hL⟩ := Reps.split r
    refine ⟨fun i => match i with | 0 => l1 | i + 1 => Ls i, fun i v' d' e1 e2 => ?_⟩
    cases i with
    | zero =>
      simp only [List.getElem?_cons_zero, Option.some.injEq] at e1 e2
      subst e1 e2
      exact ⟨h, fun a m => List.mem_append.mpr (.inl m)⟩
    | succ i =>
      obtain ⟨h1, h2⟩ := hL i v' d' (by simpa using e1) (by simpa using e2)
      exact ⟨h1, fun a m => List.mem_append.mpr (.inr (h2 a m))⟩
theorem startD_get {m : Nat} {ds : List D} {i : Nat} {b : Bool} {d : D} (h : (startD m ds)[i]? = some (some (b, d))) : b = false ∧ ds[i]? = some d := by
  unfold startD at h
  by_cases hi : i < ds.length
  · rw [List.getElem?_append_left (by simpa using hi), List.getElem?_map, List.getElem?_eq_getElem hi] at h
    cases h
    exact ⟨rfl, List.getElem?_eq_getElem hi⟩
  · rw [List.getElem?_append_right (by simpa using hi), List.getElem?_replicate] at h
    split at h <;> cases h
theorem start_SR {H : Hp} {l : List Addr} {vs : List V} {ds : List D} {N : List Str} (r : Reps K H l vs ds) (gs : ∀ p ∈ G, H p.1 = some p.2 ∧ mutO p.2 = false) (hl : vs.length ≤ N.length) : ∃ L, SR K G H (start N vs) (startD N.length ds) L ∧ (∀ a, AnyN (startD N.length ds) L a → a ∈ l) ∧ ∀ a, ¬ OwnN (startD N.length ds) L a := by
  obtain ⟨Ls, hL⟩ := r.split
  have len := r.len
  have at' : ∀ i b d, (startD N.length ds)[i]? = some (some (b, d)) → ∃ v, vs[i]? = some v ∧ ds[i]? = some d := fun i b d h => by
    obtain ⟨_, h2⟩ := startD_get h
    have hi := (List.getElem?_eq_some_iff.mp h2).1
    exact ⟨vs[i], List.getElem?_eq_getElem (by omega), h2⟩
  refine ⟨Ls, ⟨?_, gs, fun i b d h => ?_, fun i d h => ?_, fun i j d b e h => ?_⟩, fun a w => ?_, fun a w => ?_⟩
  · unfold start startD
    simp [len]
  · obtain ⟨v, e1, e2⟩ := at' i b d h
    refine ⟨v, ?_, (hL i v d e1 e2).1⟩
    unfold start
    have hi := (List.getElem?_eq_some_iff.mp e1).1
    rw [List.getElem?_append_left (by simpa using hi), List.getElem?_map, e1]; rfl
  · obtain ⟨z, _⟩ := startD_get h; cases z
  · obtain ⟨z, _⟩ := startD_get h; cases z
  · obtain ⟨i, b, d, h, m⟩ := w
    obtain ⟨v, e1, e2⟩ := at' i b d h
    exact (hL i v d e1 e2).2 a m
  · obtain ⟨i, d, h, m⟩ := w
    obtain ⟨z, _⟩ := startD_get h; cases z
theorem body_ok {t : TS} {f : SF} {n : Nat} {N : List Str} {vs : List V} {H : Hp} {Q : VK} {E : XK} {ts : List Nat} (h : DS K G (RE (clK K) E) ts t f) (hn : n ≤ N.length) (sp : spP K G (finF n N.length f) vs H Q E) : t { nx := fun _ H' => Q .non H', rt := Q } (start N vs) H := by
  obtain ⟨ds, l, r, gs, hF⟩ := sp
  unfold finF at hF
  split at hF
  · rename_i hF' d fr e
    split at e
    · rename_i hlen
      obtain ⟨L, s, h1, h2⟩ := start_SR (N := N) r gs (by rw [r.len]; omega)
      cases e1 : f (startD N.length ds) with
      | none => rw [e1] at e; cases e
      | some o =>
        rw [e1] at e
        have sm : ∀ {H' S' L'}, Mv H (startD N.length ds) L H' S' L' → Same H H' := fun m a o ho => m.keep a o ho (.inr (h2 a))
        refine h.run s e1 ?_
        cases o with
        | nx S' =>
          cases e
          exact fun H' σ' L' s' m _ => hF .non H' [] (sm m) .non (fun a z => by simp at z) fun _ => ⟨List.nodup_nil, fun a z => by simp at z⟩
        | rt d fr S' =>
          cases e
          intro v H' σ' L' l' s' m _ rv rt
          refine hF v H' l' (sm m) rv (fun a z => (rt.any a z).imp_right (h1 a)) fun z => ?_
          obtain ⟨z1, z2, _⟩ := rt.fr z
          exact ⟨z1, fun a ma => (z2 a ma).resolve_right (h2 a)⟩
        | bk S' => cases e
        | ct S' => cases e
        | ex x S' => cases e
    · cases e
  · rename_i hF' x0 e
    split at e
    · rename_i hlen
      obtain ⟨L, s, h1, h2⟩ := start_SR (N := N) r gs (by rw [r.len]; omega)
      cases e1 : f (startD N.length ds) with
      | none => rw [e1] at e; cases e
      | some o =>
        rw [e1] at e
        have sm : ∀ {H' S' L'}, Mv H (startD N.length ds) L H' S' L' → Same H H' := fun m a o ho => m.keep a o ho (.inr (h2 a))
        refine h.run s e1 ?_
        cases o with
        | ex x S' => cases e; exact fun H' σ' L' s' m _ => hF H' (sm m)
        | nx S' => cases e
        | rt d fr S' => cases e
        | bk S' => cases e
        | ct S' => cases e
    · cases e
  · exact hF.elim
theorem finF_len {n m : Nat} {f : SF} {vs : List V} {H : Hp} {Q : VK} {E : XK} (h : spP K G (finF n m f) vs H Q E) : vs.length = n := by
  obtain ⟨ds, l, r, gs, hF⟩ := h
  by_cases hl : ds.length = n
  · rw [r.len]; exact hl
  · unfold finF at hF
    rw [if_neg hl] at hF
    exact hF.elim
section
variable {P : Program} {w : World} {mg : Str → Option Value} {base : Heap}
theorem Fun.okD {x qual : Str} {st : Stmt} {f : Addr} {fd : FuncData} {N ps : List Str} {k : Nat} {sf : SF} (F : Fun K x qual st f fd) (S : FnScope N ps (defScope st)) (hn : ps.length ≤ N.length)
    (hbody : ∀ (cdv : Value) (A : Around) (outer : List Env) (s : Shared) (H : Hp) (E : XK), Room k (A.deeper (envOfC qual (defScope st) s.heap.objs.size f cdv)) → XFly (clK K) (RE (clK K) E) (cxOf (CXW P w) P w K mg base N qual (defScope st) f cdv A outer s H E) → XMade (clK K) (RE (clK K) E) (cxOf (CXW P w) P w K mg base N qual (defScope st) f cdv A outer s H E) →
      ∃ t ts, PSs (cxOf (CXW P w) P w K mg base N qual (defScope st) f cdv A outer s H E) (defBody st) t ∧ DS K G (RE (clK K) E) ts t sf) : FnOk P w K mg base (CXW P w) (k + 1) f fd ps (spP K G (finF ps.length N.length sf)) :=
  F.okW S (fun vs H Q E h => finF_len h) fun cdv A outer s H vs Q E hr h => by
    obtain ⟨t, ts, h1, h2⟩ := hbody cdv A outer s H E hr def_fly def_made
    exact ⟨t, h1, body_ok h2 hn h⟩
theorem FunC.okD {x qual : Str} {st : Stmt} {f c : Addr} {fd : FuncData} {N ps : List Str} {k : Nat} {sf : SF} (F : FunC K x qual st f fd c) (S : FnScope N ps (defScope st)) (hn : ps.length ≤ N.length)
    (hbody : ∀ (A : Around) (outer : List Env) (s : Shared) (H : Hp) (E : XK), Room k (A.deeper (envOfC qual (defScope st) s.heap.objs.size f (.ref c))) → XFly (clK K) (RE (clK K) E) (cxOf (CXW P w) P w K mg base N qual (defScope st) f (.ref c) A outer s H E) → XMade (clK K) (RE (clK K) E) (cxOf (CXW P w) P w K mg base N qual (defScope st) f (.ref c) A outer s H E) →
      ∃ t ts, PSs (cxOf (CXW P w) P w K mg base N qual (defScope st) f (.ref c) A outer s H E) (defBody st) t ∧ DS K G (RE (clK K) E) ts t sf) : FnOk P w K mg base (CXW P w) (k + 1) f fd ps (spP K G (finF ps.length N.length sf)) :=
  F.okW S (fun vs H Q E h => finF_len h) fun A outer s H vs Q E hr h => by
    obtain ⟨t, ts, h1, h2⟩ := hbody A outer s H E hr def_fly def_made
    exact ⟨t, h1, body_ok h2 hn h⟩
end
def tabG (tabs : List Addr) : List (Addr × HO) := tabs.map fun P => (P, HO.ext (tabφ P #[]))
def spLawD (K : PySem.W.Frag) (tabs : List Addr) : Sp := fun vs H Q _ => ∃ (a : Addr) (ns : List Int), vs = [.ref a] ∧ LK K H a (ns.map V.int) ∧ ns.length ≤ 63 ∧ Tb tabs H ∧ ∀ H', Same H H' → Q (.bl true) H'
theorem law_sp {tabs : List Addr} {F : FF} (h : ∀ ns : List Int, ns.length ≤ 63 → ∃ fr, F [.fl (ns.map D.int)] = some (.ok (.bl true, fr))) {vs : List V} {H : Hp} {Q : VK} {E : XK} {E' : XK} (s : spLawD K tabs vs H Q E) : spP K (tabG tabs) F vs H Q E' := by
  obtain ⟨a, ns, rfl, hk, hl, ht, q⟩ := s
  refine ⟨[.fl (ns.map D.int)], [], ?_, fun p hp => ?_, ?_⟩
  · have := Reps.cons (l := []) (l' := []) (Rep.fl hk (reps_ints (K := K) (H := H) ns)) .nil
    exact this
  · obtain ⟨P, hP, rfl⟩ := List.mem_map.mp hp
    exact ⟨ht P hP, rfl⟩
  · obtain ⟨fr, e⟩ := h ns hl
    rw [e]
    intro v H' l' s r _ _
    rw [r.blI.1]
    exact q H' s
theorem walk_ofD {l : PySem.W.OpenLaw} {k : Nat} {q : Program} {loose : List Str} {XP : (Str → Option Value) → Heap → Prop} {YP : World → Heap → Prop} {d : DefRec} {K : Params → PySem.W.Frag} {x : Str}
    (hn : l.most = some 63) (hdf : d.params.defaults = []) (hr : Room k callerA)
    (hY : ∀ (w : World) (h : Heap), YP w h → (K w.params).In h)
    (F : ∀ (w : World) (mg : Str → Option Value) (fa : Addr) (h : Heap), (K w.params).In h → h.Ns mainGlobals mg → TabsOf q mg h → BltOk h mg → mg d.name = some (.ref fa) →
      ∃ (fd : FuncData) (tabs : List Addr), (∀ (s : Shared) (u : Value), BindsTo s fd ⟨[u], []⟩ [(x, u)]) ∧ TabH h tabs ∧
        ∀ base : Heap, (minusK (K w.params) tabs).In base → base.Ns mainGlobals mg → BltOk base mg → FnOk l.prog w (minusK (K w.params) tabs) mg base CX0 k fa fd [x] (spLawD (minusK (K w.params) tabs) tabs)) :
    PySem.W.WalkO q loose XP YP l.row.toRowW d [] (fun f vs => PySem.call f vs) := by
  refine Att.attach_call hn hdf fun w s₀ s₁ mg mb fa o pm cd doc a vs ns G Y ho hd hcd hmg hobj hints hlen hg => ?_
  have KX := hY w _ Y
  obtain ⟨fd, tabs, hb, TK, hF⟩ := F w mg fa _ KX G.T.g G.T.tab G.T.bmain hmg
  refine law_callT KX TK G.T.bmain G.T.g G.T.b G.T.builtins G.T.nolimit hg hobj hints (Nat.le_trans hlen (by decide)) hr hF hb fun H hT hS hfz => ⟨a, ns, rfl, ?_, hlen, hT, fun H' s => ⟨rfl, hT.same s, fun o xs e => s _ _ e⟩⟩
  rcases hS with (hS | ⟨o, hS⟩) | hS
  · rcases hfz with z | ⟨o, xs, z⟩
    · rw [hS] at z; cases z
    · rw [hS] at z; cases z
  · exact .inl ⟨o, hS⟩
  · exact .inr hS
end
end L2
set_option Elab.async false
set_option linter.all false
set_option maxRecDepth 100000
namespace L2
open PySem PySem.Spec PyProof.Rows
def D.kids : D → List D
  | .lst ds => ds | .tup ds => ds | .dct _ ds => ds | .ins _ _ ds => ds | _ => []
def D.withKids : D → List D → D
  | .lst _, ds => .lst ds | .tup _, ds => .tup ds | .dct ks _, ds => .dct ks ds | .ins C ns _, ds => .ins C ns ds | d, _ => d
def D.sub : D → List Nat → Option D
  | d, [] => some d
  | d, n :: π => match d.kids[n]? with
    | some c => c.sub π
    | none => none
def D.repl : D → List Nat → D → D
  | _, [], e => e
  | d, n :: π, e => match d.kids[n]? with
    | some c => d.withKids (d.kids.set n (c.repl π e))
    | none => d
section
variable {K : PySem.W.Frag} {G : List (Addr × HO)} {R : XR}
/-- from the value v the way π leads to u -/
inductive AtV (H : Hp) : V → List Nat → V → Prop
  | nil (v : V) : AtV H v [] v
  | lst {p : Addr} {vs : List V} {n : Nat} {u w : V} {π : List Nat} : H p = some (.lst vs) → vs[n]? = some u → AtV H u π w → AtV H (.ref p) (n :: π) w
  | tup {p : Addr} {vs : List V} {n : Nat} {u w : V} {π : List Nat} : H p = some (.tup vs) → vs[n]? = some u → AtV H u π w → AtV H (.ref p) (n :: π) w
  | dct {p : Addr} {kvs : List (Key × V)} {n : Nat} {u w : V} {π : List Nat} : H p = some (.dK kvs) → (kvs.map (·.2))[n]? = some u → AtV H u π w → AtV H (.ref p) (n :: π) w
  | ins {p C dx : Addr} {fs : List (Str × V)} {n : Nat} {u w : V} {π : List Nat} : H p = some (.ins C dx fs) → (fs.map (·.2))[n]? = some u → AtV H u π w → AtV H (.ref p) (n :: π) w
theorem AtV.same {H H' : Hp} {v u : V} {π : List Nat} (a : AtV H v π u) (s : Same H H') : AtV H' v π u := by
  induction a with
  | nil v => exact .nil v
  | lst h e _ ih => exact .lst (s _ _ h) e ih
  | tup h e _ ih => exact .tup (s _ _ h) e ih
  | dct h e _ ih => exact .dct (s _ _ h) e ih
  | ins h e _ ih => exact .ins (s _ _ h) e ih
theorem AtV.snoc {H : Hp} {v u : V} {π : List Nat} (a : AtV H v π u) {n : Nat} {w : V} (b : AtV H u [n] w) : AtV H v (π ++ [n]) w := by
  induction a with
  | nil v => exact b
  | lst h e _ ih => exact .lst h e (ih b)
  | tup h e _ ih => exact .tup h e (ih b)
  | dct h e _ ih => exact .dct h e (ih b)
  | ins h e _ ih => exact .ins h e (ih b)
theorem Reps.focus {H : Hp} : ∀ {l : List Addr} {vs : List V} {ds : List D}, Reps K H l vs ds → ∀ {n : Nat} {u : V}, vs[n]? = some u → ∃ c l1 lm l2, l = l1 ++ (lm ++ l2) ∧ ds[n]? = some c ∧ Rep K H lm u c ∧
    ∀ H' lm' c', (∀ a o, H a = some o → (a ∈ l1 ++ l2 ∨ mutO o = false) → H' a = some o) → Rep K H' lm' u c' → Reps K H' (l1 ++ (lm' ++ l2)) vs (ds.set n c')
  | _, _, _, .nil, n, u, e => by simp at e
  | _, _, _, @Reps.cons _ _ l l' v vs d ds h r, 0, u, e => by
    simp only [List.getElem?_cons_zero, Option.some.injEq] at e
    subst e
    refine ⟨d, [], l, l', rfl, rfl, h, fun H' lm' c' k r' => ?_⟩
    show Reps K H' (lm' ++ l') (v :: vs) (c' :: ds)
    exact .cons r' (r.keep fun a o ho z => k a o ho (z.imp_left fun m => by simpa using m))
  | _, _, _, @Reps.cons _ _ l l' v vs d ds h r, n + 1, u, e => by
    obtain ⟨c, l1, lm, l2, e1, e2, e3, e4⟩ := Reps.focus r (n := n) (u := u) (by simpa using e)
    refine ⟨c, l ++ l1, lm, l2, by rw [e1, List.append_assoc], by simpa using e2, e3, fun H' lm' c' k r' => ?_⟩
    rw [List.append_assoc]
    exact .cons (h.keep fun a o ho z => k a o ho (z.imp_left fun m => by simp [m])) (e4 H' lm' c' (fun a o ho z => k a o ho (z.imp_left fun m => by
      rcases List.mem_append.mp m with m | m <;> simp [m])) r')
theorem sub_cons {d c : D} {n : Nat} {π : List Nat} (h : d.kids[n]? = some c) : d.sub (n :: π) = c.sub π := by
  show (match d.kids[n]? with | some c => c.sub π | none => none) = _
  rw [h]
theorem repl_cons {d c : D} {n : Nat} {π : List Nat} (h : d.kids[n]? = some c) (e : D) : d.repl (n :: π) e = d.withKids (d.kids.set n (c.repl π e)) := by
  show (match d.kids[n]? with | some c => _ | none => _) = _
  rw [h]
theorem sub_none {d : D} {n : Nat} {π : List Nat} (h : d.kids = []) {e : D} (hs : d.sub (n :: π) = some e) : False := by
  have : d.sub (n :: π) = none := by
    show (match d.kids[n]? with | some c => c.sub π | none => none) = _
    rw [h]; rfl
  rw [this] at hs; cases hs
theorem Rep.focus {H : Hp} {v u : V} {π : List Nat} (a : AtV H v π u) : ∀ {l : List Addr} {d e : D}, Rep K H l v d → d.sub π = some e → ∃ l1 lm l2, l = l1 ++ (lm ++ l2) ∧ Rep K H lm u e ∧
    ∀ H' lm' e', (∀ a o, H a = some o → (a ∈ l1 ++ l2 ∨ mutO o = false) → H' a = some o) → Rep K H' lm' u e' → Rep K H' (l1 ++ (lm' ++ l2)) v (d.repl π e') := by
  induction a with
  | nil v =>
    intro l d e r hs
    have hs : some d = some e := by cases d <;> exact hs
    cases hs
    refine ⟨[], l, [], by simp, r, fun H' lm' e' k r' => ?_⟩
    have : d.repl [] e' = e' := by cases d <;> rfl
    rw [this]; simpa using r'
  | @lst p vs n u w π h e _ ih =>
    intro l d e0 r hs
    cases r with
    | @lst _ l' vs' ds h' r =>
      rw [h] at h'; cases h'
      obtain ⟨c, l1, lm, l2, e1, e2, e3, e4⟩ := r.focus e
      rw [sub_cons (d := .lst ds) e2] at hs
      obtain ⟨m1, mm, m2, f1, f2, f3⟩ := ih e3 hs
      refine ⟨p :: (l1 ++ m1), mm, m2 ++ l2, by rw [e1, f1]; simp, f2, fun H' lm' e' k r' => ?_⟩
      have q := e4 H' (m1 ++ (lm' ++ m2)) (c.repl π e') (fun a o ho z => k a o ho (z.imp_left fun m => by rcases List.mem_append.mp m with m | m <;> simp [m])) (f3 H' lm' e' (fun a o ho z => k a o ho (z.imp_left fun m => by rcases List.mem_append.mp m with m | m <;> simp [m])) r')
      rw [repl_cons (d := .lst ds) e2]
      show Rep K H' _ _ (.lst (ds.set n (c.repl π e')))
      have := Rep.lst (k p _ h (.inl (by simp))) q
      simpa using this
    | ref => exact (sub_none rfl hs).elim
    | fl h' _ => exact (sub_none rfl hs).elim
    | ft h' _ => exact (sub_none rfl hs).elim
    | rng h' => exact (sub_none rfl hs).elim
    | exc h' => exact (sub_none rfl hs).elim
    | cls => exact (sub_none rfl hs).elim
    | tup h' _ => rw [h] at h'; cases h'
    | dct h' _ _ => rw [h] at h'; cases h'
    | ins h' _ _ => rw [h] at h'; cases h'
  | @tup p vs n u w π h e _ ih =>
    intro l d e0 r hs
    cases r with
    | @tup _ l' vs' ds h' r =>
      rw [h] at h'; cases h'
      obtain ⟨c, l1, lm, l2, e1, e2, e3, e4⟩ := r.focus e
      rw [sub_cons (d := .tup ds) e2] at hs
      obtain ⟨m1, mm, m2, f1, f2, f3⟩ := ih e3 hs
      refine ⟨l1 ++ m1, mm, m2 ++ l2, by rw [e1, f1]; simp, f2, fun H' lm' e' k r' => ?_⟩
      have q := e4 H' (m1 ++ (lm' ++ m2)) (c.repl π e') (fun a o ho z => k a o ho (z.imp_left fun m => by rcases List.mem_append.mp m with m | m <;> simp [m])) (f3 H' lm' e' (fun a o ho z => k a o ho (z.imp_left fun m => by rcases List.mem_append.mp m with m | m <;> simp [m])) r')
      rw [repl_cons (d := .tup ds) e2]
      show Rep K H' _ _ (.tup (ds.set n (c.repl π e')))
      have := Rep.tup (k p _ h (.inr rfl)) q
      simpa using this
    | ref => exact (sub_none rfl hs).elim
    | fl h' _ => exact (sub_none rfl hs).elim
    | ft h' _ => exact (sub_none rfl hs).elim
    | rng h' => exact (sub_none rfl hs).elim
    | exc h' => exact (sub_none rfl hs).elim
    | cls => exact (sub_none rfl hs).elim
    | lst h' _ => rw [h] at h'; cases h'
    | dct h' _ _ => rw [h] at h'; cases h'
    | ins h' _ _ => rw [h] at h'; cases h'
  | @dct p kvs n u w π h e _ ih =>
    intro l d e0 r hs
    cases r with
    | @dct _ l' kvs' ks ds h' hk r =>
      rw [h] at h'; cases h'
      obtain ⟨c, l1, lm, l2, e1, e2, e3, e4⟩ := r.focus e
      rw [sub_cons (d := .dct ks ds) e2] at hs
      obtain ⟨m1, mm, m2, f1, f2, f3⟩ := ih e3 hs
      refine ⟨p :: (l1 ++ m1), mm, m2 ++ l2, by rw [e1, f1]; simp, f2, fun H' lm' e' k r' => ?_⟩
      have q := e4 H' (m1 ++ (lm' ++ m2)) (c.repl π e') (fun a o ho z => k a o ho (z.imp_left fun m => by rcases List.mem_append.mp m with m | m <;> simp [m])) (f3 H' lm' e' (fun a o ho z => k a o ho (z.imp_left fun m => by rcases List.mem_append.mp m with m | m <;> simp [m])) r')
      rw [repl_cons (d := .dct ks ds) e2]
      show Rep K H' _ _ (.dct ks (ds.set n (c.repl π e')))
      have := Rep.dct (k p _ h (.inl (by simp))) hk q
      simpa using this
    | ref => exact (sub_none rfl hs).elim
    | fl h' _ => exact (sub_none rfl hs).elim
    | ft h' _ => exact (sub_none rfl hs).elim
    | rng h' => exact (sub_none rfl hs).elim
    | exc h' => exact (sub_none rfl hs).elim
    | cls => exact (sub_none rfl hs).elim
    | lst h' _ => rw [h] at h'; cases h'
    | tup h' _ => rw [h] at h'; cases h'
    | ins h' _ _ => rw [h] at h'; cases h'
  | @ins p C dx fs n u w π h e _ ih =>
    intro l d e0 r hs
    cases r with
    | @ins _ dx' C' l' fs' ns ds h' hk r =>
      rw [h] at h'; cases h'
      obtain ⟨c, l1, lm, l2, e1, e2, e3, e4⟩ := r.focus e
      rw [sub_cons (d := .ins C' ns ds) e2] at hs
      obtain ⟨m1, mm, m2, f1, f2, f3⟩ := ih e3 hs
      refine ⟨p :: (l1 ++ m1), mm, m2 ++ l2, by rw [e1, f1]; simp, f2, fun H' lm' e' k r' => ?_⟩
      have q := e4 H' (m1 ++ (lm' ++ m2)) (c.repl π e') (fun a o ho z => k a o ho (z.imp_left fun m => by rcases List.mem_append.mp m with m | m <;> simp [m])) (f3 H' lm' e' (fun a o ho z => k a o ho (z.imp_left fun m => by rcases List.mem_append.mp m with m | m <;> simp [m])) r')
      rw [repl_cons (d := .ins C' ns ds) e2]
      show Rep K H' _ _ (.ins C' ns (ds.set n (c.repl π e')))
      have := Rep.ins (k p _ h (.inl (by simp))) hk q
      simpa using this
    | ref => exact (sub_none rfl hs).elim
    | fl h' _ => exact (sub_none rfl hs).elim
    | ft h' _ => exact (sub_none rfl hs).elim
    | rng h' => exact (sub_none rfl hs).elim
    | exc h' => exact (sub_none rfl hs).elim
    | cls => exact (sub_none rfl hs).elim
    | lst h' _ => rw [h] at h'; cases h'
    | tup h' _ => rw [h] at h'; cases h'
    | dct h' _ _ => rw [h] at h'; cases h'
/-- what a name owns is changed at one place -/
theorem SR.mutate {H : Hp} {σ : St} {S : DSt} {L : Nat → List Addr} {i : Nat} {d e e' : D} {r : V} {π : List Nat} {p : Addr} {m m' : List Addr} {o o' : HO} {is : List Nat} {P : Addr → Prop} (s : SR K G H σ S L) (hi : S[i]? = some (some (true, d))) (hr : σ[i]? = some (some r)) (at' : AtV H r π (.ref p)) (hs : d.sub π = some e)
    (hm : ∀ lm, Rep K H lm (.ref p) e → lm = p :: m) (ho : H p = some o) (hmu : mutO o = true) (hn : Rep K (upd H p o') (p :: m') (.ref p) e') (nd : m'.Nodup) (pm : p ∉ m') (hi' : i ∉ is)
    (hsrc : ∀ a ∈ m', a ∈ m ∨ (P a ∧ ¬ AnyN S L a) ∨ ∃ j ∈ is, ∃ d, S[j]? = some (some (true, d)) ∧ a ∈ L j) :
    ∃ L', SR K G (upd H p o') σ ((L2.drops is S).set i (some (true, d.repl π e'))) L' ∧ OwnN S L p ∧ (∀ a, OwnN ((L2.drops is S).set i (some (true, d.repl π e'))) L' a → P a ∨ OwnN S L a) ∧ (∀ a, AnyN ((L2.drops is S).set i (some (true, d.repl π e'))) L' a → P a ∨ AnyN S L a) := by
  obtain ⟨r', hr', rr⟩ := s.rep i _ _ hi
  rw [hr] at hr'; cases hr'
  obtain ⟨l1, lm, l2, el, em, ek⟩ := rr.focus at' hs
  have := hm lm em
  subst this
  have ndl := s.own i _ hi
  rw [el] at ndl
  have pin : p ∈ L i := by rw [el]; simp
  have own : OwnN S L p := ⟨i, d, hi, pin⟩
  have inL : ∀ a, a ∈ l1 ∨ a ∈ m ∨ a ∈ l2 → a ∈ L i := fun a h => by rw [el]; rcases h with h | h | h <;> simp [h]
  obtain ⟨n1, n2, n3⟩ := List.nodup_append.mp ndl
  obtain ⟨n4, n5, n6⟩ := List.nodup_append.mp n2
  have p1 : p ∉ l1 := fun h => n3 p h p (by simp) rfl
  have p2 : p ∉ l2 := fun h => n6 p (by simp) p h rfl
  have keepO : ∀ {ll : List Addr}, p ∉ ll → ∀ a ob, H a = some ob → (a ∈ ll ∨ mutO ob = false) → upd H p o' a = some ob := fun {ll} hp a ob ha z => by
    rw [upd_ne]
    · exact ha
    · rintro rfl
      rcases z with z | z
      · exact hp z
      · rw [ho] at ha; cases ha; rw [hmu] at z; cases z
  have rnew := ek (upd H p o') (p :: m') e' (keepO (by simp [p1, p2])) hn
  -- the new nodes lie apart from the old ones and from the others'
  have apart : ∀ a ∈ m', a ∉ l1 ∧ a ∉ l2 := fun a ha => by
    rcases hsrc a ha with h | ⟨_, h⟩ | ⟨j, hj, dj, h1, h2⟩
    · exact ⟨fun z => n3 a z a (by simp [h]) rfl, fun z => n6 a (by simp [h]) a z rfl⟩
    · exact ⟨fun z => h ⟨i, _, _, hi, inL a (.inl z)⟩, fun z => h ⟨i, _, _, hi, inL a (.inr (.inr z))⟩⟩
    · have hij : j ≠ i := by rintro rfl; exact hi' hj
      exact ⟨fun z => s.sep j i _ _ _ h1 hi hij a h2 (inL a (.inl z)), fun z => s.sep j i _ _ _ h1 hi hij a h2 (inL a (.inr (.inr z)))⟩
  have ndn : (l1 ++ (p :: m' ++ l2)).Nodup := by
    refine List.nodup_append.mpr ⟨n1, List.nodup_append.mpr ⟨List.nodup_cons.mpr ⟨pm, nd⟩, n5, fun a ha b hb e => ?_⟩, fun a ha b hb e => ?_⟩
    · subst e
      rcases List.mem_cons.mp ha with rfl | ha
      · exact p2 hb
      · exact (apart a ha).2 hb
    · subst e
      rcases List.mem_append.mp hb with hb | hb
      · rcases List.mem_cons.mp hb with rfl | hb
        · exact p1 ha
        · exact (apart a hb).1 ha
      · exact n3 a ha a (by simp [hb]) rfl
  have others : ∀ a ∈ l1 ++ (p :: m' ++ l2), ∀ j c e, j ≠ i → (L2.drops is S)[j]? = some (some (c, e)) → a ∉ L j := fun a ha j c ej hj h hm' => by
    obtain ⟨h1, h2⟩ := drops_get h
    have old : a ∈ L i → False := fun z => s.sep i j _ _ _ hi h1 (Ne.symm hj) a z hm'
    rcases List.mem_append.mp ha with ha | ha
    · exact old (inL a (.inl ha))
    · rcases List.mem_append.mp ha with ha | ha
      · rcases List.mem_cons.mp ha with rfl | ha
        · exact old pin
        · rcases hsrc a ha with h | ⟨_, h⟩ | ⟨j', hj', dj, h3, h4⟩
          · exact old (inL a (.inr (.inl h)))
          · exact h ⟨j, c, ej, h1, hm'⟩
          · have : j' ≠ j := by rintro rfl; exact h2 hj'
            exact s.sep j' j _ _ _ h3 h1 this a h4 hm'
      · exact old (inL a (.inr (.inr ha)))
  have sdrop : SR K G (upd H p o') (σ) (L2.drops is (S.set i none)) L := by
    refine SR.drops ⟨by rw [List.length_set]; exact s.len, fun q hq => ⟨?_, (s.gs q hq).2⟩, fun j b dj h => ?_, fun j dj h => ?_, fun j k dj b ek' h h' => ?_⟩ is
    · exact keepO (ll := []) (by simp) q.1 q.2 (s.gs q hq).1 (.inr (s.gs q hq).2)
    · by_cases hj : i = j
      · subst hj
        have hl := (List.getElem?_eq_some_iff.mp hi).1
        rw [List.getElem?_set_self hl] at h; cases h
      · rw [List.getElem?_set_ne hj] at h
        obtain ⟨v, e1, e2⟩ := s.rep j b dj h
        exact ⟨v, e1, e2.keep (keepO fun z => s.sep i j _ _ _ hi h hj p pin z)⟩
    · by_cases hj : i = j
      · subst hj
        have hl := (List.getElem?_eq_some_iff.mp hi).1
        rw [List.getElem?_set_self hl] at h; cases h
      · rw [List.getElem?_set_ne hj] at h; exact s.own j dj h
    · by_cases hj : i = j
      · subst hj
        have hl := (List.getElem?_eq_some_iff.mp hi).1
        rw [List.getElem?_set_self hl] at h; cases h
      · by_cases hk : i = k
        · subst hk
          have hl := (List.getElem?_eq_some_iff.mp hi).1
          rw [List.getElem?_set_self hl] at h'; cases h'
        · rw [List.getElem?_set_ne hj] at h
          rw [List.getElem?_set_ne hk] at h'
          exact s.sep j k dj b ek' h h'
  have hset : (L2.drops is (S.set i none)).set i (some (true, d.repl π e')) = (L2.drops is S).set i (some (true, d.repl π e')) := by
    refine List.ext_getElem? fun j => ?_
    by_cases hj : i = j
    · subst hj
      by_cases hl : i < S.length
      · rw [List.getElem?_set_self (by rw [drops_len, List.length_set]; exact hl), List.getElem?_set_self (by rw [drops_len]; exact hl)]
      · exact absurd (List.getElem?_eq_some_iff.mp hi).1 hl
    · rw [List.getElem?_set_ne hj, List.getElem?_set_ne hj]
      have dset : ∀ (is : List Nat) (S : DSt), (L2.drops is (S.set i none))[j]? = (L2.drops is S)[j]? := by
        intro is
        induction is with
        | nil => intro S; exact List.getElem?_set_ne hj
        | cons k is ih =>
          intro S
          show (L2.drops is ((S.set i none).set k none))[j]? = (L2.drops is (S.set k none))[j]?
          by_cases hk : i = k
          · subst hk
            rw [List.set_set]
          · rw [List.set_comm _ _ hk]
            exact ih _
      exact dset is S
  have hseti : σ.set i (some r) = σ := by
    refine List.ext_getElem? fun j => ?_
    by_cases hj : i = j
    · subst hj
      rw [List.getElem?_set_self (List.getElem?_eq_some_iff.mp hr).1, hr]
    · rw [List.getElem?_set_ne hj]
  have others' : ∀ a ∈ l1 ++ (p :: m' ++ l2), ∀ j c e, j ≠ i → (L2.drops is (S.set i none))[j]? = some (some (c, e)) → a ∉ L j := fun a ha j c ej hj h => by
    have h2 : ((L2.drops is (S.set i none)).set i (some (true, d.repl π e')))[j]? = some (some (c, ej)) := by rw [List.getElem?_set_ne (Ne.symm hj)]; exact h
    rw [hset, List.getElem?_set_ne (Ne.symm hj)] at h2
    exact others a ha j c ej hj h2
  have fin := sdrop.put (i := i) (b := true) rnew (fun _ => ⟨ndn, others'⟩) (fun a ha j ej hj h => others' a ha j true ej hj h)
  rw [hset, hseti] at fin
  refine ⟨_, fin, own, fun a w => ?_, fun a w => ?_⟩
  · rcases w.put with ⟨h, _⟩ | w
    · rcases List.mem_append.mp h with h | h
      · exact .inr ⟨i, d, hi, inL a (.inl h)⟩
      · rcases List.mem_append.mp h with h | h
        · rcases List.mem_cons.mp h with rfl | h
          · exact .inr own
          · rcases hsrc a h with h | ⟨h, _⟩ | ⟨j, hj, dj, h1, h2⟩
            · exact .inr ⟨i, d, hi, inL a (.inr (.inl h))⟩
            · exact .inl h
            · exact .inr ⟨j, dj, h1, h2⟩
        · exact .inr ⟨i, d, hi, inL a (.inr (.inr h))⟩
    · exact .inr w.drops
  · rcases w.put with h | w
    · rcases List.mem_append.mp h with h | h
      · exact .inr ⟨i, _, d, hi, inL a (.inl h)⟩
      · rcases List.mem_append.mp h with h | h
        · rcases List.mem_cons.mp h with rfl | h
          · exact .inr own.any
          · rcases hsrc a h with h | ⟨h, _⟩ | ⟨j, hj, dj, h1, h2⟩
            · exact .inr ⟨i, _, d, hi, inL a (.inr (.inl h))⟩
            · exact .inl h
            · exact .inr ⟨j, _, dj, h1, h2⟩
        · exact .inr ⟨i, _, d, hi, inL a (.inr (.inr h))⟩
    · exact .inr w.drops
end
end L2
set_option Elab.async false
set_option linter.all false
set_option maxRecDepth 100000
namespace L2
open PySem PySem.Spec PyProof.Rows
section
variable {K : PySem.W.Frag} {G : List (Addr × HO)} {R : XR}
mutual
theorem Rep.uniq {H : Hp} : ∀ {l l' : List Addr} {v : V} {d : D}, Rep K H l v d → Rep K H l' v d → l = l'
  | _, _, _, _, .non, q => by cases q; rfl
  | _, _, _, _, .bl _, q => by cases q; rfl
  | _, _, _, _, .int _, q => by cases q; rfl
  | _, _, _, _, .str _, q => by cases q; rfl
  | _, _, _, _, .ref _, q => by cases q; rfl
  | _, _, _, _, .ty _, q => by cases q; rfl
  | _, _, _, _, .rng _, q => by cases q; rfl
  | _, _, _, _, .exc _, q => by cases q; rfl
  | _, _, _, _, .cls _, q => by cases q; rfl
  | _, _, _, _, .lst h r, q => by
    cases q with
    | lst h' r' => rw [h] at h'; cases h'; rw [Reps.uniq r r']
  | _, _, _, _, .tup h r, q => by
    cases q with
    | tup h' r' => rw [h] at h'; cases h'; rw [Reps.uniq r r']
  | _, _, _, _, .fl h r, q => by
    cases q with
    | fl h' r' => rfl
  | _, _, _, _, .ft h r, q => by
    cases q with
    | ft h' r' => rfl
  | _, _, _, _, .dct h e r, q => by
    cases q with
    | dct h' e' r' => rw [h] at h'; cases h'; rw [Reps.uniq r r']
  | _, _, _, _, .ins h e r, q => by
    cases q with
    | ins h' e' r' => rw [h] at h'; cases h'; rw [Reps.uniq r r']
theorem Reps.uniq {H : Hp} : ∀ {l l' : List Addr} {vs : List V} {ds : List D}, Reps K H l vs ds → Reps K H l' vs ds → l = l'
  | _, _, _, _, .nil, q => by cases q; rfl
  | _, _, _, _, .cons h r, q => by
    cases q with
    | cons h' r' => rw [Rep.uniq h h', Reps.uniq r r']
end
abbrev PF := DSt → Option (Nat × List Nat)
/-- where the place lies, the way to it being there -/
structure DP (K : PySem.W.Frag) (G : List (Addr × HO)) (t : TE) (pf : PF) : Prop where
  run : ∀ {H σ S L}, SR K G H σ S L → ∀ {i π}, pf S = some (i, π) → ∀ {r u}, σ[i]? = some (some r) → AtV H r π u → ∀ {d e}, S[i]? = some (some (true, d)) → d.sub π = some e → ∀ {Q : VK}, (∀ H', Same H H' → Q u H') → t σ H Q
def pName (i : Nat) : PF := fun _ => some (i, [])
theorem dp_name (i : Nat) : DP K G (tVar i) (pName i) := ⟨fun {H σ S L} s {i' π} e {r u} hr a {d e'} _ _ Q q => by
  cases e
  cases a
  exact ⟨_, hr, q H (Same.refl H)⟩⟩
theorem Rep.at {H : Hp} : ∀ (π : List Nat) {l : List Addr} {v : V} {d e : D}, Rep K H l v d → d.sub π = some e → ∃ u lm, AtV H v π u ∧ Rep K H lm u e
  | [], l, v, d, e, r, hs => by
    have hs : some d = some e := by cases d <;> exact hs
    cases hs
    exact ⟨v, l, .nil v, r⟩
  | n :: π, l, v, d, e, r, hs => by
    have step : ∀ {ds : List D} {vs : List V} {m : List Addr}, d.kids = ds → Reps K H m vs ds → ∃ c u m', vs[n]? = some u ∧ Rep K H m' u c ∧ c.sub π = some e := fun {ds vs m} hk rr => by
      cases hc : ds[n]? with
      | none =>
        have : d.sub (n :: π) = none := by
          show (match d.kids[n]? with | some c => c.sub π | none => none) = _
          rw [hk, hc]
        rw [this] at hs; cases hs
      | some c =>
        obtain ⟨u, m', e1, e2, _⟩ := rr.get hc
        rw [sub_cons (by rw [hk]; exact hc)] at hs
        exact ⟨c, u, m', e1, e2, hs⟩
    cases r with
    | lst h rr =>
      obtain ⟨c, u, m', e1, e2, e3⟩ := step rfl rr
      obtain ⟨w, lm, a, r'⟩ := Rep.at π e2 e3
      exact ⟨w, lm, .lst h e1 a, r'⟩
    | tup h rr =>
      obtain ⟨c, u, m', e1, e2, e3⟩ := step rfl rr
      obtain ⟨w, lm, a, r'⟩ := Rep.at π e2 e3
      exact ⟨w, lm, .tup h e1 a, r'⟩
    | dct h _ rr =>
      obtain ⟨c, u, m', e1, e2, e3⟩ := step rfl rr
      obtain ⟨w, lm, a, r'⟩ := Rep.at π e2 e3
      exact ⟨w, lm, .dct h e1 a, r'⟩
    | ins h _ rr =>
      obtain ⟨c, u, m', e1, e2, e3⟩ := step rfl rr
      obtain ⟨w, lm, a, r'⟩ := Rep.at π e2 e3
      exact ⟨w, lm, .ins h e1 a, r'⟩
    | non => exact (sub_none rfl hs).elim
    | bl => exact (sub_none rfl hs).elim
    | int => exact (sub_none rfl hs).elim
    | str => exact (sub_none rfl hs).elim
    | ref => exact (sub_none rfl hs).elim
    | ty => exact (sub_none rfl hs).elim
    | rng => exact (sub_none rfl hs).elim
    | exc => exact (sub_none rfl hs).elim
    | cls => exact (sub_none rfl hs).elim
    | fl => exact (sub_none rfl hs).elim
    | ft => exact (sub_none rfl hs).elim
/-- what stands at a place -/
def atP (S : DSt) (i : Nat) (π : List Nat) : Option D := match S[i]? with
  | some (some (true, d)) => d.sub π
  | _ => none
/-- place[index] -/
def pIx (p : PF) (f : EF) : PF := fun S => match p S with
  | some (i, π) => (match atP S i π, f S with
    | some (.lst es), some (.ok (.int j, _)) => (ixN es.length j).map fun n => (i, π ++ [n])
    | some (.tup es), some (.ok (.int j, _)) => (ixN es.length j).map fun n => (i, π ++ [n])
    | _, _ => none)
  | none => none
theorem AtV.split {H : Hp} : ∀ {π : List Nat} {v w : V} {n : Nat}, AtV H v (π ++ [n]) w → ∃ u, AtV H v π u ∧ AtV H u [n] w
  | [], v, w, n, a => ⟨v, .nil v, a⟩
  | m :: π, v, w, n, a => by
    have a : AtV H v (m :: (π ++ [n])) w := a
    cases a with
    | lst h e a => obtain ⟨u, h1, h2⟩ := AtV.split a; exact ⟨u, .lst h e h1, h2⟩
    | tup h e a => obtain ⟨u, h1, h2⟩ := AtV.split a; exact ⟨u, .tup h e h1, h2⟩
    | dct h e a => obtain ⟨u, h1, h2⟩ := AtV.split a; exact ⟨u, .dct h e h1, h2⟩
    | ins h e a => obtain ⟨u, h1, h2⟩ := AtV.split a; exact ⟨u, .ins h e h1, h2⟩
theorem AtV.det {H : Hp} {v u : V} {π : List Nat} (a : AtV H v π u) : ∀ {w : V}, AtV H v π w → u = w := by
  induction a with
  | nil v => intro w b; cases b; rfl
  | lst h e _ ih =>
    intro w b
    cases b with
    | lst h' e' b => rw [h] at h'; cases h'; rw [e] at e'; cases e'; exact ih b
    | tup h' e' b => rw [h] at h'; cases h'
    | dct h' e' b => rw [h] at h'; cases h'
    | ins h' e' b => rw [h] at h'; cases h'
  | tup h e _ ih =>
    intro w b
    cases b with
    | tup h' e' b => rw [h] at h'; cases h'; rw [e] at e'; cases e'; exact ih b
    | lst h' e' b => rw [h] at h'; cases h'
    | dct h' e' b => rw [h] at h'; cases h'
    | ins h' e' b => rw [h] at h'; cases h'
  | dct h e _ ih =>
    intro w b
    cases b with
    | dct h' e' b => rw [h] at h'; cases h'; rw [e] at e'; cases e'; exact ih b
    | lst h' e' b => rw [h] at h'; cases h'
    | tup h' e' b => rw [h] at h'; cases h'
    | ins h' e' b => rw [h] at h'; cases h'
  | ins h e _ ih =>
    intro w b
    cases b with
    | ins h' e' b => rw [h] at h'; cases h'; rw [e] at e'; cases e'; exact ih b
    | lst h' e' b => rw [h] at h'; cases h'
    | tup h' e' b => rw [h] at h'; cases h'
    | dct h' e' b => rw [h] at h'; cases h'
theorem dp_ix {to ti : TE} {p : PF} {f : EF} (hp : DP K G to p) (hi : DE K G R ti f) : DP K G (tOp (rIx K) to ti) (pIx p f) := ⟨fun {H σ S L} s {i π} e {r u} hr a {d e'} hd hs Q q => by
  unfold pIx at e
  cases e1 : p S with
  | none => rw [e1] at e; cases e
  | some ip =>
    obtain ⟨i0, π0⟩ := ip
    rw [e1] at e
    dsimp only at e
    have key : ∃ c es j k n, atP S i0 π0 = some c ∧ (c = .lst es ∨ c = .tup es) ∧ f S = some (.ok (.int j, k)) ∧ ixN es.length j = some n ∧ i = i0 ∧ π = π0 ++ [n] := by
      split at e
      · rename_i es j k h1 h2
        cases h3 : ixN es.length j with
        | none => rw [h3] at e; cases e
        | some n => rw [h3] at e; cases e; exact ⟨_, es, j, k, n, h1, .inl rfl, h2, h3, rfl, rfl⟩
      · rename_i es j k h1 h2
        cases h3 : ixN es.length j with
        | none => rw [h3] at e; cases e
        | some n => rw [h3] at e; cases e; exact ⟨_, es, j, k, n, h1, .inr rfl, h2, h3, rfl, rfl⟩
      · cases e
    obtain ⟨c, es, j, k, n, h1, h2, h3, h4, rfl, rfl⟩ := key
    obtain ⟨w, a1, a2⟩ := a.split
    have hc : d.sub π0 = some c := by unfold atP at h1; rw [hd] at h1; exact h1
    refine hp.run s e1 hr a1 hd hc fun H1 s1 => ?_
    refine hi.ok (s.same s1) h3 fun y H2 ly s2 r2 k2 => ?_
    obtain ⟨rfl, _⟩ := r2.intI
    obtain ⟨r', hr', rr⟩ := s.rep i _ _ hd
    rw [hr] at hr'; cases hr'
    obtain ⟨w', lm, b1, b2⟩ := rr.at π0 hc
    have := a1.det b1
    subst this
    have s12 := s1.trans s2
    rcases h2 with rfl | rfl
    · obtain ⟨pp, vs, m, rfl, hp1, rp, rfl⟩ := b2.lstI
      cases a2 with
      | lst h e a3 =>
        cases a3
        rw [hp1] at h; cases h
        exact .inl ⟨pp, vs, j, u, rfl, rfl, SqL.of (s12 _ _ hp1), by unfold atI; rw [rp.len, h4]; exact e, q H2 s12⟩
      | tup h => rw [hp1] at h; cases h
      | dct h => rw [hp1] at h; cases h
      | ins h => rw [hp1] at h; cases h
    · obtain ⟨pp, vs, rfl, hp1, rp⟩ := b2.tupI
      cases a2 with
      | tup h e a3 =>
        cases a3
        rw [hp1] at h; cases h
        exact .inr (.inl ⟨pp, vs, j, u, rfl, rfl, SqT.of (s12 _ _ hp1), by unfold atI; rw [rp.len, h4]; exact e, q H2 s12⟩)
      | lst h => rw [hp1] at h; cases h
      | dct h => rw [hp1] at h; cases h
      | ins h => rw [hp1] at h; cases h⟩
/-- the list es at the place (i, π), its new items es' made of the old ones and of a value of the kind k -/
def putP (S : DSt) (i : Nat) (π : List Nat) (k : Kn) (e' : D) : Option SO := match S[i]? with
  | some (some (true, d)) => (match k with
    | .bor is => if is.contains i then none else some (.nx ((drops is S).set i (some (true, d.repl π e'))))
    | _ => none)
  | _ => none
theorem lst_put {H H2 : Hp} {σ : St} {S : DSt} {L : Nat → List Addr} {i : Nat} {π : List Nat} {k : Kn} {es es' : List D} {o : SO} {r : V} {p : Addr} {ws ws' : List V} {m m' la : List Addr} {D : Ends} (s : SR K G H σ S L) (s2 : Same H H2) (he : atP S i π = some (.lst es)) (hr : σ[i]? = some (some r)) (at' : AtV H2 r π (.ref p))
    (hp : H2 p = some (.lst ws)) (rp : Reps K H2 m ws es) (ka : KP H S L la k) (hn : Reps K H2 m' ws' es') (hsub : ∀ a ∈ m', a ∈ m ∨ a ∈ la) (hnd : (m ++ la).Nodup → m'.Nodup) (e : putP S i π k (.lst es') = some o) {ts : List Nat} (post : SPost K G R ts D H σ S L o) : D.nx σ (upd H2 p (.lst ws')) := by
  unfold putP at e
  split at e
  · rename_i d hd
    split at e
    · rename_i is
      split at e
      · cases e
      · rename_i hi
        cases e
        have hi : i ∉ is := by simpa using hi
        have hs : d.sub π = some (.lst es) := by unfold atP at he; rw [hd] at he; exact he
        have sr2 := s.same s2
        have rep : Rep K H2 (p :: m) (.ref p) (.lst es) := .lst hp rp
        obtain ⟨r', hr', rr⟩ := sr2.rep i _ _ hd
        rw [hr] at hr'; cases hr'
        obtain ⟨l1, lm, l2, el, em, _⟩ := rr.focus at' hs
        have := rep.uniq em
        subst this
        have ndl := s.own i _ hd
        rw [el] at ndl
        have ndm : (p :: m).Nodup := (List.nodup_append.mp (List.nodup_append.mp ndl).2.1).1
        have inL : ∀ a ∈ p :: m, a ∈ L i := fun a h => by rw [el]; simp only [List.mem_append]; exact .inr (.inl h)
        have notla : ∀ a ∈ la, a ∉ L i := fun a h z => by
          rcases ka.kd.2 a h with y | ⟨j, hj, dj, h1, h2⟩
          · obtain ⟨o, ho, _⟩ := s.dom ⟨i, _, _, hd, z⟩
            rw [y] at ho; cases ho
          · have : j ≠ i := by rintro rfl; exact hi hj
            exact s.sep j i _ _ _ h1 hd this a h2 z
        have nd2 : (m ++ la).Nodup := List.nodup_append.mpr ⟨(List.nodup_cons.mp ndm).2, ka.kd.1, fun a ha b hb ee => by subst ee; exact notla a hb (inL a (List.mem_cons_of_mem _ ha))⟩
        have pm' : p ∉ m' := fun h => by
          rcases hsub p h with h | h
          · exact (List.nodup_cons.mp ndm).1 h
          · exact notla p h (inL p (by simp))
        have hnew : Rep K (upd H2 p (.lst ws')) (p :: m') (.ref p) (.lst es') := .lst upd_same (hn.keep fun a o ho z => by
          rw [upd_ne]
          · exact ho
          · rintro rfl
            rcases z with z | z
            · exact pm' z
            · rw [hp] at ho; cases ho; cases z)
        obtain ⟨L', s', own, h1, h2⟩ := sr2.mutate (P := fun a => H a = none) hd hr at' hs (fun lm h => h.uniq rep) hp rfl hnew (hnd nd2) pm' hi fun a ha => by
          rcases hsub a ha with h | h
          · exact .inl h
          · rcases ka.kd.2 a h with y | y
            · refine .inr (.inl ⟨y, fun w => ?_⟩)
              obtain ⟨o, ho, _⟩ := s.dom w
              rw [y] at ho; cases ho
            · exact .inr (.inr y)
        refine post _ σ L' s' ⟨fun a o h z => ?_, h1, h2⟩ .refl
        rw [upd_ne]
        · exact s2 _ _ h
        · rintro rfl
          rcases z with z | z
          · have := s2 _ _ h
            rw [hp] at this; cases this; cases z
          · exact z own
    · cases e
  · cases e
/-- place.append(e) -/
def sApp (p : PF) (f : AF) : SF := fun S => match p S with
  | some (i, π) => (match atP S i π, f S with
    | some (.lst es), some (.ok ([e], k)) => if es.length < sizeLine then putP S i π k (.lst (es ++ [e])) else none
    | some (.lst _), some (.exc x) => some (.ex x S)
    | _, _ => none)
  | none => none
theorem SR.place {H : Hp} {σ : St} {S : DSt} {L : Nat → List Addr} {i : Nat} {π : List Nat} {c : D} (s : SR K G H σ S L) (h : atP S i π = some c) : ∃ d r u lm, S[i]? = some (some (true, d)) ∧ d.sub π = some c ∧ σ[i]? = some (some r) ∧ AtV H r π u ∧ Rep K H lm u c := by
  unfold atP at h
  split at h
  · rename_i d hd
    obtain ⟨r, hr, rr⟩ := s.rep i _ _ hd
    obtain ⟨u, lm, a, ru⟩ := rr.at π h
    exact ⟨d, r, u, lm, hd, h, hr, a, ru⟩
  · cases h
theorem ds_app {to : TE} {t : TA} {p : PF} {f : AF} (hp : DP K G to p) (ha : DA K G R t f) : DS K G R [] (tDrop (tBM K "list" rAppend to t)) (sApp p f) := ⟨fun {H σ S L o} s e D post => by
  unfold sApp at e
  split at e
  · rename_i i π e1
    split at e
    · rename_i es e' k e2 e3
      split at e
      · rename_i hz
        obtain ⟨d, r, u, lm, hd, hs, hr, a, ru⟩ := s.place e2
        obtain ⟨pp, ws, m, rfl, hpp, rp, rfl⟩ := ru.lstI
        refine hp.run s e1 hr a hd hs fun H1 s1 => ⟨.inl ⟨rfl, ws, SqL.of (s1 _ _ hpp)⟩, ?_⟩
        refine ha.ok (s.same s1) e3 fun xs H2 la s2 ra ka => ?_
        obtain ⟨y, rfl, ry⟩ := ra.one
        have s12 := s1.trans s2
        refine ⟨pp, ws, y, rfl, rfl, s12 _ _ hpp, by rw [rp.len]; exact hz, ?_⟩
        exact lst_put s s12 e2 hr (a.same s12) (s12 _ _ hpp) (rp.same s12) (ka.back s1) ((rp.same s12).snoc ry) (fun a h => List.mem_append.mp h) id e post
      · cases e
    · rename_i es x e2 e3
      cases e
      obtain ⟨d, r, u, lm, hd, hs, hr, a, ru⟩ := s.place e2
      obtain ⟨pp, ws, m, rfl, hpp, rp, rfl⟩ := ru.lstI
      refine hp.run s e1 hr a hd hs fun H1 s1 => ⟨.inl ⟨rfl, ws, SqL.of (s1 _ _ hpp)⟩, ?_⟩
      exact ha.ex (s.same s1) e3 fun H' s2 => post H' σ L (s.same (s1.trans s2)) (.same (s1.trans s2)) .refl
    · cases e
  · cases e⟩
/-- place.extend(list) -/
def sExt (p : PF) (f : AF) : SF := fun S => match p S with
  | some (i, π) => (match atP S i π, f S with
    | some (.lst es), some (.ok ([.lst ds], k)) => if es.length + ds.length ≤ sizeLine then putP S i π (nks ds k) (.lst (es ++ ds)) else none
    | some (.lst _), some (.exc x) => some (.ex x S)
    | _, _ => none)
  | none => none
/-- place.reverse() -/
def sRev (p : PF) : SF := fun S => match p S with
  | some (i, π) => (match atP S i π with
    | some (.lst es) => if D.nl.nls es then putP S i π (.bor []) (.lst es.reverse) else none
    | _ => none)
  | none => none
theorem Reps.revL {H : Hp} : ∀ {l : List Addr} {vs : List V} {ds : List D}, Reps K H l vs ds → l = [] → Reps K H [] vs.reverse ds.reverse
  | _, _, _, .nil, _ => .nil
  | _, _, _, @Reps.cons _ _ l l' v vs d ds h t, hl => by
    obtain ⟨z1, z2⟩ := List.append_eq_nil_iff.mp hl
    subst z1 z2
    rw [List.reverse_cons, List.reverse_cons]
    exact (Reps.revL t rfl).snoc (l := []) (m := []) h
theorem Reps.rev {H : Hp} {vs : List V} {ds : List D} (r : Reps K H [] vs ds) : Reps K H [] vs.reverse ds.reverse := r.revL rfl
theorem ds_rev {to : TE} {p : PF} (hp : DP K G to p) : DS K G R [] (tDrop (tBM0 K "list" rReverse to)) (sRev p) := ⟨fun {H σ S L o} s e D post => by
  unfold sRev at e
  split at e
  · rename_i i π e1
    split at e
    · rename_i es e2
      split at e
      · rename_i hz
        obtain ⟨d, r, u, lm, hd, hs, hr, a, ru⟩ := s.place e2
        obtain ⟨pp, ws, m, rfl, hpp, rp, rfl⟩ := ru.lstI
        have := rp.nodes hz
        subst this
        refine hp.run s e1 hr a hd hs fun H1 s1 => ⟨.inl ⟨rfl, ws, SqL.of (s1 _ _ hpp)⟩, pp, ws, rfl, rfl, s1 _ _ hpp, ?_⟩
        exact lst_put s s1 e2 hr (a.same s1) (s1 _ _ hpp) (rp.same s1) (.nil _) (rp.same s1).rev (fun a h => by simp at h) (fun _ => List.nodup_nil) e post
      · cases e
    · cases e
  · cases e⟩
/-- place[j] = e -/
def sSet (f : EF) (p : PF) (fi : EF) : SF := fun S => match f S with
  | some (.ok (e, k)) => (match p S with
    | some (i, π) => (match atP S i π, fi S with
      | some (.lst es), some (.ok (.int j, _)) => (match ixN es.length j with
        | some n => putP S i π (e.nk k) (.lst (es.set n e))
        | none => none)
      | _, _ => none)
    | none => none)
  | some (.exc x) => some (.ex x S)
  | none => none
end
def frzI (i : Nat) (S : DSt) : DSt := match S[i]? with
  | some (some (true, d)) => S.set i (some (false, d))
  | _ => S
def frz : List Nat → DSt → DSt
  | [], S => S
  | i :: is, S => frz is (frzI i S)
section
variable {K : PySem.W.Frag} {G : List (Addr × HO)} {R : XR}
theorem SR.frz1 {H : Hp} {σ : St} {S : DSt} {L : Nat → List Addr} {i : Nat} {d : D} (s : SR K G H σ S L) (h : S[i]? = some (some (true, d))) : SR K G H σ (S.set i (some (false, d))) L := by
  refine ⟨by rw [List.length_set]; exact s.len, s.gs, fun j b e hj => ?_, fun j e hj => ?_, fun j k e b e' hj hk => ?_⟩
  · rcases set_get hj with ⟨rfl, z⟩ | ⟨_, hj⟩
    · cases z; exact s.rep j _ _ h
    · exact s.rep j b e hj
  · rcases set_get hj with ⟨rfl, z⟩ | ⟨_, hj⟩
    · cases z
    · exact s.own j e hj
  · rcases set_get hj with ⟨rfl, z⟩ | ⟨hne, hj'⟩
    · cases z
    · skip
      rcases set_get hk with ⟨rfl, z⟩ | ⟨_, hk⟩
      · cases z; exact s.sep j k e _ _ hj' h
      · exact s.sep j k e b e' hj' hk
theorem Mv.frz1 {H : Hp} {S : DSt} {L : Nat → List Addr} {i : Nat} {d : D} (h : S[i]? = some (some (true, d))) : Mv H S L H (S.set i (some (false, d))) L := by
  refine ⟨fun a o h _ => h, fun a w => .inr ?_, fun a w => .inr ?_⟩
  · obtain ⟨j, e, hj, m⟩ := w
    rcases set_get hj with ⟨rfl, z⟩ | ⟨_, hj⟩
    · cases z
    · exact ⟨j, e, hj, m⟩
  · obtain ⟨j, b, e, hj, m⟩ := w
    rcases set_get hj with ⟨rfl, z⟩ | ⟨_, hj⟩
    · exact ⟨j, _, _, h, m⟩
    · exact ⟨j, b, e, hj, m⟩
theorem SR.frz {H : Hp} {σ : St} {L : Nat → List Addr} : ∀ (is : List Nat) {S : DSt}, SR K G H σ S L → SR K G H σ (L2.frz is S) L ∧ Mv H S L H (L2.frz is S) L
  | [], S, s => ⟨s, .refl⟩
  | i :: is, S, s => by
    show SR K G H σ (L2.frz is (frzI i S)) L ∧ Mv H S L H (L2.frz is (frzI i S)) L
    unfold frzI
    split
    · rename_i d h
      obtain ⟨h1, h2⟩ := SR.frz is (s.frz1 h)
      exact ⟨h1, (Mv.frz1 h).trans h2⟩
    · exact SR.frz is s
/-- behind the names' giving up -/
def sFrz (is : List Nat) (f : SF) : SF := fun S => f (frz is S)
end
end L2
set_option Elab.async false
set_option linter.all false
set_option maxRecDepth 100000
namespace L2
open PySem PySem.Spec PyProof.Rows
section
variable {prog : Program} {w : World} {A : Around} {E : Value → Shared → Prop} {s : Shared} {t : Addr} {xs : Array (Int × Tok)}
theorem old_keptT {h' : Heap} (hk : ∀ b o, b ∉ [s.heap.objs.size] → (s.heap.push { cls := .type "tuple_iterator", data := .fields #[.ref t, .int 0 0] }).get? b = some o → h'.get? b = some o) :
    ∀ b o, s.heap.get? b = some o → h'.get? b = some o := fun b o e => by
  refine hk b o (fun hm => ?_) (Heap.get?_push_of_some _ e)
  rcases List.mem_cons.mp hm with e1 | hm
  · exact absurd (e1 ▸ Heap.lt_size e) (Nat.lt_irrefl _)
  · cases hm
theorem tup_iter_facts (ht : s.heap.IsTuple t (intItems xs)) : (({ s with heap := s.heap.push { cls := .type "tuple_iterator", data := .fields #[.ref t, .int 0 0] } } : Shared).heap.IsTupleIter s.heap.objs.size t 0 ∧ (s.heap.push { cls := .type "tuple_iterator", data := .fields #[.ref t, .int 0 0] }).IsTuple t (intItems xs)) ∧
    (∀ b ∈ [s.heap.objs.size, t], b < (s.heap.push { cls := .type "tuple_iterator", data := .fields #[.ref t, .int 0 0] }).objs.size) ∧ t ≠ s.heap.objs.size := by
  obtain ⟨o, ho, _⟩ := id ht
  have hlt : t < s.heap.objs.size := Heap.lt_size ho
  refine ⟨⟨⟨_, Heap.get?_push_size _ rfl, rfl, rfl⟩, ht.push _⟩, fun b hb => ?_, Nat.ne_of_lt hlt⟩
  rw [Heap.size_push]
  rcases List.mem_cons.mp hb with rfl | hb
  · exact Nat.lt_succ_self _
  · rcases List.mem_cons.mp hb with rfl | hb
    · exact Nat.lt_succ_of_lt hlt
    · cases hb
theorem min_intTup {Q : Value → Shared → Prop} (hh : A.handled = none) (ht : s.heap.IsTuple t (intItems xs)) (hne : 0 < xs.size)
    (h : ∀ v h' tk, (intItems xs)[argBest (fun i j => decide (numAt xs i < numAt xs j)) (xs.size - 1)]? = some v → (∀ b o, s.heap.get? b = some o → h'.get? b = some o) → Q v { s with heap := h', toks := tk }) :
    wpAny (model prog w) A (call (.builtin "min") [.ref t]) Q E s := by
  obtain ⟨f1, f2, f3⟩ := tup_iter_facts ht
  refine call_min_walk (wpAny_pyIter_tuple ht ?_)
  refine ⟨_, _, _, _, _, _, _, rfl, Walks.tuple (A := A.in1) hh _ t f3 (intItems xs), f1, f2, by simpa [intItems] using hne, CmpOf.ints_lt (numAt xs) (fun _ _ => intItems_at), fun v h' tk hP hk => ?_⟩
  exact h v h' tk (by simpa [intItems] using hP) (old_keptT hk)
end
section
variable {X : Cx}
def rMinA (K : PySem.W.Frag) : List V → Hp → VK → Prop := fun vs H Q => ∃ (a : Addr) (ns : List Int), vs = [V.ref a] ∧ (SqL K H a (ns.map V.int) ∨ SqT K H a (ns.map V.int)) ∧ 0 < ns.length ∧ ∀ m, m ∈ ns → (∀ y, y ∈ ns → m ≤ y) → Q (.int m) H
def rMaxA (K : PySem.W.Frag) : List V → Hp → VK → Prop := fun vs H Q => ∃ (a : Addr) (ns : List Int), vs = [V.ref a] ∧ (SqL K H a (ns.map V.int) ∨ SqT K H a (ns.map V.int)) ∧ 0 < ns.length ∧ ∀ m, m ∈ ns → (∀ y, y ∈ ns → y ≤ m) → Q (.int m) H
theorem minL (K : PySem.W.Frag) (hK : X.K = K) (hc : X.calm = true) : CallR X (.builtin "min") (rMinA K) := by
  subst hK
  intro pins s σ H vs us Q I r h
  obtain ⟨a, ns, rfl, hs, hne, q⟩ := h
  rcases hs with hs | hs
  · exact cr_min hc pins s σ H _ us Q I r ⟨a, ns, rfl, hs, hne, q⟩
  · obtain ⟨its, rv, ht, _⟩ := I.tuple hs
    rw [Vals.ref1 r]
    have hi := rv.ints
    obtain ⟨xs, e⟩ := hi.allInts.items
    have hn : numsOf (intItems xs).toList = ns := by rw [← e]; exact hi.numsOf
    rw [nums_intItems] at hn
    subst hn
    have ht : s.heap.IsTuple a its.toArray := ht
    rw [e] at ht
    have hsz : 0 < xs.size := by simpa using hne
    refine min_intTup (I.ok.hd hc) ht hsz fun v h' tk hv hk => ?_
    obtain ⟨t, rfl⟩ := intItems_at hv
    obtain ⟨h1, h2⟩ := argBest_lt (numAt xs) (xs.size - 1)
    refine ⟨.int _, H, I.kept hk, ⟨_, rfl⟩, q _ ?_ fun a ha => ?_⟩
    · rw [numAt_eq]; exact PySem.getD_mem (by rw [List.length_map, Array.length_toList]; omega)
    · obtain ⟨j, hj, rfl⟩ := mem_getD ha
      rw [List.length_map, Array.length_toList] at hj
      rw [← numAt_eq]; exact h2 j (by omega)
end
section
variable {K : PySem.W.Frag} {G : List (Addr × HO)} {R : XR}
/-- the least, the greatest of numbers -/
def leastI : List Int → Option Int
  | [] => none
  | x :: xs => some (xs.foldl (fun a b => if b < a then b else a) x)
def mostI : List Int → Option Int
  | [] => none
  | x :: xs => some (xs.foldl (fun a b => if b > a then b else a) x)
theorem foldl_least : ∀ (xs : List Int) (x : Int), (xs.foldl (fun a b => if b < a then b else a) x ∈ x :: xs) ∧ ∀ y ∈ x :: xs, xs.foldl (fun a b => if b < a then b else a) x ≤ y
  | [], x => ⟨by simp, fun y h => by simp at h; subst h; exact Int.le_refl _⟩
  | z :: xs, x => by
    obtain ⟨h1, h2⟩ := foldl_least xs (if z < x then z else x)
    rw [List.foldl_cons]
    have hle : (if z < x then z else x) ≤ x ∧ (if z < x then z else x) ≤ z := by split <;> omega
    refine ⟨?_, fun y hy => ?_⟩
    · rcases List.mem_cons.mp h1 with h | h
      · rw [h]; split <;> simp
      · simp [h]
    · have h0 := h2 _ (List.mem_cons_self)
      rcases List.mem_cons.mp hy with rfl | hy
      · omega
      · rcases List.mem_cons.mp hy with rfl | hy
        · omega
        · exact h2 y (List.mem_cons_of_mem _ hy)
theorem leastI_iff {ns : List Int} {m : Int} (h : leastI ns = some m) : m ∈ ns ∧ ∀ y ∈ ns, m ≤ y := by
  cases ns with
  | nil => cases h
  | cons x xs => cases h; exact foldl_least xs x
def gMinL : List D → Option D
  | [.lst ds] => (numsD ds).bind fun ns => (leastI ns).map .int
  | [.tup ds] => (numsD ds).bind fun ns => (leastI ns).map .int
  | _ => none
def gMaxL : List D → Option D
  | [.lst ds] => (numsD ds).bind fun ns => (mostI ns).map .int
  | [.tup ds] => (numsD ds).bind fun ns => (mostI ns).map .int
  | _ => none
abbrev eMinL : AF → EF := eCB (c0 gMinL)
abbrev eMaxL : AF → EF := eCB (c0 gMaxL)
theorem numL_some {ds : List D} {f : List Int → Option Int} {d : D} (e : ((numsD ds).bind fun ns => (f ns).map D.int) = some d) : ∃ ns m, ds = ns.map D.int ∧ f ns = some m ∧ d = .int m := by
  cases e1 : numsD ds with
  | none => rw [e1] at e; cases e
  | some ns =>
    rw [e1] at e
    have e : (f ns).map D.int = some d := e
    cases e2 : f ns with
    | none => rw [e2] at e; cases e
    | some m => rw [e2] at e; cases e; exact ⟨ns, m, ints_some e1, e2, rfl⟩
theorem de_minL {t : TA} {f : AF} (h : DA K G R t f) : DE K G R (tCB (rMinA K) t) (eMinL f) :=
  de_cb0 (fun {H xs l ds d} r e Q q => by
    unfold gMinL at e
    split at e
    · obtain ⟨ns, m, rfl, e2, rfl⟩ := numL_some e
      obtain ⟨h1, h2⟩ := leastI_iff e2
      obtain ⟨v, rfl, rv⟩ := r.one
      obtain ⟨p, vs, m', rfl, hp, rp, rfl⟩ := rv.lstI
      obtain ⟨rfl, rfl⟩ := rp.intsI
      refine ⟨p, ns, rfl, .inl (SqL.of hp), List.length_pos_of_mem h1, fun y hy hle => ?_⟩
      have : y = m := Int.le_antisymm (hle m h1) (h2 y hy)
      subst this; exact q _ (.int _)
    · obtain ⟨ns, m, rfl, e2, rfl⟩ := numL_some e
      obtain ⟨h1, h2⟩ := leastI_iff e2
      obtain ⟨v, rfl, rv⟩ := r.one
      obtain ⟨p, vs, rfl, hp, rp⟩ := rv.tupI
      obtain ⟨rfl, rfl⟩ := rp.intsI
      refine ⟨p, ns, rfl, .inr (SqT.of hp), List.length_pos_of_mem h1, fun y hy hle => ?_⟩
      have : y = m := Int.le_antisymm (hle m h1) (h2 y hy)
      subst this; exact q _ (.int _)
    · cases e) h
theorem chI {g : Int → Int → Bool} {H : Hp} {x y : V} {lx ly : List Addr} {a b d : D} (r1 : Rep K H lx x a) (r2 : Rep K H ly y b) (e : gI (fun i j => .bl (g i j)) a b = some d) {Q : VK} (q : ∀ v, Rep K H [] v d → Q v H) : rI0 (fun i j => .bl (g i j)) x y H Q := by
  obtain ⟨i, j, rfl, rfl, rfl⟩ := gI_some e
  exact ⟨i, j, r1.intI.1, r2.intI.1, q _ (.bl _)⟩
/-- never reached -/
def sNever : SF := fun _ => none
theorem DS.mono {ts t1 : List Nat} {t : TS} {f : SF} (h : DS K G R t1 t f) (hs : ∀ j ∈ t1, j ∈ ts) : DS K G R ts t f := ⟨fun {H σ S L o} s e D p => h.run s e (p.here .refl hs)⟩
/-- for x in NAME, whatever the name holds -/
def sForA (i : Nat) (g : GF) (b : SF) : SF := fun S => match S[i]? with
  | some (some (true, .lst ds)) => if D.nl.nls ds then sForL i g b S else none
  | _ => sFor (iOf (eVar i)) g b S
theorem ds_forA {g : TG} {tb : TS} {i : Nat} {ts tc : List Nat} {gf : GF} {b : SF} (hn : i ∉ ts ++ tc) (hg : DG K G ts g gf) (hb : DS K G R tc tb b) : DS K G R (ts ++ tc) (tFor (iAny K (tVar i)) g tb) (sForA i gf b) := ⟨fun {H σ S L o} s e D p => by
  unfold sForA at e
  split at e
  · split at e
    · exact (ds_forL hn hg hb).run s e p
    · cases e
  · exact (ds_for (di_any (de_var i)) hg hb).run s e p⟩
variable {X : Cx} {ts : List Nat}
theorem cs_nil : ∃ t, PSs X [] t ∧ DS K G R ts t sNext := ⟨_, pss_nil, ds_next.mono fun _ h => by simp at h⟩
theorem cs_one {st : Stmt} {f : SF} (h : ∃ t, PS X st t ∧ DS K G R ts t f) : ∃ t, PSs X [st] t ∧ DS K G R ts t f := let ⟨t, a, b⟩ := h; ⟨t, pss_one a, b⟩
theorem app_ts {ts : List Nat} : ∀ j ∈ ts ++ ts, j ∈ ts := fun _ h => (List.mem_append.mp h).elim id id
theorem cs_cons {st : Stmt} {rest : List Stmt} {f g : SF} (h : ∃ t, PS X st t ∧ DS K G R ts t f) (h' : ∃ t, PSs X rest t ∧ DS K G R ts t g) : ∃ t, PSs X (st :: rest) t ∧ DS K G R ts t (sSeq f g) :=
  let ⟨_, a, b⟩ := h; let ⟨_, a', b'⟩ := h'; ⟨_, pss_cons a a', (ds_seq b b').mono app_ts⟩
theorem cs_leaf {st : Stmt} {t : TS} {f : SF} {t0 : List Nat} (a : PS X st t) (b : DS K G R t0 t f) (h : ∀ j ∈ t0, j ∈ ts) : ∃ t, PS X st t ∧ DS K G R ts t f := ⟨t, a, b.mono h⟩
theorem cs_if {c : Expr} {body els : List Stmt} {pos : Pos} {tc : TT} {b : TF} {f g : SF} (hc : PT X c tc) (dc : DT K G R tc b) (h : ∃ t, PSs X body t ∧ DS K G R ts t f) (h' : ∃ t, PSs X els t ∧ DS K G R ts t g) : ∃ t, PS X (.If c body els pos) t ∧ DS K G R ts t (sIf b f g) :=
  let ⟨_, a1, b1⟩ := h; let ⟨_, a2, b2⟩ := h'; ⟨_, ps_if hc a1 a2, (ds_if dc b1 b2).mono app_ts⟩
theorem cs_for {tg iter : Expr} {body : List Stmt} {pos : Pos} {wi : TI} {g : TG} {fi : IF} {gf : GF} {f : SF} {tg0 : List Nat} (hc : X.calm = true) (hi : PI X tg iter wi) (di : DI K G R wi fi) (hg : PG X tg g) (dg : DG K G tg0 g gf) (hp : PassesOwn (model X.prog X.w) X.A X.env X.xe) (h0 : ∀ j ∈ tg0, j ∈ ts) (hs : ∀ x, foldedSetIterable iter X.env x = pure x) (h : ∃ t, PSs X body t ∧ DS K G R ts t f) : ∃ t, PS X (.For tg iter body [] pos) t ∧ DS K G R ts t (sFor fi gf f) :=
  let ⟨_, a, b⟩ := h; ⟨_, ps_for hp hc hi hg a hs, (ds_for di dg b).mono fun j hj => (List.mem_append.mp hj).elim (h0 j) id⟩
theorem cs_forA {tg iter : Expr} {body : List Stmt} {pos : Pos} {i : Nat} {g : TG} {gf : GF} {f : SF} {tg0 : List Nat} (ts1 : List Nat) (hc : X.calm = true) (hi : PI X tg iter (iAny K (tVar i))) (hg : PG X tg g) (dg : DG K G tg0 g gf) (hn : i ∉ tg0 ++ ts1) (hp : PassesOwn (model X.prog X.w) X.A X.env X.xe) (h0 : ∀ j ∈ tg0 ++ ts1, j ∈ ts) (hs : ∀ x, foldedSetIterable iter X.env x = pure x) (h : ∃ t, PSs X body t ∧ DS K G R ts1 t f) : ∃ t, PS X (.For tg iter body [] pos) t ∧ DS K G R ts t (sForA i gf f) :=
  let ⟨_, a, b⟩ := h; ⟨_, ps_for hp hc hi hg a hs, (ds_forA hn dg b).mono h0⟩
theorem cs_while {c : Expr} {body : List Stmt} {pos : Pos} {tc : TT} {b : TF} {f : SF} {n : DSt → Nat} (hp : PassesOwn (model X.prog X.w) X.A X.env X.xe) (hc : PT X c tc) (dc : DT K G R tc b) (h : ∃ t, PSs X body t ∧ DS K G R ts t f) : ∃ t, PS X (.While c body [] pos) t ∧ DS K G R ts t (sWhile n b f) :=
  let ⟨_, a1, b1⟩ := h; ⟨_, ps_while hp hc a1, ds_while dc b1⟩
theorem cs_ts {ss : List Stmt} {f : SF} (ts : List Nat) (h : ∃ t, PSs X ss t ∧ DS K G R ts t f) : ∃ t ts, PSs X ss t ∧ DS K G R ts t f := let ⟨t, a, b⟩ := h; ⟨t, ts, a, b⟩
theorem ps_augn (i : Nat) {x : Str} {e : Expr} {te : TE} {op : Operator} {ti : TIp} {pos' pos : Pos} (hN : X.N.Nodup) (hi : X.N[i]? = some x) (hx : Loc X.env.scope x) (he : PE X e te) (ho : PIp X op ti) (hf : X.fn x = true ∨ X.env.scope.names.lookup x = some .local := by first | exact .inl rfl | exact .inr rfl | assumption) :
    PS X (.AugAssign (.Name x pos') op e pos) (tAug i te ti) := ps_aug hN hi hx he ho hf
theorem pe_lc2n (own : List (Str × Nat)) (vs1 : List Nat) (g g1 : TG) {elt tg iter tg1 iter1 : Expr} {ifs ifs1 : List Expr} {scope : Scope} {pos : Pos} {wi wi1 : TI} {tt tt1 : TT} {te : TE} (hc : X.calm = true) (hN : X.N.Nodup) (hi : PI X tg iter wi) (ok : BlkOk X.N X.env.scope scope own) (hv : ∀ i ∈ vs1, i ∈ own.map (·.2))
    (hg : ∀ (s : Shared) (H : Hp) (C : Addr) (cl : List (Str × Addr)) (fp : List Addr), PG (X.blk s H scope (compEnvC scope cl C X.env) fp) tg g) (ht : ∀ (s : Shared) (H : Hp) (C : Addr) (cl : List (Str × Addr)) (fp : List Addr), PTs (X.blk s H scope (compEnvC scope cl C X.env) fp) ifs tt)
    (hi1 : ∀ (s : Shared) (H : Hp) (C : Addr) (cl : List (Str × Addr)) (fp : List Addr), PI (X.blk s H scope (compEnvC scope cl C X.env) fp) tg1 iter1 wi1)
    (hg1 : ∀ (s : Shared) (H : Hp) (C : Addr) (cl : List (Str × Addr)) (fp : List Addr), PG (X.blk s H scope (compEnvC scope cl C X.env) fp) tg1 g1) (ht1 : ∀ (s : Shared) (H : Hp) (C : Addr) (cl : List (Str × Addr)) (fp : List Addr), PTs (X.blk s H scope (compEnvC scope cl C X.env) fp) ifs1 tt1)
    (he : ∀ (s : Shared) (H : Hp) (C : Addr) (cl : List (Str × Addr)) (fp : List Addr), PE (X.blk s H scope (compEnvC scope cl C X.env) fp) elt te) (hs : ∀ x, foldedSetIterable iter X.env x = pure x := by intro _; rfl) (hs1 : ∀ env x, foldedSetIterable iter1 env x = pure x := by intro _ _; rfl) :
    PE X (.ListComp elt [⟨tg, iter, ifs, 0⟩, ⟨tg1, iter1, ifs1, 0⟩] scope pos) (tLc2 wi g tt wi1 g1 tt1 te (own.map (·.2)) vs1) := pe_lc2 hc hN hi ok hv hg ht hi1 hg1 ht1 he hs hs1
end
end L2
set_option Elab.async false
set_option linter.all false
set_option maxRecDepth 100000
namespace L2
open PySem PySem.Spec PyProof.Rows
section
variable {α β : Type}
@[simp] theorem bnd_okR (a : α) (g : α → Option (Rs β)) : bnd (some (.ok a)) g = g a := rfl
@[simp] theorem bnd_exR (x : Addr) (g : α → Option (Rs β)) : bnd (some (.exc x)) g = some (.exc x) := rfl
@[simp] theorem bnd_noR (g : α → Option (Rs β)) : bnd none g = none := rfl
end
variable (f g h : EF) (fa ga : AF) (S : DSt) (ft gt : TF) (sf sg : SF)
@[simp] theorem eVar_R (i : Nat) : eVar i S = match S[i]? with
  | some (some (true, d)) => some (.ok (d, .bor [i]))
  | some (some (false, d)) => some (.ok (d, .safe))
  | _ => none := rfl
@[simp] theorem eC_R (d : D) : eC d S = some (.ok (d, .bor [])) := rfl
@[simp] theorem eTwo_R (k : D × Kn → D × Kn → Option (D × Kn)) : eTwo k f g S = bnd (f S) fun a => bnd (g S) fun b => (k a b).map .ok := rfl
@[simp] theorem g0_R (k : D → D → Option D) (a b : D × Kn) : g0 k a b = (k a.1 b.1).map fun d => (d, .bor []) := rfl
@[simp] theorem gI_R (k : Int → Int → D) (i j : Int) : gI k (.int i) (.int j) = some (k i j) := rfl
@[simp] theorem gIc_R (c : Int → Int → Prop) [∀ i j, Decidable (c i j)] (k : Int → Int → D) (i j : Int) : gIc c k (.int i) (.int j) = if c i j then some (k i j) else none := rfl
@[simp] theorem gAdd_i (i j : Int) (k k' : Kn) : gAdd (.int i, k) (.int j, k') = some (.int (i + j), .bor []) := rfl
@[simp] theorem gAdd_s (i j : Str) (k k' : Kn) : gAdd (.str i, k) (.str j, k') = if i.length + j.length ≤ sizeLine then some (.str (i ++ j), .bor []) else none := rfl
@[simp] theorem gAdd_l (a b : List D) (k k' : Kn) : gAdd (.lst a, k) (.lst b, k') = if a.length + b.length ≤ sizeLine then some (.lst (a ++ b), (nks a k).cat (nks b k')) else none := rfl
theorem gMul_small {i j : Int} (k k' : Kn) (h1 : small i = true) (h2 : small j = true) : gMul (.int i, k) (.int j, k') = some (.int (i * j), .bor []) := by
  show (if small i && small j then _ else _) = _
  rw [h1, h2]; rfl
/-- a number below 10 ^ 80 either way -/
def Mid (i : Int) : Prop := -(10 ^ 80) ≤ i ∧ i ≤ 10 ^ 80
theorem Mid.small {i : Int} (h : Mid i) : small i = true := by
  have e : (10 : Int) ^ 80 = 100000000000000000000000000000000000000000000000000000000000000000000000000000000 := by decide
  unfold Mid at h
  rw [e] at h
  unfold L2.small
  refine decide_eq_true (Nat.lt_of_le_of_lt (m := 100000000000000000000000000000000000000000000000000000000000000000000000000000000) ?_ (by decide +kernel))
  omega
@[simp] theorem gMul_mid {i j : Int} (k k' : Kn) (h1 : -(10 ^ 80) ≤ i) (h2 : i ≤ 10 ^ 80) (h3 : -(10 ^ 80) ≤ j) (h4 : j ≤ 10 ^ 80) : gMul (.int i, k) (.int j, k') = some (.int (i * j), .bor []) := gMul_small k k' (Mid.small ⟨h1, h2⟩) (Mid.small ⟨h3, h4⟩)
theorem small_mid {i : Int} (h1 : -(10 ^ 80) ≤ i) (h2 : i ≤ 10 ^ 80) : small i = true := Mid.small ⟨h1, h2⟩
section
theorem ifp {α : Type} {c : Prop} [Decidable c] {a b : α} (h : c) : (if c then a else b) = a := if_pos h
@[simp] theorem g_zero {α : Type} (a : α) (l : List α) : (a :: l)[0]? = some a := rfl
@[simp] theorem g_succ {α : Type} (a : α) (l : List α) (n : Nat) : (a :: l)[n + 1]? = l[n]? := rfl
@[simp] theorem sizeL_R : sizeLine = 16777216 := sizeLine_eq
@[simp] theorem nl_int (i : Int) : (D.int i).nl = true := rfl
@[simp] theorem nl_bl (i : Bool) : (D.bl i).nl = true := rfl
@[simp] theorem nl_str (i : Str) : (D.str i).nl = true := rfl
@[simp] theorem nl_non : D.non.nl = true := rfl
@[simp] theorem nl_ty (n : String) : (D.ty n).nl = true := rfl
@[simp] theorem nl_ref (n : Addr) : (D.ref n).nl = true := rfl
@[simp] theorem nl_fl (ds : List D) : (D.fl ds).nl = true := rfl
@[simp] theorem nl_ft (ds : List D) : (D.ft ds).nl = true := rfl
@[simp] theorem nl_rng (a b : Int) : (D.rng a b).nl = true := rfl
@[simp] theorem nl_lst (ds : List D) : (D.lst ds).nl = false := rfl
@[simp] theorem nl_tup (ds : List D) : (D.tup ds).nl = D.nl.nls ds := rfl
@[simp] theorem nls_nil : D.nl.nls [] = true := rfl
@[simp] theorem nls_cons (d : D) (ds : List D) : D.nl.nls (d :: ds) = (d.nl && D.nl.nls ds) := rfl
@[simp] theorem nls_app : ∀ (a b : List D), D.nl.nls (a ++ b) = (D.nl.nls a && D.nl.nls b)
  | [], b => by simp
  | d :: a, b => by simp [nls_app a b, Bool.and_assoc]
@[simp] theorem nls_ints : ∀ ns : List Int, D.nl.nls (ns.map D.int) = true
  | [] => rfl
  | n :: ns => by simp [nls_ints ns]
theorem nls_of {ds : List D} (h : ∀ d ∈ ds, d.nl = true) : D.nl.nls ds = true := by
  induction ds with
  | nil => rfl
  | cons d ds ih => rw [nls_cons, h d (by simp), ih fun e he => h e (by simp [he])]; rfl
@[simp] theorem nls_range (a b : Int) : D.nl.nls (rangeD a b) = true := nls_of fun d h => by
  unfold rangeD at h
  obtain ⟨k, _, rfl⟩ := List.mem_map.mp h; rfl
@[simp] theorem nk_R (d : D) (k : Kn) : d.nk k = if d.nl then .bor [] else k := rfl
@[simp] theorem nks_R (ds : List D) (k : Kn) : nks ds k = if D.nl.nls ds then .bor [] else k := rfl
@[simp] theorem cat_nil (k : Kn) : k.cat (.bor []) = k := by
  cases k with
  | bor is => unfold Kn.cat; simp
  | safe => rfl
  | weak => rfl
@[simp] theorem cat_bb (js : List Nat) : Kn.cat (.bor []) (.bor js) = .bor js := by unfold Kn.cat; simp
@[simp] theorem cat_bs : Kn.cat (.bor []) .safe = .safe := rfl
@[simp] theorem cat_bw : Kn.cat (.bor []) .weak = .weak := rfl
@[simp] theorem cat_ss : Kn.cat .safe .safe = .safe := rfl
@[simp] theorem cat_2 (i : Nat) (is js : List Nat) : Kn.cat (.bor (i :: is)) (.bor js) = if (i :: is).all fun x => !js.contains x then .bor ((i :: is) ++ js) else .weak := rfl
@[simp] theorem flat_b : Kn.flat (.bor []) = .bor [] := rfl
@[simp] theorem flat_c (i : Nat) (is : List Nat) : Kn.flat (.bor (i :: is)) = .weak := rfl
@[simp] theorem flat_s : Kn.flat .safe = .safe := rfl
@[simp] theorem flat_w : Kn.flat .weak = .weak := rfl
variable (f g h : EF) (fa ga : AF) (S : DSt) (ft gt : TF) (sf sg : SF)
@[simp] theorem aNil_R : aNil S = some (.ok ([], .bor [])) := rfl
@[simp] theorem aCons_R : aCons f fa S = bnd (f S) fun a => bnd (fa S) fun b => some (.ok (a.1 :: b.1, (a.1.nk a.2).cat b.2)) := rfl
@[simp] theorem aStar_R : aStar f fa S = bnd (f S) fun a => match a.1 with
  | .lst ds => bnd (fa S) fun b => some (.ok (ds ++ b.1, (nks ds a.2).cat b.2))
  | .fl ds => bnd (fa S) fun b => some (.ok (ds ++ b.1, (nks ds a.2).cat b.2))
  | _ => none := rfl
@[simp] theorem aK_R (ds : List D) : aK ds S = some (.ok (ds, .bor [])) := rfl
@[simp] theorem eTup_R : eTup fa S = bnd (fa S) fun a => if a.1.length ≤ sizeLine then some (.ok (.tup a.1, a.2)) else none := rfl
@[simp] theorem eLst_R : eLst fa S = bnd (fa S) fun a => if a.1.length ≤ sizeLine then some (.ok (.lst a.1, a.2)) else none := rfl
@[simp] theorem tB1_R : tB1 f S = bnd (f S) fun a => (isB a.1).map .ok := rfl
@[simp] theorem tTr_R : tTr f S = bnd (f S) fun a => a.1.truth.map .ok := rfl
@[simp] theorem isB_R (b : Bool) : isB (.bl b) = some b := rfl
@[simp] theorem tru_b (b : Bool) : (D.bl b).truth = some b := rfl
@[simp] theorem tru_i (b : Int) : (D.int b).truth = some (b != 0) := rfl
@[simp] theorem tru_n : D.non.truth = some false := rfl
@[simp] theorem tru_l (ds : List D) : (D.lst ds).truth = some (!ds.isEmpty) := rfl
@[simp] theorem tru_f (ds : List D) : (D.fl ds).truth = some (!ds.isEmpty) := rfl
@[simp] theorem tru_t (ds : List D) : (D.tup ds).truth = some (!ds.isEmpty) := rfl
@[simp] theorem tNot_R : tNotD ft S = bnd (ft S) fun b => some (.ok (!b)) := rfl
@[simp] theorem tAnd_R : tAndD ft gt S = bnd (ft S) fun b => if b = true then gt S else some (.ok false) := rfl
@[simp] theorem tOr_R : tOrD ft gt S = bnd (ft S) fun b => if b = true then some (.ok true) else gt S := rfl
@[simp] theorem tYes_R : tYesD S = some (.ok true) := rfl
@[simp] theorem eNotV_R : eNotV f S = bnd (f S) fun a => (isB a.1).map fun b => .ok (.bl (!b), .bor []) := rfl
@[simp] theorem eAndV_R : eAndV f g S = bnd (f S) fun a => match isB a.1 with
  | some true => g S
  | some false => some (.ok (.bl false, .bor []))
  | none => none := rfl
@[simp] theorem eOrV_R : eOrV f g S = bnd (f S) fun a => match isB a.1 with
  | some false => g S
  | some true => some (.ok (.bl true, .bor []))
  | none => none := rfl
@[simp] theorem eIf_R : eIf ft f g S = bnd (ft S) fun b => if b = true then f S else g S := rfl
@[simp] theorem eChain_R (k k' : D → D → Option D) : eChain k k' f g h S = bnd (f S) fun a => bnd (g S) fun b => match k a.1 b.1 with
  | some (.bl true) => bnd (h S) fun c => (k' b.1 c.1).map fun d => .ok (d, .bor [])
  | some (.bl false) => some (.ok (.bl false, .bor []))
  | _ => none := rfl
@[simp] theorem eCB_R (k : List D × Kn → Option (D × Kn)) : eCB k fa S = bnd (fa S) fun a => (k a).map .ok := rfl
@[simp] theorem c0_R (k : List D → Option D) (a : List D × Kn) : c0 k a = (k a.1).map fun d => (d, .bor []) := rfl
@[simp] theorem gLen_l (ds : List D) : gLen [.lst ds] = some (.int ds.length) := rfl
@[simp] theorem gLen_f (ds : List D) : gLen [.fl ds] = some (.int ds.length) := rfl
@[simp] theorem gLen_t (ds : List D) : gLen [.tup ds] = some (.int ds.length) := rfl
@[simp] theorem gIsi_R (d : D) (c : String) : gIsi [d, .ty c] = match kdD d with
    | some n => (isiB n c).map .bl
    | none => none := rfl
@[simp] theorem kd_i (i : Int) : kdD (.int i) = some "int" := rfl
@[simp] theorem kd_b (i : Bool) : kdD (.bl i) = some "bool" := rfl
@[simp] theorem kd_s (i : Str) : kdD (.str i) = some "str" := rfl
@[simp] theorem kd_n : kdD .non = some "NoneType" := rfl
@[simp] theorem kd_l (i : List D) : kdD (.lst i) = some "list" := rfl
@[simp] theorem kd_t (i : List D) : kdD (.tup i) = some "tuple" := rfl
@[simp] theorem isiB_R (n c : String) : isiB n c = if c = "int" then some (n == "int" || n == "bool") else if c = "bool" then some (n == "bool") else if c = "str" then some (n == "str") else if c = "list" then some (n == "list") else if c = "tuple" then some (n == "tuple") else none := rfl
@[simp] theorem gList_l (ds : List D) (k : Kn) : gList ([.lst ds], k) = some (.lst ds, nks ds (match k with | .bor (_ :: _) => .weak | k => k)) := rfl
@[simp] theorem gList_f (ds : List D) (k : Kn) : gList ([.fl ds], k) = some (.lst ds, nks ds k) := rfl
@[simp] theorem gList_t (ds : List D) (k : Kn) : gList ([.tup ds], k) = some (.lst ds, nks ds k) := rfl
@[simp] theorem gRange2_R (i j : Int) (k : Kn) : gRange2 ([.int i, .int j], k) = some (.rng i j, .bor []) := rfl
@[simp] theorem gListR_R (i j : Int) (k : Kn) : gListR ([.rng i j], k) = if in62 i && in62 j && decide ((j - i).toNat ≤ sizeLine) then some (.lst (rangeD i j), .bor []) else none := rfl
@[simp] theorem in62_ok {i : Int} (h1 : -(2 ^ 60) ≤ i) (h2 : i ≤ 2 ^ 60) : in62 i = true := by
  refine decide_eq_true ?_
  by_cases z : i.natAbs = 0
  · rw [z]; decide
  · exact (Nat.log2_lt z).mpr (by omega)
@[simp] theorem gInt_i (i : Int) : gInt [.int i] = some (.int i) := rfl
@[simp] theorem gInt_b (i : Bool) : gInt [.bl i] = some (.int (if i then 1 else 0)) := rfl
@[simp] theorem numsD_ints (ns : List Int) : numsD (ns.map D.int) = some ns := ints_map ns
@[simp] theorem numsD_nil : numsD [] = some [] := rfl
@[simp] theorem numsD_cons (i : Int) (ds : List D) : numsD (.int i :: ds) = (numsD ds).map (i :: ·) := rfl
@[simp] theorem gSum_R (ds : List D) : gSum [.lst ds] = (numsD ds).map fun ns => .int ns.sum := rfl
@[simp] theorem gMax2_R (i j : Int) : gMax2 [.int i, .int j] = some (.int (if j > i then j else i)) := rfl
@[simp] theorem gMin2_R (i j : Int) : gMin2 [.int i, .int j] = some (.int (if j < i then j else i)) := rfl
@[simp] theorem gMinL_l (ds : List D) : gMinL [.lst ds] = (numsD ds).bind fun ns => (leastI ns).map .int := rfl
@[simp] theorem gMinL_t (ds : List D) : gMinL [.tup ds] = (numsD ds).bind fun ns => (leastI ns).map .int := rfl
@[simp] theorem gMaxL_l (ds : List D) : gMaxL [.lst ds] = (numsD ds).bind fun ns => (mostI ns).map .int := rfl
@[simp] theorem gMaxL_t (ds : List D) : gMaxL [.tup ds] = (numsD ds).bind fun ns => (mostI ns).map .int := rfl
@[simp] theorem eUn_R (k : D → Option D) : eUn k f S = bnd (f S) fun a => (k a.1).map fun d => .ok (d, .bor []) := rfl
@[simp] theorem gNeg_R (i : Int) : gNeg (.int i) = some (.int (-i)) := rfl
@[simp] theorem oNone_R : oNone S = some (.ok none) := rfl
@[simp] theorem oSome_R : oSome f S = bnd (f S) fun a => match a.1 with
  | .int i => some (.ok (some i))
  | _ => none := rfl
@[simp] theorem eSl_R (l u : OF) : eSl f l u S = bnd (f S) fun a => bnd (l S) fun lo => bnd (u S) fun hi => (gSl a lo hi).map .ok := rfl
@[simp] theorem gSl_l (ds : List D) (k : Kn) (lo hi : Option Int) : gSl (.lst ds, k) lo hi = some (.lst (cutD ds lo hi), nks (cutD ds lo hi) (match k with | .bor (_ :: _) => .weak | k => k)) := rfl
@[simp] theorem gSl_f (ds : List D) (k : Kn) (lo hi : Option Int) : gSl (.fl ds, k) lo hi = some (.lst (cutD ds lo hi), nks (cutD ds lo hi) k) := rfl
@[simp] theorem gIx_l (ds : List D) (k k' : Kn) (i : Int) : gIx (.lst ds, k) (.int i, k') = (atI ds i).map fun d => (d, d.nk (match k with | .bor (_ :: _) => .weak | k => k)) := rfl
@[simp] theorem gIx_f (ds : List D) (k k' : Kn) (i : Int) : gIx (.fl ds, k) (.int i, k') = (atI ds i).map fun d => (d, d.nk k) := rfl
@[simp] theorem gIx_t (ds : List D) (k k' : Kn) (i : Int) : gIx (.tup ds, k) (.int i, k') = (atI ds i).map fun d => (d, d.nk k) := rfl
@[simp] theorem gEq_R (a b : D) : gEq a b = (gEqB a b).map .bl := rfl
@[simp] theorem gNe_R (a b : D) : gNe a b = (gEqB a b).map fun c => .bl (!c) := rfl
@[simp] theorem gEqB_ii (i j : Int) : gEqB (.int i) (.int j) = some (decide (i = j)) := rfl
@[simp] theorem gEqB_ss (i j : Str) : gEqB (.str i) (.str j) = some (decide (i = j)) := rfl
@[simp] theorem gEqB_bb (i j : Bool) : gEqB (.bl i) (.bl j) = some (decide (i = j)) := rfl
@[simp] theorem gEqB_nn : gEqB .non .non = some true := rfl
@[simp] theorem gEqB_ll (a b : List D) : gEqB (.lst a) (.lst b) = if D.lays 59 a && D.lays 59 b then some (D.eqvs a b) else none := rfl
@[simp] theorem gEqB_tt (a b : List D) : gEqB (.tup a) (.tup b) = if D.lays 59 a && D.lays 59 b then some (D.eqvs a b) else none := rfl
@[simp] theorem gIsN_R (a : D) : gIsN a .non = some (.bl (isN a)) := rfl
@[simp] theorem gNotN_R (a : D) : gNotN a .non = some (.bl (!isN a)) := rfl
@[simp] theorem isN_n : isN .non = true := rfl
@[simp] theorem isN_i (i : Int) : isN (.int i) = false := rfl
@[simp] theorem isN_t (i : List D) : isN (.tup i) = false := rfl
@[simp] theorem isN_l (i : List D) : isN (.lst i) = false := rfl
@[simp] theorem eCall_R (F : FF) : eCall F fa S = bnd (fa S) fun a => bnd (F a.1) fun r => some (.ok (r.1, callK a.2 r.1 r.2)) := rfl
@[simp] theorem callK_t (k : Kn) (d : D) : callK k d true = .bor [] := rfl
@[simp] theorem sSeq_R : sSeq sf sg S = match sf S with
  | some (.nx S') => sg S'
  | o => o := rfl
@[simp] theorem sAsg_R (k : GF) : sAsg f k S = match f S with
  | some (.ok (d, k')) => (k d k' S).map .nx
  | some (.exc x) => some (.ex x S)
  | none => none := rfl
@[simp] theorem aName_R (i : Nat) (d : D) (k : Kn) : aName i d k S = if d.nl then some (S.set i (some (false, d))) else match k with
  | .bor is => some ((drops is S).set i (some (true, d)))
  | .safe => some (S.set i (some (false, d)))
  | .weak => none := rfl
@[simp] theorem drops_nil : drops [] S = S := rfl
@[simp] theorem drops_cons (i : Nat) (is : List Nat) : drops (i :: is) S = drops is (S.set i none) := rfl
@[simp] theorem aNils_R (k : Kn) : aNils [] k S = some S := rfl
@[simp] theorem aConss_R (k : GF) (ks : GFs) (d : D) (ds : List D) (q : Kn) : aConss k ks (d :: ds) q S = (k d (d.nk q) S).bind fun S' => ks ds q S' := rfl
@[simp] theorem aTup_R (n : Nat) (ks : GFs) (ds : List D) (q : Kn) : aTup n ks (.tup ds) q S = if ds.length = n then ks ds (nks ds q.flat) S else none := rfl
@[simp] theorem aLst_R (n : Nat) (ks : GFs) (ds : List D) (q : Kn) : aLst n ks (.lst ds) q S = if ds.length = n then ks ds (nks ds q.flat) S else none := rfl
@[simp] theorem sIf_R : sIf ft sf sg S = match ft S with
  | some (.ok true) => sf S
  | some (.ok false) => sg S
  | some (.exc x) => some (.ex x S)
  | none => none := rfl
@[simp] theorem sNext_R : sNext S = some (.nx S) := rfl
@[simp] theorem sNever_R : sNever S = none := rfl
@[simp] theorem sRet_R : sRet f S = match f S with
  | some (.ok (d, k)) => if d.nl then some (.rt d true S) else match k with
    | .bor is => some (.rt d true (drops is S))
    | _ => some (.rt d false S)
  | some (.exc x) => some (.ex x S)
  | none => none := rfl
@[simp] theorem sFrz_R (is : List Nat) : sFrz is sf S = sf (frz is S) := rfl
@[simp] theorem frz_nil : frz [] S = S := rfl
@[simp] theorem frz_cons (i : Nat) (is : List Nat) : frz (i :: is) S = frz is (frzI i S) := rfl
@[simp] theorem frzI_R (i : Nat) : frzI i S = match S[i]? with
  | some (some (true, d)) => S.set i (some (false, d))
  | _ => S := rfl
@[simp] theorem sAug_R (k : D → D → Option D) (i : Nat) : sAug k i f S = match S[i]? with
  | some (some (_, a)) => (match f S with
    | some (.ok (b, _)) => (match k a b with
      | some c => if c.nl then some (.nx (S.set i (some (false, c)))) else none
      | none => none)
    | some (.exc x) => some (.ex x S)
    | none => none)
  | _ => none := rfl
@[simp] theorem sPar2_R (i j : Nat) : sPar2 i j fa S = match fa S with
  | some (.ok (ds, k)) => (aConss (aName i) (aConss (aName j) aNils) ds (nks ds k.flat) S).map .nx
  | some (.exc x) => some (.ex x S)
  | none => none := rfl
@[simp] theorem pName_R (i : Nat) : pName i S = some (i, []) := rfl
@[simp] theorem sApp_R (p : PF) : sApp p fa S = match p S with
  | some (i, π) => (match atP S i π, fa S with
    | some (.lst es), some (.ok ([e], k)) => if es.length < sizeLine then putP S i π k (.lst (es ++ [e])) else none
    | some (.lst _), some (.exc x) => some (.ex x S)
    | _, _ => none)
  | none => none := rfl
@[simp] theorem atP_R (i : Nat) (π : List Nat) : atP S i π = match S[i]? with
  | some (some (true, d)) => d.sub π
  | _ => none := rfl
@[simp] theorem sub_nil (d : D) : d.sub [] = some d := by cases d <;> rfl
@[simp] theorem repl_nil (d e : D) : d.repl [] e = e := by cases d <;> rfl
@[simp] theorem putP_R (i : Nat) (π : List Nat) (k : Kn) (e' : D) : putP S i π k e' = match S[i]? with
  | some (some (true, d)) => (match k with
    | .bor is => if is.contains i then none else some (.nx ((drops is S).set i (some (true, d.repl π e'))))
    | _ => none)
  | _ => none := rfl
@[simp] theorem startD_R (m : Nat) (ds : List D) : startD m ds = ds.map (fun d => some (false, d)) ++ List.replicate (m - ds.length) none := rfl
theorem finF_rt {n m : Nat} {f : SF} {ds : List D} {d : D} {fr : Bool} {S : DSt} (hl : ds.length = n) (h : f (startD m ds) = some (.rt d fr S)) : finF n m f ds = some (.ok (d, fr)) := by
  unfold finF; rw [if_pos hl, h]
/-- what a statement leads to -/
def Go (o : Option SO) (P : DSt → Prop) : Prop := ∃ S, o = some (.nx S) ∧ P S
theorem go_seq {f g : SF} {S : DSt} {P : DSt → Prop} (h : Go (f S) fun S' => Go (g S') P) : Go (sSeq f g S) P := by
  obtain ⟨S1, e1, h1⟩ := h
  unfold sSeq; rw [e1]; exact h1
theorem go_to {o : Option SO} {P : DSt → Prop} {S : DSt} (h : o = some (.nx S)) (p : P S) : Go o P := ⟨S, h, p⟩
theorem Go.imp {o : Option SO} {P Q : DSt → Prop} (h : Go o P) (hp : ∀ S, P S → Q S) : Go o Q := let ⟨S, e, p⟩ := h; ⟨S, e, hp S p⟩
def Re (o : Option SO) (d : D) : Prop := ∃ S, o = some (.rt d true S)
theorem re_seq {f g : SF} {S : DSt} {d : D} (h : Go (f S) fun S' => Re (g S') d) : Re (sSeq f g S) d := by
  obtain ⟨S1, e1, h1⟩ := h
  unfold sSeq; rw [e1]; exact h1
theorem re_early {f g : SF} {S : DSt} {d : D} (h : Re (f S) d) : Re (sSeq f g S) d := by
  obtain ⟨S1, e1⟩ := h
  exact ⟨S1, by unfold sSeq; rw [e1]⟩
theorem fin_re {n m : Nat} {f : SF} {ds : List D} {d : D} (hl : ds.length = n) (h : Re (f (startD m ds)) d) : finF n m f ds = some (.ok (d, true)) := let ⟨_, e⟩ := h; finF_rt hl e
theorem for_go {gf : GF} {b : SF} (Inv : Nat → DSt → Prop) : ∀ {ds : List D} {S : DSt} (k : Nat), Inv k S → (∀ i d S, ds[i]? = some d → Inv (k + i) S → ∃ S1, gf d .safe S = some S1 ∧ Go (b S1) (Inv (k + i + 1))) → Go (forD gf b ds S) (Inv (k + ds.length))
  | [], S, k, h0, _ => ⟨S, rfl, h0⟩
  | d :: ds, S, k, h0, hs => by
    obtain ⟨S1, e1, S2, e2, h2⟩ := hs 0 d S rfl h0
    have ih := for_go Inv (ds := ds) (S := S2) (k + 1) h2 fun i d' S' hd h => by
      have := hs (i + 1) d' S' (by simpa using hd) (by rw [show k + (i + 1) = k + 1 + i by omega]; exact h)
      rw [show k + 1 + i = k + (i + 1) by omega]; exact this
    have : forD gf b (d :: ds) S = forD gf b ds S2 := by
      show (match gf d .safe S with | none => none | some S1 => _) = _
      rw [e1]
      show (match b S1 with | some (.nx S2) => forD gf b ds S2 | some (.ct S2) => forD gf b ds S2 | some (.bk S2) => some (.nx S2) | some (.rt d fr S2) => some (.rt d fr S2) | some (.ex x S2) => some (.ex x S2) | none => none) = _
      rw [e2]
    rw [this, List.length_cons, show k + (ds.length + 1) = k + 1 + ds.length by omega]
    exact ih
theorem for_inv {gf : GF} {b : SF} {ds : List D} {S : DSt} (Inv : Nat → DSt → Prop) (h0 : Inv 0 S) (hs : ∀ i d S, ds[i]? = some d → Inv i S → ∃ S1, gf d .safe S = some S1 ∧ Go (b S1) (Inv (i + 1))) : Go (forD gf b ds S) (Inv ds.length) := by
  have := for_go (gf := gf) (b := b) (ds := ds) Inv 0 h0 fun i d S hd h => by rw [Nat.zero_add] at h ⊢; exact hs i d S hd h
  rw [Nat.zero_add] at this; exact this
theorem rangeD_len (lo hi : Int) : (rangeD lo hi).length = (hi - lo).toNat := by unfold rangeD; rw [List.length_map, List.length_range]
theorem rangeD_get {lo hi : Int} {i : Nat} {d : D} (h : (rangeD lo hi)[i]? = some d) : i < (hi - lo).toNat ∧ d = .int (lo + i) := by
  have hi' := (List.getElem?_eq_some_iff.mp h).1
  rw [rangeD_len] at hi'
  unfold rangeD at h
  rw [List.getElem?_map, List.getElem?_range hi'] at h
  cases h; exact ⟨hi', rfl⟩
theorem sFor_go {fi : IF} {gf : GF} {b : SF} {S : DSt} {ds : List D} {P : DSt → Prop} (e : fi S = some (.ok ds)) (h : Go (forD gf b ds S) P) : Go (sFor fi gf b S) P := by unfold sFor; rw [e]; exact h
/-- over a name of one's own -/
theorem sForA_own {i : Nat} {gf : GF} {b : SF} {S : DSt} {ds : List D} {P : DSt → Prop} (e : S[i]? = some (some (true, .lst ds))) (hn : D.nl.nls ds = true) (h : Go (forD gf b ds (S.set i none)) fun S' => S'[i]? = some none ∧ P (S'.set i (some (true, .lst ds)))) : Go (sForA i gf b S) P := by
  obtain ⟨S1, e1, h1, h2⟩ := h
  refine ⟨_, ?_, h2⟩
  unfold sForA
  rw [e]
  dsimp only
  rw [if_pos hn]
  unfold sForL
  rw [e]
  dsimp only
  rw [if_pos hn]
  show backS i (.lst ds) (forD gf b ds (S.set i none)) = _
  rw [e1]
  show (match S1[i]? with | some none => _ | _ => none) = _
  rw [h1]
@[simp] theorem iRg_R (k : List D → Option (List D)) : iRg k fa S = bnd (fa S) fun a => (k a.1).map .ok := rfl
@[simp] theorem rg1_R (j : Int) : rg1 [.int j] = if in62 j then some (rangeD 0 j) else none := rfl
@[simp] theorem rg2_R (i j : Int) : rg2 [.int i, .int j] = if in62 i && in62 j then some (rangeD i j) else none := rfl
@[simp] theorem iOf_R : iOf f S = bnd (f S) fun a => (walkD a.1 a.2).map .ok := rfl
@[simp] theorem iOfC_R : iOfC f S = bnd (f S) fun a => (walkC a.1 a.2).map .ok := rfl
@[simp] theorem walkD_ls (ds : List D) : walkD (.lst ds) .safe = some ds := rfl
@[simp] theorem walkD_lb (ds : List D) : walkD (.lst ds) (.bor []) = some ds := rfl
@[simp] theorem walkC_l (ds : List D) (k : Kn) : walkC (.lst ds) k = if D.nl.nls ds then some ds else walkD (.lst ds) k := rfl
@[simp] theorem walkC_t (ds : List D) (k : Kn) : walkC (.tup ds) k = walkD (.tup ds) k := rfl
@[simp] theorem eLc_R (fi : IF) (k : GF) (vs : List Nat) : eLc fi k ft f vs S = bnd (fi S) fun ds => if vs.all fun i => !ownAt S i then (lcD k ft f (wipeD S vs) ds [] (.bor [])).map fun r => .ok (.lst r.1, r.2) else none := rfl
def own1 : Option (Bool × D) → Bool
  | some (b, _) => b
  | none => false
@[simp] theorem own1_n : own1 none = false := rfl
@[simp] theorem own1_s (b : Bool) (d : D) : own1 (some (b, d)) = b := rfl
@[simp] theorem ownAt_0 (x : Option (Bool × D)) : ownAt (x :: S) 0 = own1 x := by
  cases x with
  | none => rfl
  | some p => obtain ⟨b, d⟩ := p; cases b <;> rfl
@[simp] theorem ownAt_s (x : Option (Bool × D)) (n : Nat) : ownAt (x :: S) (n + 1) = ownAt S n := rfl
@[simp] theorem wipeD_nil : wipeD S [] = S := rfl
@[simp] theorem wipeD_cons (i : Nat) (vs : List Nat) : wipeD S (i :: vs) = (wipeD S vs).set i none := rfl
theorem lc_all {k : GF} {ft : TF} {fe : EF} {S : DSt} (fn : D → D) : ∀ {ds acc : List D} {q : Kn}, acc.length + ds.length ≤ sizeLine → (∀ d ∈ ds, ∃ S1 ke, k d .safe S = some S1 ∧ ft S1 = some (.ok true) ∧ fe S1 = some (.ok (fn d, ke)) ∧ (fn d).nk ke = .bor []) → lcD k ft fe S ds acc q = some (acc ++ ds.map fn, q)
  | [], acc, q, _, _ => by simp [lcD]
  | d :: ds, acc, q, hl, h => by
    obtain ⟨S1, ke, e1, e2, e3, e4⟩ := h d (by simp)
    unfold lcD
    rw [e1]
    dsimp only
    rw [e2]
    dsimp only
    rw [e3]
    dsimp only
    rw [List.length_cons] at hl
    rw [if_pos (by omega), e4, cat_nil, lc_all fn (by rw [List.length_append, List.length_singleton]; omega) fun d' hd => h d' (by simp [hd])]
    simp
theorem lc_ix {k : GF} {ft : TF} {fe : EF} {S : DSt} : ∀ {ds acc : List D} {q : Kn} (fn : Nat → D), acc.length + ds.length ≤ sizeLine → (∀ i d, ds[i]? = some d → ∃ S1 ke, k d .safe S = some S1 ∧ ft S1 = some (.ok true) ∧ fe S1 = some (.ok (fn i, ke)) ∧ (fn i).nk ke = .bor []) → lcD k ft fe S ds acc q = some (acc ++ (List.range ds.length).map fn, q)
  | [], acc, q, fn, _, _ => by simp [lcD]
  | d :: ds, acc, q, fn, hl, h => by
    obtain ⟨S1, ke, e1, e2, e3, e4⟩ := h 0 d rfl
    unfold lcD
    rw [e1]
    dsimp only
    rw [e2]
    dsimp only
    rw [e3]
    dsimp only
    rw [List.length_cons] at hl
    rw [if_pos (by omega), e4, cat_nil, lc_ix (fun i => fn (i + 1)) (by rw [List.length_append, List.length_singleton]; omega) fun i d' hd => h (i + 1) d' (by simpa using hd)]
    rw [List.length_cons, List.range_succ_eq_map, List.map_cons, List.map_map, List.append_assoc]
    rfl
mutual
theorem D.eqv_self : ∀ (n : Nat) (d : D), d.lay n = true → d.eqv d = true
  | n, .non, _ => rfl
  | n, .bl b, _ => by simp [D.eqv]
  | n, .int b, _ => by simp [D.eqv]
  | n, .str b, _ => by simp [D.eqv]
  | n + 1, .lst a, h => by show D.eqvs a a = true; exact D.eqvs_self n a h
  | n + 1, .tup a, h => by show D.eqvs a a = true; exact D.eqvs_self n a h
  | 0, .lst a, h => by cases h
  | 0, .tup a, h => by cases h
  | n, .ref a, h => by cases n <;> cases h
  | n, .exc a, h => by cases n <;> cases h
  | n, .cls a, h => by cases n <;> cases h
  | n, .rng a b, h => by cases n <;> cases h
  | n, .fl a, h => by cases n <;> cases h
  | n, .ft a, h => by cases n <;> cases h
  | n, .ty a, h => by cases n <;> cases h
  | n, .dct a b, h => by cases n <;> cases h
  | n, .ins a b c, h => by cases n <;> cases h
theorem D.eqvs_self : ∀ (n : Nat) (ds : List D), D.lays n ds = true → D.eqvs ds ds = true
  | n, [], _ => rfl
  | n, d :: ds, h => by
    rw [D.lays_cons, Bool.and_eq_true] at h
    show (D.eqv d d && D.eqvs ds ds) = true
    rw [D.eqv_self n d h.1, D.eqvs_self n ds h.2]; rfl
end
theorem lays_of {n : Nat} {ds : List D} (h : ∀ d ∈ ds, d.lay n = true) : D.lays n ds = true := by
  induction ds with
  | nil => cases n <;> rfl
  | cons d ds ih => rw [D.lays_cons, h d (by simp), ih fun e he => h e (by simp [he])]; rfl
@[simp] theorem lay_int (n : Nat) (i : Int) : (D.int i).lay n = true := by cases n <;> rfl
@[simp] theorem lay_bl (n : Nat) (i : Bool) : (D.bl i).lay n = true := by cases n <;> rfl
@[simp] theorem lay_non (n : Nat) : D.non.lay n = true := by cases n <;> rfl
@[simp] theorem lay_tup (n : Nat) (ds : List D) : (D.tup ds).lay (n + 1) = D.lays n ds := rfl
@[simp] theorem lay_lst (n : Nat) (ds : List D) : (D.lst ds).lay (n + 1) = D.lays n ds := rfl
@[simp] theorem lays_nil (n : Nat) : D.lays n [] = true := by cases n <;> rfl
@[simp] theorem lays_c (n : Nat) (d : D) (ds : List D) : D.lays n (d :: ds) = (d.lay n && D.lays n ds) := D.lays_cons n d ds
@[simp] theorem lays_ints (n : Nat) (ns : List Int) : D.lays n (ns.map D.int) = true := lays_of fun d h => by
  obtain ⟨i, _, rfl⟩ := List.mem_map.mp h; simp
@[simp] theorem eAll_R (fi : IF) (k : GF) (vs : List Nat) : eAll fi k ft f vs S = bnd (fi S) fun ds => if vs.all fun i => !ownAt S i then (allD k ft f (wipeD S vs) ds).map fun r => .ok (.bl r, .bor []) else none := rfl
@[simp] theorem iEnumD_R : iEnumD fa S = bnd (fa S) fun a => match a with
  | ([.lst ds], .safe) => some (.ok (enumD ds))
  | ([.lst ds], .bor []) => some (.ok (enumD ds))
  | _ => none := rfl
section
variable {α : Type} (a b c d e x y z : α) (l : List α)
theorem atI_pos {xs : List α} {i : Nat} {v : α} (h : xs[i]? = some v) : atI xs (i : Int) = some v := by
  have hi := (List.getElem?_eq_some_iff.mp h).1
  unfold atI ixN
  rw [if_pos (by omega), if_pos (by omega)]
  simpa using h
@[simp] theorem atI_0 : atI (a :: l) 0 = some a := atI_pos (i := 0) rfl
@[simp] theorem atI_1 : atI (a :: b :: l) 1 = some b := atI_pos (i := 1) rfl
@[simp] theorem atI_2 : atI (a :: b :: c :: l) 2 = some c := atI_pos (i := 2) rfl
@[simp] theorem atI_3 : atI (a :: b :: c :: d :: l) 3 = some d := atI_pos (i := 3) rfl
@[simp] theorem atI_4 : atI (a :: b :: c :: d :: e :: l) 4 = some e := atI_pos (i := 4) rfl
@[simp] theorem atI_5 : atI (a :: b :: c :: d :: e :: x :: l) 5 = some x := atI_pos (i := 5) rfl
@[simp] theorem atI_6 : atI (a :: b :: c :: d :: e :: x :: y :: l) 6 = some y := atI_pos (i := 6) rfl
@[simp] theorem atI_7 : atI (a :: b :: c :: d :: e :: x :: y :: z :: l) 7 = some z := atI_pos (i := 7) rfl
end
@[simp] theorem s_none_even : ((Str.ofString "none") = Str.ofString "even") = False := eq_false (by decide)
@[simp] theorem s_none_odd : ((Str.ofString "none") = Str.ofString "odd") = False := eq_false (by decide)
@[simp] theorem s_even_none : ((Str.ofString "even") = Str.ofString "none") = False := eq_false (by decide)
@[simp] theorem s_even_odd : ((Str.ofString "even") = Str.ofString "odd") = False := eq_false (by decide)
@[simp] theorem s_odd_none : ((Str.ofString "odd") = Str.ofString "none") = False := eq_false (by decide)
@[simp] theorem s_odd_even : ((Str.ofString "odd") = Str.ofString "even") = False := eq_false (by decide)
@[simp] theorem s_word_broken : ((Str.ofString "word") = Str.ofString "broken") = False := eq_false (by decide)
@[simp] theorem s_word_start : ((Str.ofString "word") = Str.ofString "start") = False := eq_false (by decide)
@[simp] theorem s_word_check : ((Str.ofString "word") = Str.ofString "check") = False := eq_false (by decide)
@[simp] theorem s_word_stop : ((Str.ofString "word") = Str.ofString "stop") = False := eq_false (by decide)
@[simp] theorem s_broken_word : ((Str.ofString "broken") = Str.ofString "word") = False := eq_false (by decide)
@[simp] theorem s_broken_start : ((Str.ofString "broken") = Str.ofString "start") = False := eq_false (by decide)
@[simp] theorem s_broken_check : ((Str.ofString "broken") = Str.ofString "check") = False := eq_false (by decide)
@[simp] theorem s_broken_stop : ((Str.ofString "broken") = Str.ofString "stop") = False := eq_false (by decide)
@[simp] theorem s_start_word : ((Str.ofString "start") = Str.ofString "word") = False := eq_false (by decide)
@[simp] theorem s_start_broken : ((Str.ofString "start") = Str.ofString "broken") = False := eq_false (by decide)
@[simp] theorem s_start_check : ((Str.ofString "start") = Str.ofString "check") = False := eq_false (by decide)
@[simp] theorem s_start_stop : ((Str.ofString "start") = Str.ofString "stop") = False := eq_false (by decide)
@[simp] theorem s_check_word : ((Str.ofString "check") = Str.ofString "word") = False := eq_false (by decide)
@[simp] theorem s_check_broken : ((Str.ofString "check") = Str.ofString "broken") = False := eq_false (by decide)
@[simp] theorem s_check_start : ((Str.ofString "check") = Str.ofString "start") = False := eq_false (by decide)
@[simp] theorem s_check_stop : ((Str.ofString "check") = Str.ofString "stop") = False := eq_false (by decide)
@[simp] theorem s_stop_word : ((Str.ofString "stop") = Str.ofString "word") = False := eq_false (by decide)
@[simp] theorem s_stop_broken : ((Str.ofString "stop") = Str.ofString "broken") = False := eq_false (by decide)
@[simp] theorem s_stop_start : ((Str.ofString "stop") = Str.ofString "start") = False := eq_false (by decide)
@[simp] theorem s_stop_check : ((Str.ofString "stop") = Str.ofString "check") = False := eq_false (by decide)
end
end L2
set_option Elab.async false
set_option linter.all false
set_option maxRecDepth 100000
namespace L2
open PySem PySem.Spec PyProof.Rows
section
variable {K : PySem.W.Frag} {G : List (Addr × HO)} {R : XR}
/-- range with a step -/
def stepD (lo c : Int) (n : Nat) : List D := (List.range n).map fun k : Nat => .int (lo + k * c)
def rg3 : List D → Option (List D)
  | [.int i, .int j, .int c] => if decide (c ≠ 0) && decide (c.natAbs < 1073741824) && Builtin.Range.small i j c && decide (Builtin.Range.rangeSize i j c = ((Builtin.Range.rangeSize i j c).toNat : Int)) then some (stepD i c (Builtin.Range.rangeSize i j c).toNat) else none
  | _ => none
theorem stepD_len (lo c : Int) (n : Nat) : (stepD lo c n).length = n := by unfold stepD; rw [List.length_map, List.length_range]
theorem stepD_get {lo c : Int} {n i : Nat} {d : D} (h : (stepD lo c n)[i]? = some d) : i < n ∧ d = .int (lo + i * c) := by
  have hi' := (List.getElem?_eq_some_iff.mp h).1
  rw [stepD_len] at hi'
  unfold stepD at h
  rw [List.getElem?_map, List.getElem?_range hi'] at h
  cases h; exact ⟨hi', rfl⟩
theorem iter_step {H H1 : Hp} {S : DSt} {L : Nat → List Addr} (lo c : Int) (n : Nat) : Iter K H S L H1 (Itc lo c n) (stepD lo c n) := fun H2 h2 i => by
  refine ⟨fun d hd => ?_, fun h => by rw [stepD_len] at h; exact h⟩
  obtain ⟨hi, rfl⟩ := stepD_get hd
  refine ⟨hi, fun x H3 y => ?_⟩
  obtain ⟨rfl, rfl⟩ := y
  exact ⟨Same.refl _, [], .int _, fun a m => by simp at m⟩
theorem di_range3 {t : TA} {f : AF} (h : DA K G R t f) : DI K G R (iRng3 t) (iRg rg3 f) where
  ok := by
    intro H σ S L s ds e Q q
    obtain ⟨⟨as, k⟩, e1, e⟩ := bnd_ok e
    replace e : rg3 as = some ds := map_ok e
    unfold rg3 at e
    split at e
    · split at e
      · rename_i i j c hz
        cases e
        rw [Bool.and_eq_true, Bool.and_eq_true, Bool.and_eq_true, decide_eq_true_eq, decide_eq_true_eq, decide_eq_true_eq] at hz
        refine h.ok s e1 fun vs H1 l s1 r1 k1 => ?_
        cases r1 with
        | cons h1 t =>
          obtain ⟨v, u, m, n, rfl, rfl, r2, r3⟩ := t.two
          obtain ⟨rfl, _⟩ := h1.intI
          obtain ⟨rfl, _⟩ := r2.intI
          obtain ⟨rfl, _⟩ := r3.intI
          exact ⟨i, j, c, _, rfl, ⟨hz.1.1.1, hz.1.1.2, hz.1.2, hz.2⟩, q _ H1 s1 (iter_step i c _)⟩
      · cases e
    · cases e
  ex := by
    intro H σ S L s x e Q q
    rcases bnd_ex e with e1 | ⟨a, e1, e⟩
    · exact h.ex s e1 q
    · exact (map_ex e).elim
end
end L2
set_option Elab.async false
set_option linter.all false
set_option maxRecDepth 100000
namespace L2
open PySem PySem.Spec PyProof.Rows
section
variable {K : PySem.W.Frag} {G : List (Addr × HO)} {R : XR}
theorem noFly {cl : Nat → Addr} {X : Cx} : XFly cl RF X := fun _ _ _ _ _ _ _ _ _ _ _ _ h => h.elim
theorem de_callX {F : FF} {t : TA} {f : AF} (h : DA K G R t f) : DE K G R (tCallX (clK K) R (spP K G F) t) (eCall F f) where
  ok := by
    intro H σ S L s d k e Q q
    obtain ⟨⟨ds, ks⟩, e1, e⟩ := bnd_ok e
    obtain ⟨⟨d', fr⟩, e2, e⟩ := bnd_ok e
    cases e
    refine h.ok s e1 fun vs H1 l s1 r1 k1 => ?_
    refine ⟨ds, l, r1, (s.same s1).gs, ?_⟩
    dsimp only at e2
    rw [e2]
    intro v H' l' s2 r2 h1 h2
    have any : ∀ a ∈ l', H a = none ∨ AnyN S L a := fun a m => by
      rcases h1 a m with z | z
      · exact .inl (s1.free z)
      · exact k1.any a z
    refine q v H' l' (s1.trans s2) r2 ?_
    unfold callK
    split
    · rename_i z
      obtain ⟨n1, n2⟩ := h2 z
      exact ⟨any, n1, fun a m => .inl (s1.free (n2 a m))⟩
    · refine KP.nk ?_ r2
      have safe : KP H S L l .safe → KP H S L l' .safe := fun p => ⟨any, fun a m => by
        rcases h1 a m with z | z
        · exact .inl (s1.free z)
        · exact p.kd a z⟩
      cases ks with
      | bor is =>
        cases is with
        | nil => exact safe k1.toSafe
        | cons i is => exact ⟨any, trivial⟩
      | safe => exact safe k1
      | weak => exact ⟨any, trivial⟩
  ex := by
    intro H σ S L s x e Q q
    rcases bnd_ex e with e1 | ⟨⟨ds, ks⟩, e1, e⟩
    · exact h.ex s e1 q
    · refine h.ok s e1 fun vs H1 l s1 r1 k1 => ?_
      rcases bnd_ex e with e2 | ⟨⟨d', fr⟩, e2, e⟩
      · refine ⟨ds, l, r1, (s.same s1).gs, ?_⟩
        dsimp only at e2
        rw [e2]
        exact fun H' s2 => ⟨x, rfl, q H' (s1.trans s2)⟩
      · cases e
def sRaise (x : Nat) : SF := fun S => some (.ex x S)
theorem ds_raise (x : Nat) : DS K G R [] (fun _ σ H => R x σ H) (sRaise x) := ⟨fun {H σ S L o} s e D p => by cases e; exact p H σ L s .refl .refl⟩
/-- the classes with these numbers: each own, under ValueError, and none under another -/
def xB (K : PySem.W.Frag) (cs : List Nat) : Bool := cs.all fun x => PySem.W.excIn K (clK K x) vmro vnew && xcOk K (clK K x) && (PySem.W.kitOne K (.ref (clK K x)) (.type "ValueError") == some true) && cs.all fun y => PySem.W.kitOne K (.ref (clK K x)) (.ref (clK K y)) == some (x == y)
/-- the handler of the class y catches them, or the one alike -/
def xH (K : PySem.W.Frag) (cs : List Nat) (y : Nat) : Bool := cs.all fun x => PySem.W.exmOne K (.ref (clK K x)) (.ref (clK K y)) == some (y == 7 || x == y)
def mtB (cs : List Nat) (y x : Nat) : Bool := cs.contains x && (y == 7 || x == y)
theorem xB_at {cs : List Nat} {x : Nat} (h : xB K cs = true) (hx : x ∈ cs) : PySem.W.excIn K (clK K x) vmro vnew = true ∧ xcOk K (clK K x) = true ∧ PySem.W.kitOne K (.ref (clK K x)) (.type "ValueError") = some true ∧ ∀ y ∈ cs, PySem.W.kitOne K (.ref (clK K x)) (.ref (clK K y)) = some (x == y) := by
  have := List.all_eq_true.mp h x hx
  simp only [Bool.and_eq_true, beq_iff_eq, List.all_eq_true] at this
  exact ⟨this.1.1.1, this.1.1.2, this.1.2, this.2⟩
theorem xB_ex {cs : List Nat} {x : Nat} (h : xB K cs = true) (hx : x ∈ cs) : PySem.W.excIn K (clK K x) vmro vnew = true := (xB_at h hx).1
theorem clK_of {n : Nat} {C : Addr} (h : PySem.W.nsIn K mainGlobals (xName n) = some (some (.ref C))) : clK K n = C := by
  unfold clK; rw [h]
def rIsX (K : PySem.W.Frag) (cs : List Nat) : List V → Hp → VK → Prop := fun xs H Q => ∃ p x, x ∈ cs ∧ H p = some (.ext (excφ K x p)) ∧ ((∃ y, y ∈ cs ∧ xs = [.ref p, .ref (clK K y)] ∧ Q (.bl (x == y)) H) ∨ (xs = [.ref p, .ty "ValueError"] ∧ Q (.bl true) H))
def gIsiX (cs : List Nat) : List D → Option D
  | [.exc x, .cls y] => if cs.contains x && cs.contains y then some (.bl (x == y)) else none
  | [.exc x, .ty n] => if cs.contains x && (n == "ValueError") then some (.bl true) else none
  | _ => none
abbrev eIsiX (cs : List Nat) : AF → EF := eCB (c0 (gIsiX cs))
def noEx : Option SO → Option SO
  | some (.ex _ _) => none
  | o => o
def sTry (cs : List Nat) (y : Nat) (fb fs : SF) : SF := fun S => match fb S with
  | some (.ex x S') => if mtB cs y x then noEx (fs S') else none
  | o => o
section
variable {X : Cx} {ts : List Nat}
def unbS (i : Nat) : Option SO → Option SO
  | some (.nx S) => some (.nx (S.set i none))
  | some (.bk S) => some (.bk (S.set i none))
  | some (.ct S) => some (.ct (S.set i none))
  | some (.rt d fr S) => some (.rt d fr S)
  | _ => none
def sTryAs (cs : List Nat) (y i : Nat) (fb fs : SF) : SF := fun S => match fb S with
  | some (.ex x S') => if mtB cs y x then unbS i (fs (S'.set i (some (false, .exc x)))) else none
  | o => o
theorem Mv.putF {H H' : Hp} {S : DSt} {L : Nat → List Addr} {i : Nat} {d : D} (s : Same H H') : Mv H S L H' (S.set i (some (false, d))) (putL L i []) := by
  refine ⟨fun a o h _ => s a o h, fun a w => ?_, fun a w => ?_⟩
  · rcases w.put with ⟨h, _⟩ | w
    · simp at h
    · exact .inr w
  · rcases w.put with h | w
    · simp at h
    · exact .inr w
end
@[simp] theorem sRaise_R (x : Nat) (S : DSt) : sRaise x S = some (.ex x S) := rfl
@[simp] theorem nl_exc (x : Nat) : (D.exc x).nl = true := rfl
@[simp] theorem nl_cls (x : Nat) : (D.cls x).nl = true := rfl
@[simp] theorem gIsiX_c (cs : List Nat) (x y : Nat) : gIsiX cs [.exc x, .cls y] = if cs.contains x && cs.contains y then some (.bl (x == y)) else none := rfl
@[simp] theorem gIsiX_v (cs : List Nat) (x : Nat) (n : String) : gIsiX cs [.exc x, .ty n] = if cs.contains x && (n == "ValueError") then some (.bl true) else none := rfl
/-- it raises -/
def Rx (o : Option SO) (x : Nat) : Prop := ∃ S, o = some (.ex x S)
end
end L2
set_option Elab.async false
set_option linter.all false
set_option maxRecDepth 100000
namespace L2
open PySem PySem.Spec PyProof.Rows PySem.W
def SubK (K K' : Frag) : Prop := ∀ a o, K.lookup a = some o → (∀ vs, o.data ≠ .fields vs) → K'.lookup a = some o
section
variable {K K' : Frag} (S : SubK K K')
include S
theorem sub_ns {ns : Addr} {n : Str} {r : Option Value} (h : nsIn K ns n = some r) : nsIn K' ns n = some r := by
  unfold nsIn at h ⊢
  split at h
  · rename_i e
    rw [S _ _ e (fun vs z => by cases z)]
    exact h
  · cases h
theorem sub_cls {C : Addr} {cd : ClassData} (h : clsIn K C = some cd) : clsIn K' C = some cd := by
  unfold clsIn at h ⊢
  split at h
  · rename_i e
    rw [S _ _ e (fun vs z => by cases z)]
    exact h
  · cases h
theorem sub_own {n : Str} {v : Value} {r : Option Value} (h : ownIn K n v = some r) : ownIn K' n v = some r := by
  cases v with
  | ref a =>
    unfold ownIn at h ⊢
    dsimp only at h ⊢
    split at h
    · rename_i e
      rw [S _ _ e (fun vs z => by cases z)]
      exact sub_ns S h
    · cases h
  | _ => exact h
theorem sub_along {n : Str} : ∀ {l : List Value} {r : Option Value}, alongIn K n l = some r → alongIn K' n l = some r
  | [], _, h => h
  | c :: l, r, h => by
    simp only [alongIn] at h ⊢
    split at h
    · rename_i e; rw [sub_own S e]; exact h
    · rename_i e; rw [sub_own S e]; exact sub_along h
    · cases h
theorem sub_find {t : Value} {n : Str} {r : Option Value} (h : findIn K t n = some r) : findIn K' t n = some r := by
  cases t with
  | ref a =>
    unfold findIn at h ⊢
    dsimp only at h ⊢
    split at h
    · rename_i e
      rw [S _ _ e (fun vs z => by cases z)]
      exact sub_along S h
    · cases h
  | _ => exact h
theorem sub_mro {C : Addr} {b : Value} {r : Bool} (h : mroIn K C b = some r) : mroIn K' C b = some r := by
  unfold mroIn at h ⊢
  obtain ⟨cd, e, h⟩ := Option.bind_eq_some_iff.mp h
  rw [sub_cls S e]; exact h
theorem sub_sub {t b : Value} {r : Bool} (h : subIn K t b = some r) : subIn K' t b = some r := by
  cases t with
  | ref C => exact sub_mro S h
  | _ => exact h
theorem sub_kitCls {t c : Value} {r : Bool} (h : kitCls K t c = some r) : kitCls K' t c = some r := by
  unfold kitCls at h ⊢
  split at h
  · rename_i C
    split at h
    · rename_i z
      rw [Bool.and_eq_true] at z
      obtain ⟨cd, e⟩ := Option.isSome_iff_exists.mp z.1
      have ty : typeIn K' (.ref C) = typeIn K (.ref C) := by
        unfold clsIn at e
        split at e
        · rename_i lk
          show (K'.lookup C).map (·.cls) = (K.lookup C).map (·.cls)
          rw [S _ _ lk (fun vs z => by cases z), lk]
        · cases e
      rw [if_pos (by rw [sub_cls S e, ty, Bool.and_eq_true]; exact ⟨rfl, z.2⟩)]
      exact sub_sub S h
    · cases h
  · rename_i T
    split at h
    · rename_i z
      rw [if_pos z]; exact sub_sub S h
    · cases h
  · cases h
theorem sub_kitOne {t c : Value} {r : Bool} (h : kitOne K t c = some r) : kitOne K' t c = some r := by
  unfold kitOne at h ⊢
  split at h
  · rename_i z; rw [if_pos z]; exact h
  · rename_i z; rw [if_neg z]; exact sub_kitCls S h
theorem sub_nsOk {N : Addr} (h : nsOkIn K N = true) : nsOkIn K' N = true := by
  unfold nsOkIn at h ⊢
  split at h
  · rename_i e
    rw [S _ _ e (fun vs z => by cases z)]
    exact h
  · cases h
theorem sub_tail {bm : List Value} : ∀ {l : List Value}, tailIn K bm l = true → tailIn K' bm l = true
  | [], h => h
  | v :: r, h => by
    unfold tailIn at h ⊢
    rcases Bool.or_eq_true_iff.mp h with q | q
    · rw [q]; rfl
    · split at q
      · split at q
        · rename_i e
          simp only [Bool.and_eq_true, beq_iff_eq] at q
          rw [S _ _ e (fun vs z => by cases z)]
          dsimp only
          rw [sub_nsOk S q.1.1, sub_ns S q.1.2, sub_tail q.2]
          simp
        · cases q
      · cases q
theorem sub_exc {C : Addr} {bm : List Value} {n : String} (h : excIn K C bm n = true) : excIn K' C bm n = true := by
  unfold excIn at h
  split at h
  · rename_i dd cd sl e
    split at h
    · rename_i C1 bm1 j0 j1 j2 j3 nn j5 e1 e2
      simp only [Bool.and_eq_true, beq_iff_eq] at h
      have e' := S _ _ e (fun vs z => by cases z)
      obtain ⟨nm, bs, mro, ns, qn, hd, sn, sub, ab, col, del⟩ := cd
      obtain ⟨l⟩ := sl
      dsimp only at e1 e2 h
      subst e1 e2
      unfold excIn
      rw [e']
      show (_ && _) = true
      simp only [Bool.and_eq_true, beq_iff_eq]
      exact ⟨⟨⟨h.1.1.1, sub_tail S h.1.1.2⟩, sub_nsOk S h.1.2⟩, sub_ns S h.2⟩
    · cases h
  · cases h
theorem sub_xc {C : Addr} (h : xcOk K C = true) : xcOk K' C = true := by
  simp only [xcOk, Bool.and_eq_true, beq_iff_eq] at h ⊢
  obtain ⟨⟨⟨⟨⟨⟨⟨h1, h2⟩, h0⟩, h3⟩, h4⟩, h5⟩, h6⟩, h7⟩ := h
  obtain ⟨cd, e⟩ := Option.isSome_iff_exists.mp h3
  have sp : specialIn K' (.builtin "object.__class__") "__get__" = some (some (.builtin "getset_descriptor.__get__")) := by
    unfold specialIn at h5 ⊢
    obtain ⟨ty, e1, e2⟩ := Option.bind_eq_some_iff.mp h5
    exact Option.bind_eq_some_iff.mpr ⟨ty, e1, sub_find S e2⟩
  have tk : takesIn K' (.builtin "object.__class__") = some true := by
    unfold takesIn at h6 ⊢
    exact h6
  exact ⟨⟨⟨⟨⟨⟨⟨sub_find S h1, sub_find S h2⟩, sub_mro S h0⟩, by rw [sub_cls S e]; rfl⟩, sub_find S h4⟩, sp⟩, tk⟩, sub_mro S h7⟩
theorem sub_clK {x : Nat} {C : Addr} (h : nsIn K mainGlobals (xName x) = some (some (.ref C))) : clK K' x = C := clK_of (sub_ns S h)
end
section
variable {K : Frag} {h : Heap} {tabs : List Addr}
theorem minus_sub (X : K.In h) (T : TabH h tabs) : SubK K (minusK K tabs) := fun a o e hn => minus_of e (not_tab X T e (hn _))
/-- the classes that are told by these names stand where they stood -/
def xNs (K : Frag) (cs : List Nat) : Bool := cs.all fun x => match nsIn K mainGlobals (xName x) with
  | some (some (.ref _)) => true
  | _ => false
theorem xNs_at {cs : List Nat} {x : Nat} (h : xNs K cs = true) (hx : x ∈ cs) : ∃ C, nsIn K mainGlobals (xName x) = some (some (.ref C)) := by
  have := List.all_eq_true.mp h x hx
  split at this
  · rename_i C e; exact ⟨C, e⟩
  · cases this
theorem clK_minus (X : K.In h) (T : TabH h tabs) {cs : List Nat} {x : Nat} (hn : xNs K cs = true) (hx : x ∈ cs) : clK (minusK K tabs) x = clK K x := by
  obtain ⟨C, e⟩ := xNs_at hn hx
  rw [clK_of e, sub_clK (minus_sub X T) e]
theorem xB_minus (X : K.In h) (T : TabH h tabs) {cs : List Nat} (hb : (xNs K cs && xB K cs) = true) : xB (minusK K tabs) cs = true := by
  rw [Bool.and_eq_true] at hb
  have S := minus_sub X T
  refine List.all_eq_true.mpr fun x hx => ?_
  obtain ⟨h1, h2, h3, h4⟩ := xB_at hb.2 hx
  rw [clK_minus X T hb.1 hx]
  simp only [Bool.and_eq_true, beq_iff_eq, List.all_eq_true]
  refine ⟨⟨⟨sub_exc S h1, sub_xc S h2⟩, sub_kitOne S h3⟩, fun y hy => ?_⟩
  rw [clK_minus X T hb.1 hy]
  exact sub_kitOne S (h4 y hy)
theorem x_glob (X : K.In h) (T : TabH h tabs) {mg : Str → Option Value} (G : h.Ns mainGlobals mg) (x : Nat) {C : Addr} (e : nsIn K mainGlobals (xName x) = some (some (.ref C))) : mg (xName x) = some (.ref (clK (minusK K tabs) x)) := by
  rw [sub_clK (minus_sub X T) e]
  exact mg_of X G e
end
end L2
set_option Elab.async false
set_option linter.all false
set_option maxRecDepth 100000
namespace L2
open PySem PySem.Spec PyProof.Rows
theorem slicePick_rev (its : List Value) : slicePick its.toArray none none (some (-1)) = its.reverse.toArray := by
  have hb : sliceBounds none none (some (-1)) its.toArray.size = ((its.length : Int) - 1, -1, -1) := by
    simp [sliceBounds]
  have hr : sliceRange ((its.length : Int) - 1) (-1) (-1) = (List.range its.length).map fun k => its.length - 1 - k := by
    unfold sliceRange
    have e1 : (if (-1 : Int) > 0 then (if (its.length : Int) - 1 < -1 then (-1 - ((its.length : Int) - 1) + -1 - 1) / -1 else 0) else (if (its.length : Int) - 1 > -1 then ((its.length : Int) - 1 - -1 - -1 - 1) / (- -1) else 0)).toNat = its.length := by
      rw [if_neg (by decide), show (- -1 : Int) = 1 from rfl, Int.ediv_one]
      split <;> omega
    dsimp only
    rw [e1]
    refine List.map_congr_left fun k hk => ?_
    have := List.mem_range.mp hk
    omega
  unfold slicePick
  rw [hb]
  dsimp only
  rw [hr]
  congr 1
  have e2 : ((List.range its.length).map fun k => its.length - 1 - k).filterMap (fun i => its.toArray[i]?) = ((List.range its.length).map fun k => its.length - 1 - k).filterMap (fun i => its[i]?) := by
    congr 1
    funext i
    simp
  rw [e2, List.filterMap_map]
  refine List.ext_getElem? fun j => ?_
  have e3 : (List.range its.length).filterMap ((fun i => its[i]?) ∘ fun k => its.length - 1 - k) = (List.range its.length).map fun k => its.getD (its.length - 1 - k) .none := by
    rw [← List.filterMap_eq_map]
    have cg : ∀ l : List Nat, (∀ k ∈ l, k < its.length) → l.filterMap ((fun i => its[i]?) ∘ fun k => its.length - 1 - k) = l.filterMap (some ∘ fun k => its.getD (its.length - 1 - k) .none) := fun l => by
      induction l with
      | nil => intro _; rfl
      | cons k l ih =>
        intro hk
        have h0 := hk k (List.mem_cons_self ..)
        have h : its.length - 1 - k < its.length := by omega
        have h1 : its[its.length - 1 - k]? = some (its.getD (its.length - 1 - k) .none) := by simp [List.getD_eq_getElem?_getD, h]
        rw [List.filterMap_cons, List.filterMap_cons, ih fun j hj => hk j (List.mem_cons_of_mem _ hj)]
        simp only [Function.comp, h1]
    exact cg _ fun k hk => List.mem_range.mp hk
  rw [e3, List.getElem?_map]
  by_cases h : j < its.length
  · rw [List.getElem?_range h, List.getElem?_reverse h]
    have h2 : its.length - 1 - j < its.length := by omega
    simp [List.getD_eq_getElem?_getD, h2]
  · rw [List.getElem?_eq_none (by simp; omega), List.getElem?_eq_none (by simp; omega)]; rfl
section
variable {X : Cx} {e st : Expr} {te : TE} {ts : TO} {pos p2 : Pos}
def tSlR (K : PySem.W.Frag) (te : TE) (ts : TO) : TE := fun σ H Q => te σ H fun x H1 => ts σ H1 fun o H2 => o = some (-1) ∧ ∃ a xs, x = .ref a ∧ SqL K H2 a xs ∧ ∀ p, H2 p = none → Q (.ref p) (upd H2 p (.lst xs.reverse))
theorem pe_slrev {K : PySem.W.Frag} (hK : X.K = K) (he : PE X e te) (hs : PO X (some st) ts) : PE X (.Subscript e (.Slice none none (some st) p2) pos) (tSlR K te ts) := by
  subst hK
  intro pins s σ H Q I h
  refine Subscript_ (thn (he pins s σ H _ I h) fun v s1 ⟨x, H1, I1, r1, q1⟩ => ?_)
  refine wpAny_Slice ?_
  rw [evalPart_none]
  refine wpAny_pure (wpAny_pure (thn (hs pins s1 σ H1 _ I1 q1) fun vs s3 ⟨o, H3, I3, ps, q3⟩ => ?_))
  obtain ⟨rfl, a, xs, rfl, hx, q⟩ := q3
  cases r1
  have I4 : Inv X pins σ H3 { s3 with heap := s3.heap.push { cls := .type "slice", data := .fields #[.none, .none, vs] } } := I3.kept (t' := s3.toks) fun b ob q => Heap.get?_push_of_some _ q
  obtain ⟨its, r, ht, hz⟩ := I4.list hx
  have hlen := r.length
  show wpAny (model X.prog X.w) X.A (subscriptTail e (.Slice none none (some st) p2) (.ref a) (.ref s3.heap.objs.size)) (EP X pins σ Q) X.xe { s3 with heap := s3.heap.push { cls := .type "slice", data := .fields #[.none, .none, vs] } }
  refine tail_any (ops := [.ref a, .ref s3.heap.objs.size]) ht.isList.typeIs slot_list_getitem.lookup ?_ (by with_unfolding_all rfl)
  refine wpAny_getItem_list_slice ht.isList (Heap.IsSliceOf.new ..) .none .none ps (by simp) ?_ (by rw [List.size_toArray] <;> omega)
  rw [slicePick_rev]
  refine ⟨.ref _, _, I4.laid (t' := s3.toks) (o := .lst xs.reverse) (fun b ob q => Heap.get?_push_of_some _ q) (Nat.le_refl _) ?_, rfl, q _ (I4.hok.fresh (Nat.le_refl _))⟩
  exact ⟨by rw [List.length_reverse]; exact hz, _, 0, r.reverse, Heap.get?_push_size _ rfl⟩
end
variable {K : PySem.W.Frag} {G : List (Addr × HO)} {R : XR}
def gRv : D × Kn → Option Int → Option (D × Kn)
  | (.lst ds, _), some (-1) => if D.nl.nls ds then some (.lst ds.reverse, .bor []) else none
  | _, _ => none
def eRv (f : EF) (o : OF) : EF := fun S => bnd (f S) fun a => bnd (o S) fun st => (gRv a st).map .ok
@[simp] theorem eRv_R (f : EF) (o : OF) (S : DSt) : eRv f o S = bnd (f S) fun a => bnd (o S) fun st => (gRv a st).map .ok := rfl
@[simp] theorem gRv_l (ds : List D) (k : Kn) : gRv (.lst ds, k) (some (-1)) = if D.nl.nls ds then some (.lst ds.reverse, .bor []) else none := rfl
theorem gRv_inv {a : D} {k : Kn} {o : Option Int} {r : D × Kn} (e : gRv (a, k) o = some r) : ∃ ds, a = .lst ds ∧ o = some (-1) ∧ D.nl.nls ds = true ∧ (D.lst ds.reverse, Kn.bor []) = r := by
  unfold gRv at e
  split at e
  · rename_i ha
    cases ha
    split at e
    · rename_i hz
      exact ⟨_, rfl, rfl, hz, Option.some.inj e⟩
    · cases e
  · cases e
theorem de_slrev {t : TE} {tl : TO} {f : EF} {l : OF} (hf : DE K G R t f) (hl : DO K G R tl l) : DE K G R (tSlR K t tl) (eRv f l) where
  ok := by
    intro H σ S L s d k e Q q
    obtain ⟨⟨a, ka⟩, e1, e⟩ := bnd_ok e
    obtain ⟨lo, e2, e⟩ := bnd_ok e
    have e := map_ok e
    refine hf.ok s e1 fun x H1 lx s1 r1 k1 => ?_
    refine hl.ok (s.same s1) e2 fun H2 s2 => ?_
    obtain ⟨ds, rfl, rfl, hz, e⟩ := gRv_inv e
    cases e
    obtain ⟨p, vs, m, rfl, hp, rp, rfl⟩ := (r1.same s2).lstI
    have := rp.nodes hz
    subst this
    refine ⟨rfl, p, vs, rfl, SqL.of hp, fun n hn => ?_⟩
    exact q _ _ [n] ((s1.trans s2).trans (.upd hn)) (.lst upd_same (rp.rev.same (.upd hn))) (KP.top (.nil _) ((s1.trans s2).free hn) (by simp))
  ex := by
    intro H σ S L s x e Q q
    rcases bnd_ex e with e1 | ⟨⟨a, ka⟩, e1, e⟩
    · exact hf.ex s e1 q
    · refine hf.ok s e1 fun x H1 lx s1 r1 k1 => ?_
      rcases bnd_ex e with e2 | ⟨lo, e2, e⟩
      · exact hl.ex (s.same s1) e2 fun H' s2 => q H' (s1.trans s2)
      · exact (map_ex e).elim
end L2
set_option Elab.async false
set_option linter.all false
set_option maxRecDepth 100000
namespace L2
open PySem PySem.Spec PyProof.Rows
section
variable {prog : Program} {w : World} {M : Model} {A : Around} {E : Value → Shared → Prop} {s : Shared}
/-- the enumerate object while its first pair is kept by somebody -/
def EnK (h : Heap) (e it : Addr) (i : Int) (T : Addr) (bb : Bool) (x : Value) : Prop :=
  h.get? e = some { cls := .type "enumerate", dict := none, data := .fields #[rawInt T, .bool bb, .ref it, rawInt i, .none, x], slots := #[] }
end
/-- the walk that makes list(enumerate(xs)) at S -/
def enGo (S : Addr) : List V → Nat → List V → Hp → (Hp → Prop) → Prop
  | [], _, _, H, Q => Q H
  | x :: xs, i, ys, H, Q => ∀ T, H T = none → enGo S xs (i + 1) (ys ++ [.ref T]) (upd (upd H T (.tup [.int (i : Nat), x])) S (.lst (ys ++ [.ref T]))) Q
def EnSt (h : Heap) (e it : Addr) (i : Nat) : Prop := (i = 0 ∧ IsEnum h e it (0 : Int) .none) ∨ ∃ T bb x, EnK h e it (i : Int) T bb x ∧ (∃ o, h.get? T = some o) ∧ T ≠ e ∧ T ≠ it
section
variable {X : Cx} {A : Around} {pins : List (Addr × Obj)} {σ : St} {a e it S : Addr} {its : List Value} {R : Result → Shared → Prop}
theorem EnSt.keep {h h' : Heap} {i : Nat} (st : EnSt h e it i) (k : ∀ b o, b ≠ S → h.get? b = some o → h'.get? b = some o) (hSe : S ≠ e) (hST : ∀ T o, T = S → h.get? T = some o → ∃ o', h'.get? T = some o') : EnSt h' e it i := by
  rcases st with ⟨h0, q⟩ | ⟨T, bb, x, q, ⟨o, ho⟩, n1, n2⟩
  · exact .inl ⟨h0, k e _ (Ne.symm hSe) q⟩
  · refine .inr ⟨T, bb, x, k e _ (Ne.symm hSe) q, ?_, n1, n2⟩
    by_cases z : T = S
    · exact hST T o z ho
    · exact ⟨o, k T o z ho⟩
theorem EnSt.lt {h : Heap} {i : Nat} (st : EnSt h e it i) : e < h.objs.size := by
  rcases st with ⟨_, q⟩ | ⟨T, bb, x, q, _⟩
  · exact Heap.lt_size q
  · exact Heap.lt_size q
end
end L2
set_option Elab.async false
set_option linter.all false
set_option maxRecDepth 100000
namespace L2
open PySem PySem.Spec PyProof.Rows
section
variable {prog : Program} {w : World} {A : Around} {E : Value → Shared → Prop} {s : Shared} {R : Result → Shared → Prop} {e it S : Addr}
end
def tLE (K : PySem.W.Frag) (ta : TA) : TE := fun σ H Q => ta σ H fun vs H1 => ∃ a xs, vs = [.ref a] ∧ SqL K H1 a xs ∧ ∀ S, H1 S = none → enGo S xs 0 [] (upd H1 S (.lst [])) fun H2 => Q (.ref S) H2
end L2
set_option Elab.async false
set_option linter.all false
set_option maxRecDepth 100000
namespace L2
open PySem PySem.Spec PyProof.Rows
section
variable {K : PySem.W.Frag} {G : List (Addr × HO)} {R : XR}
def enFrom (i : Nat) (ds : List D) : List D := ds.mapIdx fun j d => .tup [.int ((i + j : Nat) : Int), d]
def eLE (f : AF) : EF := fun S => bnd (f S) fun a => match a with
  | ([.lst ds], _) => if D.nl.nls ds then some (.ok (.lst (enumD ds), .bor [])) else none
  | _ => none
end
@[simp] theorem eLE_R (f : AF) (S : DSt) : eLE f S = bnd (f S) fun a => match a with
  | ([.lst ds], _) => if D.nl.nls ds then some (.ok (.lst (enumD ds), .bor [])) else none
  | _ => none := rfl
end L2
set_option Elab.async false
set_option linter.all false
set_option maxRecDepth 100000
namespace L2
open PySem PySem.Spec PyProof.Rows
section
variable {prog : Program} {w : World} {A : Around} {E : Value → Shared → Prop} {s : Shared}
def ZpK (h : Heap) (z TI TO T : Addr) (bb : Bool) : Prop :=
  h.get? z = some { cls := .type "zip", dict := none, data := .fields #[rawInt T, .bool bb, .bool false, .ref TI, .ref TO], slots := #[] }
/-- the zip object, whatever it holds of pairs handed out -/
def ZpA (h : Heap) (z TI TO : Addr) (f0 : Value) (bb : Bool) : Prop :=
  h.get? z = some { cls := .type "zip", dict := none, data := .fields #[f0, .bool bb, .bool false, .ref TI, .ref TO], slots := #[] }
def ZpSt (h : Heap) (z TI TO i1 i2 a b : Addr) (i : Nat) : Prop := IsPair h TI (.ref i1) (.ref i2) ∧ (∃ x y, IsPair h TO x y) ∧ h.IsListIter i1 a i ∧ h.IsListIter i2 b i ∧ ∃ f0 bb, ZpA h z TI TO f0 bb ∧ (f0 = .none ∨ ∃ T : Addr, f0 = rawInt T)
theorem ZpSt.keep {h h' : Heap} {z TI TO i1 i2 a b : Addr} {i : Nat} (st : ZpSt h z TI TO i1 i2 a b i) (k : ∀ c ∈ [z, TI, TO, i1, i2], ∀ o, h.get? c = some o → h'.get? c = some o) : ZpSt h' z TI TO i1 i2 a b i := by
  obtain ⟨hTI, ⟨x, y, hTO⟩, h1, h2, f0, bb, hz, hf⟩ := st
  exact ⟨k TI (by simp) _ hTI, ⟨x, y, k TO (by simp) _ hTO⟩, h1.at fun o q => k i1 (by simp) o q, h2.at fun o q => k i2 (by simp) o q, f0, bb, k z (by simp) _ hz, hf⟩
end
end L2
set_option Elab.async false
set_option linter.all false
set_option maxRecDepth 100000
namespace L2
open PySem PySem.Spec PyProof.Rows
open AutoSeq1 (wpAny_loadPart')
section
variable {prog : Program} {w : World} {A : Around} {E : Value → Shared → Prop} {s : Shared}
end
end L2
set_option Elab.async false
set_option linter.all false
set_option maxRecDepth 100000
namespace L2
open PySem PySem.Spec PyProof.Rows
/-- the lists at a and b as they stand at each turn, the items in new pairs, each in a new pair with its place -/
def Itez (K : PySem.W.Frag) (a b : Addr) : It :=
  ⟨fun i H => ∃ (xs ys : List V) (x y : V), SqL K H a xs ∧ SqL K H b ys ∧ xs[i]? = some x ∧ ys[i]? = some y,
    fun i H v H' => ∃ T1 T2 x y, v = .ref T2 ∧ H T1 = none ∧ upd H T1 (.tup [x, y]) T2 = none ∧ H' = upd (upd H T1 (.tup [x, y])) T2 (.tup [.int (i : Nat), .ref T1]) ∧ (∀ xs, SqL K H a xs → xs[i]? = some x) ∧ ∀ ys, SqL K H b ys → ys[i]? = some y,
    fun i H => ∃ xs ys : List V, SqL K H a xs ∧ SqL K H b ys ∧ (xs.length ≤ i ∨ ys.length ≤ i)⟩
def iEnumZip (K : PySem.W.Frag) (ta : TA) : TI := fun σ H R => ta σ H fun vs H1 => ∃ a b xs ys, vs = [.ref a, .ref b] ∧ SqL K H1 a xs ∧ SqL K H1 b ys ∧ R (Itez K a b) H1
end L2
set_option Elab.async false
set_option linter.all false
set_option maxRecDepth 100000
namespace L2
open PySem PySem.Spec PyProof.Rows
section
variable {K : PySem.W.Frag} {G : List (Addr × HO)} {R : XR}
def iEnumZipD (f : AF) : IF := fun S => bnd (f S) fun a => match a with
  | ([.lst ds, .lst es], .safe) => some (.ok (enumD (zipD ds es)))
  | ([.lst ds, .lst es], .bor []) => some (.ok (enumD (zipD ds es)))
  | _ => none
end
@[simp] theorem iEnumZipD_R (fa : AF) (S : DSt) : iEnumZipD fa S = bnd (fa S) fun a => match a with
  | ([.lst ds, .lst es], .safe) => some (.ok (enumD (zipD ds es)))
  | ([.lst ds, .lst es], .bor []) => some (.ok (enumD (zipD ds es)))
  | _ => none := rfl
end L2
set_option Elab.async false
set_option linter.all false
set_option maxRecDepth 100000
namespace L2
open PySem PySem.Spec PyProof.Rows
section
variable {X : Cx}
end
section
variable {K : PySem.W.Frag} {G : List (Addr × HO)} {R : XR} {ta tb : TE} {fa fb : EF}
def gIsB (a b : D) : Option D := match a, b with
  | .bl a, .bl b => some (.bl (a == b))
  | _, _ => none
def gNotB (a b : D) : Option D := match a, b with
  | .bl a, .bl b => some (.bl (a != b))
  | _, _ => none
abbrev eIsB : EF → EF → EF := eTwo (g0 gIsB)
abbrev eNotB : EF → EF → EF := eTwo (g0 gNotB)
end
@[simp] theorem gIsB_R (a b : Bool) : gIsB (.bl a) (.bl b) = some (.bl (a == b)) := rfl
@[simp] theorem gNotB_R (a b : Bool) : gNotB (.bl a) (.bl b) = some (.bl (a != b)) := rfl
end L2
set_option Elab.async false
set_option linter.all false
set_option maxRecDepth 100000
namespace L2
open PySem PySem.Spec PyProof.Rows
abbrev TCh := V → TT
section
variable {X : Cx}
def PCh (X : Cx) (pos : Pos) (ops : List CmpOp) (rs : List (Sem Value)) (t : TCh) : Prop :=
  ∀ (pins : List (Addr × Obj)) (s : Shared) (σ : St) (H : Hp) (y : V) (u : Value) (Q : Bool → Hp → Prop), Inv X pins σ H s → RelV y u → t y σ H Q →
    wpAny (model X.prog X.w) X.A (testChain pos u ops rs) (fun k s' => ∃ H', Inv X pins σ H' s' ∧ Q k H') X.xe s
def tChL (r : R2) (tc : TE) : TCh := fun y σ H Q => tc σ H fun z H1 => r y z H1 fun d H2 => ∃ k, d = .bl k ∧ Q k H2
def tChN (r : R2) (tb : TE) (t : TCh) : TCh := fun y σ H Q => tb σ H fun z H1 => r y z H1 fun d H2 => ∃ k, d = .bl k ∧ (if k = true then t z σ H2 Q else Q false H2)
def tChA (ta : TE) (t : TCh) : TT := fun σ H Q => ta σ H fun x H1 => t x σ H1 Q
end
section
variable {K : PySem.W.Frag} {G : List (Addr × HO)} {R : XR}
abbrev CF := D → TF
structure DCh (K : PySem.W.Frag) (G : List (Addr × HO)) (R : XR) (t : TCh) (f : CF) : Prop where
  ok : ∀ {H σ S L}, SR K G H σ S L → ∀ {lx : List Addr} {x : V} {a : D}, Rep K H lx x a → ∀ {b}, f a S = some (.ok b) → ∀ {Q : Bool → Hp → Prop}, (∀ H', Same H H' → Q b H') → t x σ H Q
  ex : ∀ {H σ S L}, SR K G H σ S L → ∀ {lx : List Addr} {x : V} {a : D}, Rep K H lx x a → ∀ {z}, f a S = some (.exc z) → ∀ {Q : Bool → Hp → Prop}, (∀ H', Same H H' → R z σ H') → t x σ H Q
def cLast (g : D → D → Option D) (fc : EF) : CF := fun a S => bnd (fc S) fun c => match g a c.1 with
  | some (.bl b) => some (.ok b)
  | _ => none
def cLink (g : D → D → Option D) (fb : EF) (f : CF) : CF := fun a S => bnd (fb S) fun c => match g a c.1 with
  | some (.bl true) => f c.1 S
  | some (.bl false) => some (.ok false)
  | _ => none
def tCh (fa : EF) (f : CF) : TF := fun S => bnd (fa S) fun a => f a.1 S
end
@[simp] theorem cLast_R (g : D → D → Option D) (fc : EF) (a : D) (S : DSt) : cLast g fc a S = bnd (fc S) fun c => match g a c.1 with
  | some (.bl b) => some (.ok b)
  | _ => none := rfl
@[simp] theorem cLink_R (g : D → D → Option D) (fb : EF) (f : CF) (a : D) (S : DSt) : cLink g fb f a S = bnd (fb S) fun c => match g a c.1 with
  | some (.bl true) => f c.1 S
  | some (.bl false) => some (.ok false)
  | _ => none := rfl
@[simp] theorem tCh_R (fa : EF) (f : CF) (S : DSt) : tCh fa f S = bnd (fa S) fun a => f a.1 S := rfl
end L2
set_option Elab.async false
set_option linter.all false
set_option maxRecDepth 100000
namespace L2
open PySem PySem.Spec PyProof.Rows
abbrev TCv := V → TE
section
variable {X : Cx}
def PCv (X : Cx) (pos : Pos) (ops : List CmpOp) (rs : List (Sem Value)) (t : TCv) : Prop :=
  ∀ (pins : List (Addr × Obj)) (s : Shared) (σ : St) (H : Hp) (y : V) (u : Value) (Q : VK), Inv X pins σ H s → RelV y u → t y σ H Q →
    wpAny (model X.prog X.w) X.A (compareChain pos u ops rs) (EP X pins σ Q) X.xe s
def tCvL (r : R2) (tc : TE) : TCv := fun y σ H Q => tc σ H fun z H1 => r y z H1 Q
def tCvN (r : R2) (tb : TE) (t : TCv) : TCv := fun y σ H Q => tb σ H fun z H1 => r y z H1 fun d H2 => ∃ k, d = .bl k ∧ (if k = true then t z σ H2 Q else Q (.bl false) H2)
def tCvA (ta : TE) (t : TCv) : TE := fun σ H Q => ta σ H fun x H1 => t x σ H1 Q
end
section
variable {K : PySem.W.Frag} {G : List (Addr × HO)} {R : XR}
/-- a chain's rest tells a truth, and makes nothing -/
structure DCv (K : PySem.W.Frag) (G : List (Addr × HO)) (R : XR) (t : TCv) (f : CF) : Prop where
  ok : ∀ {H σ S L}, SR K G H σ S L → ∀ {lx : List Addr} {x : V} {a : D}, Rep K H lx x a → ∀ {b}, f a S = some (.ok b) → ∀ {Q : VK}, (∀ H', Same H H' → Q (.bl b) H') → t x σ H Q
  ex : ∀ {H σ S L}, SR K G H σ S L → ∀ {lx : List Addr} {x : V} {a : D}, Rep K H lx x a → ∀ {z}, f a S = some (.exc z) → ∀ {Q : VK}, (∀ H', Same H H' → R z σ H') → t x σ H Q
def eCh (fa : EF) (f : CF) : EF := fun S => bnd (tCh fa f S) fun b => some (.ok (.bl b, .bor []))
end
@[simp] theorem eCh_R (fa : EF) (f : CF) (S : DSt) : eCh fa f S = bnd (tCh fa f S) fun b => some (.ok (.bl b, .bor [])) := rfl
end L2
set_option Elab.async false
set_option linter.all false
set_option maxRecDepth 100000
namespace L2
open PySem PySem.Spec PyProof.Rows
section
variable {X : Cx}
/-- `not` of any value -/
def tNotT (K : PySem.W.Frag) (ta : TE) : TE := fun σ H Q => ta σ H fun x H1 => ∃ k, TruV K x H1 k ∧ Q (.bl (!k)) H1
end
section
variable {X : Cx} {cl : Nat → Addr} {R : XW} {k : Nat} {f C : Addr} {fd : FuncData} {ps : List Str} {sp : Sp} {x m : Str} {p pos apos : Pos} {e o : Expr} {es : List Expr} {ta : TE} {t : TA}
def tMethX (cl : Nat → Addr) (R : XW) (C : Addr) (m : Str) (sp : Sp) (ta : TE) (t : TA) : TE := fun σ H Q => ta σ H fun x H1 => ∃ a dx fs, x = .ref a ∧ H1 a = some (.ins C dx fs) ∧ fs.lookup m = none ∧
  t σ H1 fun vs H2 => sp (x :: vs) H2 Q (EX cl R σ)
def tMakeX (cl : Nat → Addr) (R : XW) (C : Addr) (sp : Sp) (t : TA) : TE := fun σ H Q => t σ H fun vs H1 => ∀ x dx, H1 x = none → H1 dx = none → dx ≠ x →
  sp (.ref x :: vs) (upd (upd H1 dx (.own x)) x (.ins C dx [])) (fun v H2 => v = .non ∧ Q (.ref x) H2) (EX cl R σ)
end
end L2
set_option Elab.async false
set_option linter.all false
set_option maxRecDepth 100000
namespace L2
open PySem PySem.Spec PyProof.Rows
section
variable {K : PySem.W.Frag} {G : List (Addr × HO)} {R : XR}
def eNotT (f : EF) : EF := fun S => bnd (f S) fun a => a.1.truth.map fun b => .ok (.bl (!b), .bor [])
@[simp] theorem eNotT_R (f : EF) (S : DSt) : eNotT f S = bnd (f S) fun a => a.1.truth.map fun b => .ok (.bl (!b), .bor []) := rfl
def fldN : List Str → List D → Str → Option D
  | n :: ns, d :: ds, f => if n = f then some d else fldN ns ds f
  | _, _, _ => none
def putN (f : Str) : List Str → List Str
  | [] => [f]
  | n :: ns => if n = f then n :: ns else n :: putN f ns
def putV (f : Str) (e : D) : List Str → List D → List D
  | n :: ns, d :: ds => if n = f then e :: ds else d :: putV f e ns ds
  | _, _ => [e]
theorem Reps.putF {H : Hp} {f : Str} {y : V} {e : D} {la : List Addr} (ry : Rep K H la y e) : ∀ {l : List Addr} (fs : List (Str × V)) {ds : List D}, Reps K H l (fs.map (·.2)) ds → ∃ m, Reps K H m ((L2.putF f y fs).map (·.2)) (putV f e (fs.map (·.1)) ds) ∧ (L2.putF f y fs).map (·.1) = putN f (fs.map (·.1)) ∧ (∀ a ∈ m, a ∈ l ∨ a ∈ la) ∧ ((l ++ la).Nodup → m.Nodup)
  | _, [], ds, r => by
    cases r
    refine ⟨la, ?_, rfl, fun a h => .inr h, fun h => by simpa using h⟩
    have := Reps.cons ry .nil
    rw [List.append_nil] at this
    exact this
  | _, (n, v) :: fs, ds, r => by
    cases r with
    | @cons l1 l2 _ _ d0 ds0 h0 r0 =>
      by_cases z : n = f
      · refine ⟨la ++ l2, ?_, ?_, fun a h => ?_, fun h => ?_⟩
        · have e1 : L2.putF f y ((n, v) :: fs) = (n, y) :: fs := by unfold L2.putF; rw [if_pos z]
          have e2 : putV f e (((n, v) :: fs).map (·.1)) (d0 :: ds0) = e :: ds0 := by
            show (if n = f then e :: ds0 else _) = _
            rw [if_pos z]
          rw [e1, e2]
          exact .cons ry r0
        · have e1 : L2.putF f y ((n, v) :: fs) = (n, y) :: fs := by unfold L2.putF; rw [if_pos z]
          rw [e1]
          show n :: fs.map (·.1) = (if n = f then _ else _)
          rw [if_pos z]
        · rcases List.mem_append.mp h with h | h
          · exact .inr h
          · exact .inl (List.mem_append.mpr (.inr h))
        · obtain ⟨h1, h2, h3⟩ := List.nodup_append.mp h
          obtain ⟨_, h5, _⟩ := List.nodup_append.mp h1
          exact List.nodup_append.mpr ⟨h2, h5, fun a ha b hb q => h3 b (List.mem_append.mpr (.inr hb)) a ha q.symm⟩
      · obtain ⟨m, q1, q2, q3, q4⟩ := Reps.putF ry fs r0
        refine ⟨l1 ++ m, ?_, ?_, fun a h => ?_, fun h => ?_⟩
        · have e1 : L2.putF f y ((n, v) :: fs) = (n, v) :: L2.putF f y fs := by conv => lhs; unfold L2.putF; rw [if_neg z]
          have e2 : putV f e (((n, v) :: fs).map (·.1)) (d0 :: ds0) = d0 :: putV f e (fs.map (·.1)) ds0 := by
            show (if n = f then _ else _) = _
            rw [if_neg z]
          rw [e1, e2]
          exact .cons h0 q1
        · have e1 : L2.putF f y ((n, v) :: fs) = (n, v) :: L2.putF f y fs := by conv => lhs; unfold L2.putF; rw [if_neg z]
          rw [e1]
          show n :: (L2.putF f y fs).map (·.1) = (if n = f then _ else _)
          rw [if_neg z, q2]
        · rcases List.mem_append.mp h with h | h
          · exact .inl (List.mem_append.mpr (.inl h))
          · rcases q3 a h with h | h
            · exact .inl (List.mem_append.mpr (.inr h))
            · exact .inr h
        · obtain ⟨h1, h2, h3⟩ := List.nodup_append.mp h
          obtain ⟨h4, h5, h6⟩ := List.nodup_append.mp h1
          refine List.nodup_append.mpr ⟨h4, q4 (List.nodup_append.mpr ⟨h5, h2, fun a ha b hb => h3 a (List.mem_append.mpr (.inr ha)) b hb⟩), fun a ha b hb => ?_⟩
          rcases q3 b hb with w | w
          · exact h6 a ha b w
          · exact h3 a (List.mem_append.mpr (.inl ha)) b w
/-- o.f -/
def gFld (c : Nat) (f : Str) : D × Kn → Option (D × Kn)
  | (.ins C ns ds, k) => if C = c then (fldN ns ds f).map fun d => (d, d.nk (match k with | .bor (_ :: _) => .weak | k => k)) else none
  | _ => none
def eFld (c : Nat) (f : Str) (g : EF) : EF := fun S => bnd (g S) fun a => (gFld c f a).map .ok
@[simp] theorem eFld_R (c : Nat) (f : Str) (g : EF) (S : DSt) : eFld c f g S = bnd (g S) fun a => (gFld c f a).map .ok := rfl
@[simp] theorem gFld_R (c : Nat) (f : Str) (ns : List Str) (ds : List D) (k : Kn) : gFld c f (.ins c ns ds, k) = (fldN ns ds f).map fun d => (d, d.nk (match k with | .bor (_ :: _) => .weak | k => k)) := by
  show (if c = c then _ else _) = _
  rw [if_pos rfl]
end
end L2
set_option Elab.async false
set_option linter.all false
set_option maxRecDepth 100000
namespace L2
open PySem PySem.Spec PyProof.Rows
section
variable {K : PySem.W.Frag} {G : List (Addr × HO)} {R : XR}
def ixS : List Str → Str → Option Nat
  | [], _ => none
  | n :: ns, f => if n = f then some 0 else (ixS ns f).map (· + 1)
def pFld (p : PF) (c : Nat) (f : Str) : PF := fun S => match p S with
  | some (i, π) => (match atP S i π with
    | some (.ins C ns ds) => if C = c then (ixS ns f).map fun n => (i, π ++ [n]) else none
    | _ => none)
  | none => none
@[simp] theorem pFld_R (p : PF) (c : Nat) (f : Str) (S : DSt) : pFld p c f S = match p S with
  | some (i, π) => (match atP S i π with
    | some (.ins C ns ds) => if C = c then (ixS ns f).map fun n => (i, π ++ [n]) else none
    | _ => none)
  | none => none := rfl
def sFldS (i c : Nat) (f : Str) (g : EF) : SF := fun S => match g S with
  | some (.ok (e, k)) => (match S[i]?, e.nk k with
    | some (some (true, .ins C ns ds)), .bor [] => if C = c ∧ ns.length < 1000 then some (.nx (S.set i (some (true, .ins C (putN f ns) (putV f e ns ds))))) else none
    | _, _ => none)
  | some (.exc x) => some (.ex x S)
  | none => none
@[simp] theorem sFldS_R (i c : Nat) (f : Str) (g : EF) (S : DSt) : sFldS i c f g S = match g S with
  | some (.ok (e, k)) => (match S[i]?, e.nk k with
    | some (some (true, .ins C ns ds)), .bor [] => if C = c ∧ ns.length < 1000 then some (.nx (S.set i (some (true, .ins C (putN f ns) (putV f e ns ds))))) else none
    | _, _ => none)
  | some (.exc x) => some (.ex x S)
  | none => none := rfl
/-- name.f += a whole number -/
def sFldA (i c : Nat) (f : Str) (g : EF) : SF := fun S => match S[i]? with
  | some (some (true, .ins C ns ds)) => (match fldN ns ds f, g S with
    | some (.int a), some (.ok (.int b, _)) => if C = c ∧ ns.length < 1000 then some (.nx (S.set i (some (true, .ins C (putN f ns) (putV f (.int (a + b)) ns ds))))) else none
    | some (.int _), some (.exc x) => if C = c then some (.ex x S) else none
    | _, _ => none)
  | _ => none
@[simp] theorem sFldA_R (i c : Nat) (f : Str) (g : EF) (S : DSt) : sFldA i c f g S = match S[i]? with
  | some (some (true, .ins C ns ds)) => (match fldN ns ds f, g S with
    | some (.int a), some (.ok (.int b, _)) => if C = c ∧ ns.length < 1000 then some (.nx (S.set i (some (true, .ins C (putN f ns) (putV f (.int (a + b)) ns ds))))) else none
    | some (.int _), some (.exc x) => if C = c then some (.ex x S) else none
    | _, _ => none)
  | _ => none := rfl
end
end L2
set_option Elab.async false
set_option linter.all false
set_option maxRecDepth 100000
namespace L2
open PySem PySem.Spec PyProof.Rows
section
variable {K : PySem.W.Frag} {G : List (Addr × HO)} {R : XR}
def eMeth (c : Nat) (m : Str) (F : FF) (g : EF) (f : AF) : EF := fun S => match g S with
  | some (.ok (.ins C ns ds, k)) => if C = c ∧ ixS ns m = none then bnd (f S) fun b => bnd (F (.ins C ns ds :: b.1)) fun r => some (.ok (r.1, callK (k.cat b.2) r.1 r.2)) else none
  | some (.exc x) => some (.exc x)
  | _ => none
@[simp] theorem eMeth_R (c : Nat) (m : Str) (F : FF) (g : EF) (f : AF) (S : DSt) : eMeth c m F g f S = match g S with
  | some (.ok (.ins C ns ds, k)) => if C = c ∧ ixS ns m = none then bnd (f S) fun b => bnd (F (.ins C ns ds :: b.1)) fun r => some (.ok (r.1, callK (k.cat b.2) r.1 r.2)) else none
  | some (.exc x) => some (.exc x)
  | _ => none := rfl
abbrev MF := D → List D → Option (D × D)
def spM (K : PySem.W.Frag) (G : List (Addr × HO)) (M : MF) : Sp := fun vs H Q E => ∃ v0 vs' d0 l0 ds l, vs = v0 :: vs' ∧ Rep K H l0 v0 d0 ∧ l0.Nodup ∧ Reps K H l vs' ds ∧ (∀ a ∈ l0, a ∉ l) ∧ (∀ p ∈ G, H p.1 = some p.2 ∧ mutO p.2 = false) ∧ match M d0 ds with
  | some (d1, r) => ∀ v H' l1 l', (∀ a o, H a = some o → (mutO o = false ∨ a ∉ l0) → H' a = some o) → Rep K H' l1 v0 d1 → l1.Nodup → (∀ a ∈ l1, H a = none ∨ a ∈ l0) → Rep K H' l' v r → l'.Nodup → (∀ a ∈ l', H a = none ∨ a ∈ l0) → (∀ a ∈ l', a ∉ l1) → Q v H'
  | none => False
def startM (m : Nat) (d : D) (ds : List D) : DSt := some (true, d) :: startD (m - 1) ds
def finM (n m : Nat) (f : SF) : MF := fun d ds => if ds.length + 1 = n then (match f (startM m d ds) with
  | some (.nx S) => (match S[0]? with | some (some (true, d1)) => some (d1, .non) | _ => none)
  | some (.rt r true S) => (match S[0]? with | some (some (true, d1)) => some (d1, r) | _ => none)
  | _ => none) else none
section
variable {P : Program} {w : World} {mg : Str → Option Value} {base : Heap}
end
def okK (i : Nat) : Kn → Bool
  | .bor is => !is.contains i
  | .safe => true
  | .weak => false
/-- the object and the answer behind name.m(..) -/
def methD (i c : Nat) (m : Str) (M : MF) (f : AF) (S : DSt) : Option (Rs (D × D)) := match S[i]? with
  | some (some (true, .ins C ns ds)) => if C = c ∧ ixS ns m = none then (match f S with
    | some (.ok (as, k)) => if okK i k then (M (.ins C ns ds) as).map .ok else none
    | some (.exc x) => some (.exc x)
    | none => none) else none
  | _ => none
/-- name.m(..) alone -/
def sMeth (i c : Nat) (m : Str) (M : MF) (f : AF) : SF := fun S => match methD i c m M f S with
  | some (.ok (d1, _)) => some (.nx (S.set i (some (true, d1))))
  | some (.exc x) => some (.ex x S)
  | none => none
/-- return name.m(..) -/
def sMethR (i c : Nat) (m : Str) (M : MF) (f : AF) : SF := fun S => match methD i c m M f S with
  | some (.ok (d1, r)) => some (.rt r true (S.set i (some (true, d1))))
  | some (.exc x) => some (.ex x S)
  | none => none
/-- x = name.m(..) -/
def sMethA (j i c : Nat) (m : Str) (M : MF) (f : AF) : SF := fun S => match methD i c m M f S with
  | some (.ok (d1, r)) => if j = i then none else some (.nx ((S.set i (some (true, d1))).set j (some (!r.nl, r))))
  | some (.exc x) => some (.ex x S)
  | none => none
def eMake (c : Nat) (M : MF) (f : AF) : EF := fun S => bnd (f S) fun a => match M (.ins c [] []) a.1 with
  | some (d1, .non) => some (.ok (d1, .bor []))
  | _ => none
@[simp] theorem eMake_R (c : Nat) (M : MF) (f : AF) (S : DSt) : eMake c M f S = bnd (f S) fun a => match M (.ins c [] []) a.1 with
  | some (d1, .non) => some (.ok (d1, .bor []))
  | _ => none := rfl
end
end L2
set_option Elab.async false
set_option linter.all false
set_option maxRecDepth 100000
namespace L2
open PySem PySem.Spec PyProof.Rows
section
variable {K : PySem.W.Frag} {G : List (Addr × HO)} {R : XR}
def sSwap (j i c : Nat) (f : Str) (g : EF) : SF := fun S => match S[i]? with
  | some (some (true, .ins C ns ds)) => (match fldN ns ds f, g (S.set j none) with
    | some old, some (.ok (e, k)) => (match e.nk k with
      | .bor [] => if j ≠ i ∧ C = c ∧ ns.length < 1000 then some (.nx (((S.set j none).set i (some (true, .ins C (putN f ns) (putV f e ns ds)))).set j (some (true, old)))) else none
      | _ => none)
    | _, _ => none)
  | _ => none
@[simp] theorem sSwap_R (j i c : Nat) (f : Str) (g : EF) (S : DSt) : sSwap j i c f g S = match S[i]? with
  | some (some (true, .ins C ns ds)) => (match fldN ns ds f, g (S.set j none) with
    | some old, some (.ok (e, k)) => (match e.nk k with
      | .bor [] => if j ≠ i ∧ C = c ∧ ns.length < 1000 then some (.nx (((S.set j none).set i (some (true, .ins C (putN f ns) (putV f e ns ds)))).set j (some (true, old)))) else none
      | _ => none)
    | _, _ => none)
  | _ => none := rfl
end
end L2
set_option Elab.async false
set_option linter.all false
set_option maxRecDepth 100000
namespace L2
open PySem PySem.Spec PyProof.Rows PySem.W
section
variable {K K' : Frag} (S : SubK K K')
include S
end
def insB (K : Frag) (C : Addr) : Bool := plainGet K C Str.empty && hasDictIn K C && plainOver K C && (findIn K (.ref C) "__setattr__" == some (some (.builtin "object.__setattr__"))) && makesIn K C && keepIn K (.ref C)
def nofB (K : Frag) (C : Addr) (fs : List Str) : Bool := fs.all fun f => findIn K (.ref C) f == some none
section
variable {K : Frag} {h : Heap} {tabs : List Addr}
end
end L2
set_option Elab.async false
set_option linter.all false
set_option maxRecDepth 100000
namespace L2
open PySem PySem.Spec PyProof.Rows
section
variable {K : PySem.W.Frag} {G : List (Addr × HO)} {R : XR}
def PN (pf : PF) (i0 : Nat) : Prop := ∀ S i π, pf S = some (i, π) → i = i0
def sForP (pf : PF) (g : GF) (b : SF) : SF := fun S => match pf S with
  | some (i, π) => (match S[i]?, atP S i π with
    | some (some (true, d)), some (.lst ds) => if D.nl.nls ds then backS i d (forD g b ds (drops [i] S)) else none
    | _, _ => none)
  | none => none
variable {X : Cx} {ts : List Nat}
end
end L2
set_option Elab.async false
set_option linter.all false
set_option maxRecDepth 100000
namespace L2
open PySem PySem.Spec PyProof.Rows
section
variable {X : Cx}
/-- sorted(xs), of whole numbers, as many as there may be -/
def rSortA (K : PySem.W.Frag) : List V → Hp → VK → Prop := fun vs H Q => ∃ (a : Addr) (ns : List Int), vs = [V.ref a] ∧ SqL K H a (ns.map V.int) ∧ ns.length ≤ sizeLine ∧
  ∀ (ns' : List Int) (p : Addr), ns'.Perm ns → ns'.Pairwise (· ≤ ·) → H p = none → Q (.ref p) (upd H p (.lst (ns'.map V.int)))
end
section
variable {K : PySem.W.Frag} {G : List (Addr × HO)} {R : XW}
def sortI (ns : List Int) : List Int := ns.mergeSort (fun a b => decide (a ≤ b))
def gSort : List D × Kn → Option (D × Kn)
  | ([.lst ds], _) => match numsD ds with
    | some ns => if ns.length ≤ sizeLine then some (.lst ((sortI ns).map D.int), .bor []) else none
    | none => none
  | _ => none
abbrev eSortL : AF → EF := eCB gSort
@[simp] theorem gSort_R (ns : List Int) (k : Kn) : gSort ([.lst (ns.map D.int)], k) = if ns.length ≤ sizeLine then some (.lst ((sortI ns).map D.int), .bor []) else none := by
  show (match numsD (ns.map D.int) with | some ns => if ns.length ≤ sizeLine then some (D.lst ((sortI ns).map D.int), Kn.bor []) else none | none => none) = _
  rw [ints_map]
end
end L2
set_option Elab.async false
set_option linter.all false
set_option maxRecDepth 100000
namespace L2
open PySem PySem.Spec PyProof.Rows
section
variable {X : Cx} {pins : List (Addr × Obj)} {σ : St} {H : Hp} {s : Shared} {a : Addr} {A : Around} {E : Value → Shared → Prop}
end
section
variable {X : Cx}
/-- [elt for target in iter if ..]: D the new list; W by the turn and a measure, Nx what a turn is to reach -/
def tDc (wi : TI) (g : TG) (tt : TT) (tk tv : TE) (vs : List Nat) : TE := fun σ H Q => wi σ H fun J H1 => ∀ D, H1 D = none → ∃ W : Nat → Nat → Hp → Prop, (∃ m, W 0 m (upd H1 D (.dK []))) ∧ ∀ i m H, W i m H →
  (J.stop i H ∧ Q (.ref D) H) ∨ (J.go i H ∧ ∃ Nx : Hp → Prop, (∀ H', Nx H' → ∃ m', m' < m ∧ W (i + 1) m' H') ∧ ∀ x H', J.yld i H x H' → g x (wipe σ vs) H' fun σ2 H2 => wipe σ2 vs = wipe σ vs ∧ tt σ2 H2 fun b H3 =>
    if b = true then tk σ2 H3 fun y H4 => tv σ2 H4 fun z H5 => ∃ kvs k, H5 D = some (.dK kvs) ∧ y = kV k ∧ kvs.length < sizeLine ∧ Nx (upd H5 D (.dK (putK kvs k z))) else Nx H3)
end
end L2
set_option Elab.async false
set_option linter.all false
set_option maxRecDepth 100000
namespace L2
open PySem PySem.Spec PyProof.Rows
section
variable {X : Cx}
def rInD (neg : Bool) : R2 := fun x y H Q => ∃ a kvs k, y = .ref a ∧ H a = some (.dK kvs) ∧ x = kV k ∧ Q (.bl (if neg then !(valV kvs k).isSome else (valV kvs k).isSome)) H
def rUpdate : V → List V → Hp → VK → Prop := fun x vs H Q => ∃ a b kvs more, x = .ref a ∧ vs = [.ref b] ∧ H a = some (.dK kvs) ∧ H b = some (.dK more) ∧ a ≠ b ∧ kvs.length + more.length ≤ sizeLine ∧ Q .non (upd H a (.dK (mergeK kvs more)))
end
def keyD : D → Option Key
  | .int i => some (.inl i) | .str x => some (.inr x) | _ => none
def gInK (neg : Bool) (a b : D) : Option D := match b with
  | .dct ks _ => (keyD a).map fun k => .bl (if neg then !(ks.any fun q => decide (q = k)) else ks.any fun q => decide (q = k))
  | _ => none
abbrev eInK : EF → EF → EF := eTwo (g0 (gInK false))
abbrev eNotInK : EF → EF → EF := eTwo (g0 (gInK true))
def putZ (acc : List Int) (n : Int) : List Int := if acc.any (fun m => decide (m = n)) then acc else acc ++ [n]
def dsT (ns : List Int) : D := .dct (ns.map .inl) (ns.map fun _ => .bl true)
def kvT (ns : List Int) : List (Key × V) := ns.map fun n => (.inl n, .bl true)
def tsL : List Key → List D → Option (List Int)
  | [], [] => some []
  | .inl n :: ks, .bl true :: ds => (tsL ks ds).map (n :: ·)
  | _, _ => none
def tsD : D → Option (List Int)
  | .dct ks ds => tsL ks ds
  | _ => none
@[simp] theorem tsD_R : ∀ ns : List Int, tsD (dsT ns) = some ns
  | [] => rfl
  | n :: ns => by
    have := tsD_R ns
    show (tsL (ns.map .inl) (ns.map fun _ => .bl true)).map (n :: ·) = _
    rw [show tsL (ns.map .inl) (ns.map fun _ => .bl true) = some ns from this]
    rfl
section
variable {K : PySem.W.Frag} {G : List (Addr × HO)} {R : XR}
/-- {} -/
def eDNew : EF := fun _ => some (.ok (.dct [] [], .bor []))
/-- {key: True for target in iter if ..} -/
def dcD (g : GF) (ft : TF) (fk : EF) (S : DSt) : List D → List Int → Option (List Int)
  | [], acc => some acc
  | d :: ds, acc => match g d .safe S with
    | none => none
    | some S1 => match ft S1 with
      | some (.ok true) => (match fk S1 with
        | some (.ok (.int n, _)) => if acc.length < sizeLine then dcD g ft fk S ds (putZ acc n) else none
        | _ => none)
      | some (.ok false) => dcD g ft fk S ds acc
      | _ => none
def eDc (fi : IF) (g : GF) (ft : TF) (fk : EF) (vs : List Nat) : EF := fun S => bnd (fi S) fun ds =>
  if vs.all fun i => !ownAt S i then (dcD g ft fk (wipeD S vs) ds []).map fun r => .ok (dsT r, .bor []) else none
/-- place.update(dict) -/
def sUpd (p : PF) (f : AF) : SF := fun S => match p S with
  | some (i, π) => (match atP S i π, f S with
    | some c, some (.ok ([b], .bor is)) => (match tsD c, tsD b with
      | some ns, some ms => if is.contains i then none else if ns.length + ms.length ≤ sizeLine then putP S i π (.bor []) (dsT (ms.foldl putZ ns)) else none
      | _, _ => none)
    | _, _ => none)
  | none => none
end
end L2
set_option Elab.async false
set_option linter.all false
set_option maxRecDepth 100000
namespace L2
open PySem PySem.Spec PyProof.Rows
def lcMD (i v c : Nat) (m : Str) (M : MF) (f : AF) : DSt → List D → List D → Option (DSt × List D)
  | S, [], acc => some (S, acc)
  | S, x :: xs, acc => if x.nl then (match methD i c m M f (S.set v (some (false, x))) with
    | some (.ok (d1, r)) => if r.nl && decide (acc.length < sizeLine) then lcMD i v c m M f (S.set i (some (true, d1))) xs (acc ++ [r]) else none
    | _ => none) else none
def sLcM (j i v c : Nat) (m : Str) (M : MF) (fi : IF) (f : AF) : SF := fun S => match S[v]? with
  | some none => if v = i ∨ j = i ∨ j = v then none else (match fi S with
    | some (.ok ds) => (match lcMD i v c m M f S ds [] with
      | some (S', as) => some (.nx (S'.set j (some (true, .lst as))))
      | none => none)
    | _ => none)
  | _ => none
section
variable {K : PySem.W.Frag} {G : List (Addr × HO)} {R : XR}
end
end L2
set_option Elab.async false
set_option linter.all false
set_option maxRecDepth 100000
namespace L2
open PySem PySem.Spec PyProof.Rows
section
variable {pr : Program} {wd : World} {B : Around} {Er : Value → Shared → Prop} {z : Shared} {ty : String} {src own : Addr} {k : Nat} {It : Nat → Value → Prop} {Good : Heap → Prop}
end
section
variable {X : Cx} {pins : List (Addr × Obj)} {σ : St} {H : Hp} {s : Shared} {a : Addr} {A : Around} {E : Value → Shared → Prop}
/-- sorted(d), every value True -/
def rSortD : List V → Hp → VK → Prop := fun vs H Q => ∃ (a : Addr) (ns : List Int), vs = [V.ref a] ∧ H a = some (.dK (kvT ns)) ∧ ns.length ≤ sizeLine ∧
  ∀ (ns' : List Int) (p : Addr), ns'.Perm ns → ns'.Pairwise (· ≤ ·) → H p = none → Q (.ref p) (upd H p (.lst (ns'.map V.int)))
end
end L2
set_option Elab.async false
set_option linter.all false
set_option maxRecDepth 100000
namespace L2
open PySem PySem.Spec PyProof.Rows
section
variable {K : PySem.W.Frag} {G : List (Addr × HO)} {R : XR}
def gSortD : List D × Kn → Option (D × Kn)
  | ([d], _) => match tsD d with
    | some ns => if ns.length ≤ sizeLine then some (.lst ((sortI ns).map D.int), .bor []) else none
    | none => none
  | _ => none
abbrev eSortD : AF → EF := eCB gSortD
@[simp] theorem gSortD_R (ns : List Int) (k : Kn) : gSortD ([dsT ns], k) = if ns.length ≤ sizeLine then some (.lst ((sortI ns).map D.int), .bor []) else none := by
  show (match tsD (dsT ns) with | some ns => if ns.length ≤ sizeLine then some (D.lst ((sortI ns).map D.int), Kn.bor []) else none | none => none) = _
  rw [tsD_R]
/-- {e: True} -/
def eDisp1 (f : EF) : EF := fun S => bnd (f S) fun a => match a.1 with
  | .int n => some (.ok (dsT [n], .bor []))
  | _ => none
/-- place[e] = True -/
def sPutT (p : PF) (f : EF) : SF := fun S => match p S with
  | some (i, π) => (match atP S i π, f S with
    | some c, some (.ok (.int n, _)) => (match tsD c with
      | some ns => if ns.length < sizeLine then putP S i π (.bor []) (dsT (putZ ns n)) else none
      | none => none)
    | _, _ => none)
  | none => none
end
section
variable {X : Cx}
end
section
variable {K : PySem.W.Frag} {G : List (Addr × HO)} {R : XR}
def gRange1 : List D × Kn → Option (D × Kn)
  | ([.int j], _) => some (.rng 0 j, .bor [])
  | _ => none
abbrev eRange1 : AF → EF := eCB gRange1
@[simp] theorem gRange1_R (j : Int) (k : Kn) : gRange1 ([.int j], k) = some (.rng 0 j, .bor []) := rfl
end
end L2
set_option Elab.async false
set_option linter.all false
set_option maxRecDepth 100000
namespace L2
open PySem PySem.Spec PyProof.Rows
section
variable {K : PySem.W.Frag} {G : List (Addr × HO)} {R : XR}
/-- where a whole number stands first in a list -/
def ixOf (ns : List Int) (n : Int) : Option Nat := match ns with
  | [] => none
  | m :: ms => if m = n then some 0 else (ixOf ms n).map (· + 1)
theorem ixOf_some : ∀ {ns : List Int} {n : Int} {j : Nat}, ixOf ns n = some j → ns[j]? = some n ∧ ∀ i m, i < j → ns[i]? = some m → m ≠ n
  | [], n, j, h => by cases h
  | m :: ms, n, j, h => by
    unfold ixOf at h
    split at h
    · rename_i e
      cases h
      exact ⟨by rw [e]; rfl, fun i m hi => by omega⟩
    · rename_i e
      cases h2 : ixOf ms n with
      | none => rw [h2] at h; cases h
      | some i =>
        rw [h2] at h; cases h
        obtain ⟨a1, a2⟩ := ixOf_some h2
        refine ⟨a1, fun k x hk hx => ?_⟩
        cases k with
        | zero => cases hx; exact e
        | succ k => exact a2 k x (by have : k + 1 < i + 1 := hk; omega) hx
/-- xs.index(n), of whole numbers -/
def eIndexL (g : EF) (f : AF) : EF := fun S => match g S with
  | some (.ok (.lst ds, _)) => (match f S with
    | some (.ok ([.int n], _)) => (match numsD ds with
      | some ns => (ixOf ns n).map fun j => .ok (.int (j : Nat), .bor [])
      | none => none)
    | _ => none)
  | _ => none
theorem de_indexL {to : TE} {t : TA} {g : EF} {f : AF} (hg : DE K G R to g) (ha : DA K G R t f) : DE K G R (tBM K "list" (rIndex K) to t) (eIndexL g f) where
  ok := by
    intro H σ S L s d k e Q q
    unfold eIndexL at e
    split at e
    · rename_i ds kg e1
      split at e
      · rename_i n kf e2
        split at e
        · rename_i ns e3
          cases e4 : ixOf ns n with
          | none => rw [e4] at e; cases e
          | some j =>
            rw [e4] at e; cases e
            refine hg.ok s e1 fun x H1 l s1 r1 k1 => ?_
            obtain ⟨p, vs, m, rfl, hp, rp, rfl⟩ := r1.lstI
            refine ⟨.inl ⟨rfl, vs, SqL.of hp⟩, ?_⟩
            refine ha.ok (s.same s1) e2 fun xs H2 la s2 ra ka => ?_
            obtain ⟨y, rfl, ry⟩ := ra.one
            obtain ⟨rfl, _⟩ := ry.intI
            rw [ints_some e3] at rp
            obtain ⟨rfl, rfl⟩ := rp.intsI
            obtain ⟨a1, a2⟩ := ixOf_some e4
            refine ⟨p, ns.map V.int, .int n, j, .int n, rfl, rfl, SqL.of (s2 _ _ hp), rfl, ?_, ?_, ?_, fun i z hi hz => ?_, q (.int (j : Nat)) H2 [] (s1.trans s2) (.int _) (KP.nil _)⟩
            · rw [List.all_map]
              exact List.all_eq_true.mpr fun _ _ => rfl
            · rw [List.getElem?_map, a1]; rfl
            · show (n == n) = true
              simp
            · rw [List.getElem?_map] at hz
              cases e5 : ns[i]? with
              | none => rw [e5] at hz; cases hz
              | some u =>
                rw [e5] at hz; cases hz
                have := a2 i u hi e5
                show (u == n) = false
                simpa using this
        · cases e
      · cases e
    · cases e
  ex := by
    intro H σ S L s x e Q q
    unfold eIndexL at e
    split at e
    · split at e
      · split at e
        · rename_i ns _
          rename_i n _ _ _ _
          revert e
          cases ixOf ns _ <;> intro e <;> cases e
        · cases e
      · cases e
    · cases e
end
theorem mtIx {X : Cx} (K : PySem.W.Frag) (h : X.K = K) : MtR X "list.index" (rIndex K) := by subst h; exact mt_index
end L2
set_option Elab.async false
set_option linter.all false
set_option maxRecDepth 100000
namespace L2
open PySem PySem.Spec PyProof.Rows
abbrev MEF := DSt → Option (DSt × D)
abbrev MTF := DSt → Option (DSt × Bool)
section
variable {K : PySem.W.Frag} {G : List (Addr × HO)} {R : XR}
structure DEM (K : PySem.W.Frag) (G : List (Addr × HO)) (te : TE) (f : MEF) : Prop where
  run : ∀ {H : Hp} {σ : St} {S : DSt} {L : Nat → List Addr}, SR K G H σ S L → ∀ {S' : DSt} {d : D}, f S = some (S', d) → ∀ {Q : VK},
    (∀ v H' L' l, SR K G H' σ S' L' → Mv H S L H' S' L' → Rep K H' l v d → l.Nodup → (∀ a ∈ l, H a = none ∨ OwnN S L a) → (∀ a ∈ l, ¬ AnyN S' L' a) → Q v H') → te σ H Q
structure DTM (K : PySem.W.Frag) (G : List (Addr × HO)) (tt : TT) (f : MTF) : Prop where
  run : ∀ {H : Hp} {σ : St} {S : DSt} {L : Nat → List Addr}, SR K G H σ S L → ∀ {S' : DSt} {b : Bool}, f S = some (S', b) → ∀ {Q : Bool → Hp → Prop},
    (∀ H' L', SR K G H' σ S' L' → Mv H S L H' S' L' → Q b H') → tt σ H Q
def mMeth (i c : Nat) (m : Str) (M : MF) (f : AF) : MEF := fun S => match methD i c m M f S with
  | some (.ok (d1, r)) => some (S.set i (some (true, d1)), r)
  | _ => none
def mCall (i : Nat) (M : MF) (f : AF) : MEF := fun S => match S[i]? with
  | some (some (true, d0)) => (match f S with
    | some (.ok (as, k)) => if okK i k then (M d0 as).map fun r => (S.set i (some (true, r.1)), r.2) else none
    | _ => none)
  | _ => none
def mLcM (i v c : Nat) (m : Str) (M : MF) (fi : IF) (f : AF) : MEF := fun S => match S[v]? with
  | some none => if v = i then none else (match fi S with
    | some (.ok ds) => (match lcMD i v c m M f S ds [] with
      | some (S', as) => some (S', .lst as)
      | none => none)
    | _ => none)
  | _ => none
def mLcO (h : MEF) (gf : GF) (ft : TF) (fe : EF) (vs : List Nat) : MEF := fun S => match h S with
  | some (S', .lst ds) => if D.nl.nls ds && vs.all (fun i => !ownAt S' i) then (match lcD gf ft fe (wipeD S' vs) ds [] (.bor []) with
    | some (as, .bor []) => some (S', .lst as)
    | _ => none) else none
  | _ => none
def sDropM (h : MEF) : SF := fun S => (h S).map fun r => .nx r.1
def sAsgM (j : Nat) (h : MEF) : SF := fun S => (h S).map fun r => .nx (r.1.set j (some (!r.2.nl, r.2)))
def sRetM (h : MEF) : SF := fun S => (h S).map fun r => .rt r.2 true r.1
def sIfM (h : MTF) (f g : SF) : SF := fun S => match h S with
  | some (S', true) => f S'
  | some (S', false) => g S'
  | none => none
def mNe (h : MEF) (g : EF) : MTF := fun S => match h S with
  | some (S', d) => (match g S' with
    | some (.ok (e, _)) => (gEqB d e).map fun c => (S', !c)
    | _ => none)
  | none => none
def mOr (h : MTF) (g : TF) : MTF := fun S => match h S with
  | some (S', true) => some (S', true)
  | some (S', false) => (match g S' with
    | some (.ok b) => some (S', b)
    | _ => none)
  | none => none
end
section
variable {K : PySem.W.Frag} {G : List (Addr × HO)} {R : XR} {X : Cx} {ts : List Nat}
end
end L2
set_option Elab.async false
set_option linter.all false
set_option maxRecDepth 100000
namespace L2
open PySem PySem.Spec PyProof.Rows
def forDM (j : Nat) (b : SF) : List D → DSt → Option SO
  | [], S => some (.nx S)
  | d :: ds, S => match b (S.set j (some (!d.nl, d))) with
    | some (.nx S2) => forDM j b ds S2
    | some (.ct S2) => forDM j b ds S2
    | some (.bk S2) => some (.nx S2)
    | some (.rt d fr S2) => some (.rt d fr S2)
    | some (.ex x S2) => some (.ex x S2)
    | none => none
def sForM (i j : Nat) (b : SF) : SF := fun S => match S[i]? with
  | some (some (true, .lst ds)) => if j = i then none else forDM j b ds (S.set i none)
  | _ => none
section
variable {K : PySem.W.Frag} {G : List (Addr × HO)} {R : XR}
theorem Reps.cut1 {H : Hp} {l : List Addr} {v : V} {vs : List V} {d : D} {ds : List D} (r : Reps K H l (v :: vs) (d :: ds)) : ∃ l1 l2, l = l1 ++ l2 ∧ Rep K H l1 v d ∧ Reps K H l2 vs ds := by
  cases r with
  | cons h h' => exact ⟨_, _, rfl, h, h'⟩
theorem ds_forM {tb : TS} {i j : Nat} {tc : List Nat} {b : SF} (hb : DS K G R tc tb b) : DS K G R (j :: tc) (tFor (iAny K (tVar i)) (gName j) tb) (sForM i j b) := ⟨fun {H σ S L o} s e D p => by
  unfold sForM at e
  split at e
  · rename_i ds hS
    split at e
    · cases e
    · rename_i hji
      obtain ⟨v, hv, rv⟩ := s.rep i _ _ hS
      obtain ⟨q, vs, m, rfl, hq, rq, hL⟩ := rv.lstI
      have nd := s.own i _ hS
      rw [hL] at nd
      have nd := List.nodup_cons.mp nd
      have s0 := s.drops [i]
      have e0 : drops [i] S = S.set i none := rfl
      rw [e0] at s0
      have ownI : ∀ a, a ∈ q :: m → OwnN S L a := fun a ha => ⟨i, _, hS, by rw [hL]; exact ha⟩
      have noI : ∀ a, a ∈ q :: m → ¬ AnyN (S.set i none) L a := fun a ha w => by
        obtain ⟨k, c, ek, h1, h2⟩ := w
        rw [← e0] at h1
        obtain ⟨h3, h4⟩ := drops_get h1
        exact s.sep i k _ _ _ hS h3 (fun z => h4 (by simp [z])) a (by rw [hL]; exact ha) h2
      have mv0 : Mv H S L H (S.set i none) L := by rw [← e0]; exact Mv.drops [i]
      refine .inl ⟨_, hv, q, rfl, ⟨vs, SqL.of hq⟩, ?_⟩
      refine ⟨fun n mm σ' H' => mm = ds.length - n ∧ n ≤ ds.length ∧ ∃ S' L' l, SR K G H' σ' S' L' ∧ Mv H S L H' S' L' ∧ H' q = some (.lst vs) ∧ ¬ AnyN S' L' q ∧ q ∉ l ∧ Reps K H' l (vs.drop n) (ds.drop n) ∧ l.Nodup ∧ (∀ a ∈ l, ¬ AnyN S' L' a) ∧ (∀ a ∈ l, a ∈ m) ∧ Out (j :: tc) σ σ' ∧ forDM j b (ds.drop n) S' = some o,
        ⟨ds.length, by simp, Nat.zero_le _, S.set i none, L, m, s0, mv0, hq, noI q (by simp), nd.1, by simpa using rq, nd.2, fun a ha => noI a (by simp [ha]), fun a ha => ha, .refl, by simpa using e⟩, ?_⟩
      rintro n mm σ' H' ⟨rfl, hil, S', L', l, s', mv, hq', nq, ql, rr, ln, lno, lm, ou, e'⟩
      have vl : vs.length = ds.length := rq.len
      by_cases hlt : n < ds.length
      · obtain ⟨d, hd⟩ : ∃ d, ds[n]? = some d := ⟨ds[n], List.getElem?_eq_getElem hlt⟩
        obtain ⟨x, hx⟩ : ∃ x, vs[n]? = some x := ⟨vs[n]'(by omega), List.getElem?_eq_getElem (by omega)⟩
        rw [drop_get hd] at e'
        rw [drop_get hd, drop_get hx] at rr
        obtain ⟨l1, l2, rfl, r1, r2⟩ := rr.cut1
        have ln := List.nodup_append.mp ln
        refine .inr ⟨⟨vs, x, SqL.of hq', hx⟩, fun σ2 H2 => n + 1 ≤ ds.length ∧ ∃ S' L' l, SR K G H2 σ2 S' L' ∧ Mv H S L H2 S' L' ∧ H2 q = some (.lst vs) ∧ ¬ AnyN S' L' q ∧ q ∉ l ∧ Reps K H2 l (vs.drop (n + 1)) (ds.drop (n + 1)) ∧ l.Nodup ∧ (∀ a ∈ l, ¬ AnyN S' L' a) ∧ (∀ a ∈ l, a ∈ m) ∧ Out (j :: tc) σ σ2 ∧ forDM j b (ds.drop (n + 1)) S' = some o, fun σ2 H2 z => ⟨ds.length - (n + 1), by omega, rfl, z⟩, fun y H3 yx => ?_⟩
        obtain ⟨rfl, yx⟩ := yx
        have := yx vs (SqL.of hq')
        rw [hx] at this
        cases this
        show tb _ (σ'.set j (some x)) H3
        have s1 := s'.put (i := j) (b := !d.nl) r1 (fun _ => ⟨ln.1, fun a h k c e _ h2 h3 => lno a (by simp [h]) ⟨k, c, e, h2, h3⟩⟩) (fun a h k e _ h2 h3 => lno a (by simp [h]) ⟨k, true, e, h2, h3⟩)
        have own1 : ∀ a, OwnN (S'.set j (some (!d.nl, d))) (putL L' j l1) a → a ∈ l1 ∨ OwnN S' L' a := fun a w => w.put.imp_left And.left
        have any1 : ∀ a, AnyN (S'.set j (some (!d.nl, d))) (putL L' j l1) a → a ∈ l1 ∨ AnyN S' L' a := fun a w => w.put
        have dj : ∀ a, a ∈ l1 → a ∈ l2 → False := fun a h1 h2 => ln.2.2 a h1 a h2 rfl
        have ou1 : Out (j :: tc) σ (σ'.set j (some x)) := fun k hk => by
          rw [List.getElem?_set_ne (by simpa using fun z : j = k => hk (by simp [z]))]
          exact ou k hk
        have mvx : ∀ {H5 S2 L5}, Mv H3 (S'.set j (some (!d.nl, d))) (putL L' j l1) H5 S2 L5 → Mv H S L H5 S2 L5 := fun {H5 S2 L5} m5 => by
          refine ⟨fun a ob h z => m5.keep a ob (mv.keep a ob h z) (z.imp_right fun z w => ?_), fun a w => ?_, fun a w => ?_⟩
          · rcases own1 a w with h1 | h1
            · exact z (ownI a (by simp [lm a (by simp [h1])]))
            · rcases mv.own a h1 with h2 | h2
              · rw [h] at h2; cases h2
              · exact z h2
          · rcases m5.own a w with h1 | h1
            · by_cases oo : OwnN S L a
              · exact .inr oo
              · cases hh : H a with
                | none => exact .inl rfl
                | some ob =>
                  have := mv.keep a ob hh (.inr oo)
                  rw [h1] at this; cases this
            · rcases own1 a h1 with h1 | h1
              · exact .inr (ownI a (by simp [lm a (by simp [h1])]))
              · exact mv.own a h1
          · rcases m5.any a w with h1 | h1
            · by_cases oo : OwnN S L a
              · exact .inr oo.any
              · cases hh : H a with
                | none => exact .inl rfl
                | some ob =>
                  have := mv.keep a ob hh (.inr oo)
                  rw [h1] at this; cases this
            · rcases any1 a h1 with h1 | h1
              · exact .inr (ownI a (by simp [lm a (by simp [h1])])).any
              · exact mv.any a h1
        have outx : ∀ a, (a = q ∨ a ∈ l2) → ∀ {H5 S2 L5}, Mv H3 (S'.set j (some (!d.nl, d))) (putL L' j l1) H5 S2 L5 → (∃ ob, H3 a = some ob) → ¬ AnyN S2 L5 a := fun a ha {H5 S2 L5} m5 ⟨ob, hob⟩ w => by
          rcases m5.any a w with h1 | h1
          · rw [hob] at h1; cases h1
          · rcases any1 a h1 with h1 | h1
            · rcases ha with rfl | ha
              · exact ql (by simp [h1])
              · exact dj a h1 ha
            · rcases ha with rfl | ha
              · exact nq h1
              · exact lno a (by simp [ha]) h1
        have next : ∀ {H5 σ5 S2 L5}, SR K G H5 σ5 S2 L5 → Mv H3 (S'.set j (some (!d.nl, d))) (putL L' j l1) H5 S2 L5 → Out tc (σ'.set j (some x)) σ5 → forDM j b (ds.drop (n + 1)) S2 = some o → n + 1 ≤ ds.length ∧ ∃ S' L' l, SR K G H5 σ5 S' L' ∧ Mv H S L H5 S' L' ∧ H5 q = some (.lst vs) ∧ ¬ AnyN S' L' q ∧ q ∉ l ∧ Reps K H5 l (vs.drop (n + 1)) (ds.drop (n + 1)) ∧ l.Nodup ∧ (∀ a ∈ l, ¬ AnyN S' L' a) ∧ (∀ a ∈ l, a ∈ m) ∧ Out (j :: tc) σ σ5 ∧ forDM j b (ds.drop (n + 1)) S' = some o := fun {H5 σ5 S2 L5} s5 m5 w5 e5 => by
          have kq : H5 q = some (.lst vs) := m5.keep q _ hq' (.inr fun w => by
            rcases own1 q w with h1 | h1
            · exact ql (by simp [h1])
            · exact nq h1.any)
          refine ⟨hlt, S2, L5, l2, s5, mvx m5, kq, outx q (.inl rfl) m5 ⟨_, hq'⟩, fun h => ql (by simp [h]), r2.keep fun a ob h z => m5.keep a ob h ?_, ln.2.1, fun a ha => outx a (.inr ha) m5 (by obtain ⟨ob, ho, _⟩ := r2.dom a ha; exact ⟨ob, ho⟩), fun a ha => lm a (by simp [ha]), fun k hk => ?_, e5⟩
          · rcases z with z | z
            · right
              intro w
              rcases own1 a w with h1 | h1
              · exact dj a h1 z
              · exact lno a (by simp [z]) h1.any
            · exact .inl z
          · rw [w5 k fun z => hk (by simp [z])]
            exact ou1 k hk
        unfold forDM at e'
        have fin : ∀ {H5 σ5 L5 S2}, SR K G H5 σ5 S2 L5 → Mv H3 (S'.set j (some (!d.nl, d))) (putL L' j l1) H5 S2 L5 → Out tc (σ'.set j (some x)) σ5 → Out (j :: tc) σ σ5 := fun _ _ w5 k hk => by
          rw [w5 k fun z => hk (by simp [z])]
          exact ou1 k hk
        cases e3 : b (S'.set j (some (!d.nl, d))) with
        | none => rw [e3] at e'; cases e'
        | some o1 =>
          rw [e3] at e'
          refine hb.run s1 e3 ?_
          cases o1 with
          | nx S2 => exact fun H5 σ5 L5 s5 m5 w5 => next s5 m5 w5 e'
          | ct S2 => exact fun H5 σ5 L5 s5 m5 w5 => next s5 m5 w5 e'
          | bk S2 => cases e'; exact fun H5 σ5 L5 s5 m5 w5 => p H5 σ5 L5 s5 (mvx m5) (fin s5 m5 w5)
          | rt d2 fr S2 =>
            cases e'
            intro v2 H5 σ5 L5 l5 s5 m5 w5 r5 t5
            refine p v2 H5 σ5 L5 l5 s5 (mvx m5) (fin s5 m5 w5) r5 ?_
            have conv : ∀ a, H3 a = none → H a = none ∨ OwnN S L a := fun a h1 => by
              by_cases oo : OwnN S L a
              · exact .inr oo
              · cases hh : H a with
                | none => exact .inl rfl
                | some ob =>
                  have := mv.keep a ob hh (.inr oo)
                  rw [h1] at this; cases this
            refine ⟨fun a ha => ?_, fun hf => ?_⟩
            · rcases t5.any a ha with h1 | h1
              · exact (conv a h1).imp_right OwnN.any
              · rcases any1 a h1 with h1 | h1
                · exact .inr (ownI a (by simp [lm a (by simp [h1])])).any
                · exact mv.any a h1
            · obtain ⟨f1, f2, f3⟩ := t5.fr hf
              refine ⟨f1, fun a ha => ?_, f3⟩
              rcases f2 a ha with h1 | h1
              · exact conv a h1
              · rcases own1 a h1 with h1 | h1
                · exact .inr (ownI a (by simp [lm a (by simp [h1])]))
                · exact mv.own a h1
          | ex x2 S2 => cases e'; exact fun H5 σ5 L5 s5 m5 w5 => p H5 σ5 L5 s5 (mvx m5) (fin s5 m5 w5)
      · have : n = ds.length := by omega
        subst this
        rw [List.drop_length] at e'
        cases e'
        exact .inl ⟨⟨vs, SqL.of hq', by omega⟩, p H' σ' L' s' mv ou⟩
  · cases e⟩
end
section
variable {K : PySem.W.Frag} {G : List (Addr × HO)} {R : XR} {X : Cx} {ts : List Nat}
theorem cs_forM {tg iter : Expr} {body : List Stmt} {pos : Pos} {i j : Nat} {f : SF} (ts1 : List Nat) (hc : X.calm = true) (hi : PI X tg iter (iAny K (tVar i))) (hg : PG X tg (gName j)) (hj : j ∈ ts) (hp : PassesOwn (model X.prog X.w) X.A X.env X.xe) (hs : ∀ x, foldedSetIterable iter X.env x = pure x) (h1 : ∀ k ∈ ts1, k ∈ ts) (h : ∃ t, PSs X body t ∧ DS K G R ts1 t f) : ∃ t, PS X (.For tg iter body [] pos) t ∧ DS K G R ts t (sForM i j f) :=
  let ⟨_, a, b⟩ := h; ⟨_, ps_for hp hc hi hg a hs, (ds_forM b).mono fun k hk => (List.mem_cons.mp hk).elim (fun z => z ▸ hj) (h1 k)⟩
end
end L2
set_option Elab.async false
set_option linter.all false
set_option maxRecDepth 100000
set_option maxHeartbeats 4000000
namespace K33
open PySem L2
def f__law_form : SF :=
  (sRet (eTup (aCons (eAdd (eC (.int 2)) (eMod (eVar 0) (eC (.int 15)))) (aCons (eIx (eLst (aK [.str "none", .str "even", .str "odd"])) (eMod (eDiv (eVar 0) (eC (.int 15))) (eC (.int 3)))) aNil))))
def F__law_form : FF := finF 1 1 f__law_form
def f__law_stir : SF :=
  (sSeq (sAsg (eMul (eAdd (eAdd (eMod (eVar 0) (ePow (eC (.int 10)) (eC (.int 60)))) (eMul (eC (.int 7919)) (eVar 1))) (eC (.int 1))) (eC (.int 27182818284590452353602874713527))) (aName 2))
  (sSeq (sAsg (eMod (eVar 2) (eC (.int 170141183460469231731687303715884105727))) (aName 2))
  (sRet (eDiv (eMod (ePow (eAdd (ePow (eVar 2) (eC (.int 5))) (eMul (eC (.int 48271)) (eVar 1))) (eC (.int 3))) (eC (.int 162259276829213363391578010288127))) (eC (.int 7))))))
def F__law_stir : FF := finF 2 3 f__law_stir
def f__law_drawn : SF :=
  (sSeq (sAsg (eLst aNil) (aName 2))
  (sSeq (sAsg (eVar 0) (aName 3))
  (sSeq (sFor (iRg rg1 (aCons (eLen (aCons (eVar 1) aNil)) aNil)) (aName 4) (sIf (tOrD (tB1 (eLt (eVar 0) (ePow (eC (.int 10)) (eC (.int 18))))) (tB1 (eEq (eVar 3) (eC (.int 0))))) (sApp (pName 2) (aCons (eMod (eCall F__law_stir (aCons (eVar 0) (aCons (eVar 4) aNil))) (eIx (eVar 1) (eVar 4))) aNil)) (sSeq (sApp (pName 2) (aCons (eMod (eVar 3) (eIx (eVar 1) (eVar 4))) aNil))
  (sAsg (eDiv (eVar 3) (eIx (eVar 1) (eVar 4))) (aName 3)))))
  (sRet (eVar 2)))))
def F__law_drawn : FF := finF 2 5 f__law_drawn
def f__law_cell_at : SF :=
  (sSeq (sIf (tB1 (eLt (eVar 1) (eLen (aCons (eVar 0) aNil)))) (sRet (eIx (eVar 0) (eVar 1))) sNext)
  (sRet (eC (.int 0))))
def F__law_cell_at : FF := finF 2 2 f__law_cell_at
def f__law_words : SF :=
  (sSeq (sAsg (eCall F__law_drawn (aCons (eVar 1) (aCons (eAdd (eLst (aCons (eC (.int 12)) aNil)) (eMul (eLst (aCons (eShl (eC (.int 1)) (eC (.int 16))) (aCons (eC (.int 7)) aNil))) (eC (.int 12)))) aNil))) (aName 2))
  (sSeq (sAsg (eShl (eC (.int 1)) (eIx (eVar 0) (eC (.int 0)))) (aName 3))
  (sSeq (sAsg (eLst aNil) (aName 4))
  (sSeq (sFor (iRg rg1 (aCons (eAdd (eC (.int 1)) (eIx (eVar 2) (eC (.int 0)))) aNil)) (aName 5) (sSeq (sAsg (eMod (eIx (eVar 2) (eAdd (eMul (eC (.int 2)) (eVar 5)) (eC (.int 1)))) (eVar 3)) (aName 6))
  (sSeq (sAsg (eIx (eAdd (eVar 4) (eLst (aCons (eVar 6) aNil))) (eNeg (eC (.int 1)))) (aName 7))
  (sSeq (sAsg (eLst (aCons (eVar 6) (aCons (eVar 6) (aCons (eC (.int 0)) (aCons (eSub (eVar 3) (eC (.int 1))) (aCons (eVar 7) (aCons (eMod (eAdd (eMul (eC (.int 2)) (eVar 7)) (eC (.int 1))) (eVar 3)) (aCons (eAdd (eDiv (eVar 7) (eC (.int 2))) (eDiv (eVar 3) (eC (.int 2)))) aNil)))))))) (aName 8))
  (sApp (pName 4) (aCons (eIx (eVar 8) (eIx (eVar 2) (eAdd (eMul (eC (.int 2)) (eVar 5)) (eC (.int 2))))) aNil))))))
  (sRet (eVar 4))))))
def F__law_words : FF := finF 2 9 f__law_words
def f__law_levels : SF :=
  (sSeq (sAsg (eLc (iRg rg1 (aCons (eIx (eVar 0) (eC (.int 0))) aNil)) (aName 4) tYesD (eAndB (eShr (eVar 1) (eVar 4)) (eC (.int 1))) [4]) (aName 2))
  (sSeq (sAsg (eLst aNil) (aName 3))
  (sSeq (sIf (tB1 (eNe (eIx (eVar 0) (eC (.int 1))) (eC (.str "none")))) (sAsg (eLst (aCons (eMod (eAdd (eSum (aCons (eVar 2) aNil)) (eInt (aCons (eEq (eIx (eVar 0) (eC (.int 1))) (eC (.str "odd"))) aNil))) (eC (.int 2))) aNil)) (aName 3)) sNext)
  (sRet (eAdd (eAdd (eAdd (eLst (aCons (eC (.int 0)) aNil)) (eVar 2)) (eVar 3)) (eLst (aCons (eC (.int 1)) aNil)))))))
def F__law_levels : FF := finF 2 5 f__law_levels
def f_is_whole : SF :=
  (sRet (eAndV (eIsi (aCons (eVar 0) (aCons (eC (.ty "int")) aNil))) (eNotV (eIsi (aCons (eVar 0) (aCons (eC (.ty "bool")) aNil))))))
def F_is_whole : FF := finF 1 1 f_is_whole
def f_is_word : SF :=
  (sRet (eAndV (eCall F_is_whole (aCons (eVar 1) aNil)) (eChain (gI fun i j => .bl (decide (i ≤ j))) (gI fun i j => .bl (decide (i < j))) (eC (.int 0)) (eVar 1) (eShl (eC (.int 1)) (eIx (eVar 0) (eC (.int 0)))))))
def F_is_word : FF := finF 2 2 f_is_word
def f_check_level : SF :=
  (sSeq (sAsg (eSum (aCons (eVar 1) aNil)) (aName 2))
  (sRet (eIf (tB1 (eEq (eVar 0) (eC (.str "even")))) (eAndB (eVar 2) (eC (.int 1))) (eSub (eC (.int 1)) (eAndB (eVar 2) (eC (.int 1)))))))
def F_check_level : FF := finF 2 3 f_check_level
def f_levels_of : SF :=
  (sSeq (sAsg (eVar 0) (aTup 2 (aConss (aName 2) (aConss (aName 3) aNils))))
  (sSeq (sIf (tNotD (tTr (eCall F_is_word (aCons (eVar 0) (aCons (eVar 1) aNil))))) (sRaise 0) sNext)
  (sSeq (sAsg (eLc (iRg rg1 (aCons (eVar 2) aNil)) (aName 5) tYesD (eAndB (eShr (eVar 1) (eVar 5)) (eC (.int 1))) [5]) (aName 4))
  (sSeq (sIf (tB1 (eEq (eVar 3) (eC (.str "none")))) (sRet (eLst (aCons (eC (.int 0)) (aStar (eVar 4) (aCons (eC (.int 1)) aNil))))) sNext)
  (sRet (eLst (aCons (eC (.int 0)) (aStar (eVar 4) (aCons (eCall F_check_level (aCons (eVar 3) (aCons (eVar 4) aNil))) (aCons (eC (.int 1)) aNil))))))))))
def F_levels_of : FF := finF 2 6 f_levels_of
def f_round_levels : SF :=
  (sRet (eLc2 (iOfC (eVar 1)) (aName 2) tYesD (iOfC (eCall F_levels_of (aCons (eVar 0) (aCons (eVar 2) aNil)))) (aName 3) tYesD (eVar 3) [2, 3] [3]))
def F_round_levels : FF := finF 2 4 f_round_levels
def f_start_from : SF :=
  (sSeq (sWhile (fun _ => 1000000000) (tOrD (tB1 (eEq (eIx (eVar 0) (eMod (eVar 1) (eLen (aCons (eVar 0) aNil)))) (eC (.int 1)))) (tB1 (eEq (eVar 2) (eC (.int 0))))) (sSeq (sAsg (eIx (eVar 0) (eMod (eVar 1) (eLen (aCons (eVar 0) aNil)))) (aName 2))
  (sAug (gI fun i j => .int (i + j)) 1 (eC (.int 1)))))
  (sRet (eVar 1)))
def F_start_from : FF := finF 3 3 f_start_from
def f_least_first : SF :=
  (sSeq (sAsg (eIndexL (eVar 0) (aCons (eMinL (aCons (eVar 0) aNil)) aNil)) (aName 1))
  (sRet (eAdd (eSl (eVar 0) (oSome (eVar 1)) oNone) (eSl (eVar 0) oNone (oSome (eVar 1))))))
def F_least_first : FF := finF 1 2 f_least_first
def f_join_at : SF :=
  (sSeq (sAsg (eLst aNil) (aName 3))
  (sSeq (sAsg (eCall F_start_from (aCons (eVar 0) (aCons (eVar 2) (aCons (eC (.int 1)) aNil)))) (aName 4))
  (sSeq (sWhile (fun _ => 1000000000) (tB1 (eNe (eMod (eVar 4) (eVar 1)) (eC (.int 0)))) (sSeq (sAsg (eMod (eVar 4) (eLen (aCons (eVar 0) aNil))) (aName 5))
  (sSeq (sIf (tB1 (eIn (eVar 5) (eVar 3))) (sRet (eTup (aCons (eC (.str "never")) (aCons (eCall F_least_first (aCons (eSl (eVar 3) (oSome (eIndexL (eVar 3) (aCons (eVar 5) aNil))) oNone) aNil)) aNil)))) sNext)
  (sSeq (sApp (pName 3) (aCons (eVar 5) aNil))
  (sSeq (sAsg (eIx (eVar 0) (eMod (eSub (eAdd (eVar 4) (eVar 1)) (eC (.int 1))) (eLen (aCons (eVar 0) aNil)))) (aName 6))
  (sAsg (eCall F_start_from (aCons (eVar 0) (aCons (eAdd (eVar 4) (eVar 1)) (aCons (eVar 6) aNil)))) (aName 4)))))))
  (sRet (eTup (aCons (eC (.str "in")) (aCons (eSub (eVar 4) (eVar 2)) aNil)))))))
def F_join_at : FF := finF 3 7 f_join_at
def f_size_of : SF :=
  (sSeq (sAsg (eVar 0) (aTup 2 (aConss (aName 1) (aConss (aName 2) aNils))))
  (sRet (eIf (tB1 (eEq (eVar 2) (eC (.str "none")))) (eAdd (eVar 1) (eC (.int 2))) (eAdd (eVar 1) (eC (.int 3))))))
def F_size_of : FF := finF 1 3 f_size_of
def f_joins : SF :=
  (sSeq (sAsg (eCall F_round_levels (aCons (eVar 0) (aCons (eVar 1) aNil))) (aName 2))
  (sRet (eLc (iRg rg1 (aCons (eLen (aCons (eVar 2) aNil)) aNil)) (aName 3) tYesD (eCall F_join_at (aCons (eVar 2) (aCons (eCall F_size_of (aCons (eVar 0) aNil)) (aCons (eVar 3) aNil)))) [3])))
def F_joins : FF := finF 2 4 f_joins
def f__law_begin_from : SF :=
  (sSeq (sWhile (fun _ => 1000000000) (tNotD (tAndD (tB1 (eEq (eVar 2) (eC (.int 1)))) (tB1 (eEq (eIx (eVar 0) (eMod (eVar 1) (eLen (aCons (eVar 0) aNil)))) (eC (.int 0)))))) (sSeq (sAsg (eIx (eVar 0) (eMod (eVar 1) (eLen (aCons (eVar 0) aNil)))) (aName 2))
  (sAsg (eAdd (eVar 1) (eC (.int 1))) (aName 1))))
  (sRet (eVar 1)))
def F__law_begin_from : FF := finF 3 3 f__law_begin_from
def f__law_join : SF :=
  (sSeq (sAsg (eLst aNil) (aName 3))
  (sSeq (sAsg (eCall F__law_begin_from (aCons (eVar 0) (aCons (eVar 2) (aCons (eC (.int 1)) aNil)))) (aName 4))
  (sSeq (sFor (iRg rg1 (aCons (eAdd (eLen (aCons (eVar 0) aNil)) (eC (.int 1))) aNil)) (aName 5) (sSeq (sIf (tB1 (eEq (eMod (eVar 4) (eVar 1)) (eC (.int 0)))) (sRet (eTup (aCons (eC (.str "in")) (aCons (eSub (eVar 4) (eVar 2)) aNil)))) sNext)
  (sSeq (sApp (pName 3) (aCons (eMod (eVar 4) (eLen (aCons (eVar 0) aNil))) aNil))
  (sSeq (sAsg (eAdd (eVar 4) (eVar 1)) (aName 9))
  (sAsg (eCall F__law_begin_from (aCons (eVar 0) (aCons (eVar 9) (aCons (eIx (eVar 0) (eMod (eSub (eVar 9) (eC (.int 1))) (eLen (aCons (eVar 0) aNil)))) aNil)))) (aName 4))))))
  (sSeq (sAsg (eIx (eVar 3) (eNeg (eC (.int 1)))) (aName 6))
  (sSeq (sAsg (eLst (aCons (eVar 6) aNil)) (aName 7))
  (sSeq (sFor (iOf (eSl (eRv (eVar 3) (oSome (eNeg (eC (.int 1))))) (oSome (eC (.int 1))) oNone)) (aName 8) (sSeq (sIf (tB1 (eEq (eVar 8) (eVar 6))) (sSeq (sAsg (eIndexL (eVar 7) (aCons (eMinL (aCons (eVar 7) aNil)) aNil)) (aName 10))
  (sRet (eTup (aCons (eC (.str "never")) (aCons (eAdd (eSl (eVar 7) (oSome (eVar 10)) oNone) (eSl (eVar 7) oNone (oSome (eVar 10)))) aNil))))) sNext)
  (sAsg (eAdd (eLst (aCons (eVar 8) aNil)) (eVar 7)) (aName 7))))
  (sRet (eC .non))))))))
def F__law_join : FF := finF 3 11 f__law_join
def f__law_whole : SF :=
  (sRet (eAndV (eIsi (aCons (eVar 0) (aCons (eC (.ty "int")) aNil))) (eNotV (eIsi (aCons (eVar 0) (aCons (eC (.ty "bool")) aNil))))))
def F__law_whole : FF := finF 1 1 f__law_whole
def f_law : SF :=
  (sSeq (sFor (iRg rg3 (aK [.int 0, .int 8, .int 2])) (aName 1) (sSeq (sAsg (eCall F__law_form (aCons (eIx (eCall F__law_drawn (aCons (eAdd (eCall F__law_cell_at (aCons (eVar 0) (aCons (eVar 1) aNil))) (eVar 1)) (aCons (eLst (aCons (eC (.int 45)) aNil)) aNil))) (eC (.int 0))) aNil)) (aName 2))
  (sSeq (sAsg (eCall F__law_words (aCons (eVar 2) (aCons (eAdd (eCall F__law_cell_at (aCons (eVar 0) (aCons (eAdd (eVar 1) (eC (.int 1))) aNil))) (eVar 1)) aNil))) (aName 3))
  (sSeq (sAsg (eLst aNil) (aName 4))
  (sSeq (sForA 3 (aName 5) (sAsg (eAdd (eVar 4) (eCall F__law_levels (aCons (eVar 2) (aCons (eVar 5) aNil)))) (aName 4)))
  (sSeq (sAsg (eList (aCons (eVar 3) aNil)) (aName 6))
  (sSeq (sAsg (eCall F_round_levels (aCons (eVar 2) (aCons (eVar 6) aNil))) (aName 7))
  (sSeq (sIf (tOrD (tNotD (tTr (eIsi (aCons (eVar 7) (aCons (eC (.ty "list")) aNil))))) (tB1 (eNe (eVar 7) (eVar 4)))) (sRet (eC (.bl false))) sNext)
  (sSeq (sRev (pName 7))
  (sSeq (sAsg (eCall F_joins (aCons (eVar 2) (aCons (eVar 6) aNil))) (aName 8))
  (sSeq (sAsg (eLc (iRg rg1 (aCons (eLen (aCons (eVar 4) aNil)) aNil)) (aName 11) tYesD (eCall F__law_join (aCons (eVar 4) (aCons (eDiv (eLen (aCons (eVar 4) aNil)) (eLen (aCons (eVar 3) aNil))) (aCons (eVar 11) aNil)))) [11]) (aName 9))
  (sSeq (sIf (tOrD (tNotD (tTr (eIsi (aCons (eVar 8) (aCons (eC (.ty "list")) aNil))))) (tOrD (tB1 (eNe (eVar 8) (eVar 9))) (tB1 (eNe (eVar 6) (eVar 3))))) (sRet (eC (.bl false))) sNext)
  (sSeq (sForM 8 10 (sSeq (sIf (tOrD (tNotD (tTr (eIsi (aCons (eVar 10) (aCons (eC (.ty "tuple")) aNil))))) (tAndD (tB1 (eEq (eIx (eVar 10) (eC (.int 0))) (eC (.str "in")))) (tNotD (tTr (eCall F__law_whole (aCons (eIx (eVar 10) (eC (.int 1))) aNil)))))) (sRet (eC (.bl false))) sNext)
  (sIf (tB1 (eEq (eIx (eVar 10) (eC (.int 0))) (eC (.str "never")))) (sApp (pIx (pName 10) (eC (.int 1))) (aCons (eC (.int 0)) aNil)) sNext)))
  (sIf (tB1 (eNe (eCall F_joins (aCons (eVar 2) (aCons (eVar 6) aNil))) (eVar 9))) (sRet (eC (.bl false))) sNext))))))))))))))
  (sRet (eC (.bl true))))
def F_law : FF := finF 1 12 f_law
end K33
set_option Elab.async false
set_option linter.all false
set_option maxRecDepth 100000
set_option maxHeartbeats 4000000
namespace K33
open PySem L2
section
def szM (b : Nat) (c : Str) : Nat := if c = "none" then b + 2 else b + 3
theorem getD_range_map (f : Nat → Int) (n k : Nat) (h : k < n) : ((List.range n).map f).getD k 0 = f k := by
  rw [List.getD_eq_getElem?_getD, List.getElem?_map, List.getElem?_range h]; rfl
theorem stir_s1 {c k : Int} (h0 : 0 ≤ k) (h1 : k ≤ 1000) : small (c % 10 ^ 60 + 7919 * k + 1) = true := by
  have a : 0 ≤ c % 10 ^ 60 := Int.emod_nonneg _ (by decide)
  have b : c % 10 ^ 60 < 10 ^ 60 := Int.emod_lt_of_pos _ (by decide)
  exact small_mid (by omega) (by omega)
theorem stirN_bits (c k : Int) : Builtin.Int.intBits (stirN c k) ≤ 127 := by
  obtain ⟨a, b⟩ := stirN_in c k
  refine intBits_le_iff.mpr ?_
  have e2 : (2 : Nat) ^ 127 = 170141183460469231731687303715884105728 := by decide
  rw [e2]
  omega
theorem stir_s2 (c k : Int) : small (stirN c k) = true := decide_eq_true (Nat.lt_of_lt_of_le (intBits_le_iff.mp (stirN_bits c k)) (Nat.pow_le_pow_right (by decide) (by decide)))
theorem stir_s3 {c k : Int} (h0 : 0 ≤ k) (h1 : k ≤ 1000) : small (stirN c k ^ 5 + 48271 * k) = true := by
  have a := intBits_pow_le (stirN_bits c k) 5
  have b : Builtin.Int.intBits (48271 * k) ≤ 64 := intBits_le_64 (by omega) (by omega)
  exact decide_eq_true (intBits_le_iff.mp (Nat.le_trans (intBits_add_le a b) (by decide)))
theorem pow_ok {i j : Int} {k k' : Kn} (h : small i = true) (h0 : 0 ≤ j) (h1 : j ≤ 100) : g0 (gIc (fun i j => 0 ≤ j ∧ j ≤ 100 ∧ small i = true) fun i j => D.int (i ^ j.toNat)) (.int i, k) (.int j, k') = some (.int (i ^ j.toNat), .bor []) := by
  show ((if _ then _ else _) : Option D).map _ = _
  rw [if_pos ⟨h0, h1, h⟩]; rfl
theorem stir_eq {c k : Int} (h0 : 0 ≤ k) (h1 : k ≤ 1000) : F__law_stir [.int c, .int k] = some (.ok (.int (stir c k), true)) := by
  have a := gMul_small (.bor []) (.bor []) (stir_s1 (c := c) h0 h1) (show small 27182818284590452353602874713527 = true by decide +kernel)
  have b : gMul (.int 7919, .bor []) (.int k, .safe) = some (.int (7919 * k), .bor []) := gMul_mid _ _ (by decide) (by decide) (by omega) (by omega)
  have b' : gMul (.int 48271, .bor []) (.int k, .safe) = some (.int (48271 * k), .bor []) := gMul_mid _ _ (by decide) (by decide) (by omega) (by omega)
  have s10 : small 10 = true := by decide +kernel
  have s7 : small 7 = true := by decide +kernel
  refine finF_rt (S := [some (false, .int c), some (false, .int k), some (false, .int (stirN c k))]) rfl ?_
  have e1 := pow_ok (k := .bor []) (k' := .bor []) (i := 10) (j := 60) s10 (by decide) (by decide)
  have e2 := pow_ok (k := .safe) (k' := .bor []) (j := 5) (stir_s2 c k) (by decide) (by decide)
  have e3 := pow_ok (k := .bor []) (k' := .bor []) (j := 3) (stir_s3 (c := c) h0 h1) (by decide) (by decide)
  have t1 : sAsg (eMul (eAdd (eAdd (eMod (eVar 0) (ePow (eC (.int 10)) (eC (.int 60)))) (eMul (eC (.int 7919)) (eVar 1))) (eC (.int 1))) (eC (.int 27182818284590452353602874713527))) (aName 2) [some (false, .int c), some (false, .int k), none] = some (.nx [some (false, .int c), some (false, .int k), some (false, .int ((c % 10 ^ 60 + 7919 * k + 1) * 27182818284590452353602874713527))]) := by
    simp only [sAsg_R, eTwo_R, eVar_R, eC_R, g_zero, g_succ, bnd_okR, e1, b, Option.map, Int.reduceToNat]
    rw [g0_R, gIc_R, if_pos (by decide)]
    simp only [Option.map, bnd_okR, gAdd_i, a, aName_R, nl_int, if_true, List.set]
  have t2 : sAsg (eMod (eVar 2) (eC (.int 170141183460469231731687303715884105727))) (aName 2) [some (false, .int c), some (false, .int k), some (false, .int ((c % 10 ^ 60 + 7919 * k + 1) * 27182818284590452353602874713527))] = some (.nx [some (false, .int c), some (false, .int k), some (false, .int (stirN c k))]) := by
    simp only [sAsg_R, eTwo_R, eVar_R, eC_R, g_zero, g_succ, bnd_okR, Option.map]
    rw [g0_R, gIc_R, if_pos (by decide)]
    simp only [Option.map, aName_R, nl_int, if_true, List.set]
    rfl
  have t3 : sRet (eDiv (eMod (ePow (eAdd (ePow (eVar 2) (eC (.int 5))) (eMul (eC (.int 48271)) (eVar 1))) (eC (.int 3))) (eC (.int 162259276829213363391578010288127))) (eC (.int 7))) [some (false, .int c), some (false, .int k), some (false, .int (stirN c k))] = some (.rt (.int (stir c k)) true [some (false, .int c), some (false, .int k), some (false, .int (stirN c k))]) := by
    simp only [sRet_R, eTwo_R, eVar_R, eC_R, g_zero, g_succ, bnd_okR, e2, b', Option.map, Int.reduceToNat, gAdd_i, e3]
    rw [g0_R, gIc_R, if_pos (by decide)]
    simp only [Option.map, bnd_okR]
    rw [g0_R, gIc_R, if_pos ⟨by decide, s7⟩]
    simp only [Option.map, nl_int, if_true]
    rfl
  unfold f__law_stir
  show sSeq _ _ [some (false, .int c), some (false, .int k), none] = _
  rw [sSeq_R, t1]
  show sSeq _ _ _ = _
  rw [sSeq_R, t2]
  exact t3
structure SzOk (sizes : List Int) : Prop where
  len : sizes.length ≤ 1000
  pos : ∀ i, i < sizes.length → 0 < sizes.getD i 1
  big : ∀ i, i < sizes.length → small (sizes.getD i 1) = true
theorem atI_nn {α : Type} {xs : List α} {i : Nat} (h : i < xs.length) : atI xs (i : Int) = some xs[i] := by
  unfold atI ixN
  rw [if_pos (by omega), if_pos (by omega)]
  simp [h]
theorem atI_int {ns : List Int} {i : Nat} (h : i < ns.length) : atI (ns.map D.int) (i : Int) = some (.int (ns.getD i 1)) := by
  rw [atI_nn (by simpa using h)]
  simp [List.getD_eq_getElem?_getD, h]
theorem drawn_eq {c : Int} {sizes : List Int} (h : SzOk sizes) : F__law_drawn [.int c, .lst (sizes.map .int)] = some (.ok (.lst ((drawn c sizes).map .int), true)) := by
  have hl := h.len
  refine fin_re rfl ?_
  unfold f__law_drawn
  refine re_seq (go_to (S := [some (false, .int c), some (false, .lst (sizes.map .int)), some (true, .lst []), none, none]) (by simp) ?_)
  refine re_seq (go_to (S := [some (false, .int c), some (false, .lst (sizes.map .int)), some (true, .lst []), some (false, .int c), none]) (by simp) ?_)
  refine re_seq (sFor_go (ds := rangeD 0 sizes.length) (by simp (disch := omega) [ifp]) ?_)
  refine (for_inv (fun i S => ∃ v, S = [some (false, .int c), some (false, .lst (sizes.map .int)), some (true, .lst ((drSt c sizes i).1.map .int)), some (false, .int (drSt c sizes i).2), v]) ⟨none, rfl⟩ ?_).imp ?_
  · rintro i d S hd ⟨v, rfl⟩
    obtain ⟨hi, rfl⟩ := rangeD_get hd
    have hi : i < sizes.length := by omega
    have hp := h.pos i hi
    have hb := h.big i hi
    have hlen := drSt_len c sizes i
    have hat := atI_int hi
    obtain ⟨sz, hsz⟩ : ∃ sz, sizes.getD i 1 = sz := ⟨_, rfl⟩
    rw [hsz] at hp hb hat
    have ej : (0 : Int) + (i : Nat) = (i : Nat) := Int.zero_add _
    rw [ej]
    refine ⟨[some (false, .int c), some (false, .lst (sizes.map .int)), some (true, .lst ((drSt c sizes i).1.map .int)), some (false, .int (drSt c sizes i).2), some (false, .int (i : Nat))], by simp, ?_⟩
    have hst := stir_eq (c := c) (k := (i : Nat)) (by omega) (by omega)
    have test : tOrD (tB1 (eLt (eVar 0) (ePow (eC (.int 10)) (eC (.int 18))))) (tB1 (eEq (eVar 3) (eC (.int 0)))) [some (false, .int c), some (false, .lst (sizes.map .int)), some (true, .lst ((drSt c sizes i).1.map .int)), some (false, .int (drSt c sizes i).2), some (false, .int (i : Nat))] = some (.ok (decide (c < 10 ^ 18 ∨ (drSt c sizes i).2 = 0))) := by
      have e18 : (10 : Int) ^ 18 = 1000000000000000000 := by decide
      rw [e18]
      by_cases z : c < 1000000000000000000
      · simp (disch := omega) [z, small_mid, ifp]
      · by_cases y : (drSt c sizes i).2 = 0
        · simp (disch := omega) [z, y, small_mid, ifp]
        · simp (disch := omega) [z, y, small_mid, ifp]
    rw [sIf_R, test]
    by_cases z : c < 10 ^ 18 ∨ (drSt c sizes i).2 = 0
    · rw [decide_eq_true z]
      refine go_to (S := [some (false, .int c), some (false, .lst (sizes.map .int)), some (true, .lst ((drSt c sizes (i + 1)).1.map .int)), some (false, .int (drSt c sizes (i + 1)).2), some (false, .int (i : Nat))]) ?_ ⟨_, rfl⟩
      show sApp _ _ _ = _
      have e : drSt c sizes (i + 1) = ((drSt c sizes i).1 ++ [stir c i % sz], (drSt c sizes i).2) := by rw [← hsz]; exact if_pos z
      rw [e]
      simp (disch := omega) [hat, hst, ifp, hlen]
    · rw [decide_eq_false z]
      refine go_seq (go_to (S := [some (false, .int c), some (false, .lst (sizes.map .int)), some (true, .lst (((drSt c sizes i).1 ++ [(drSt c sizes i).2 % sz]).map .int)), some (false, .int (drSt c sizes i).2), some (false, .int (i : Nat))]) ?_ ?_)
      · simp (disch := omega) [hat, ifp, hlen]
      · refine go_to (S := [some (false, .int c), some (false, .lst (sizes.map .int)), some (true, .lst ((drSt c sizes (i + 1)).1.map .int)), some (false, .int (drSt c sizes (i + 1)).2), some (false, .int (i : Nat))]) ?_ ⟨_, rfl⟩
        have e : drSt c sizes (i + 1) = ((drSt c sizes i).1 ++ [(drSt c sizes i).2 % sz], (drSt c sizes i).2 / sz) := by rw [← hsz]; exact if_neg z
        rw [e]
        simp (disch := omega) [hat, ifp, hb, hp]
  · rintro S ⟨v, rfl⟩
    rw [rangeD_len]
    refine ⟨[some (false, .int c), some (false, .lst (sizes.map .int)), none, some (false, .int (drSt c sizes ((sizes.length : Int) - 0).toNat).2), v], ?_⟩
    rw [show ((sizes.length : Int) - 0).toNat = sizes.length by omega]
    simp
    rfl
structure FormOk (b : Int) (c : Str) : Prop where
  b0 : 2 ≤ b
  b1 : b ≤ 16
  cc : c = "none" ∨ c = "even" ∨ c = "odd"
theorem law_form_eq {n : Int} (h : 0 ≤ n) : ∃ b c, F__law_form [.int n] = some (.ok (.tup [.int b, .str c], true)) ∧ FormOk b c := by
  have h3 : n / 15 % 3 = 0 ∨ n / 15 % 3 = 1 ∨ n / 15 % 3 = 2 := by omega
  have key : ∀ c : Str, (atI [D.str "none", D.str "even", D.str "odd"] (n / 15 % 3)) = some (.str c) → F__law_form [.int n] = some (.ok (.tup [.int (2 + n % 15), .str c], true)) := fun c hc => by
    refine fin_re rfl ?_
    unfold f__law_form Re
    simp (disch := decide) [hc, small_mid]
  refine ⟨2 + n % 15, ?_⟩
  rcases h3 with h3 | h3 | h3
  · exact ⟨"none", key _ (by rw [h3]; rfl), by omega, by omega, .inl rfl⟩
  · exact ⟨"even", key _ (by rw [h3]; rfl), by omega, by omega, .inr (.inl rfl)⟩
  · exact ⟨"odd", key _ (by rw [h3]; rfl), by omega, by omega, .inr (.inr rfl)⟩
def szI (b : Int) (c : Str) : Int := if c = "none" then b + 2 else b + 3
theorem size_of_eq (b : Int) (c : Str) : F_size_of [.tup [.int b, .str c]] = some (.ok (.int (szI b c), true)) := by
  refine fin_re rfl ?_
  unfold f_size_of Re szI
  by_cases h : c = "none" <;> simp [h]
theorem FormOk.sz {b : Int} {c : Str} (h : FormOk b c) : 4 ≤ szI b c ∧ szI b c ≤ 19 := by
  have := h.b0; have := h.b1
  unfold szI; split <;> omega
theorem bits_D (b : Nat) (w : Int) : (List.range b).map (fun k => D.int (bitM w k)) = (bitsM b w).map D.int := by unfold bitsM; rw [List.map_map]; rfl
theorem law_levels_eq {b : Nat} {c : Str} {w : Int} (hb : b ≤ 16) : F__law_levels [.tup [.int b, .str c], .int w] = some (.ok (.lst ((levM b c w).map .int), true)) := by
  refine fin_re rfl ?_
  unfold f__law_levels
  have l1 : lcD (aName 4) tYesD (eAndB (eShr (eVar 1) (eVar 4)) (eC (.int 1))) [some (false, .tup [.int b, .str c]), some (false, .int w), none, none, none] (rangeD 0 b) [] (.bor []) = some ((bitsM b w).map .int, .bor []) := by
    rw [lc_ix (fun k => .int (bitM w k)) (by rw [rangeD_len]; simp; omega) fun i d hd => ?_]
    · rw [rangeD_len, show ((b : Int) - 0).toNat = b by omega, bits_D]; rfl
    · obtain ⟨hi, rfl⟩ := rangeD_get hd
      refine ⟨[some (false, .tup [.int b, .str c]), some (false, .int w), none, none, some (false, .int (0 + (i : Nat)))], .bor [], by simp, rfl, ?_, by simp⟩
      have : (0 : Int) + (i : Nat) = (i : Nat) := Int.zero_add _
      rw [this]
      simp [bitM, ifp]
  refine re_seq (go_to (S := [some (false, .tup [.int b, .str c]), some (false, .int w), some (true, .lst ((bitsM b w).map .int)), none, none]) ?_ ?_)
  · simp (disch := omega) [l1]
  refine re_seq (go_to (S := [some (false, .tup [.int b, .str c]), some (false, .int w), some (true, .lst ((bitsM b w).map .int)), some (true, .lst []), none]) (by simp) ?_)
  have bl : (bitsM b w).length = b := by unfold bitsM; simp
  refine re_seq (go_to (S := [some (false, .tup [.int b, .str c]), some (false, .int w), some (true, .lst ((bitsM b w).map .int)), some (true, .lst ((chkM c (bitsM b w)).map .int)), none]) ?_ ?_)
  · unfold chkM
    by_cases h : c = "none"
    · simp [h]
    · by_cases h2 : c = "odd"
      · simp [h2]
      · simp [h, h2]
  have cl : (chkM c (bitsM b w)).length ≤ 1 := by unfold chkM; split <;> simp
  unfold Re levM
  simp (disch := omega) [ifp, bl]
theorem getD_appL {α : Type} {z : α} (a b : List α) {i : Nat} (h : i < a.length) : (a ++ b).getD i z = a.getD i z := by
  rw [List.getD_eq_getElem?_getD, List.getElem?_append_left h, ← List.getD_eq_getElem?_getD]
theorem getD_appR {α : Type} {z : α} (a b : List α) {i : Nat} (h : a.length ≤ i) : (a ++ b).getD i z = b.getD (i - a.length) z := by
  rw [List.getD_eq_getElem?_getD, List.getElem?_append_right h, ← List.getD_eq_getElem?_getD]
theorem atI_int0 {ns : List Int} {i : Nat} (h : i < ns.length) : atI (ns.map D.int) (i : Int) = some (.int (ns.getD i 0)) := by
  rw [atI_nn (by simpa using h)]
  simp [List.getD_eq_getElem?_getD, h]
theorem is_whole_eq (i : Int) : F_is_whole [.int i] = some (.ok (.bl true, true)) := by
  refine fin_re rfl ?_
  unfold f_is_whole Re
  simp
theorem bitM_01 (w : Int) (k : Nat) : bitM w k = 0 ∨ bitM w k = 1 := by rw [bitM_eq]; omega
theorem lev_len (b : Nat) (c : Str) (w : Int) : (levM b c w).length = szM b c := by
  unfold levM szM chkM
  have hb : (bitsM b w).length = b := by unfold bitsM; simp
  split <;> simp [hb] <;> omega
theorem lev_0 (b : Nat) (c : Str) (w : Int) : (levM b c w).getD 0 0 = 0 := by
  unfold levM
  rw [getD_appL _ _ (by simp), getD_appL _ _ (by simp), getD_appL _ _ (by simp)]; rfl
theorem lev_last (b : Nat) (c : Str) (w : Int) : (levM b c w).getD (szM b c - 1) 0 = 1 := by
  have hl := lev_len b c w
  have hs : 0 < szM b c := by unfold szM; split <;> omega
  unfold levM at hl ⊢
  rw [List.length_append] at hl
  have e1 : ([1] : List Int).length = 1 := rfl
  rw [getD_appR _ _ (by omega)]
  have e : szM b c - 1 - ([0] ++ bitsM b w ++ chkM c (bitsM b w)).length = 0 := by omega
  rw [e]; rfl
theorem lev_01 {b : Nat} {c : Str} {w : Int} {k : Nat} : (levM b c w).getD k 0 = 0 ∨ (levM b c w).getD k 0 = 1 := by
  by_cases h : k < (levM b c w).length
  · rw [List.getD_eq_getElem?_getD, List.getElem?_eq_getElem h]
    have hm := List.getElem_mem h
    generalize (levM b c w)[k] = x at hm
    show x = 0 ∨ x = 1
    unfold levM at hm
    simp only [List.mem_append, List.mem_singleton] at hm
    rcases hm with ((rfl | hm) | hm) | rfl
    · simp
    · unfold bitsM at hm
      obtain ⟨j, _, rfl⟩ := List.mem_map.mp hm
      exact bitM_01 w j
    · unfold chkM at hm
      split at hm
      · cases hm
      · simp only [List.mem_singleton] at hm
        rw [hm]; omega
    · simp
  · left
    rw [List.getD_eq_getElem?_getD, List.getElem?_eq_none (by omega)]; rfl
def Is01 (r : List Int) : Prop := ∀ x ∈ r, x = 0 ∨ x = 1
theorem Is01.at {r : List Int} (h : Is01 r) (k : Nat) : r.getD k 0 = 0 ∨ r.getD k 0 = 1 := by
  rw [List.getD_eq_getElem?_getD]
  cases e : r[k]? with
  | none => exact .inl rfl
  | some x => exact h x (List.mem_of_getElem? e)
theorem szM_I (b : Nat) (c : Str) : (szM b c : Int) = szI b c := by
  unfold szM szI; split <;> omega
theorem atI_back {ns : List Int} {n m : Nat} (h : ns.length = n + m) (hm : 1 ≤ m) : atI (ns.map D.int) (-(m : Int)) = some (.int (ns.getD n 0)) := by
  unfold atI ixN
  rw [if_neg (by omega), if_pos (by rw [List.length_map]; omega), List.length_map, show (-(m : Int) + (ns.length : Nat)).toNat = n by omega]
  show (ns.map D.int)[n]? = _
  rw [List.getElem?_map, List.getD_eq_getElem?_getD, List.getElem?_eq_getElem (show n < ns.length by omega)]
  rfl
structure EarOk (o s b : Int) : Prop where
  o0 : 3 ≤ o
  o1 : o ≤ 64
  b0 : 0 ≤ b
  b1 : b ≤ 3
  s0 : b + 1 ≤ s
  s1 : s + b < o
def GoC (o : Option SO) (P : DSt → Prop) : Prop := ∃ S, (o = some (.nx S) ∨ o = some (.ct S)) ∧ P S
theorem goC_of {o : Option SO} {P : DSt → Prop} (h : Go o P) : GoC o P := let ⟨S, e, p⟩ := h; ⟨S, .inl e, p⟩
theorem whileC_go {c : TF} {b : SF} {P : DSt → Prop} (Inv : Nat → DSt → Prop) (h : ∀ m S, Inv m S → (c S = some (.ok false) ∧ P S) ∨ (c S = some (.ok true) ∧ GoC (b S) fun S' => ∃ m', m' < m ∧ Inv m' S')) : ∀ (n m : Nat) (S : DSt), m < n → Inv m S → Go (whileD c b n S) P
  | 0, m, S, hm, _ => by omega
  | n + 1, m, S, hm, hi => by
    rcases h m S hi with ⟨e, p⟩ | ⟨e, S', e2, m', hm', hi'⟩
    · refine ⟨S, ?_, p⟩
      unfold whileD
      rw [e]
    · have ih := whileC_go Inv h n m' S' (by omega) hi'
      have : whileD c b (n + 1) S = whileD c b n S' := by
        conv => lhs; unfold whileD
        rw [e]
        dsimp only
        rcases e2 with e2 | e2 <;> rw [e2]
      rw [this]; exact ih
theorem sWhileC_go {c : TF} {b : SF} {P : DSt → Prop} {n : DSt → Nat} {S : DSt} (Inv : Nat → DSt → Prop) (m : Nat) (hm : m < n S) (hi : Inv m S) (h : ∀ m S, Inv m S → (c S = some (.ok false) ∧ P S) ∨ (c S = some (.ok true) ∧ GoC (b S) fun S' => ∃ m', m' < m ∧ Inv m' S')) : Go (sWhile n c b S) P := whileC_go Inv h _ m S hm hi
theorem cell_at_eq (ns : List Int) (k : Nat) : ∃ z, F__law_cell_at [.fl (ns.map .int), .int k] = some (.ok (.int z, true)) := by
  by_cases h : k < ns.length
  · have hat := atI_int h
    refine ⟨ns.getD k 1, fin_re rfl ?_⟩
    unfold f__law_cell_at
    refine re_early ?_
    unfold Re
    have h' : (k : Int) < ns.length := by omega
    simp [h', hat, h]
  · refine ⟨0, fin_re rfl ?_⟩
    unfold f__law_cell_at
    refine re_seq (go_to (S := [some (false, .fl (ns.map .int)), some (false, .int k)]) ?_ ?_)
    · have h' : ¬ (k : Int) < ns.length := by omega
      simp [h', h]
    · unfold Re
      simp
end
section
def NS : List Str := ["form", "ear", "start_judged", "last_asked", "passed", "outcomes", "ahead", "since"]
@[simp] theorem fld_form (a b c d e f g h : D) : fldN NS [a, b, c, d, e, f, g, h] "form" = some a := by with_unfolding_all rfl
@[simp] theorem put_form (a b c d e f g h x : D) : putV "form" x NS [a, b, c, d, e, f, g, h] = [x, b, c, d, e, f, g, h] := by with_unfolding_all rfl
@[simp] theorem pun_form : putN "form" NS = NS := by with_unfolding_all rfl
@[simp] theorem ixs_form : ixS NS "form" = some 0 := by with_unfolding_all rfl
@[simp] theorem fld_ear (a b c d e f g h : D) : fldN NS [a, b, c, d, e, f, g, h] "ear" = some b := by with_unfolding_all rfl
@[simp] theorem put_ear (a b c d e f g h x : D) : putV "ear" x NS [a, b, c, d, e, f, g, h] = [a, x, c, d, e, f, g, h] := by with_unfolding_all rfl
@[simp] theorem pun_ear : putN "ear" NS = NS := by with_unfolding_all rfl
@[simp] theorem ixs_ear : ixS NS "ear" = some 1 := by with_unfolding_all rfl
@[simp] theorem fld_start_judged (a b c d e f g h : D) : fldN NS [a, b, c, d, e, f, g, h] "start_judged" = some c := by with_unfolding_all rfl
@[simp] theorem put_start_judged (a b c d e f g h x : D) : putV "start_judged" x NS [a, b, c, d, e, f, g, h] = [a, b, x, d, e, f, g, h] := by with_unfolding_all rfl
@[simp] theorem pun_start_judged : putN "start_judged" NS = NS := by with_unfolding_all rfl
@[simp] theorem ixs_start_judged : ixS NS "start_judged" = some 2 := by with_unfolding_all rfl
@[simp] theorem fld_last_asked (a b c d e f g h : D) : fldN NS [a, b, c, d, e, f, g, h] "last_asked" = some d := by with_unfolding_all rfl
@[simp] theorem put_last_asked (a b c d e f g h x : D) : putV "last_asked" x NS [a, b, c, d, e, f, g, h] = [a, b, c, x, e, f, g, h] := by with_unfolding_all rfl
@[simp] theorem pun_last_asked : putN "last_asked" NS = NS := by with_unfolding_all rfl
@[simp] theorem ixs_last_asked : ixS NS "last_asked" = some 3 := by with_unfolding_all rfl
@[simp] theorem fld_passed (a b c d e f g h : D) : fldN NS [a, b, c, d, e, f, g, h] "passed" = some e := by with_unfolding_all rfl
@[simp] theorem put_passed (a b c d e f g h x : D) : putV "passed" x NS [a, b, c, d, e, f, g, h] = [a, b, c, d, x, f, g, h] := by with_unfolding_all rfl
@[simp] theorem pun_passed : putN "passed" NS = NS := by with_unfolding_all rfl
@[simp] theorem ixs_passed : ixS NS "passed" = some 4 := by with_unfolding_all rfl
@[simp] theorem fld_outcomes (a b c d e f g h : D) : fldN NS [a, b, c, d, e, f, g, h] "outcomes" = some f := by with_unfolding_all rfl
@[simp] theorem put_outcomes (a b c d e f g h x : D) : putV "outcomes" x NS [a, b, c, d, e, f, g, h] = [a, b, c, d, e, x, g, h] := by with_unfolding_all rfl
@[simp] theorem pun_outcomes : putN "outcomes" NS = NS := by with_unfolding_all rfl
@[simp] theorem ixs_outcomes : ixS NS "outcomes" = some 5 := by with_unfolding_all rfl
@[simp] theorem fld_ahead (a b c d e f g h : D) : fldN NS [a, b, c, d, e, f, g, h] "ahead" = some g := by with_unfolding_all rfl
@[simp] theorem put_ahead (a b c d e f g h x : D) : putV "ahead" x NS [a, b, c, d, e, f, g, h] = [a, b, c, d, e, f, x, h] := by with_unfolding_all rfl
@[simp] theorem pun_ahead : putN "ahead" NS = NS := by with_unfolding_all rfl
@[simp] theorem ixs_ahead : ixS NS "ahead" = some 6 := by with_unfolding_all rfl
@[simp] theorem fld_since (a b c d e f g h : D) : fldN NS [a, b, c, d, e, f, g, h] "since" = some h := by with_unfolding_all rfl
@[simp] theorem put_since (a b c d e f g h x : D) : putV "since" x NS [a, b, c, d, e, f, g, h] = [a, b, c, d, e, f, g, x] := by with_unfolding_all rfl
@[simp] theorem pun_since : putN "since" NS = NS := by with_unfolding_all rfl
@[simp] theorem ixs_since : ixS NS "since" = some 7 := by with_unfolding_all rfl
@[simp] theorem ixm_beat : ixS NS "beat" = none := by with_unfolding_all rfl
@[simp] theorem ixm_leave_false_start : ixS NS "leave_false_start" = none := by with_unfolding_all rfl
@[simp] theorem ixm_tell_word : ixS NS "tell_word" = none := by with_unfolding_all rfl
@[simp] theorem ixm_begun : ixS NS "begun" = none := by with_unfolding_all rfl
@[simp] theorem ixm_at_rest : ixS NS "at_rest" = none := by with_unfolding_all rfl
@[simp] theorem ixm_heard : ixS NS "heard" = none := by with_unfolding_all rfl
@[simp] theorem NS_len : NS.length = 8 := rfl
/-- an ear, by natural numbers -/
structure EarN (O s be : Nat) : Prop where
  o0 : 3 ≤ O
  o1 : O ≤ 64
  b1 : be ≤ 3
  s0 : be + 1 ≤ s
  s1 : s + be < O
theorem EarN.ok {O s be : Nat} (h : EarN O s be) : EarOk O s be := ⟨by have := h.o0; omega, by have := h.o1; omega, by omega, by have := h.b1; omega, by have := h.s0; omega, by have := h.s1; omega⟩
theorem EarOk.n {o s be : Int} (h : EarOk o s be) : ∃ O S B : Nat, o = (O : Nat) ∧ s = (S : Nat) ∧ be = (B : Nat) ∧ EarN O S B := by
  obtain ⟨o0, o1, b0, b1, s0, s1⟩ := h
  exact ⟨o.toNat, s.toNat, be.toNat, by omega, by omega, by omega, by omega, by omega, by omega, by omega, by omega⟩
abbrev fmD (b : Nat) (c : Str) : D := .tup [.int (b : Nat), .str c]
end
section
theorem cut_fromN {R : List Int} {a : Nat} (h : a ≤ R.length) : cutD (R.map D.int) (some (a : Int)) none = (R.drop a).map D.int := by
  unfold cutD
  rw [HT.sIx_nat, HT.sIx_none, List.length_map, Nat.min_eq_left h, List.map_drop, List.take_of_length_le (by simp)]
def rchN (b : Nat) (c : Str) (O s be : Nat) : Nat := (szM b c - 1) * O + s + be
end
section
end
section
section
variable {b O s be : Nat} {c : Str}
end
end
section
end
section
section
variable {O s be : Nat} {r : List Int}
end
end
section
end
section
/-- how many beats lie ahead of a moment -/
def ffM (first step m : Int) : Int := if -((first - m) / step) > 0 then -((first - m) / step) else 0
inductive SpOk (len M : Int) : Int → List (Int × Int) → Prop
  | nil {c : Int} : 0 ≤ c → SpOk len M c []
  | snoc {c b w : Int} {sp : List (Int × Int)} : SpOk len M c sp → c ≤ b → 0 ≤ w → w < M → SpOk len M (b + len) (sp ++ [(b, w)])
def prT (q : Int × Int) : D := .tup [.int q.1, .int q.2]
theorem is_word_eq {b : Nat} {c : Str} {w : Int} (hb : b ≤ 16) (w0 : 0 ≤ w) (w1 : w < 2 ^ b) : F_is_word [.tup [.int b, .str c], .int w] = some (.ok (.bl true, true)) := by
  have iw := is_whole_eq w
  refine fin_re rfl ?_
  unfold f_is_word Re
  have hbl : (b : Int) ≤ 1000000 := by omega
  simp (disch := omega) [iw, ifp, w0, w1, hbl]
theorem check_level_eq {b : Nat} {c : Str} (w : Int) (hc : c = "even" ∨ c = "odd") : F_check_level [.str c, .lst ((bitsM b w).map D.int)] = some (.ok (.int (((bitsM b w).sum + (if c = "odd" then 1 else 0)) % 2), true)) := by
  refine fin_re rfl ?_
  unfold f_check_level
  refine re_seq (go_to (S := [some (false, .str c), some (false, .lst ((bitsM b w).map D.int)), some (false, .int (bitsM b w).sum)]) (by simp) ?_)
  generalize (bitsM b w).sum = s
  unfold Re
  have ba : Builtin.bitAnd s 1 = s % 2 := by
    have := bitM_eq s 0
    unfold bitM at this
    simpa using this
  rcases hc with rfl | rfl
  · simp [ba]
  · have : 1 - s % 2 = (s + 1) % 2 := by omega
    simp [ba, this]
theorem levels_of_eq {b : Nat} {c : Str} {w : Int} (hf : FormOk b c) (w0 : 0 ≤ w) (w1 : w < 2 ^ b) : F_levels_of [.tup [.int b, .str c], .int w] = some (.ok (.lst ((levM b c w).map .int), true)) := by
  have hb1 := hf.b1
  have iw := is_word_eq (b := b) (c := c) (by omega) w0 w1
  refine fin_re rfl ?_
  unfold f_levels_of
  refine re_seq (go_to (S := [some (false, .tup [.int b, .str c]), some (false, .int w), some (false, .int b), some (false, .str c), none, none]) (by simp) ?_)
  refine re_seq (go_to (S := [some (false, .tup [.int b, .str c]), some (false, .int w), some (false, .int b), some (false, .str c), none, none]) (by simp [iw]) ?_)
  have l1 : lcD (aName 5) tYesD (eAndB (eShr (eVar 1) (eVar 5)) (eC (.int 1))) [some (false, .tup [.int b, .str c]), some (false, .int w), some (false, .int b), some (false, .str c), none, none] (rangeD 0 b) [] (.bor []) = some ((bitsM b w).map .int, .bor []) := by
    rw [lc_ix (fun k => .int (bitM w k)) (by rw [rangeD_len]; simp; omega) fun i d hd => ?_]
    · rw [rangeD_len, show ((b : Int) - 0).toNat = b by omega, bits_D]; rfl
    · obtain ⟨hi, rfl⟩ := rangeD_get hd
      refine ⟨[some (false, .tup [.int b, .str c]), some (false, .int w), some (false, .int b), some (false, .str c), none, some (false, .int (0 + (i : Nat)))], .bor [], by simp, rfl, ?_, by simp⟩
      have : (0 : Int) + (i : Nat) = (i : Nat) := Int.zero_add _
      rw [this]
      simp [bitM, ifp]
  refine re_seq (go_to (S := [some (false, .tup [.int b, .str c]), some (false, .int w), some (false, .int b), some (false, .str c), some (true, .lst ((bitsM b w).map .int)), none]) (by simp (disch := omega) [l1]) ?_)
  have bl : (bitsM b w).length = b := by unfold bitsM; simp
  by_cases h : c = "none"
  · refine re_early ?_
    unfold Re levM chkM
    simp (disch := omega) [h, bl, ifp]
  · refine re_seq (go_to (S := [some (false, .tup [.int b, .str c]), some (false, .int w), some (false, .int b), some (false, .str c), some (true, .lst ((bitsM b w).map .int)), none]) (by simp [h]) ?_)
    have hc : c = "even" ∨ c = "odd" := hf.cc.resolve_left h
    have ck := check_level_eq (b := b) w hc
    unfold Re levM chkM
    rw [if_neg h]
    generalize ((bitsM b w).sum + (if c = "odd" then 1 else 0)) % 2 = x at ck
    simp (disch := omega) [ck, bl, ifp]
theorem lc2_flat {g : GF} {ft : TF} {f1 : IF} {g1 : GF} {ft1 : TF} {fe : EF} {vs1 : List Nat} {S : DSt} {q : Kn} (fn : D → List D) : ∀ {ds acc : List D}, acc.length + (ds.flatMap fn).length ≤ sizeLine → (∀ d ∈ ds, ∃ S1 es, g d .safe S = some S1 ∧ ft S1 = some (.ok true) ∧ f1 S1 = some (.ok es) ∧ (vs1.all fun i => !ownAt S1 i) = true ∧ ∀ acc : List D, acc.length + (fn d).length ≤ sizeLine → lcD g1 ft1 fe (wipeD S1 vs1) es acc q = some (acc ++ fn d, q)) → lc2D g ft f1 g1 ft1 fe vs1 S ds acc q = some (acc ++ ds.flatMap fn, q)
  | [], acc, _, _ => by simp [lc2D]
  | d :: ds, acc, hl, h => by
    obtain ⟨S1, es, e1, e2, e3, e4, e5⟩ := h d (by simp)
    rw [List.flatMap_cons, List.length_append] at hl
    unfold lc2D
    rw [e1]
    dsimp only
    rw [e2]
    dsimp only
    rw [e3]
    dsimp only
    rw [if_pos e4, e5 acc (by omega)]
    dsimp only
    rw [lc2_flat fn (by rw [List.length_append]; omega) fun d' hd => h d' (by simp [hd]), List.flatMap_cons, List.append_assoc]
end
section
end
section
theorem call2 {F : FF} {f g : EF} {S : DSt} {a b r : D} {k k' : Kn} (h1 : f S = some (.ok (a, k))) (h2 : g S = some (.ok (b, k'))) (h : F [a, b] = some (.ok (r, true))) : eCall F (aCons f (aCons g aNil)) S = some (.ok (r, .bor [])) := by
  rw [eCall_R, aCons_R, h1]
  simp only [bnd_okR]
  rw [aCons_R, h2]
  simp only [bnd_okR, aNil_R]
  rw [h]
  simp only [bnd_okR, callK_t]
/-- a speech that was said, with its beats -/
structure Said (b : Nat) (c : Str) (O s be : Nat) (rate first step : Int) (sp : List (Int × Int)) (lb lw : Int) (many : Nat) : Prop where
  r0 : 1 ≤ rate
  r1 : rate ≤ 10 ^ 12
  s0 : 1 ≤ step
  s1 : step ≤ 10 ^ 12
  f0 : -(10 ^ 20) ≤ first
  f1 : first ≤ 10 ^ 20
  ok : ∃ cur, SpOk (szI b c * rate) (2 ^ b) cur sp
  len : sp.length ≤ 60
  last : atI (sp.map prT) (-1) = some (.tup [.int lb, .int lw])
  many_eq : (many : Int) = ffM first step (lb + rate * szI b c) + rchN b c O s be + 2
  many_le : many ≤ 20000
variable {b O s be : Nat} {c : Str} {rate first step : Int} {sp : List (Int × Int)} {lb lw : Int} {many : Nat}
theorem Said.ne (h : Said b c O s be rate first step sp lb lw many) : sp ≠ [] := by
  rintro rfl
  have := h.last
  cases this
end
section
section
end
section
end
end
section
/-- levels that go round: words of sz levels, m of them -/
structure Rd (f : Nat → Int) (sz m : Nat) : Prop where
  s2 : 2 ≤ sz
  m1 : 1 ≤ m
  per : ∀ p, f (p + sz * m) = f p
  st : ∀ q, f (q * sz) = 0
  sp : ∀ q, f (q * sz + (sz - 1)) = 1
  v : ∀ p, f p = 0 ∨ f p = 1
/-- the next begin -/
def nb (f : Nat → Int) : Nat → Nat → Int → Nat
  | 0, p, a => p
  | k + 1, p, a => if f p = 1 ∨ a = 0 then nb f k (p + 1) (f p) else p
/-- a start lies near -/
def Nr (sz : Nat) (k p : Nat) (a : Int) : Prop := ∃ q, (p < q * sz ∨ (p = q * sz ∧ a = 1)) ∧ q * sz ≤ p + k
variable {f : Nat → Int} {sz m : Nat}
theorem Nr.zero {p : Nat} {a : Int} (R : Rd f sz m) (h : Nr sz 0 p a) : ¬ (f p = 1 ∨ a = 0) ∧ a = 1 := by
  obtain ⟨q, h1, h2⟩ := h
  rcases h1 with h1 | ⟨h1, h3⟩
  · omega
  · rw [h1, R.st q]; subst h3; simp
theorem Nr.step {k p : Nat} {a : Int} (R : Rd f sz m) (h : Nr sz (k + 1) p a) (hc : f p = 1 ∨ a = 0) : Nr sz k (p + 1) (f p) := by
  obtain ⟨q, h1, h2⟩ := h
  have s2 := R.s2
  rcases h1 with h1 | ⟨h1, h3⟩
  · refine ⟨q, ?_, by omega⟩
    by_cases e : p + 1 = q * sz
    · refine .inr ⟨e, ?_⟩
      obtain ⟨q', rfl⟩ : ∃ q', q = q' + 1 := ⟨q - 1, by
        cases q with
        | zero => simp at h1
        | succ n => rfl⟩
      have : p = q' * sz + (sz - 1) := by rw [Nat.add_mul, Nat.one_mul] at e; omega
      rw [this]; exact R.sp q'
    · exact .inl (by omega)
  · rw [h1, R.st q, h3] at hc
    simp at hc
theorem Nr.all (R : Rd f sz m) (p : Nat) (a : Int) : Nr sz sz p a := by
  have s2 := R.s2
  refine ⟨p / sz + 1, .inl ?_, ?_⟩
  · have := Nat.div_add_mod p sz
    have := Nat.mod_lt p (show sz > 0 by omega)
    rw [Nat.add_mul, Nat.one_mul, Nat.mul_comm]; omega
  · have := Nat.div_mul_le_self p sz
    rw [Nat.add_mul, Nat.one_mul]; omega
theorem nb_ge : ∀ (k p : Nat) (a : Int), p ≤ nb f k p a ∧ nb f k p a ≤ p + k
  | 0, p, a => by unfold nb; omega
  | k + 1, p, a => by
    unfold nb
    split
    · have := nb_ge k (p + 1) (f p); omega
    · omega
theorem nb_per (R : Rd f sz m) : ∀ (k p : Nat) (a : Int), nb f k (p + sz * m) a = nb f k p a + sz * m
  | 0, p, a => rfl
  | k + 1, p, a => by
    unfold nb
    rw [R.per]
    split
    · rw [show p + sz * m + 1 = p + 1 + sz * m by omega, nb_per R k (p + 1) (f p)]
    · rfl
/-- the next begin behind a word -/
def nx (f : Nat → Int) (sz t : Nat) : Nat := nb f sz (t + sz) (f (t + sz - 1))
/-- begins of a listener who comes at a place -/
def tr (f : Nat → Int) (sz c : Nat) : Nat → Nat
  | 0 => nb f sz c 1
  | i + 1 => nx f sz (tr f sz c i)
theorem nx_per (R : Rd f sz m) (t : Nat) : nx f sz (t + sz * m) = nx f sz t + sz * m := by
  unfold nx
  have s2 := R.s2
  rw [show t + sz * m + sz - 1 = t + sz - 1 + sz * m by omega, R.per, show t + sz * m + sz = t + sz + sz * m by omega, nb_per R]
theorem nx_perk (R : Rd f sz m) (t : Nat) : ∀ k, nx f sz (t + k * (sz * m)) = nx f sz t + k * (sz * m)
  | 0 => by simp
  | k + 1 => by rw [Nat.add_mul, Nat.one_mul, ← Nat.add_assoc, nx_per R, nx_perk R t k, Nat.add_assoc]
theorem nx_ge (t : Nat) : t + sz ≤ nx f sz t := (nb_ge sz (t + sz) _).1
/-- the same by places of the round -/
def sc (f : Nat → Int) (sz m h : Nat) : Nat := nx f sz h % (sz * m)
theorem sc_mod (R : Rd f sz m) (t : Nat) : sc f sz m (t % (sz * m)) = nx f sz t % (sz * m) := by
  unfold sc
  conv => rhs; rw [← Nat.mod_add_div t (sz * m), Nat.mul_comm (sz * m) (t / (sz * m)), nx_perk R, Nat.add_mul_mod_self_right]
theorem tr_succ (c i : Nat) : tr f sz c i + sz ≤ tr f sz c (i + 1) := nx_ge _
theorem tr_mono (c : Nat) : ∀ {i j : Nat}, i < j → tr f sz c i + sz ≤ tr f sz c j
  | i, 0, h => by omega
  | i, j + 1, h => by
    have := tr_succ (f := f) (sz := sz) c j
    by_cases e : i = j
    · subst e; exact this
    · have := tr_mono c (i := i) (j := j) (by omega); omega
theorem tr_from (c : Nat) : c ≤ tr f sz c 0 := (nb_ge sz c 1).1
theorem mod_sz (t : Nat) : t % (sz * m) % sz = t % sz := Nat.mod_mul_right_mod t sz m
/-- a ring of places -/
def Ring (s : Nat → Nat) (R : List Nat) : Prop := ∃ (n : Nat) (g : Nat → Nat), 0 < n ∧ R = (List.range n).map g ∧ (∀ t, g (t + n) = g t) ∧ (∀ t, s (g t) = g (t + 1)) ∧ ∀ t t', t < n → t' < n → g t = g t' → t = t'
theorem per_k {g : Nat → Nat} {n : Nat} (h : ∀ t, g (t + n) = g t) (t : Nat) : ∀ k, g (t + k * n) = g t
  | 0 => by simp
  | k + 1 => by rw [Nat.add_mul, Nat.one_mul, ← Nat.add_assoc, h, per_k h t k]
theorem per_mod {g : Nat → Nat} {n : Nat} (h : ∀ t, g (t + n) = g t) (t : Nat) : g (t % n) = g t := by
  conv => rhs; rw [← Nat.mod_add_div t n, Nat.mul_comm n (t / n), per_k h]
theorem Ring.turn {s : Nat → Nat} {R : List Nat} (h : Ring s R) {a : Nat} (ha : a < R.length) : Ring s (R.drop a ++ R.take a) := by
  obtain ⟨n, g, n0, rfl, h1, h2, h3⟩ := h
  rw [List.length_map, List.length_range] at ha
  refine ⟨n, fun t => g (a + t), n0, ?_, fun t => ?_, fun t => ?_, fun t t' ht ht' e => ?_⟩
  · refine List.ext_getElem (by simp; omega) fun i hi _ => ?_
    simp only [List.length_append, List.length_drop, List.length_take, List.length_map, List.length_range] at hi
    rw [List.getElem_map, List.getElem_range]
    by_cases c : i < n - a
    · rw [List.getElem_append_left (by simp; omega), List.getElem_drop, List.getElem_map, List.getElem_range]
    · rw [List.getElem_append_right (by simp; omega), List.getElem_take, List.getElem_map, List.getElem_range]
      simp only [List.length_drop, List.length_map, List.length_range]
      rw [← h1 (i - (n - a))]
      congr 1; omega
  · show g (a + (t + n)) = g (a + t)
    rw [← Nat.add_assoc, h1]
  · exact h2 (a + t)
  · have e : g (a + t) = g (a + t') := e
    have k := h3 ((a + t) % n) ((a + t') % n) (Nat.mod_lt _ n0) (Nat.mod_lt _ n0) (by rw [per_mod h1, per_mod h1, e])
    have e1 := Nat.mod_add_div (a + t) n
    have e2 := Nat.mod_add_div (a + t') n
    rw [k] at e1
    generalize (a + t) / n = x at *
    generalize (a + t') / n = y at *
    generalize (a + t') % n = r at *
    by_cases xy : x = y
    · subst xy; omega
    · rcases Nat.lt_or_gt_of_ne xy with z | z
      · have : n * (x + 1) ≤ n * y := Nat.mul_le_mul_left _ z
        rw [Nat.mul_add, Nat.mul_one] at this
        omega
      · have : n * (y + 1) ≤ n * x := Nat.mul_le_mul_left _ z
        rw [Nat.mul_add, Nat.mul_one] at this
        omega
/-- begins that come round again -/
theorem ring_of {s : Nat → Nat} {h : Nat → Nat} (hs : ∀ k, h (k + 1) = s (h k)) {i j : Nat} (hj : j < i) (he : h i = h j) (hd : ∀ x y, x < i → y < i → h x = h y → x = y) : Ring s ((List.range (i - j)).map fun t => h (j + t)) := by
  refine ⟨i - j, fun t => h (j + t), by omega, rfl, fun t => ?_, fun t => (hs (j + t)).symm, fun t t' ht ht' e => ?_⟩
  · show h (j + (t + (i - j))) = h (j + t)
    have : ∀ t, h (i + t) = h (j + t) := by
      intro t
      induction t with
      | zero => exact he
      | succ t ih => rw [← Nat.add_assoc, ← Nat.add_assoc, hs, hs, ih]
    rw [show j + (t + (i - j)) = i + t by omega]; exact this t
  · have := hd (j + t) (j + t') (by omega) (by omega) e
    omega
theorem all_of {s : Nat → Nat} {h : Nat → Nat} {P : Nat → Prop} (hs : ∀ k, h (k + 1) = s (h k)) {i j : Nat} (hj : j < i) (he : h i = h j) (hp : ∀ x, x < i → P (h x)) : ∀ k, P (h k) := by
  have key : ∀ k, ∃ x, x < i ∧ h k = h x := by
    intro k
    induction k with
    | zero => exact ⟨0, by omega, rfl⟩
    | succ k ih =>
      obtain ⟨x, hx, e⟩ := ih
      by_cases c : x + 1 < i
      · exact ⟨x + 1, c, by rw [hs, hs, e]⟩
      · exact ⟨j, hj, by rw [hs, e, ← hs, show x + 1 = i by omega, he]⟩
  intro k
  obtain ⟨x, hx, e⟩ := key k
  rw [e]; exact hp x hx
theorem sub_lenN : ∀ {l m : List Nat}, l.Nodup → (∀ x ∈ l, x ∈ m) → l.length ≤ m.length
  | [], m, _, _ => by simp
  | a :: l, m, hn, h => by
    have hn := List.nodup_cons.mp hn
    have ha := h a (by simp)
    have ih := sub_lenN (l := l) (m := m.erase a) hn.2 fun x hx => by
      have hm := h x (by simp [hx])
      have ne : x ≠ a := fun e => hn.1 (e ▸ hx)
      exact (List.mem_erase_of_ne ne).mpr hm
    rw [List.length_erase_of_mem ha] at ih
    have := List.length_pos_of_mem ha
    rw [List.length_cons]; omega
/-- numbers below n that are unlike are n at most -/
theorem pigeon {l : List Nat} {n : Nat} (hn : l.Nodup) (hl : ∀ x ∈ l, x < n) : l.length ≤ n := by
  have := sub_lenN (m := List.range n) hn fun x hx => List.mem_range.mpr (hl x hx)
  simpa using this
end
section
variable {b O s be : Nat} {c : Str} {P : Int} {o : List D} {f : Nat → Int} {m : Nat}
end
section
def rL (b : Nat) (c : Str) (ws : List Int) : List Int := ws.flatMap (levM b c)
def rF (b : Nat) (c : Str) (ws : List Int) (p : Nat) : Int := (rL b c ws).getD (p % (rL b c ws).length) 0
theorem rL_len (b : Nat) (c : Str) : ∀ ws : List Int, (rL b c ws).length = szM b c * ws.length
  | [] => rfl
  | w :: ws => by
    have ih := rL_len b c ws
    unfold rL at ih ⊢
    rw [List.flatMap_cons, List.length_append, ih, lev_len, List.length_cons, Nat.mul_add, Nat.mul_one, Nat.add_comm]
theorem rL_get {b : Nat} {c : Str} : ∀ {ws : List Int} {q l : Nat}, l < szM b c → q < ws.length → (rL b c ws).getD (q * szM b c + l) 0 = (levM b c (ws.getD q 0)).getD l 0
  | [], q, l, hl, hq => by simp at hq
  | w :: ws, 0, l, hl, hq => by
    unfold rL
    rw [List.flatMap_cons, Nat.zero_mul, Nat.zero_add, getD_appL _ _ (by rw [lev_len]; exact hl)]
    rfl
  | w :: ws, q + 1, l, hl, hq => by
    have ih := rL_get (ws := ws) (q := q) hl (by rw [List.length_cons] at hq; omega)
    unfold rL at ih ⊢
    have e : (q + 1) * szM b c + l = szM b c + (q * szM b c + l) := by rw [Nat.add_mul, Nat.one_mul]; omega
    rw [List.flatMap_cons, e, getD_appR _ _ (by rw [lev_len]; omega), lev_len, Nat.add_sub_cancel_left, ih]
    rfl
theorem rF_at {b : Nat} {c : Str} {ws : List Int} (h1 : 0 < ws.length) {q l : Nat} (hl : l < szM b c) : rF b c ws (q * szM b c + l) = (levM b c (ws.getD (q % ws.length) 0)).getD l 0 := by
  have e : (q * szM b c + l) % (szM b c * ws.length) = q % ws.length * szM b c + l := by
    have e0 := Nat.mod_add_div q ws.length
    have : q * szM b c + l = q % ws.length * szM b c + l + szM b c * ws.length * (q / ws.length) := by
      conv => lhs; rw [← e0]
      rw [Nat.add_mul, Nat.mul_assoc (szM b c), Nat.mul_comm (szM b c) (ws.length * _)]
      omega
    rw [this, Nat.add_mul_mod_self_left, Nat.mod_eq_of_lt]
    have hm := Nat.mod_lt q h1
    have : (q % ws.length + 1) * szM b c ≤ ws.length * szM b c := Nat.mul_le_mul_right _ hm
    rw [Nat.add_mul, Nat.one_mul] at this
    rw [Nat.mul_comm (szM b c) ws.length]; omega
  unfold rF
  rw [rL_len, e, rL_get hl (Nat.mod_lt q h1)]
theorem rd_of {b : Nat} {c : Str} {ws : List Int} (hf : FormOk b c) (h1 : 0 < ws.length) : Rd (rF b c ws) (szM b c) ws.length := by
  have z := hf.sz
  have sI := szM_I b c
  refine ⟨by omega, h1, fun p => ?_, fun q => ?_, fun q => ?_, fun p => ?_⟩
  · unfold rF
    rw [rL_len, Nat.add_mod_right]
  · have := rF_at (b := b) (c := c) h1 (q := q) (l := 0) (by omega)
    rw [Nat.add_zero] at this
    rw [this]; exact lev_0 b c _
  · rw [rF_at h1 (by omega)]; exact lev_last b c _
  · have e := Nat.div_add_mod p (szM b c)
    rw [show p = p / szM b c * szM b c + p % szM b c by rw [Nat.mul_comm]; omega, rF_at h1 (Nat.mod_lt _ (by omega))]
    exact lev_01
theorem round_levels_eq {b : Nat} {c : Str} {ws : List Int} (hf : FormOk b c) (hw : ∀ w ∈ ws, 0 ≤ w ∧ w < 2 ^ b) (hl : ws.length ≤ 100) : F_round_levels [fmD b c, .lst (ws.map D.int)] = some (.ok (.lst ((rL b c ws).map D.int), true)) := by
  have z := hf.sz
  have sI := szM_I b c
  have ln := rL_len b c ws
  have mm : szM b c * ws.length ≤ 19 * 100 := Nat.mul_le_mul (by omega) hl
  have flat : ∀ ws : List Int, (ws.map D.int).flatMap (fun d => match d with | .int w => (levM b c w).map D.int | _ => []) = (rL b c ws).map D.int := by
    intro ws
    induction ws with
    | nil => rfl
    | cons w ws ih =>
      unfold rL at ih ⊢
      rw [List.map_cons, List.flatMap_cons, List.flatMap_cons, List.map_append, ih]
  have l2 : lc2D (aName 2) tYesD (iOfC (eCall F_levels_of (aCons (eVar 0) (aCons (eVar 2) aNil)))) (aName 3) tYesD (eVar 3) [3] [some (false, fmD b c), some (false, .lst (ws.map D.int)), none, none] (ws.map D.int) [] (.bor []) = some ((rL b c ws).map D.int, .bor []) := by
    rw [lc2_flat (fun d => match d with | .int w => (levM b c w).map D.int | _ => []) (by rw [flat, sizeL_R, List.length_map, ln]; simp; omega) fun d hd => ?_]
    · rw [flat]; rfl
    · obtain ⟨w, hq, rfl⟩ := List.mem_map.mp hd
      have lv := levels_of_eq hf (hw w hq).1 (hw w hq).2
      have nl := nls_ints (levM b c w)
      dsimp only
      have pm : ∀ d ∈ (levM b c w).map D.int, ∃ q, d = D.int q := fun d hd => by
        obtain ⟨q, _, rfl⟩ := List.mem_map.mp hd
        exact ⟨q, rfl⟩
      generalize (levM b c w).map D.int = es at lv nl pm
      generalize ws.map D.int = A
      refine ⟨[some (false, fmD b c), some (false, .lst A), some (false, .int w), none], es, by simp, rfl, by simp [lv, nl], by simp, fun acc ha => ?_⟩
      have := lc_all (k := aName 3) (ft := tYesD) (fe := eVar 3) (S := wipeD [some (false, fmD b c), some (false, .lst A), some (false, .int w), none] [3]) (q := .bor []) (fun d => d) ha fun d hd => by
        obtain ⟨q, rfl⟩ := pm d hd
        exact ⟨[some (false, fmD b c), some (false, .lst A), some (false, .int w), some (false, .int q)], .safe, by simp, rfl, by simp, by simp⟩
      rw [List.map_id'] at this
      exact this
  refine fin_re rfl ?_
  unfold f_round_levels Re
  have nl := nls_ints (rL b c ws)
  have hwk : walkC (.lst (ws.map D.int)) .safe = some (ws.map D.int) := by rw [walkC_l, nls_ints]; rfl
  generalize (rL b c ws).map D.int = RD at *
  generalize ws.map D.int = A at *
  refine ⟨[some (false, fmD b c), some (false, .lst A), none, none], ?_⟩
  rw [sRet_R]
  have : eLc2 (iOfC (eVar 1)) (aName 2) tYesD (iOfC (eCall F_levels_of (aCons (eVar 0) (aCons (eVar 2) aNil)))) (aName 3) tYesD (eVar 3) [2, 3] [3] (startD 4 [fmD b c, .lst A]) = some (.ok (.lst RD, .bor [])) := by
    unfold eLc2
    simp [hwk]
    (rw [l2]) <;> rfl
  (rw [this]) <;> simp
theorem rF_atI {b : Nat} {c : Str} {ws : List Int} (h : 0 < (rL b c ws).length) (p : Nat) : atI ((rL b c ws).map D.int) ((p : Int) % ((rL b c ws).length : Int)) = some (.int (rF b c ws p)) := by
  have e : ((p : Int) % ((rL b c ws).length : Int)) = ((p % (rL b c ws).length : Nat) : Int) := by omega
  rw [e, atI_int0 (Nat.mod_lt _ h)]
  rfl
theorem start_from_eq {b : Nat} {c : Str} {ws : List Int} (hf : FormOk b c) (h1 : 0 < ws.length) (p : Nat) {a : Int} (ha : a = 0 ∨ a = 1) : F_start_from [.lst ((rL b c ws).map D.int), .int (p : Nat), .int a] = some (.ok (.int ((nb (rF b c ws) (szM b c) p a : Nat) : Int), true)) := by
  have R := rd_of hf h1
  have z := hf.sz
  have sI := szM_I b c
  have hn : 0 < (rL b c ws).length := by rw [rL_len]; exact Nat.mul_pos (by omega) h1
  have hat := rF_atI (b := b) (c := c) (ws := ws) hn
  have hn' : 0 < ((rL b c ws).map D.int).length := by rw [List.length_map]; omega
  have hat : ∀ p : Nat, atI ((rL b c ws).map D.int) ((p : Int) % (((rL b c ws).map D.int).length : Int)) = some (.int (rF b c ws p)) := by rw [List.length_map]; exact hat
  generalize (rL b c ws).map D.int = LD at *
  refine fin_re rfl ?_
  unfold f_start_from
  refine re_seq ((sWhileC_go (P := fun S => ∃ v2, S = [some (false, .lst LD), some (false, .int ((nb (rF b c ws) (szM b c) p a : Nat) : Int)), v2]) (fun k S => ∃ (p' : Nat) (a' : Int), S = [some (false, .lst LD), some (false, .int (p' : Nat)), some (false, .int a')] ∧ Nr (szM b c) k p' a' ∧ (a' = 0 ∨ a' = 1) ∧ nb (rF b c ws) k p' a' = nb (rF b c ws) (szM b c) p a) (szM b c) (show szM b c < 1000000000 by omega) ⟨p, a, rfl, Nr.all R _ _, ha, rfl⟩ ?_).imp ?_)
  · rintro k S ⟨p', a', rfl, nr, ha', he⟩
    have hp := hat p'
    have h01 := R.v p'
    generalize hx : rF b c ws p' = x at *
    have test : tOrD (tB1 (eEq (eIx (eVar 0) (eMod (eVar 1) (eLen (aCons (eVar 0) aNil)))) (eC (.int 1)))) (tB1 (eEq (eVar 2) (eC (.int 0)))) [some (false, .lst LD), some (false, .int (p' : Nat)), some (false, .int a')] = some (.ok (decide (x = 1 ∨ a' = 0))) := by
      by_cases h1 : x = 1
      · simp [hn', hp, h1]
      · simp [hn', hp, h1]
    rw [test]
    by_cases h : x = 1 ∨ a' = 0
    · rw [decide_eq_true h]
      refine .inr ⟨rfl, goC_of ?_⟩
      have hk : ∃ k', k = k' + 1 := by
        cases k with
        | zero => have := nr.zero R; rw [hx] at this; exact absurd h this.1
        | succ k' => exact ⟨k', rfl⟩
      obtain ⟨k', rfl⟩ := hk
      have ns := nr.step R (by rw [hx]; exact h)
      rw [hx] at ns
      have hu : nb (rF b c ws) (k' + 1) p' a' = nb (rF b c ws) k' (p' + 1) x := by
        conv => lhs; unfold nb
        rw [hx, if_pos h]
      rw [hu] at he
      refine go_seq (go_to (S := [some (false, .lst LD), some (false, .int (p' : Nat)), some (false, .int x)]) (by simp [hn', hp]) ?_)
      exact go_to (S := [some (false, .lst LD), some (false, .int ((p' + 1 : Nat) : Int)), some (false, .int x)]) (by simp) ⟨k', by omega, p' + 1, x, rfl, ns, h01, he⟩
    · rw [decide_eq_false h]
      refine .inl ⟨rfl, some (false, .int a'), ?_⟩
      have : nb (rF b c ws) k p' a' = p' := by
        cases k with
        | zero => rfl
        | succ k => unfold nb; rw [hx, if_neg h]
      rw [← he, this]
  · rintro S ⟨v2, rfl⟩
    unfold Re
    simp
theorem ixOf_mem : ∀ {ns : List Int} {n : Int}, n ∈ ns → ∃ j, ixOf ns n = some j
  | [], n, h => by cases h
  | m :: ms, n, h => by
    unfold ixOf
    by_cases e : m = n
    · exact ⟨0, if_pos e⟩
    · rw [if_neg e]
      rcases List.mem_cons.mp h with h | h
      · exact absurd h.symm e
      · obtain ⟨j, hj⟩ := ixOf_mem h
        exact ⟨j + 1, by rw [hj]; rfl⟩
theorem cut_to (R : List Int) (a : Nat) : cutD (R.map D.int) none (some (a : Int)) = (R.take a).map D.int := by
  unfold cutD
  rw [HT.sIx_nat, HT.sIx_none, List.length_map, List.drop_zero, Nat.sub_zero, ← List.map_take]
  by_cases h : a ≤ R.length
  · rw [show min a R.length = a by omega]
  · rw [show min a R.length = R.length by omega, List.take_of_length_le (Nat.le_refl _), List.take_of_length_le (by omega)]
abbrev nI (R : List Nat) : List Int := R.map fun r : Nat => (r : Int)
theorem index_R {g : EF} {fa : AF} {S : DSt} {ns : List Int} {n : Int} {j : Nat} {k : Kn} {k' : Kn} (h1 : g S = some (.ok (.lst (ns.map D.int), k))) (h2 : fa S = some (.ok ([.int n], k'))) (h : ixOf ns n = some j) : eIndexL g fa S = some (.ok (.int (j : Nat), .bor [])) := by
  unfold eIndexL
  rw [h1]
  dsimp only
  rw [h2]
  dsimp only
  rw [numsD_ints]
  dsimp only
  rw [h]
  rfl
end
section
theorem flats (fs : List Int) : (fs.map D.int).all D.flat = true := by
  induction fs with
  | nil => rfl
  | cons x l ih => rw [List.map_cons, List.all_cons, ih]; rfl
def has (l : List Int) (x : Int) : Bool := l.any fun m => decide (m = x)
theorem has_iff {l : List Int} {x : Int} : has l x = true ↔ x ∈ l := by
  unfold has
  rw [List.any_eq_true]
  constructor
  · rintro ⟨y, hy, h⟩
    have : y = x := by simpa using h
    exact this ▸ hy
  · intro h
    exact ⟨x, h, by simp⟩
theorem gIn_A (neg : Bool) (A : List Int) (x : Int) : gIn neg (.int x) (.lst (A.map D.int)) = some (.bl (if neg then !has A x else has A x)) := by
  have e : inD (.int x) (A.map D.int) = has A x := by
    unfold inD has
    rw [List.any_map]
    congr 1
  unfold gIn
  dsimp only
  rw [flats, e]
  rfl
variable {b O s be : Nat} {c : Str} {rate first step : Int} {sp : List (Int × Int)}
end
section
theorem rev_go {S : DSt} {i : Nat} {es : List D} (h : S[i]? = some (some (true, .lst es))) (hn : D.nl.nls es = true) : sRev (pName i) S = some (.nx (S.set i (some (true, .lst es.reverse)))) := by
  unfold sRev
  rw [pName_R]
  dsimp only
  rw [atP_R, h]
  dsimp only
  rw [sub_nil]
  dsimp only
  rw [if_pos hn, putP_R, h]
  dsimp only
  rw [repl_nil]
  simp
end
end K33
set_option Elab.async false
set_option linter.all false
set_option maxRecDepth 100000
set_option maxHeartbeats 4000000
namespace K33
open PySem L2
def RePx (o : Option SO) (P : D → Prop) : Prop := ∃ d, Re o d ∧ P d
theorem while_out {c : TF} {b : SF} {P : DSt → Prop} {Q : D → Prop} (Inv : Nat → DSt → Prop) (h : ∀ m S, Inv m S → (c S = some (.ok false) ∧ P S) ∨ (c S = some (.ok true) ∧ (RePx (b S) Q ∨ Go (b S) fun S' => ∃ m', m' < m ∧ Inv m' S'))) : ∀ (n m : Nat) (S : DSt), m < n → Inv m S → RePx (whileD c b n S) Q ∨ Go (whileD c b n S) P
  | 0, m, S, hm, _ => by omega
  | n + 1, m, S, hm, hi => by
    rcases h m S hi with ⟨e, p⟩ | ⟨e, ⟨d, ⟨S', e2⟩, q⟩ | ⟨S', e2, m', hm', hi'⟩⟩
    · refine .inr ⟨S, ?_, p⟩
      unfold whileD
      rw [e]
    · refine .inl ⟨d, ⟨S', ?_⟩, q⟩
      unfold whileD
      rw [e]
      dsimp only
      rw [e2]
    · have ih := while_out Inv h n m' S' (by omega) hi'
      have : whileD c b (n + 1) S = whileD c b n S' := by
        conv => lhs; unfold whileD
        rw [e]
        dsimp only
        rw [e2]
      rw [this]; exact ih
theorem sWhile_out {c : TF} {b g : SF} {P : DSt → Prop} {Q : D → Prop} {n : DSt → Nat} {S : DSt} (Inv : Nat → DSt → Prop) (m : Nat) (hm : m < n S) (hi : Inv m S) (h : ∀ m S, Inv m S → (c S = some (.ok false) ∧ P S) ∨ (c S = some (.ok true) ∧ (RePx (b S) Q ∨ Go (b S) fun S' => ∃ m', m' < m ∧ Inv m' S'))) (hg : ∀ S, P S → RePx (g S) Q) : RePx (sSeq (sWhile n c b) g S) Q := by
  rcases while_out Inv h _ m S hm hi with ⟨d, e, q⟩ | ⟨S', e, p⟩
  · exact ⟨d, re_early e, q⟩
  · obtain ⟨d, e2, q⟩ := hg S' p
    exact ⟨d, re_seq ⟨S', e, e2⟩, q⟩
theorem repx_seq {f g : SF} {S : DSt} {P : D → Prop} (h : Go (f S) fun S' => RePx (g S') P) : RePx (sSeq f g S) P := by
  obtain ⟨S1, e1, d, h1, h2⟩ := h
  exact ⟨d, re_seq ⟨S1, e1, h1⟩, h2⟩
theorem repx_fin {n m : Nat} {f : SF} {ds : List D} {P : D → Prop} (hl : ds.length = n) (h : RePx (f (startD m ds)) P) : ∃ d, finF n m f ds = some (.ok (d, true)) ∧ P d := let ⟨d, e, p⟩ := h; ⟨d, fin_re hl e, p⟩
/-- where the least one stands first -/
def ixL (R : List Nat) : Nat := ((leastI (nI R)).bind fun m => ixOf (nI R) m).getD 0
def rotL (R : List Nat) : List Nat := R.drop (ixL R) ++ R.take (ixL R)
theorem least_first_x {R : List Nat} (h : R ≠ []) (hl : R.length ≤ 100000) : ixL R < R.length ∧ (∃ m, leastI (nI R) = some m ∧ ixOf (nI R) m = some (ixL R)) ∧ F_least_first [.lst ((nI R).map D.int)] = some (.ok (.lst ((nI (rotL R)).map D.int), true)) := by
  obtain ⟨m, hm⟩ : ∃ m, leastI (nI R) = some m := by
    cases R with
    | nil => exact absurd rfl h
    | cons r R => exact ⟨_, rfl⟩
  obtain ⟨a, ha⟩ := ixOf_mem (leastI_iff hm).1
  have al : a < (nI R).length := (List.getElem?_eq_some_iff.mp (ixOf_some ha).1).1
  have al' : a < R.length := by simpa using al
  have ea : ixL R = a := by unfold ixL; rw [hm]; show (ixOf (nI R) m).getD 0 = a; rw [ha]; rfl
  refine ⟨by rw [ea]; exact al', ⟨m, hm, by rw [ea]; exact ha⟩, ?_⟩
  unfold rotL
  rw [ea]
  have c1 := cut_fromN (R := nI R) (a := a) (by omega)
  have c2 := cut_to (nI R) a
  have nm := numsD_ints (nI R)
  have ix := index_R (g := eVar 0) (fa := aCons (eMinL (aCons (eVar 0) aNil)) aNil) (S := [some (false, .lst ((nI R).map D.int)), none]) (k := .safe) (k' := .bor []) (by rfl) (by
    generalize (nI R).map D.int = RD at *
    simp [nm, hm]) ha
  have l1 : ((nI R).drop a ++ (nI R).take a).map D.int = ((nI R).drop a).map D.int ++ ((nI R).take a).map D.int := List.map_append
  have e : (nI (R.drop a ++ R.take a)) = (nI R).drop a ++ (nI R).take a := by
    show List.map _ _ = _
    rw [List.map_append, List.map_drop, List.map_take]
  rw [e, l1]
  have n1 := nls_ints ((nI R).drop a)
  have n2 := nls_ints ((nI R).take a)
  have len : (((nI R).drop a).map D.int).length + (((nI R).take a).map D.int).length ≤ 100000 := by
    simp; omega
  generalize ((nI R).drop a).map D.int = DD at *
  generalize ((nI R).take a).map D.int = TD at *
  generalize (nI R).map D.int = RD at *
  refine fin_re rfl ?_
  unfold f_least_first
  refine re_seq (go_to (S := [some (false, .lst RD), some (false, .int (a : Nat))]) ?_ ?_)
  · show sAsg _ _ [some (false, .lst RD), none] = _
    rw [sAsg_R, ix]
    simp
  · unfold Re
    simp (disch := omega) [c1, c2, n1, n2, ifp]
/-- what is told of a place -/
def JoinR (f : Nat → Int) (sz m x : Nat) (d : D) : Prop := (∃ i, i ≤ sz * m ∧ tr f sz x i % sz = 0 ∧ (∀ j, j < i → tr f sz x j % sz ≠ 0) ∧ d = .tup [.str "in", .int ((tr f sz x i - x : Nat) : Int)]) ∨ (∃ R, Ring (sc f sz m) R ∧ (∃ i, tr f sz x i % (sz * m) ∈ R) ∧ (∀ i, tr f sz x i % sz ≠ 0) ∧ d = .tup [.str "never", .lst ((nI (rotL R)).map D.int)])
theorem nI_len (R : List Nat) : (nI R).length = R.length := by simp
theorem join_at_eq {b : Nat} {c : Str} {ws : List Int} (hf : FormOk b c) (h1 : 0 < ws.length) (hm : ws.length ≤ 100) (x : Nat) : ∃ d, F_join_at [.lst ((rL b c ws).map D.int), .int (szI b c), .int (x : Nat)] = some (.ok (d, true)) ∧ JoinR (rF b c ws) (szM b c) ws.length x d := by
  have R := rd_of hf h1
  have z := hf.sz
  have sI := szM_I b c
  rw [← sI]
  have hn : 0 < (rL b c ws).length := by rw [rL_len]; exact Nat.mul_pos (by omega) h1
  have hN : (rL b c ws).length = szM b c * ws.length := rL_len b c ws
  have mm : szM b c * ws.length ≤ 19 * 100 := Nat.mul_le_mul (by omega) hm
  have hat : ∀ p : Nat, atI ((rL b c ws).map D.int) ((p : Int) % (((rL b c ws).map D.int).length : Int)) = some (.int (rF b c ws p)) := by rw [List.length_map]; exact rF_atI hn
  have sf := fun p (a : Int) ha => start_from_eq (b := b) (c := c) (ws := ws) hf h1 p (a := a) ha
  have hL : ((rL b c ws).map D.int).length = szM b c * ws.length := by rw [List.length_map, hN]
  have s0 : 0 < szM b c := by omega
  have s2 := R.s2
  have hv := R.v
  generalize hff : rF b c ws = f at *
  generalize (rL b c ws).map D.int = LD at *
  generalize hsz : szM b c = n at *
  generalize ws.length = m at *
  have hL0 : 0 < LD.length := by rw [hL]; exact Nat.mul_pos (by omega) h1
  have hs : ∀ k, tr f n x (k + 1) % (n * m) = sc f n m (tr f n x k % (n * m)) := fun k => (sc_mod R (tr f n x k)).symm
  refine repx_fin rfl ?_
  unfold f_join_at
  refine repx_seq (go_to (S := [some (false, .lst LD), some (false, .int (n : Nat)), some (false, .int (x : Nat)), some (true, .lst []), none, none, none]) (by simp) ?_)
  have sf0 := sf x 1 (.inr rfl)
  refine repx_seq (go_to (S := [some (false, .lst LD), some (false, .int (n : Nat)), some (false, .int (x : Nat)), some (true, .lst []), some (false, .int ((tr f n x 0 : Nat) : Int)), none, none]) (by show sAsg _ _ _ = _; simp [sf0]; rfl) ?_)
  refine sWhile_out (P := fun S => ∃ i v3 v5 v6, S = [some (false, .lst LD), some (false, .int (n : Nat)), some (false, .int (x : Nat)), v3, some (false, .int ((tr f n x i : Nat) : Int)), v5, v6] ∧ i ≤ n * m ∧ tr f n x i % n = 0 ∧ ∀ j, j < i → tr f n x j % n ≠ 0) (fun k S => ∃ i v5 v6, S = [some (false, .lst LD), some (false, .int (n : Nat)), some (false, .int (x : Nat)), some (true, .lst ((nI ((List.range i).map fun k => tr f n x k % (n * m))).map D.int)), some (false, .int ((tr f n x i : Nat) : Int)), v5, v6] ∧ i ≤ n * m ∧ k = n * m - i ∧ (∀ j, j < i → tr f n x j % n ≠ 0) ∧ ∀ j j', j < i → j' < i → tr f n x j % (n * m) = tr f n x j' % (n * m) → j = j') (n * m) (show n * m < 1000000000 by omega) ⟨0, none, none, rfl, by omega, by omega, fun j hj => by omega, fun j j' hj => by omega⟩ ?_ ?_
  · rintro k S ⟨i, v5, v6, rfl, hi, rfl, hz, hd⟩
    obtain ⟨t, ht⟩ : ∃ t, tr f n x i = t := ⟨_, rfl⟩
    rw [ht]
    have test : ∀ B : List D, tB1 (eNe (eMod (eVar 4) (eVar 1)) (eC (.int 0))) [some (false, .lst LD), some (false, .int (n : Nat)), some (false, .int (x : Nat)), some (true, .lst B), some (false, .int (t : Nat)), v5, v6] = some (.ok (decide (t % n ≠ 0))) := fun B => by
      have e : ((t : Int) % (n : Int) = 0) ↔ t % n = 0 := by omega
      simp [s0, e]
    rw [test]
    by_cases h0 : t % n = 0
    · left
      refine ⟨by simp [h0], i, _, v5, v6, by rw [ht], hi, by rw [ht]; exact h0, hz⟩
    · right
      refine ⟨by simp [h0], ?_⟩
      obtain ⟨hh, hhh⟩ : ∃ hh, t % (n * m) = hh := ⟨_, rfl⟩
      have em : (t : Int) % (LD.length : Int) = ((hh : Nat) : Int) := by rw [hL, ← hhh]; omega
      have hB : ∀ y : Nat, (y : Int) ∈ nI ((List.range i).map fun k => tr f n x k % (n * m)) ↔ ∃ j, j < i ∧ tr f n x j % (n * m) = y := fun y => by
        unfold nI
        rw [List.map_map, List.mem_map]
        constructor
        · rintro ⟨j, hj, e⟩; exact ⟨j, List.mem_range.mp hj, by have : ((tr f n x j % (n * m) : Nat) : Int) = y := e; omega⟩
        · rintro ⟨j, hj, e⟩; exact ⟨j, List.mem_range.mpr hj, by show ((tr f n x j % (n * m) : Nat) : Int) = y; rw [e]⟩
      have hin := gIn_A false (nI ((List.range i).map fun k => tr f n x k % (n * m))) hh
      by_cases hmem : (hh : Int) ∈ nI ((List.range i).map fun k => tr f n x k % (n * m))
      · left
        rw [show (if false = true then !has _ (hh : Int) else has _ (hh : Int)) = true from has_iff.mpr hmem] at hin
        obtain ⟨j, hj⟩ := ixOf_mem hmem
        have hix := (ixOf_some hj).1
        have jl : j < i := by
          have := (List.getElem?_eq_some_iff.mp hix).1
          simpa using this
        have hjt : tr f n x j % (n * m) = hh := by
          unfold nI at hix
          rw [List.map_map, List.getElem?_map, List.getElem?_range jl] at hix
          have : some (((tr f n x j % (n * m) : Nat) : Int)) = some (hh : Int) := hix
          have := Option.some.inj this
          omega
        have c1 := cut_fromN (R := nI ((List.range i).map fun k => tr f n x k % (n * m))) (a := j) (by rw [nI_len]; simp; omega)
        have dr : (nI ((List.range i).map fun k => tr f n x k % (n * m))).drop j = nI ((List.range (i - j)).map fun t => tr f n x (j + t) % (n * m)) := by
          unfold nI
          rw [List.map_map, List.map_map]
          refine List.ext_getElem (by simp) fun k q1 q2 => ?_
          rw [List.getElem_drop, List.getElem_map, List.getElem_map, List.getElem_range, List.getElem_range]
          rfl
        rw [dr] at c1
        have rg := ring_of (h := fun k => tr f n x k % (n * m)) hs jl (show tr f n x i % (n * m) = tr f n x j % (n * m) by rw [ht, hhh, hjt]) hd
        have al := all_of (h := fun k => tr f n x k % (n * m)) (P := fun y => y % n ≠ 0) hs jl (show tr f n x i % (n * m) = tr f n x j % (n * m) by rw [ht, hhh, hjt]) (fun y hy => by show tr f n x y % (n * m) % n ≠ 0; rw [mod_sz]; exact hz y hy)
        have rl : ((List.range (i - j)).map fun t => tr f n x (j + t) % (n * m)).length = i - j := by simp
        obtain ⟨_, _, lf⟩ := least_first_x (R := (List.range (i - j)).map fun t => tr f n x (j + t) % (n * m)) (by intro h; rw [h] at rl; simp at rl; omega) (by rw [rl]; omega)
        have memR : tr f n x j % (n * m) ∈ (List.range (i - j)).map fun t => tr f n x (j + t) % (n * m) := List.mem_map.mpr ⟨0, List.mem_range.mpr (by omega), rfl⟩
        have nB := nls_ints (nI ((List.range i).map fun k => tr f n x k % (n * m)))
        have nC := nls_ints (nI ((List.range (i - j)).map fun t => tr f n x (j + t) % (n * m)))
        have ix := index_R (g := eVar 3) (fa := aCons (eVar 5) aNil) (S := [some (false, .lst LD), some (false, .int (n : Nat)), some (false, .int (x : Nat)), some (true, .lst ((nI ((List.range i).map fun k => tr f n x k % (n * m))).map D.int)), some (false, .int (t : Nat)), some (false, .int (hh : Nat)), v6]) (k := .bor [3]) (k' := .bor []) (by rfl) (by rfl) hj
        refine ⟨_, re_seq (go_to (S := [some (false, .lst LD), some (false, .int (n : Nat)), some (false, .int (x : Nat)), some (true, .lst ((nI ((List.range i).map fun k => tr f n x k % (n * m))).map D.int)), some (false, .int (t : Nat)), some (false, .int (hh : Nat)), v6]) (by
          clear ix hin lf c1 hix dr
          generalize (nI ((List.range i).map fun k => tr f n x k % (n * m))).map D.int = BD at *
          simp [hL0, em]) (re_early ?_)), .inr ⟨_, rg, ⟨j, memR⟩, fun y => by have := al y; rw [mod_sz] at this; exact this, rfl⟩⟩
        clear hB hmem hj hix dr rg al memR
        generalize (nI ((List.range i).map fun k => tr f n x k % (n * m))).map D.int = BD at *
        generalize (nI ((List.range (i - j)).map fun t => tr f n x (j + t) % (n * m))).map D.int = CD at *
        generalize (nI (rotL ((List.range (i - j)).map fun t => tr f n x (j + t) % (n * m)))).map D.int = ED at *
        unfold Re
        simp [hin, ix, c1, lf, nB, nC]
      · right
        have hno : has (nI ((List.range i).map fun k => tr f n x k % (n * m))) (hh : Int) = false := by
          cases e : has (nI ((List.range i).map fun k => tr f n x k % (n * m))) (hh : Int) with
          | false => rfl
          | true => exact absurd (has_iff.mp e) hmem
        rw [show (if false = true then !has _ (hh : Int) else has _ (hh : Int)) = false from hno] at hin
        have hnx := fun j hj => (fun e => hmem ((hB hh).mpr ⟨j, hj, e⟩) : tr f n x j % (n * m) ≠ hh)
        have hd' : ∀ j j', j < i + 1 → j' < i + 1 → tr f n x j % (n * m) = tr f n x j' % (n * m) → j = j' := fun j j' hj hj' e => by
          by_cases e1 : j = i
          · by_cases e2 : j' = i
            · omega
            · subst e1; rw [ht, hhh] at e; exact absurd e.symm (hnx j' (by omega))
          · by_cases e2 : j' = i
            · subst e2; rw [ht, hhh] at e; exact absurd e (hnx j (by omega))
            · exact hd j j' (by omega) (by omega) e
        have pg : i + 1 ≤ n * m := by
          have nd : ((List.range (i + 1)).map fun k => tr f n x k % (n * m)).Nodup := by
            unfold List.Nodup
            rw [List.pairwise_map]
            refine List.Pairwise.imp_of_mem (fun {p q} hp hq h e => h (hd' p q (List.mem_range.mp hp) (List.mem_range.mp hq) e)) (List.nodup_range (n := i + 1))
          have := pigeon (n := n * m) nd fun y hy => by
            obtain ⟨k, _, rfl⟩ := List.mem_map.mp hy
            exact Nat.mod_lt _ (by rw [← hL]; exact hL0)
          simpa using this
        have bl : ((nI ((List.range i).map fun k => tr f n x k % (n * m))).map D.int).length < 16777216 := by simp; omega
        have ba : (nI ((List.range (i + 1)).map fun k => tr f n x k % (n * m))).map D.int = (nI ((List.range i).map fun k => tr f n x k % (n * m))).map D.int ++ [.int (hh : Nat)] := by
          unfold nI
          rw [List.range_succ, List.map_append, List.map_append, List.map_append]
          simp only [List.map_cons, List.map_nil]
          rw [ht, hhh]
        have nx' : tr f n x (i + 1) = nb f n (t + n) (f (t + n - 1)) := by show nx f n (tr f n x i) = _; rw [ht]; rfl
        have hat1 := hat (t + n - 1)
        have ec : ((t + n - 1 : Nat) : Int) = (t : Int) + (n : Int) - 1 := by omega
        rw [ec] at hat1
        have sf1 := sf (t + n) (f (t + n - 1)) (hv _)
        have ec2 : ((t + n : Nat) : Int) = (t : Int) + (n : Int) := by omega
        rw [ec2, ← nx'] at sf1
        have fin : ∃ i' v5 v6, [some (false, D.lst LD), some (false, .int (n : Nat)), some (false, .int (x : Nat)), some (true, .lst ((nI ((List.range (i + 1)).map fun k => tr f n x k % (n * m))).map D.int)), some (false, .int ((tr f n x (i + 1) : Nat) : Int)), some (false, .int (hh : Nat)), some (false, .int (f (t + n - 1)))] = [some (false, D.lst LD), some (false, .int (n : Nat)), some (false, .int (x : Nat)), some (true, .lst ((nI ((List.range i').map fun k => tr f n x k % (n * m))).map D.int)), some (false, .int ((tr f n x i' : Nat) : Int)), v5, v6] ∧ i' ≤ n * m ∧ n * m - (i + 1) = n * m - i' ∧ (∀ j, j < i' → tr f n x j % n ≠ 0) ∧ ∀ j j', j < i' → j' < i' → tr f n x j % (n * m) = tr f n x j' % (n * m) → j = j' := ⟨i + 1, _, _, rfl, pg, rfl, fun j hj => by
          by_cases e1 : j = i
          · subst e1; rw [ht]; exact h0
          · exact hz j (by omega), hd'⟩
        rw [ba] at fin
        clear ba hB hmem hno hnx
        generalize (nI ((List.range i).map fun k => tr f n x k % (n * m))).map D.int = BD at *
        generalize f (t + n - 1) = fl at *
        generalize tr f n x (i + 1) = t' at *
        refine go_seq (go_to (S := [some (false, .lst LD), some (false, .int (n : Nat)), some (false, .int (x : Nat)), some (true, .lst BD), some (false, .int (t : Nat)), some (false, .int (hh : Nat)), v6]) (by simp [hL0, em]) ?_)
        refine go_seq (go_to (S := [some (false, .lst LD), some (false, .int (n : Nat)), some (false, .int (x : Nat)), some (true, .lst BD), some (false, .int (t : Nat)), some (false, .int (hh : Nat)), v6]) (by simp [hin]) ?_)
        refine go_seq (go_to (S := [some (false, .lst LD), some (false, .int (n : Nat)), some (false, .int (x : Nat)), some (true, .lst (BD ++ [.int (hh : Nat)])), some (false, .int (t : Nat)), some (false, .int (hh : Nat)), v6]) (by simp [bl]) ?_)
        refine go_seq (go_to (S := [some (false, .lst LD), some (false, .int (n : Nat)), some (false, .int (x : Nat)), some (true, .lst (BD ++ [.int (hh : Nat)])), some (false, .int (t : Nat)), some (false, .int (hh : Nat)), some (false, .int fl)]) (by simp [hL0, hat1]) ?_)
        exact go_to (S := [some (false, .lst LD), some (false, .int (n : Nat)), some (false, .int (x : Nat)), some (true, .lst (BD ++ [.int (hh : Nat)])), some (false, .int (t' : Nat)), some (false, .int (hh : Nat)), some (false, .int fl)]) (by simp [sf1]) ⟨n * m - (i + 1), by omega, fin⟩
  · rintro S ⟨i, v3, v5, v6, rfl, hi, h0, hz⟩
    have ge : x ≤ tr f n x i := by
      have a0 := tr_from (f := f) (sz := n) x
      cases i with
      | zero => exact a0
      | succ i => have := tr_mono (f := f) (sz := n) x (i := 0) (j := i + 1) (by omega); omega
    refine ⟨.tup [.str "in", .int ((tr f n x i - x : Nat) : Int)], ?_, .inl ⟨i, hi, h0, hz, rfl⟩⟩
    have e : ((tr f n x i - x : Nat) : Int) = (tr f n x i : Int) - (x : Int) := by omega
    rw [e]
    generalize tr f n x i = t at *
    unfold Re
    simp
end K33
set_option Elab.async false
set_option linter.all false
set_option maxRecDepth 100000
set_option maxHeartbeats 4000000
namespace K33
open PySem L2
def it (s : Nat → Nat) : Nat → Nat → Nat
  | 0, m => m
  | k + 1, m => s (it s k m)
theorem turn_eq {g : Nat → Nat} {n a : Nat} (h1 : ∀ t, g (t + n) = g t) (ha : a < n) : ((List.range n).map g).drop a ++ ((List.range n).map g).take a = (List.range n).map fun t => g (a + t) := by
  refine List.ext_getElem (by simp; omega) fun i hi _ => ?_
  simp only [List.length_append, List.length_drop, List.length_take, List.length_map, List.length_range] at hi
  rw [List.getElem_map, List.getElem_range]
  by_cases c : i < n - a
  · rw [List.getElem_append_left (by simp; omega), List.getElem_drop, List.getElem_map, List.getElem_range]
  · rw [List.getElem_append_right (by simp; omega), List.getElem_take, List.getElem_map, List.getElem_range]
    simp only [List.length_drop, List.length_map, List.length_range]
    rw [← h1 (i - (n - a))]
    congr 1; omega
theorem ixL_facts {R : List Nat} (h : R ≠ []) : ∃ hlt : ixL R < R.length, ∀ y ∈ R, R[ixL R] ≤ y := by
  obtain ⟨m, hm⟩ : ∃ m, leastI (nI R) = some m := by
    cases R with
    | nil => exact absurd rfl h
    | cons r R => exact ⟨_, rfl⟩
  obtain ⟨a, ha⟩ := ixOf_mem (leastI_iff hm).1
  have hg := (ixOf_some ha).1
  have al : a < (nI R).length := (List.getElem?_eq_some_iff.mp hg).1
  have al' : a < R.length := by simpa using al
  have ea : ixL R = a := by unfold ixL; rw [hm]; show (ixOf (nI R) m).getD 0 = a; rw [ha]; rfl
  refine ⟨by rw [ea]; exact al', fun y hy => ?_⟩
  have hv : ((R[a] : Nat) : Int) = m := by
    unfold nI at hg
    rw [List.getElem?_map, List.getElem?_eq_getElem al'] at hg
    exact Option.some.inj hg
  have := (leastI_iff hm).2 (y : Int) (List.mem_map.mpr ⟨y, hy, rfl⟩)
  have e2 : R[ixL R]'(by rw [ea]; exact al') = R[a] := by congr 1
  rw [e2]
  omega
theorem ring_facts {s : Nat → Nat} {R : List Nat} (h : Ring s R) : ∃ n m, 0 < n ∧ rotL R = (List.range n).map (fun k => it s k m) ∧ m ∈ R ∧ (∀ y ∈ R, m ≤ y) ∧ it s n m = m ∧ (∀ k, 0 < k → k < n → it s k m ≠ m) ∧ (∀ y ∈ R, ∃ j, it s j y = m) ∧ (∀ y ∈ R, ∀ j, it s j y ∈ R) := by
  obtain ⟨n, g, n0, rfl, g1, g2, g3⟩ := h
  have hne : (List.range n).map g ≠ [] := by
    intro z
    have := congrArg List.length z
    simp at this; omega
  obtain ⟨hlt, hle⟩ := ixL_facts hne
  have hlt' : ixL ((List.range n).map g) < n := by simpa using hlt
  have hm : ((List.range n).map g)[ixL ((List.range n).map g)] = g (ixL ((List.range n).map g)) := by simp
  rw [hm] at hle
  unfold rotL
  generalize ixL ((List.range n).map g) = a at *
  have gi : ∀ k t, it s k (g t) = g (t + k) := by
    intro k t
    induction k with
    | zero => rfl
    | succ k ih => show s (it s k (g t)) = _; rw [ih, g2, Nat.add_assoc]
  have memg : ∀ t, g t ∈ (List.range n).map g := fun t => by
    rw [← per_mod g1 t]
    exact List.mem_map.mpr ⟨t % n, List.mem_range.mpr (Nat.mod_lt _ n0), rfl⟩
  refine ⟨n, g a, n0, ?_, memg a, hle, by rw [gi, g1], fun k k0 kn e => ?_, fun y hy => ?_, fun y hy j => ?_⟩
  · rw [turn_eq g1 hlt']
    exact List.map_congr_left fun t _ => (gi t a).symm
  · rw [gi] at e
    by_cases c : a + k < n
    · have := g3 (a + k) a c hlt' e; omega
    · have e' : g (a + k - n) = g a := by rw [← g1 (a + k - n), show a + k - n + n = a + k by omega]; exact e
      have := g3 (a + k - n) a (by omega) hlt' e'; omega
  · obtain ⟨t, ht, rfl⟩ := List.mem_map.mp hy
    have ht := List.mem_range.mp ht
    exact ⟨n - t + a, by rw [gi, show t + (n - t + a) = a + n by omega, g1]⟩
  · obtain ⟨t, _, rfl⟩ := List.mem_map.mp hy
    rw [gi]; exact memg _
theorem rot_unique {s : Nat → Nat} {R1 R2 : List Nat} (h1 : Ring s R1) (h2 : Ring s R2) {y : Nat} (y1 : y ∈ R1) (y2 : y ∈ R2) : rotL R1 = rotL R2 := by
  obtain ⟨n1, m1, a0, a1, a2, a3, a4, a5, a6, a7⟩ := ring_facts h1
  obtain ⟨n2, m2, b0, b1, b2, b3, b4, b5, b6, b7⟩ := ring_facts h2
  obtain ⟨j1, e1⟩ := a6 y y1
  obtain ⟨j2, e2⟩ := b6 y y2
  have l1 := a3 m2 (by rw [← e2]; exact a7 y y1 j2)
  have l2 := b3 m1 (by rw [← e1]; exact b7 y y2 j1)
  have em : m1 = m2 := by omega
  subst em
  have en : n1 = n2 := by
    rcases Nat.lt_trichotomy n1 n2 with h | h | h
    · exact absurd a4 (b5 n1 a0 h)
    · exact h
    · exact absurd b4 (a5 n2 b0 h)
  rw [a1, b1, en]
theorem join_unique {f : Nat → Int} {sz m x : Nat} (R : Rd f sz m) {d d' : D} (h : JoinR f sz m x d) (h' : JoinR f sz m x d') : d = d' := by
  rcases h with ⟨i, _, i1, i2, rfl⟩ | ⟨R1, r1, ⟨i, hi⟩, z1, rfl⟩
  · rcases h' with ⟨j, _, j1, j2, rfl⟩ | ⟨R2, r2, ⟨j, hj⟩, z2, rfl⟩
    · have : i = j := by
        rcases Nat.lt_trichotomy i j with h | h | h
        · exact absurd i1 (j2 i h)
        · exact h
        · exact absurd j1 (i2 j h)
      rw [this]
    · exact absurd i1 (z2 i)
  · rcases h' with ⟨j, _, j1, j2, rfl⟩ | ⟨R2, r2, ⟨j, hj⟩, z2, rfl⟩
    · exact absurd j1 (z1 j)
    · have step : ∀ i t, it (sc f sz m) t (tr f sz x i % (sz * m)) = tr f sz x (i + t) % (sz * m) := by
        intro i t
        induction t with
        | zero => rfl
        | succ t ih =>
          show sc f sz m (it (sc f sz m) t (tr f sz x i % (sz * m))) = _
          rw [ih, sc_mod R]; rfl
      obtain ⟨_, _, _, _, _, _, _, _, _, c1⟩ := ring_facts r1
      obtain ⟨_, _, _, _, _, _, _, _, _, c2⟩ := ring_facts r2
      have e1 := c1 _ hi j
      have e2 := c2 _ hj i
      rw [step] at e1 e2
      rw [Nat.add_comm j i] at e2
      rw [rot_unique r1 r2 e1 e2]
/-- begins that come round again, from a place on -/
theorem ring_gen {s : Nat → Nat} {h : Nat → Nat} (hs : ∀ k, h (k + 1) = s (h k)) {p n : Nat} (n0 : 0 < n) (he : h (p + n) = h p) (hd : ∀ t t', t < n → t' < n → h (p + t) = h (p + t') → t = t') : Ring s ((List.range n).map fun t => h (p + t)) := by
  refine ⟨n, fun t => h (p + t), n0, rfl, fun t => ?_, fun t => (hs (p + t)).symm, hd⟩
  show h (p + (t + n)) = h (p + t)
  induction t with
  | zero => rw [Nat.zero_add]; exact he
  | succ t ih => rw [show p + (t + 1 + n) = (p + (t + n)) + 1 by omega, hs, ih, ← hs]; rfl
theorem back {s : Nat → Nat} {h : Nat → Nat} (hs : ∀ k, h (k + 1) = s (h k)) {a b : Nat} (he : h a = h b) : ∀ t, h (a + t) = h (b + t)
  | 0 => he
  | t + 1 => by rw [← Nat.add_assoc, ← Nat.add_assoc, hs, hs, back hs he t]
/-- the last of more begins than places has been one before -/
theorem again {s : Nat → Nat} {h : Nat → Nat} {N : Nat} (hs : ∀ k, h (k + 1) = s (h k)) (hb : ∀ k, h k < N) : ∃ p, p < N ∧ h p = h N := by
  have key : ∃ i j, j < i ∧ i ≤ N ∧ h i = h j := by
    refine Classical.byContradiction fun no => ?_
    have nd : ((List.range (N + 1)).map h).Nodup := by
      unfold List.Nodup
      rw [List.pairwise_map]
      refine List.Pairwise.imp_of_mem (fun {p q} hp hq hne e => ?_) (List.nodup_range (n := N + 1))
      have hp := List.mem_range.mp hp
      have hq := List.mem_range.mp hq
      rcases Nat.lt_trichotomy p q with z | z | z
      · exact no ⟨q, p, z, by omega, e.symm⟩
      · exact hne z
      · exact no ⟨p, q, z, by omega, e⟩
    have := pigeon (n := N) nd fun y hy => by
      obtain ⟨k, _, rfl⟩ := List.mem_map.mp hy
      exact hb k
    simp at this
    omega
  obtain ⟨i, j, ji, iN, e⟩ := key
  have := back hs e (N - i)
  rw [show i + (N - i) = N by omega] at this
  exact ⟨j + (N - i), by omega, this.symm⟩
end K33
set_option Elab.async false
set_option linter.all false
set_option maxRecDepth 100000
set_option maxHeartbeats 4000000
namespace K33
open PySem L2
theorem law_begin_from_eq {b : Nat} {c : Str} {ws : List Int} (hf : FormOk b c) (h1 : 0 < ws.length) (p : Nat) {a : Int} (ha : a = 0 ∨ a = 1) : F__law_begin_from [.lst ((rL b c ws).map D.int), .int (p : Nat), .int a] = some (.ok (.int ((nb (rF b c ws) (szM b c) p a : Nat) : Int), true)) := by
  have R := rd_of hf h1
  have z := hf.sz
  have sI := szM_I b c
  have hn : 0 < (rL b c ws).length := by rw [rL_len]; exact Nat.mul_pos (by omega) h1
  have hat := rF_atI (b := b) (c := c) (ws := ws) hn
  have hn' : 0 < ((rL b c ws).map D.int).length := by rw [List.length_map]; omega
  have hat : ∀ p : Nat, atI ((rL b c ws).map D.int) ((p : Int) % (((rL b c ws).map D.int).length : Int)) = some (.int (rF b c ws p)) := by rw [List.length_map]; exact hat
  generalize (rL b c ws).map D.int = LD at *
  refine fin_re rfl ?_
  unfold f__law_begin_from
  refine re_seq ((sWhileC_go (P := fun S => ∃ v2, S = [some (false, .lst LD), some (false, .int ((nb (rF b c ws) (szM b c) p a : Nat) : Int)), v2]) (fun k S => ∃ (p' : Nat) (a' : Int), S = [some (false, .lst LD), some (false, .int (p' : Nat)), some (false, .int a')] ∧ Nr (szM b c) k p' a' ∧ (a' = 0 ∨ a' = 1) ∧ nb (rF b c ws) k p' a' = nb (rF b c ws) (szM b c) p a) (szM b c) (show szM b c < 1000000000 by omega) ⟨p, a, rfl, Nr.all R _ _, ha, rfl⟩ ?_).imp ?_)
  · rintro k S ⟨p', a', rfl, nr, ha', he⟩
    have hp := hat p'
    have h01 := R.v p'
    generalize hx : rF b c ws p' = x at *
    have test : tNotD (tAndD (tB1 (eEq (eVar 2) (eC (.int 1)))) (tB1 (eEq (eIx (eVar 0) (eMod (eVar 1) (eLen (aCons (eVar 0) aNil)))) (eC (.int 0))))) [some (false, .lst LD), some (false, .int (p' : Nat)), some (false, .int a')] = some (.ok (decide (x = 1 ∨ a' = 0))) := by
      rcases ha' with rfl | rfl
      · simp
      · rcases h01 with rfl | rfl
        · simp [hn', hp]
        · simp [hn', hp]
    rw [test]
    by_cases h : x = 1 ∨ a' = 0
    · rw [decide_eq_true h]
      refine .inr ⟨rfl, goC_of ?_⟩
      have hk : ∃ k', k = k' + 1 := by
        cases k with
        | zero => have := nr.zero R; rw [hx] at this; exact absurd h this.1
        | succ k' => exact ⟨k', rfl⟩
      obtain ⟨k', rfl⟩ := hk
      have ns := nr.step R (by rw [hx]; exact h)
      rw [hx] at ns
      have hu : nb (rF b c ws) (k' + 1) p' a' = nb (rF b c ws) k' (p' + 1) x := by
        conv => lhs; unfold nb
        rw [hx, if_pos h]
      rw [hu] at he
      refine go_seq (go_to (S := [some (false, .lst LD), some (false, .int (p' : Nat)), some (false, .int x)]) (by simp [hn', hp]) ?_)
      exact go_to (S := [some (false, .lst LD), some (false, .int ((p' + 1 : Nat) : Int)), some (false, .int x)]) (by simp) ⟨k', by omega, p' + 1, x, rfl, ns, h01, he⟩
    · rw [decide_eq_false h]
      refine .inl ⟨rfl, some (false, .int a'), ?_⟩
      have : nb (rF b c ws) k p' a' = p' := by
        cases k with
        | zero => rfl
        | succ k => unfold nb; rw [hx, if_neg h]
      rw [← he, this]
  · rintro S ⟨v2, rfl⟩
    unfold Re
    simp
theorem for_outx {gf : GF} {b : SF} {Q : D → Prop} (Inv : Nat → DSt → Prop) : ∀ {ds : List D} {S : DSt} (k : Nat), Inv k S → (∀ i d S, ds[i]? = some d → Inv (k + i) S → ∃ S1, gf d .safe S = some S1 ∧ (RePx (b S1) Q ∨ Go (b S1) (Inv (k + i + 1)))) → RePx (forD gf b ds S) Q ∨ Go (forD gf b ds S) (Inv (k + ds.length))
  | [], S, k, h0, _ => .inr ⟨S, rfl, h0⟩
  | d :: ds, S, k, h0, hs => by
    obtain ⟨S1, e1, h1⟩ := hs 0 d S rfl h0
    have step : forD gf b (d :: ds) S = (match b S1 with | some (.nx S2) => forD gf b ds S2 | some (.ct S2) => forD gf b ds S2 | some (.bk S2) => some (.nx S2) | some (.rt d fr S2) => some (.rt d fr S2) | some (.ex x S2) => some (.ex x S2) | none => none) := by
      show (match gf d .safe S with | none => none | some S1 => _) = _
      (rw [e1]) <;> rfl
    rw [step]
    rcases h1 with ⟨d', ⟨S2, e2⟩, q⟩ | ⟨S2, e2, h2⟩
    · left
      refine ⟨d', ⟨S2, ?_⟩, q⟩
      rw [e2]
    · rw [e2]
      have := for_outx (gf := gf) (b := b) Inv (ds := ds) (S := S2) (k + 1) h2 fun i d' S' hd h => by
        have := hs (i + 1) d' S' (by simpa using hd) (by rw [show k + (i + 1) = k + 1 + i by omega]; exact h)
        rw [show k + 1 + i = k + (i + 1) by omega]; exact this
      rw [List.length_cons, show k + (ds.length + 1) = k + 1 + ds.length by omega]
      exact this
theorem sFor_outx {fi : IF} {gf : GF} {b g : SF} {S : DSt} {ds : List D} {P : DSt → Prop} {Q : D → Prop} (e : fi S = some (.ok ds)) (h : RePx (forD gf b ds S) Q ∨ Go (forD gf b ds S) P) (hg : ∀ S, P S → RePx (g S) Q) : RePx (sSeq (sFor fi gf b) g S) Q := by
  have e' : sFor fi gf b S = forD gf b ds S := by unfold sFor; rw [e]
  rcases h with ⟨d, h1, q⟩ | ⟨S', h1, p⟩
  · exact ⟨d, re_early (by rw [e']; exact h1), q⟩
  · obtain ⟨d, h2, q⟩ := hg S' p
    exact ⟨d, re_seq ⟨S', by rw [e']; exact h1, h2⟩, q⟩
theorem rev_range (h : Nat → Nat) (N : Nat) : ((nI ((List.range (N + 1)).map h)).map D.int).reverse.drop 1 = (List.range N).map fun k => D.int ((h (N - 1 - k) : Nat) : Int) := by
  refine List.ext_getElem (by simp) fun k q1 q2 => ?_
  simp at q1
  rw [List.getElem_drop, List.getElem_reverse]
  simp
  rw [show N - (1 + k) = N - 1 - k by omega]
theorem law_join_eq {b : Nat} {c : Str} {ws : List Int} (hf : FormOk b c) (h1 : 0 < ws.length) (hm : ws.length ≤ 100) (x : Nat) : ∃ d, F__law_join [.lst ((rL b c ws).map D.int), .int (szM b c : Nat), .int (x : Nat)] = some (.ok (d, true)) ∧ JoinR (rF b c ws) (szM b c) ws.length x d := by
  have R := rd_of hf h1
  have z := hf.sz
  have sI := szM_I b c
  have hn : 0 < (rL b c ws).length := by rw [rL_len]; exact Nat.mul_pos (by omega) h1
  have hN : (rL b c ws).length = szM b c * ws.length := rL_len b c ws
  have mm : szM b c * ws.length ≤ 19 * 100 := Nat.mul_le_mul (by omega) hm
  have hat : ∀ p : Nat, atI ((rL b c ws).map D.int) ((p : Int) % (((rL b c ws).map D.int).length : Int)) = some (.int (rF b c ws p)) := by rw [List.length_map]; exact rF_atI hn
  have sf := fun p (a : Int) ha => law_begin_from_eq (b := b) (c := c) (ws := ws) hf h1 p (a := a) ha
  have hL : ((rL b c ws).map D.int).length = szM b c * ws.length := by rw [List.length_map, hN]
  have s0 : 0 < szM b c := by omega
  have s2 := R.s2
  have hv := R.v
  generalize hff : rF b c ws = f at *
  generalize (rL b c ws).map D.int = LD at *
  generalize hsz : szM b c = n at *
  generalize ws.length = m at *
  have hL0 : 0 < LD.length := by rw [hL]; exact Nat.mul_pos (by omega) h1
  obtain ⟨N, hNN⟩ : ∃ N, n * m = N := ⟨_, rfl⟩
  have N0 : 0 < N := by rw [← hNN]; exact Nat.mul_pos (by omega) h1
  obtain ⟨h, hh⟩ : ∃ h : Nat → Nat, h = fun k => tr f n x k % N := ⟨_, rfl⟩
  have hs : ∀ k, h (k + 1) = sc f n m (h k) := fun k => by
    rw [hh, ← hNN]; exact (sc_mod R (tr f n x k)).symm
  have hb : ∀ k, h k < N := fun k => by rw [hh]; exact Nat.mod_lt _ N0
  have hLN : LD.length = N := by rw [hL, hNN]
  refine repx_fin rfl ?_
  unfold f__law_join
  refine repx_seq (go_to (S := [some (false, .lst LD), some (false, .int (n : Nat)), some (false, .int (x : Nat)), some (true, .lst []), none, none, none, none, none, none, none]) (by simp) ?_)
  have sf0 := sf x 1 (.inr rfl)
  refine repx_seq (go_to (S := [some (false, .lst LD), some (false, .int (n : Nat)), some (false, .int (x : Nat)), some (true, .lst []), some (false, .int ((tr f n x 0 : Nat) : Int)), none, none, none, none, none, none]) (by show sAsg _ _ _ = _; simp [sf0]; rfl) ?_)
  refine sFor_outx (ds := rangeD 0 ((N + 1 : Nat) : Int)) (P := fun S => ∃ v5 v9, S = [some (false, .lst LD), some (false, .int (n : Nat)), some (false, .int (x : Nat)), some (true, .lst ((nI ((List.range (N + 1)).map h)).map D.int)), some (false, .int ((tr f n x (N + 1) : Nat) : Int)), v5, none, none, none, v9, none] ∧ ∀ j, j < N + 1 → tr f n x j % n ≠ 0) (by
    have : ((LD.length : Nat) : Int) + 1 = ((N + 1 : Nat) : Int) := by omega
    simp (disch := omega) [this, ifp]) ?_ ?_
  · have := for_outx (gf := aName 5) (b := (sSeq (sIf (tB1 (eEq (eMod (eVar 4) (eVar 1)) (eC (.int 0)))) (sRet (eTup (aCons (eC (.str "in")) (aCons (eSub (eVar 4) (eVar 2)) aNil)))) sNext)
  (sSeq (sApp (pName 3) (aCons (eMod (eVar 4) (eLen (aCons (eVar 0) aNil))) aNil))
  (sSeq (sAsg (eAdd (eVar 4) (eVar 1)) (aName 9))
  (sAsg (eCall F__law_begin_from (aCons (eVar 0) (aCons (eVar 9) (aCons (eIx (eVar 0) (eMod (eSub (eVar 9) (eC (.int 1))) (eLen (aCons (eVar 0) aNil)))) aNil)))) (aName 4)))))) (Q := JoinR f n m x) (ds := rangeD 0 ((N + 1 : Nat) : Int)) (S := [some (false, .lst LD), some (false, .int (n : Nat)), some (false, .int (x : Nat)), some (true, .lst []), some (false, .int ((tr f n x 0 : Nat) : Int)), none, none, none, none, none, none]) (fun i S => ∃ v5 v9, S = [some (false, .lst LD), some (false, .int (n : Nat)), some (false, .int (x : Nat)), some (true, .lst ((nI ((List.range i).map h)).map D.int)), some (false, .int ((tr f n x i : Nat) : Int)), v5, none, none, none, v9, none] ∧ ∀ j, j < i → tr f n x j % n ≠ 0) 0 ⟨none, none, rfl, fun j hj => by omega⟩ fun i d S hd hi => ?_
    · rw [rangeD_len, show 0 + (((N + 1 : Nat) : Int) - 0).toNat = N + 1 by omega] at this
      exact this
    · rw [Nat.zero_add] at hi
      obtain ⟨v5, v9, rfl, hz⟩ := hi
      obtain ⟨hi, rfl⟩ := rangeD_get hd
      rw [Int.zero_add, Nat.zero_add]
      have hi : i < N + 1 := by omega
      refine ⟨[some (false, .lst LD), some (false, .int (n : Nat)), some (false, .int (x : Nat)), some (true, .lst ((nI ((List.range i).map h)).map D.int)), some (false, .int ((tr f n x i : Nat) : Int)), some (false, .int (i : Nat)), none, none, none, v9, none], by simp, ?_⟩
      have ge : x ≤ tr f n x i := by
        have a0 := tr_from (f := f) (sz := n) x
        cases i with
        | zero => exact a0
        | succ i => have := tr_mono (f := f) (sz := n) x (i := 0) (j := i + 1) (by omega); omega
      have nx' : tr f n x (i + 1) = nb f n (tr f n x i + n) (f (tr f n x i + n - 1)) := rfl
      have bl : ((nI ((List.range i).map h)).map D.int).length < 16777216 := by simp; omega
      have hhi : h i = tr f n x i % N := by rw [hh]
      have ba : (nI ((List.range (i + 1)).map h)).map D.int = (nI ((List.range i).map h)).map D.int ++ [.int (h i : Nat)] := by
        unfold nI
        rw [List.range_succ, List.map_append, List.map_append, List.map_append]
        rfl
      have sf1 := sf (tr f n x i + n) (f (tr f n x i + n - 1)) (hv _)
      rw [← nx'] at sf1
      have hat1 := hat (tr f n x i + n - 1)
      rw [ba]
      have jin : tr f n x i % n = 0 → JoinR f n m x (.tup [.str "in", .int ((tr f n x i - x : Nat) : Int)]) := fun h0 => .inl ⟨i, by omega, h0, hz, rfl⟩
      generalize (nI ((List.range i).map h)).map D.int = BD at *
      generalize tr f n x (i + 1) = t' at *
      have hz2 : tr f n x i % n ≠ 0 → ∀ j, j < i + 1 → tr f n x j % n ≠ 0 := fun hne j hj => by
        by_cases e : j = i
        · subst e; exact hne
        · exact hz j (by omega)
      generalize ht : tr f n x i = t at *
      generalize hfl : f (t + n - 1) = fl at *
      have e0 : ((t : Int) % (n : Int) = 0) ↔ t % n = 0 := by omega
      have em : (t : Int) % (LD.length : Int) = ((h i : Nat) : Int) := by rw [hLN, hhi]; omega
      have ec : ((t + n - 1 : Nat) : Int) = (t : Int) + (n : Int) - 1 := by omega
      rw [ec] at hat1
      have ec2 : ((t + n : Nat) : Int) = (t : Int) + (n : Int) := by omega
      rw [ec2] at sf1
      by_cases h0 : t % n = 0
      · left
        refine ⟨_, re_early ?_, jin h0⟩
        have e : ((t - x : Nat) : Int) = (t : Int) - (x : Int) := by omega
        rw [e]
        unfold Re
        simp [s0, e0, h0]
      · right
        refine go_seq (go_to (S := [some (false, .lst LD), some (false, .int (n : Nat)), some (false, .int (x : Nat)), some (true, .lst BD), some (false, .int (t : Nat)), some (false, .int (i : Nat)), none, none, none, v9, none]) (by simp [s0, e0, h0]) ?_)
        generalize ((h i : Nat) : Int) = hi' at *
        refine go_seq (go_to (S := [some (false, .lst LD), some (false, .int (n : Nat)), some (false, .int (x : Nat)), some (true, .lst (BD ++ [.int hi'])), some (false, .int (t : Nat)), some (false, .int (i : Nat)), none, none, none, v9, none]) (by simp [hL0, em, bl]) ?_)
        refine go_seq (go_to (S := [some (false, .lst LD), some (false, .int (n : Nat)), some (false, .int (x : Nat)), some (true, .lst (BD ++ [.int hi'])), some (false, .int (t : Nat)), some (false, .int (i : Nat)), none, none, none, some (false, .int ((t : Int) + (n : Int))), none]) (by simp) ?_)
        exact go_to (S := [some (false, .lst LD), some (false, .int (n : Nat)), some (false, .int (x : Nat)), some (true, .lst (BD ++ [.int hi'])), some (false, .int (t' : Nat)), some (false, .int (i : Nat)), none, none, none, some (false, .int ((t : Int) + (n : Int))), none]) (by simp [hL0, hat1, sf1]) ⟨_, _, rfl, hz2 h0⟩
  · rintro S ⟨v5, v9, rfl, hz⟩
    obtain ⟨p0, hp0, ep0⟩ := again hs hb
    have hlen : (nI ((List.range (N + 1)).map h)).length = N + 1 := by simp
    have al : atI ((nI ((List.range (N + 1)).map h)).map D.int) (-1) = some (.int (h N : Nat)) := by
      have := atI_back (ns := nI ((List.range (N + 1)).map h)) (n := N) (m := 1) hlen (by decide)
      rw [show (-((1 : Nat) : Int)) = -1 from rfl] at this
      rw [this]
      congr 2
      unfold nI
      rw [List.map_map, getD_range_map _ _ _ (by omega)]
      rfl
    have rr := rev_range h N
    have nB := nls_ints (nI ((List.range (N + 1)).map h))
    have cutr : ∀ (L : List D), cutD L (some 1) none = L.drop 1 := fun L => by
      unfold cutD
      rw [show (1 : Int) = ((1 : Nat) : Int) from rfl, HT.sIx_nat, HT.sIx_none]
      by_cases hl : 1 ≤ L.length
      · rw [Nat.min_eq_left hl, List.take_of_length_le (by simp)]
      · have : L = [] := List.length_eq_zero_iff.mp (by omega)
        subst this; rfl
    have nR : D.nl.nls (((nI ((List.range (N + 1)).map h)).map D.int).reverse) = true := nls_of fun d hd => by
      obtain ⟨k, _, rfl⟩ := List.mem_map.mp (List.mem_reverse.mp hd); rfl
    have nR1 : D.nl.nls ((List.range N).map fun k => D.int ((h (N - 1 - k) : Nat) : Int)) = true := nls_of fun d hd => by
      obtain ⟨k, _, rfl⟩ := List.mem_map.mp hd; rfl
    generalize tr f n x (N + 1) = tN at *
    refine repx_seq (go_to (S := [some (false, .lst LD), some (false, .int (n : Nat)), some (false, .int (x : Nat)), some (true, .lst ((nI ((List.range (N + 1)).map h)).map D.int)), some (false, .int (tN : Nat)), v5, some (false, .int (h N : Nat)), none, none, v9, none]) (by
      clear rr nR
      generalize (nI ((List.range (N + 1)).map h)).map D.int = BD at *
      simp [al]) ?_)
    refine repx_seq (go_to (S := [some (false, .lst LD), some (false, .int (n : Nat)), some (false, .int (x : Nat)), some (true, .lst ((nI ((List.range (N + 1)).map h)).map D.int)), some (false, .int (tN : Nat)), v5, some (false, .int (h N : Nat)), some (true, .lst [.int (h N : Nat)]), none, v9, none]) (by simp) ?_)
    refine sFor_outx (ds := (List.range N).map fun k => D.int ((h (N - 1 - k) : Nat) : Int)) (P := fun S => False) (by
      generalize (nI ((List.range (N + 1)).map h)).map D.int = BD at *
      have c1 := cutr BD.reverse
      rw [rr] at c1
      simp [nB, nR, c1, nR1]) ?_ (fun S hS => hS.elim)
    have := for_outx (gf := aName 8) (b := (sSeq (sIf (tB1 (eEq (eVar 8) (eVar 6))) (sSeq (sAsg (eIndexL (eVar 7) (aCons (eMinL (aCons (eVar 7) aNil)) aNil)) (aName 10))
  (sRet (eTup (aCons (eC (.str "never")) (aCons (eAdd (eSl (eVar 7) (oSome (eVar 10)) oNone) (eSl (eVar 7) oNone (oSome (eVar 10)))) aNil))))) sNext)
  (sAsg (eAdd (eLst (aCons (eVar 8) aNil)) (eVar 7)) (aName 7)))) (Q := JoinR f n m x) (ds := (List.range N).map fun k => D.int ((h (N - 1 - k) : Nat) : Int)) (S := [some (false, .lst LD), some (false, .int (n : Nat)), some (false, .int (x : Nat)), some (true, .lst ((nI ((List.range (N + 1)).map h)).map D.int)), some (false, .int (tN : Nat)), v5, some (false, .int (h N : Nat)), some (true, .lst [.int (h N : Nat)]), none, v9, none]) (fun i S => i ≤ N ∧ ∃ v8, S = [some (false, .lst LD), some (false, .int (n : Nat)), some (false, .int (x : Nat)), some (true, .lst ((nI ((List.range (N + 1)).map h)).map D.int)), some (false, .int (tN : Nat)), v5, some (false, .int (h N : Nat)), some (true, .lst ((nI ((List.range (i + 1)).map fun t => h (N - i + t))).map D.int)), v8, v9, none] ∧ ∀ t, N - i ≤ t → t < N → h t ≠ h N) 0 ⟨by omega, none, rfl, fun t a b => by omega⟩ fun i d S hd hi => ?_
    · rcases this with q | ⟨S', e', hle, v8, rfl, hno⟩
      · exact .inl q
      · exfalso
        rw [Nat.zero_add, List.length_map, List.length_range] at hno
        exact hno p0 (by omega) hp0 ep0
    · rw [Nat.zero_add] at hi
      obtain ⟨hi0, v8, rfl, hno⟩ := hi
      have hiN : i < N := by
        have := (List.getElem?_eq_some_iff.mp hd).1
        simpa using this
      rw [List.getElem?_map, List.getElem?_range hiN] at hd
      have hd := Option.some.inj hd
      subst hd
      rw [Nat.zero_add]
      refine ⟨[some (false, .lst LD), some (false, .int (n : Nat)), some (false, .int (x : Nat)), some (true, .lst ((nI ((List.range (N + 1)).map h)).map D.int)), some (false, .int (tN : Nat)), v5, some (false, .int (h N : Nat)), some (true, .lst ((nI ((List.range (i + 1)).map fun t => h (N - i + t))).map D.int)), some (false, .int (h (N - 1 - i) : Nat)), v9, none], by simp, ?_⟩
      clear nR nR1 rr al cutr hlen
      have nB2 := nB
      by_cases hq : h (N - 1 - i) = h N
      · left
        -- the ring
        have ringR : Ring (sc f n m) ((List.range (i + 1)).map fun t => h (N - i + t)) := by
          refine ring_gen hs (by omega) ?_ fun t t' ht ht' e => ?_
          · rw [show N - i + (i + 1) = N + 1 by omega, show N - i = (N - 1 - i) + 1 by omega, hs, hs, hq]
          · rcases Nat.lt_trichotomy t t' with z | z | z
            · exfalso
              have := back hs e (i - t')
              rw [show N - i + t' + (i - t') = N by omega] at this
              exact hno (N - i + t + (i - t')) (by omega) (by omega) this
            · exact z
            · exfalso
              have := back hs e.symm (i - t)
              rw [show N - i + t + (i - t) = N by omega] at this
              exact hno (N - i + t' + (i - t)) (by omega) (by omega) this
        have memN : tr f n x N % (n * m) ∈ (List.range (i + 1)).map fun t => h (N - i + t) := by
          refine List.mem_map.mpr ⟨i, List.mem_range.mpr (by omega), ?_⟩
          show h (N - i + i) = _
          rw [show N - i + i = N by omega, hNN, hh]
        have allz : ∀ k, tr f n x k % n ≠ 0 := fun k => by
          have := all_of (h := h) (P := fun y => y % n ≠ 0) (i := N) (j := N - 1 - i) hs (by omega) hq.symm (fun y hy => by
            rw [hh]
            show tr f n x y % N % n ≠ 0
            rw [← hNN, mod_sz]; exact hz y (by omega)) k
          rw [hh] at this
          have this : tr f n x k % N % n ≠ 0 := this
          rw [← hNN, mod_sz] at this
          exact this
        have rl : ((List.range (i + 1)).map fun t => h (N - i + t)).length = i + 1 := by simp
        have rne : ((List.range (i + 1)).map fun t => h (N - i + t)) ≠ [] := by intro z; rw [z] at rl; simp at rl
        generalize (List.range (i + 1)).map (fun t => h (N - i + t)) = RR at *
        obtain ⟨al', ⟨mI, hmI, hix⟩, _⟩ := least_first_x rne (by rw [rl]; omega)
        have nm := numsD_ints (nI RR)
        have c1 := cut_fromN (R := nI RR) (a := ixL RR) (by simp; omega)
        have c2 := cut_to (nI RR) (ixL RR)
        have n1 := nls_ints ((nI RR).drop (ixL RR))
        have n2 := nls_ints ((nI RR).take (ixL RR))
        have l1 : (nI (rotL RR)).map D.int = ((nI RR).drop (ixL RR)).map D.int ++ ((nI RR).take (ixL RR)).map D.int := by
          unfold rotL nI
          rw [List.map_append, List.map_drop, List.map_take, List.map_append]
        have len : (((nI RR).drop (ixL RR)).map D.int).length + (((nI RR).take (ixL RR)).map D.int).length ≤ 100000 := by
          simp; omega
        refine ⟨.tup [.str "never", .lst ((nI (rotL RR)).map D.int)], re_early ?_, .inr ⟨RR, ringR, ⟨N, memN⟩, allz, rfl⟩⟩
        rw [l1]
        have ix := index_R (g := eVar 7) (fa := aCons (eMinL (aCons (eVar 7) aNil)) aNil) (S := [some (false, .lst LD), some (false, .int (n : Nat)), some (false, .int (x : Nat)), some (true, .lst ((nI ((List.range (N + 1)).map h)).map D.int)), some (false, .int (tN : Nat)), v5, some (false, .int (h N : Nat)), some (true, .lst ((nI RR).map D.int)), some (false, .int (h (N - 1 - i) : Nat)), v9, none]) (k := .bor [7]) (k' := .bor []) (by rfl) (by
          clear hix
          generalize (nI RR).map D.int = RD at *
          simp [nm, hmI]) hix
        clear memN ringR allz hno nB hix hmI rne rl
        generalize (nI ((List.range (N + 1)).map h)).map D.int = BD at *
        generalize ((nI RR).drop (ixL RR)).map D.int = DD at *
        generalize ((nI RR).take (ixL RR)).map D.int = TD at *
        generalize (nI RR).map D.int = RD at *
        rw [hq] at ix ⊢
        unfold Re
        have test : tB1 (eEq (eVar 8) (eVar 6)) [some (false, .lst LD), some (false, .int (n : Nat)), some (false, .int (x : Nat)), some (true, .lst BD), some (false, .int (tN : Nat)), v5, some (false, .int (h N : Nat)), some (true, .lst RD), some (false, .int (h N : Nat)), v9, none] = some (.ok true) := by simp
        rw [sIf_R, test]
        dsimp only
        rw [sSeq_R, sAsg_R, ix]
        simp (disch := omega) [c1, c2, n1, n2, ifp]
      · right
        have hq' : ¬ ((h (N - 1 - i) : Nat) : Int) = ((h N : Nat) : Int) := by omega
        have e1 : (nI ((List.range (i + 1 + 1)).map fun t => h (N - (i + 1) + t))).map D.int = [D.int (h (N - 1 - i) : Nat)] ++ (nI ((List.range (i + 1)).map fun t => h (N - i + t))).map D.int := by
          unfold nI
          rw [List.range_succ_eq_map, List.map_cons, List.map_cons, List.map_cons, List.map_map, List.map_map, List.map_map, List.map_map, List.map_map]
          congr 2
          · congr 3; omega
          · funext t
            show D.int ((h (N - (i + 1) + (t + 1)) : Nat) : Int) = D.int ((h (N - i + t) : Nat) : Int)
            congr 3; omega
        have nR := nls_ints (nI ((List.range (i + 1)).map fun t => h (N - i + t)))
        have ll : ((nI ((List.range (i + 1)).map fun t => h (N - i + t))).map D.int).length ≤ 10000 := by simp; omega
        have key : ∃ v8, [some (false, D.lst LD), some (false, .int (n : Nat)), some (false, .int (x : Nat)), some (true, .lst ((nI ((List.range (N + 1)).map h)).map D.int)), some (false, .int (tN : Nat)), v5, some (false, .int (h N : Nat)), some (true, .lst ([D.int (h (N - 1 - i) : Nat)] ++ (nI ((List.range (i + 1)).map fun t => h (N - i + t))).map D.int)), some (false, .int (h (N - 1 - i) : Nat)), v9, none] = [some (false, D.lst LD), some (false, .int (n : Nat)), some (false, .int (x : Nat)), some (true, .lst ((nI ((List.range (N + 1)).map h)).map D.int)), some (false, .int (tN : Nat)), v5, some (false, .int (h N : Nat)), some (true, .lst ((nI ((List.range (i + 1 + 1)).map fun t => h (N - (i + 1) + t))).map D.int)), v8, v9, none] := ⟨_, by rw [e1]⟩
        clear e1
        generalize (nI ((List.range (N + 1)).map h)).map D.int = BD at *
        generalize (nI ((List.range (i + 1)).map fun t => h (N - i + t))).map D.int = RD at *
        refine go_seq (go_to (S := [some (false, .lst LD), some (false, .int (n : Nat)), some (false, .int (x : Nat)), some (true, .lst BD), some (false, .int (tN : Nat)), v5, some (false, .int (h N : Nat)), some (true, .lst RD), some (false, .int (h (N - 1 - i) : Nat)), v9, none]) (by
          generalize ((h (N - 1 - i) : Nat) : Int) = A at *
          generalize ((h N : Nat) : Int) = B at *
          simp [hq']) ?_)
        obtain ⟨w8, hw8⟩ := key
        refine go_to (S := [some (false, .lst LD), some (false, .int (n : Nat)), some (false, .int (x : Nat)), some (true, .lst BD), some (false, .int (tN : Nat)), v5, some (false, .int (h N : Nat)), some (true, .lst ([D.int (h (N - 1 - i) : Nat)] ++ RD)), some (false, .int (h (N - 1 - i) : Nat)), v9, none]) (by
          generalize ((h (N - 1 - i) : Nat) : Int) = A at *
          simp (disch := omega) [nR, ifp]) ⟨by omega, w8, hw8, fun t h1 h2 => ?_⟩
        by_cases e : t = N - 1 - i
        · rw [e]; exact hq
        · exact hno t (by omega) h2
end K33
set_option Elab.async false
set_option linter.all false
set_option maxRecDepth 100000
set_option maxHeartbeats 4000000
namespace K33
open PySem L2
theorem law_words_eq {b : Nat} {c : Str} (hf : FormOk b c) (cell : Int) : ∃ ws : List Int, F__law_words [fmD b c, .int cell] = some (.ok (.lst (ws.map D.int), true)) ∧ 0 < ws.length ∧ ws.length ≤ 12 ∧ ∀ w ∈ ws, 0 ≤ w ∧ w < 2 ^ b := by
  obtain ⟨S25, hS⟩ : ∃ S25 : List Int, S25 = [12, 65536, 7, 65536, 7, 65536, 7, 65536, 7, 65536, 7, 65536, 7, 65536, 7, 65536, 7, 65536, 7, 65536, 7, 65536, 7, 65536, 7] := ⟨_, rfl⟩
  have ok : SzOk S25 := by subst hS; exact ⟨by decide, by decide, by decide +kernel⟩
  have dr := drawn_eq (c := cell) ok
  have dl := drawn_len cell S25
  have di := drawn_in cell S25 ok.pos
  have d0 := di 0 (by subst hS; decide)
  have d1 : ∀ j, j < 12 → 0 ≤ (drawn cell S25).getD (2 * j + 1) 0 := fun j hj => (di (2 * j + 1) (by subst hS; show 2 * j + 1 < 25; omega)).1
  have d2 : ∀ j, j < 12 → 0 ≤ (drawn cell S25).getD (2 * j + 2) 0 ∧ (drawn cell S25).getD (2 * j + 2) 0 < 7 := fun j hj => by
    have := di (2 * j + 2) (by subst hS; show 2 * j + 2 < 25; omega)
    have e : S25.getD (2 * j + 2) 1 = 7 := by
      subst hS
      have : j = 0 ∨ j = 1 ∨ j = 2 ∨ j = 3 ∨ j = 4 ∨ j = 5 ∨ j = 6 ∨ j = 7 ∨ j = 8 ∨ j = 9 ∨ j = 10 ∨ j = 11 := by omega
      rcases this with rfl | rfl | rfl | rfl | rfl | rfl | rfl | rfl | rfl | rfl | rfl | rfl <;> rfl
    rw [e] at this
    exact this
  rw [show S25.getD 0 1 = 12 by subst hS; rfl] at d0
  have len : (drawn cell S25).length = 25 := by rw [dl]; subst hS; rfl
  have args : ∀ S : DSt, (eAdd (eLst (aCons (eC (.int 12)) aNil)) (eMul (eLst (aCons (eShl (eC (.int 1)) (eC (.int 16))) (aCons (eC (.int 7)) aNil))) (eC (.int 12)))) S = some (.ok (.lst (S25.map D.int), .bor [])) := fun S => by subst hS; rfl
  generalize drawn cell S25 = dg at *
  generalize S25.map D.int = SD at *
  have b0 := hf.b0
  have b1 := hf.b1
  obtain ⟨M, hM⟩ : ∃ M : Int, (2 : Int) ^ b = M := ⟨_, rfl⟩
  have M2 : 2 ≤ M ∧ M ≤ 65536 ∧ M % 2 = 0 := by
    obtain ⟨b', rfl⟩ : ∃ b', b = b' + 1 := ⟨b - 1, by omega⟩
    have e : (2 : Int) ^ (b' + 1) = 2 ^ b' * 2 := Int.pow_succ 2 b'
    have p : (0 : Int) < 2 ^ b' := Int.pow_pos (by decide)
    have q : (2 : Int) ^ b' ≤ 2 ^ 15 := by
      have : (2 : Nat) ^ b' ≤ 2 ^ 15 := Nat.pow_le_pow_right (by decide) (by omega)
      exact_mod_cast this
    rw [← hM, e]
    have : (2 : Int) ^ 15 = 32768 := by decide
    omega
  have hat : ∀ j : Nat, j < 25 → atI (dg.map D.int) (j : Int) = some (.int (dg.getD j 0)) := fun j hj => atI_int0 (by omega)
  have h0 := hat 0 (by omega)
  have nD := nls_ints dg
  generalize dg.map D.int = DD at *
  obtain ⟨n, hn⟩ : ∃ n : Nat, dg.getD 0 0 = (n : Int) := ⟨(dg.getD 0 0).toNat, by omega⟩
  rw [hn] at d0 h0
  have h0 : atI DD 0 = some (.int (n : Int)) := h0
  suffices h : Go (sFor (iRg rg1 (aCons (eAdd (eC (.int 1)) (eIx (eVar 2) (eC (.int 0)))) aNil)) (aName 5) (sSeq (sAsg (eMod (eIx (eVar 2) (eAdd (eMul (eC (.int 2)) (eVar 5)) (eC (.int 1)))) (eVar 3)) (aName 6))
  (sSeq (sAsg (eIx (eAdd (eVar 4) (eLst (aCons (eVar 6) aNil))) (eNeg (eC (.int 1)))) (aName 7))
  (sSeq (sAsg (eLst (aCons (eVar 6) (aCons (eVar 6) (aCons (eC (.int 0)) (aCons (eSub (eVar 3) (eC (.int 1))) (aCons (eVar 7) (aCons (eMod (eAdd (eMul (eC (.int 2)) (eVar 7)) (eC (.int 1))) (eVar 3)) (aCons (eAdd (eDiv (eVar 7) (eC (.int 2))) (eDiv (eVar 3) (eC (.int 2)))) aNil)))))))) (aName 8))
  (sApp (pName 4) (aCons (eIx (eVar 8) (eIx (eVar 2) (eAdd (eMul (eC (.int 2)) (eVar 5)) (eC (.int 2))))) aNil))))) [some (false, fmD b c), some (false, .int cell), some (true, .lst DD), some (false, .int M), some (true, .lst []), none, none, none, none]) (fun S => ∃ (ws : List Int) (v5 v6 v7 v8 : Option (Bool × D)), S = [some (false, fmD b c), some (false, .int cell), some (true, .lst DD), some (false, .int M), some (true, .lst (ws.map D.int)), v5, v6, v7, v8] ∧ ws.length = n + 1 ∧ ∀ w ∈ ws, 0 ≤ w ∧ w < M) by
    obtain ⟨S, e, ws, v5, v6, v7, v8, rfl, hl, hw⟩ := h
    refine ⟨ws, fin_re rfl ?_, by omega, by omega, fun w hh => by have := hw w hh; omega⟩
    unfold f__law_words
    refine re_seq (go_to (S := [some (false, fmD b c), some (false, .int cell), some (true, .lst DD), none, none, none, none, none, none]) ?_ ?_)
    · rw [sAsg_R, call2 (k := .safe) (k' := .bor []) (by rfl) (args _) dr]
      simp
    refine re_seq (go_to (S := [some (false, fmD b c), some (false, .int cell), some (true, .lst DD), some (false, .int M), none, none, none, none, none]) (by
      have : (b : Int) ≤ 1000000 := by omega
      simp [this, hM]) ?_)
    refine re_seq (go_to (S := [some (false, fmD b c), some (false, .int cell), some (true, .lst DD), some (false, .int M), some (true, .lst []), none, none, none, none]) (by simp) ?_)
    refine re_seq (go_to e ?_)
    unfold Re
    simp
  have en : (1 : Int) + (n : Int) = ((n + 1 : Nat) : Int) := by omega
  refine (sFor_go (ds := rangeD 0 ((n + 1 : Nat) : Int)) (by simp (disch := omega) [h0, en, ifp]) (for_inv (fun i S => ∃ (ws : List Int) (v5 v6 v7 v8 : Option (Bool × D)), S = [some (false, fmD b c), some (false, .int cell), some (true, .lst DD), some (false, .int M), some (true, .lst (ws.map D.int)), v5, v6, v7, v8] ∧ ws.length = i ∧ ∀ w ∈ ws, 0 ≤ w ∧ w < M) ⟨[], none, none, none, none, rfl, rfl, fun w h => by cases h⟩ ?_)).imp ?_
  · rintro i d S hd ⟨ws, v5, v6, v7, v8, rfl, hl, hw⟩
    obtain ⟨hi, rfl⟩ := rangeD_get hd
    have hi : i < 12 := by omega
    rw [Int.zero_add]
    refine ⟨[some (false, fmD b c), some (false, .int cell), some (true, .lst DD), some (false, .int M), some (true, .lst (ws.map D.int)), some (false, .int (i : Nat)), v6, v7, v8], by simp, ?_⟩
    have x1 := d1 i hi
    have x2 := d2 i hi
    have t1 := hat (2 * i + 1) (by omega)
    have t2 := hat (2 * i + 2) (by omega)
    have e1 : ((2 * i + 1 : Nat) : Int) = 2 * (i : Int) + 1 := by omega
    have e2 : ((2 * i + 2 : Nat) : Int) = 2 * (i : Int) + 2 := by omega
    rw [e1] at t1
    rw [e2] at t2
    generalize dg.getD (2 * i + 1) 0 = y at *
    generalize dg.getD (2 * i + 2) 0 = z at *
    obtain ⟨w, hwd, w0, w1⟩ : ∃ w, y % M = w ∧ 0 ≤ w ∧ w < M := ⟨_, rfl, Int.emod_nonneg _ (by omega), Int.emod_lt_of_pos _ (by omega)⟩
    obtain ⟨a, ha, a0, a1⟩ : ∃ a, w = a ∧ 0 ≤ a ∧ a < M := ⟨w, rfl, w0, w1⟩
    have ab : atI ((ws ++ [w]).map D.int) (-1) = some (.int a) := by
      have := atI_back (ns := ws ++ [w]) (n := ws.length) (m := 1) (by simp) (by decide)
      rw [show (-((1 : Nat) : Int)) = -1 from rfl] at this
      rw [this, getD_appR _ _ (Nat.le_refl _), Nat.sub_self, ← ha]
      rfl
    have abl : atI (ws.map D.int ++ [.int w]) (-1) = some (.int a) := by rw [List.map_append] at ab; exact ab
    have wl : (ws.map D.int).length < 1000 := by simp; omega
    refine go_seq (go_to (S := [some (false, fmD b c), some (false, .int cell), some (true, .lst DD), some (false, .int M), some (true, .lst (ws.map D.int)), some (false, .int (i : Nat)), some (false, .int w), v7, v8]) (by
      clear ab abl
      generalize ws.map D.int = WD at *
      simp (disch := omega) [t1, hwd, ifp]) ?_)
    have nW := nls_ints ws
    obtain ⟨e, he, e0, e1⟩ : ∃ e, atI [D.int w, .int w, .int 0, .int (M - 1), .int a, .int ((2 * a + 1) % M), .int (a / 2 + M / 2)] z = some (.int e) ∧ 0 ≤ e ∧ e < M := by
      have m0 := Int.emod_nonneg (2 * a + 1) (show M ≠ 0 by omega)
      have m1 := Int.emod_lt_of_pos (2 * a + 1) (show 0 < M by omega)
      have : z = 0 ∨ z = 1 ∨ z = 2 ∨ z = 3 ∨ z = 4 ∨ z = 5 ∨ z = 6 := by omega
      rcases this with rfl | rfl | rfl | rfl | rfl | rfl | rfl <;> exact ⟨_, rfl, by omega, by omega⟩
    have key : ∃ (ws' : List Int) (v5 v6 v7 v8 : Option (Bool × D)), [some (false, fmD b c), some (false, .int cell), some (true, .lst DD), some (false, .int M), some (true, .lst (ws.map D.int ++ [.int e])), some (false, .int (i : Nat)), some (false, .int w), some (false, .int a), some (true, .lst [D.int w, .int w, .int 0, .int (M - 1), .int a, .int ((2 * a + 1) % M), .int (a / 2 + M / 2)])] = [some (false, fmD b c), some (false, .int cell), some (true, .lst DD), some (false, .int M), some (true, .lst (ws'.map D.int)), v5, v6, v7, v8] ∧ ws'.length = i + 1 ∧ ∀ w ∈ ws', 0 ≤ w ∧ w < M := ⟨ws ++ [e], _, _, _, _, by rw [List.map_append]; rfl, by simp [hl], fun w h => by
      rcases List.mem_append.mp h with h | h
      · exact hw w h
      · rw [List.mem_singleton.mp h]; exact ⟨e0, e1⟩⟩
    clear ab hw
    generalize ws.map D.int = WD at *
    refine go_seq (go_to (S := [some (false, fmD b c), some (false, .int cell), some (true, .lst DD), some (false, .int M), some (true, .lst WD), some (false, .int (i : Nat)), some (false, .int w), some (false, .int a), v8]) (by
      simp (disch := omega) [abl, nW, ifp]) ?_)
    refine go_seq (go_to (S := [some (false, fmD b c), some (false, .int cell), some (true, .lst DD), some (false, .int M), some (true, .lst WD), some (false, .int (i : Nat)), some (false, .int w), some (false, .int a), some (true, .lst [D.int w, .int w, .int 0, .int (M - 1), .int a, .int ((2 * a + 1) % M), .int (a / 2 + M / 2)])]) (by
      have m1 := M2.1
      have m2 := M2.2.1
      have sm2 : small 2 = true := small_mid (by decide) (by decide)
      have mp : 0 < M := by omega
      simp (disch := omega) [ifp, sm2, mp]) ?_)
    exact go_to (S := [some (false, fmD b c), some (false, .int cell), some (true, .lst DD), some (false, .int M), some (true, .lst (WD ++ [.int e])), some (false, .int (i : Nat)), some (false, .int w), some (false, .int a), some (true, .lst [D.int w, .int w, .int 0, .int (M - 1), .int a, .int ((2 * a + 1) % M), .int (a / 2 + M / 2)])]) (by
      have : WD.length < 16777216 := by omega
      generalize hL : [D.int w, .int w, .int 0, .int (M - 1), .int a, .int ((2 * a + 1) % M), .int (a / 2 + M / 2)] = SL at *
      simp (disch := omega) [t2, he, ifp, this]) key
  · rintro S ⟨ws, v5, v6, v7, v8, rfl, hl, hw⟩
    refine ⟨ws, v5, v6, v7, v8, rfl, ?_, hw⟩
    rw [hl, rangeD_len]; omega
theorem joins_eq {b : Nat} {c : Str} {ws : List Int} (hf : FormOk b c) (h1 : 0 < ws.length) (hm : ws.length ≤ 100) (hw : ∀ w ∈ ws, 0 ≤ w ∧ w < 2 ^ b) : ∃ J : Nat → D, F_joins [fmD b c, .lst (ws.map D.int)] = some (.ok (.lst ((List.range (szM b c * ws.length)).map J), true)) ∧ ∀ x, JoinR (rF b c ws) (szM b c) ws.length x (J x) := by
  have ja := join_at_eq hf h1 hm
  obtain ⟨J, hJJ⟩ := Classical.axiomOfChoice ja
  refine ⟨J, ?_, fun x => (hJJ x).2⟩
  have hJ : ∀ x : Nat, F_join_at [.lst ((rL b c ws).map D.int), .int (szI b c), .int (x : Nat)] = some (.ok (J x, true)) := fun x => (hJJ x).1
  clear hJJ ja
  have rl := round_levels_eq hf hw hm
  have ln : ((rL b c ws).map D.int).length = szM b c * ws.length := by rw [List.length_map, rL_len]
  have z := hf.sz
  have sI := szM_I b c
  have mm : szM b c * ws.length ≤ 19 * 100 := Nat.mul_le_mul (by omega) hm
  have hs := size_of_eq (b : Int) c
  generalize (rL b c ws).map D.int = LD at *
  generalize szM b c * ws.length = N at *
  generalize ws.map D.int = WD at *
  refine fin_re rfl ?_
  unfold f_joins
  refine re_seq (go_to (S := [some (false, fmD b c), some (false, .lst WD), some (true, .lst LD), none]) (by simp [rl]) ?_)
  unfold Re
  have lc : lcD (aName 3) tYesD (eCall F_join_at (aCons (eVar 2) (aCons (eCall F_size_of (aCons (eVar 0) aNil)) (aCons (eVar 3) aNil)))) [some (false, fmD b c), some (false, .lst WD), some (true, .lst LD), none] (rangeD 0 (N : Int)) [] (.bor []) = some ((List.range N).map J, .bor []) := by
    rw [lc_ix J (by rw [sizeL_R, rangeD_len]; simp only [List.length_nil]; omega) fun i d hd => ?_]
    · rw [rangeD_len]
      rw [show ((N : Int) - 0).toNat = N by omega]
      rfl
    · obtain ⟨hi, rfl⟩ := rangeD_get hd
      rw [Int.zero_add]
      have hj := hJ i
      exact ⟨[some (false, fmD b c), some (false, .lst WD), some (true, .lst LD), some (false, .int (i : Nat))], .bor [], by simp, rfl, by simp [hs, hj], by simp⟩
  refine ⟨[some (false, fmD b c), some (false, .lst WD), some (true, .lst LD), none], ?_⟩
  simp (disch := omega) [ln, lc, ifp]
end K33
set_option Elab.async false
set_option linter.all false
set_option maxRecDepth 100000
set_option maxHeartbeats 4000000
namespace K33
open PySem L2
theorem join_lay {f : Nat → Int} {sz m x : Nat} {d : D} (h : JoinR f sz m x d) : d.lay 59 = true := by
  have n1 : (D.str "in").lay 58 = true := by decide +kernel
  have n2 : (D.str "never").lay 58 = true := by decide +kernel
  rcases h with ⟨i, _, _, _, rfl⟩ | ⟨R, _, _, _, rfl⟩
  · simp [n1]
  · have l := lays_ints 57 (nI (rotL R))
    generalize (nI (rotL R)).map D.int = RD at *
    simp [n2, l]
theorem law_whole_int (i : Int) : F__law_whole [.int i] = some (.ok (.bl true, true)) := by
  refine fin_re rfl ?_
  unfold f__law_whole Re
  simp
theorem forDM_inv {j : Nat} {b : SF} (Inv : DSt → Prop) : ∀ {ds : List D} {S : DSt}, Inv S → (∀ d ∈ ds, ∀ S, Inv S → Go (b (S.set j (some (!d.nl, d)))) Inv) → Go (forDM j b ds S) Inv
  | [], S, h0, _ => ⟨S, rfl, h0⟩
  | d :: ds, S, h0, hs => by
    obtain ⟨S2, e2, h2⟩ := hs d (by simp) S h0
    have : forDM j b (d :: ds) S = forDM j b ds S2 := by
      conv => lhs; unfold forDM
      rw [e2]
    rw [this]
    exact forDM_inv Inv h2 fun d hd => hs d (by simp [hd])
theorem s_in_never : ((Str.ofString "in") = Str.ofString "never") = False := eq_false (by decide)
theorem s_never_in : ((Str.ofString "never") = Str.ofString "in") = False := eq_false (by decide)
def oneB : SF := (sSeq (sIf (tOrD (tNotD (tTr (eIsi (aCons (eVar 10) (aCons (eC (.ty "tuple")) aNil))))) (tAndD (tB1 (eEq (eIx (eVar 10) (eC (.int 0))) (eC (.str "in")))) (tNotD (tTr (eCall F__law_whole (aCons (eIx (eVar 10) (eC (.int 1))) aNil)))))) (sRet (eC (.bl false))) sNext)
  (sIf (tB1 (eEq (eIx (eVar 10) (eC (.int 0))) (eC (.str "never")))) (sApp (pIx (pName 10) (eC (.int 1))) (aCons (eC (.int 0)) aNil)) sNext))
theorem one_go {f : Nat → Int} {sz m x : Nat} {d : D} {u0 u1 u2 u3 u4 u5 u6 u7 u8 u9 u11 : Option (Bool × D)} (hsz : sz * m ≤ 2000) (hf : sz ≤ 100) (h : JoinR f sz m x d) : Go (oneB [u0, u1, u2, u3, u4, u5, u6, u7, u8, u9, some (!d.nl, d), u11]) fun S => ∃ w, S = [u0, u1, u2, u3, u4, u5, u6, u7, u8, u9, w, u11] := by
  unfold oneB
  rcases h with ⟨i, _, _, _, rfl⟩ | ⟨R, rg, _, _, rfl⟩
  · have lw := law_whole_int ((tr f sz x i - x : Nat) : Int)
    generalize ((tr f sz x i - x : Nat) : Int) = y at *
    refine go_seq (go_to (S := [u0, u1, u2, u3, u4, u5, u6, u7, u8, u9, some (false, .tup [.str "in", .int y]), u11]) (by simp [lw]) ?_)
    exact go_to (S := [u0, u1, u2, u3, u4, u5, u6, u7, u8, u9, some (false, .tup [.str "in", .int y]), u11]) (by simp [s_in_never]) ⟨_, rfl⟩
  · have rl : (rotL R).length ≤ 2000 := by
      obtain ⟨n, g, n0, rfl, g1, g2, g3⟩ := rg
      have : ((List.range n).map g).Nodup := by
        unfold List.Nodup
        rw [List.pairwise_map]
        exact List.Pairwise.imp_of_mem (fun {p q} hp hq h e => h (g3 p q (List.mem_range.mp hp) (List.mem_range.mp hq) e)) (List.nodup_range (n := n))
      unfold rotL
      rw [List.length_append, List.length_drop, List.length_take]
      by_cases z : sz * m = 0
      · have key : ∀ k, g k = nx f sz (g (k + n - 1)) := fun k => by
          have := g2 (k + n - 1)
          unfold sc at this
          rw [z, Nat.mod_zero, show k + n - 1 + 1 = k + n by omega, g1] at this
          exact this.symm
        have hmono : ∀ k, g k + k * sz ≤ g (0 + k) + k * sz := fun k => by rw [Nat.zero_add]; exact Nat.le_refl _
        have up : ∀ k, g 0 + k * sz ≤ g k := by
          intro k
          induction k with
          | zero => simp
          | succ k ih =>
            have h2 := g2 k
            unfold sc at h2
            rw [z, Nat.mod_zero] at h2
            have := nx_ge (f := f) (sz := sz) (g k)
            rw [Nat.add_mul, Nat.one_mul]; omega
        have u := up n
        have e0 : g n = g 0 := by have := g1 0; rw [Nat.zero_add] at this; exact this
        have : n * sz = 0 := by omega
        rcases Nat.mul_eq_zero.mp this with q | q
        · omega
        · -- words of no size: every place is the next begin
          subst q
          have up2 : ∀ k, g (k + 1) = g k := fun k => by
            have h2 := g2 k
            unfold sc at h2
            rw [z, Nat.mod_zero] at h2
            rw [← h2]
            rfl
          by_cases n1 : n = 1
          · subst n1; simp; omega
          · have := g3 1 0 (by omega) (by omega) (up2 0)
            omega
      · have := pigeon (n := sz * m) this fun y hy => by
          obtain ⟨k, hk, rfl⟩ := List.mem_map.mp hy
          have : g k = sc f sz m (g (k + n - 1)) := by rw [g2, show k + n - 1 + 1 = k + n by omega, g1]
          rw [this]
          unfold sc
          exact Nat.mod_lt _ (by omega)
        simp at this ⊢
        omega
    have rl2 : ((nI (rotL R)).map D.int).length < 16777216 := by simp; omega
    generalize (nI (rotL R)).map D.int = RD at *
    refine go_seq (go_to (S := [u0, u1, u2, u3, u4, u5, u6, u7, u8, u9, some (true, .tup [.str "never", .lst RD]), u11]) (by simp [s_never_in]) ?_)
    refine go_to (S := [u0, u1, u2, u3, u4, u5, u6, u7, u8, u9, some (true, .tup [.str "never", .lst (RD ++ [.int 0])]), u11]) ?_ ⟨_, rfl⟩
    have test : tB1 (eEq (eIx (eVar 10) (eC (.int 0))) (eC (.str "never"))) [u0, u1, u2, u3, u4, u5, u6, u7, u8, u9, some (true, .tup [.str "never", .lst RD]), u11] = some (.ok true) := by simp
    rw [sIf_R]
    rw [test]
    dsimp only
    show sApp _ _ _ = _
    rw [sApp_R]
    have pp : pIx (pName 10) (eC (.int 1)) [u0, u1, u2, u3, u4, u5, u6, u7, u8, u9, some (true, .tup [.str "never", .lst RD]), u11] = some (10, [1]) := rfl
    rw [pp]
    dsimp only
    have ap : atP [u0, u1, u2, u3, u4, u5, u6, u7, u8, u9, some (true, .tup [.str "never", .lst RD]), u11] 10 [1] = some (.lst RD) := rfl
    rw [ap]
    have ac : aCons (eC (.int 0)) aNil [u0, u1, u2, u3, u4, u5, u6, u7, u8, u9, some (true, .tup [.str "never", .lst RD]), u11] = some (.ok ([.int 0], .bor [])) := rfl
    rw [ac]
    show (if RD.length < sizeLine then _ else none) = _
    rw [if_pos (by rw [sizeL_R]; exact rl2)]
    rfl
/-- one turn, the form and the words drawn -/
def turnB : SF := (sSeq (sAsg (eLst aNil) (aName 4))
  (sSeq (sForA 3 (aName 5) (sAsg (eAdd (eVar 4) (eCall F__law_levels (aCons (eVar 2) (aCons (eVar 5) aNil)))) (aName 4)))
  (sSeq (sAsg (eList (aCons (eVar 3) aNil)) (aName 6))
  (sSeq (sAsg (eCall F_round_levels (aCons (eVar 2) (aCons (eVar 6) aNil))) (aName 7))
  (sSeq (sIf (tOrD (tNotD (tTr (eIsi (aCons (eVar 7) (aCons (eC (.ty "list")) aNil))))) (tB1 (eNe (eVar 7) (eVar 4)))) (sRet (eC (.bl false))) sNext)
  (sSeq (sRev (pName 7))
  (sSeq (sAsg (eCall F_joins (aCons (eVar 2) (aCons (eVar 6) aNil))) (aName 8))
  (sSeq (sAsg (eLc (iRg rg1 (aCons (eLen (aCons (eVar 4) aNil)) aNil)) (aName 11) tYesD (eCall F__law_join (aCons (eVar 4) (aCons (eDiv (eLen (aCons (eVar 4) aNil)) (eLen (aCons (eVar 3) aNil))) (aCons (eVar 11) aNil)))) [11]) (aName 9))
  (sSeq (sIf (tOrD (tNotD (tTr (eIsi (aCons (eVar 8) (aCons (eC (.ty "list")) aNil))))) (tOrD (tB1 (eNe (eVar 8) (eVar 9))) (tB1 (eNe (eVar 6) (eVar 3))))) (sRet (eC (.bl false))) sNext)
  (sSeq (sForM 8 10 (sSeq (sIf (tOrD (tNotD (tTr (eIsi (aCons (eVar 10) (aCons (eC (.ty "tuple")) aNil))))) (tAndD (tB1 (eEq (eIx (eVar 10) (eC (.int 0))) (eC (.str "in")))) (tNotD (tTr (eCall F__law_whole (aCons (eIx (eVar 10) (eC (.int 1))) aNil)))))) (sRet (eC (.bl false))) sNext)
  (sIf (tB1 (eEq (eIx (eVar 10) (eC (.int 0))) (eC (.str "never")))) (sApp (pIx (pName 10) (eC (.int 1))) (aCons (eC (.int 0)) aNil)) sNext)))
  (sIf (tB1 (eNe (eCall F_joins (aCons (eVar 2) (aCons (eVar 6) aNil))) (eVar 9))) (sRet (eC (.bl false))) sNext)))))))))))
theorem turn_go {b k : Nat} {c : Str} {ws : List Int} {DNS : List D} {v4 v5 v6 v7 v8 v9 v10 : Option (Bool × D)} (hf : FormOk b c) (h1 : 0 < ws.length) (hm : ws.length ≤ 12) (hw : ∀ w ∈ ws, 0 ≤ w ∧ w < 2 ^ b) :
    Go (turnB [some (false, .fl DNS), some (false, .int (k : Nat)), some (false, fmD b c), some (true, .lst (ws.map D.int)), v4, v5, v6, v7, v8, v9, v10, none]) fun S => ∃ w1 w2 w3 w4 w5 w6 w7 w8 w9 w10, S = [some (false, .fl DNS), w1, w2, w3, w4, w5, w6, w7, w8, w9, w10, none] := by
  have z := hf.sz
  have sI := szM_I b c
  have R := rd_of hf h1
  have mm : szM b c * ws.length ≤ 19 * 12 := Nat.mul_le_mul (by omega) hm
  have N0 : 0 < szM b c * ws.length := Nat.mul_pos (by omega) h1
  have rl := round_levels_eq hf hw (by omega)
  obtain ⟨J, jn, hJ⟩ := joins_eq hf h1 (by omega) hw
  have lj : ∀ x : Nat, F__law_join [.lst ((rL b c ws).map D.int), .int (szM b c : Nat), .int (x : Nat)] = some (.ok (J x, true)) := fun x => by
    obtain ⟨d, e, hd⟩ := law_join_eq hf h1 (by omega) x
    rw [e, join_unique R hd (hJ x)]
  have Jl : D.lays 59 ((List.range (szM b c * ws.length)).map J) = true := lays_of fun d hd => by
    obtain ⟨x, _, rfl⟩ := List.mem_map.mp hd
    exact join_lay (hJ x)
  have Je := D.eqvs_self 59 _ Jl
  have Ll := lays_ints 59 (rL b c ws)
  have Le := D.eqvs_self 59 _ Ll
  have Wl := lays_ints 59 ws
  have We := D.eqvs_self 59 _ Wl
  have hL : ((rL b c ws).map D.int).length = szM b c * ws.length := by rw [List.length_map, rL_len]
  have hWl : (ws.map D.int).length = ws.length := by simp
  have nL := nls_ints (rL b c ws)
  have nW := nls_ints ws
  -- the levels
  have loop : Go (sForA 3 (aName 5) (sAsg (eAdd (eVar 4) (eCall F__law_levels (aCons (eVar 2) (aCons (eVar 5) aNil)))) (aName 4)) [some (false, .fl DNS), some (false, .int (k : Nat)), some (false, fmD b c), some (true, .lst (ws.map D.int)), some (true, .lst []), v5, v6, v7, v8, v9, v10, none]) fun S => ∃ w5, S = [some (false, .fl DNS), some (false, .int (k : Nat)), some (false, fmD b c), some (true, .lst (ws.map D.int)), some (true, .lst ((rL b c ws).map D.int)), w5, v6, v7, v8, v9, v10, none] := by
    refine sForA_own (ds := ws.map D.int) rfl nW ?_
    refine (for_inv (fun i S => ∃ w5, S = [some (false, .fl DNS), some (false, .int (k : Nat)), some (false, fmD b c), none, some (true, .lst ((rL b c (ws.take i)).map D.int)), w5, v6, v7, v8, v9, v10, none]) ⟨v5, rfl⟩ ?_).imp ?_
    · rintro i d S hd ⟨w5, rfl⟩
      rw [List.getElem?_map] at hd
      have hi : i < ws.length := by
        cases e : ws[i]? with
        | none => rw [e] at hd; cases hd
        | some w => exact (List.getElem?_eq_some_iff.mp e).1
      rw [List.getElem?_eq_getElem hi] at hd
      have hd := Option.some.inj hd
      subst hd
      have lv := law_levels_eq (b := b) (c := c) (w := ws[i]) (by have := hf.b1; omega)
      have tk : (rL b c (ws.take (i + 1))).map D.int = (rL b c (ws.take i)).map D.int ++ (levM b c ws[i]).map D.int := by
        rw [List.take_succ_eq_append_getElem hi]
        unfold rL
        rw [List.flatMap_append, List.map_append]
        simp
      have l1 : ((rL b c (ws.take i)).map D.int).length ≤ 1000 := by
        rw [List.length_map, rL_len, List.length_take]
        have : szM b c * min i ws.length ≤ 19 * 12 := Nat.mul_le_mul (by omega) (by omega)
        omega
      have l2 : ((levM b c ws[i]).map D.int).length ≤ 1000 := by rw [List.length_map, lev_len]; omega
      have n1 := nls_ints (rL b c (ws.take i))
      have n2 := nls_ints (levM b c ws[i])
      rw [tk]
      generalize (rL b c (ws.take i)).map D.int = LI at *
      generalize (levM b c ws[i]).map D.int = VI at *
      refine ⟨[some (false, .fl DNS), some (false, .int (k : Nat)), some (false, fmD b c), none, some (true, .lst LI), some (false, .int ws[i]), v6, v7, v8, v9, v10, none], by simp, ?_⟩
      exact go_to (S := [some (false, .fl DNS), some (false, .int (k : Nat)), some (false, fmD b c), none, some (true, .lst (LI ++ VI)), some (false, .int ws[i]), v6, v7, v8, v9, v10, none]) (by simp (disch := omega) [lv, n1, n2, ifp]) ⟨_, rfl⟩
    · rintro S ⟨w5, rfl⟩
      rw [List.length_map, List.take_length]
      exact ⟨rfl, w5, rfl⟩
  obtain ⟨SL, eL, w5, rfl⟩ := loop
  -- what is due
  have L1 : ∀ WD : List D, lcD (aName 11) tYesD (eCall F__law_join (aCons (eVar 4) (aCons (eDiv (eLen (aCons (eVar 4) aNil)) (eLen (aCons (eVar 3) aNil))) (aCons (eVar 11) aNil)))) [some (false, .fl DNS), some (false, .int (k : Nat)), some (false, fmD b c), some (true, .lst (ws.map D.int)), some (true, .lst ((rL b c ws).map D.int)), w5, some (true, .lst WD), some (true, .lst ((rL b c ws).map D.int).reverse), some (true, .lst ((List.range (szM b c * ws.length)).map J)), v9, v10, none] (rangeD 0 ((((rL b c ws).map D.int).length : Nat) : Int)) [] (.bor []) = some ((List.range (szM b c * ws.length)).map J, .bor []) := fun WD => by
    rw [hL, lc_ix J (by rw [sizeL_R, rangeD_len]; simp only [List.length_nil]; omega) fun i d hd => ?_]
    · rw [rangeD_len, Int.sub_zero, Int.toNat_natCast]; rfl
    · obtain ⟨hi, rfl⟩ := rangeD_get hd
      rw [Int.zero_add]
      have lx := lj i
      have dv : (((((rL b c ws).map D.int).length : Nat) : Int)) / (((ws.map D.int).length : Nat) : Int) = (szM b c : Int) := by
        rw [hL, hWl]
        have : ((szM b c * ws.length : Nat) : Int) = (szM b c : Int) * (ws.length : Int) := by simp
        rw [this, Int.mul_ediv_cancel _ (by omega)]
      have p1 : 0 < (ws.map D.int).length := by omega
      have sm : small (((ws.map D.int).length : Nat) : Int) = true := small_mid (by omega) (by omega)
      clear Je Jl Le Ll We Wl
      generalize (List.range (szM b c * ws.length)).map J = JD at *
      generalize (rL b c ws).map D.int = LD at *
      generalize ws.map D.int = WW at *
      exact ⟨[some (false, .fl DNS), some (false, .int (k : Nat)), some (false, fmD b c), some (true, .lst WW), some (true, .lst LD), w5, some (true, .lst WD), some (true, .lst LD.reverse), some (true, .lst JD), v9, v10, some (false, .int (i : Nat))], .bor [], by simp, rfl, by simp [dv, p1, sm, lx], by simp⟩
  have L1 := L1 (ws.map D.int)
  have loop2 : Go (sForM 8 10 oneB [some (false, .fl DNS), some (false, .int (k : Nat)), some (false, fmD b c), some (true, .lst (ws.map D.int)), some (true, .lst ((rL b c ws).map D.int)), w5, some (true, .lst (ws.map D.int)), some (true, .lst ((rL b c ws).map D.int).reverse), some (true, .lst ((List.range (szM b c * ws.length)).map J)), some (true, .lst ((List.range (szM b c * ws.length)).map J)), v10, none]) fun S => ∃ w10, S = [some (false, .fl DNS), some (false, .int (k : Nat)), some (false, fmD b c), some (true, .lst (ws.map D.int)), some (true, .lst ((rL b c ws).map D.int)), w5, some (true, .lst (ws.map D.int)), some (true, .lst ((rL b c ws).map D.int).reverse), none, some (true, .lst ((List.range (szM b c * ws.length)).map J)), w10, none] := by
    have : sForM 8 10 oneB [some (false, .fl DNS), some (false, .int (k : Nat)), some (false, fmD b c), some (true, .lst (ws.map D.int)), some (true, .lst ((rL b c ws).map D.int)), w5, some (true, .lst (ws.map D.int)), some (true, .lst ((rL b c ws).map D.int).reverse), some (true, .lst ((List.range (szM b c * ws.length)).map J)), some (true, .lst ((List.range (szM b c * ws.length)).map J)), v10, none] = forDM 10 oneB ((List.range (szM b c * ws.length)).map J) [some (false, .fl DNS), some (false, .int (k : Nat)), some (false, fmD b c), some (true, .lst (ws.map D.int)), some (true, .lst ((rL b c ws).map D.int)), w5, some (true, .lst (ws.map D.int)), some (true, .lst ((rL b c ws).map D.int).reverse), none, some (true, .lst ((List.range (szM b c * ws.length)).map J)), v10, none] := rfl
    rw [this]
    refine forDM_inv (fun S => ∃ w10, S = [some (false, .fl DNS), some (false, .int (k : Nat)), some (false, fmD b c), some (true, .lst (ws.map D.int)), some (true, .lst ((rL b c ws).map D.int)), w5, some (true, .lst (ws.map D.int)), some (true, .lst ((rL b c ws).map D.int).reverse), none, some (true, .lst ((List.range (szM b c * ws.length)).map J)), w10, none]) ⟨_, rfl⟩ fun d hd S hS => ?_
    obtain ⟨w10, rfl⟩ := hS
    obtain ⟨x, _, rfl⟩ := List.mem_map.mp hd
    exact one_go (by omega) (by omega) (hJ x)
  obtain ⟨S2, e2, w10, rfl⟩ := loop2
  have hLl : ((rL b c ws).map D.int).length ≤ 1000 := by omega
  unfold turnB
  clear hJ lj R
  generalize (List.range (szM b c * ws.length)).map J = JD at *
  generalize (rL b c ws).map D.int = LD at *
  generalize ws.map D.int = WD at *
  refine go_seq (go_to (S := [some (false, .fl DNS), some (false, .int (k : Nat)), some (false, fmD b c), some (true, .lst WD), some (true, .lst []), v5, v6, v7, v8, v9, v10, none]) (by simp) ?_)
  refine go_seq (go_to eL ?_)
  refine go_seq (go_to (S := [some (false, .fl DNS), some (false, .int (k : Nat)), some (false, fmD b c), some (true, .lst WD), some (true, .lst LD), w5, some (true, .lst WD), v7, v8, v9, v10, none]) (by simp [nW]) ?_)
  refine go_seq (go_to (S := [some (false, .fl DNS), some (false, .int (k : Nat)), some (false, fmD b c), some (true, .lst WD), some (true, .lst LD), w5, some (true, .lst WD), some (true, .lst LD), v8, v9, v10, none]) (by simp [rl]) ?_)
  refine go_seq (go_to (S := [some (false, .fl DNS), some (false, .int (k : Nat)), some (false, fmD b c), some (true, .lst WD), some (true, .lst LD), w5, some (true, .lst WD), some (true, .lst LD), v8, v9, v10, none]) (by simp [Ll, Le]) ?_)
  refine go_seq (go_to (S := [some (false, .fl DNS), some (false, .int (k : Nat)), some (false, fmD b c), some (true, .lst WD), some (true, .lst LD), w5, some (true, .lst WD), some (true, .lst LD.reverse), v8, v9, v10, none]) ?_ ?_)
  · exact rev_go (by rfl) nL
  refine go_seq (go_to (S := [some (false, .fl DNS), some (false, .int (k : Nat)), some (false, fmD b c), some (true, .lst WD), some (true, .lst LD), w5, some (true, .lst WD), some (true, .lst LD.reverse), some (true, .lst JD), v9, v10, none]) (by simp [jn]) ?_)
  refine go_seq (go_to (S := [some (false, .fl DNS), some (false, .int (k : Nat)), some (false, fmD b c), some (true, .lst WD), some (true, .lst LD), w5, some (true, .lst WD), some (true, .lst LD.reverse), some (true, .lst JD), some (true, .lst JD), v10, none]) (by simp (disch := omega) [L1, ifp]) ?_)
  refine go_seq (go_to (S := [some (false, .fl DNS), some (false, .int (k : Nat)), some (false, fmD b c), some (true, .lst WD), some (true, .lst LD), w5, some (true, .lst WD), some (true, .lst LD.reverse), some (true, .lst JD), some (true, .lst JD), v10, none]) (by simp [Jl, Je, Wl, We]) ?_)
  refine go_seq (go_to e2 ?_)
  exact go_to (S := [some (false, .fl DNS), some (false, .int (k : Nat)), some (false, fmD b c), some (true, .lst WD), some (true, .lst LD), w5, some (true, .lst WD), some (true, .lst LD.reverse), none, some (true, .lst JD), w10, none]) (by simp [jn, Jl, Je]) ⟨_, _, _, _, _, _, _, _, _, _, rfl⟩
theorem law_true : ∀ ns : List Int, ns.length ≤ 63 → ∃ fr, F_law [.fl (ns.map D.int)] = some (.ok (.bl true, fr)) := by
  intro ns hns
  refine ⟨true, fin_re rfl ?_⟩
  unfold f_law
  obtain ⟨DNS, hDNS⟩ : ∃ DNS, ns.map D.int = DNS := ⟨_, rfl⟩
  rw [hDNS]
  refine re_seq (Go.imp (sFor_go (ds := [.int 0, .int 2, .int 4, .int 6]) rfl (for_inv (fun _ S => ∃ w1 w2 w3 w4 w5 w6 w7 w8 w9 w10, S = [some (false, .fl DNS), w1, w2, w3, w4, w5, w6, w7, w8, w9, w10, none]) ⟨_, _, _, _, _, _, _, _, _, _, rfl⟩ ?_)) ?_)
  · rintro i0 d S hd ⟨v1, v2, v3, v4, v5, v6, v7, v8, v9, v10, rfl⟩
    obtain ⟨k, hk, rfl⟩ : ∃ k : Nat, k ≤ 6 ∧ d = .int (k : Nat) := by
      have := List.mem_of_getElem? hd
      simp only [List.mem_cons, List.not_mem_nil, or_false] at this
      rcases this with rfl | rfl | rfl | rfl
      · exact ⟨0, by omega, rfl⟩
      · exact ⟨2, by omega, rfl⟩
      · exact ⟨4, by omega, rfl⟩
      · exact ⟨6, by omega, rfl⟩
    refine ⟨[some (false, .fl DNS), some (false, .int (k : Nat)), v2, v3, v4, v5, v6, v7, v8, v9, v10, none], by simp, ?_⟩
    clear hd i0
    have ok1 : SzOk [45] := ⟨by decide, by decide, by decide +kernel⟩
    obtain ⟨z0, hz0⟩ := cell_at_eq ns k
    obtain ⟨z1, hz1⟩ := cell_at_eq ns (k + 1)
    rw [show ((k + 1 : Nat) : Int) = (k : Int) + 1 by omega] at hz1
    rw [hDNS] at hz0 hz1
    have dr := drawn_eq (c := z0 + k) ok1
    have dl := drawn_len (z0 + k) [45]
    have di := drawn_in (z0 + k) [45] ok1.pos
    generalize drawn (z0 + k) [45] = dg at dr dl di
    have dl : dg.length = 1 := dl
    obtain ⟨d0, rfl⟩ : ∃ d0, dg = [d0] := by
      match dg, dl with
      | [d0], _ => exact ⟨d0, rfl⟩
    have g0 : 0 ≤ d0 := (di 0 (by decide)).1
    have dr : F__law_drawn [.int (z0 + k), .lst [.int 45]] = some (.ok (.lst [.int d0], true)) := dr
    obtain ⟨bI, c, hfm, hf⟩ := law_form_eq g0
    obtain ⟨b, rfl⟩ : ∃ b : Nat, bI = (b : Nat) := ⟨bI.toNat, by have := hf.b0; omega⟩
    obtain ⟨ws, hww, h1, hm, hw⟩ := law_words_eq hf (z1 + k)
    refine go_seq (go_to (S := [some (false, .fl DNS), some (false, .int (k : Nat)), some (false, fmD b c), v3, v4, v5, v6, v7, v8, v9, v10, none]) (by simp [hz0, dr, hfm]) ?_)
    refine go_seq (go_to (S := [some (false, .fl DNS), some (false, .int (k : Nat)), some (false, fmD b c), some (true, .lst (ws.map D.int)), v4, v5, v6, v7, v8, v9, v10, none]) (by generalize ws.map D.int = WD at *; simp [hz1, hww]) ?_)
    exact turn_go hf h1 hm hw
  · rintro S ⟨w1, w2, w3, w4, w5, w6, w7, w8, w9, w10, rfl⟩
    unfold Re
    simp
end K33
set_option Elab.async false
set_option linter.all false
set_option maxRecDepth 100000
set_option maxHeartbeats 4000000
namespace K33
open PySem L2
def top (i : Nat) : Stmt := PySem.Challenge.pw_barewire_k33_joins_walked.main.body.getD i (.Pass ⟨0, 0, 0, 0⟩)
abbrev s_law_form : Stmt := top 20
abbrev s_law_stir : Stmt := top 17
abbrev s_law_drawn : Stmt := top 18
abbrev s_law_cell_at : Stmt := top 16
abbrev s_law_words : Stmt := top 22
abbrev s_law_levels : Stmt := top 21
abbrev s_is_whole : Stmt := top 4
abbrev s_is_word : Stmt := top 6
abbrev s_check_level : Stmt := top 8
abbrev s_levels_of : Stmt := top 7
abbrev s_round_levels : Stmt := top 10
abbrev s_start_from : Stmt := top 11
abbrev s_least_first : Stmt := top 14
abbrev s_join_at : Stmt := top 13
abbrev s_size_of : Stmt := top 5
abbrev s_joins : Stmt := top 12
abbrev s_law_begin_from : Stmt := top 23
abbrev s_law_join : Stmt := top 24
abbrev s_law_whole : Stmt := top 19
abbrev s_law : Stmt := top 25
structure Adr where
  law_form : Addr
  law_form_d : FuncData
  law_stir : Addr
  law_stir_d : FuncData
  law_drawn : Addr
  law_drawn_d : FuncData
  law_cell_at : Addr
  law_cell_at_d : FuncData
  law_words : Addr
  law_words_d : FuncData
  law_levels : Addr
  law_levels_d : FuncData
  is_whole : Addr
  is_whole_d : FuncData
  is_word : Addr
  is_word_d : FuncData
  check_level : Addr
  check_level_d : FuncData
  levels_of : Addr
  levels_of_d : FuncData
  round_levels : Addr
  round_levels_d : FuncData
  start_from : Addr
  start_from_d : FuncData
  least_first : Addr
  least_first_d : FuncData
  join_at : Addr
  join_at_d : FuncData
  size_of : Addr
  size_of_d : FuncData
  joins : Addr
  joins_d : FuncData
  law_begin_from : Addr
  law_begin_from_d : FuncData
  law_join : Addr
  law_join_d : FuncData
  law_whole : Addr
  law_whole_d : FuncData
  law : Addr
  law_d : FuncData
structure Txt (K : PySem.W.Frag) (mg : Str → Option Value) (base : Heap) (t : Adr) : Prop where
  law_form : Fun K "_law_form" "_law_form" s_law_form t.law_form t.law_form_d
  law_form_b : Binds K t.law_form_d ["number"] []
  law_form_g : mg "_law_form" = some (.ref t.law_form)
  law_stir : Fun K "_law_stir" "_law_stir" s_law_stir t.law_stir t.law_stir_d
  law_stir_b : Binds K t.law_stir_d ["cell", "k"] []
  law_stir_g : mg "_law_stir" = some (.ref t.law_stir)
  law_drawn : Fun K "_law_drawn" "_law_drawn" s_law_drawn t.law_drawn t.law_drawn_d
  law_drawn_b : Binds K t.law_drawn_d ["cell", "sizes"] []
  law_drawn_g : mg "_law_drawn" = some (.ref t.law_drawn)
  law_cell_at : Fun K "_law_cell_at" "_law_cell_at" s_law_cell_at t.law_cell_at t.law_cell_at_d
  law_cell_at_b : Binds K t.law_cell_at_d ["script", "k"] []
  law_cell_at_g : mg "_law_cell_at" = some (.ref t.law_cell_at)
  law_words : Fun K "_law_words" "_law_words" s_law_words t.law_words t.law_words_d
  law_words_b : Binds K t.law_words_d ["form", "cell"] []
  law_words_g : mg "_law_words" = some (.ref t.law_words)
  law_levels : Fun K "_law_levels" "_law_levels" s_law_levels t.law_levels t.law_levels_d
  law_levels_b : Binds K t.law_levels_d ["form", "word"] []
  law_levels_g : mg "_law_levels" = some (.ref t.law_levels)
  is_whole : Fun K "is_whole" "is_whole" s_is_whole t.is_whole t.is_whole_d
  is_whole_b : Binds K t.is_whole_d ["thing"] []
  is_whole_g : mg "is_whole" = some (.ref t.is_whole)
  is_word : Fun K "is_word" "is_word" s_is_word t.is_word t.is_word_d
  is_word_b : Binds K t.is_word_d ["form", "thing"] []
  is_word_g : mg "is_word" = some (.ref t.is_word)
  check_level : Fun K "check_level" "check_level" s_check_level t.check_level t.check_level_d
  check_level_b : Binds K t.check_level_d ["check", "told"] []
  check_level_g : mg "check_level" = some (.ref t.check_level)
  levels_of : Fun K "levels_of" "levels_of" s_levels_of t.levels_of t.levels_of_d
  levels_of_b : Binds K t.levels_of_d ["form", "word"] []
  levels_of_g : mg "levels_of" = some (.ref t.levels_of)
  round_levels : Fun K "round_levels" "round_levels" s_round_levels t.round_levels t.round_levels_d
  round_levels_b : Binds K t.round_levels_d ["form", "words"] []
  round_levels_g : mg "round_levels" = some (.ref t.round_levels)
  start_from : Fun K "start_from" "start_from" s_start_from t.start_from t.start_from_d
  start_from_b : Binds K t.start_from_d ["levels", "place", "ahead"] []
  start_from_g : mg "start_from" = some (.ref t.start_from)
  least_first : Fun K "least_first" "least_first" s_least_first t.least_first t.least_first_d
  least_first_b : Binds K t.least_first_d ["ring"] []
  least_first_g : mg "least_first" = some (.ref t.least_first)
  join_at : Fun K "join_at" "join_at" s_join_at t.join_at t.join_at_d
  join_at_b : Binds K t.join_at_d ["levels", "size", "place"] []
  join_at_g : mg "join_at" = some (.ref t.join_at)
  size_of : Fun K "size_of" "size_of" s_size_of t.size_of t.size_of_d
  size_of_b : Binds K t.size_of_d ["form"] []
  size_of_g : mg "size_of" = some (.ref t.size_of)
  joins : Fun K "joins" "joins" s_joins t.joins t.joins_d
  joins_b : Binds K t.joins_d ["form", "words"] []
  joins_g : mg "joins" = some (.ref t.joins)
  law_begin_from : Fun K "_law_begin_from" "_law_begin_from" s_law_begin_from t.law_begin_from t.law_begin_from_d
  law_begin_from_b : Binds K t.law_begin_from_d ["levels", "place", "ahead"] []
  law_begin_from_g : mg "_law_begin_from" = some (.ref t.law_begin_from)
  law_join : Fun K "_law_join" "_law_join" s_law_join t.law_join t.law_join_d
  law_join_b : Binds K t.law_join_d ["levels", "size", "come"] []
  law_join_g : mg "_law_join" = some (.ref t.law_join)
  law_whole : Fun K "_law_whole" "_law_whole" s_law_whole t.law_whole t.law_whole_d
  law_whole_b : Binds K t.law_whole_d ["thing"] []
  law_whole_g : mg "_law_whole" = some (.ref t.law_whole)
  law : Fun K "law" "law" s_law t.law t.law_d
  law_b : Binds K t.law_d ["script"] []
  law_g : mg "law" = some (.ref t.law)
  blt : BltOk base mg
  bool_z : mg "bool" = none
  int_z : mg "int" = none
  isinstance_z : mg "isinstance" = none
  len_z : mg "len" = none
  list_z : mg "list" = none
  min_z : mg "min" = none
  range_z : mg "range" = none
  sum_z : mg "sum" = none
  tuple_z : mg "tuple" = none
  NoWord_g : mg "NoWord" = some (.ref (clK K 0))
  xcls : xB K [0] = true
  law_bt : ∀ (s : Shared) (v : Value), BindsTo s t.law_d ⟨[v], []⟩ [("script", v)]
theorem sc_law_form : FnScope ["number"] ["number"] (defScope s_law_form) := ⟨rfl, rfl, rfl, by decide +kernel, rfl, by decide +kernel, by decide +kernel⟩
theorem sc_law_stir : FnScope ["cell", "k", "number"] ["cell", "k"] (defScope s_law_stir) := ⟨rfl, rfl, rfl, by decide +kernel, rfl, by decide +kernel, by decide +kernel⟩
theorem sc_law_drawn : FnScope ["cell", "sizes", "found", "rest", "k"] ["cell", "sizes"] (defScope s_law_drawn) := ⟨rfl, rfl, rfl, by decide +kernel, rfl, by decide +kernel, by decide +kernel⟩
theorem sc_law_cell_at : FnScope ["script", "k"] ["script", "k"] (defScope s_law_cell_at) := ⟨rfl, rfl, rfl, by decide +kernel, rfl, by decide +kernel, by decide +kernel⟩
theorem sc_law_words : FnScope ["form", "cell", "digits", "most", "words", "k", "word", "ahead", "some"] ["form", "cell"] (defScope s_law_words) := ⟨rfl, rfl, rfl, by decide +kernel, rfl, by decide +kernel, by decide +kernel⟩
theorem sc_law_levels : FnScope ["form", "word", "bits", "check", "k"] ["form", "word"] (defScope s_law_levels) := ⟨rfl, rfl, rfl, by decide +kernel, rfl, by decide +kernel, by decide +kernel⟩
theorem sc_is_whole : FnScope ["thing"] ["thing"] (defScope s_is_whole) := ⟨rfl, rfl, rfl, by decide +kernel, rfl, by decide +kernel, by decide +kernel⟩
theorem sc_is_word : FnScope ["form", "thing"] ["form", "thing"] (defScope s_is_word) := ⟨rfl, rfl, rfl, by decide +kernel, rfl, by decide +kernel, by decide +kernel⟩
theorem sc_check_level : FnScope ["check", "told", "ones"] ["check", "told"] (defScope s_check_level) := ⟨rfl, rfl, rfl, by decide +kernel, rfl, by decide +kernel, by decide +kernel⟩
theorem sc_levels_of : FnScope ["form", "word", "bits", "check", "told", "k"] ["form", "word"] (defScope s_levels_of) := ⟨rfl, rfl, rfl, by decide +kernel, rfl, by decide +kernel, by decide +kernel⟩
theorem sc_round_levels : FnScope ["form", "words", "word", "level"] ["form", "words"] (defScope s_round_levels) := ⟨rfl, rfl, rfl, by decide +kernel, rfl, by decide +kernel, by decide +kernel⟩
theorem sc_start_from : FnScope ["levels", "place", "ahead"] ["levels", "place", "ahead"] (defScope s_start_from) := ⟨rfl, rfl, rfl, by decide +kernel, rfl, by decide +kernel, by decide +kernel⟩
theorem sc_least_first : FnScope ["ring", "at"] ["ring"] (defScope s_least_first) := ⟨rfl, rfl, rfl, by decide +kernel, rfl, by decide +kernel, by decide +kernel⟩
theorem sc_join_at : FnScope ["levels", "size", "place", "begun", "start", "here", "last"] ["levels", "size", "place"] (defScope s_join_at) := ⟨rfl, rfl, rfl, by decide +kernel, rfl, by decide +kernel, by decide +kernel⟩
theorem sc_size_of : FnScope ["form", "bits", "check"] ["form"] (defScope s_size_of) := ⟨rfl, rfl, rfl, by decide +kernel, rfl, by decide +kernel, by decide +kernel⟩
theorem sc_joins : FnScope ["form", "words", "levels", "place"] ["form", "words"] (defScope s_joins) := ⟨rfl, rfl, rfl, by decide +kernel, rfl, by decide +kernel, by decide +kernel⟩
theorem sc_law_begin_from : FnScope ["levels", "place", "ahead"] ["levels", "place", "ahead"] (defScope s_law_begin_from) := ⟨rfl, rfl, rfl, by decide +kernel, rfl, by decide +kernel, by decide +kernel⟩
theorem sc_law_join : FnScope ["levels", "size", "come", "begins", "place", "turn", "last", "ring", "begin", "end", "least"] ["levels", "size", "come"] (defScope s_law_join) := ⟨rfl, rfl, rfl, by decide +kernel, rfl, by decide +kernel, by decide +kernel⟩
theorem sc_law_whole : FnScope ["thing"] ["thing"] (defScope s_law_whole) := ⟨rfl, rfl, rfl, by decide +kernel, rfl, by decide +kernel, by decide +kernel⟩
theorem sc_law : FnScope ["script", "k", "form", "words", "levels", "word", "handed", "found", "told", "due", "one", "come"] ["script"] (defScope s_law) := ⟨rfl, rfl, rfl, by decide +kernel, rfl, by decide +kernel, by decide +kernel⟩
section
variable {P : Program} {w : World} {K : PySem.W.Frag} {mg : Str → Option Value} {base : Heap}
theorem ok_law_form {t : Adr} (T : Txt K mg base t) : FnOk P w K mg base (CXW P w) 1 t.law_form t.law_form_d ["number"] (spP K (tabG []) F__law_form) := by
  refine T.law_form.okD sc_law_form (by decide) fun cdv A outer s H E hr hx hm => ?_
  refine cs_ts [0] ?_
  unfold f__law_form
  refine cs_one ?_
  exact cs_leaf (@ps_ret _ _ _ _ (@pe_tup _ _ _ _ _ (@pa_cons _ _ _ _ _ (@pe_op _ _ _ _ _ _ _ _ op_addA pe_int (@pe_op _ _ _ _ _ _ _ _ op_mod (@pv _ 0 _ _ (by rfl) (by first | exact Or.inl rfl | exact Or.inr (Or.inl rfl) | exact Or.inr (Or.inr rfl)) (by decide) (by decide)) pe_int)) (@pa_cons _ _ _ _ _ (@pe_ix _ _ _ _ _ _ _ (ixA K rfl) (@pe_lst _ _ _ _ (@pa_kk _ _ [.str "none", .str "even", .str "odd"] (by decide +kernel))) (@pe_op _ _ _ _ _ _ _ _ op_mod (@pe_op _ _ _ _ _ _ _ _ op_fdivB (@pv _ 0 _ _ (by rfl) (by first | exact Or.inl rfl | exact Or.inr (Or.inl rfl) | exact Or.inr (Or.inr rfl)) (by decide) (by decide)) pe_int) pe_int) (fun _ _ => rfl)) pa_nil (by rfl)) (by rfl)))) (ds_ret (de_tup (da_cons (de_add (de_int 2) (de_mod (de_var 0) (de_int 15))) (da_cons (de_ix (de_lst (da_k (vs := [.str "none", .str "even", .str "odd"]) rfl)) (de_mod (de_div (de_var 0) (de_int 15)) (de_int 3))) da_nil)))) (by decide)
theorem ok_law_stir {t : Adr} (T : Txt K mg base t) : FnOk P w K mg base (CXW P w) 1 t.law_stir t.law_stir_d ["cell", "k"] (spP K (tabG []) F__law_stir) := by
  refine T.law_stir.okD sc_law_stir (by decide) fun cdv A outer s H E hr hx hm => ?_
  refine cs_ts [0, 1, 2] ?_
  unfold f__law_stir
  refine cs_cons ?_ ?_
  · skip
    exact cs_leaf (@psn _ _ 2 _ _ _ _ sc_law_stir.nd rfl (by first | exact Or.inl rfl | exact Or.inr rfl) (@pe_op _ _ _ _ _ _ _ _ op_mulA (@pe_op _ _ _ _ _ _ _ _ op_addA (@pe_op _ _ _ _ _ _ _ _ op_addA (@pe_op _ _ _ _ _ _ _ _ op_mod (@pv _ 0 _ _ (by rfl) (by first | exact Or.inl rfl | exact Or.inr (Or.inl rfl) | exact Or.inr (Or.inr rfl)) (by decide) (by decide)) (@pe_op _ _ _ _ _ _ _ _ op_powB pe_int pe_int)) (@pe_op _ _ _ _ _ _ _ _ op_mulA pe_int (@pv _ 1 _ _ (by rfl) (by first | exact Or.inl rfl | exact Or.inr (Or.inl rfl) | exact Or.inr (Or.inr rfl)) (by decide) (by decide)))) pe_int) pe_int) (by rfl) (by first | exact .inl rfl | exact .inr rfl | assumption)) (ds_asg (de_mul (de_add (de_add (de_mod (de_var 0) (de_pow (de_int 10) (de_int 60))) (de_mul (de_int 7919) (de_var 1))) (de_int 1)) (de_int 27182818284590452353602874713527)) (dg_name 2)) (by decide)
  refine cs_cons ?_ ?_
  · skip
    exact cs_leaf (@psn _ _ 2 _ _ _ _ sc_law_stir.nd rfl (by first | exact Or.inl rfl | exact Or.inr rfl) (@pe_op _ _ _ _ _ _ _ _ op_mod (@pv _ 2 _ _ (by rfl) (by first | exact Or.inl rfl | exact Or.inr (Or.inl rfl) | exact Or.inr (Or.inr rfl)) (by decide) (by decide)) pe_int) (by rfl) (by first | exact .inl rfl | exact .inr rfl | assumption)) (ds_asg (de_mod (de_var 2) (de_int 170141183460469231731687303715884105727)) (dg_name 2)) (by decide)
  refine cs_one ?_
  exact cs_leaf (@ps_ret _ _ _ _ (@pe_op _ _ _ _ _ _ _ _ op_fdivB (@pe_op _ _ _ _ _ _ _ _ op_mod (@pe_op _ _ _ _ _ _ _ _ op_powB (@pe_op _ _ _ _ _ _ _ _ op_addA (@pe_op _ _ _ _ _ _ _ _ op_powB (@pv _ 2 _ _ (by rfl) (by first | exact Or.inl rfl | exact Or.inr (Or.inl rfl) | exact Or.inr (Or.inr rfl)) (by decide) (by decide)) pe_int) (@pe_op _ _ _ _ _ _ _ _ op_mulA pe_int (@pv _ 1 _ _ (by rfl) (by first | exact Or.inl rfl | exact Or.inr (Or.inl rfl) | exact Or.inr (Or.inr rfl)) (by decide) (by decide)))) pe_int) pe_int) pe_int)) (ds_ret (de_div (de_mod (de_pow (de_add (de_pow (de_var 2) (de_int 5)) (de_mul (de_int 48271) (de_var 1))) (de_int 3)) (de_int 162259276829213363391578010288127)) (de_int 7))) (by decide)
theorem ok_law_drawn {t : Adr} (T : Txt K mg base t) : FnOk P w K mg base (CXW P w) 2 t.law_drawn t.law_drawn_d ["cell", "sizes"] (spP K (tabG []) F__law_drawn) := by
  have g_law_stir := (ok_law_stir (P := P) (w := w) (base := base) T).mono (show 1 ≤ 1 by decide)
  refine T.law_drawn.okD sc_law_drawn (by decide) fun cdv A outer s H E hr hx hm => ?_
  refine cs_ts [0, 1, 2, 3, 4] ?_
  unfold f__law_drawn
  refine cs_cons ?_ ?_
  · skip
    exact cs_leaf (@psn _ _ 2 _ _ _ _ sc_law_drawn.nd rfl (by first | exact Or.inl rfl | exact Or.inr rfl) (@pe_lst _ _ _ _ pa_nil) (by rfl) (by first | exact .inl rfl | exact .inr rfl | assumption)) (ds_asg (de_lst da_nil) (dg_name 2)) (by decide)
  refine cs_cons ?_ ?_
  · skip
    exact cs_leaf (@psn _ _ 3 _ _ _ _ sc_law_drawn.nd rfl (by first | exact Or.inl rfl | exact Or.inr rfl) (@pv _ 0 _ _ (by rfl) (by first | exact Or.inl rfl | exact Or.inr (Or.inl rfl) | exact Or.inr (Or.inr rfl)) (by decide) (by decide)) (by rfl) (by first | exact .inl rfl | exact .inr rfl | assumption)) (ds_asg (de_var 0) (dg_name 3)) (by decide)
  refine cs_cons ?_ ?_
  · skip
    refine cs_for rfl (@pi_range1 _ _ _ _ _ _ (by rfl) T.range_z (@pa_cons _ _ _ _ _ (@pe_callB _ _ _ _ _ _ _ _ _ (lenA K rfl) (by rfl) T.len_z PySem.boot_len (@pa_cons _ _ _ _ _ (@pv _ 1 _ _ (by rfl) (by first | exact Or.inl rfl | exact Or.inr (Or.inl rfl) | exact Or.inr (Or.inr rfl)) (by decide) (by decide)) pa_nil (by rfl)) (by decide) (by decide) (by rfl) (by rfl)) pa_nil (by rfl)) (by rfl)) (di_range1 (da_cons (de_len (da_cons (de_var 1) da_nil)) da_nil)) (@pgn _ _ 4 _ sc_law_drawn.nd rfl (by first | exact Or.inl rfl | exact Or.inr rfl) (by first | exact .inl rfl | exact .inr rfl | assumption)) (dg_name 4) PassesOwn.leaving (by decide) (by intro _; rfl) ?_
    refine cs_one ?_
    refine cs_if (@PW.pt _ _ _ (@pw_or _ _ _ _ _ _ _ (@pt_cmpR _ _ _ _ _ _ _ _ op_lt (@pv _ 0 _ _ (by rfl) (by first | exact Or.inl rfl | exact Or.inr (Or.inl rfl) | exact Or.inr (Or.inr rfl)) (by decide) (by decide)) (@pe_op _ _ _ _ _ _ _ _ op_powB pe_int pe_int) (nomark _)) (@pw_or1 _ _ _ _ (@pt_cmpR _ _ _ _ _ _ _ _ (eqA K rfl hr.units) (@pv _ 3 _ _ (by rfl) (by first | exact Or.inl rfl | exact Or.inr (Or.inl rfl) | exact Or.inr (Or.inr rfl)) (by decide) (by decide)) pe_int (nomark _))))) (dt_or (dt_test (de_lt (de_var 0) (de_pow (de_int 10) (de_int 18)))) (dt_test (de_eq (de_var 3) (de_int 0)))) ?_ ?_
    · skip
      refine cs_one ?_
      exact cs_leaf (@ps_expr _ _ _ _ (@pe_bm _ _ _ _ _ _ _ _ _ _ _ _ PySem.F.plainAttrs_list PySem.F.slot_list_append PySem.F.type_list_append mt_append (@pv _ 2 _ _ (by rfl) (by first | exact Or.inl rfl | exact Or.inr (Or.inl rfl) | exact Or.inr (Or.inr rfl)) (by decide) (by decide)) (@pa_cons _ _ _ _ _ (@pe_op _ _ _ _ _ _ _ _ op_mod (@pe_callX _ _ _ _ _ _ _ _ _ _ _ _ _ _ g_law_stir hr (by rfl) T.law_stir_g T.law_stir.kp T.law_stir_b hx (@pa_cons _ _ _ _ _ (@pv _ 0 _ _ (by rfl) (by first | exact Or.inl rfl | exact Or.inr (Or.inl rfl) | exact Or.inr (Or.inr rfl)) (by decide) (by decide)) (@pa_cons _ _ _ _ _ (@pv _ 4 _ _ (by rfl) (by first | exact Or.inl rfl | exact Or.inr (Or.inl rfl) | exact Or.inr (Or.inr rfl)) (by decide) (by decide)) pa_nil (by rfl)) (by rfl)) (by decide) (by rfl) (by rfl)) (@pe_ix _ _ _ _ _ _ _ (ixA K rfl) (@pv _ 1 _ _ (by rfl) (by first | exact Or.inl rfl | exact Or.inr (Or.inl rfl) | exact Or.inr (Or.inr rfl)) (by decide) (by decide)) (@pv _ 4 _ _ (by rfl) (by first | exact Or.inl rfl | exact Or.inr (Or.inl rfl) | exact Or.inr (Or.inr rfl)) (by decide) (by decide)) (fun _ _ => rfl))) pa_nil (by rfl)) (by rfl) (by rfl) (by rfl) (by rfl) (by rfl)) (by rfl)) (ds_app (dp_name 2) (da_cons (de_mod (de_callX (F := F__law_stir) (da_cons (de_var 0) (da_cons (de_var 4) da_nil))) (de_ix (de_var 1) (de_var 4))) da_nil)) (by decide)
    · skip
      refine cs_cons ?_ ?_
      · skip
        exact cs_leaf (@ps_expr _ _ _ _ (@pe_bm _ _ _ _ _ _ _ _ _ _ _ _ PySem.F.plainAttrs_list PySem.F.slot_list_append PySem.F.type_list_append mt_append (@pv _ 2 _ _ (by rfl) (by first | exact Or.inl rfl | exact Or.inr (Or.inl rfl) | exact Or.inr (Or.inr rfl)) (by decide) (by decide)) (@pa_cons _ _ _ _ _ (@pe_op _ _ _ _ _ _ _ _ op_mod (@pv _ 3 _ _ (by rfl) (by first | exact Or.inl rfl | exact Or.inr (Or.inl rfl) | exact Or.inr (Or.inr rfl)) (by decide) (by decide)) (@pe_ix _ _ _ _ _ _ _ (ixA K rfl) (@pv _ 1 _ _ (by rfl) (by first | exact Or.inl rfl | exact Or.inr (Or.inl rfl) | exact Or.inr (Or.inr rfl)) (by decide) (by decide)) (@pv _ 4 _ _ (by rfl) (by first | exact Or.inl rfl | exact Or.inr (Or.inl rfl) | exact Or.inr (Or.inr rfl)) (by decide) (by decide)) (fun _ _ => rfl))) pa_nil (by rfl)) (by rfl) (by rfl) (by rfl) (by rfl) (by rfl)) (by rfl)) (ds_app (dp_name 2) (da_cons (de_mod (de_var 3) (de_ix (de_var 1) (de_var 4))) da_nil)) (by decide)
      refine cs_one ?_
      exact cs_leaf (@psn _ _ 3 _ _ _ _ sc_law_drawn.nd rfl (by first | exact Or.inl rfl | exact Or.inr rfl) (@pe_op _ _ _ _ _ _ _ _ op_fdivB (@pv _ 3 _ _ (by rfl) (by first | exact Or.inl rfl | exact Or.inr (Or.inl rfl) | exact Or.inr (Or.inr rfl)) (by decide) (by decide)) (@pe_ix _ _ _ _ _ _ _ (ixA K rfl) (@pv _ 1 _ _ (by rfl) (by first | exact Or.inl rfl | exact Or.inr (Or.inl rfl) | exact Or.inr (Or.inr rfl)) (by decide) (by decide)) (@pv _ 4 _ _ (by rfl) (by first | exact Or.inl rfl | exact Or.inr (Or.inl rfl) | exact Or.inr (Or.inr rfl)) (by decide) (by decide)) (fun _ _ => rfl))) (by rfl) (by first | exact .inl rfl | exact .inr rfl | assumption)) (ds_asg (de_div (de_var 3) (de_ix (de_var 1) (de_var 4))) (dg_name 3)) (by decide)
  refine cs_one ?_
  exact cs_leaf (@ps_ret _ _ _ _ (@pv _ 2 _ _ (by rfl) (by first | exact Or.inl rfl | exact Or.inr (Or.inl rfl) | exact Or.inr (Or.inr rfl)) (by decide) (by decide))) (ds_ret (de_var 2)) (by decide)
theorem ok_law_cell_at {t : Adr} (T : Txt K mg base t) : FnOk P w K mg base (CXW P w) 1 t.law_cell_at t.law_cell_at_d ["script", "k"] (spP K (tabG []) F__law_cell_at) := by
  refine T.law_cell_at.okD sc_law_cell_at (by decide) fun cdv A outer s H E hr hx hm => ?_
  refine cs_ts [0, 1] ?_
  unfold f__law_cell_at
  refine cs_cons ?_ ?_
  · skip
    refine cs_if (@pt_cmpR _ _ _ _ _ _ _ _ op_lt (@pv _ 1 _ _ (by rfl) (by first | exact Or.inl rfl | exact Or.inr (Or.inl rfl) | exact Or.inr (Or.inr rfl)) (by decide) (by decide)) (@pe_callB _ _ _ _ _ _ _ _ _ (lenA K rfl) (by rfl) T.len_z PySem.boot_len (@pa_cons _ _ _ _ _ (@pv _ 0 _ _ (by rfl) (by first | exact Or.inl rfl | exact Or.inr (Or.inl rfl) | exact Or.inr (Or.inr rfl)) (by decide) (by decide)) pa_nil (by rfl)) (by decide) (by decide) (by rfl) (by rfl)) (nomark _)) (dt_test (de_lt (de_var 1) (de_len (da_cons (de_var 0) da_nil)))) ?_ ?_
    · skip
      refine cs_one ?_
      exact cs_leaf (@ps_ret _ _ _ _ (@pe_ix _ _ _ _ _ _ _ (ixA K rfl) (@pv _ 0 _ _ (by rfl) (by first | exact Or.inl rfl | exact Or.inr (Or.inl rfl) | exact Or.inr (Or.inr rfl)) (by decide) (by decide)) (@pv _ 1 _ _ (by rfl) (by first | exact Or.inl rfl | exact Or.inr (Or.inl rfl) | exact Or.inr (Or.inr rfl)) (by decide) (by decide)) (fun _ _ => rfl))) (ds_ret (de_ix (de_var 0) (de_var 1))) (by decide)
    · skip
      exact cs_nil
  refine cs_one ?_
  exact cs_leaf (@ps_ret _ _ _ _ pe_int) (ds_ret (de_int 0)) (by decide)
theorem ok_law_words {t : Adr} (T : Txt K mg base t) : FnOk P w K mg base (CXW P w) 3 t.law_words t.law_words_d ["form", "cell"] (spP K (tabG []) F__law_words) := by
  have g_law_drawn := (ok_law_drawn (P := P) (w := w) (base := base) T).mono (show 2 ≤ 2 by decide)
  refine T.law_words.okD sc_law_words (by decide) fun cdv A outer s H E hr hx hm => ?_
  refine cs_ts [0, 1, 2, 3, 4, 5, 6, 7, 8] ?_
  unfold f__law_words
  refine cs_cons ?_ ?_
  · skip
    exact cs_leaf (@psn _ _ 2 _ _ _ _ sc_law_words.nd rfl (by first | exact Or.inl rfl | exact Or.inr rfl) (@pe_callX _ _ _ _ _ _ _ _ _ _ _ _ _ _ g_law_drawn hr (by rfl) T.law_drawn_g T.law_drawn.kp T.law_drawn_b hx (@pa_cons _ _ _ _ _ (@pv _ 1 _ _ (by rfl) (by first | exact Or.inl rfl | exact Or.inr (Or.inl rfl) | exact Or.inr (Or.inr rfl)) (by decide) (by decide)) (@pa_cons _ _ _ _ _ (@pe_op _ _ _ _ _ _ _ _ op_addA (@pe_lst _ _ _ _ (@pa_cons _ _ _ _ _ pe_int pa_nil (by rfl))) (@pe_op _ _ _ _ _ _ _ _ op_mulA (@pe_lst _ _ _ _ (@pa_cons _ _ _ _ _ (@pe_op _ _ _ _ _ _ _ _ op_shl pe_int pe_int) (@pa_cons _ _ _ _ _ pe_int pa_nil (by rfl)) (by rfl))) pe_int)) pa_nil (by rfl)) (by rfl)) (by decide) (by rfl) (by rfl)) (by rfl) (by first | exact .inl rfl | exact .inr rfl | assumption)) (ds_asg (de_callX (F := F__law_drawn) (da_cons (de_var 1) (da_cons (de_add (de_lst (da_cons (de_int 12) da_nil)) (de_mul (de_lst (da_cons (de_shl (de_int 1) (de_int 16)) (da_cons (de_int 7) da_nil))) (de_int 12))) da_nil))) (dg_name 2)) (by decide)
  refine cs_cons ?_ ?_
  · skip
    exact cs_leaf (@psn _ _ 3 _ _ _ _ sc_law_words.nd rfl (by first | exact Or.inl rfl | exact Or.inr rfl) (@pe_op _ _ _ _ _ _ _ _ op_shl pe_int (@pe_ix _ _ _ _ _ _ _ (ixA K rfl) (@pv _ 0 _ _ (by rfl) (by first | exact Or.inl rfl | exact Or.inr (Or.inl rfl) | exact Or.inr (Or.inr rfl)) (by decide) (by decide)) pe_int (fun _ _ => rfl))) (by rfl) (by first | exact .inl rfl | exact .inr rfl | assumption)) (ds_asg (de_shl (de_int 1) (de_ix (de_var 0) (de_int 0))) (dg_name 3)) (by decide)
  refine cs_cons ?_ ?_
  · skip
    exact cs_leaf (@psn _ _ 4 _ _ _ _ sc_law_words.nd rfl (by first | exact Or.inl rfl | exact Or.inr rfl) (@pe_lst _ _ _ _ pa_nil) (by rfl) (by first | exact .inl rfl | exact .inr rfl | assumption)) (ds_asg (de_lst da_nil) (dg_name 4)) (by decide)
  refine cs_cons ?_ ?_
  · skip
    refine cs_for rfl (@pi_range1 _ _ _ _ _ _ (by rfl) T.range_z (@pa_cons _ _ _ _ _ (@pe_op _ _ _ _ _ _ _ _ op_addA pe_int (@pe_ix _ _ _ _ _ _ _ (ixA K rfl) (@pv _ 2 _ _ (by rfl) (by first | exact Or.inl rfl | exact Or.inr (Or.inl rfl) | exact Or.inr (Or.inr rfl)) (by decide) (by decide)) pe_int (fun _ _ => rfl))) pa_nil (by rfl)) (by rfl)) (di_range1 (da_cons (de_add (de_int 1) (de_ix (de_var 2) (de_int 0))) da_nil)) (@pgn _ _ 5 _ sc_law_words.nd rfl (by first | exact Or.inl rfl | exact Or.inr rfl) (by first | exact .inl rfl | exact .inr rfl | assumption)) (dg_name 5) PassesOwn.leaving (by decide) (by intro _; rfl) ?_
    refine cs_cons ?_ ?_
    · skip
      exact cs_leaf (@psn _ _ 6 _ _ _ _ sc_law_words.nd rfl (by first | exact Or.inl rfl | exact Or.inr rfl) (@pe_op _ _ _ _ _ _ _ _ op_mod (@pe_ix _ _ _ _ _ _ _ (ixA K rfl) (@pv _ 2 _ _ (by rfl) (by first | exact Or.inl rfl | exact Or.inr (Or.inl rfl) | exact Or.inr (Or.inr rfl)) (by decide) (by decide)) (@pe_op _ _ _ _ _ _ _ _ op_addA (@pe_op _ _ _ _ _ _ _ _ op_mulA pe_int (@pv _ 5 _ _ (by rfl) (by first | exact Or.inl rfl | exact Or.inr (Or.inl rfl) | exact Or.inr (Or.inr rfl)) (by decide) (by decide))) pe_int) (fun _ _ => rfl)) (@pv _ 3 _ _ (by rfl) (by first | exact Or.inl rfl | exact Or.inr (Or.inl rfl) | exact Or.inr (Or.inr rfl)) (by decide) (by decide))) (by rfl) (by first | exact .inl rfl | exact .inr rfl | assumption)) (ds_asg (de_mod (de_ix (de_var 2) (de_add (de_mul (de_int 2) (de_var 5)) (de_int 1))) (de_var 3)) (dg_name 6)) (by decide)
    refine cs_cons ?_ ?_
    · skip
      exact cs_leaf (@psn _ _ 7 _ _ _ _ sc_law_words.nd rfl (by first | exact Or.inl rfl | exact Or.inr rfl) (@pe_ix _ _ _ _ _ _ _ (ixA K rfl) (@pe_op _ _ _ _ _ _ _ _ op_addA (@pv _ 4 _ _ (by rfl) (by first | exact Or.inl rfl | exact Or.inr (Or.inl rfl) | exact Or.inr (Or.inr rfl)) (by decide) (by decide)) (@pe_lst _ _ _ _ (@pa_cons _ _ _ _ _ (@pv _ 6 _ _ (by rfl) (by first | exact Or.inl rfl | exact Or.inr (Or.inl rfl) | exact Or.inr (Or.inr rfl)) (by decide) (by decide)) pa_nil (by rfl)))) (@pe_un _ _ _ _ _ _ un_neg pe_int) (fun _ _ => rfl)) (by rfl) (by first | exact .inl rfl | exact .inr rfl | assumption)) (ds_asg (de_ix (de_add (de_var 4) (de_lst (da_cons (de_var 6) da_nil))) (de_neg (de_int 1))) (dg_name 7)) (by decide)
    refine cs_cons ?_ ?_
    · skip
      exact cs_leaf (@psn _ _ 8 _ _ _ _ sc_law_words.nd rfl (by first | exact Or.inl rfl | exact Or.inr rfl) (@pe_lst _ _ _ _ (@pa_cons _ _ _ _ _ (@pv _ 6 _ _ (by rfl) (by first | exact Or.inl rfl | exact Or.inr (Or.inl rfl) | exact Or.inr (Or.inr rfl)) (by decide) (by decide)) (@pa_cons _ _ _ _ _ (@pv _ 6 _ _ (by rfl) (by first | exact Or.inl rfl | exact Or.inr (Or.inl rfl) | exact Or.inr (Or.inr rfl)) (by decide) (by decide)) (@pa_cons _ _ _ _ _ pe_int (@pa_cons _ _ _ _ _ (@pe_op _ _ _ _ _ _ _ _ op_sub (@pv _ 3 _ _ (by rfl) (by first | exact Or.inl rfl | exact Or.inr (Or.inl rfl) | exact Or.inr (Or.inr rfl)) (by decide) (by decide)) pe_int) (@pa_cons _ _ _ _ _ (@pv _ 7 _ _ (by rfl) (by first | exact Or.inl rfl | exact Or.inr (Or.inl rfl) | exact Or.inr (Or.inr rfl)) (by decide) (by decide)) (@pa_cons _ _ _ _ _ (@pe_op _ _ _ _ _ _ _ _ op_mod (@pe_op _ _ _ _ _ _ _ _ op_addA (@pe_op _ _ _ _ _ _ _ _ op_mulA pe_int (@pv _ 7 _ _ (by rfl) (by first | exact Or.inl rfl | exact Or.inr (Or.inl rfl) | exact Or.inr (Or.inr rfl)) (by decide) (by decide))) pe_int) (@pv _ 3 _ _ (by rfl) (by first | exact Or.inl rfl | exact Or.inr (Or.inl rfl) | exact Or.inr (Or.inr rfl)) (by decide) (by decide))) (@pa_cons _ _ _ _ _ (@pe_op _ _ _ _ _ _ _ _ op_addA (@pe_op _ _ _ _ _ _ _ _ op_fdivB (@pv _ 7 _ _ (by rfl) (by first | exact Or.inl rfl | exact Or.inr (Or.inl rfl) | exact Or.inr (Or.inr rfl)) (by decide) (by decide)) pe_int) (@pe_op _ _ _ _ _ _ _ _ op_fdivB (@pv _ 3 _ _ (by rfl) (by first | exact Or.inl rfl | exact Or.inr (Or.inl rfl) | exact Or.inr (Or.inr rfl)) (by decide) (by decide)) pe_int)) pa_nil (by rfl)) (by rfl)) (by rfl)) (by rfl)) (by rfl)) (by rfl)) (by rfl))) (by rfl) (by first | exact .inl rfl | exact .inr rfl | assumption)) (ds_asg (de_lst (da_cons (de_var 6) (da_cons (de_var 6) (da_cons (de_int 0) (da_cons (de_sub (de_var 3) (de_int 1)) (da_cons (de_var 7) (da_cons (de_mod (de_add (de_mul (de_int 2) (de_var 7)) (de_int 1)) (de_var 3)) (da_cons (de_add (de_div (de_var 7) (de_int 2)) (de_div (de_var 3) (de_int 2))) da_nil)))))))) (dg_name 8)) (by decide)
    refine cs_one ?_
    exact cs_leaf (@ps_expr _ _ _ _ (@pe_bm _ _ _ _ _ _ _ _ _ _ _ _ PySem.F.plainAttrs_list PySem.F.slot_list_append PySem.F.type_list_append mt_append (@pv _ 4 _ _ (by rfl) (by first | exact Or.inl rfl | exact Or.inr (Or.inl rfl) | exact Or.inr (Or.inr rfl)) (by decide) (by decide)) (@pa_cons _ _ _ _ _ (@pe_ix _ _ _ _ _ _ _ (ixA K rfl) (@pv _ 8 _ _ (by rfl) (by first | exact Or.inl rfl | exact Or.inr (Or.inl rfl) | exact Or.inr (Or.inr rfl)) (by decide) (by decide)) (@pe_ix _ _ _ _ _ _ _ (ixA K rfl) (@pv _ 2 _ _ (by rfl) (by first | exact Or.inl rfl | exact Or.inr (Or.inl rfl) | exact Or.inr (Or.inr rfl)) (by decide) (by decide)) (@pe_op _ _ _ _ _ _ _ _ op_addA (@pe_op _ _ _ _ _ _ _ _ op_mulA pe_int (@pv _ 5 _ _ (by rfl) (by first | exact Or.inl rfl | exact Or.inr (Or.inl rfl) | exact Or.inr (Or.inr rfl)) (by decide) (by decide))) pe_int) (fun _ _ => rfl)) (fun _ _ => rfl)) pa_nil (by rfl)) (by rfl) (by rfl) (by rfl) (by rfl) (by rfl)) (by rfl)) (ds_app (dp_name 4) (da_cons (de_ix (de_var 8) (de_ix (de_var 2) (de_add (de_mul (de_int 2) (de_var 5)) (de_int 2)))) da_nil)) (by decide)
  refine cs_one ?_
  exact cs_leaf (@ps_ret _ _ _ _ (@pv _ 4 _ _ (by rfl) (by first | exact Or.inl rfl | exact Or.inr (Or.inl rfl) | exact Or.inr (Or.inr rfl)) (by decide) (by decide))) (ds_ret (de_var 4)) (by decide)
theorem ok_law_levels {t : Adr} (T : Txt K mg base t) : FnOk P w K mg base (CXW P w) 1 t.law_levels t.law_levels_d ["form", "word"] (spP K (tabG []) F__law_levels) := by
  refine T.law_levels.okD sc_law_levels (by decide) fun cdv A outer s H E hr hx hm => ?_
  refine cs_ts [0, 1, 2, 3, 4] ?_
  unfold f__law_levels
  refine cs_cons ?_ ?_
  · skip
    exact cs_leaf (@ps_setLcn _ 2 [("k", 4)] (gName 4) _ _ _ _ _ _ _ _ _ _ _ _ (by rfl) sc_law_levels.nd rfl rfl (sw_true rfl rfl rfl (by decide +kernel)) (@pi_range1 _ _ _ _ _ _ (by rfl) T.range_z (@pa_cons _ _ _ _ _ (@pe_ix _ _ _ _ _ _ _ (ixA K rfl) (@pv _ 0 _ _ (by rfl) (by first | exact Or.inl rfl | exact Or.inr (Or.inl rfl) | exact Or.inr (Or.inr rfl)) (by decide) (by decide)) pe_int (fun _ _ => rfl)) pa_nil (by rfl)) (by rfl)) (blkOk_by (own := [("k", 4)]) (N := ["form", "word", "bits", "check", "k"]) (sc := defScope s_law_levels) (by decide +kernel)) (fun _ _ _ _ _ => (@pgn _ _ 4 _ sc_law_levels.nd rfl (by first | exact Or.inl rfl | exact Or.inr rfl) (by first | exact .inl rfl | exact .inr rfl | assumption))) (fun _ _ _ _ _ => pts_nil) (fun _ _ _ _ _ => (@pe_op _ _ _ _ _ _ _ _ op_and (@pe_op _ _ _ _ _ _ _ _ op_shr (@pv _ 1 _ _ (by rfl) (by first | exact Or.inl rfl | exact Or.inr (Or.inl rfl) | exact Or.inr (Or.inr rfl)) (by decide) (by decide)) (@pv _ 4 _ _ (by rfl) (by first | exact Or.inl rfl | exact Or.inr (Or.inl rfl) | exact Or.inr (Or.inr rfl)) (by decide) (by decide))) pe_int)) (by intro _; rfl)) (ds_asg (de_lc (di_range1 (da_cons (de_ix (de_var 0) (de_int 0)) da_nil)).c (dg_name 4) (by decide) dt_yes (de_and (de_shr (de_var 1) (de_var 4)) (de_int 1))) (dg_name 2)) (by decide)
  refine cs_cons ?_ ?_
  · skip
    exact cs_leaf (@psn _ _ 3 _ _ _ _ sc_law_levels.nd rfl (by first | exact Or.inl rfl | exact Or.inr rfl) (@pe_lst _ _ _ _ pa_nil) (by rfl) (by first | exact .inl rfl | exact .inr rfl | assumption)) (ds_asg (de_lst da_nil) (dg_name 3)) (by decide)
  refine cs_cons ?_ ?_
  · skip
    refine cs_if (@pt_cmpR _ _ _ _ _ _ _ _ (neA K rfl hr.units) (@pe_ix _ _ _ _ _ _ _ (ixA K rfl) (@pv _ 0 _ _ (by rfl) (by first | exact Or.inl rfl | exact Or.inr (Or.inl rfl) | exact Or.inr (Or.inr rfl)) (by decide) (by decide)) pe_int (fun _ _ => rfl)) pe_str (nomark _)) (dt_test (de_ne (de_ix (de_var 0) (de_int 1)) (de_str "none"))) ?_ ?_
    · skip
      refine cs_one ?_
      exact cs_leaf (@psn _ _ 3 _ _ _ _ sc_law_levels.nd rfl (by first | exact Or.inl rfl | exact Or.inr rfl) (@pe_lst _ _ _ _ (@pa_cons _ _ _ _ _ (@pe_op _ _ _ _ _ _ _ _ op_mod (@pe_op _ _ _ _ _ _ _ _ op_addA (@pe_callB _ _ _ _ _ _ _ _ _ (sumS K rfl rfl) (by rfl) T.sum_z (by decide +kernel) (@pa_cons _ _ _ _ _ (@pv _ 2 _ _ (by rfl) (by first | exact Or.inl rfl | exact Or.inr (Or.inl rfl) | exact Or.inr (Or.inr rfl)) (by decide) (by decide)) pa_nil (by rfl)) (by decide) (by decide) (by rfl) (by rfl)) (@pe_callTy _ _ _ _ _ _ _ _ _ call_int1 (by rfl) T.int_z (by decide +kernel) (@pa_cons _ _ _ _ _ (@pe_cmpR _ _ _ _ _ _ _ _ (eqA K rfl hr.units) (@pe_ix _ _ _ _ _ _ _ (ixA K rfl) (@pv _ 0 _ _ (by rfl) (by first | exact Or.inl rfl | exact Or.inr (Or.inl rfl) | exact Or.inr (Or.inr rfl)) (by decide) (by decide)) pe_int (fun _ _ => rfl)) pe_str (nomark _)) pa_nil (by rfl)) (by decide) (by decide) (by rfl) (by rfl))) pe_int) pa_nil (by rfl))) (by rfl) (by first | exact .inl rfl | exact .inr rfl | assumption)) (ds_asg (de_lst (da_cons (de_mod (de_add (de_sum (da_cons (de_var 2) da_nil)) (de_int1 (da_cons (de_eq (de_ix (de_var 0) (de_int 1)) (de_str "odd")) da_nil))) (de_int 2)) da_nil)) (dg_name 3)) (by decide)
    · skip
      exact cs_nil
  refine cs_one ?_
  exact cs_leaf (@ps_ret _ _ _ _ (@pe_op _ _ _ _ _ _ _ _ op_addA (@pe_op _ _ _ _ _ _ _ _ op_addA (@pe_op _ _ _ _ _ _ _ _ op_addA (@pe_lst _ _ _ _ (@pa_cons _ _ _ _ _ pe_int pa_nil (by rfl))) (@pv _ 2 _ _ (by rfl) (by first | exact Or.inl rfl | exact Or.inr (Or.inl rfl) | exact Or.inr (Or.inr rfl)) (by decide) (by decide))) (@pv _ 3 _ _ (by rfl) (by first | exact Or.inl rfl | exact Or.inr (Or.inl rfl) | exact Or.inr (Or.inr rfl)) (by decide) (by decide))) (@pe_lst _ _ _ _ (@pa_cons _ _ _ _ _ pe_int pa_nil (by rfl))))) (ds_ret (de_add (de_add (de_add (de_lst (da_cons (de_int 0) da_nil)) (de_var 2)) (de_var 3)) (de_lst (da_cons (de_int 1) da_nil)))) (by decide)
theorem ok_is_whole {t : Adr} (T : Txt K mg base t) : FnOk P w K mg base (CXW P w) 1 t.is_whole t.is_whole_d ["thing"] (spP K (tabG []) F_is_whole) := by
  refine T.is_whole.okD sc_is_whole (by decide) fun cdv A outer s H E hr hx hm => ?_
  refine cs_ts [0] ?_
  unfold f_is_whole
  refine cs_one ?_
  exact cs_leaf (@ps_ret _ _ _ _ (@pe_and _ _ _ _ _ _ _ (@pe_callB _ _ _ _ _ _ _ _ _ (isiS K rfl) (by rfl) T.isinstance_z (by decide +kernel) (@pa_cons _ _ _ _ _ (@pv _ 0 _ _ (by rfl) (by first | exact Or.inl rfl | exact Or.inr (Or.inl rfl) | exact Or.inr (Or.inr rfl)) (by decide) (by decide)) (@pa_cons _ _ _ _ _ (@pen _ _ (.ty "int") _ _ (by rfl) T.int_z (by decide +kernel) rfl (by decide) (by decide)) pa_nil (by rfl)) (by rfl)) (by decide) (by decide) (by rfl) (by rfl)) (@pe_one _ _ _ _ _ (@pe_not _ _ _ _ (@pe_callB _ _ _ _ _ _ _ _ _ (isiS K rfl) (by rfl) T.isinstance_z (by decide +kernel) (@pa_cons _ _ _ _ _ (@pv _ 0 _ _ (by rfl) (by first | exact Or.inl rfl | exact Or.inr (Or.inl rfl) | exact Or.inr (Or.inr rfl)) (by decide) (by decide)) (@pa_cons _ _ _ _ _ (@pen _ _ (.ty "bool") _ _ (by rfl) T.bool_z (by decide +kernel) rfl (by decide) (by decide)) pa_nil (by rfl)) (by rfl)) (by decide) (by decide) (by rfl) (by rfl)))))) (ds_ret (de_andV (de_isi (da_cons (de_var 0) (da_cons (de_ty "int") da_nil))) (de_notV (de_isi (da_cons (de_var 0) (da_cons (de_ty "bool") da_nil)))))) (by decide)
theorem ok_is_word {t : Adr} (T : Txt K mg base t) : FnOk P w K mg base (CXW P w) 2 t.is_word t.is_word_d ["form", "thing"] (spP K (tabG []) F_is_word) := by
  have g_is_whole := (ok_is_whole (P := P) (w := w) (base := base) T).mono (show 1 ≤ 1 by decide)
  refine T.is_word.okD sc_is_word (by decide) fun cdv A outer s H E hr hx hm => ?_
  refine cs_ts [0, 1] ?_
  unfold f_is_word
  refine cs_one ?_
  exact cs_leaf (@ps_ret _ _ _ _ (@pe_and _ _ _ _ _ _ _ (@pe_callX _ _ _ _ _ _ _ _ _ _ _ _ _ _ g_is_whole hr (by rfl) T.is_whole_g T.is_whole.kp T.is_whole_b hx (@pa_cons _ _ _ _ _ (@pv _ 1 _ _ (by rfl) (by first | exact Or.inl rfl | exact Or.inr (Or.inl rfl) | exact Or.inr (Or.inr rfl)) (by decide) (by decide)) pa_nil (by rfl)) (by decide) (by rfl) (by rfl)) (@pe_one _ _ _ _ _ (@pe_chain _ _ _ _ _ _ _ _ _ _ _ _ op_le op_lt pe_int (@pv _ 1 _ _ (by rfl) (by first | exact Or.inl rfl | exact Or.inr (Or.inl rfl) | exact Or.inr (Or.inr rfl)) (by decide) (by decide)) (@pe_op _ _ _ _ _ _ _ _ op_shl pe_int (@pe_ix _ _ _ _ _ _ _ (ixA K rfl) (@pv _ 0 _ _ (by rfl) (by first | exact Or.inl rfl | exact Or.inr (Or.inl rfl) | exact Or.inr (Or.inr rfl)) (by decide) (by decide)) pe_int (fun _ _ => rfl))) (by with_unfolding_all rfl))))) (ds_ret (de_andV (de_callX (F := F_is_whole) (da_cons (de_var 1) da_nil)) (de_chain chI chI (de_int 0) (de_var 1) (de_shl (de_int 1) (de_ix (de_var 0) (de_int 0)))))) (by decide)
theorem ok_check_level {t : Adr} (T : Txt K mg base t) : FnOk P w K mg base (CXW P w) 1 t.check_level t.check_level_d ["check", "told"] (spP K (tabG []) F_check_level) := by
  refine T.check_level.okD sc_check_level (by decide) fun cdv A outer s H E hr hx hm => ?_
  refine cs_ts [0, 1, 2] ?_
  unfold f_check_level
  refine cs_cons ?_ ?_
  · skip
    exact cs_leaf (@psn _ _ 2 _ _ _ _ sc_check_level.nd rfl (by first | exact Or.inl rfl | exact Or.inr rfl) (@pe_callB _ _ _ _ _ _ _ _ _ (sumS K rfl rfl) (by rfl) T.sum_z (by decide +kernel) (@pa_cons _ _ _ _ _ (@pv _ 1 _ _ (by rfl) (by first | exact Or.inl rfl | exact Or.inr (Or.inl rfl) | exact Or.inr (Or.inr rfl)) (by decide) (by decide)) pa_nil (by rfl)) (by decide) (by decide) (by rfl) (by rfl)) (by rfl) (by first | exact .inl rfl | exact .inr rfl | assumption)) (ds_asg (de_sum (da_cons (de_var 1) da_nil)) (dg_name 2)) (by decide)
  refine cs_one ?_
  exact cs_leaf (@ps_ret _ _ _ _ (@pe_ifExp _ _ _ _ _ _ _ _ (@pt_cmpR _ _ _ _ _ _ _ _ (eqA K rfl hr.units) (@pv _ 0 _ _ (by rfl) (by first | exact Or.inl rfl | exact Or.inr (Or.inl rfl) | exact Or.inr (Or.inr rfl)) (by decide) (by decide)) pe_str (nomark _)) (@pe_op _ _ _ _ _ _ _ _ op_and (@pv _ 2 _ _ (by rfl) (by first | exact Or.inl rfl | exact Or.inr (Or.inl rfl) | exact Or.inr (Or.inr rfl)) (by decide) (by decide)) pe_int) (@pe_op _ _ _ _ _ _ _ _ op_sub pe_int (@pe_op _ _ _ _ _ _ _ _ op_and (@pv _ 2 _ _ (by rfl) (by first | exact Or.inl rfl | exact Or.inr (Or.inl rfl) | exact Or.inr (Or.inr rfl)) (by decide) (by decide)) pe_int)))) (ds_ret (de_if (dt_test (de_eq (de_var 0) (de_str "even"))) (de_and (de_var 2) (de_int 1)) (de_sub (de_int 1) (de_and (de_var 2) (de_int 1))))) (by decide)
theorem ok_levels_of {t : Adr} (T : Txt K mg base t) : FnOk P w K mg base (CXW P w) 3 t.levels_of t.levels_of_d ["form", "word"] (spP K (tabG []) F_levels_of) := by
  have g_is_word := (ok_is_word (P := P) (w := w) (base := base) T).mono (show 2 ≤ 2 by decide)
  have g_check_level := (ok_check_level (P := P) (w := w) (base := base) T).mono (show 1 ≤ 2 by decide)
  refine T.levels_of.okD sc_levels_of (by decide) fun cdv A outer s H E hr hx hm => ?_
  refine cs_ts [0, 1, 2, 3, 4, 5] ?_
  unfold f_levels_of
  refine cs_cons ?_ ?_
  · skip
    exact cs_leaf (@ps_asg _ _ _ _ _ _ (@pv _ 0 _ _ (by rfl) (by first | exact Or.inl rfl | exact Or.inr (Or.inl rfl) | exact Or.inr (Or.inr rfl)) (by decide) (by decide)) (@pg_tup _ _ _ _ _ _ rfl (@pgs_cons _ _ _ _ _ (@pgn _ _ 2 _ sc_levels_of.nd rfl (by first | exact Or.inl rfl | exact Or.inr rfl) (by first | exact .inl rfl | exact .inr rfl | assumption)) (@pgs_cons _ _ _ _ _ (@pgn _ _ 3 _ sc_levels_of.nd rfl (by first | exact Or.inl rfl | exact Or.inr rfl) (by first | exact .inl rfl | exact .inr rfl | assumption)) pgs_nil (by rfl)) (by rfl)) (by rfl) (by rfl)) (by rfl) (by rfl) (by rfl)) (ds_asg (de_var 0) (dg_tup (n := 2) (dgs_cons (dg_name 2) (dgs_cons (dg_name 3) dgs_nil)))) (by decide)
  refine cs_cons ?_ ?_
  · skip
    refine cs_if (@pt_not _ _ _ _ (@pt_tr _ K _ _ rfl (@pe_callX _ _ _ _ _ _ _ _ _ _ _ _ _ _ g_is_word hr (by rfl) T.is_word_g T.is_word.kp T.is_word_b hx (@pa_cons _ _ _ _ _ (@pv _ 0 _ _ (by rfl) (by first | exact Or.inl rfl | exact Or.inr (Or.inl rfl) | exact Or.inr (Or.inr rfl)) (by decide) (by decide)) (@pa_cons _ _ _ _ _ (@pv _ 1 _ _ (by rfl) (by first | exact Or.inl rfl | exact Or.inr (Or.inl rfl) | exact Or.inr (Or.inr rfl)) (by decide) (by decide)) pa_nil (by rfl)) (by rfl)) (by decide) (by rfl) (by rfl)) (by intro _; rfl))) (dt_not (dt_tr (de_callX (F := F_is_word) (da_cons (de_var 0) (da_cons (de_var 1) da_nil))))) ?_ ?_
    · skip
      refine cs_one ?_
      exact cs_leaf (@ps_raise _ _ _ _ _ _ _ _ _ _ _ hm rfl (by rfl) T.NoWord_g (xB_ex T.xcls (by decide)) (by decide)) (ds_raise 0) (by decide)
    · skip
      exact cs_nil
  refine cs_cons ?_ ?_
  · skip
    exact cs_leaf (@ps_setLcn _ 4 [("k", 5)] (gName 5) _ _ _ _ _ _ _ _ _ _ _ _ (by rfl) sc_levels_of.nd rfl rfl (sw_true rfl rfl rfl (by decide +kernel)) (@pi_range1 _ _ _ _ _ _ (by rfl) T.range_z (@pa_cons _ _ _ _ _ (@pv _ 2 _ _ (by rfl) (by first | exact Or.inl rfl | exact Or.inr (Or.inl rfl) | exact Or.inr (Or.inr rfl)) (by decide) (by decide)) pa_nil (by rfl)) (by rfl)) (blkOk_by (own := [("k", 5)]) (N := ["form", "word", "bits", "check", "told", "k"]) (sc := defScope s_levels_of) (by decide +kernel)) (fun _ _ _ _ _ => (@pgn _ _ 5 _ sc_levels_of.nd rfl (by first | exact Or.inl rfl | exact Or.inr rfl) (by first | exact .inl rfl | exact .inr rfl | assumption))) (fun _ _ _ _ _ => pts_nil) (fun _ _ _ _ _ => (@pe_op _ _ _ _ _ _ _ _ op_and (@pe_op _ _ _ _ _ _ _ _ op_shr (@pv _ 1 _ _ (by rfl) (by first | exact Or.inl rfl | exact Or.inr (Or.inl rfl) | exact Or.inr (Or.inr rfl)) (by decide) (by decide)) (@pv _ 5 _ _ (by rfl) (by first | exact Or.inl rfl | exact Or.inr (Or.inl rfl) | exact Or.inr (Or.inr rfl)) (by decide) (by decide))) pe_int)) (by intro _; rfl)) (ds_asg (de_lc (di_range1 (da_cons (de_var 2) da_nil)).c (dg_name 5) (by decide) dt_yes (de_and (de_shr (de_var 1) (de_var 5)) (de_int 1))) (dg_name 4)) (by decide)
  refine cs_cons ?_ ?_
  · skip
    refine cs_if (@pt_cmpR _ _ _ _ _ _ _ _ (eqA K rfl hr.units) (@pv _ 3 _ _ (by rfl) (by first | exact Or.inl rfl | exact Or.inr (Or.inl rfl) | exact Or.inr (Or.inr rfl)) (by decide) (by decide)) pe_str (nomark _)) (dt_test (de_eq (de_var 3) (de_str "none"))) ?_ ?_
    · skip
      refine cs_one ?_
      exact cs_leaf (@ps_ret _ _ _ _ (@pe_lst _ _ _ _ (@pa_cons _ _ _ _ _ pe_int (@pa_star _ _ _ _ _ _ (@pv _ 4 _ _ (by rfl) (by first | exact Or.inl rfl | exact Or.inr (Or.inl rfl) | exact Or.inr (Or.inr rfl)) (by decide) (by decide)) (@pa_cons _ _ _ _ _ pe_int pa_nil (by rfl)) (by rfl)) (by rfl)))) (ds_ret (de_lst (da_cons (de_int 0) (da_star (de_var 4) (da_cons (de_int 1) da_nil))))) (by decide)
    · skip
      exact cs_nil
  refine cs_one ?_
  exact cs_leaf (@ps_ret _ _ _ _ (@pe_lst _ _ _ _ (@pa_cons _ _ _ _ _ pe_int (@pa_star _ _ _ _ _ _ (@pv _ 4 _ _ (by rfl) (by first | exact Or.inl rfl | exact Or.inr (Or.inl rfl) | exact Or.inr (Or.inr rfl)) (by decide) (by decide)) (@pa_cons _ _ _ _ _ (@pe_callX _ _ _ _ _ _ _ _ _ _ _ _ _ _ g_check_level hr (by rfl) T.check_level_g T.check_level.kp T.check_level_b hx (@pa_cons _ _ _ _ _ (@pv _ 3 _ _ (by rfl) (by first | exact Or.inl rfl | exact Or.inr (Or.inl rfl) | exact Or.inr (Or.inr rfl)) (by decide) (by decide)) (@pa_cons _ _ _ _ _ (@pv _ 4 _ _ (by rfl) (by first | exact Or.inl rfl | exact Or.inr (Or.inl rfl) | exact Or.inr (Or.inr rfl)) (by decide) (by decide)) pa_nil (by rfl)) (by rfl)) (by decide) (by rfl) (by rfl)) (@pa_cons _ _ _ _ _ pe_int pa_nil (by rfl)) (by rfl)) (by rfl)) (by rfl)))) (ds_ret (de_lst (da_cons (de_int 0) (da_star (de_var 4) (da_cons (de_callX (F := F_check_level) (da_cons (de_var 3) (da_cons (de_var 4) da_nil))) (da_cons (de_int 1) da_nil)))))) (by decide)
theorem ok_round_levels {t : Adr} (T : Txt K mg base t) : FnOk P w K mg base (CXW P w) 4 t.round_levels t.round_levels_d ["form", "words"] (spP K (tabG []) F_round_levels) := by
  have g_levels_of := (ok_levels_of (P := P) (w := w) (base := base) T).mono (show 3 ≤ 3 by decide)
  refine T.round_levels.okD sc_round_levels (by decide) fun cdv A outer s H E hr hx hm => ?_
  refine cs_ts [0, 1, 2, 3] ?_
  unfold f_round_levels
  refine cs_one ?_
  exact cs_leaf (@ps_ret _ _ _ _ (@pe_lc2n _ [("word", 2), ("level", 3)] [3] (gName 2) (gName 3) _ _ _ _ _ _ _ _ _ _ _ _ _ _ (by rfl) sc_round_levels.nd (@pi_any _ _ _ _ K rfl (@pv _ 1 _ _ (by rfl) (by first | exact Or.inl rfl | exact Or.inr (Or.inl rfl) | exact Or.inr (Or.inr rfl)) (by decide) (by decide))) (blkOk_by (own := [("word", 2), ("level", 3)]) (N := ["form", "words", "word", "level"]) (sc := defScope s_round_levels) (by decide +kernel)) (by decide) (fun _ _ _ _ _ => (@pgn _ _ 2 _ sc_round_levels.nd rfl (by first | exact Or.inl rfl | exact Or.inr rfl) (by first | exact .inl rfl | exact .inr rfl | assumption))) (fun _ _ _ _ _ => pts_nil) (fun _ _ _ _ _ => (@pi_any _ _ _ _ K rfl (@pe_callX _ _ _ _ _ _ _ _ _ _ _ _ _ _ g_levels_of hr (by rfl) T.levels_of_g T.levels_of.kp T.levels_of_b noFly (@pa_cons _ _ _ _ _ (@pv _ 0 _ _ (by rfl) (by first | exact Or.inl rfl | exact Or.inr (Or.inl rfl) | exact Or.inr (Or.inr rfl)) (by decide) (by decide)) (@pa_cons _ _ _ _ _ (@pv _ 2 _ _ (by rfl) (by first | exact Or.inl rfl | exact Or.inr (Or.inl rfl) | exact Or.inr (Or.inr rfl)) (by decide) (by decide)) pa_nil (by rfl)) (by rfl)) (by decide) (by rfl) (by rfl)))) (fun _ _ _ _ _ => (@pgn _ _ 3 _ sc_round_levels.nd rfl (by first | exact Or.inl rfl | exact Or.inr rfl) (by first | exact .inl rfl | exact .inr rfl | assumption))) (fun _ _ _ _ _ => pts_nil) (fun _ _ _ _ _ => (@pv _ 3 _ _ (by rfl) (by first | exact Or.inl rfl | exact Or.inr (Or.inl rfl) | exact Or.inr (Or.inr rfl)) (by decide) (by decide))) (by intro _; rfl) (by intro _ _; rfl))) (ds_ret (de_lc2 (vs := [2, 3]) (vs1 := [3]) (di_anyC (de_var 1)) (dg_name 2) (by decide) dt_yes (di_anyC (de_callX (F := F_levels_of) (da_cons (de_var 0) (da_cons (de_var 2) da_nil)))) (dg_name 3) (by decide) (by decide) dt_yes (de_var 3))) (by decide)
theorem ok_start_from {t : Adr} (T : Txt K mg base t) : FnOk P w K mg base (CXW P w) 1 t.start_from t.start_from_d ["levels", "place", "ahead"] (spP K (tabG []) F_start_from) := by
  refine T.start_from.okD sc_start_from (by decide) fun cdv A outer s H E hr hx hm => ?_
  refine cs_ts [0, 1, 2] ?_
  unfold f_start_from
  refine cs_cons ?_ ?_
  · skip
    refine cs_while PassesOwn.leaving (@PW.pt _ _ _ (@pw_or _ _ _ _ _ _ _ (@pt_cmpR _ _ _ _ _ _ _ _ (eqA K rfl hr.units) (@pe_ix _ _ _ _ _ _ _ (ixA K rfl) (@pv _ 0 _ _ (by rfl) (by first | exact Or.inl rfl | exact Or.inr (Or.inl rfl) | exact Or.inr (Or.inr rfl)) (by decide) (by decide)) (@pe_op _ _ _ _ _ _ _ _ op_mod (@pv _ 1 _ _ (by rfl) (by first | exact Or.inl rfl | exact Or.inr (Or.inl rfl) | exact Or.inr (Or.inr rfl)) (by decide) (by decide)) (@pe_callB _ _ _ _ _ _ _ _ _ (lenA K rfl) (by rfl) T.len_z PySem.boot_len (@pa_cons _ _ _ _ _ (@pv _ 0 _ _ (by rfl) (by first | exact Or.inl rfl | exact Or.inr (Or.inl rfl) | exact Or.inr (Or.inr rfl)) (by decide) (by decide)) pa_nil (by rfl)) (by decide) (by decide) (by rfl) (by rfl))) (fun _ _ => rfl)) pe_int (nomark _)) (@pw_or1 _ _ _ _ (@pt_cmpR _ _ _ _ _ _ _ _ (eqA K rfl hr.units) (@pv _ 2 _ _ (by rfl) (by first | exact Or.inl rfl | exact Or.inr (Or.inl rfl) | exact Or.inr (Or.inr rfl)) (by decide) (by decide)) pe_int (nomark _))))) (dt_or (dt_test (de_eq (de_ix (de_var 0) (de_mod (de_var 1) (de_len (da_cons (de_var 0) da_nil)))) (de_int 1))) (dt_test (de_eq (de_var 2) (de_int 0)))) ?_
    refine cs_cons ?_ ?_
    · skip
      exact cs_leaf (@psn _ _ 2 _ _ _ _ sc_start_from.nd rfl (by first | exact Or.inl rfl | exact Or.inr rfl) (@pe_ix _ _ _ _ _ _ _ (ixA K rfl) (@pv _ 0 _ _ (by rfl) (by first | exact Or.inl rfl | exact Or.inr (Or.inl rfl) | exact Or.inr (Or.inr rfl)) (by decide) (by decide)) (@pe_op _ _ _ _ _ _ _ _ op_mod (@pv _ 1 _ _ (by rfl) (by first | exact Or.inl rfl | exact Or.inr (Or.inl rfl) | exact Or.inr (Or.inr rfl)) (by decide) (by decide)) (@pe_callB _ _ _ _ _ _ _ _ _ (lenA K rfl) (by rfl) T.len_z PySem.boot_len (@pa_cons _ _ _ _ _ (@pv _ 0 _ _ (by rfl) (by first | exact Or.inl rfl | exact Or.inr (Or.inl rfl) | exact Or.inr (Or.inr rfl)) (by decide) (by decide)) pa_nil (by rfl)) (by decide) (by decide) (by rfl) (by rfl))) (fun _ _ => rfl)) (by rfl) (by first | exact .inl rfl | exact .inr rfl | assumption)) (ds_asg (de_ix (de_var 0) (de_mod (de_var 1) (de_len (da_cons (de_var 0) da_nil)))) (dg_name 2)) (by decide)
    refine cs_one ?_
    exact cs_leaf (@ps_augn _ 1 _ _ _ _ _ _ _ sc_start_from.nd rfl (by first | exact Or.inl rfl | exact Or.inr rfl) pe_int ip_add (by first | exact .inl rfl | exact .inr rfl | assumption)) (ds_aug ip_I (de_int 1)) (by decide)
  refine cs_one ?_
  exact cs_leaf (@ps_ret _ _ _ _ (@pv _ 1 _ _ (by rfl) (by first | exact Or.inl rfl | exact Or.inr (Or.inl rfl) | exact Or.inr (Or.inr rfl)) (by decide) (by decide))) (ds_ret (de_var 1)) (by decide)
theorem ok_least_first {t : Adr} (T : Txt K mg base t) : FnOk P w K mg base (CXW P w) 1 t.least_first t.least_first_d ["ring"] (spP K (tabG []) F_least_first) := by
  refine T.least_first.okD sc_least_first (by decide) fun cdv A outer s H E hr hx hm => ?_
  refine cs_ts [0, 1] ?_
  unfold f_least_first
  refine cs_cons ?_ ?_
  · skip
    exact cs_leaf (@psn _ _ 1 _ _ _ _ sc_least_first.nd rfl (by first | exact Or.inl rfl | exact Or.inr rfl) (@pe_bm _ _ _ _ _ _ _ _ _ _ _ _ PySem.F.plainAttrs_list PySem.F.slot_list_index PySem.F.type_list_index (mtIx K rfl) (@pv _ 0 _ _ (by rfl) (by first | exact Or.inl rfl | exact Or.inr (Or.inl rfl) | exact Or.inr (Or.inr rfl)) (by decide) (by decide)) (@pa_cons _ _ _ _ _ (@pe_callB _ _ _ _ _ _ _ _ _ (minL K rfl rfl) (by rfl) T.min_z (by decide +kernel) (@pa_cons _ _ _ _ _ (@pv _ 0 _ _ (by rfl) (by first | exact Or.inl rfl | exact Or.inr (Or.inl rfl) | exact Or.inr (Or.inr rfl)) (by decide) (by decide)) pa_nil (by rfl)) (by decide) (by decide) (by rfl) (by rfl)) pa_nil (by rfl)) (by rfl) (by rfl) (by rfl) (by rfl) (by rfl)) (by rfl) (by first | exact .inl rfl | exact .inr rfl | assumption)) (ds_asg (de_indexL (de_var 0) (da_cons (de_minL (da_cons (de_var 0) da_nil)) da_nil)) (dg_name 1)) (by decide)
  refine cs_one ?_
  exact cs_leaf (@ps_ret _ _ _ _ (@pe_op _ _ _ _ _ _ _ _ op_addA (@pe_slice _ _ _ _ _ _ _ _ _ _ (slA K rfl) (@pv _ 0 _ _ (by rfl) (by first | exact Or.inl rfl | exact Or.inr (Or.inl rfl) | exact Or.inr (Or.inr rfl)) (by decide) (by decide)) (@po_some _ _ _ (@pv _ 1 _ _ (by rfl) (by first | exact Or.inl rfl | exact Or.inr (Or.inl rfl) | exact Or.inr (Or.inr rfl)) (by decide) (by decide))) po_none) (@pe_slice _ _ _ _ _ _ _ _ _ _ (slA K rfl) (@pv _ 0 _ _ (by rfl) (by first | exact Or.inl rfl | exact Or.inr (Or.inl rfl) | exact Or.inr (Or.inr rfl)) (by decide) (by decide)) po_none (@po_some _ _ _ (@pv _ 1 _ _ (by rfl) (by first | exact Or.inl rfl | exact Or.inr (Or.inl rfl) | exact Or.inr (Or.inr rfl)) (by decide) (by decide)))))) (ds_ret (de_add (de_sl (de_var 0) (do_some (de_var 1)) do_none) (de_sl (de_var 0) do_none (do_some (de_var 1))))) (by decide)
theorem ok_join_at {t : Adr} (T : Txt K mg base t) : FnOk P w K mg base (CXW P w) 2 t.join_at t.join_at_d ["levels", "size", "place"] (spP K (tabG []) F_join_at) := by
  have g_start_from := (ok_start_from (P := P) (w := w) (base := base) T).mono (show 1 ≤ 1 by decide)
  have g_least_first := (ok_least_first (P := P) (w := w) (base := base) T).mono (show 1 ≤ 1 by decide)
  refine T.join_at.okD sc_join_at (by decide) fun cdv A outer s H E hr hx hm => ?_
  refine cs_ts [0, 1, 2, 3, 4, 5, 6] ?_
  unfold f_join_at
  refine cs_cons ?_ ?_
  · skip
    exact cs_leaf (@psn _ _ 3 _ _ _ _ sc_join_at.nd rfl (by first | exact Or.inl rfl | exact Or.inr rfl) (@pe_lst _ _ _ _ pa_nil) (by rfl) (by first | exact .inl rfl | exact .inr rfl | assumption)) (ds_asg (de_lst da_nil) (dg_name 3)) (by decide)
  refine cs_cons ?_ ?_
  · skip
    exact cs_leaf (@psn _ _ 4 _ _ _ _ sc_join_at.nd rfl (by first | exact Or.inl rfl | exact Or.inr rfl) (@pe_callX _ _ _ _ _ _ _ _ _ _ _ _ _ _ g_start_from hr (by rfl) T.start_from_g T.start_from.kp T.start_from_b hx (@pa_cons _ _ _ _ _ (@pv _ 0 _ _ (by rfl) (by first | exact Or.inl rfl | exact Or.inr (Or.inl rfl) | exact Or.inr (Or.inr rfl)) (by decide) (by decide)) (@pa_cons _ _ _ _ _ (@pv _ 2 _ _ (by rfl) (by first | exact Or.inl rfl | exact Or.inr (Or.inl rfl) | exact Or.inr (Or.inr rfl)) (by decide) (by decide)) (@pa_cons _ _ _ _ _ pe_int pa_nil (by rfl)) (by rfl)) (by rfl)) (by decide) (by rfl) (by rfl)) (by rfl) (by first | exact .inl rfl | exact .inr rfl | assumption)) (ds_asg (de_callX (F := F_start_from) (da_cons (de_var 0) (da_cons (de_var 2) (da_cons (de_int 1) da_nil)))) (dg_name 4)) (by decide)
  refine cs_cons ?_ ?_
  · skip
    refine cs_while PassesOwn.leaving (@pt_cmpR _ _ _ _ _ _ _ _ (neA K rfl hr.units) (@pe_op _ _ _ _ _ _ _ _ op_mod (@pv _ 4 _ _ (by rfl) (by first | exact Or.inl rfl | exact Or.inr (Or.inl rfl) | exact Or.inr (Or.inr rfl)) (by decide) (by decide)) (@pv _ 1 _ _ (by rfl) (by first | exact Or.inl rfl | exact Or.inr (Or.inl rfl) | exact Or.inr (Or.inr rfl)) (by decide) (by decide))) pe_int (nomark _)) (dt_test (de_ne (de_mod (de_var 4) (de_var 1)) (de_int 0))) ?_
    refine cs_cons ?_ ?_
    · skip
      exact cs_leaf (@psn _ _ 5 _ _ _ _ sc_join_at.nd rfl (by first | exact Or.inl rfl | exact Or.inr rfl) (@pe_op _ _ _ _ _ _ _ _ op_mod (@pv _ 4 _ _ (by rfl) (by first | exact Or.inl rfl | exact Or.inr (Or.inl rfl) | exact Or.inr (Or.inr rfl)) (by decide) (by decide)) (@pe_callB _ _ _ _ _ _ _ _ _ (lenA K rfl) (by rfl) T.len_z PySem.boot_len (@pa_cons _ _ _ _ _ (@pv _ 0 _ _ (by rfl) (by first | exact Or.inl rfl | exact Or.inr (Or.inl rfl) | exact Or.inr (Or.inr rfl)) (by decide) (by decide)) pa_nil (by rfl)) (by decide) (by decide) (by rfl) (by rfl))) (by rfl) (by first | exact .inl rfl | exact .inr rfl | assumption)) (ds_asg (de_mod (de_var 4) (de_len (da_cons (de_var 0) da_nil))) (dg_name 5)) (by decide)
    refine cs_cons ?_ ?_
    · skip
      refine cs_if (@pt_cmpR _ _ _ _ _ _ _ _ (inS K rfl) (@pv _ 5 _ _ (by rfl) (by first | exact Or.inl rfl | exact Or.inr (Or.inl rfl) | exact Or.inr (Or.inr rfl)) (by decide) (by decide)) (@pv _ 3 _ _ (by rfl) (by first | exact Or.inl rfl | exact Or.inr (Or.inl rfl) | exact Or.inr (Or.inr rfl)) (by decide) (by decide)) (by with_unfolding_all rfl)) (dt_test (de_in (neg := false) (de_var 5) (de_var 3))) ?_ ?_
      · skip
        refine cs_one ?_
        exact cs_leaf (@ps_ret _ _ _ _ (@pe_tup _ _ _ _ _ (@pa_cons _ _ _ _ _ pe_str (@pa_cons _ _ _ _ _ (@pe_callX _ _ _ _ _ _ _ _ _ _ _ _ _ _ g_least_first hr (by rfl) T.least_first_g T.least_first.kp T.least_first_b hx (@pa_cons _ _ _ _ _ (@pe_slice _ _ _ _ _ _ _ _ _ _ (slA K rfl) (@pv _ 3 _ _ (by rfl) (by first | exact Or.inl rfl | exact Or.inr (Or.inl rfl) | exact Or.inr (Or.inr rfl)) (by decide) (by decide)) (@po_some _ _ _ (@pe_bm _ _ _ _ _ _ _ _ _ _ _ _ PySem.F.plainAttrs_list PySem.F.slot_list_index PySem.F.type_list_index (mtIx K rfl) (@pv _ 3 _ _ (by rfl) (by first | exact Or.inl rfl | exact Or.inr (Or.inl rfl) | exact Or.inr (Or.inr rfl)) (by decide) (by decide)) (@pa_cons _ _ _ _ _ (@pv _ 5 _ _ (by rfl) (by first | exact Or.inl rfl | exact Or.inr (Or.inl rfl) | exact Or.inr (Or.inr rfl)) (by decide) (by decide)) pa_nil (by rfl)) (by rfl) (by rfl) (by rfl) (by rfl) (by rfl))) po_none) pa_nil (by rfl)) (by decide) (by rfl) (by rfl)) pa_nil (by rfl)) (by rfl)))) (ds_ret (de_tup (da_cons (de_str "never") (da_cons (de_callX (F := F_least_first) (da_cons (de_sl (de_var 3) (do_some (de_indexL (de_var 3) (da_cons (de_var 5) da_nil))) do_none) da_nil)) da_nil)))) (by decide)
      · skip
        exact cs_nil
    refine cs_cons ?_ ?_
    · skip
      exact cs_leaf (@ps_expr _ _ _ _ (@pe_bm _ _ _ _ _ _ _ _ _ _ _ _ PySem.F.plainAttrs_list PySem.F.slot_list_append PySem.F.type_list_append mt_append (@pv _ 3 _ _ (by rfl) (by first | exact Or.inl rfl | exact Or.inr (Or.inl rfl) | exact Or.inr (Or.inr rfl)) (by decide) (by decide)) (@pa_cons _ _ _ _ _ (@pv _ 5 _ _ (by rfl) (by first | exact Or.inl rfl | exact Or.inr (Or.inl rfl) | exact Or.inr (Or.inr rfl)) (by decide) (by decide)) pa_nil (by rfl)) (by rfl) (by rfl) (by rfl) (by rfl) (by rfl)) (by rfl)) (ds_app (dp_name 3) (da_cons (de_var 5) da_nil)) (by decide)
    refine cs_cons ?_ ?_
    · skip
      exact cs_leaf (@psn _ _ 6 _ _ _ _ sc_join_at.nd rfl (by first | exact Or.inl rfl | exact Or.inr rfl) (@pe_ix _ _ _ _ _ _ _ (ixA K rfl) (@pv _ 0 _ _ (by rfl) (by first | exact Or.inl rfl | exact Or.inr (Or.inl rfl) | exact Or.inr (Or.inr rfl)) (by decide) (by decide)) (@pe_op _ _ _ _ _ _ _ _ op_mod (@pe_op _ _ _ _ _ _ _ _ op_sub (@pe_op _ _ _ _ _ _ _ _ op_addA (@pv _ 4 _ _ (by rfl) (by first | exact Or.inl rfl | exact Or.inr (Or.inl rfl) | exact Or.inr (Or.inr rfl)) (by decide) (by decide)) (@pv _ 1 _ _ (by rfl) (by first | exact Or.inl rfl | exact Or.inr (Or.inl rfl) | exact Or.inr (Or.inr rfl)) (by decide) (by decide))) pe_int) (@pe_callB _ _ _ _ _ _ _ _ _ (lenA K rfl) (by rfl) T.len_z PySem.boot_len (@pa_cons _ _ _ _ _ (@pv _ 0 _ _ (by rfl) (by first | exact Or.inl rfl | exact Or.inr (Or.inl rfl) | exact Or.inr (Or.inr rfl)) (by decide) (by decide)) pa_nil (by rfl)) (by decide) (by decide) (by rfl) (by rfl))) (fun _ _ => rfl)) (by rfl) (by first | exact .inl rfl | exact .inr rfl | assumption)) (ds_asg (de_ix (de_var 0) (de_mod (de_sub (de_add (de_var 4) (de_var 1)) (de_int 1)) (de_len (da_cons (de_var 0) da_nil)))) (dg_name 6)) (by decide)
    refine cs_one ?_
    exact cs_leaf (@psn _ _ 4 _ _ _ _ sc_join_at.nd rfl (by first | exact Or.inl rfl | exact Or.inr rfl) (@pe_callX _ _ _ _ _ _ _ _ _ _ _ _ _ _ g_start_from hr (by rfl) T.start_from_g T.start_from.kp T.start_from_b hx (@pa_cons _ _ _ _ _ (@pv _ 0 _ _ (by rfl) (by first | exact Or.inl rfl | exact Or.inr (Or.inl rfl) | exact Or.inr (Or.inr rfl)) (by decide) (by decide)) (@pa_cons _ _ _ _ _ (@pe_op _ _ _ _ _ _ _ _ op_addA (@pv _ 4 _ _ (by rfl) (by first | exact Or.inl rfl | exact Or.inr (Or.inl rfl) | exact Or.inr (Or.inr rfl)) (by decide) (by decide)) (@pv _ 1 _ _ (by rfl) (by first | exact Or.inl rfl | exact Or.inr (Or.inl rfl) | exact Or.inr (Or.inr rfl)) (by decide) (by decide))) (@pa_cons _ _ _ _ _ (@pv _ 6 _ _ (by rfl) (by first | exact Or.inl rfl | exact Or.inr (Or.inl rfl) | exact Or.inr (Or.inr rfl)) (by decide) (by decide)) pa_nil (by rfl)) (by rfl)) (by rfl)) (by decide) (by rfl) (by rfl)) (by rfl) (by first | exact .inl rfl | exact .inr rfl | assumption)) (ds_asg (de_callX (F := F_start_from) (da_cons (de_var 0) (da_cons (de_add (de_var 4) (de_var 1)) (da_cons (de_var 6) da_nil)))) (dg_name 4)) (by decide)
  refine cs_one ?_
  exact cs_leaf (@ps_ret _ _ _ _ (@pe_tup _ _ _ _ _ (@pa_cons _ _ _ _ _ pe_str (@pa_cons _ _ _ _ _ (@pe_op _ _ _ _ _ _ _ _ op_sub (@pv _ 4 _ _ (by rfl) (by first | exact Or.inl rfl | exact Or.inr (Or.inl rfl) | exact Or.inr (Or.inr rfl)) (by decide) (by decide)) (@pv _ 2 _ _ (by rfl) (by first | exact Or.inl rfl | exact Or.inr (Or.inl rfl) | exact Or.inr (Or.inr rfl)) (by decide) (by decide))) pa_nil (by rfl)) (by rfl)))) (ds_ret (de_tup (da_cons (de_str "in") (da_cons (de_sub (de_var 4) (de_var 2)) da_nil)))) (by decide)
theorem ok_size_of {t : Adr} (T : Txt K mg base t) : FnOk P w K mg base (CXW P w) 1 t.size_of t.size_of_d ["form"] (spP K (tabG []) F_size_of) := by
  refine T.size_of.okD sc_size_of (by decide) fun cdv A outer s H E hr hx hm => ?_
  refine cs_ts [0, 1, 2] ?_
  unfold f_size_of
  refine cs_cons ?_ ?_
  · skip
    exact cs_leaf (@ps_asg _ _ _ _ _ _ (@pv _ 0 _ _ (by rfl) (by first | exact Or.inl rfl | exact Or.inr (Or.inl rfl) | exact Or.inr (Or.inr rfl)) (by decide) (by decide)) (@pg_tup _ _ _ _ _ _ rfl (@pgs_cons _ _ _ _ _ (@pgn _ _ 1 _ sc_size_of.nd rfl (by first | exact Or.inl rfl | exact Or.inr rfl) (by first | exact .inl rfl | exact .inr rfl | assumption)) (@pgs_cons _ _ _ _ _ (@pgn _ _ 2 _ sc_size_of.nd rfl (by first | exact Or.inl rfl | exact Or.inr rfl) (by first | exact .inl rfl | exact .inr rfl | assumption)) pgs_nil (by rfl)) (by rfl)) (by rfl) (by rfl)) (by rfl) (by rfl) (by rfl)) (ds_asg (de_var 0) (dg_tup (n := 2) (dgs_cons (dg_name 1) (dgs_cons (dg_name 2) dgs_nil)))) (by decide)
  refine cs_one ?_
  exact cs_leaf (@ps_ret _ _ _ _ (@pe_ifExp _ _ _ _ _ _ _ _ (@pt_cmpR _ _ _ _ _ _ _ _ (eqA K rfl hr.units) (@pv _ 2 _ _ (by rfl) (by first | exact Or.inl rfl | exact Or.inr (Or.inl rfl) | exact Or.inr (Or.inr rfl)) (by decide) (by decide)) pe_str (nomark _)) (@pe_op _ _ _ _ _ _ _ _ op_addA (@pv _ 1 _ _ (by rfl) (by first | exact Or.inl rfl | exact Or.inr (Or.inl rfl) | exact Or.inr (Or.inr rfl)) (by decide) (by decide)) pe_int) (@pe_op _ _ _ _ _ _ _ _ op_addA (@pv _ 1 _ _ (by rfl) (by first | exact Or.inl rfl | exact Or.inr (Or.inl rfl) | exact Or.inr (Or.inr rfl)) (by decide) (by decide)) pe_int))) (ds_ret (de_if (dt_test (de_eq (de_var 2) (de_str "none"))) (de_add (de_var 1) (de_int 2)) (de_add (de_var 1) (de_int 3)))) (by decide)
theorem ok_joins {t : Adr} (T : Txt K mg base t) : FnOk P w K mg base (CXW P w) 5 t.joins t.joins_d ["form", "words"] (spP K (tabG []) F_joins) := by
  have g_round_levels := (ok_round_levels (P := P) (w := w) (base := base) T).mono (show 4 ≤ 4 by decide)
  have g_join_at := (ok_join_at (P := P) (w := w) (base := base) T).mono (show 2 ≤ 4 by decide)
  have g_size_of := (ok_size_of (P := P) (w := w) (base := base) T).mono (show 1 ≤ 4 by decide)
  refine T.joins.okD sc_joins (by decide) fun cdv A outer s H E hr hx hm => ?_
  refine cs_ts [0, 1, 2, 3] ?_
  unfold f_joins
  refine cs_cons ?_ ?_
  · skip
    exact cs_leaf (@psn _ _ 2 _ _ _ _ sc_joins.nd rfl (by first | exact Or.inl rfl | exact Or.inr rfl) (@pe_callX _ _ _ _ _ _ _ _ _ _ _ _ _ _ g_round_levels hr (by rfl) T.round_levels_g T.round_levels.kp T.round_levels_b hx (@pa_cons _ _ _ _ _ (@pv _ 0 _ _ (by rfl) (by first | exact Or.inl rfl | exact Or.inr (Or.inl rfl) | exact Or.inr (Or.inr rfl)) (by decide) (by decide)) (@pa_cons _ _ _ _ _ (@pv _ 1 _ _ (by rfl) (by first | exact Or.inl rfl | exact Or.inr (Or.inl rfl) | exact Or.inr (Or.inr rfl)) (by decide) (by decide)) pa_nil (by rfl)) (by rfl)) (by decide) (by rfl) (by rfl)) (by rfl) (by first | exact .inl rfl | exact .inr rfl | assumption)) (ds_asg (de_callX (F := F_round_levels) (da_cons (de_var 0) (da_cons (de_var 1) da_nil))) (dg_name 2)) (by decide)
  refine cs_one ?_
  exact cs_leaf (@ps_ret _ _ _ _ (@pe_lcn _ [("place", 3)] (gName 3) _ _ _ _ _ _ _ _ _ (by rfl) sc_joins.nd (@pi_range1 _ _ _ _ _ _ (by rfl) T.range_z (@pa_cons _ _ _ _ _ (@pe_callB _ _ _ _ _ _ _ _ _ (lenA K rfl) (by rfl) T.len_z PySem.boot_len (@pa_cons _ _ _ _ _ (@pv _ 2 _ _ (by rfl) (by first | exact Or.inl rfl | exact Or.inr (Or.inl rfl) | exact Or.inr (Or.inr rfl)) (by decide) (by decide)) pa_nil (by rfl)) (by decide) (by decide) (by rfl) (by rfl)) pa_nil (by rfl)) (by rfl)) (blkOk_by (own := [("place", 3)]) (N := ["form", "words", "levels", "place"]) (sc := defScope s_joins) (by decide +kernel)) (fun _ _ _ _ _ => (@pgn _ _ 3 _ sc_joins.nd rfl (by first | exact Or.inl rfl | exact Or.inr rfl) (by first | exact .inl rfl | exact .inr rfl | assumption))) (fun _ _ _ _ _ => pts_nil) (fun _ _ _ _ _ => (@pe_callX _ _ _ _ _ _ _ _ _ _ _ _ _ _ g_join_at hr (by rfl) T.join_at_g T.join_at.kp T.join_at_b noFly (@pa_cons _ _ _ _ _ (@pv _ 2 _ _ (by rfl) (by first | exact Or.inl rfl | exact Or.inr (Or.inl rfl) | exact Or.inr (Or.inr rfl)) (by decide) (by decide)) (@pa_cons _ _ _ _ _ (@pe_callX _ _ _ _ _ _ _ _ _ _ _ _ _ _ g_size_of hr (by rfl) T.size_of_g T.size_of.kp T.size_of_b noFly (@pa_cons _ _ _ _ _ (@pv _ 0 _ _ (by rfl) (by first | exact Or.inl rfl | exact Or.inr (Or.inl rfl) | exact Or.inr (Or.inr rfl)) (by decide) (by decide)) pa_nil (by rfl)) (by decide) (by rfl) (by rfl)) (@pa_cons _ _ _ _ _ (@pv _ 3 _ _ (by rfl) (by first | exact Or.inl rfl | exact Or.inr (Or.inl rfl) | exact Or.inr (Or.inr rfl)) (by decide) (by decide)) pa_nil (by rfl)) (by rfl)) (by rfl)) (by decide) (by rfl) (by rfl))) (by intro _; rfl))) (ds_ret (de_lc (di_range1 (da_cons (de_len (da_cons (de_var 2) da_nil)) da_nil)).c (dg_name 3) (by decide) dt_yes (de_callX (F := F_join_at) (da_cons (de_var 2) (da_cons (de_callX (F := F_size_of) (da_cons (de_var 0) da_nil)) (da_cons (de_var 3) da_nil)))))) (by decide)
theorem ok_law_begin_from {t : Adr} (T : Txt K mg base t) : FnOk P w K mg base (CXW P w) 1 t.law_begin_from t.law_begin_from_d ["levels", "place", "ahead"] (spP K (tabG []) F__law_begin_from) := by
  refine T.law_begin_from.okD sc_law_begin_from (by decide) fun cdv A outer s H E hr hx hm => ?_
  refine cs_ts [0, 1, 2] ?_
  unfold f__law_begin_from
  refine cs_cons ?_ ?_
  · skip
    refine cs_while PassesOwn.leaving (@pt_not _ _ _ _ (@PW.pt _ _ _ (@pw_and _ _ _ _ _ _ _ (@pt_cmpR _ _ _ _ _ _ _ _ (eqA K rfl hr.units) (@pv _ 2 _ _ (by rfl) (by first | exact Or.inl rfl | exact Or.inr (Or.inl rfl) | exact Or.inr (Or.inr rfl)) (by decide) (by decide)) pe_int (nomark _)) (@pw_and1 _ _ _ _ (@pt_cmpR _ _ _ _ _ _ _ _ (eqA K rfl hr.units) (@pe_ix _ _ _ _ _ _ _ (ixA K rfl) (@pv _ 0 _ _ (by rfl) (by first | exact Or.inl rfl | exact Or.inr (Or.inl rfl) | exact Or.inr (Or.inr rfl)) (by decide) (by decide)) (@pe_op _ _ _ _ _ _ _ _ op_mod (@pv _ 1 _ _ (by rfl) (by first | exact Or.inl rfl | exact Or.inr (Or.inl rfl) | exact Or.inr (Or.inr rfl)) (by decide) (by decide)) (@pe_callB _ _ _ _ _ _ _ _ _ (lenA K rfl) (by rfl) T.len_z PySem.boot_len (@pa_cons _ _ _ _ _ (@pv _ 0 _ _ (by rfl) (by first | exact Or.inl rfl | exact Or.inr (Or.inl rfl) | exact Or.inr (Or.inr rfl)) (by decide) (by decide)) pa_nil (by rfl)) (by decide) (by decide) (by rfl) (by rfl))) (fun _ _ => rfl)) pe_int (nomark _)))))) (dt_not (dt_and (dt_test (de_eq (de_var 2) (de_int 1))) (dt_test (de_eq (de_ix (de_var 0) (de_mod (de_var 1) (de_len (da_cons (de_var 0) da_nil)))) (de_int 0))))) ?_
    refine cs_cons ?_ ?_
    · skip
      exact cs_leaf (@psn _ _ 2 _ _ _ _ sc_law_begin_from.nd rfl (by first | exact Or.inl rfl | exact Or.inr rfl) (@pe_ix _ _ _ _ _ _ _ (ixA K rfl) (@pv _ 0 _ _ (by rfl) (by first | exact Or.inl rfl | exact Or.inr (Or.inl rfl) | exact Or.inr (Or.inr rfl)) (by decide) (by decide)) (@pe_op _ _ _ _ _ _ _ _ op_mod (@pv _ 1 _ _ (by rfl) (by first | exact Or.inl rfl | exact Or.inr (Or.inl rfl) | exact Or.inr (Or.inr rfl)) (by decide) (by decide)) (@pe_callB _ _ _ _ _ _ _ _ _ (lenA K rfl) (by rfl) T.len_z PySem.boot_len (@pa_cons _ _ _ _ _ (@pv _ 0 _ _ (by rfl) (by first | exact Or.inl rfl | exact Or.inr (Or.inl rfl) | exact Or.inr (Or.inr rfl)) (by decide) (by decide)) pa_nil (by rfl)) (by decide) (by decide) (by rfl) (by rfl))) (fun _ _ => rfl)) (by rfl) (by first | exact .inl rfl | exact .inr rfl | assumption)) (ds_asg (de_ix (de_var 0) (de_mod (de_var 1) (de_len (da_cons (de_var 0) da_nil)))) (dg_name 2)) (by decide)
    refine cs_one ?_
    exact cs_leaf (@psn _ _ 1 _ _ _ _ sc_law_begin_from.nd rfl (by first | exact Or.inl rfl | exact Or.inr rfl) (@pe_op _ _ _ _ _ _ _ _ op_addA (@pv _ 1 _ _ (by rfl) (by first | exact Or.inl rfl | exact Or.inr (Or.inl rfl) | exact Or.inr (Or.inr rfl)) (by decide) (by decide)) pe_int) (by rfl) (by first | exact .inl rfl | exact .inr rfl | assumption)) (ds_asg (de_add (de_var 1) (de_int 1)) (dg_name 1)) (by decide)
  refine cs_one ?_
  exact cs_leaf (@ps_ret _ _ _ _ (@pv _ 1 _ _ (by rfl) (by first | exact Or.inl rfl | exact Or.inr (Or.inl rfl) | exact Or.inr (Or.inr rfl)) (by decide) (by decide))) (ds_ret (de_var 1)) (by decide)
theorem ok_law_join {t : Adr} (T : Txt K mg base t) : FnOk P w K mg base (CXW P w) 2 t.law_join t.law_join_d ["levels", "size", "come"] (spP K (tabG []) F__law_join) := by
  have g_law_begin_from := (ok_law_begin_from (P := P) (w := w) (base := base) T).mono (show 1 ≤ 1 by decide)
  refine T.law_join.okD sc_law_join (by decide) fun cdv A outer s H E hr hx hm => ?_
  refine cs_ts [0, 1, 2, 3, 4, 5, 6, 7, 8, 9, 10] ?_
  unfold f__law_join
  refine cs_cons ?_ ?_
  · skip
    exact cs_leaf (@psn _ _ 3 _ _ _ _ sc_law_join.nd rfl (by first | exact Or.inl rfl | exact Or.inr rfl) (@pe_lst _ _ _ _ pa_nil) (by rfl) (by first | exact .inl rfl | exact .inr rfl | assumption)) (ds_asg (de_lst da_nil) (dg_name 3)) (by decide)
  refine cs_cons ?_ ?_
  · skip
    exact cs_leaf (@psn _ _ 4 _ _ _ _ sc_law_join.nd rfl (by first | exact Or.inl rfl | exact Or.inr rfl) (@pe_callX _ _ _ _ _ _ _ _ _ _ _ _ _ _ g_law_begin_from hr (by rfl) T.law_begin_from_g T.law_begin_from.kp T.law_begin_from_b hx (@pa_cons _ _ _ _ _ (@pv _ 0 _ _ (by rfl) (by first | exact Or.inl rfl | exact Or.inr (Or.inl rfl) | exact Or.inr (Or.inr rfl)) (by decide) (by decide)) (@pa_cons _ _ _ _ _ (@pv _ 2 _ _ (by rfl) (by first | exact Or.inl rfl | exact Or.inr (Or.inl rfl) | exact Or.inr (Or.inr rfl)) (by decide) (by decide)) (@pa_cons _ _ _ _ _ pe_int pa_nil (by rfl)) (by rfl)) (by rfl)) (by decide) (by rfl) (by rfl)) (by rfl) (by first | exact .inl rfl | exact .inr rfl | assumption)) (ds_asg (de_callX (F := F__law_begin_from) (da_cons (de_var 0) (da_cons (de_var 2) (da_cons (de_int 1) da_nil)))) (dg_name 4)) (by decide)
  refine cs_cons ?_ ?_
  · skip
    refine cs_for rfl (@pi_range1 _ _ _ _ _ _ (by rfl) T.range_z (@pa_cons _ _ _ _ _ (@pe_op _ _ _ _ _ _ _ _ op_addA (@pe_callB _ _ _ _ _ _ _ _ _ (lenA K rfl) (by rfl) T.len_z PySem.boot_len (@pa_cons _ _ _ _ _ (@pv _ 0 _ _ (by rfl) (by first | exact Or.inl rfl | exact Or.inr (Or.inl rfl) | exact Or.inr (Or.inr rfl)) (by decide) (by decide)) pa_nil (by rfl)) (by decide) (by decide) (by rfl) (by rfl)) pe_int) pa_nil (by rfl)) (by rfl)) (di_range1 (da_cons (de_add (de_len (da_cons (de_var 0) da_nil)) (de_int 1)) da_nil)) (@pgn _ _ 5 _ sc_law_join.nd rfl (by first | exact Or.inl rfl | exact Or.inr rfl) (by first | exact .inl rfl | exact .inr rfl | assumption)) (dg_name 5) PassesOwn.leaving (by decide) (by intro _; rfl) ?_
    refine cs_cons ?_ ?_
    · skip
      refine cs_if (@pt_cmpR _ _ _ _ _ _ _ _ (eqA K rfl hr.units) (@pe_op _ _ _ _ _ _ _ _ op_mod (@pv _ 4 _ _ (by rfl) (by first | exact Or.inl rfl | exact Or.inr (Or.inl rfl) | exact Or.inr (Or.inr rfl)) (by decide) (by decide)) (@pv _ 1 _ _ (by rfl) (by first | exact Or.inl rfl | exact Or.inr (Or.inl rfl) | exact Or.inr (Or.inr rfl)) (by decide) (by decide))) pe_int (nomark _)) (dt_test (de_eq (de_mod (de_var 4) (de_var 1)) (de_int 0))) ?_ ?_
      · skip
        refine cs_one ?_
        exact cs_leaf (@ps_ret _ _ _ _ (@pe_tup _ _ _ _ _ (@pa_cons _ _ _ _ _ pe_str (@pa_cons _ _ _ _ _ (@pe_op _ _ _ _ _ _ _ _ op_sub (@pv _ 4 _ _ (by rfl) (by first | exact Or.inl rfl | exact Or.inr (Or.inl rfl) | exact Or.inr (Or.inr rfl)) (by decide) (by decide)) (@pv _ 2 _ _ (by rfl) (by first | exact Or.inl rfl | exact Or.inr (Or.inl rfl) | exact Or.inr (Or.inr rfl)) (by decide) (by decide))) pa_nil (by rfl)) (by rfl)))) (ds_ret (de_tup (da_cons (de_str "in") (da_cons (de_sub (de_var 4) (de_var 2)) da_nil)))) (by decide)
      · skip
        exact cs_nil
    refine cs_cons ?_ ?_
    · skip
      exact cs_leaf (@ps_expr _ _ _ _ (@pe_bm _ _ _ _ _ _ _ _ _ _ _ _ PySem.F.plainAttrs_list PySem.F.slot_list_append PySem.F.type_list_append mt_append (@pv _ 3 _ _ (by rfl) (by first | exact Or.inl rfl | exact Or.inr (Or.inl rfl) | exact Or.inr (Or.inr rfl)) (by decide) (by decide)) (@pa_cons _ _ _ _ _ (@pe_op _ _ _ _ _ _ _ _ op_mod (@pv _ 4 _ _ (by rfl) (by first | exact Or.inl rfl | exact Or.inr (Or.inl rfl) | exact Or.inr (Or.inr rfl)) (by decide) (by decide)) (@pe_callB _ _ _ _ _ _ _ _ _ (lenA K rfl) (by rfl) T.len_z PySem.boot_len (@pa_cons _ _ _ _ _ (@pv _ 0 _ _ (by rfl) (by first | exact Or.inl rfl | exact Or.inr (Or.inl rfl) | exact Or.inr (Or.inr rfl)) (by decide) (by decide)) pa_nil (by rfl)) (by decide) (by decide) (by rfl) (by rfl))) pa_nil (by rfl)) (by rfl) (by rfl) (by rfl) (by rfl) (by rfl)) (by rfl)) (ds_app (dp_name 3) (da_cons (de_mod (de_var 4) (de_len (da_cons (de_var 0) da_nil))) da_nil)) (by decide)
    refine cs_cons ?_ ?_
    · skip
      exact cs_leaf (@psn _ _ 9 _ _ _ _ sc_law_join.nd rfl (by first | exact Or.inl rfl | exact Or.inr rfl) (@pe_op _ _ _ _ _ _ _ _ op_addA (@pv _ 4 _ _ (by rfl) (by first | exact Or.inl rfl | exact Or.inr (Or.inl rfl) | exact Or.inr (Or.inr rfl)) (by decide) (by decide)) (@pv _ 1 _ _ (by rfl) (by first | exact Or.inl rfl | exact Or.inr (Or.inl rfl) | exact Or.inr (Or.inr rfl)) (by decide) (by decide))) (by rfl) (by first | exact .inl rfl | exact .inr rfl | assumption)) (ds_asg (de_add (de_var 4) (de_var 1)) (dg_name 9)) (by decide)
    refine cs_one ?_
    exact cs_leaf (@psn _ _ 4 _ _ _ _ sc_law_join.nd rfl (by first | exact Or.inl rfl | exact Or.inr rfl) (@pe_callX _ _ _ _ _ _ _ _ _ _ _ _ _ _ g_law_begin_from hr (by rfl) T.law_begin_from_g T.law_begin_from.kp T.law_begin_from_b hx (@pa_cons _ _ _ _ _ (@pv _ 0 _ _ (by rfl) (by first | exact Or.inl rfl | exact Or.inr (Or.inl rfl) | exact Or.inr (Or.inr rfl)) (by decide) (by decide)) (@pa_cons _ _ _ _ _ (@pv _ 9 _ _ (by rfl) (by first | exact Or.inl rfl | exact Or.inr (Or.inl rfl) | exact Or.inr (Or.inr rfl)) (by decide) (by decide)) (@pa_cons _ _ _ _ _ (@pe_ix _ _ _ _ _ _ _ (ixA K rfl) (@pv _ 0 _ _ (by rfl) (by first | exact Or.inl rfl | exact Or.inr (Or.inl rfl) | exact Or.inr (Or.inr rfl)) (by decide) (by decide)) (@pe_op _ _ _ _ _ _ _ _ op_mod (@pe_op _ _ _ _ _ _ _ _ op_sub (@pv _ 9 _ _ (by rfl) (by first | exact Or.inl rfl | exact Or.inr (Or.inl rfl) | exact Or.inr (Or.inr rfl)) (by decide) (by decide)) pe_int) (@pe_callB _ _ _ _ _ _ _ _ _ (lenA K rfl) (by rfl) T.len_z PySem.boot_len (@pa_cons _ _ _ _ _ (@pv _ 0 _ _ (by rfl) (by first | exact Or.inl rfl | exact Or.inr (Or.inl rfl) | exact Or.inr (Or.inr rfl)) (by decide) (by decide)) pa_nil (by rfl)) (by decide) (by decide) (by rfl) (by rfl))) (fun _ _ => rfl)) pa_nil (by rfl)) (by rfl)) (by rfl)) (by decide) (by rfl) (by rfl)) (by rfl) (by first | exact .inl rfl | exact .inr rfl | assumption)) (ds_asg (de_callX (F := F__law_begin_from) (da_cons (de_var 0) (da_cons (de_var 9) (da_cons (de_ix (de_var 0) (de_mod (de_sub (de_var 9) (de_int 1)) (de_len (da_cons (de_var 0) da_nil)))) da_nil)))) (dg_name 4)) (by decide)
  refine cs_cons ?_ ?_
  · skip
    exact cs_leaf (@psn _ _ 6 _ _ _ _ sc_law_join.nd rfl (by first | exact Or.inl rfl | exact Or.inr rfl) (@pe_ix _ _ _ _ _ _ _ (ixA K rfl) (@pv _ 3 _ _ (by rfl) (by first | exact Or.inl rfl | exact Or.inr (Or.inl rfl) | exact Or.inr (Or.inr rfl)) (by decide) (by decide)) (@pe_un _ _ _ _ _ _ un_neg pe_int) (fun _ _ => rfl)) (by rfl) (by first | exact .inl rfl | exact .inr rfl | assumption)) (ds_asg (de_ix (de_var 3) (de_neg (de_int 1))) (dg_name 6)) (by decide)
  refine cs_cons ?_ ?_
  · skip
    exact cs_leaf (@psn _ _ 7 _ _ _ _ sc_law_join.nd rfl (by first | exact Or.inl rfl | exact Or.inr rfl) (@pe_lst _ _ _ _ (@pa_cons _ _ _ _ _ (@pv _ 6 _ _ (by rfl) (by first | exact Or.inl rfl | exact Or.inr (Or.inl rfl) | exact Or.inr (Or.inr rfl)) (by decide) (by decide)) pa_nil (by rfl))) (by rfl) (by first | exact .inl rfl | exact .inr rfl | assumption)) (ds_asg (de_lst (da_cons (de_var 6) da_nil)) (dg_name 7)) (by decide)
  refine cs_cons ?_ ?_
  · skip
    refine cs_for rfl (@pi_any _ _ _ _ K rfl (@pe_slice _ _ _ _ _ _ _ _ _ _ (slA K rfl) (pe_slrev rfl (@pv _ 3 _ _ (by rfl) (by first | exact Or.inl rfl | exact Or.inr (Or.inl rfl) | exact Or.inr (Or.inr rfl)) (by decide) (by decide)) (@po_some _ _ _ (@pe_un _ _ _ _ _ _ un_neg pe_int))) (@po_some _ _ _ pe_int) po_none)) (di_any (de_sl (de_slrev (de_var 3) (do_some (de_neg (de_int 1)))) (do_some (de_int 1)) do_none)) (@pgn _ _ 8 _ sc_law_join.nd rfl (by first | exact Or.inl rfl | exact Or.inr rfl) (by first | exact .inl rfl | exact .inr rfl | assumption)) (dg_name 8) PassesOwn.leaving (by decide) (by intro _; rfl) ?_
    refine cs_cons ?_ ?_
    · skip
      refine cs_if (@pt_cmpR _ _ _ _ _ _ _ _ (eqA K rfl hr.units) (@pv _ 8 _ _ (by rfl) (by first | exact Or.inl rfl | exact Or.inr (Or.inl rfl) | exact Or.inr (Or.inr rfl)) (by decide) (by decide)) (@pv _ 6 _ _ (by rfl) (by first | exact Or.inl rfl | exact Or.inr (Or.inl rfl) | exact Or.inr (Or.inr rfl)) (by decide) (by decide)) (nomark _)) (dt_test (de_eq (de_var 8) (de_var 6))) ?_ ?_
      · skip
        refine cs_cons ?_ ?_
        · skip
          exact cs_leaf (@psn _ _ 10 _ _ _ _ sc_law_join.nd rfl (by first | exact Or.inl rfl | exact Or.inr rfl) (@pe_bm _ _ _ _ _ _ _ _ _ _ _ _ PySem.F.plainAttrs_list PySem.F.slot_list_index PySem.F.type_list_index (mtIx K rfl) (@pv _ 7 _ _ (by rfl) (by first | exact Or.inl rfl | exact Or.inr (Or.inl rfl) | exact Or.inr (Or.inr rfl)) (by decide) (by decide)) (@pa_cons _ _ _ _ _ (@pe_callB _ _ _ _ _ _ _ _ _ (minL K rfl rfl) (by rfl) T.min_z (by decide +kernel) (@pa_cons _ _ _ _ _ (@pv _ 7 _ _ (by rfl) (by first | exact Or.inl rfl | exact Or.inr (Or.inl rfl) | exact Or.inr (Or.inr rfl)) (by decide) (by decide)) pa_nil (by rfl)) (by decide) (by decide) (by rfl) (by rfl)) pa_nil (by rfl)) (by rfl) (by rfl) (by rfl) (by rfl) (by rfl)) (by rfl) (by first | exact .inl rfl | exact .inr rfl | assumption)) (ds_asg (de_indexL (de_var 7) (da_cons (de_minL (da_cons (de_var 7) da_nil)) da_nil)) (dg_name 10)) (by decide)
        refine cs_one ?_
        exact cs_leaf (@ps_ret _ _ _ _ (@pe_tup _ _ _ _ _ (@pa_cons _ _ _ _ _ pe_str (@pa_cons _ _ _ _ _ (@pe_op _ _ _ _ _ _ _ _ op_addA (@pe_slice _ _ _ _ _ _ _ _ _ _ (slA K rfl) (@pv _ 7 _ _ (by rfl) (by first | exact Or.inl rfl | exact Or.inr (Or.inl rfl) | exact Or.inr (Or.inr rfl)) (by decide) (by decide)) (@po_some _ _ _ (@pv _ 10 _ _ (by rfl) (by first | exact Or.inl rfl | exact Or.inr (Or.inl rfl) | exact Or.inr (Or.inr rfl)) (by decide) (by decide))) po_none) (@pe_slice _ _ _ _ _ _ _ _ _ _ (slA K rfl) (@pv _ 7 _ _ (by rfl) (by first | exact Or.inl rfl | exact Or.inr (Or.inl rfl) | exact Or.inr (Or.inr rfl)) (by decide) (by decide)) po_none (@po_some _ _ _ (@pv _ 10 _ _ (by rfl) (by first | exact Or.inl rfl | exact Or.inr (Or.inl rfl) | exact Or.inr (Or.inr rfl)) (by decide) (by decide))))) pa_nil (by rfl)) (by rfl)))) (ds_ret (de_tup (da_cons (de_str "never") (da_cons (de_add (de_sl (de_var 7) (do_some (de_var 10)) do_none) (de_sl (de_var 7) do_none (do_some (de_var 10)))) da_nil)))) (by decide)
      · skip
        exact cs_nil
    refine cs_one ?_
    exact cs_leaf (@psn _ _ 7 _ _ _ _ sc_law_join.nd rfl (by first | exact Or.inl rfl | exact Or.inr rfl) (@pe_op _ _ _ _ _ _ _ _ op_addA (@pe_lst _ _ _ _ (@pa_cons _ _ _ _ _ (@pv _ 8 _ _ (by rfl) (by first | exact Or.inl rfl | exact Or.inr (Or.inl rfl) | exact Or.inr (Or.inr rfl)) (by decide) (by decide)) pa_nil (by rfl))) (@pv _ 7 _ _ (by rfl) (by first | exact Or.inl rfl | exact Or.inr (Or.inl rfl) | exact Or.inr (Or.inr rfl)) (by decide) (by decide))) (by rfl) (by first | exact .inl rfl | exact .inr rfl | assumption)) (ds_asg (de_add (de_lst (da_cons (de_var 8) da_nil)) (de_var 7)) (dg_name 7)) (by decide)
  refine cs_one ?_
  exact cs_leaf (@ps_ret _ _ _ _ pe_non) (ds_ret de_non) (by decide)
theorem ok_law_whole {t : Adr} (T : Txt K mg base t) : FnOk P w K mg base (CXW P w) 1 t.law_whole t.law_whole_d ["thing"] (spP K (tabG []) F__law_whole) := by
  refine T.law_whole.okD sc_law_whole (by decide) fun cdv A outer s H E hr hx hm => ?_
  refine cs_ts [0] ?_
  unfold f__law_whole
  refine cs_one ?_
  exact cs_leaf (@ps_ret _ _ _ _ (@pe_and _ _ _ _ _ _ _ (@pe_callB _ _ _ _ _ _ _ _ _ (isiS K rfl) (by rfl) T.isinstance_z (by decide +kernel) (@pa_cons _ _ _ _ _ (@pv _ 0 _ _ (by rfl) (by first | exact Or.inl rfl | exact Or.inr (Or.inl rfl) | exact Or.inr (Or.inr rfl)) (by decide) (by decide)) (@pa_cons _ _ _ _ _ (@pen _ _ (.ty "int") _ _ (by rfl) T.int_z (by decide +kernel) rfl (by decide) (by decide)) pa_nil (by rfl)) (by rfl)) (by decide) (by decide) (by rfl) (by rfl)) (@pe_one _ _ _ _ _ (@pe_not _ _ _ _ (@pe_callB _ _ _ _ _ _ _ _ _ (isiS K rfl) (by rfl) T.isinstance_z (by decide +kernel) (@pa_cons _ _ _ _ _ (@pv _ 0 _ _ (by rfl) (by first | exact Or.inl rfl | exact Or.inr (Or.inl rfl) | exact Or.inr (Or.inr rfl)) (by decide) (by decide)) (@pa_cons _ _ _ _ _ (@pen _ _ (.ty "bool") _ _ (by rfl) T.bool_z (by decide +kernel) rfl (by decide) (by decide)) pa_nil (by rfl)) (by rfl)) (by decide) (by decide) (by rfl) (by rfl)))))) (ds_ret (de_andV (de_isi (da_cons (de_var 0) (da_cons (de_ty "int") da_nil))) (de_notV (de_isi (da_cons (de_var 0) (da_cons (de_ty "bool") da_nil)))))) (by decide)
theorem ok_law {t : Adr} (T : Txt K mg base t) : FnOk P w K mg base (CXW P w) 6 t.law t.law_d ["script"] (spP K (tabG []) F_law) := by
  have g_law_form := (ok_law_form (P := P) (w := w) (base := base) T).mono (show 1 ≤ 5 by decide)
  have g_law_drawn := (ok_law_drawn (P := P) (w := w) (base := base) T).mono (show 2 ≤ 5 by decide)
  have g_law_cell_at := (ok_law_cell_at (P := P) (w := w) (base := base) T).mono (show 1 ≤ 5 by decide)
  have g_law_words := (ok_law_words (P := P) (w := w) (base := base) T).mono (show 3 ≤ 5 by decide)
  have g_law_levels := (ok_law_levels (P := P) (w := w) (base := base) T).mono (show 1 ≤ 5 by decide)
  have g_round_levels := (ok_round_levels (P := P) (w := w) (base := base) T).mono (show 4 ≤ 5 by decide)
  have g_joins := (ok_joins (P := P) (w := w) (base := base) T).mono (show 5 ≤ 5 by decide)
  have g_law_join := (ok_law_join (P := P) (w := w) (base := base) T).mono (show 2 ≤ 5 by decide)
  have g_law_whole := (ok_law_whole (P := P) (w := w) (base := base) T).mono (show 1 ≤ 5 by decide)
  refine T.law.okD sc_law (by decide) fun cdv A outer s H E hr hx hm => ?_
  refine cs_ts [0, 1, 2, 3, 4, 5, 6, 7, 8, 9, 10, 11] ?_
  unfold f_law
  refine cs_cons ?_ ?_
  · skip
    refine cs_for rfl (@pi_range3 _ _ _ _ _ _ _ _ (by rfl) T.range_z (@pa_kk _ _ [.int 0, .int 8, .int 2] (by decide +kernel)) (by rfl) (by rfl)) (di_range3 (da_k (vs := [.int 0, .int 8, .int 2]) rfl)) (@pgn _ _ 1 _ sc_law.nd rfl (by first | exact Or.inl rfl | exact Or.inr rfl) (by first | exact .inl rfl | exact .inr rfl | assumption)) (dg_name 1) PassesOwn.leaving (by decide) (by intro _; rfl) ?_
    refine cs_cons ?_ ?_
    · skip
      exact cs_leaf (@psn _ _ 2 _ _ _ _ sc_law.nd rfl (by first | exact Or.inl rfl | exact Or.inr rfl) (@pe_callX _ _ _ _ _ _ _ _ _ _ _ _ _ _ g_law_form hr (by rfl) T.law_form_g T.law_form.kp T.law_form_b hx (@pa_cons _ _ _ _ _ (@pe_ix _ _ _ _ _ _ _ (ixA K rfl) (@pe_callX _ _ _ _ _ _ _ _ _ _ _ _ _ _ g_law_drawn hr (by rfl) T.law_drawn_g T.law_drawn.kp T.law_drawn_b hx (@pa_cons _ _ _ _ _ (@pe_op _ _ _ _ _ _ _ _ op_addA (@pe_callX _ _ _ _ _ _ _ _ _ _ _ _ _ _ g_law_cell_at hr (by rfl) T.law_cell_at_g T.law_cell_at.kp T.law_cell_at_b hx (@pa_cons _ _ _ _ _ (@pv _ 0 _ _ (by rfl) (by first | exact Or.inl rfl | exact Or.inr (Or.inl rfl) | exact Or.inr (Or.inr rfl)) (by decide) (by decide)) (@pa_cons _ _ _ _ _ (@pv _ 1 _ _ (by rfl) (by first | exact Or.inl rfl | exact Or.inr (Or.inl rfl) | exact Or.inr (Or.inr rfl)) (by decide) (by decide)) pa_nil (by rfl)) (by rfl)) (by decide) (by rfl) (by rfl)) (@pv _ 1 _ _ (by rfl) (by first | exact Or.inl rfl | exact Or.inr (Or.inl rfl) | exact Or.inr (Or.inr rfl)) (by decide) (by decide))) (@pa_cons _ _ _ _ _ (@pe_lst _ _ _ _ (@pa_cons _ _ _ _ _ pe_int pa_nil (by rfl))) pa_nil (by rfl)) (by rfl)) (by decide) (by rfl) (by rfl)) pe_int (fun _ _ => rfl)) pa_nil (by rfl)) (by decide) (by rfl) (by rfl)) (by rfl) (by first | exact .inl rfl | exact .inr rfl | assumption)) (ds_asg (de_callX (F := F__law_form) (da_cons (de_ix (de_callX (F := F__law_drawn) (da_cons (de_add (de_callX (F := F__law_cell_at) (da_cons (de_var 0) (da_cons (de_var 1) da_nil))) (de_var 1)) (da_cons (de_lst (da_cons (de_int 45) da_nil)) da_nil))) (de_int 0)) da_nil)) (dg_name 2)) (by decide)
    refine cs_cons ?_ ?_
    · skip
      exact cs_leaf (@psn _ _ 3 _ _ _ _ sc_law.nd rfl (by first | exact Or.inl rfl | exact Or.inr rfl) (@pe_callX _ _ _ _ _ _ _ _ _ _ _ _ _ _ g_law_words hr (by rfl) T.law_words_g T.law_words.kp T.law_words_b hx (@pa_cons _ _ _ _ _ (@pv _ 2 _ _ (by rfl) (by first | exact Or.inl rfl | exact Or.inr (Or.inl rfl) | exact Or.inr (Or.inr rfl)) (by decide) (by decide)) (@pa_cons _ _ _ _ _ (@pe_op _ _ _ _ _ _ _ _ op_addA (@pe_callX _ _ _ _ _ _ _ _ _ _ _ _ _ _ g_law_cell_at hr (by rfl) T.law_cell_at_g T.law_cell_at.kp T.law_cell_at_b hx (@pa_cons _ _ _ _ _ (@pv _ 0 _ _ (by rfl) (by first | exact Or.inl rfl | exact Or.inr (Or.inl rfl) | exact Or.inr (Or.inr rfl)) (by decide) (by decide)) (@pa_cons _ _ _ _ _ (@pe_op _ _ _ _ _ _ _ _ op_addA (@pv _ 1 _ _ (by rfl) (by first | exact Or.inl rfl | exact Or.inr (Or.inl rfl) | exact Or.inr (Or.inr rfl)) (by decide) (by decide)) pe_int) pa_nil (by rfl)) (by rfl)) (by decide) (by rfl) (by rfl)) (@pv _ 1 _ _ (by rfl) (by first | exact Or.inl rfl | exact Or.inr (Or.inl rfl) | exact Or.inr (Or.inr rfl)) (by decide) (by decide))) pa_nil (by rfl)) (by rfl)) (by decide) (by rfl) (by rfl)) (by rfl) (by first | exact .inl rfl | exact .inr rfl | assumption)) (ds_asg (de_callX (F := F__law_words) (da_cons (de_var 2) (da_cons (de_add (de_callX (F := F__law_cell_at) (da_cons (de_var 0) (da_cons (de_add (de_var 1) (de_int 1)) da_nil))) (de_var 1)) da_nil))) (dg_name 3)) (by decide)
    refine cs_cons ?_ ?_
    · skip
      exact cs_leaf (@psn _ _ 4 _ _ _ _ sc_law.nd rfl (by first | exact Or.inl rfl | exact Or.inr rfl) (@pe_lst _ _ _ _ pa_nil) (by rfl) (by first | exact .inl rfl | exact .inr rfl | assumption)) (ds_asg (de_lst da_nil) (dg_name 4)) (by decide)
    refine cs_cons ?_ ?_
    · skip
      refine cs_forA [4] rfl (@pi_any _ _ _ _ K rfl (@pv _ 3 _ _ (by rfl) (by first | exact Or.inl rfl | exact Or.inr (Or.inl rfl) | exact Or.inr (Or.inr rfl)) (by decide) (by decide))) (@pgn _ _ 5 _ sc_law.nd rfl (by first | exact Or.inl rfl | exact Or.inr rfl) (by first | exact .inl rfl | exact .inr rfl | assumption)) (dg_name 5) (by decide) PassesOwn.leaving (by decide) (by intro _; rfl) ?_
      refine cs_one ?_
      exact cs_leaf (@psn _ _ 4 _ _ _ _ sc_law.nd rfl (by first | exact Or.inl rfl | exact Or.inr rfl) (@pe_op _ _ _ _ _ _ _ _ op_addA (@pv _ 4 _ _ (by rfl) (by first | exact Or.inl rfl | exact Or.inr (Or.inl rfl) | exact Or.inr (Or.inr rfl)) (by decide) (by decide)) (@pe_callX _ _ _ _ _ _ _ _ _ _ _ _ _ _ g_law_levels hr (by rfl) T.law_levels_g T.law_levels.kp T.law_levels_b hx (@pa_cons _ _ _ _ _ (@pv _ 2 _ _ (by rfl) (by first | exact Or.inl rfl | exact Or.inr (Or.inl rfl) | exact Or.inr (Or.inr rfl)) (by decide) (by decide)) (@pa_cons _ _ _ _ _ (@pv _ 5 _ _ (by rfl) (by first | exact Or.inl rfl | exact Or.inr (Or.inl rfl) | exact Or.inr (Or.inr rfl)) (by decide) (by decide)) pa_nil (by rfl)) (by rfl)) (by decide) (by rfl) (by rfl))) (by rfl) (by first | exact .inl rfl | exact .inr rfl | assumption)) (ds_asg (de_add (de_var 4) (de_callX (F := F__law_levels) (da_cons (de_var 2) (da_cons (de_var 5) da_nil)))) (dg_name 4)) (by decide)
    refine cs_cons ?_ ?_
    · skip
      exact cs_leaf (@psn _ _ 6 _ _ _ _ sc_law.nd rfl (by first | exact Or.inl rfl | exact Or.inr rfl) (@pe_callTy _ _ _ _ _ _ _ _ _ (listS K rfl) (by rfl) T.list_z (by decide +kernel) (@pa_cons _ _ _ _ _ (@pv _ 3 _ _ (by rfl) (by first | exact Or.inl rfl | exact Or.inr (Or.inl rfl) | exact Or.inr (Or.inr rfl)) (by decide) (by decide)) pa_nil (by rfl)) (by decide) (by decide) (by rfl) (by rfl)) (by rfl) (by first | exact .inl rfl | exact .inr rfl | assumption)) (ds_asg (de_list (da_cons (de_var 3) da_nil)) (dg_name 6)) (by decide)
    refine cs_cons ?_ ?_
    · skip
      exact cs_leaf (@psn _ _ 7 _ _ _ _ sc_law.nd rfl (by first | exact Or.inl rfl | exact Or.inr rfl) (@pe_callX _ _ _ _ _ _ _ _ _ _ _ _ _ _ g_round_levels hr (by rfl) T.round_levels_g T.round_levels.kp T.round_levels_b hx (@pa_cons _ _ _ _ _ (@pv _ 2 _ _ (by rfl) (by first | exact Or.inl rfl | exact Or.inr (Or.inl rfl) | exact Or.inr (Or.inr rfl)) (by decide) (by decide)) (@pa_cons _ _ _ _ _ (@pv _ 6 _ _ (by rfl) (by first | exact Or.inl rfl | exact Or.inr (Or.inl rfl) | exact Or.inr (Or.inr rfl)) (by decide) (by decide)) pa_nil (by rfl)) (by rfl)) (by decide) (by rfl) (by rfl)) (by rfl) (by first | exact .inl rfl | exact .inr rfl | assumption)) (ds_asg (de_callX (F := F_round_levels) (da_cons (de_var 2) (da_cons (de_var 6) da_nil))) (dg_name 7)) (by decide)
    refine cs_cons ?_ ?_
    · skip
      refine cs_if (@PW.pt _ _ _ (@pw_or _ _ _ _ _ _ _ (@pt_not _ _ _ _ (@pt_tr _ K _ _ rfl (@pe_callB _ _ _ _ _ _ _ _ _ (isiS K rfl) (by rfl) T.isinstance_z (by decide +kernel) (@pa_cons _ _ _ _ _ (@pv _ 7 _ _ (by rfl) (by first | exact Or.inl rfl | exact Or.inr (Or.inl rfl) | exact Or.inr (Or.inr rfl)) (by decide) (by decide)) (@pa_cons _ _ _ _ _ (@pen _ _ (.ty "list") _ _ (by rfl) T.list_z (by decide +kernel) rfl (by decide) (by decide)) pa_nil (by rfl)) (by rfl)) (by decide) (by decide) (by rfl) (by rfl)) (by intro _; rfl))) (@pw_or1 _ _ _ _ (@pt_cmpR _ _ _ _ _ _ _ _ (neA K rfl hr.units) (@pv _ 7 _ _ (by rfl) (by first | exact Or.inl rfl | exact Or.inr (Or.inl rfl) | exact Or.inr (Or.inr rfl)) (by decide) (by decide)) (@pv _ 4 _ _ (by rfl) (by first | exact Or.inl rfl | exact Or.inr (Or.inl rfl) | exact Or.inr (Or.inr rfl)) (by decide) (by decide)) (nomark _))))) (dt_or (dt_not (dt_tr (de_isi (da_cons (de_var 7) (da_cons (de_ty "list") da_nil))))) (dt_test (de_ne (de_var 7) (de_var 4)))) ?_ ?_
      · skip
        refine cs_one ?_
        exact cs_leaf (@ps_ret _ _ _ _ pe_bl) (ds_ret (de_bl false)) (by decide)
      · skip
        exact cs_nil
    refine cs_cons ?_ ?_
    · skip
      exact cs_leaf (@ps_expr _ _ _ _ (@pe_bm0 _ _ _ _ _ _ _ _ _ PySem.F.plainAttrs_list PySem.F.slot_list_reverse PySem.F.type_list_reverse mt_reverse (@pv _ 7 _ _ (by rfl) (by first | exact Or.inl rfl | exact Or.inr (Or.inl rfl) | exact Or.inr (Or.inr rfl)) (by decide) (by decide)) (by rfl) (by rfl)) (by rfl)) (ds_rev (dp_name 7)) (by decide)
    refine cs_cons ?_ ?_
    · skip
      exact cs_leaf (@psn _ _ 8 _ _ _ _ sc_law.nd rfl (by first | exact Or.inl rfl | exact Or.inr rfl) (@pe_callX _ _ _ _ _ _ _ _ _ _ _ _ _ _ g_joins hr (by rfl) T.joins_g T.joins.kp T.joins_b hx (@pa_cons _ _ _ _ _ (@pv _ 2 _ _ (by rfl) (by first | exact Or.inl rfl | exact Or.inr (Or.inl rfl) | exact Or.inr (Or.inr rfl)) (by decide) (by decide)) (@pa_cons _ _ _ _ _ (@pv _ 6 _ _ (by rfl) (by first | exact Or.inl rfl | exact Or.inr (Or.inl rfl) | exact Or.inr (Or.inr rfl)) (by decide) (by decide)) pa_nil (by rfl)) (by rfl)) (by decide) (by rfl) (by rfl)) (by rfl) (by first | exact .inl rfl | exact .inr rfl | assumption)) (ds_asg (de_callX (F := F_joins) (da_cons (de_var 2) (da_cons (de_var 6) da_nil))) (dg_name 8)) (by decide)
    refine cs_cons ?_ ?_
    · skip
      exact cs_leaf (@ps_setLcn _ 9 [("come", 11)] (gName 11) _ _ _ _ _ _ _ _ _ _ _ _ (by rfl) sc_law.nd rfl rfl (sw_true rfl rfl rfl (by decide +kernel)) (@pi_range1 _ _ _ _ _ _ (by rfl) T.range_z (@pa_cons _ _ _ _ _ (@pe_callB _ _ _ _ _ _ _ _ _ (lenA K rfl) (by rfl) T.len_z PySem.boot_len (@pa_cons _ _ _ _ _ (@pv _ 4 _ _ (by rfl) (by first | exact Or.inl rfl | exact Or.inr (Or.inl rfl) | exact Or.inr (Or.inr rfl)) (by decide) (by decide)) pa_nil (by rfl)) (by decide) (by decide) (by rfl) (by rfl)) pa_nil (by rfl)) (by rfl)) (blkOk_by (own := [("come", 11)]) (N := ["script", "k", "form", "words", "levels", "word", "handed", "found", "told", "due", "one", "come"]) (sc := defScope s_law) (by decide +kernel)) (fun _ _ _ _ _ => (@pgn _ _ 11 _ sc_law.nd rfl (by first | exact Or.inl rfl | exact Or.inr rfl) (by first | exact .inl rfl | exact .inr rfl | assumption))) (fun _ _ _ _ _ => pts_nil) (fun _ _ _ _ _ => (@pe_callX _ _ _ _ _ _ _ _ _ _ _ _ _ _ g_law_join hr (by rfl) T.law_join_g T.law_join.kp T.law_join_b noFly (@pa_cons _ _ _ _ _ (@pv _ 4 _ _ (by rfl) (by first | exact Or.inl rfl | exact Or.inr (Or.inl rfl) | exact Or.inr (Or.inr rfl)) (by decide) (by decide)) (@pa_cons _ _ _ _ _ (@pe_op _ _ _ _ _ _ _ _ op_fdivB (@pe_callB _ _ _ _ _ _ _ _ _ (lenA K rfl) (by rfl) T.len_z PySem.boot_len (@pa_cons _ _ _ _ _ (@pv _ 4 _ _ (by rfl) (by first | exact Or.inl rfl | exact Or.inr (Or.inl rfl) | exact Or.inr (Or.inr rfl)) (by decide) (by decide)) pa_nil (by rfl)) (by decide) (by decide) (by rfl) (by rfl)) (@pe_callB _ _ _ _ _ _ _ _ _ (lenA K rfl) (by rfl) T.len_z PySem.boot_len (@pa_cons _ _ _ _ _ (@pv _ 3 _ _ (by rfl) (by first | exact Or.inl rfl | exact Or.inr (Or.inl rfl) | exact Or.inr (Or.inr rfl)) (by decide) (by decide)) pa_nil (by rfl)) (by decide) (by decide) (by rfl) (by rfl))) (@pa_cons _ _ _ _ _ (@pv _ 11 _ _ (by rfl) (by first | exact Or.inl rfl | exact Or.inr (Or.inl rfl) | exact Or.inr (Or.inr rfl)) (by decide) (by decide)) pa_nil (by rfl)) (by rfl)) (by rfl)) (by decide) (by rfl) (by rfl))) (by intro _; rfl)) (ds_asg (de_lc (di_range1 (da_cons (de_len (da_cons (de_var 4) da_nil)) da_nil)).c (dg_name 11) (by decide) dt_yes (de_callX (F := F__law_join) (da_cons (de_var 4) (da_cons (de_div (de_len (da_cons (de_var 4) da_nil)) (de_len (da_cons (de_var 3) da_nil))) (da_cons (de_var 11) da_nil))))) (dg_name 9)) (by decide)
    refine cs_cons ?_ ?_
    · skip
      refine cs_if (@PW.pt _ _ _ (@pw_or _ _ _ _ _ _ _ (@pt_not _ _ _ _ (@pt_tr _ K _ _ rfl (@pe_callB _ _ _ _ _ _ _ _ _ (isiS K rfl) (by rfl) T.isinstance_z (by decide +kernel) (@pa_cons _ _ _ _ _ (@pv _ 8 _ _ (by rfl) (by first | exact Or.inl rfl | exact Or.inr (Or.inl rfl) | exact Or.inr (Or.inr rfl)) (by decide) (by decide)) (@pa_cons _ _ _ _ _ (@pen _ _ (.ty "list") _ _ (by rfl) T.list_z (by decide +kernel) rfl (by decide) (by decide)) pa_nil (by rfl)) (by rfl)) (by decide) (by decide) (by rfl) (by rfl)) (by intro _; rfl))) (@pw_or _ _ _ _ _ _ _ (@pt_cmpR _ _ _ _ _ _ _ _ (neA K rfl hr.units) (@pv _ 8 _ _ (by rfl) (by first | exact Or.inl rfl | exact Or.inr (Or.inl rfl) | exact Or.inr (Or.inr rfl)) (by decide) (by decide)) (@pv _ 9 _ _ (by rfl) (by first | exact Or.inl rfl | exact Or.inr (Or.inl rfl) | exact Or.inr (Or.inr rfl)) (by decide) (by decide)) (nomark _)) (@pw_or1 _ _ _ _ (@pt_cmpR _ _ _ _ _ _ _ _ (neA K rfl hr.units) (@pv _ 6 _ _ (by rfl) (by first | exact Or.inl rfl | exact Or.inr (Or.inl rfl) | exact Or.inr (Or.inr rfl)) (by decide) (by decide)) (@pv _ 3 _ _ (by rfl) (by first | exact Or.inl rfl | exact Or.inr (Or.inl rfl) | exact Or.inr (Or.inr rfl)) (by decide) (by decide)) (nomark _)))))) (dt_or (dt_not (dt_tr (de_isi (da_cons (de_var 8) (da_cons (de_ty "list") da_nil))))) (dt_or (dt_test (de_ne (de_var 8) (de_var 9))) (dt_test (de_ne (de_var 6) (de_var 3))))) ?_ ?_
      · skip
        refine cs_one ?_
        exact cs_leaf (@ps_ret _ _ _ _ pe_bl) (ds_ret (de_bl false)) (by decide)
      · skip
        exact cs_nil
    refine cs_cons ?_ ?_
    · skip
      refine cs_forM [] rfl (@pi_any _ _ _ _ K rfl (@pv _ 8 _ _ (by rfl) (by first | exact Or.inl rfl | exact Or.inr (Or.inl rfl) | exact Or.inr (Or.inr rfl)) (by decide) (by decide))) (@pgn _ _ 10 _ sc_law.nd rfl (by first | exact Or.inl rfl | exact Or.inr rfl) (by first | exact .inl rfl | exact .inr rfl | assumption)) (by decide) PassesOwn.leaving (by intro _; rfl) (by decide) ?_
      refine cs_cons ?_ ?_
      · skip
        refine cs_if (@PW.pt _ _ _ (@pw_or _ _ _ _ _ _ _ (@pt_not _ _ _ _ (@pt_tr _ K _ _ rfl (@pe_callB _ _ _ _ _ _ _ _ _ (isiS K rfl) (by rfl) T.isinstance_z (by decide +kernel) (@pa_cons _ _ _ _ _ (@pv _ 10 _ _ (by rfl) (by first | exact Or.inl rfl | exact Or.inr (Or.inl rfl) | exact Or.inr (Or.inr rfl)) (by decide) (by decide)) (@pa_cons _ _ _ _ _ (@pen _ _ (.ty "tuple") _ _ (by rfl) T.tuple_z (by decide +kernel) rfl (by decide) (by decide)) pa_nil (by rfl)) (by rfl)) (by decide) (by decide) (by rfl) (by rfl)) (by intro _; rfl))) (@pw_or1 _ _ _ _ (@PW.pt _ _ _ (@pw_and _ _ _ _ _ _ _ (@pt_cmpR _ _ _ _ _ _ _ _ (eqA K rfl hr.units) (@pe_ix _ _ _ _ _ _ _ (ixA K rfl) (@pv _ 10 _ _ (by rfl) (by first | exact Or.inl rfl | exact Or.inr (Or.inl rfl) | exact Or.inr (Or.inr rfl)) (by decide) (by decide)) pe_int (fun _ _ => rfl)) pe_str (nomark _)) (@pw_and1 _ _ _ _ (@pt_not _ _ _ _ (@pt_tr _ K _ _ rfl (@pe_callX _ _ _ _ _ _ _ _ _ _ _ _ _ _ g_law_whole hr (by rfl) T.law_whole_g T.law_whole.kp T.law_whole_b hx (@pa_cons _ _ _ _ _ (@pe_ix _ _ _ _ _ _ _ (ixA K rfl) (@pv _ 10 _ _ (by rfl) (by first | exact Or.inl rfl | exact Or.inr (Or.inl rfl) | exact Or.inr (Or.inr rfl)) (by decide) (by decide)) pe_int (fun _ _ => rfl)) pa_nil (by rfl)) (by decide) (by rfl) (by rfl)) (by intro _; rfl))))))))) (dt_or (dt_not (dt_tr (de_isi (da_cons (de_var 10) (da_cons (de_ty "tuple") da_nil))))) (dt_and (dt_test (de_eq (de_ix (de_var 10) (de_int 0)) (de_str "in"))) (dt_not (dt_tr (de_callX (F := F__law_whole) (da_cons (de_ix (de_var 10) (de_int 1)) da_nil)))))) ?_ ?_
        · skip
          refine cs_one ?_
          exact cs_leaf (@ps_ret _ _ _ _ pe_bl) (ds_ret (de_bl false)) (by decide)
        · skip
          exact cs_nil
      refine cs_one ?_
      refine cs_if (@pt_cmpR _ _ _ _ _ _ _ _ (eqA K rfl hr.units) (@pe_ix _ _ _ _ _ _ _ (ixA K rfl) (@pv _ 10 _ _ (by rfl) (by first | exact Or.inl rfl | exact Or.inr (Or.inl rfl) | exact Or.inr (Or.inr rfl)) (by decide) (by decide)) pe_int (fun _ _ => rfl)) pe_str (nomark _)) (dt_test (de_eq (de_ix (de_var 10) (de_int 0)) (de_str "never"))) ?_ ?_
      · skip
        refine cs_one ?_
        exact cs_leaf (@ps_expr _ _ _ _ (@pe_bm _ _ _ _ _ _ _ _ _ _ _ _ PySem.F.plainAttrs_list PySem.F.slot_list_append PySem.F.type_list_append mt_append (@pe_ix _ _ _ _ _ _ _ (ixA K rfl) (@pv _ 10 _ _ (by rfl) (by first | exact Or.inl rfl | exact Or.inr (Or.inl rfl) | exact Or.inr (Or.inr rfl)) (by decide) (by decide)) pe_int (fun _ _ => rfl)) (@pa_cons _ _ _ _ _ pe_int pa_nil (by rfl)) (by rfl) (by rfl) (by rfl) (by rfl) (by rfl)) (by rfl)) (ds_app (dp_ix (R := RF) (dp_name 10) (de_int 1)) (da_cons (de_int 0) da_nil)) (by decide)
      · skip
        exact cs_nil
    refine cs_one ?_
    refine cs_if (@pt_cmpR _ _ _ _ _ _ _ _ (neA K rfl hr.units) (@pe_callX _ _ _ _ _ _ _ _ _ _ _ _ _ _ g_joins hr (by rfl) T.joins_g T.joins.kp T.joins_b hx (@pa_cons _ _ _ _ _ (@pv _ 2 _ _ (by rfl) (by first | exact Or.inl rfl | exact Or.inr (Or.inl rfl) | exact Or.inr (Or.inr rfl)) (by decide) (by decide)) (@pa_cons _ _ _ _ _ (@pv _ 6 _ _ (by rfl) (by first | exact Or.inl rfl | exact Or.inr (Or.inl rfl) | exact Or.inr (Or.inr rfl)) (by decide) (by decide)) pa_nil (by rfl)) (by rfl)) (by decide) (by rfl) (by rfl)) (@pv _ 9 _ _ (by rfl) (by first | exact Or.inl rfl | exact Or.inr (Or.inl rfl) | exact Or.inr (Or.inr rfl)) (by decide) (by decide)) (nomark _)) (dt_test (de_ne (de_callX (F := F_joins) (da_cons (de_var 2) (da_cons (de_var 6) da_nil))) (de_var 9))) ?_ ?_
    · skip
      refine cs_one ?_
      exact cs_leaf (@ps_ret _ _ _ _ pe_bl) (ds_ret (de_bl false)) (by decide)
    · skip
      exact cs_nil
  refine cs_one ?_
  exact cs_leaf (@ps_ret _ _ _ _ pe_bl) (ds_ret (de_bl true)) (by decide)
end
end K33
set_option Elab.async false
set_option linter.all false
set_option maxRecDepth 100000
set_option maxHeartbeats 4000000
namespace K33
open PySem L2
theorem all_mk {K : PySem.W.Frag} {h : Heap} {mg : Str → Option Value} (X : K.In h) (G : h.Ns mainGlobals mg) {q : Program}
    {f0 : Addr} {oc0 kV0 dc0 pm0 cd0 ct0 : Value} {od0 an0 : Option Addr} {sl0 : Array (Option Value)}
    {f1 : Addr} {oc1 kV1 dc1 pm1 cd1 ct1 : Value} {od1 an1 : Option Addr} {sl1 : Array (Option Value)}
    {f2 : Addr} {oc2 kV2 dc2 pm2 cd2 ct2 : Value} {od2 an2 : Option Addr} {sl2 : Array (Option Value)}
    {f3 : Addr} {oc3 kV3 dc3 pm3 cd3 ct3 : Value} {od3 an3 : Option Addr} {sl3 : Array (Option Value)}
    {f4 : Addr} {oc4 kV4 dc4 pm4 cd4 ct4 : Value} {od4 an4 : Option Addr} {sl4 : Array (Option Value)}
    {f5 : Addr} {oc5 kV5 dc5 pm5 cd5 ct5 : Value} {od5 an5 : Option Addr} {sl5 : Array (Option Value)}
    {f6 : Addr} {oc6 kV6 dc6 pm6 cd6 ct6 : Value} {od6 an6 : Option Addr} {sl6 : Array (Option Value)}
    {f7 : Addr} {oc7 kV7 dc7 pm7 cd7 ct7 : Value} {od7 an7 : Option Addr} {sl7 : Array (Option Value)}
    {f8 : Addr} {oc8 kV8 dc8 pm8 cd8 ct8 : Value} {od8 an8 : Option Addr} {sl8 : Array (Option Value)}
    {f9 : Addr} {oc9 kV9 dc9 pm9 cd9 ct9 : Value} {od9 an9 : Option Addr} {sl9 : Array (Option Value)}
    {f10 : Addr} {oc10 kV10 dc10 pm10 cd10 ct10 : Value} {od10 an10 : Option Addr} {sl10 : Array (Option Value)}
    {f11 : Addr} {oc11 kV11 dc11 pm11 cd11 ct11 : Value} {od11 an11 : Option Addr} {sl11 : Array (Option Value)}
    {f12 : Addr} {oc12 kV12 dc12 pm12 cd12 ct12 : Value} {od12 an12 : Option Addr} {sl12 : Array (Option Value)}
    {f13 : Addr} {oc13 kV13 dc13 pm13 cd13 ct13 : Value} {od13 an13 : Option Addr} {sl13 : Array (Option Value)}
    {f14 : Addr} {oc14 kV14 dc14 pm14 cd14 ct14 : Value} {od14 an14 : Option Addr} {sl14 : Array (Option Value)}
    {f15 : Addr} {oc15 kV15 dc15 pm15 cd15 ct15 : Value} {od15 an15 : Option Addr} {sl15 : Array (Option Value)}
    {f16 : Addr} {oc16 kV16 dc16 pm16 cd16 ct16 : Value} {od16 an16 : Option Addr} {sl16 : Array (Option Value)}
    {f17 : Addr} {oc17 kV17 dc17 pm17 cd17 ct17 : Value} {od17 an17 : Option Addr} {sl17 : Array (Option Value)}
    {f18 : Addr} {oc18 kV18 dc18 pm18 cd18 ct18 : Value} {od18 an18 : Option Addr} {sl18 : Array (Option Value)}
    {f19 : Addr} {oc19 kV19 dc19 pm19 cd19 ct19 : Value} {od19 an19 : Option Addr} {sl19 : Array (Option Value)} {xa_NoWord : Addr} (TB : TabsOf q mg h) (x_NoWord : PySem.W.nsIn K mainGlobals "NoWord" = some (some (.ref xa_NoWord))) (xq : (xNs K [0] && xB K [0]) = true) 
    (a0 : PySem.W.nsIn K mainGlobals "_law_form" = some (some (.ref f0))) (l0 : K.lookup f0 = some ⟨oc0, od0, .func (PySem.W.fnOf "_law_form" "_law_form" (defArgs s_law_form) (defBody s_law_form) (defScope s_law_form) .none kV0 dc0 pm0 an0 cd0 ct0), sl0⟩) (c0 : PySem.W.codeIn K cd0 "_law_form" = true)
    (a1 : PySem.W.nsIn K mainGlobals "_law_stir" = some (some (.ref f1))) (l1 : K.lookup f1 = some ⟨oc1, od1, .func (PySem.W.fnOf "_law_stir" "_law_stir" (defArgs s_law_stir) (defBody s_law_stir) (defScope s_law_stir) .none kV1 dc1 pm1 an1 cd1 ct1), sl1⟩) (c1 : PySem.W.codeIn K cd1 "_law_stir" = true)
    (a2 : PySem.W.nsIn K mainGlobals "_law_drawn" = some (some (.ref f2))) (l2 : K.lookup f2 = some ⟨oc2, od2, .func (PySem.W.fnOf "_law_drawn" "_law_drawn" (defArgs s_law_drawn) (defBody s_law_drawn) (defScope s_law_drawn) .none kV2 dc2 pm2 an2 cd2 ct2), sl2⟩) (c2 : PySem.W.codeIn K cd2 "_law_drawn" = true)
    (a3 : PySem.W.nsIn K mainGlobals "_law_cell_at" = some (some (.ref f3))) (l3 : K.lookup f3 = some ⟨oc3, od3, .func (PySem.W.fnOf "_law_cell_at" "_law_cell_at" (defArgs s_law_cell_at) (defBody s_law_cell_at) (defScope s_law_cell_at) .none kV3 dc3 pm3 an3 cd3 ct3), sl3⟩) (c3 : PySem.W.codeIn K cd3 "_law_cell_at" = true)
    (a4 : PySem.W.nsIn K mainGlobals "_law_words" = some (some (.ref f4))) (l4 : K.lookup f4 = some ⟨oc4, od4, .func (PySem.W.fnOf "_law_words" "_law_words" (defArgs s_law_words) (defBody s_law_words) (defScope s_law_words) .none kV4 dc4 pm4 an4 cd4 ct4), sl4⟩) (c4 : PySem.W.codeIn K cd4 "_law_words" = true)
    (a5 : PySem.W.nsIn K mainGlobals "_law_levels" = some (some (.ref f5))) (l5 : K.lookup f5 = some ⟨oc5, od5, .func (PySem.W.fnOf "_law_levels" "_law_levels" (defArgs s_law_levels) (defBody s_law_levels) (defScope s_law_levels) .none kV5 dc5 pm5 an5 cd5 ct5), sl5⟩) (c5 : PySem.W.codeIn K cd5 "_law_levels" = true)
    (a6 : PySem.W.nsIn K mainGlobals "is_whole" = some (some (.ref f6))) (l6 : K.lookup f6 = some ⟨oc6, od6, .func (PySem.W.fnOf "is_whole" "is_whole" (defArgs s_is_whole) (defBody s_is_whole) (defScope s_is_whole) .none kV6 dc6 pm6 an6 cd6 ct6), sl6⟩) (c6 : PySem.W.codeIn K cd6 "is_whole" = true)
    (a7 : PySem.W.nsIn K mainGlobals "is_word" = some (some (.ref f7))) (l7 : K.lookup f7 = some ⟨oc7, od7, .func (PySem.W.fnOf "is_word" "is_word" (defArgs s_is_word) (defBody s_is_word) (defScope s_is_word) .none kV7 dc7 pm7 an7 cd7 ct7), sl7⟩) (c7 : PySem.W.codeIn K cd7 "is_word" = true)
    (a8 : PySem.W.nsIn K mainGlobals "check_level" = some (some (.ref f8))) (l8 : K.lookup f8 = some ⟨oc8, od8, .func (PySem.W.fnOf "check_level" "check_level" (defArgs s_check_level) (defBody s_check_level) (defScope s_check_level) .none kV8 dc8 pm8 an8 cd8 ct8), sl8⟩) (c8 : PySem.W.codeIn K cd8 "check_level" = true)
    (a9 : PySem.W.nsIn K mainGlobals "levels_of" = some (some (.ref f9))) (l9 : K.lookup f9 = some ⟨oc9, od9, .func (PySem.W.fnOf "levels_of" "levels_of" (defArgs s_levels_of) (defBody s_levels_of) (defScope s_levels_of) .none kV9 dc9 pm9 an9 cd9 ct9), sl9⟩) (c9 : PySem.W.codeIn K cd9 "levels_of" = true)
    (a10 : PySem.W.nsIn K mainGlobals "round_levels" = some (some (.ref f10))) (l10 : K.lookup f10 = some ⟨oc10, od10, .func (PySem.W.fnOf "round_levels" "round_levels" (defArgs s_round_levels) (defBody s_round_levels) (defScope s_round_levels) .none kV10 dc10 pm10 an10 cd10 ct10), sl10⟩) (c10 : PySem.W.codeIn K cd10 "round_levels" = true)
    (a11 : PySem.W.nsIn K mainGlobals "start_from" = some (some (.ref f11))) (l11 : K.lookup f11 = some ⟨oc11, od11, .func (PySem.W.fnOf "start_from" "start_from" (defArgs s_start_from) (defBody s_start_from) (defScope s_start_from) .none kV11 dc11 pm11 an11 cd11 ct11), sl11⟩) (c11 : PySem.W.codeIn K cd11 "start_from" = true)
    (a12 : PySem.W.nsIn K mainGlobals "least_first" = some (some (.ref f12))) (l12 : K.lookup f12 = some ⟨oc12, od12, .func (PySem.W.fnOf "least_first" "least_first" (defArgs s_least_first) (defBody s_least_first) (defScope s_least_first) .none kV12 dc12 pm12 an12 cd12 ct12), sl12⟩) (c12 : PySem.W.codeIn K cd12 "least_first" = true)
    (a13 : PySem.W.nsIn K mainGlobals "join_at" = some (some (.ref f13))) (l13 : K.lookup f13 = some ⟨oc13, od13, .func (PySem.W.fnOf "join_at" "join_at" (defArgs s_join_at) (defBody s_join_at) (defScope s_join_at) .none kV13 dc13 pm13 an13 cd13 ct13), sl13⟩) (c13 : PySem.W.codeIn K cd13 "join_at" = true)
    (a14 : PySem.W.nsIn K mainGlobals "size_of" = some (some (.ref f14))) (l14 : K.lookup f14 = some ⟨oc14, od14, .func (PySem.W.fnOf "size_of" "size_of" (defArgs s_size_of) (defBody s_size_of) (defScope s_size_of) .none kV14 dc14 pm14 an14 cd14 ct14), sl14⟩) (c14 : PySem.W.codeIn K cd14 "size_of" = true)
    (a15 : PySem.W.nsIn K mainGlobals "joins" = some (some (.ref f15))) (l15 : K.lookup f15 = some ⟨oc15, od15, .func (PySem.W.fnOf "joins" "joins" (defArgs s_joins) (defBody s_joins) (defScope s_joins) .none kV15 dc15 pm15 an15 cd15 ct15), sl15⟩) (c15 : PySem.W.codeIn K cd15 "joins" = true)
    (a16 : PySem.W.nsIn K mainGlobals "_law_begin_from" = some (some (.ref f16))) (l16 : K.lookup f16 = some ⟨oc16, od16, .func (PySem.W.fnOf "_law_begin_from" "_law_begin_from" (defArgs s_law_begin_from) (defBody s_law_begin_from) (defScope s_law_begin_from) .none kV16 dc16 pm16 an16 cd16 ct16), sl16⟩) (c16 : PySem.W.codeIn K cd16 "_law_begin_from" = true)
    (a17 : PySem.W.nsIn K mainGlobals "_law_join" = some (some (.ref f17))) (l17 : K.lookup f17 = some ⟨oc17, od17, .func (PySem.W.fnOf "_law_join" "_law_join" (defArgs s_law_join) (defBody s_law_join) (defScope s_law_join) .none kV17 dc17 pm17 an17 cd17 ct17), sl17⟩) (c17 : PySem.W.codeIn K cd17 "_law_join" = true)
    (a18 : PySem.W.nsIn K mainGlobals "_law_whole" = some (some (.ref f18))) (l18 : K.lookup f18 = some ⟨oc18, od18, .func (PySem.W.fnOf "_law_whole" "_law_whole" (defArgs s_law_whole) (defBody s_law_whole) (defScope s_law_whole) .none kV18 dc18 pm18 an18 cd18 ct18), sl18⟩) (c18 : PySem.W.codeIn K cd18 "_law_whole" = true)
    (a19 : PySem.W.nsIn K mainGlobals "law" = some (some (.ref f19))) (l19 : K.lookup f19 = some ⟨oc19, od19, .func (PySem.W.fnOf "law" "law" (defArgs s_law) (defBody s_law) (defScope s_law) .none kV19 dc19 pm19 an19 cd19 ct19), sl19⟩) (c19 : PySem.W.codeIn K cd19 "law" = true)
    (z_bool : PySem.W.nsIn K mainGlobals "bool" = some none)
    (z_int : PySem.W.nsIn K mainGlobals "int" = some none)
    (z_isinstance : PySem.W.nsIn K mainGlobals "isinstance" = some none)
    (z_len : PySem.W.nsIn K mainGlobals "len" = some none)
    (z_list : PySem.W.nsIn K mainGlobals "list" = some none)
    (z_min : PySem.W.nsIn K mainGlobals "min" = some none)
    (z_range : PySem.W.nsIn K mainGlobals "range" = some none)
    (z_sum : PySem.W.nsIn K mainGlobals "sum" = some none)
    (z_tuple : PySem.W.nsIn K mainGlobals "tuple" = some none) : ∃ t : Adr, TabH h [] ∧ ∀ base : Heap, BltOk base mg → Txt (minusK K []) mg base t := by
  have TK : TabH h [] := by
    intro P hP
    simp at hP
  exact ⟨⟨f0, PySem.W.fnOf "_law_form" "_law_form" (defArgs s_law_form) (defBody s_law_form) (defScope s_law_form) .none kV0 dc0 pm0 an0 cd0 ct0, f1, PySem.W.fnOf "_law_stir" "_law_stir" (defArgs s_law_stir) (defBody s_law_stir) (defScope s_law_stir) .none kV1 dc1 pm1 an1 cd1 ct1, f2, PySem.W.fnOf "_law_drawn" "_law_drawn" (defArgs s_law_drawn) (defBody s_law_drawn) (defScope s_law_drawn) .none kV2 dc2 pm2 an2 cd2 ct2, f3, PySem.W.fnOf "_law_cell_at" "_law_cell_at" (defArgs s_law_cell_at) (defBody s_law_cell_at) (defScope s_law_cell_at) .none kV3 dc3 pm3 an3 cd3 ct3, f4, PySem.W.fnOf "_law_words" "_law_words" (defArgs s_law_words) (defBody s_law_words) (defScope s_law_words) .none kV4 dc4 pm4 an4 cd4 ct4, f5, PySem.W.fnOf "_law_levels" "_law_levels" (defArgs s_law_levels) (defBody s_law_levels) (defScope s_law_levels) .none kV5 dc5 pm5 an5 cd5 ct5, f6, PySem.W.fnOf "is_whole" "is_whole" (defArgs s_is_whole) (defBody s_is_whole) (defScope s_is_whole) .none kV6 dc6 pm6 an6 cd6 ct6, f7, PySem.W.fnOf "is_word" "is_word" (defArgs s_is_word) (defBody s_is_word) (defScope s_is_word) .none kV7 dc7 pm7 an7 cd7 ct7, f8, PySem.W.fnOf "check_level" "check_level" (defArgs s_check_level) (defBody s_check_level) (defScope s_check_level) .none kV8 dc8 pm8 an8 cd8 ct8, f9, PySem.W.fnOf "levels_of" "levels_of" (defArgs s_levels_of) (defBody s_levels_of) (defScope s_levels_of) .none kV9 dc9 pm9 an9 cd9 ct9, f10, PySem.W.fnOf "round_levels" "round_levels" (defArgs s_round_levels) (defBody s_round_levels) (defScope s_round_levels) .none kV10 dc10 pm10 an10 cd10 ct10, f11, PySem.W.fnOf "start_from" "start_from" (defArgs s_start_from) (defBody s_start_from) (defScope s_start_from) .none kV11 dc11 pm11 an11 cd11 ct11, f12, PySem.W.fnOf "least_first" "least_first" (defArgs s_least_first) (defBody s_least_first) (defScope s_least_first) .none kV12 dc12 pm12 an12 cd12 ct12, f13, PySem.W.fnOf "join_at" "join_at" (defArgs s_join_at) (defBody s_join_at) (defScope s_join_at) .none kV13 dc13 pm13 an13 cd13 ct13, f14, PySem.W.fnOf "size_of" "size_of" (defArgs s_size_of) (defBody s_size_of) (defScope s_size_of) .none kV14 dc14 pm14 an14 cd14 ct14, f15, PySem.W.fnOf "joins" "joins" (defArgs s_joins) (defBody s_joins) (defScope s_joins) .none kV15 dc15 pm15 an15 cd15 ct15, f16, PySem.W.fnOf "_law_begin_from" "_law_begin_from" (defArgs s_law_begin_from) (defBody s_law_begin_from) (defScope s_law_begin_from) .none kV16 dc16 pm16 an16 cd16 ct16, f17, PySem.W.fnOf "_law_join" "_law_join" (defArgs s_law_join) (defBody s_law_join) (defScope s_law_join) .none kV17 dc17 pm17 an17 cd17 ct17, f18, PySem.W.fnOf "_law_whole" "_law_whole" (defArgs s_law_whole) (defBody s_law_whole) (defScope s_law_whole) .none kV18 dc18 pm18 an18 cd18 ct18, f19, PySem.W.fnOf "law" "law" (defArgs s_law) (defBody s_law) (defScope s_law) .none kV19 dc19 pm19 an19 cd19 ct19⟩, TK, fun base B => ⟨fun_mk (minus_of l0 (not_tab X TK l0 (by intro z; cases z))) (codeIn_minus X TK c0) (keepIn_minus (minus_of l0 (not_tab X TK l0 (by intro z; cases z)))),
    (fun_mk (st := s_law_form) (minus_of l0 (not_tab X TK l0 (by intro z; cases z))) (codeIn_minus X TK c0) (keepIn_minus (minus_of l0 (not_tab X TK l0 (by intro z; cases z))))).binds (ps := ["number"]) fun _ _ _ _ _ _ us hl => match us, hl with | [_], _ => rfl,
    PySem.W.mg_of X G a0,
    fun_mk (minus_of l1 (not_tab X TK l1 (by intro z; cases z))) (codeIn_minus X TK c1) (keepIn_minus (minus_of l1 (not_tab X TK l1 (by intro z; cases z)))),
    (fun_mk (st := s_law_stir) (minus_of l1 (not_tab X TK l1 (by intro z; cases z))) (codeIn_minus X TK c1) (keepIn_minus (minus_of l1 (not_tab X TK l1 (by intro z; cases z))))).binds (ps := ["cell", "k"]) fun _ _ _ _ _ _ us hl => match us, hl with | [_, _], _ => rfl,
    PySem.W.mg_of X G a1,
    fun_mk (minus_of l2 (not_tab X TK l2 (by intro z; cases z))) (codeIn_minus X TK c2) (keepIn_minus (minus_of l2 (not_tab X TK l2 (by intro z; cases z)))),
    (fun_mk (st := s_law_drawn) (minus_of l2 (not_tab X TK l2 (by intro z; cases z))) (codeIn_minus X TK c2) (keepIn_minus (minus_of l2 (not_tab X TK l2 (by intro z; cases z))))).binds (ps := ["cell", "sizes"]) fun _ _ _ _ _ _ us hl => match us, hl with | [_, _], _ => rfl,
    PySem.W.mg_of X G a2,
    fun_mk (minus_of l3 (not_tab X TK l3 (by intro z; cases z))) (codeIn_minus X TK c3) (keepIn_minus (minus_of l3 (not_tab X TK l3 (by intro z; cases z)))),
    (fun_mk (st := s_law_cell_at) (minus_of l3 (not_tab X TK l3 (by intro z; cases z))) (codeIn_minus X TK c3) (keepIn_minus (minus_of l3 (not_tab X TK l3 (by intro z; cases z))))).binds (ps := ["script", "k"]) fun _ _ _ _ _ _ us hl => match us, hl with | [_, _], _ => rfl,
    PySem.W.mg_of X G a3,
    fun_mk (minus_of l4 (not_tab X TK l4 (by intro z; cases z))) (codeIn_minus X TK c4) (keepIn_minus (minus_of l4 (not_tab X TK l4 (by intro z; cases z)))),
    (fun_mk (st := s_law_words) (minus_of l4 (not_tab X TK l4 (by intro z; cases z))) (codeIn_minus X TK c4) (keepIn_minus (minus_of l4 (not_tab X TK l4 (by intro z; cases z))))).binds (ps := ["form", "cell"]) fun _ _ _ _ _ _ us hl => match us, hl with | [_, _], _ => rfl,
    PySem.W.mg_of X G a4,
    fun_mk (minus_of l5 (not_tab X TK l5 (by intro z; cases z))) (codeIn_minus X TK c5) (keepIn_minus (minus_of l5 (not_tab X TK l5 (by intro z; cases z)))),
    (fun_mk (st := s_law_levels) (minus_of l5 (not_tab X TK l5 (by intro z; cases z))) (codeIn_minus X TK c5) (keepIn_minus (minus_of l5 (not_tab X TK l5 (by intro z; cases z))))).binds (ps := ["form", "word"]) fun _ _ _ _ _ _ us hl => match us, hl with | [_, _], _ => rfl,
    PySem.W.mg_of X G a5,
    fun_mk (minus_of l6 (not_tab X TK l6 (by intro z; cases z))) (codeIn_minus X TK c6) (keepIn_minus (minus_of l6 (not_tab X TK l6 (by intro z; cases z)))),
    (fun_mk (st := s_is_whole) (minus_of l6 (not_tab X TK l6 (by intro z; cases z))) (codeIn_minus X TK c6) (keepIn_minus (minus_of l6 (not_tab X TK l6 (by intro z; cases z))))).binds (ps := ["thing"]) fun _ _ _ _ _ _ us hl => match us, hl with | [_], _ => rfl,
    PySem.W.mg_of X G a6,
    fun_mk (minus_of l7 (not_tab X TK l7 (by intro z; cases z))) (codeIn_minus X TK c7) (keepIn_minus (minus_of l7 (not_tab X TK l7 (by intro z; cases z)))),
    (fun_mk (st := s_is_word) (minus_of l7 (not_tab X TK l7 (by intro z; cases z))) (codeIn_minus X TK c7) (keepIn_minus (minus_of l7 (not_tab X TK l7 (by intro z; cases z))))).binds (ps := ["form", "thing"]) fun _ _ _ _ _ _ us hl => match us, hl with | [_, _], _ => rfl,
    PySem.W.mg_of X G a7,
    fun_mk (minus_of l8 (not_tab X TK l8 (by intro z; cases z))) (codeIn_minus X TK c8) (keepIn_minus (minus_of l8 (not_tab X TK l8 (by intro z; cases z)))),
    (fun_mk (st := s_check_level) (minus_of l8 (not_tab X TK l8 (by intro z; cases z))) (codeIn_minus X TK c8) (keepIn_minus (minus_of l8 (not_tab X TK l8 (by intro z; cases z))))).binds (ps := ["check", "told"]) fun _ _ _ _ _ _ us hl => match us, hl with | [_, _], _ => rfl,
    PySem.W.mg_of X G a8,
    fun_mk (minus_of l9 (not_tab X TK l9 (by intro z; cases z))) (codeIn_minus X TK c9) (keepIn_minus (minus_of l9 (not_tab X TK l9 (by intro z; cases z)))),
    (fun_mk (st := s_levels_of) (minus_of l9 (not_tab X TK l9 (by intro z; cases z))) (codeIn_minus X TK c9) (keepIn_minus (minus_of l9 (not_tab X TK l9 (by intro z; cases z))))).binds (ps := ["form", "word"]) fun _ _ _ _ _ _ us hl => match us, hl with | [_, _], _ => rfl,
    PySem.W.mg_of X G a9,
    fun_mk (minus_of l10 (not_tab X TK l10 (by intro z; cases z))) (codeIn_minus X TK c10) (keepIn_minus (minus_of l10 (not_tab X TK l10 (by intro z; cases z)))),
    (fun_mk (st := s_round_levels) (minus_of l10 (not_tab X TK l10 (by intro z; cases z))) (codeIn_minus X TK c10) (keepIn_minus (minus_of l10 (not_tab X TK l10 (by intro z; cases z))))).binds (ps := ["form", "words"]) fun _ _ _ _ _ _ us hl => match us, hl with | [_, _], _ => rfl,
    PySem.W.mg_of X G a10,
    fun_mk (minus_of l11 (not_tab X TK l11 (by intro z; cases z))) (codeIn_minus X TK c11) (keepIn_minus (minus_of l11 (not_tab X TK l11 (by intro z; cases z)))),
    (fun_mk (st := s_start_from) (minus_of l11 (not_tab X TK l11 (by intro z; cases z))) (codeIn_minus X TK c11) (keepIn_minus (minus_of l11 (not_tab X TK l11 (by intro z; cases z))))).binds (ps := ["levels", "place", "ahead"]) fun _ _ _ _ _ _ us hl => match us, hl with | [_, _, _], _ => rfl,
    PySem.W.mg_of X G a11,
    fun_mk (minus_of l12 (not_tab X TK l12 (by intro z; cases z))) (codeIn_minus X TK c12) (keepIn_minus (minus_of l12 (not_tab X TK l12 (by intro z; cases z)))),
    (fun_mk (st := s_least_first) (minus_of l12 (not_tab X TK l12 (by intro z; cases z))) (codeIn_minus X TK c12) (keepIn_minus (minus_of l12 (not_tab X TK l12 (by intro z; cases z))))).binds (ps := ["ring"]) fun _ _ _ _ _ _ us hl => match us, hl with | [_], _ => rfl,
    PySem.W.mg_of X G a12,
    fun_mk (minus_of l13 (not_tab X TK l13 (by intro z; cases z))) (codeIn_minus X TK c13) (keepIn_minus (minus_of l13 (not_tab X TK l13 (by intro z; cases z)))),
    (fun_mk (st := s_join_at) (minus_of l13 (not_tab X TK l13 (by intro z; cases z))) (codeIn_minus X TK c13) (keepIn_minus (minus_of l13 (not_tab X TK l13 (by intro z; cases z))))).binds (ps := ["levels", "size", "place"]) fun _ _ _ _ _ _ us hl => match us, hl with | [_, _, _], _ => rfl,
    PySem.W.mg_of X G a13,
    fun_mk (minus_of l14 (not_tab X TK l14 (by intro z; cases z))) (codeIn_minus X TK c14) (keepIn_minus (minus_of l14 (not_tab X TK l14 (by intro z; cases z)))),
    (fun_mk (st := s_size_of) (minus_of l14 (not_tab X TK l14 (by intro z; cases z))) (codeIn_minus X TK c14) (keepIn_minus (minus_of l14 (not_tab X TK l14 (by intro z; cases z))))).binds (ps := ["form"]) fun _ _ _ _ _ _ us hl => match us, hl with | [_], _ => rfl,
    PySem.W.mg_of X G a14,
    fun_mk (minus_of l15 (not_tab X TK l15 (by intro z; cases z))) (codeIn_minus X TK c15) (keepIn_minus (minus_of l15 (not_tab X TK l15 (by intro z; cases z)))),
    (fun_mk (st := s_joins) (minus_of l15 (not_tab X TK l15 (by intro z; cases z))) (codeIn_minus X TK c15) (keepIn_minus (minus_of l15 (not_tab X TK l15 (by intro z; cases z))))).binds (ps := ["form", "words"]) fun _ _ _ _ _ _ us hl => match us, hl with | [_, _], _ => rfl,
    PySem.W.mg_of X G a15,
    fun_mk (minus_of l16 (not_tab X TK l16 (by intro z; cases z))) (codeIn_minus X TK c16) (keepIn_minus (minus_of l16 (not_tab X TK l16 (by intro z; cases z)))),
    (fun_mk (st := s_law_begin_from) (minus_of l16 (not_tab X TK l16 (by intro z; cases z))) (codeIn_minus X TK c16) (keepIn_minus (minus_of l16 (not_tab X TK l16 (by intro z; cases z))))).binds (ps := ["levels", "place", "ahead"]) fun _ _ _ _ _ _ us hl => match us, hl with | [_, _, _], _ => rfl,
    PySem.W.mg_of X G a16,
    fun_mk (minus_of l17 (not_tab X TK l17 (by intro z; cases z))) (codeIn_minus X TK c17) (keepIn_minus (minus_of l17 (not_tab X TK l17 (by intro z; cases z)))),
    (fun_mk (st := s_law_join) (minus_of l17 (not_tab X TK l17 (by intro z; cases z))) (codeIn_minus X TK c17) (keepIn_minus (minus_of l17 (not_tab X TK l17 (by intro z; cases z))))).binds (ps := ["levels", "size", "come"]) fun _ _ _ _ _ _ us hl => match us, hl with | [_, _, _], _ => rfl,
    PySem.W.mg_of X G a17,
    fun_mk (minus_of l18 (not_tab X TK l18 (by intro z; cases z))) (codeIn_minus X TK c18) (keepIn_minus (minus_of l18 (not_tab X TK l18 (by intro z; cases z)))),
    (fun_mk (st := s_law_whole) (minus_of l18 (not_tab X TK l18 (by intro z; cases z))) (codeIn_minus X TK c18) (keepIn_minus (minus_of l18 (not_tab X TK l18 (by intro z; cases z))))).binds (ps := ["thing"]) fun _ _ _ _ _ _ us hl => match us, hl with | [_], _ => rfl,
    PySem.W.mg_of X G a18,
    fun_mk (minus_of l19 (not_tab X TK l19 (by intro z; cases z))) (codeIn_minus X TK c19) (keepIn_minus (minus_of l19 (not_tab X TK l19 (by intro z; cases z)))),
    (fun_mk (st := s_law) (minus_of l19 (not_tab X TK l19 (by intro z; cases z))) (codeIn_minus X TK c19) (keepIn_minus (minus_of l19 (not_tab X TK l19 (by intro z; cases z))))).binds (ps := ["script"]) fun _ _ _ _ _ _ us hl => match us, hl with | [_], _ => rfl,
    PySem.W.mg_of X G a19,
    B,
    PySem.W.mg_none_of X G z_bool,
    PySem.W.mg_none_of X G z_int,
    PySem.W.mg_none_of X G z_isinstance,
    PySem.W.mg_none_of X G z_len,
    PySem.W.mg_none_of X G z_list,
    PySem.W.mg_none_of X G z_min,
    PySem.W.mg_none_of X G z_range,
    PySem.W.mg_none_of X G z_sum,
    PySem.W.mg_none_of X G z_tuple,
    x_glob X TK G 0 x_NoWord, xB_minus X TK xq,
    fun s v => .of_eq rfl⟩⟩
theorem fin {P : Program} {w : World} {K : PySem.W.Frag} {h : Heap} {mg : Str → Option Value} {fa : Addr} (hmg : mg "law" = some (.ref fa)) (e : ∃ t : Adr, TabH h [] ∧ ∀ base : Heap, BltOk base mg → Txt (minusK K []) mg base t) (B : BltOk h mg) :
    ∃ (fd : FuncData) (tabs : List Addr), (∀ (s : Shared) (v : Value), BindsTo s fd ⟨[v], []⟩ [("script", v)]) ∧ TabH h tabs ∧ ∀ base : Heap, (minusK K tabs).In base → base.Ns mainGlobals mg → BltOk base mg → FnOk P w (minusK K tabs) mg base CX0 6 fa fd ["script"] (spLawD (minusK K tabs) tabs) := by
  obtain ⟨t, TK, T⟩ := e
  have e := hmg.symm.trans (T h B).law_g
  cases e
  exact ⟨t.law_d, [], (T h B).law_bt, TK, fun base _ _ B' => (ok_law (T base B')).quiet fun vs H Q E h => law_sp law_true h⟩
end K33
open PySem PySem.W PyProof.Rows
set_option maxRecDepth 100000 in
set_option maxHeartbeats 0 in
theorem PySem.Challenge.cw_barewire_k33_joins_walked_holds : PySem.Challenge.rw_barewire_k33_joins_walked.Holds := by
  w_on; o_law; k_head; (case hw => w_witness2)
  k_fill
  refine L2.walk_ofD (l := PySem.Challenge.rw_barewire_k33_joins_walked) (k := 6) (x := "script") rfl rfl ⟨rfl, by decide, by decide⟩ (fun w h Y => PySem.W.kIn_of Y) ?F
  case F =>
    intro w mg fa h KX G TB BM hmg
    refine' K33.fin hmg (K33.all_mk KX G TB ?x_NoWord ?xq ?a0 ?l0 ?c0 ?a1 ?l1 ?c1 ?a2 ?l2 ?c2 ?a3 ?l3 ?c3 ?a4 ?l4 ?c4 ?a5 ?l5 ?c5 ?a6 ?l6 ?c6 ?a7 ?l7 ?c7 ?a8 ?l8 ?c8 ?a9 ?l9 ?c9 ?a10 ?l10 ?c10 ?a11 ?l11 ?c11 ?a12 ?l12 ?c12 ?a13 ?l13 ?c13 ?a14 ?l14 ?c14 ?a15 ?l15 ?c15 ?a16 ?l16 ?c16 ?a17 ?l17 ?c17 ?a18 ?l18 ?c18 ?a19 ?l19 ?c19 ?z_bool ?z_int ?z_isinstance ?z_len ?z_list ?z_min ?z_range ?z_sum ?z_tuple) BM
    (case a0 => k_is)
    (case l0 => k_is)
    (case c0 => k_is)
    (case a1 => k_is)
    (case l1 => k_is)
    (case c1 => k_is)
    (case a2 => k_is)
    (case l2 => k_is)
    (case c2 => k_is)
    (case a3 => k_is)
    (case l3 => k_is)
    (case c3 => k_is)
    (case a4 => k_is)
    (case l4 => k_is)
    (case c4 => k_is)
    (case a5 => k_is)
    (case l5 => k_is)
    (case c5 => k_is)
    (case a6 => k_is)
    (case l6 => k_is)
    (case c6 => k_is)
    (case a7 => k_is)
    (case l7 => k_is)
    (case c7 => k_is)
    (case a8 => k_is)
    (case l8 => k_is)
    (case c8 => k_is)
    (case a9 => k_is)
    (case l9 => k_is)
    (case c9 => k_is)
    (case a10 => k_is)
    (case l10 => k_is)
    (case c10 => k_is)
    (case a11 => k_is)
    (case l11 => k_is)
    (case c11 => k_is)
    (case a12 => k_is)
    (case l12 => k_is)
    (case c12 => k_is)
    (case a13 => k_is)
    (case l13 => k_is)
    (case c13 => k_is)
    (case a14 => k_is)
    (case l14 => k_is)
    (case c14 => k_is)
    (case a15 => k_is)
    (case l15 => k_is)
    (case c15 => k_is)
    (case a16 => k_is)
    (case l16 => k_is)
    (case c16 => k_is)
    (case a17 => k_is)
    (case l17 => k_is)
    (case c17 => k_is)
    (case a18 => k_is)
    (case l18 => k_is)
    (case c18 => k_is)
    (case a19 => k_is)
    (case l19 => k_is)
    (case c19 => k_is)
    (case z_bool => k_is)
    (case z_int => k_is)
    (case z_isinstance => k_is)
    (case z_len => k_is)
    (case z_list => k_is)
    (case z_min => k_is)
    (case z_range => k_is)
    (case z_sum => k_is)
    (case z_tuple => k_is)
    (case x_NoWord => k_is)
    (case xq => kernel_rfl)
