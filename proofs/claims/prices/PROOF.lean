import PyProof.Rows.All
import Wide.All
import OpenK.AllK
import Wide.FinOn
import PyProof.EqAt
import PyProof.EqKinds
import PyProof.TupleCall
import KE.BitLaws
import Open.SpecLaws
import KE.OsHead
import KE.OsGo
import KE.KLam
import KE.KMinKey
import PySem.Challenge.RW_bidsets_s03_prices
section
set_option Elab.async false
set_option linter.all false
set_option maxRecDepth 100000
namespace L2
open PySem PySem.Spec PyProof.Rows

abbrev Key := Sum Int Str
def keyIs : Key → Value → Bool
  | .inl k, v => Value.isInt k v
  | .inr x, v => Value.isStrOf x v
def keyH (w : World) : Key → Int
  | .inl k => hashInt k
  | .inr x => hashStr w x
theorem keyIs_shape : ∀ {k : Key} {v : Value}, keyIs k v = true → (∃ i t, k = Sum.inl i ∧ v = Value.int i t) ∨ (∃ x t, k = Sum.inr x ∧ v = Value.str x t)
  | .inl i, v, h => by
    obtain ⟨t, e⟩ := Value.isInt_shape (k := i) (v := v) h
    exact .inl ⟨i, t, rfl, e⟩
  | .inr x, v, h => by
    obtain ⟨t, e⟩ := Value.isStrOf_shape (x := x) (v := v) h
    exact .inr ⟨x, t, rfl, e⟩
theorem key_ll (a b : Int) : decide ((Sum.inl a : Key) = Sum.inl b) = (a == b) := by
  by_cases e : a = b
  · subst e; simp
  · have h : ¬ (Sum.inl a : Key) = Sum.inl b := fun q => e (Sum.inl.inj q)
    rw [decide_eq_false h]
    exact (beq_eq_false_iff_ne.mpr e).symm
theorem key_rr (a b : Str) : decide ((Sum.inr a : Key) = Sum.inr b) = decide (a = b) := by
  by_cases e : a = b
  · subst e; simp
  · have h : ¬ (Sum.inr a : Key) = Sum.inr b := fun q => e (Sum.inr.inj q)
    rw [decide_eq_false h, decide_eq_false e]
theorem key_lr (a : Int) (b : Str) : decide ((Sum.inl a : Key) = Sum.inr b) = false := decide_eq_false (fun q => nomatch q)
theorem key_rl (a : Str) (b : Int) : decide ((Sum.inr a : Key) = Sum.inl b) = false := decide_eq_false (fun q => nomatch q)

def mixKind (prog : Program) (w : World) : PySem.KeyKind prog w Key where
  is := keyIs
  hash := keyH w
  inj := fun v a b ha hb => by
    rcases keyIs_shape ha with ⟨i, t, rfl, rfl⟩ | ⟨x, t, rfl, rfl⟩
    · rcases keyIs_shape hb with ⟨j, u, rfl, e⟩ | ⟨y, u, rfl, e⟩
      · injection e with e1 _; rw [e1]
      · exact nomatch e
    · rcases keyIs_shape hb with ⟨j, u, rfl, e⟩ | ⟨y, u, rfl, e⟩
      · exact nomatch e
      · injection e with e1 _; rw [e1]
  byValue := fun k v h => by
    rcases keyIs_shape h with ⟨i, t, rfl, rfl⟩ | ⟨x, t, rfl, rfl⟩ <;> rfl
  pyHash := fun hv h => by
    rcases keyIs_shape hv with ⟨i, t, rfl, rfl⟩ | ⟨x, t, rfl, rfl⟩
    · exact wpAny_pyHash_int h
    · exact wpAny_pyHash_str h
  eqBool := fun hu hv h => by
    rcases keyIs_shape hu with ⟨i, t, rfl, rfl⟩ | ⟨x, t, rfl, rfl⟩
    · rcases keyIs_shape hv with ⟨j, u, rfl, rfl⟩ | ⟨y, u, rfl, rfl⟩
      · rw [key_ll] at h; exact wpAny_eqBool_int h
      · rw [key_lr] at h; exact SeqAt.EqAt.int_str i t y u _ _ _ _ h
    · rcases keyIs_shape hv with ⟨j, u, rfl, rfl⟩ | ⟨y, u, rfl, rfl⟩
      · rw [key_rl] at h; exact SeqAt.EqAt.str_int x t j u _ _ _ _ h
      · rw [key_rr] at h; exact wpAny_eqBool_str h
  «strs» := fun k x t v h => by
    rcases keyIs_shape h with ⟨i, u, rfl, e⟩ | ⟨y, u, rfl, e⟩
    · exact nomatch e
    · injection e with e1 _
      subst e1
      cases v <;> rfl

end L2

namespace L2
open PySem PySem.Spec PyProof.Rows

inductive V where
  | non | bl (b : Bool) | int (i : Int) | str (x : Str) | byt (b : Array UInt8) | flt (b : UInt64) | ref (a : Addr) | ty (n : String)
  deriving DecidableEq

def RelV : V → Value → Prop
  | .non, u => u = Value.none
  | .bl b, u => u = Value.bool b
  | .int i, u => ∃ t, u = Value.int i t
  | .str x, u => ∃ t, u = Value.str x t
  | .byt b, u => ∃ t, u = Value.bytes b t
  | .flt b, u => ∃ t, u = Value.float b t
  | .ref a, u => u = Value.ref a
  | .ty n, u => u = Value.type n

abbrev Vals : List V → List Value → Prop := Paired RelV
theorem Vals.length {xs : List V} {us : List Value} (r : Vals xs us) : xs.length = us.length := Paired.length r
theorem Vals.get : ∀ {xs : List V} {us : List Value} {i : Nat} {x : V}, Vals xs us → xs[i]? = some x → ∃ u, us[i]? = some u ∧ RelV x u
  | _, _, _, _, .nil, e => by simp at e
  | _, _, 0, _, .cons r _, e => by simp at e; subst e; exact ⟨_, rfl, r⟩
  | _, _, i + 1, x, .cons _ t, e => by
    obtain ⟨u, h1, h2⟩ := Vals.get (i := i) (x := x) t (by simpa using e)
    exact ⟨u, by simpa using h1, h2⟩
theorem Vals.set {x : V} {u : Value} (r : RelV x u) : ∀ {xs : List V} {us : List Value} (i : Nat), Vals xs us → Vals (xs.set i x) (us.set i u)
  | _, _, _, .nil => .nil
  | _, _, 0, .cons _ t => .cons r t
  | _, _, i + 1, .cons q t => .cons q (Vals.set r i t)
theorem Vals.append : ∀ {xs ys : List V} {us ws : List Value}, Vals xs us → Vals ys ws → Vals (xs ++ ys) (us ++ ws)
  | _, _, _, _, .nil, s => s
  | _, _, _, _, .cons r t, s => .cons r (Vals.append t s)
theorem Vals.take : ∀ {xs : List V} {us : List Value} (n : Nat), Vals xs us → Vals (xs.take n) (us.take n)
  | _, _, 0, _ => .nil
  | _, _, _ + 1, .nil => .nil
  | _, _, n + 1, .cons r t => .cons r (Vals.take n t)
theorem Vals.drop : ∀ {xs : List V} {us : List Value} (n : Nat), Vals xs us → Vals (xs.drop n) (us.drop n)
  | _, _, 0, r => r
  | _, _, _ + 1, .nil => .nil
  | _, _, n + 1, .cons _ t => Vals.drop n t
def RelO : Option V → Option Value → Prop
  | some v, some u => RelV v u
  | none, none => True
  | _, _ => False
def KV {κ : Type} : List (κ × V) → List (κ × Value) → Prop := Paired fun (p : κ × V) (q : κ × Value) => p.1 = q.1 ∧ RelV p.2 q.2

def kV : Key → V
  | .inl i => .int i
  | .inr x => .str x

inductive HO where
  /-- a list -/
  | lst (xs : List V)
  /-- a tuple (never changes) -/
  | tup (xs : List V)
  /-- a dict whose keys are ints and texts; one whose keys are tuples of ints and texts (the empty one is both) -/
  | dK (kvs : List (Key × V)) | dT (kvs : List (List Key × V))
  /-- a set of ints: its members, its size -/
  | set (S : Int → Bool) (n : Nat)
  /-- an instance of the class at C, its dict at dx, its attributes -/
  | ins (C dx : Addr) (fs : List (Str × V))
  /-- the dict of the instance at x -/
  | own (x : Addr)
  /-- the dict of an exception -/
  | xd (fs : List (Str × V))
  /-- a bound method, f of x -/
  | met (f x : Addr)
  /-- a range object lo, lo + 1, .. below hi -/
  | rng (lo hi : Int)
  /-- a thing that is known to the object (the script; a dict while a loop walks it): read, never written while it is so -/
  | frz (o : Obj) (u : HO)
  /-- a code object's table -/
  | tbl (ps : Array Value)
  /-- any other thing, by what is true of its one object (a def of one's own: SetO a S n := HO.ext fun h => ..) -/
  | ext (φ : Heap → Prop)

abbrev Hp := Addr → Option HO
def upd (H : Hp) (a : Addr) (o : HO) : Hp := fun b => if b = a then some o else H b
theorem upd_same {H : Hp} {a : Addr} {o : HO} : upd H a o a = some o := by unfold upd; rw [if_pos rfl]
theorem upd_ne {H : Hp} {a b : Addr} {o : HO} (h : b ≠ a) : upd H a o b = H b := by unfold upd; rw [if_neg h]
theorem ne_of {H : Hp} {a b : Addr} {o u : HO} (h : H a = some o) (h' : H b = some u) (d : o ≠ u) : a ≠ b := by
  intro e; subst e; rw [h] at h'; exact d (Option.some.inj h')
theorem ne_of_none {H : Hp} {a b : Addr} {o : HO} (h : H a = some o) (h' : H b = none) : a ≠ b := by
  intro e; subst e; rw [h] at h'; cases h'

section
variable (P : Program) (w : World)
def ObjOk (H : Hp) (h : Heap) (a : Addr) : HO → Prop
  | .lst xs => xs.length ≤ sizeLine ∧ ∃ (its : List Value) (n : Nat), Vals xs its ∧ h.get? a = some { cls := .type "list", data := .seq its.toArray n }
  | .tup xs => xs.length ≤ sizeLine ∧ ∃ its : List Value, Vals xs its ∧ IsTup h a its.toArray
  | .dK kvs => kvs.length ≤ sizeLine ∧ (a == sysModules) = false ∧ ∃ vs, KV kvs vs ∧ h.DictOf (mixKind P w) a vs
  | .dT kvs => kvs.length ≤ sizeLine ∧ (a == sysModules) = false ∧ ∃ xs : List (List Key × Addr × Value),
      Paired (fun (p : List Key × V) (q : List Key × Addr × Value) => p.1 = q.1 ∧ H q.2.1 = some (.tup (p.1.map kV)) ∧ RelV p.2 q.2.2) kvs xs ∧
      ∃ o es ep, h.get? a = some o ∧ o.ExactDict ∧ o.data = .dict es ep ∧ es.toList = xs.map (entryOfKey (tupleKind (mixKind P w))) ∧ (xs.map (·.1)).Nodup
  | .set S n => h.SetOf (intKind P w) a S n
  | .ins C dx fs => H dx = some (.own a) ∧ fs.length ≤ 1000 ∧ dx ≠ a ∧ h.get? a = some (PySem.W.instObj C dx) ∧
      ∃ mA, h.Ns1 dx mA ∧ (∀ f, RelO (fs.lookup f) (mA f)) ∧ PySem.Within mA (fs.map (·.1))
  | .own _ => ∃ o, h.get? a = some o
  | .xd fs => ∃ mA, h.Ns1 a mA ∧ ∀ f, RelO (fs.lookup f) (mA f)
  | .rng lo hi => ∃ t u v, h.get? a = some { cls := .type "range", data := .fields #[.int lo t, .int hi u, .int 1 v] }
  | .frz o u => h.get? a = some o ∧ ObjOk H h a u
  | .tbl ps => h.get? a = some { cls := .none, data := .fields ps }
  | .met f x => h.get? a = some (PySem.W.methodObj (.ref f) (.ref x))
  | .ext φ => φ h ∧ (∃ o, h.get? a = some o) ∧ ∀ h1 h2 : Heap, φ h1 → (∀ o, h1.get? a = some o → h2.get? a = some o) → φ h2
def HOk (H : Hp) (h : Heap) : Prop := ∀ a o, H a = some o → ObjOk P w H h a o
end

section
variable {P : Program} {w : World} {H H' : Hp} {h h' : Heap} {a : Addr} {o : HO}
theorem ObjOk.lt (x : ObjOk P w H h a o) : a < h.objs.size := by
  cases o with
  | lst xs => obtain ⟨_, _, _, _, e⟩ := x; exact Heap.lt_size e
  | tup xs => obtain ⟨_, _, _, p⟩ := x; exact p.lt
  | dK kvs => obtain ⟨_, _, _, _, o, _, _, e, _⟩ := x; exact Heap.lt_size e
  | dT kvs => obtain ⟨_, _, _, _, o, _, _, e, _⟩ := x; exact Heap.lt_size e
  | set S n => obtain ⟨o, _, _, _, e, _⟩ := x; exact Heap.lt_size e
  | ins C dx fs => obtain ⟨_, _, _, e, _⟩ := x; exact Heap.lt_size e
  | own y => obtain ⟨_, e⟩ := x; exact Heap.lt_size e
  | xd fs => obtain ⟨_, ⟨_, _, _, e, _⟩, _⟩ := x; exact Heap.lt_size e
  | rng lo hi => obtain ⟨_, _, _, e⟩ := x; exact Heap.lt_size e
  | frz ob u => obtain ⟨e, _⟩ := x; exact Heap.lt_size e
  | tbl ps => exact Heap.lt_size (show h.get? a = some _ from x)
  | met f y => exact Heap.lt_size (show h.get? a = some _ from x)
  | ext φ => obtain ⟨_, ⟨_, e⟩, _⟩ := x; exact Heap.lt_size e
theorem Paired.mapP {α β : Type} {F G : α → β → Prop} : ∀ {l₁ : List α} {l₂ : List β}, Paired F l₁ l₂ → (∀ a b, F a b → G a b) → Paired G l₁ l₂
  | _, _, .nil, _ => .nil
  | _, _, .cons r t, f => .cons (f _ _ r) (Paired.mapP t f)
theorem ObjOk.stay (x : ObjOk P w H h a o) (k : ∀ b u, (b = a ∨ H b = some (.own a)) → h.get? b = some u → h'.get? b = some u)
    (ho : ∀ b, H b = some (.own a) → H' b = some (.own a)) (ht : ∀ b xs, H b = some (.tup xs) → H' b = some (.tup xs)) : ObjOk P w H' h' a o := by
  induction o with
  | lst xs => obtain ⟨z, its, n, r, e⟩ := x; exact ⟨z, its, n, r, k _ _ (.inl rfl) e⟩
  | tup xs => obtain ⟨z, its, r, ob, e, c⟩ := x; exact ⟨z, its, r, ob, k _ _ (.inl rfl) e, c⟩
  | dK kvs => obtain ⟨z, y, vs, r, ob, es, ep, e, c⟩ := x; exact ⟨z, y, vs, r, ob, es, ep, k _ _ (.inl rfl) e, c⟩
  | dT kvs =>
    obtain ⟨z, y, xs, r, ob, es, ep, e, c⟩ := x
    exact ⟨z, y, xs, Paired.mapP r fun p q z => ⟨z.1, ht _ _ z.2.1, z.2.2⟩, ob, es, ep, k _ _ (.inl rfl) e, c⟩
  | set S n => obtain ⟨ob, es, ep, t, e, c⟩ := x; exact ⟨ob, es, ep, t, k _ _ (.inl rfl) e, c⟩
  | ins C dx fs =>
    obtain ⟨d, z, ne, e, mA, ⟨od, es, ep, e2, c⟩, r⟩ := x
    exact ⟨ho _ d, z, ne, k _ _ (.inl rfl) e, mA, ⟨od, es, ep, k _ _ (.inr d) e2, c⟩, r⟩
  | own y => obtain ⟨ob, e⟩ := x; exact ⟨ob, k _ _ (.inl rfl) e⟩
  | xd fs => obtain ⟨mA, ⟨od, es, ep, e, c⟩, r⟩ := x; exact ⟨mA, ⟨od, es, ep, k _ _ (.inl rfl) e, c⟩, r⟩
  | rng lo hi => obtain ⟨t, u, v, e⟩ := x; exact ⟨t, u, v, k _ _ (.inl rfl) e⟩
  | frz ob u ih => obtain ⟨e, q⟩ := x; exact ⟨k _ _ (.inl rfl) e, ih q⟩
  | tbl ps =>
    have e : h.get? a = some { cls := .none, data := .fields ps } := x
    show h'.get? a = some { cls := .none, data := .fields ps }
    exact k a _ (.inl rfl) e
  | met f y =>
    have e : h.get? a = some (PySem.W.methodObj (.ref f) (.ref y)) := x
    show h'.get? a = some (PySem.W.methodObj (.ref f) (.ref y))
    exact k a _ (.inl rfl) e
  | ext φ => obtain ⟨p, ⟨o, e⟩, st⟩ := x; exact ⟨st _ _ p fun o q => k _ _ (.inl rfl) q, ⟨o, k _ _ (.inl rfl) e⟩, st⟩
theorem HOk.lt (x : HOk P w H h) (e : H a = some o) : a < h.objs.size := (x a o e).lt
theorem HOk.fresh (x : HOk P w H h) (e : h.objs.size ≤ a) : H a = none := by
  cases q : H a with
  | none => rfl
  | some u => exact absurd (Nat.lt_of_lt_of_le (x.lt q) e) (Nat.lt_irrefl _)
theorem HOk.kept (x : HOk P w H h) (k : ∀ b u, h.get? b = some u → h'.get? b = some u) : HOk P w H h' := fun a o e =>
  (x a o e).stay (fun b u _ q => k b u q) (fun _ q => q) fun _ _ q => q
theorem HOk.laid (x : HOk P w H h) (k : ∀ b u, h.get? b = some u → h'.get? b = some u) (hp : h.objs.size ≤ a) (new : ObjOk P w (upd H a o) h' a o) : HOk P w (upd H a o) h' := fun b u e => by
  have hn := x.fresh hp
  by_cases hb : b = a
  · subst hb; rw [upd_same] at e; cases e; exact new
  · rw [upd_ne hb] at e
    exact (x b u e).stay (fun c v _ q => k c v q) (fun c q => by rw [upd_ne (ne_of_none q hn)]; exact q) fun c xs q => by rw [upd_ne (ne_of_none q hn)]; exact q
end

def Rd (H : Hp) (a : Addr) (u : HO) : Prop := H a = some u ∨ ∃ o, H a = some (.frz o u)
theorem Rd.ok {P : Program} {w : World} {H : Hp} {h : Heap} {a : Addr} {u : HO} (r : Rd H a u) (x : HOk P w H h) : ObjOk P w H h a u := by
  rcases r with r | ⟨o, r⟩
  · exact x a u r
  · obtain ⟨_, q⟩ := x a _ r
    exact q
def Mut : Option HO → Prop
  | some (.lst _) => True
  | some (.dK _) => True
  | some (.dT _) => True
  | some (.set _ _) => True
  | some (.ins _ _ _) => True
  | some (.ext _) => True
  | _ => False
section
variable {P : Program} {w : World} {H : Hp} {h h' : Heap} {x e : Addr} {o' : HO}
theorem HOk.write (ok : HOk P w H h) (mu : Mut (H x)) (he : e = x ∨ H e = some (.own x)) (k : ∀ b u, b ≠ e → h.get? b = some u → h'.get? b = some u) (heo : ∃ u, h'.get? e = some u)
    (new : ObjOk P w (upd H x o') h' x o') : HOk P w (upd H x o') h' := fun b u q => by
  have nown : ∀ c y, H c = some (.own y) → c ≠ x := fun c y r z => by subst z; rw [r] at mu; exact mu
  have ntup : ∀ c xs, H c = some (.tup xs) → c ≠ x := fun c xs r z => by subst z; rw [r] at mu; exact mu
  by_cases hb : b = x
  · subst hb; rw [upd_same] at q; cases q; exact new
  · rw [upd_ne hb] at q
    by_cases hbe : b = e
    · have q' : H b = some (.own x) := by
        rcases he with z | z
        · exact absurd (hbe.trans z) hb
        · rw [hbe]; exact z
      rw [q] at q'; cases q'
      obtain ⟨v, hv⟩ := heo
      exact ⟨v, by rw [hbe]; exact hv⟩
    · refine (ok b u q).stay (fun c v hc r => k c v ?_ r) (fun c r => by rw [upd_ne (nown c b r)]; exact r) fun c xs r => by rw [upd_ne (ntup c xs r)]; exact r
      rcases hc with rfl | hc
      · exact hbe
      · rintro rfl
        rcases he with z | z
        · exact nown c b hc z
        · rw [hc] at z; cases z; exact hb rfl
end

structure Un (fs ex : List Addr) (H H' : Hp) (h h' : Heap) : Prop where
  keep : ∀ b o, h.get? b = some o → H b = none → b ∉ fs → b ∉ ex → h'.get? b = some o
  slot : ∀ b o, h.get? b = some o → H b = none → b ∈ fs → b ∉ ex → ∃ sl, h'.get? b = some { o with slots := sl }
  free : ∀ b o, h.get? b = some o → H b = none → b ∉ ex → H' b = none
  there : ∀ b o, h.get? b = some o → b ∉ ex → ∃ o', h'.get? b = some o'
  tups : ∀ b xs, H b = some (.tup xs) → H' b = some (.tup xs)
  frzs : ∀ b o u, H b = some (.frz o u) → H' b = some (.frz o u)
  tbls : ∀ b ps, H b = some (.tbl ps) → ∃ more, H' b = some (.tbl (ps ++ more))
section
variable {fs fs' ex ex' : List Addr} {H H1 H2 : Hp} {h h1 h2 h' : Heap} {a x e : Addr} {o : HO}
theorem Un.any (u : Un fs ex H H1 h h1) {b : Addr} {ob : Obj} (q : h.get? b = some ob) (n : H b = none) (hx : b ∉ ex) : ∃ sl, h1.get? b = some { ob with slots := sl } := by
  by_cases hb : b ∈ fs
  · exact u.slot b ob q n hb hx
  · exact ⟨ob.slots, u.keep b ob q n hb hx⟩
theorem Un.kept (k : ∀ b u, h.get? b = some u → h'.get? b = some u) : Un fs ex H H h h' :=
  ⟨fun b ob q _ _ _ => k b ob q, fun b ob q _ _ _ => ⟨ob.slots, k b ob q⟩, fun _ _ _ n _ => n, fun b ob q _ => ⟨ob, k b ob q⟩, fun _ _ q => q, fun _ _ _ q => q, fun _ ps q => ⟨#[], by rw [q]; simp⟩⟩
theorem Un.refl : Un fs ex H H h h := Un.kept fun _ _ q => q
theorem Un.laid (k : ∀ b u, h.get? b = some u → h'.get? b = some u) (hp : h.objs.size ≤ a) (hn : H a = none) : Un fs ex H (upd H a o) h h' where
  keep := fun b u q _ _ _ => k b u q
  slot := fun b u q _ _ _ => ⟨u.slots, k b u q⟩
  free := fun b u q n _ => by rw [upd_ne (Nat.ne_of_lt (Nat.lt_of_lt_of_le (Heap.lt_size q) hp))]; exact n
  there := fun b u q _ => ⟨u, k b u q⟩
  tups := fun b xs q => by rw [upd_ne (ne_of_none q hn)]; exact q
  frzs := fun b u xs q => by rw [upd_ne (ne_of_none q hn)]; exact q
  tbls := fun b ps q => ⟨#[], by rw [upd_ne (ne_of_none q hn), q]; simp⟩
theorem Un.write (mu : Mut (H x)) (he : e = x ∨ H e = some (.own x)) (k : ∀ b u, b ≠ e → h.get? b = some u → h'.get? b = some u) (heo : ∃ u, h'.get? e = some u) : Un fs ex H (upd H x o) h h' := by
  have hx : ∀ b, H b = none → b ≠ x := fun b n z => by subst z; rw [n] at mu; exact mu
  have hb : ∀ b, H b = none → b ≠ e := fun b n z => by
    subst z
    rcases he with r | r
    · exact hx b n r
    · rw [n] at r; cases r
  have hm : ∀ b u, H b = some u → ¬ Mut (some u) → b ≠ x := fun b u q nm z => by subst z; rw [q] at mu; exact nm mu
  refine ⟨fun b u q n _ _ => k b u (hb b n) q, fun b u q n _ _ => ⟨u.slots, k b u (hb b n) q⟩, fun b u q n _ => by rw [upd_ne (hx b n)]; exact n, fun b u q _ => ?_,
    fun b xs q => by rw [upd_ne (hm b _ q fun z => z)]; exact q, fun b u xs q => by rw [upd_ne (hm b _ q fun z => z)]; exact q, fun b ps q => ⟨#[], by rw [upd_ne (hm b _ q fun z => z), q]; simp⟩⟩
  by_cases hbe : b = e
  · subst hbe; exact heo
  · exact ⟨u, k b u hbe q⟩
end

def trk (h : Heap) (H : Hp) : List Addr := (List.range h.objs.size).filter fun a => (H a).isSome
def hidT (h : Heap) (H : Hp) : Heap := PySem.W.hideAll h (trk h H)
theorem hidT_size (h : Heap) (H : Hp) : (hidT h H).objs.size = h.objs.size := PySem.W.hideAll_size _ _
theorem hidT_get {h : Heap} {H : Hp} {b : Addr} {o : Obj} (e : h.get? b = some o) (n : H b = none) : (hidT h H).get? b = some o :=
  PySem.W.hideAll_get _ e fun hm => by
    have q : (H b).isSome = true := (List.mem_filter.mp hm).2
    rw [n] at q; simp at q
theorem of_hidT {h : Heap} {H : Hp} {b : Addr} {o : Obj} (e : (hidT h H).get? b = some o) : h.get? b = some o ∧ H b = none := by
  have e' : h.get? b = some o := PySem.W.of_hideAll (trk h H) e
  refine ⟨e', ?_⟩
  cases q : H b with
  | none => rfl
  | some x =>
    have hm : b ∈ trk h H := List.mem_filter.mpr ⟨List.mem_range.mpr (Heap.lt_size e'), by simp [q]⟩
    have z : (hidT h H).get? b = none := PySem.W.hideAll_none (trk h H) hm
    rw [z] at e; cases e

def allNews (g h : Heap) (L : Addr) : List (Addr × Obj) := (List.range h.objs.size).filterMap fun a => if a = L ∨ (g.get? a).isSome = true then none else (h.get? a).map fun o => (a, o)
def rest (g h : Heap) (L d : Addr) : List (Addr × Obj) := (allNews g h L).filter fun p => decide (p.1 ≠ d)
end L2

namespace L2
open PySem PySem.Spec PyProof.Rows

structure Mod (K : PySem.W.Frag) (mg : Str → Option Value) (base : Heap) : Prop where
  kin : K.In base
  glob : base.Ns mainGlobals mg
  blt : ∃ mb, base.Ns builtinsNs mb ∧ ∀ x : Str, x ≠ "__name__" → mb x = bootBuiltins x
  nolimit : base.NoLimit

structure Cx where
  prog : Program
  w : World
  K : PySem.W.Frag
  mg : Str → Option Value
  base : Heap
  A : Around
  N : List Str
  s_0 : Shared
  H_0 : Hp
  env : Env
  outer : List Env
  stack : List Env
  ex : List Addr
  fn : Str → Bool
  calm : Bool
  pn : List (Addr × Obj)
  xe : Value → Shared → Prop
def frs (l : List Env) : List Addr := l.filterMap (·.frame)
abbrev Cx.fs (X : Cx) : List Addr := frs X.outer

def Vis (sc : Scope) (x : Str) : Prop := sc.names.lookup x = some .local ∨ sc.names.lookup x = some .cell ∨ sc.names.lookup x = some .free
def Loc (sc : Scope) (x : Str) : Prop := sc.names.lookup x = some .local ∨ sc.names.lookup x = some .cell
def Look (env : Env) (h : Heap) (m : Str → Option Value) (x : Str) (u : Value) : Prop :=
  (env.kindOf x = some .local ∧ m x = some u) ∨ ((env.kindOf x = some .cell ∨ env.kindOf x = some .free) ∧ ∃ c, env.cells.lookup x = some c ∧ h.IsCell c (some u))

structure Cx.Ok (X : Cx) : Prop where
  mod : Mod X.K X.mg X.base
  kind : X.env.scope.kind = .function
  glob : X.env.globals = mainGlobals
  blt : X.env.builtins = builtinsNs
  above : X.s_0.heap.objs.size ≤ X.env.locals
  inj : ∀ x y c, X.env.cells.lookup x = some c → X.env.cells.lookup y = some c → x = y
  has : ∀ x, (X.env.kindOf x = some .cell ∨ X.env.kindOf x = some .free) → ∃ c, X.env.cells.lookup x = some c
  cab : ∀ x c, X.fn x = true → X.env.cells.lookup x = some c → X.s_0.heap.objs.size ≤ c
  hd : X.calm = true → X.A.handled = none
  frames : X.A.frames = some X.stack
  stk : X.stack = X.outer ∨ (X.stack = X.env :: X.outer ∧ X.env.frame = some X.env.locals)
  exf : ∀ b ∈ X.ex, b ≠ X.env.locals ∧ ∀ x c, X.env.cells.lookup x = some c → c ≠ b
  bs : ∀ b o, X.base.get? b = some o → X.s_0.heap.get? b = some o ∧ X.H_0 b = none
  bsz : X.base.objs.size ≤ X.s_0.heap.objs.size
  noex : ∀ b o, X.base.get? b = some o → b ∉ X.ex
  exfs : ∀ b ∈ X.ex, b ∉ X.fs
  funs : X.s_0.heap.FunFrames X.base X.outer
  frf : ∀ b ∈ X.fs, X.H_0 b = none

structure Inv (X : Cx) (pins : List (Addr × Obj)) (σ : List (Option V)) (H : Hp) (s : Shared) : Prop where
  ok : X.Ok
  os : s.os = X.s_0.os
  bare : AllBare s.gens
  base : Un X.fs X.ex X.H_0 H X.s_0.heap s.heap
  loc : ∃ m, s.heap.Ns X.env.locals m ∧ ∀ (i : Nat) (x : Str) (v : V), X.N[i]? = some x → σ[i]? = some (some v) → Vis X.env.scope x → ∃ u, RelV v u ∧ Look X.env s.heap m x u
  cell : ∀ x c, X.env.cells.lookup x = some c → ∃ v, s.heap.IsCell c v
  free : H X.env.locals = none
  freeC : ∀ x c, X.env.cells.lookup x = some c → H c = none
  pin : ∀ p ∈ X.pn ++ pins, s.heap.get? p.1 = some p.2 ∧ H p.1 = none ∧ p.1 ≠ X.env.locals ∧ p.1 ∉ X.fs ∧ ∀ v, p.2.data ≠ .cell v
  hok : HOk X.prog X.w H s.heap
  len : σ.length = X.N.length

section
variable {X : Cx} {pins : List (Addr × Obj)} {σ : List (Option V)} {H H' : Hp} {s : Shared} {h' : Heap}

theorem Cx.Ok.nofr (ok : X.Ok) {b : Addr} {o : Obj} (e : X.base.get? b = some o) : b ∉ X.fs := fun hb => by
  have := (ok.funs.mem hb).1
  rw [e] at this; cases this
theorem Inv.bs (I : Inv X pins σ H s) : ∀ b o, X.base.get? b = some o → s.heap.get? b = some o ∧ H b = none := fun b o e =>
  ⟨I.base.keep b o (I.ok.bs b o e).1 (I.ok.bs b o e).2 (I.ok.nofr e) (I.ok.noex b o e), I.base.free b o (I.ok.bs b o e).1 (I.ok.bs b o e).2 (I.ok.noex b o e)⟩
theorem Inv.bk (I : Inv X pins σ H s) : ∀ b o, X.base.get? b = some o → s.heap.get? b = some o := fun b o e => (I.bs b o e).1
theorem Inv.mod (I : Inv X pins σ H s) : Mod X.K X.mg X.base := I.ok.mod
theorem Inv.kIn (I : Inv X pins σ H s) : X.K.In s.heap := I.ok.mod.kin.keeps I.bk
theorem Inv.lt (I : Inv X pins σ H s) : X.env.locals < s.heap.objs.size := let ⟨_, hn, _⟩ := I.loc; hn.lt
theorem Inv.sz (I : Inv X pins σ H s) : X.s_0.heap.objs.size ≤ s.heap.objs.size := Nat.le_trans I.ok.above (Nat.le_of_lt I.lt)
theorem Inv.nofs (I : Inv X pins σ H s) {a : Addr} (h : s.heap.objs.size ≤ a) : a ∉ X.fs := fun hb => by
  obtain ⟨_, o, ho, _⟩ := I.ok.funs.mem hb
  exact absurd (Nat.lt_of_lt_of_le (Heap.lt_size ho) (Nat.le_trans I.sz h)) (Nat.lt_irrefl _)
theorem Inv.cne (I : Inv X pins σ H s) : ∀ x c, X.env.cells.lookup x = some c → c ≠ X.env.locals := fun x c e z => by
  obtain ⟨v, o, ho, hd⟩ := I.cell x c e
  obtain ⟨m, ⟨o', es, ep, ho', hd', _⟩, _⟩ := I.loc
  rw [z, ho'] at ho; cases ho; rw [hd'] at hd; cases hd
theorem Inv.funs (I : Inv X pins σ H s) : s.heap.FunFrames X.base X.outer := by
  have all : ∀ (l : List Env), (∀ b ∈ frs l, b ∈ X.fs) → X.s_0.heap.FunFrames X.base l → s.heap.FunFrames X.base l := by
    intro l
    induction l with
    | nil => intro _ _; trivial
    | cons env r ih =>
      intro hs hl
      obtain ⟨hk, ⟨L, o, hf, hn, ho, hd⟩, hr⟩ := hl
      have hL : L ∈ X.fs := hs L (by unfold frs; rw [List.filterMap_cons, hf]; exact List.mem_cons_self)
      obtain ⟨sl, e⟩ := I.base.slot L o ho (I.ok.frf L hL) hL fun z => I.ok.exfs L z hL
      exact ⟨hk, ⟨L, _, hf, hn, e, hd⟩, ih (fun b hb => hs b (by unfold frs; rw [List.filterMap_cons, hf]; exact List.mem_cons_of_mem _ hb)) hr⟩
  exact all X.outer (fun _ hb => hb) I.ok.funs

theorem Inv.stack (I : Inv X pins σ H s) : s.heap.FunFrames X.base X.stack := by
  rcases I.ok.stk with e | ⟨e, hf⟩
  · rw [e]; exact I.funs
  · rw [e]
    obtain ⟨m, hn, _⟩ := I.loc
    refine .cons (by rw [I.ok.kind]; decide) hf hn ?_ I.funs
    exact Heap.get?_none_of_le (Nat.le_trans I.ok.bsz I.ok.above)
theorem Inv.stkSub (I : Inv X pins σ H s) : ∀ b ∈ frs X.stack, b ∈ X.env.locals :: X.fs := fun b hb => by
  rcases I.ok.stk with e | ⟨e, hf⟩
  · rw [e] at hb; exact List.mem_cons_of_mem _ hb
  · rw [e] at hb
    unfold frs at hb
    rw [List.filterMap_cons, hf] at hb
    exact hb
theorem Inv.stkFree (I : Inv X pins σ H s) : ∀ b ∈ frs X.stack, H b = none := fun b hb => by
  rcases List.mem_cons.mp (I.stkSub b hb) with e | hb
  · rw [e]; exact I.free
  · obtain ⟨_, o, ho, _⟩ := I.ok.funs.mem hb
    exact I.base.free b o ho (I.ok.frf b hb) fun z => I.ok.exfs b z hb

theorem Inv.step {g' : Array GenState} {t' : Nat} {d' : Drawn} {ch : List Addr} (I : Inv X pins σ H s)
    (hch : ∀ b ∈ ch, (b ∈ X.ex ∨ X.s_0.heap.objs.size ≤ b) ∧ b ≠ X.env.locals ∧ (∀ x c, X.env.cells.lookup x = some c → c ≠ b) ∧ ∀ p ∈ X.pn ++ pins, p.1 ≠ b)
    (keep : ∀ b o, b ≠ X.env.locals → b ∉ X.fs → b ∉ ch → s.heap.get? b = some o → H b = none → h'.get? b = some o)
    (slot : ∀ b o, b ≠ X.env.locals → b ∈ X.fs → b ∉ ch → s.heap.get? b = some o → H b = none → ∃ sl, h'.get? b = some { o with slots := sl }) (free : ∀ b o, b ∉ ch → s.heap.get? b = some o → H b = none → H' b = none)
    (there : ∀ b o, b ∉ ch → s.heap.get? b = some o → ∃ o', h'.get? b = some o')
    (tups : ∀ b xs, H b = some (.tup xs) → H' b = some (.tup xs)) (frzs : ∀ b o u, H b = some (.frz o u) → H' b = some (.frz o u)) (tbls : ∀ b ps, H b = some (.tbl ps) → ∃ more, H' b = some (.tbl (ps ++ more)))
    (ns : ∀ m, s.heap.Ns X.env.locals m → h'.Ns X.env.locals m) (hok : HOk X.prog X.w H' h') (hg : AllBare g') :
    Inv X pins σ H' { s with heap := h', gens := g', drawn := d', toks := t' } := by
  have neL : ∀ b o, X.s_0.heap.get? b = some o → b ≠ X.env.locals := fun b o e => Nat.ne_of_lt (Nat.lt_of_lt_of_le (Heap.lt_size e) I.ok.above)
  have neC : ∀ b o, X.s_0.heap.get? b = some o → b ∉ X.ex → b ∉ ch := fun b o e hx hb => by
    rcases (hch b hb).1 with z | z
    · exact hx z
    · exact absurd (Nat.lt_of_lt_of_le (Heap.lt_size e) z) (Nat.lt_irrefl _)
  have cellK : ∀ x c, X.env.cells.lookup x = some c → ∀ v, s.heap.IsCell c v → h'.IsCell c v := fun x c e v ⟨o, ho, hd⟩ => by
    have nch : c ∉ ch := fun z => (hch c z).2.2.1 x c e rfl
    by_cases hc : c ∈ X.fs
    · obtain ⟨sl, q⟩ := slot c o (I.cne x c e) hc nch ho (I.freeC x c e)
      exact ⟨_, q, hd⟩
    · exact ⟨o, keep c o (I.cne x c e) hc nch ho (I.freeC x c e), hd⟩
  refine ⟨I.ok, I.os, hg, ⟨fun b o e n hb hx => ?_, fun b o e n hb hx => ?_, fun b o e n hx => ?_, fun b o e hx => ?_, fun b xs e => tups b xs (I.base.tups b xs e), fun b o xs e => frzs b o xs (I.base.frzs b o xs e), fun b ps e => ?_⟩, ?_, fun x c e => ?_, ?_, fun x c e => ?_, fun p hp => ?_, hok, I.len⟩
  · exact keep b o (neL b o e) hb (neC b o e hx) (I.base.keep b o e n hb hx) (I.base.free b o e n hx)
  · obtain ⟨sl, e1⟩ := I.base.slot b o e n hb hx
    obtain ⟨sl', e2⟩ := slot b _ (neL b o e) hb (neC b o e hx) e1 (I.base.free b o e n hx)
    exact ⟨sl', e2⟩
  · obtain ⟨o', e1⟩ := I.base.there b o e hx
    exact free b o' (neC b o e hx) e1 (I.base.free b o e n hx)
  · obtain ⟨o', e1⟩ := I.base.there b o e hx
    exact there b o' (neC b o e hx) e1
  · obtain ⟨m1, e1⟩ := I.base.tbls b ps e
    obtain ⟨m2, e2⟩ := tbls b _ e1
    exact ⟨m1 ++ m2, by rw [e2, Array.append_assoc]⟩
  · obtain ⟨m, hn, hl⟩ := I.loc
    refine ⟨m, ns m hn, fun i x v e1 e2 e3 => ?_⟩
    obtain ⟨u, r, l⟩ := hl i x v e1 e2 e3
    refine ⟨u, r, ?_⟩
    rcases l with l | ⟨k, c, e, z⟩
    · exact .inl l
    · exact .inr ⟨k, c, e, cellK x c e _ z⟩
  · obtain ⟨v, z⟩ := I.cell x c e
    exact ⟨v, cellK x c e v z⟩
  · obtain ⟨m, ⟨o, _, _, ho, _⟩, _⟩ := I.loc
    exact free _ o (fun z => (hch _ z).2.1 rfl) ho I.free
  · obtain ⟨v, o, ho, hd⟩ := I.cell x c e
    exact free c o (fun z => (hch c z).2.2.1 x c e rfl) ho (I.freeC x c e)
  · obtain ⟨e, n, ne, nf, d⟩ := I.pin p hp
    have nch : p.1 ∉ ch := fun z => (hch p.1 z).2.2.2 p hp rfl
    exact ⟨keep p.1 p.2 ne nf nch e n, free p.1 p.2 nch e n, ne, nf, d⟩
theorem Inv.un {t' : Nat} (I : Inv X pins σ H s) (u : Un X.fs [] H H' s.heap h') (hok : HOk X.prog X.w H' h') : Inv X pins σ H' { s with heap := h', toks := t' } := by
  obtain ⟨m, ⟨o, es, ep, ho, r⟩, _⟩ := id I.loc
  obtain ⟨sl, hL⟩ := u.any ho I.free (by simp)
  exact I.step (g' := s.gens) (d' := s.drawn) (ch := []) (fun _ z => nomatch z) (fun b o _ hb _ e n => u.keep b o e n hb (by simp)) (fun b o _ hb _ e n => u.slot b o e n hb (by simp)) (fun b o _ e n => u.free b o e n (by simp)) (fun b o _ e => u.there b o e (by simp)) u.tups u.frzs u.tbls (fun m' hm => by
    obtain ⟨o', es', ep', ho', r'⟩ := hm
    rw [ho] at ho'; cases ho'
    exact ⟨_, es', ep', hL, r'⟩) hok I.bare
theorem Inv.call {g' : Array GenState} {t' : Nat} {d' : Drawn} {ch : List Addr} (I : Inv X pins σ H s) (u : Un (frs X.stack) ch H H' s.heap h') (hok : HOk X.prog X.w H' h') (hg : AllBare g')
    (hch : ∀ b ∈ ch, (b ∈ X.ex ∨ X.s_0.heap.objs.size ≤ b) ∧ b ≠ X.env.locals ∧ (∀ x c, X.env.cells.lookup x = some c → c ≠ b) ∧ ∀ p ∈ X.pn ++ pins, p.1 ≠ b) :
    Inv X pins σ H' { s with heap := h', gens := g', drawn := d', toks := t' } := by
  obtain ⟨m, ⟨o, es, ep, ho, r⟩, _⟩ := id I.loc
  obtain ⟨sl, hL⟩ := u.any ho I.free fun z => (hch _ z).2.1 rfl
  exact I.step (ch := ch) hch (fun b o hL hb hc e n => u.keep b o e n (fun z => (List.mem_cons.mp (I.stkSub b z)).elim hL hb) hc) (fun b o _ _ hc e n => u.any e n hc) (fun b o hc e n => u.free b o e n hc) (fun b o hc e => u.there b o e hc) u.tups u.frzs u.tbls (fun m' hm => by
    obtain ⟨o', es', ep', ho', r'⟩ := hm
    rw [ho] at ho'; cases ho'
    exact ⟨_, es', ep', hL, r'⟩) hok hg
theorem Inv.turned {t' : Nat} {it : Addr} (I : Inv X pins σ H s) (k : ∀ b o, b ≠ it → s.heap.get? b = some o → h'.get? b = some o) (hn : H it = none) (hL : it ≠ X.env.locals)
    (h1 : it ∈ X.ex ∨ X.s_0.heap.objs.size ≤ it) (h2 : ∀ x c, X.env.cells.lookup x = some c → c ≠ it) (h3 : ∀ p ∈ X.pn ++ pins, p.1 ≠ it) : Inv X pins σ H { s with heap := h', toks := t' } := by
  have nit : ∀ b u, H b = some u → b ≠ it := fun b u e z => by rw [z, hn] at e; cases e
  refine I.step (g' := s.gens) (d' := s.drawn) (ch := [it]) (fun b hb => ?_) (fun b o _ _ hc e _ => k b o (fun z => hc (by simp [z])) e) (fun b o _ _ hc e _ => ⟨o.slots, k b o (fun z => hc (by simp [z])) e⟩) (fun _ _ _ _ n => n)
    (fun b o hc e => ⟨o, k b o (fun z => hc (by simp [z])) e⟩) (fun _ _ e => e) (fun _ _ _ e => e) (fun b ps e => ⟨#[], by rw [e]; simp⟩) (fun m hm => ?_) (fun b u e => ?_) I.bare
  · have e : b = it := by simpa using hb
    subst e
    exact ⟨h1, hL, h2, h3⟩
  · obtain ⟨o, es, ep, ho, r⟩ := hm
    exact ⟨o, es, ep, k _ o (Ne.symm hL) ho, r⟩
  · refine (I.hok b u e).stay (fun c v hc q => k c v ?_ q) (fun _ q => q) fun _ _ q => q
    rcases hc with z | z
    · rw [z]; exact nit b u e
    · exact nit c _ z
theorem Inv.tok (I : Inv X pins σ H s) (t : Nat) : Inv X pins σ H { s with toks := t } := I.un (h' := s.heap) (t' := t) Un.refl I.hok
theorem Inv.kept {t' : Nat} (I : Inv X pins σ H s) (k : ∀ b u, s.heap.get? b = some u → h'.get? b = some u) : Inv X pins σ H { s with heap := h', toks := t' } := I.un (Un.kept k) (I.hok.kept k)
theorem Inv.laid {a : Addr} {o : HO} {t' : Nat} (I : Inv X pins σ H s) (k : ∀ b u, s.heap.get? b = some u → h'.get? b = some u) (hp : s.heap.objs.size ≤ a) (new : ObjOk X.prog X.w (upd H a o) h' a o) :
    Inv X pins σ (upd H a o) { s with heap := h', toks := t' } := I.un (Un.laid k hp (I.hok.fresh hp)) (I.hok.laid k hp new)
theorem Inv.write {x e : Addr} {o : HO} {t' : Nat} (I : Inv X pins σ H s) (mu : Mut (H x)) (he : e = x ∨ H e = some (.own x)) (k : ∀ b u, b ≠ e → s.heap.get? b = some u → h'.get? b = some u) (heo : ∃ u, h'.get? e = some u)
    (new : ObjOk X.prog X.w (upd H x o) h' x o) : Inv X pins σ (upd H x o) { s with heap := h', toks := t' } := I.un (Un.write mu he k heo) (I.hok.write mu he k heo new)
theorem Inv.weak {σ' : List (Option V)} (I : Inv X pins σ H s) (hl : σ'.length = σ.length) (w : ∀ (i : Nat) v, σ'[i]? = some (some v) → σ[i]? = some (some v)) : Inv X pins σ' H s :=
  ⟨I.ok, I.os, I.bare, I.base, let ⟨m, hn, hl'⟩ := I.loc; ⟨m, hn, fun i x v e1 e2 e3 => hl' i x v e1 (w i v e2) e3⟩, I.cell, I.free, I.freeC, I.pin, I.hok, hl.trans I.len⟩
theorem Inv.pins_of {pins' : List (Addr × Obj)} (I : Inv X pins σ H s) (h : ∀ p ∈ pins', s.heap.get? p.1 = some p.2 ∧ H p.1 = none ∧ p.1 ≠ X.env.locals ∧ p.1 ∉ X.fs ∧ ∀ v, p.2.data ≠ .cell v) : Inv X pins' σ H s :=
  ⟨I.ok, I.os, I.bare, I.base, I.loc, I.cell, I.free, I.freeC, fun p hp => (List.mem_append.mp hp).elim (fun z => I.pin p (List.mem_append_left _ z)) (h p), I.hok, I.len⟩

theorem nodup_ix {N : List Str} (hN : N.Nodup) {i j : Nat} {x : Str} (a : N[i]? = some x) (b : N[j]? = some x) : i = j := by
  obtain ⟨h1, e1⟩ := List.getElem?_eq_some_iff.mp a
  obtain ⟨h2, e2⟩ := List.getElem?_eq_some_iff.mp b
  exact (List.getElem_inj hN).mp (e1.trans e2.symm)

theorem store_ok2 {M : Model} {A : Around} {E : Value → Shared → Prop} {i : Nat} {x : Str} {v : V} {u : Value} {Q : Unit → Shared → Prop} (I : Inv X pins σ H s) (hN : X.N.Nodup) (hi : X.N[i]? = some x) (hx : Loc X.env.scope x) (r : RelV v u)
    (h : ∀ s', Inv X pins (σ.set i (some v)) H s' → (∃ a, Heap.SameBut a s.heap s'.heap ∧ (a = X.env.locals ∨ X.env.cells.lookup x = some a)) → Q () s') (hf : X.fn x = true ∨ X.env.scope.names.lookup x = some .local := by first | exact .inl rfl | exact .inr rfl | assumption) : wpAny M A (storeName X.env x u) Q E s := by
  obtain ⟨m, hn, hl⟩ := id I.loc
  have hcls : (X.env.scope.kind == .class || (X.env.scope.kind == .module && X.env.locals != X.env.globals)) = false := by rw [I.ok.kind]; rfl
  have hiσ : i < σ.length := by rw [I.len]; exact (List.getElem?_eq_some_iff.mp hi).1
  have cne := I.cne
  have tracked : ∀ {a : Addr} {h' : Heap}, (∃ o, s.heap.get? a = some o ∧ H a = none) → Heap.SameBut a s.heap h' → HOk X.prog X.w H h' := fun {a h'} ha hs b ob e => by
    obtain ⟨_, _, hfree⟩ := ha
    refine (I.hok b ob e).stay (fun c w' hc q => (hs.2 c ?_).trans q) (fun _ q => q) fun _ _ q => q
    rintro rfl
    rcases hc with rfl | hc
    · rw [hfree] at e; cases e
    · rw [hfree] at hc; cases hc
  rcases hx with hk | hk
  · refine wpAny_storeName_local hk hn (fun h' hn' hs => ?_) hcls
    obtain ⟨oL, _, _, hoL, _⟩ := id hn
    refine h _ ⟨I.ok, I.os, I.bare, ⟨fun b o e n hb hx => ?_, fun b o e n hb hx => ?_, I.base.free, fun b o e hx => ?_, I.base.tups, I.base.frzs, I.base.tbls⟩, ⟨_, hn', fun j y v' e1 e2 e3 => ?_⟩, fun y c e => ?_, I.free, I.freeC, fun p hp => ?_, tracked ⟨oL, hoL, I.free⟩ hs, by simpa using I.len⟩ ⟨_, hs, .inl rfl⟩
    · exact (hs.2 b (Nat.ne_of_lt (Nat.lt_of_lt_of_le (Heap.lt_size e) I.ok.above))).trans (I.base.keep b o e n hb hx)
    · obtain ⟨sl, e1⟩ := I.base.slot b o e n hb hx
      exact ⟨sl, (hs.2 b (Nat.ne_of_lt (Nat.lt_of_lt_of_le (Heap.lt_size e) I.ok.above))).trans e1⟩
    · obtain ⟨o', e1⟩ := I.base.there b o e hx
      exact ⟨o', (hs.2 b (Nat.ne_of_lt (Nat.lt_of_lt_of_le (Heap.lt_size e) I.ok.above))).trans e1⟩
    · by_cases hj : j = i
      · subst hj
        rw [hi] at e1; cases e1
        rw [List.getElem?_set_self hiσ] at e2
        cases e2
        exact ⟨u, r, .inl ⟨hk, by simp⟩⟩
      · rw [List.getElem?_set_ne (Ne.symm hj)] at e2
        obtain ⟨u', r', q⟩ := hl j y v' e1 e2 e3
        refine ⟨u', r', ?_⟩
        rcases q with ⟨k, e⟩ | ⟨k, c, e, z⟩
        · refine .inl ⟨k, ?_⟩
          have : y ≠ x := fun e => hj (nodup_ix hN e1 (e ▸ hi))
          simp [this, e]
        · exact .inr ⟨k, c, e, z.sameBut hs (cne y c e)⟩
    · obtain ⟨w', z⟩ := I.cell y c e
      exact ⟨w', z.sameBut hs (cne y c e)⟩
    · obtain ⟨e, n, ne, nf, d⟩ := I.pin p hp
      exact ⟨(hs.2 p.1 ne).trans e, n, ne, nf, d⟩
  · have hfn : X.fn x = true := by
      rcases hf with z | z
      · exact z
      · rw [z] at hk; cases hk
    obtain ⟨c, hc⟩ := I.ok.has x (.inl hk)
    obtain ⟨w', z⟩ := I.cell x c hc
    refine wpAny_storeName_cell I.ok.kind hk hc z (fun h' hc' hs => ?_)
    obtain ⟨oc, hoc, hocd⟩ := id z
    refine h { s with heap := h' } ⟨I.ok, I.os, I.bare, ⟨fun b o e n hb hx => ?_, fun b o e n hb hx => ?_, I.base.free, fun b o e hx => ?_, I.base.tups, I.base.frzs, I.base.tbls⟩, ⟨m, hn.sameBut hs (Ne.symm (cne x c hc)), fun j y v' e1 e2 e3 => ?_⟩, fun y c' e => ?_, I.free, I.freeC, fun p hp => ?_, tracked ⟨oc, hoc, I.freeC x c hc⟩ hs, by simpa using I.len⟩ ⟨c, hs, .inr hc⟩
    · exact (hs.2 b (Nat.ne_of_lt (Nat.lt_of_lt_of_le (Heap.lt_size e) (I.ok.cab x c hfn hc)))).trans (I.base.keep b o e n hb hx)
    · obtain ⟨sl, e1⟩ := I.base.slot b o e n hb hx
      exact ⟨sl, (hs.2 b (Nat.ne_of_lt (Nat.lt_of_lt_of_le (Heap.lt_size e) (I.ok.cab x c hfn hc)))).trans e1⟩
    · obtain ⟨o', e1⟩ := I.base.there b o e hx
      exact ⟨o', (hs.2 b (Nat.ne_of_lt (Nat.lt_of_lt_of_le (Heap.lt_size e) (I.ok.cab x c hfn hc)))).trans e1⟩
    · by_cases hj : j = i
      · subst hj
        rw [hi] at e1; cases e1
        rw [List.getElem?_set_self hiσ] at e2
        cases e2
        exact ⟨u, r, .inr ⟨.inl hk, c, hc, hc'⟩⟩
      · rw [List.getElem?_set_ne (Ne.symm hj)] at e2
        obtain ⟨u', r', q⟩ := hl j y v' e1 e2 e3
        refine ⟨u', r', ?_⟩
        rcases q with q | ⟨k, c', e, z'⟩
        · exact .inl q
        · refine .inr ⟨k, c', e, z'.sameBut hs ?_⟩
          rintro rfl
          exact hj (nodup_ix hN e1 (I.ok.inj _ _ _ e hc ▸ hi))
    · by_cases hcc : c' = c
      · subst hcc; exact ⟨_, hc'⟩
      · obtain ⟨w2, z2⟩ := I.cell y c' e
        exact ⟨w2, z2.sameBut hs hcc⟩
    · obtain ⟨e, n, ne, nf, d⟩ := I.pin p hp
      refine ⟨(hs.2 p.1 ?_).trans e, n, ne, nf, d⟩
      intro q
      rw [q, hoc] at e
      have q' : oc = p.2 := Option.some.inj e
      exact d w' (by rw [← q']; exact hocd)
theorem store_ok {M : Model} {A : Around} {E : Value → Shared → Prop} {i : Nat} {x : Str} {v : V} {u : Value} {Q : Unit → Shared → Prop} (I : Inv X pins σ H s) (hN : X.N.Nodup) (hi : X.N[i]? = some x) (hx : Loc X.env.scope x) (r : RelV v u)
    (h : ∀ s', Inv X pins (σ.set i (some v)) H s' → Q () s') (hf : X.fn x = true ∨ X.env.scope.names.lookup x = some .local := by first | exact .inl rfl | exact .inr rfl | assumption) : wpAny M A (storeName X.env x u) Q E s :=
  store_ok2 I hN hi hx r (fun s' I' _ => h s' I') hf
theorem Inv.call' {s' : Shared} {ch : List Addr} (I : Inv X pins σ H s) (ho : s'.os = s.os) (u : Un (frs X.stack) ch H H' s.heap s'.heap) (hok : HOk X.prog X.w H' s'.heap) (hg : AllBare s'.gens)
    (hch : ∀ b ∈ ch, (b ∈ X.ex ∨ X.s_0.heap.objs.size ≤ b) ∧ b ≠ X.env.locals ∧ (∀ x c, X.env.cells.lookup x = some c → c ≠ b) ∧ ∀ p ∈ X.pn ++ pins, p.1 ≠ b) : Inv X pins σ H' s' := by
  obtain ⟨h', g', d', t', o'⟩ := s'
  have e : o' = s.os := ho
  subst e
  exact I.call (g' := g') (t' := t') (d' := d') u hok hg hch
end

abbrev XK := Value → Option Addr → Hp → Prop
abbrev St := List (Option V)
abbrev VK := V → Hp → Prop
abbrev TE := St → Hp → VK → Prop
abbrev TT := St → Hp → (Bool → Hp → Prop) → Prop
abbrev TA := St → Hp → (List V → Hp → Prop) → Prop
structure Ends where
  nx : St → Hp → Prop
  rt : VK
  bk : St → Hp → Prop := fun _ _ => False
  ct : St → Hp → Prop := fun _ _ => False
abbrev TS := Ends → St → Hp → Prop

def EP (X : Cx) (pins : List (Addr × Obj)) (σ : St) (Q : VK) (u : Value) (s' : Shared) : Prop := ∃ v H', Inv X pins σ H' s' ∧ RelV v u ∧ Q v H'
def TP (X : Cx) (pins : List (Addr × Obj)) (σ : St) (Q : Bool → Hp → Prop) (b : Bool) (s' : Shared) : Prop := ∃ H', Inv X pins σ H' s' ∧ Q b H'
def AP (X : Cx) (pins : List (Addr × Obj)) (σ : St) (Q : List V → Hp → Prop) (us : List Value) (s' : Shared) : Prop := ∃ vs H', Inv X pins σ H' s' ∧ Vals vs us ∧ Q vs H'
def SP (X : Cx) (pins : List (Addr × Obj)) (D : Ends) (f : Flow) (s' : Shared) : Prop :=
  match f with
  | .next => ∃ σ' H', Inv X pins σ' H' s' ∧ D.nx σ' H'
  | .brk => ∃ σ' H', Inv X pins σ' H' s' ∧ D.bk σ' H'
  | .cont => ∃ σ' H', Inv X pins σ' H' s' ∧ D.ct σ' H'
  | .ret u => ∃ v σ' H', Inv X pins σ' H' s' ∧ RelV v u ∧ D.rt v H'

def PE (X : Cx) (e : Expr) (t : TE) : Prop :=
  ∀ (pins : List (Addr × Obj)) (s : Shared) (σ : St) (H : Hp) (Q : VK), Inv X pins σ H s → t σ H Q → wpAny (model X.prog X.w) X.A (eval e X.env) (EP X pins σ Q) X.xe s
def PT (X : Cx) (e : Expr) (t : TT) : Prop :=
  ∀ (pins : List (Addr × Obj)) (s : Shared) (σ : St) (H : Hp) (Q : Bool → Hp → Prop), Inv X pins σ H s → t σ H Q → wpAny (model X.prog X.w) X.A (isTrue e X.env (eval e X.env)) (TP X pins σ Q) X.xe s
def PW (X : Cx) (e : Expr) (t : TT) : Prop :=
  ∀ (whole : Sem Value) (pins : List (Addr × Obj)) (s : Shared) (σ : St) (H : Hp) (Q : Bool → Hp → Prop), Inv X pins σ H s → t σ H Q → wpAny (model X.prog X.w) X.A (isTrue e X.env whole) (TP X pins σ Q) X.xe s
def PA (X : Cx) (es : List Expr) (t : TA) : Prop :=
  ∀ (pos : Pos) (pins : List (Addr × Obj)) (s : Shared) (σ : St) (H : Hp) (Q : List V → Hp → Prop), Inv X pins σ H s → t σ H Q → wpAny (model X.prog X.w) X.A (spliced (backTo pos (starEach es X.env))) (AP X pins σ Q) X.xe s
def PS (X : Cx) (st : Stmt) (t : TS) : Prop :=
  ∀ (pins : List (Addr × Obj)) (s : Shared) (σ : St) (H : Hp) (D : Ends), Inv X pins σ H s → t D σ H → wpAny (model X.prog X.w) X.A (exec st X.env) (SP X pins D) X.xe s
def PSs (X : Cx) (st : List Stmt) (t : TS) : Prop :=
  ∀ (pins : List (Addr × Obj)) (s : Shared) (σ : St) (H : Hp) (D : Ends), Inv X pins σ H s → t D σ H → wpAny (model X.prog X.w) X.A (execs st X.env) (SP X pins D) X.xe s
theorem thn {α : Type} {t : Sem α} {Q Q' : α → Shared → Prop} {M : Model} {A : Around} {E : Value → Shared → Prop} {s : Shared} (h : wpAny M A t Q E s) (hQ : ∀ a s, Q a s → Q' a s) : wpAny M A t Q' E s := wpAny_mono h hQ fun _ _ x => x
end L2

namespace L2
open PySem PySem.Spec PyProof.Rows
section
variable {X : Cx}

def tVar (i : Nat) : TE := fun σ H Q => ∃ v, σ[i]? = some (some v) ∧ Q v H
def tC (v : V) : TE := fun _ H Q => Q v H
theorem pe_var {i : Nat} {x : Str} {pos : Pos} (hN : X.N[i]? = some x) (hv : Vis X.env.scope x) (hd : (x == ("__debug__" : Str)) = false := by decide) (hcd : (x == ("__classdict__" : Str)) = false := by decide) : PE X (.Name x pos) (tVar i) := by
  intro pins s σ H Q I h
  obtain ⟨v, e, h⟩ := h
  obtain ⟨m, hn, hl⟩ := I.loc
  obtain ⟨u, r, l⟩ := hl i x v hN e hv
  have fin : EP X pins σ Q u s := ⟨v, H, I, r, h⟩
  rcases l with ⟨hk, hm⟩ | ⟨hk, c, hc, hcell⟩
  · exact wpAny_Name (wpAny_loadName_local I.ok.kind hk hn hm fin) hd
  · rcases hk with hk | hk
    · exact wpAny_Name (wpAny_loadName_cell I.ok.kind hk hc hcell fin) hd
    · exact wpAny_Name (wpAny_loadName_free I.ok.kind hk hc hcell fin hcd) hd
theorem pe_int {i j pos} : PE X (.Constant (.int i) j pos) (tC (.int i)) := fun _ _ _ H _ I h => wpAny_Constant_int ⟨.int i, H, I.tok _, ⟨_, rfl⟩, h⟩
theorem pe_non {j pos} : PE X (.Constant .none j pos) (tC .non) := fun _ _ _ H _ I h => Constant_none ⟨.non, H, I, rfl, h⟩
def Gl (X : Cx) (x : Str) : Prop := X.env.kindOf x = some .globalImplicit
theorem ld_glob {E : Value → Shared → Prop} {pins : List (Addr × Obj)} {s : Shared} {σ : St} {H : Hp} {x : Str} {u : Value} {pos : Pos} {Q : Value → Shared → Prop} (I : Inv X pins σ H s) (hg : Gl X x) (hm : X.mg x = some u) (h : Q u s)
    (hd : (x == ("__debug__" : Str)) = false := by decide) : wpAny (model X.prog X.w) X.A (eval (.Name x pos) X.env) Q E s :=
  Calls.Name_function_global I.ok.kind hg (Calls.loadGlobal_global (by rw [I.ok.glob]; exact I.mod.glob.keeps I.bk) hm h) hd
theorem ld_blt {E : Value → Shared → Prop} {pins : List (Addr × Obj)} {s : Shared} {σ : St} {H : Hp} {x : Str} {u : Value} {pos : Pos} {Q : Value → Shared → Prop} (I : Inv X pins σ H s) (hg : Gl X x) (hm : X.mg x = none) (hv : bootBuiltins x = some u) (h : Q u s)
    (hn : x ≠ "__name__" := by decide) (hd : (x == ("__debug__" : Str)) = false := by decide) : wpAny (model X.prog X.w) X.A (eval (.Name x pos) X.env) Q E s := by
  obtain ⟨mb, h1, h2⟩ := I.mod.blt
  exact Calls.Name_function_global I.ok.kind hg (Calls.loadGlobal_builtin (by rw [I.ok.glob]; exact I.mod.glob.keeps I.bk) hm (by rw [I.ok.blt]; exact h1.keeps I.bk) ((h2 x hn).trans hv) h) hd
theorem pe_glob {x : Str} {v : V} {u : Value} {pos : Pos} (hg : Gl X x) (hm : X.mg x = some u) (r : RelV v u) (hd : (x == ("__debug__" : Str)) = false := by decide) : PE X (.Name x pos) (tC v) :=
  fun _ _ _ H _ I h => ld_glob I hg hm ⟨v, H, I, r, h⟩ hd
def t2I (ta tb : TE) (k : Int → Int → Hp → Prop) : St → Hp → Prop := fun σ H => ta σ H fun x H1 => tb σ H1 fun y H2 => ∃ i j, x = .int i ∧ y = .int j ∧ k i j H2
def tAdd (ta tb : TE) : TE := fun σ H Q => t2I ta tb (fun i j H2 => Q (.int (i + j)) H2) σ H
def tSub (ta tb : TE) : TE := fun σ H Q => t2I ta tb (fun i j H2 => Q (.int (i - j)) H2) σ H
def tMul (ta tb : TE) : TE := fun σ H Q => t2I ta tb (fun i j H2 => (-(2 ^ 64) < i ∧ i < 2 ^ 64) ∧ Q (.int (i * j)) H2) σ H
variable {a b : Expr} {ta tb : TE} {pos : Pos}
def PC (X : Cx) (op : CmpOp) (a b : Expr) (t : TE) : Prop :=
  ∀ (pins : List (Addr × Obj)) (s : Shared) (σ : St) (H : Hp) (Q : VK), Inv X pins σ H s → t σ H Q →
    wpAny (model X.prog X.w) X.A (eval a X.env) (fun v s₁ => wpAny (model X.prog X.w) X.A (eval b X.env) (fun u s₂ => wpAny (model X.prog X.w) X.A (compareOp op v u) (EP X pins σ Q) X.xe s₂) X.xe s₁) X.xe s
def tCmp (p : Int → Int → Bool) (ta tb : TE) : TE := fun σ H Q => t2I ta tb (fun i j H2 => Q (.bl (p i j)) H2) σ H
abbrev tLt : TE → TE → TE := tCmp fun i j => decide (i < j)
abbrev tLe : TE → TE → TE := tCmp fun i j => decide (i ≤ j)
abbrev tGt : TE → TE → TE := tCmp fun i j => decide (j < i)
abbrev tGe : TE → TE → TE := tCmp fun i j => decide (j ≤ i)
abbrev tEqI : TE → TE → TE := tCmp fun i j => decide (i = j)
abbrev tNeI : TE → TE → TE := tCmp fun i j => !decide (i = j)
def tIsN (ta : TE) : TE := fun σ H Q => ta σ H fun x H1 => Q (.bl (decide (x = .non))) H1
def tNotN (ta : TE) : TE := fun σ H Q => ta σ H fun x H1 => Q (.bl (!decide (x = .non))) H1
def tB (t : TE) : TT := fun σ H Q => t σ H fun x H1 => ∃ c, x = .bl c ∧ Q c H1
theorem pt_val {e : Expr} {t : TE} (h : PE X e t) (he : ∀ whole, isTrue e X.env whole = (do let v ← whole; standAt e.pos; holding [v] (truthy v)) := by intro _; rfl) : PT X e (tB t) := by
  intro pins s σ H Q I hw
  refine isTrue_plain (thn (h pins s σ H _ I hw) fun v s1 ⟨x, H1, I1, r1, q1⟩ => ?_) (he _)
  obtain ⟨d, rfl, q⟩ := q1
  cases r1
  exact wpAny_truthy_bool ⟨H1, I1, q⟩

variable {tA tB' : TT} {rest : List Expr}
def tAnd (t u : TT) : TT := fun σ H Q => t σ H fun c H1 => if c = true then u σ H1 Q else Q false H1
def tOr (t u : TT) : TT := fun σ H Q => t σ H fun c H1 => if c = true then Q true H1 else u σ H1 Q
def tNot (t : TT) : TT := fun σ H Q => t σ H fun c H1 => Q (!c) H1
theorem pt_not (ha : PT X a tA) : PT X (.UnaryOp .Not a pos) (tNot tA) := by
  intro pins s σ H Q I h
  exact isTrue_not (ha pins s σ H (fun c H1 => Q (!c) H1) I h)
def tAndV (ta tb : TE) : TE := fun σ H Q => ta σ H fun x H1 => ∃ c, x = .bl c ∧ if c = true then tb σ H1 Q else Q (.bl false) H1
def tOrV (ta tb : TE) : TE := fun σ H Q => ta σ H fun x H1 => ∃ c, x = .bl c ∧ if c = true then Q (.bl true) H1 else tb σ H1 Q
def tNotV (ta : TE) : TE := fun σ H Q => ta σ H fun x H1 => ∃ c, x = .bl c ∧ Q (.bl (!c)) H1
theorem pe_one {op} {t : TE} (h : PE X a t) : PE X (.BoolOp op [a] pos) t := fun pins s σ H Q I hw => BoolOp_one (h pins s σ H Q I hw)
theorem pe_and (ha : PE X a ta) (hb : PE X (.BoolOp .And (b :: rest) pos) tb) : PE X (.BoolOp .And (a :: b :: rest) pos) (tAndV ta tb) := by
  intro pins s σ H Q I h
  refine BoolOp_and (thn (ha pins s σ H _ I h) fun v s1 ⟨x, H1, I1, r1, q1⟩ => ?_)
  obtain ⟨c, rfl, q1⟩ := q1
  cases r1
  refine wpAny_truthy_bool ?_
  cases c with
  | true => exact hb pins s1 σ H1 Q I1 q1
  | false => exact ⟨.bl false, H1, I1, rfl, q1⟩
def tIf (t : TT) (ta tb : TE) : TE := fun σ H Q => t σ H fun c H1 => if c = true then ta σ H1 Q else tb σ H1 Q
end
end L2

namespace L2
open PySem PySem.Spec PyProof.Rows

def SqL (K : PySem.W.Frag) (H : Hp) (a : Addr) (xs : List V) : Prop :=
  Rd H a (.lst xs) ∨
    ∃ (o : Obj) (its : Array Value) (n : Nat), K.lookup a = some o ∧ o.cls = .type "list" ∧ o.dict = none ∧ o.data = .seq its n ∧ its.size ≤ sizeLine ∧ Vals xs its.toList
def SqT (K : PySem.W.Frag) (H : Hp) (a : Addr) (xs : List V) : Prop :=
  Rd H a (.tup xs) ∨
    ∃ (o : Obj) (its : Array Value) (n : Nat), K.lookup a = some o ∧ o.cls = .type "tuple" ∧ o.data = .seq its n ∧ its.size ≤ sizeLine ∧ Vals xs its.toList
def absV : Value → Option V
  | .none => some .non
  | .bool b => some (.bl b)
  | .int i _ => some (.int i)
  | .str x _ => some (.str x)
  | .bytes b _ => some (.byt b)
  | .float b _ => some (.flt b)
  | .ref a => some (.ref a)
  | .type n => some (.ty n)
  | _ => none
theorem RelV.abs {x : V} {u : Value} (r : RelV x u) : absV u = some x := by
  cases x with
  | non => cases r; rfl
  | bl _ => cases r; rfl
  | int _ => obtain ⟨t, rfl⟩ := r; rfl
  | str _ => obtain ⟨t, rfl⟩ := r; rfl
  | byt _ => obtain ⟨t, rfl⟩ := r; rfl
  | flt _ => obtain ⟨t, rfl⟩ := r; rfl
  | ref _ => cases r; rfl
  | ty _ => cases r; rfl
theorem RelV.inj {x y : V} {u : Value} (r : RelV x u) (q : RelV y u) : x = y := Option.some.inj (r.abs.symm.trans q.abs)
theorem Vals.inj : ∀ {xs ys : List V} {us : List Value}, Vals xs us → Vals ys us → xs = ys
  | _, _, _, .nil, .nil => rfl
  | _, _, _, .cons r t, .cons r' t' => by rw [r.inj r', Vals.inj t t']
section
variable {X : Cx} {pins : List (Addr × Obj)} {σ : St} {H : Hp} {s : Shared} {a : Addr} {xs ys : List V}
theorem SqL.of {K : PySem.W.Frag} (h : H a = some (.lst xs)) : SqL K H a xs := .inl (.inl h)
theorem SqT.of {K : PySem.W.Frag} (h : H a = some (.tup xs)) : SqT K H a xs := .inl (.inl h)
theorem Inv.list (I : Inv X pins σ H s) (h : SqL X.K H a xs) : ∃ its : List Value, Vals xs its ∧ PlainL s.heap a its.toArray ∧ xs.length ≤ sizeLine := by
  rcases h with h | ⟨o, its, n, hk, hc, hd, hs, hz, r⟩
  · obtain ⟨z, its, n, r, e⟩ := h.ok I.hok
    exact ⟨its, r, ⟨_, n, e, rfl, rfl, rfl⟩, z⟩
  · refine ⟨its.toList, r, ⟨o, n, I.kIn a o hk, hc, hd, by simpa using hs⟩, ?_⟩
    have e := r.length
    simp only [Array.length_toList] at e
    omega
theorem Inv.tuple (I : Inv X pins σ H s) (h : SqT X.K H a xs) : ∃ its : List Value, Vals xs its ∧ IsTup s.heap a its.toArray ∧ xs.length ≤ sizeLine := by
  rcases h with h | ⟨o, its, n, hk, hc, hs, hz, r⟩
  · obtain ⟨z, its, r, p⟩ := h.ok I.hok
    exact ⟨its, r, p, z⟩
  · refine ⟨its.toList, r, ⟨o, I.kIn a o hk, hc, n, by simpa using hs⟩, ?_⟩
    have e := r.length
    simp only [Array.length_toList] at e
    omega
theorem Inv.list_inj (I : Inv X pins σ H s) (h : SqL X.K H a xs) (h' : SqL X.K H a ys) : xs = ys := by
  obtain ⟨its, r, ⟨o, n, e, _, _, d⟩, _⟩ := I.list h
  obtain ⟨its', r', ⟨o', n', e', _, _, d'⟩, _⟩ := I.list h'
  rw [e] at e'; cases e'
  rw [d] at d'
  injection d' with d1 _
  have : its = its' := by simpa using congrArg Array.toList d1
  subst this
  exact r.inj r'
end

abbrev Cx.wish (X : Cx) (E : Value → Shared → Prop) : Cx := { X with xe := E }
abbrev Cx.nox (X : Cx) : Cx := X.wish fun _ _ => False
theorem Cx.Ok.wish {X : Cx} (ok : X.Ok) (E : Value → Shared → Prop) : (X.wish E).Ok :=
  ⟨ok.mod, ok.kind, ok.glob, ok.blt, ok.above, ok.inj, ok.has, ok.cab, ok.hd, ok.frames, ok.stk, ok.exf, ok.bs, ok.bsz, ok.noex, ok.exfs, ok.funs, ok.frf⟩
theorem Cx.Ok.unwish {X : Cx} {E : Value → Shared → Prop} (ok : (X.wish E).Ok) : X.Ok :=
  ⟨ok.mod, ok.kind, ok.glob, ok.blt, ok.above, ok.inj, ok.has, ok.cab, ok.hd, ok.frames, ok.stk, ok.exf, ok.bs, ok.bsz, ok.noex, ok.exfs, ok.funs, ok.frf⟩
section
variable {X : Cx} {pins : List (Addr × Obj)} {σ : St} {H : Hp} {s : Shared} {E : Value → Shared → Prop}
theorem Inv.wish (I : Inv X pins σ H s) (E : Value → Shared → Prop) : Inv (X.wish E) pins σ H s := ⟨I.ok.wish E, I.os, I.bare, I.base, I.loc, I.cell, I.free, I.freeC, I.pin, I.hok, I.len⟩
theorem Inv.unwish (I : Inv (X.wish E) pins σ H s) : Inv X pins σ H s := ⟨I.ok.unwish, I.os, I.bare, I.base, I.loc, I.cell, I.free, I.freeC, I.pin, I.hok, I.len⟩
theorem SP.unwish {D : Ends} {f : Flow} {s' : Shared} (h : SP (X.wish E) pins D f s') : SP X pins D f s' := by
  cases f with
  | next => obtain ⟨σ', H', I, q⟩ := h; exact ⟨σ', H', I.unwish, q⟩
  | brk => obtain ⟨σ', H', I, q⟩ := h; exact ⟨σ', H', I.unwish, q⟩
  | cont => obtain ⟨σ', H', I, q⟩ := h; exact ⟨σ', H', I.unwish, q⟩
  | ret u => obtain ⟨v, σ', H', I, r, q⟩ := h; exact ⟨v, σ', H', I.unwish, r, q⟩
theorem PSs.nox {st : List Stmt} {t : TS} (h : PSs X.nox st t) : PSs X st t := fun pins s σ H D I hw =>
  wpAny_mono (h pins s σ H D (I.wish _) hw) (fun _ _ q => q.unwish) fun _ _ z => False.elim z
end

section
variable {X : Cx} {st : Stmt} {rest : List Stmt} {t u : TS} {e : Expr} {te : TE} {pos : Pos}
def tNext : TS := fun D σ H => D.nx σ H
def tSeq (t u : TS) : TS := fun D σ H => t { D with nx := u D } σ H
theorem pss_nil : PSs X [] tNext := fun _ _ σ H _ I h => wpAny_execs_nil ⟨σ, H, I, h⟩
theorem pss_cons (h1 : PS X st t) (h2 : PSs X rest u) : PSs X (st :: rest) (tSeq t u) := by
  intro pins s σ H D I h
  refine wpAny_execs_cons (thn (h1 pins s σ H { D with nx := u D } I h) fun f s1 q => ?_)
  cases f with
  | next =>
    obtain ⟨σ', H', I', q⟩ := q
    exact h2 pins s1 σ' H' D I' q
  | ret v => exact q
  | brk => exact q
  | cont => exact q
theorem pss_one (h1 : PS X st t) : PSs X [st] t := by
  intro pins s σ H D I h
  refine wpAny_execs_cons (thn (h1 pins s σ H D I h) fun f s1 q => ?_)
  cases f with
  | next => exact wpAny_execs_nil q
  | ret v => exact q
  | brk => exact q
  | cont => exact q
def tBreak : TS := fun D σ H => D.bk σ H
def tCont : TS := fun D σ H => D.ct σ H
theorem Inv.quiet {pins : List (Addr × Obj)} {σ : St} {H : Hp} {s : Shared} (I : Inv X pins σ H s) : interactive X.env = false := by simp [interactive, I.ok.kind]
def tDrop (te : TE) : TS := fun D σ H => te σ H fun _ H1 => D.nx σ H1
theorem ps_expr (he : PE X e te) (hs : swapsWith e none pos.line X.env = pure false := by rfl) : PS X (.Expr e pos) (tDrop te) := by
  intro pins s σ H D I h
  exact wpAny_Expr_any (thn (he pins s σ H _ I h) fun v s1 ⟨x, H1, I1, r1, q1⟩ => ⟨σ, H1, I1, q1⟩) I.quiet hs
def tRet (te : TE) : TS := fun D σ H => te σ H D.rt
theorem ps_ret (he : PE X e te) : PS X (.Return (some e) pos) (tRet te) := by
  intro pins s σ H D I h
  exact wpAny_Return_some (thn (he pins s σ H _ I h) fun v s1 ⟨x, H1, I1, r1, q1⟩ => ⟨x, σ, H1, I1, r1, q1⟩)
def tRetN : TS := fun D _ H => D.rt .non H
def tIfS (c : TT) (t u : TS) : TS := fun D σ H => c σ H fun b H1 => if b = true then t D σ H1 else u D σ H1
theorem ps_if {c : Expr} {a b : List Stmt} {tc : TT} (hc : PT X c tc) (ha : PSs X a t) (hb : PSs X b u) : PS X (.If c a b pos) (tIfS tc t u) := by
  intro pins s σ H D I h
  refine wpAny_If (thn (hc pins s σ H _ I h) fun d s1 ⟨H1, I1, q1⟩ => ?_)
  cases d with
  | true => exact ha pins s1 σ H1 D I1 q1
  | false => exact hb pins s1 σ H1 D I1 q1
def tNever : TS := fun _ _ _ => False
end

abbrev TG := V → St → Hp → (St → Hp → Prop) → Prop
abbrev TGs := List V → St → Hp → (St → Hp → Prop) → Prop
def PG (X : Cx) (target : Expr) (t : TG) : Prop :=
  ∀ (pins : List (Addr × Obj)) (s : Shared) (σ : St) (H : Hp) (v : V) (u : Value) (Q : St → Hp → Prop), Inv X pins σ H s → RelV v u → t v σ H Q →
    wpAny (model X.prog X.w) X.A (assign target X.env u) (fun _ s' => ∃ σ' H', Inv X pins σ' H' s' ∧ Q σ' H') X.xe s
def PGs (X : Cx) (ts : List Expr) (t : TGs) : Prop :=
  ∀ (pins : List (Addr × Obj)) (s : Shared) (σ : St) (H : Hp) (vs : List V) (us : List Value) (Q : St → Hp → Prop), Inv X pins σ H s → Vals vs us → t vs σ H Q →
    wpAny (model X.prog X.w) X.A (assignInOrder ((assignEach ts X.env).map (·.2)) us) (fun _ s' => ∃ σ' H', Inv X pins σ' H' s' ∧ Q σ' H') X.xe s
abbrev TSet := V → V → V → Hp → (Hp → Prop) → Prop
def PSet (X : Cx) (t : TSet) : Prop :=
  ∀ (pins : List (Addr × Obj)) (s : Shared) (σ : St) (H : Hp) (o i v : V) (ov iv u : Value) (Q : Hp → Prop), Inv X pins σ H s → RelV o ov → RelV i iv → RelV v u → t o i v H Q →
    wpAny (model X.prog X.w) X.A (setItem ov iv u) (fun _ s' => ∃ H', Inv X pins σ H' s' ∧ Q H') X.xe s
abbrev TIp := V → V → Hp → VK → Prop
def PIp (X : Cx) (op : Operator) (t : TIp) : Prop :=
  ∀ (pins : List (Addr × Obj)) (s : Shared) (σ : St) (H : Hp) (x y : V) (v u : Value) (Q : VK), Inv X pins σ H s → RelV x v → RelV y u → t x y H Q →
    wpAny (model X.prog X.w) X.A (inplaceOp op v u) (EP X pins σ Q) X.xe s
section
variable {X : Cx} {pos : Pos}
def gName (i : Nat) : TG := fun v σ H Q => Q (σ.set i (some v)) H
theorem pg_name {i : Nat} {x : Str} (hN : X.N.Nodup) (hi : X.N[i]? = some x) (hx : Loc X.env.scope x) (hf : X.fn x = true ∨ X.env.scope.names.lookup x = some .local := by first | exact .inl rfl | exact .inr rfl | assumption) : PG X (.Name x pos) (gName i) := by
  intro pins s σ H v u Q I r h
  exact wpAny_assign_Name (store_ok I hN hi hx r (fun s' I' => ⟨_, H, I', h⟩) hf)
def gNil : TGs := fun vs σ H Q => vs = [] ∧ Q σ H
def gCons (t : TG) (u : TGs) : TGs := fun vs σ H Q => ∃ v r, vs = v :: r ∧ t v σ H fun σ' H' => u r σ' H' Q
def gTup (K : PySem.W.Frag) (n : Nat) (t : TGs) : TG := fun v σ H Q => ∃ a xs, v = .ref a ∧ SqT K H a xs ∧ xs.length = n ∧ t xs σ H Q
def gSub (to ti : TE) (t : TSet) : TG := fun v σ H Q => to σ H fun o H1 => ti σ H1 fun i H2 => t o i v H2 fun H3 => Q σ H3
theorem pg_sub {o i : Expr} {to ti : TE} {t : TSet} (ho : PE X o to) (hi : PE X i ti) (hs : PSet X t)
    (ha : ∀ v, assign (.Subscript o i pos) X.env v = (do
      let ov ← holding [v] (eval o X.env)
      let iv ← holding [v, ov] (eval i X.env)
      standAt pos
      holding [v, ov, iv] (setItem ov iv v)
      release [v, ov, iv] []) := by intro _; rfl) : PG X (.Subscript o i pos) (gSub to ti t) := by
  intro pins s σ H v u Q I r h
  rw [ha]
  refine wpAny_bind (wpAny_holding (thn (ho pins s σ H _ I h) fun ov s1 ⟨x, H1, I1, r1, q1⟩ => ?_))
  refine wpAny_bind (wpAny_holding (thn (hi pins s1 σ H1 _ I1 q1) fun iv s2 ⟨y, H2, I2, r2, q2⟩ => ?_))
  refine wpAny_bind (wpAny_standAt (wpAny_bind (wpAny_holding (thn (hs pins s2 σ H2 x y v ov iv u _ I2 r1 r2 r q2) fun _ s3 ⟨H3, I3, q3⟩ => ?_))))
  exact wpAny_release ⟨σ, H3, I3, q3⟩
def tAsg (te : TE) (g : TG) : TS := fun D σ H => te σ H fun x H1 => g x σ H1 D.nx
theorem ps_asg {tg e : Expr} {te : TE} {g : TG} (he : PE X e te) (hg : PG X tg g) (hs : swapsWithSole [tg] e pos.line X.env = pure false := by rfl) (hw : swappedStores [tg] e X.env = pure none := by rfl)
    (h1 : (assignEach [tg] X.env).map (·.2) = [assign tg X.env] := by rfl) : PS X (.Assign [tg] e pos) (tAsg te g) := by
  intro pins s σ H D I h
  refine wpAny_Assign_stores (thn (he pins s σ H _ I h) fun v s1 ⟨x, H1, I1, r1, q1⟩ => ?_) hs hw
  rw [h1]
  exact thn (hg pins s1 σ H1 x v _ I1 r1 q1) fun _ s2 q => q
theorem ps_set {i : Nat} {x : Str} {e : Expr} {te : TE} {pos' : Pos} (hN : X.N.Nodup) (hi : X.N[i]? = some x) (hx : Loc X.env.scope x) (he : PE X e te) (hs : swapsWith e (some (.Name x pos')) pos.line X.env = pure false := by rfl) (hf : X.fn x = true ∨ X.env.scope.names.lookup x = some .local := by first | exact .inl rfl | exact .inr rfl | assumption) :
    PS X (.Assign [.Name x pos'] e pos) (tAsg te (gName i)) := by
  intro pins s σ H D I h
  refine wpAny_Assign_Name (thn (he pins s σ H _ I h) fun v s1 ⟨y, H1, I1, r1, q1⟩ => ?_) hs
  exact store_ok I1 hN hi hx r1 (fun s2 I2 => ⟨_, H1, I2, q1⟩) hf
def tPar (i j : Nat) (ta : TA) : TS := fun D σ H => ta σ H fun vs H1 => ∃ v w, vs = [v, w] ∧ D.nx ((σ.set i (some v)).set j (some w)) H1
def tAug (i : Nat) (te : TE) (ti : TIp) : TS := fun D σ H => ∃ x, σ[i]? = some (some x) ∧ te σ H fun y H1 => ti x y H1 fun z H2 => D.nx (σ.set i (some z)) H2
def tAugS (to ti te : TE) (tget : V → V → Hp → VK → Prop) (tip : TIp) (tset : TSet) : TS := fun D σ H => to σ H fun o H1 => ti σ H1 fun i H2 => tget o i H2 fun x H3 => te σ H3 fun y H4 => tip x y H4 fun z H5 => tset o i z H5 fun H6 => D.nx σ H6
def PGet (X : Cx) (t : V → V → Hp → VK → Prop) : Prop :=
  ∀ (pins : List (Addr × Obj)) (s : Shared) (σ : St) (H : Hp) (o i : V) (ov iv : Value) (Q : VK), Inv X pins σ H s → RelV o ov → RelV i iv → t o i H Q →
    wpAny (model X.prog X.w) X.A (getItem ov iv) (EP X pins σ Q) X.xe s
def ipI (f : Int → Int → Int) : TIp := fun x y H Q => ∃ i j, x = .int i ∧ y = .int j ∧ Q (.int (f i j)) H
end

section
variable {X : Cx} {pos : Pos}
def tWhile (c : TT) (tb : TS) : TS := fun D σ H => ∃ W : Nat → St → Hp → Prop, (∃ m, W m σ H) ∧ ∀ m σ H, W m σ H →
  c σ H fun b H1 => if b = true then ∃ N : St → Hp → Prop, (∀ σ' H', N σ' H' → ∃ m', m' < m ∧ W m' σ' H') ∧ tb { D with nx := N, ct := N, bk := D.nx } σ H1 else D.nx σ H1
theorem ps_while {c : Expr} {body : List Stmt} {tc : TT} {tb : TS} (hp : PassesOwn (model X.prog X.w) X.A X.env X.xe) (hc : PT X c tc) (hb : PSs X body tb) : PS X (.While c body [] pos) (tWhile tc tb) := by
  intro pins s σ H D I h
  obtain ⟨W, ⟨m0, w0⟩, turn⟩ := h
  refine wpAny_While (codeAny_whileLoop (fun n s' => ∃ σ' H', Inv X pins σ' H' s' ∧ W n σ' H') ?_ m0 ⟨σ, H, I, w0⟩)
  rintro n s1 ⟨σ1, H1, I1, w1⟩
  refine wpAny_passesOwn hp (thn (hc pins s1 σ1 H1 _ I1 (turn n σ1 H1 w1)) fun b s2 ⟨H2, I2, q2⟩ => ?_)
  cases b with
  | true =>
    obtain ⟨N, hN, q2⟩ := q2
    rw [if_pos rfl]
    refine wpAny_passesOwn hp (thn (hb pins s2 σ1 H2 _ I2 q2) fun f s3 q3 => ?_)
    cases f with
    | next =>
      obtain ⟨σ3, H3, I3, n3⟩ := q3
      obtain ⟨m', hm, w3⟩ := hN σ3 H3 n3
      exact ⟨m', hm, σ3, H3, I3, w3⟩
    | cont =>
      obtain ⟨σ3, H3, I3, n3⟩ := q3
      obtain ⟨m', hm, w3⟩ := hN σ3 H3 n3
      exact ⟨m', hm, σ3, H3, I3, w3⟩
    | brk => exact q3
    | ret v => exact q3
  | false =>
    rw [if_neg Bool.false_ne_true]
    exact wpAny_execs_nil ⟨σ1, H2, I2, q2⟩
end

structure It where
  go : Nat → Hp → Prop
  yld : Nat → Hp → V → Hp → Prop
  stop : Nat → Hp → Prop
def FpOk (X : Cx) (pins : List (Addr × Obj)) (H : Hp) (b : Addr) : Prop :=
  H b = none ∧ b ≠ X.env.locals ∧ b ∉ X.fs ∧ (b ∈ X.ex ∨ X.s_0.heap.objs.size ≤ b) ∧ (∀ x c, X.env.cells.lookup x = some c → c ≠ b) ∧ ∀ p ∈ X.pn ++ pins, p.1 ≠ b
theorem Inv.fpOk {X : Cx} {pins : List (Addr × Obj)} {σ : St} {H H' : Hp} {s : Shared} {b : Addr} (I : Inv X pins σ H s) (hb : s.heap.objs.size ≤ b) (hn : H' b = none) : FpOk X pins H' b := by
  refine ⟨hn, Nat.ne_of_gt (Nat.lt_of_lt_of_le I.lt hb), I.nofs hb, .inr (Nat.le_trans I.sz hb), fun x c e z => ?_, fun p hp z => ?_⟩
  · obtain ⟨v, q⟩ := I.cell x c e
    exact absurd (Nat.lt_of_lt_of_le q.lt (by rw [z]; exact hb)) (Nat.lt_irrefl _)
  · exact absurd (Nat.lt_of_lt_of_le (Heap.lt_size (I.pin p hp).1) (by rw [z]; exact hb)) (Nat.lt_irrefl _)
structure Turn (P : Program) (w : World) (K : PySem.W.Frag) (tg : Expr) (J : It) (fp : List Addr) (it : Addr) (tn : Nat → Heap → Prop) : Prop where
  mem : it ∈ fp
  obj : ∀ i h, tn i h → ∀ b ∈ fp, ∃ o, h.get? b = some o ∧ ∀ v, o.data ≠ .cell v
  keep : ∀ i h h', tn i h → (∀ b ∈ fp, ∀ o, h.get? b = some o → h'.get? b = some o) → tn i h'
  item : ∀ (X : Cx), X.prog = P → X.w = w → X.K = K → X.calm = true → ∀ (i : Nat) (pins : List (Addr × Obj)) (s : Shared) (σ : St) (H : Hp) (E : Value → Shared → Prop), Inv X pins σ H s → (∀ b ∈ fp, FpOk X pins H b) → tn i s.heap → J.go i H →
    wpAny (model P w) X.A (pyNext (.ref it)) (fun r s1 => ∃ u, r = some u ∧
      wpAny (model P w) X.A (letOwnedTupleGo tg (.ref it) u) (fun _ s2 => ∃ x H', Inv X pins σ H' s2 ∧ RelV x u ∧ J.yld i H x H' ∧ tn (i + 1) s2.heap ∧ ∀ b ∈ fp, H' b = none) E s1) E s
  done : ∀ (X : Cx), X.prog = P → X.w = w → X.K = K → X.calm = true → ∀ (i : Nat) (pins : List (Addr × Obj)) (s : Shared) (σ : St) (H : Hp) (E : Value → Shared → Prop), Inv X pins σ H s → (∀ b ∈ fp, FpOk X pins H b) → tn i s.heap → J.stop i H →
    wpAny (model P w) X.A (pyNext (.ref it)) (fun r s1 => r = none ∧ Inv X pins σ H s1) E s
  self : ∀ (A : Around) (i : Nat) (s : Shared) (Q : Value → Shared → Prop) (E : Value → Shared → Prop), tn i s.heap → Q (.ref it) s → wpAny (model P w) A (pyIter (.ref it)) Q E s
abbrev TI := St → Hp → (It → Hp → Prop) → Prop
def PIE (X : Cx) (pins : List (Addr × Obj)) (σ : St) (tg : Expr) (R : It → Hp → Prop) (itv : Value) (s2 : Shared) : Prop :=
  ∃ (it : Addr) (fp : List Addr) (tn : Nat → Heap → Prop) (J : It) (H' : Hp), itv = .ref it ∧ Inv X pins σ H' s2 ∧ Turn X.prog X.w X.K tg J fp it tn ∧ tn 0 s2.heap ∧ (∀ b ∈ fp, FpOk X pins H' b) ∧ R J H'
def PI (X : Cx) (tg iter : Expr) (wi : TI) : Prop :=
  ∀ (pins : List (Addr × Obj)) (s : Shared) (σ : St) (H : Hp) (R : It → Hp → Prop), Inv X pins σ H s → wi σ H R →
    wpAny (model X.prog X.w) X.A (eval iter X.env) (fun v s1 => wpAny (model X.prog X.w) X.A (pyIter v) (PIE X pins σ tg R) X.xe s1) X.xe s

theorem go_of {M : Model} {A : Around} {E : Value → Shared → Prop} {s : Shared} {tg : Expr} {it : Addr} {u : Value} {o : Obj} {n : String} {vs : Array Value} {Q : Unit → Shared → Prop} (ho : s.heap.get? it = some o) (hc : o.cls = .type n) (hd : o.data = .fields vs)
    (hn : ["enumerate", "zip", "dict_itemiterator", "dict_reverseitemiterator", "odict_iterator", "itertools.zip_longest", "itertools.pairwise"].contains n = false) (hQ : Q () s) : wpAny M A (letOwnedTupleGo tg (.ref it) u) Q E s := by
  unfold letOwnedTupleGo
  cases tg <;> first
    | exact wpAny_pure hQ
    | (cases u <;> first
        | exact wpAny_pure hQ
        | (refine wpAny_bind (wpAny_load ho ?_)
           rw [hc, hd]
           show wpAny M A (if (["enumerate", "zip", "dict_itemiterator", "dict_reverseitemiterator", "odict_iterator", "itertools.zip_longest", "itertools.pairwise"].contains n && vs[0]? == some (rawInt _)) = true then _ else _) Q E s
           rw [if_neg (by intro h; rw [hn, Bool.false_and] at h; cases h)]
           exact wpAny_pure hQ))

def Itl (K : PySem.W.Frag) (a : Addr) : It :=
  ⟨fun i H => ∃ xs x, SqL K H a xs ∧ xs[i]? = some x, fun i H x H' => H' = H ∧ ∀ xs, SqL K H a xs → xs[i]? = some x, fun i H => ∃ xs, SqL K H a xs ∧ xs.length ≤ i⟩
def Itt (K : PySem.W.Frag) (a : Addr) : It :=
  ⟨fun i H => ∃ xs x, SqT K H a xs ∧ xs[i]? = some x, fun i H x H' => H' = H ∧ ∀ xs, SqT K H a xs → xs[i]? = some x, fun i H => ∃ xs, SqT K H a xs ∧ xs.length ≤ i⟩
def Itr (lo : Int) (n : Nat) : It := ⟨fun i _ => i < n, fun i H x H' => H' = H ∧ x = .int (lo + i), fun i _ => n ≤ i⟩
theorem turn_list {P : Program} {w : World} {K : PySem.W.Frag} {tg : Expr} (a it : Addr) : Turn P w K tg (Itl K a) [it] it (fun i h => h.IsListIter it a i) where
  mem := by simp
  obj := fun i h st b hb => by
    have e : b = it := by simpa using hb
    subst e
    obtain ⟨o, e, c, d⟩ := st
    exact ⟨o, e, fun v z => by rw [d] at z; cases z⟩
  keep := fun i h h' st k => st.at fun o e => k it (by simp) o e
  item := by
    intro X hP hw hK hc i pins s σ H E I hf st hg
    subst hP hw hK
    obtain ⟨xs, x, hq, hx⟩ := hg
    obtain ⟨its, rv, p, hz⟩ := I.list hq
    obtain ⟨u, hu, ru⟩ := rv.get hx
    obtain ⟨f0, f1, f2, f3, f4, f5⟩ := hf it (by simp)
    refine wpAny_pyNext_list_item st p.isList (x := u) (by simpa using hu) fun h' st' sb => ?_
    have I1 : Inv X pins σ H { s with heap := h' } := I.turned (t' := s.toks) (fun b o hb e => (sb.2 b hb).trans e) f0 f1 f3 f4 f5
    obtain ⟨o, e, c, d⟩ := id st'
    exact ⟨u, rfl, go_of (s := { s with heap := h' }) e c d (by decide) ⟨x, H, I1, ru, ⟨rfl, fun ys hy => by rw [I.list_inj hy hq]; exact hx⟩, st', fun b hb => (hf b hb).1⟩⟩
  done := by
    intro X hP hw hK hc i pins s σ H E I hf st hg
    subst hP hw hK
    obtain ⟨xs, hq, hx⟩ := hg
    obtain ⟨its, rv, p, hz⟩ := I.list hq
    obtain ⟨f0, f1, f2, f3, f4, f5⟩ := hf it (by simp)
    have hl := rv.length
    exact wpAny_pyNext_list_end (I.ok.hd hc) st p.isList (by simp; omega) fun h' eb => ⟨rfl, I.turned (t' := s.toks) (fun b o hb e => eb b o hb e) f0 f1 f3 f4 f5⟩
  self := fun _ _ _ _ _ st h => wpAny_pyIter_listiter st h
theorem turn_range {P : Program} {w : World} {K : PySem.W.Frag} {tg : Expr} (it : Addr) (lo : Int) (n : Nat) : Turn P w K tg (Itr lo n) [it] it (fun i h => IsRangeIter h it (lo + (i : Nat) * 1) ((n : Int) - (i : Nat)) 1) where
  mem := by simp
  obj := fun i h st b hb => by
    have e : b = it := by simpa using hb
    subst e
    exact ⟨_, st, fun v z => by
      have z' : Data.fields _ = Data.cell v := z
      cases z'⟩
  keep := fun i h h' st k => k it (by simp) _ st
  item := by
    intro X hP hw hK hc i pins s σ H E I hf st hg
    subst hP hw hK
    obtain ⟨f0, f1, f2, f3, f4, f5⟩ := hf it (by simp)
    have W := Walks.range (prog := X.prog) (w := X.w) (I.ok.hd hc) it lo 1 n
    refine W.item i s _ _ hg st fun v h' tk hv st' kk => ?_
    obtain ⟨t, rfl⟩ := hv
    have I1 : Inv X pins σ H { s with heap := h', toks := tk } := I.turned (fun b o hb e => kk b o (by simpa using hb) e) f0 f1 f3 f4 f5
    refine ⟨_, rfl, go_of (s := { s with heap := h', toks := tk }) (n := "range_iterator") st' rfl rfl (by decide) ⟨.int (lo + i), H, I1, ⟨t, ?_⟩, ⟨rfl, rfl⟩, st', fun b hb => (hf b hb).1⟩⟩
    rw [Int.mul_one]
  done := by
    intro X hP hw hK hc i pins s σ H E I hf st hg
    subst hP hw hK
    obtain ⟨f0, f1, f2, f3, f4, f5⟩ := hf it (by simp)
    exact wpAny_pyNext_range_end (I.ok.hd hc) st (by have : n ≤ i := hg; omega) fun h' eb => ⟨rfl, I.turned (t' := s.toks) (fun b o hb e => eb b o hb e) f0 f1 f3 f4 f5⟩
  self := fun _ _ _ _ _ st h => wpAny_pyIter_rangeiter st h
end L2

namespace L2
open PySem PySem.Spec PyProof.Rows
section
variable {X : Cx} {tg : Expr}
def iList (K : PySem.W.Frag) (tl : TE) : TI := fun σ H R => tl σ H fun x H1 => ∃ a, x = .ref a ∧ (∃ xs, SqL K H1 a xs) ∧ R (Itl K a) H1
def iTup (K : PySem.W.Frag) (tl : TE) : TI := fun σ H R => tl σ H fun x H1 => ∃ a, x = .ref a ∧ (∃ xs, SqT K H1 a xs) ∧ R (Itt K a) H1
theorem pi_list {l : Expr} {tl : TE} (hl : PE X l tl) : PI X tg l (iList X.K tl) := by
  intro pins s σ H R I h
  refine thn (hl pins s σ H _ I h) fun v s1 ⟨x, H1, I1, r1, q1⟩ => ?_
  obtain ⟨a, e, ⟨xs, hq⟩, q⟩ := q1
  subst e
  cases r1
  obtain ⟨its, rv, p, hz⟩ := I1.list hq
  refine wpAny_pyIter_list p.isList ?_
  refine ⟨s1.heap.objs.size, [s1.heap.objs.size], _, _, H1, rfl, I1.kept (t' := s1.toks) fun b o e => Heap.get?_push_of_some _ e, turn_list a _, ⟨_, Heap.get?_push_size _ rfl, rfl, rfl⟩, fun b hb => ?_, q⟩
  have e : b = s1.heap.objs.size := by simpa using hb
  subst e
  exact I1.fpOk (Nat.le_refl _) (I1.hok.fresh (Nat.le_refl _))
theorem range_it {pins : List (Addr × Obj)} {σ : St} {H : Hp} {s : Shared} {R : It → Hp → Prop} {E : Value → Shared → Prop} {lo hi : Int} {t u v : Tok} {tk : Nat} (I : Inv X pins σ H s) (h1 : -(2 ^ 62) ≤ lo) (h2 : lo < 2 ^ 62) (h3 : -(2 ^ 62) ≤ hi) (h4 : hi < 2 ^ 62)
    (q : R (Itr lo (hi - lo).toNat) H) : wpAny (model X.prog X.w) X.A (pyIter (.ref s.heap.objs.size)) (PIE X pins σ tg R) E { s with heap := s.heap.push { cls := .type "range", data := .fields #[.int lo t, .int hi u, .int 1 v] }, toks := tk } := by
  refine wpAny_pyIter_range (IsRange.new ..) (small_one h1 h2 h3 h4) ?_
  have I1 : Inv X pins σ H { s with heap := s.heap.push { cls := .type "range", data := .fields #[.int lo t, .int hi u, .int 1 v] }, toks := tk } := I.kept fun b o e => Heap.get?_push_of_some _ e
  refine ⟨(s.heap.push { cls := .type "range", data := .fields #[.int lo t, .int hi u, .int 1 v] }).objs.size, [(s.heap.push { cls := .type "range", data := .fields #[.int lo t, .int hi u, .int 1 v] }).objs.size], _, _, H, rfl,
    I1.kept (t' := tk) fun b o e => Heap.get?_push_of_some _ e, turn_range _ lo (hi - lo).toNat, ?_, fun b hb => ?_, q⟩
  · have e1 : lo + ((0 : Nat) : Int) * 1 = lo := by simp
    have e2 : (((hi - lo).toNat : Nat) : Int) - ((0 : Nat) : Int) = Builtin.Range.rangeSize lo hi 1 := by rw [rangeSize_one]; split <;> omega
    show IsRangeIter _ _ (lo + ((0 : Nat) : Int) * 1) ((((hi - lo).toNat : Nat) : Int) - ((0 : Nat) : Int)) 1
    rw [e1, e2]
    exact Heap.get?_push_size _ rfl
  · have e : b = (s.heap.push { cls := .type "range", data := .fields #[.int lo t, .int hi u, .int 1 v] }).objs.size := by simpa using hb
    subst e
    exact I1.fpOk (Nat.le_refl _) (I1.hok.fresh (Nat.le_refl _))
def iRng1 (ta : TA) : TI := fun σ H R => ta σ H fun vs H1 => ∃ j : Int, vs = [.int j] ∧ -(2 ^ 62) ≤ j ∧ j < 2 ^ 62 ∧ R (Itr 0 j.toNat) H1
def iRng2 (ta : TA) : TI := fun σ H R => ta σ H fun vs H1 => ∃ i j : Int, vs = [.int i, .int j] ∧ (-(2 ^ 62) ≤ i ∧ i < 2 ^ 62 ∧ -(2 ^ 62) ≤ j ∧ j < 2 ^ 62) ∧ R (Itr i (j - i).toNat) H1
theorem pi_range1 {a : Expr} {ta : TA} {p pos : Pos} (hg : Gl X "range") (hm : X.mg "range" = none) (ha : PA X [a] ta) (hs : starEach [a] X.env = [(false, eval a X.env)] := by rfl) : PI X tg (.Call (.Name "range" p) [a] [] pos) (iRng1 ta) := by
  intro pins s σ H R I h
  refine Call_ (ld_blt I hg hm boot_range (PyProof.Rows.callWith_type1 (thn (ha pos pins s σ H _ I h) fun us s1 ⟨vs, H1, I1, r1, q1⟩ => ?_) hs rfl))
  obtain ⟨j, e, q1, q2, q⟩ := q1
  subst e
  cases r1 with
  | cons r rr =>
    cases rr
    obtain ⟨t, rfl⟩ := r
    exact call_range_1 (range_it I1 (by omega) (by omega) q1 q2 (by simpa using q))
def tFor (wi : TI) (g : TG) (tb : TS) : TS := fun D σ H => wi σ H fun J H1 => ∃ W : Nat → Nat → St → Hp → Prop, (∃ m, W 0 m σ H1) ∧ ∀ i m σ H, W i m σ H →
  (J.stop i H ∧ D.nx σ H) ∨ (J.go i H ∧ ∃ N : St → Hp → Prop, (∀ σ' H', N σ' H' → ∃ m', m' < m ∧ W (i + 1) m' σ' H') ∧ ∀ x H', J.yld i H x H' → g x σ H' fun σ2 H2 => tb { D with nx := N, ct := N, bk := D.nx } σ2 H2)
def pinsAt (fp : List Addr) (h : Heap) : List (Addr × Obj) := fp.filterMap fun b => (h.get? b).map fun o => (b, o)
theorem mem_pinsAt {fp : List Addr} {h : Heap} {b : Addr} {o : Obj} (hb : b ∈ fp) (e : h.get? b = some o) : (b, o) ∈ pinsAt fp h := List.mem_filterMap.mpr ⟨b, hb, by rw [e]; rfl⟩
theorem of_pinsAt {fp : List Addr} {h : Heap} {p : Addr × Obj} (hp : p ∈ pinsAt fp h) : p.1 ∈ fp ∧ h.get? p.1 = some p.2 := by
  obtain ⟨b, hb, e⟩ := List.mem_filterMap.mp hp
  cases q : h.get? b with
  | none => rw [q] at e; cases e
  | some o =>
    rw [q] at e
    have e' : (b, o) = p := Option.some.inj e
    subst e'
    exact ⟨hb, q⟩
theorem Inv.pinned {pins : List (Addr × Obj)} {σ : St} {H : Hp} {s : Shared} {fp : List Addr} (I : Inv X pins σ H s) (hf : ∀ b ∈ fp, FpOk X pins H b) (ho : ∀ b ∈ fp, ∃ o, s.heap.get? b = some o ∧ ∀ v, o.data ≠ .cell v) : Inv X (pins ++ pinsAt fp s.heap) σ H s :=
  I.pins_of fun p hp => (List.mem_append.mp hp).elim (fun z => I.pin p (List.mem_append_right _ z)) fun z => by
    obtain ⟨hb, e⟩ := of_pinsAt z
    obtain ⟨f0, f1, f2, _⟩ := hf p.1 hb
    obtain ⟨o, e', d⟩ := ho p.1 hb
    rw [e] at e'; cases e'
    exact ⟨e, f0, f1, f2, d⟩
theorem Inv.unpinned {pins pl : List (Addr × Obj)} {σ : St} {H : Hp} {s : Shared} (I : Inv X (pins ++ pl) σ H s) : Inv X pins σ H s := I.pins_of fun p hp => I.pin p (List.mem_append_right _ (List.mem_append_left _ hp))
theorem ps_for {iter : Expr} {body : List Stmt} {wi : TI} {g : TG} {tb : TS} {pos : Pos} (hp : PassesOwn (model X.prog X.w) X.A X.env X.xe) (hc : X.calm = true) (hi : PI X tg iter wi) (hg : PG X tg g) (hb : PSs X body tb)
    (hs : ∀ x, foldedSetIterable iter X.env x = pure x := by intro _; rfl) : PS X (.For tg iter body [] pos) (tFor wi g tb) := by
  intro pins s σ H D I h
  refine wpAny_For (thn (hi pins s σ H _ I h) fun v s1 h1 => thn h1 fun itv s2 h2 => ?_) hs
  obtain ⟨it, fp, tn, J, H2, e, I2, T, st2, f2, W, ⟨m0, w0⟩, turn⟩ := h2
  subst e
  -- what stays true of the iterator's objects through the loop
  have stat : ∀ {H' : Hp}, (∀ b ∈ fp, H' b = none) → ∀ b ∈ fp, FpOk X pins H' b := fun hn b hb => ⟨hn b hb, (f2 b hb).2⟩
  refine codeAny_forLoop_any (fun n s' => ∃ i σ' H', Inv X pins σ' H' s' ∧ tn i s'.heap ∧ (∀ b ∈ fp, H' b = none) ∧ W i n σ' H') ?_ m0 ⟨0, σ, H2, I2, st2, fun b hb => (f2 b hb).1, w0⟩
  rintro n s3 ⟨i, σ3, H3, I3, st3, fr3, w3⟩
  rcases turn i n σ3 H3 w3 with ⟨stop, qn⟩ | ⟨go, N, hN, step⟩
  · refine wpAny_passesOwn hp (thn (T.done X rfl rfl rfl hc i pins s3 σ3 H3 X.xe I3 (stat fr3) st3 stop) fun r s4 ⟨hr, I4⟩ => ?_)
    subst hr
    exact wpAny_execs_nil ⟨σ3, H3, I4, qn⟩
  · refine wpAny_passesOwn hp (thn (T.item X rfl rfl rfl hc i pins s3 σ3 H3 X.xe I3 (stat fr3) st3 go) fun r s4 ⟨u, hr, h4⟩ => ?_)
    subst hr
    refine wpAny_passesOwn hp (thn h4 fun _ s5 ⟨x, H5, I5, r5, y5, st5, fr5⟩ => ?_)
    have I5' := I5.pinned (stat fr5) (T.obj _ _ st5)
    refine wpAny_passesOwn hp (thn (hg _ s5 σ3 H5 x u _ I5' r5 (step x H5 y5)) fun _ s6 ⟨σ6, H6, I6, q6⟩ => ?_)
    refine wpAny_passesOwn hp (thn (hb _ s6 σ6 H6 _ I6 q6) fun f s7 q7 => ?_)
    have again : ∀ {σ7 : St} {H7 : Hp}, Inv X (pins ++ pinsAt fp s5.heap) σ7 H7 s7 → N σ7 H7 → ∃ m, m < n ∧ ∃ i σ' H', Inv X pins σ' H' s7 ∧ tn i s7.heap ∧ (∀ b ∈ fp, H' b = none) ∧ W i m σ' H' := fun {σ7 H7} I7 n7 => by
      obtain ⟨m', hm, w7⟩ := hN σ7 H7 n7
      refine ⟨m', hm, i + 1, σ7, H7, I7.unpinned, T.keep _ _ _ st5 fun b hb o e => (I7.pin (b, o) (List.mem_append_right _ (List.mem_append_right _ (mem_pinsAt hb e)))).1, fun b hb => ?_, w7⟩
      obtain ⟨o, e, d⟩ := T.obj _ _ st5 b hb
      exact (I7.pin (b, o) (List.mem_append_right _ (List.mem_append_right _ (mem_pinsAt hb e)))).2.1
    cases f with
    | next => obtain ⟨σ7, H7, I7, n7⟩ := q7; exact again I7 n7
    | cont => obtain ⟨σ7, H7, I7, n7⟩ := q7; exact again I7 n7
    | brk => obtain ⟨σ7, H7, I7, q7⟩ := q7; exact ⟨σ7, H7, I7.unpinned, q7⟩
    | ret v => obtain ⟨x7, σ7, H7, I7, r7, q7⟩ := q7; exact ⟨x7, σ7, H7, I7.unpinned, r7, q7⟩
end

theorem for_range {lo : Int} {n : Nat} {g : TG} {tb : TS} {D : Ends} {σ : St} {H : Hp} (Pv : Nat → St → Hp → Prop) (h0 : Pv 0 σ H)
    (hs : ∀ i σ H, i < n → Pv i σ H → g (.int (lo + i)) σ H fun σ2 H2 => tb { D with nx := Pv (i + 1), ct := Pv (i + 1), bk := D.nx } σ2 H2) (hd : ∀ σ H, Pv n σ H → D.nx σ H) :
    ∃ W : Nat → Nat → St → Hp → Prop, (∃ m, W 0 m σ H) ∧ ∀ i m σ H, W i m σ H →
      ((Itr lo n).stop i H ∧ D.nx σ H) ∨ ((Itr lo n).go i H ∧ ∃ N : St → Hp → Prop, (∀ σ' H', N σ' H' → ∃ m', m' < m ∧ W (i + 1) m' σ' H') ∧ ∀ x H', (Itr lo n).yld i H x H' → g x σ H' fun σ2 H2 => tb { D with nx := N, ct := N, bk := D.nx } σ2 H2) := by
  refine ⟨fun i m σ H => m = n - i ∧ i ≤ n ∧ Pv i σ H, ⟨n, by simp, Nat.zero_le _, h0⟩, ?_⟩
  rintro i m σ H ⟨rfl, hi, p⟩
  by_cases hlt : i < n
  · refine .inr ⟨hlt, Pv (i + 1), fun σ' H' p' => ⟨n - (i + 1), by omega, rfl, hlt, p'⟩, fun x H' y => ?_⟩
    obtain ⟨e, y⟩ := y
    subst e y
    exact hs i σ _ hlt p
  · have e : i = n := by omega
    subst e
    exact .inl ⟨Nat.le_refl _, hd σ H p⟩
theorem while_by {c : TT} {tb : TS} {D : Ends} {σ : St} {H : Hp} (Pv : St → Hp → Prop) (μ : St → Hp → Nat) (h0 : Pv σ H)
    (hs : ∀ σ H, Pv σ H → c σ H fun b H1 => if b = true then tb { D with nx := fun σ' H' => Pv σ' H' ∧ μ σ' H' < μ σ H, ct := fun σ' H' => Pv σ' H' ∧ μ σ' H' < μ σ H, bk := D.nx } σ H1 else D.nx σ H1)
    (mono : ∀ σ H Q Q', (∀ b H1, Q b H1 → Q' b H1) → c σ H Q → c σ H Q') : tWhile c tb D σ H := by
  refine ⟨fun m σ H => m = μ σ H ∧ Pv σ H, ⟨_, rfl, h0⟩, ?_⟩
  rintro m σ H ⟨rfl, p⟩
  refine mono σ H _ _ (fun b H1 q => ?_) (hs σ H p)
  cases b with
  | true => exact ⟨_, fun σ' H' ⟨p', l⟩ => ⟨_, l, rfl, p'⟩, q⟩
  | false => exact q
end L2

namespace L2
open PySem PySem.Spec PyProof.Rows

abbrev R2 := V → V → Hp → VK → Prop
def OpR (X : Cx) (f : Value → Value → Sem Value) (r : R2) : Prop :=
  ∀ (pins : List (Addr × Obj)) (s : Shared) (σ : St) (H : Hp) (x y : V) (v u : Value) (Q : VK), Inv X pins σ H s → RelV x v → RelV y u → r x y H Q →
    wpAny (model X.prog X.w) X.A (f v u) (EP X pins σ Q) X.xe s
def UnR (X : Cx) (f : Value → Sem Value) (r : V → Hp → VK → Prop) : Prop :=
  ∀ (pins : List (Addr × Obj)) (s : Shared) (σ : St) (H : Hp) (x : V) (v : Value) (Q : VK), Inv X pins σ H s → RelV x v → r x H Q →
    wpAny (model X.prog X.w) X.A (f v) (EP X pins σ Q) X.xe s
def CallR (X : Cx) (f : Value) (r : List V → Hp → VK → Prop) : Prop :=
  ∀ (pins : List (Addr × Obj)) (s : Shared) (σ : St) (H : Hp) (xs : List V) (us : List Value) (Q : VK), Inv X pins σ H s → Vals xs us → r xs H Q →
    wpAny (model X.prog X.w) X.A (call f us) (EP X pins σ Q) X.xe s
def TruR (X : Cx) (r : V → Hp → (Bool → Hp → Prop) → Prop) : Prop :=
  ∀ (pins : List (Addr × Obj)) (s : Shared) (σ : St) (H : Hp) (x : V) (v : Value) (Q : Bool → Hp → Prop), Inv X pins σ H s → RelV x v → r x H Q →
    wpAny (model X.prog X.w) X.A (truthy v) (TP X pins σ Q) X.xe s

def tOp (r : R2) (ta tb : TE) : TE := fun σ H Q => ta σ H fun x H1 => tb σ H1 fun y H2 => r x y H2 Q
def tUn (r : V → Hp → VK → Prop) (ta : TE) : TE := fun σ H Q => ta σ H fun x H1 => r x H1 Q
def rI (C : Int → Int → Prop) (g : Int → Int → V) : R2 := fun x y H Q => ∃ i j, x = .int i ∧ y = .int j ∧ C i j ∧ Q (g i j) H
def rI0 (g : Int → Int → V) : R2 := fun x y H Q => ∃ i j, x = .int i ∧ y = .int j ∧ Q (g i j) H
def rU (g : Int → V) : V → Hp → VK → Prop := fun x H Q => ∃ i, x = .int i ∧ Q (g i) H

section
variable {X : Cx} {a b c : Expr} {ta tb tc : TE} {pos : Pos}

theorem binT (ha : PE X a ta) (hb : PE X b tb) {pins : List (Addr × Obj)} {s : Shared} {σ : St} {H : Hp} {R : V → V → Hp → Prop} (I : Inv X pins σ H s)
    (h : ta σ H fun x H1 => tb σ H1 fun y H2 => R x y H2) {Q : Value → Shared → Prop} {f : Value → Value → Sem Value}
    (hf : ∀ v u s2 x y H2, Inv X pins σ H2 s2 → RelV x v → RelV y u → R x y H2 → wpAny (model X.prog X.w) X.A (f v u) Q X.xe s2) :
    wpAny (model X.prog X.w) X.A (eval a X.env) (fun v s₁ => wpAny (model X.prog X.w) X.A (eval b X.env) (fun u s₂ => wpAny (model X.prog X.w) X.A (f v u) Q X.xe s₂) X.xe s₁) X.xe s := by
  refine thn (ha pins s σ H _ I h) fun v s1 ⟨x, H1, I1, r1, q1⟩ => ?_
  refine thn (hb pins s1 σ H1 _ I1 q1) fun u s2 ⟨y, H2, I2, r2, q2⟩ => ?_
  exact hf v u s2 x y H2 I2 r1 r2 q2

theorem pe_op {op : Operator} {r : R2} (ho : OpR X (binaryOp op) r) (ha : PE X a ta) (hb : PE X b tb) : PE X (.BinOp a op b pos) (tOp r ta tb) := by
  intro pins s σ H Q I h
  exact wpAny_BinOp (binT ha hb I h fun v u s2 x y H2 I2 rx ry q => ho pins s2 σ H2 x y v u Q I2 rx ry q)
theorem pe_un {op : UnaryOp} {r : V → Hp → VK → Prop} (ho : UnR X (unaryOp op) r) (ha : PE X a ta) : PE X (.UnaryOp op a pos) (tUn r ta) := by
  intro pins s σ H Q I h
  exact UnaryOp_ (thn (ha pins s σ H _ I h) fun v s1 ⟨x, H1, I1, r1, q1⟩ => ho pins s1 σ H1 x v Q I1 r1 q1)
theorem opI {f : Value → Value → Sem Value} {C : Int → Int → Prop} {g : Int → Int → Int}
    (rule : ∀ (i j : Int) (t u : Tok) (s : Shared) (Q : Value → Shared → Prop) (E : Value → Shared → Prop), C i j → Q (.int (g i j) s.toks) { s with toks := s.toks + 1 } → wpAny (model X.prog X.w) X.A (f (.int i t) (.int j u)) Q E s) :
    OpR X f (rI C fun i j => .int (g i j)) := by
  intro pins s σ H x y v u Q I rx ry h
  obtain ⟨i, j, rfl, rfl, hc, q⟩ := h
  obtain ⟨t, rfl⟩ := rx
  obtain ⟨t', rfl⟩ := ry
  exact rule i j t t' s _ _ hc ⟨.int (g i j), H, I.tok _, ⟨_, rfl⟩, q⟩
theorem opI0 {f : Value → Value → Sem Value} {g : Int → Int → Int}
    (rule : ∀ (i j : Int) (t u : Tok) (s : Shared) (Q : Value → Shared → Prop) (E : Value → Shared → Prop), Q (.int (g i j) s.toks) { s with toks := s.toks + 1 } → wpAny (model X.prog X.w) X.A (f (.int i t) (.int j u)) Q E s) :
    OpR X f (rI0 fun i j => .int (g i j)) := by
  intro pins s σ H x y v u Q I rx ry h
  obtain ⟨i, j, rfl, rfl, q⟩ := h
  obtain ⟨t, rfl⟩ := rx
  obtain ⟨t', rfl⟩ := ry
  exact rule i j t t' s _ _ ⟨.int (g i j), H, I.tok _, ⟨_, rfl⟩, q⟩
theorem opB0 {f : Value → Value → Sem Value} {g : Int → Int → Bool}
    (rule : ∀ (i j : Int) (t u : Tok) (s : Shared) (Q : Value → Shared → Prop) (E : Value → Shared → Prop), Q (.bool (g i j)) s → wpAny (model X.prog X.w) X.A (f (.int i t) (.int j u)) Q E s) :
    OpR X f (rI0 fun i j => .bl (g i j)) := by
  intro pins s σ H x y v u Q I rx ry h
  obtain ⟨i, j, rfl, rfl, q⟩ := h
  obtain ⟨t, rfl⟩ := rx
  obtain ⟨t', rfl⟩ := ry
  exact rule i j t t' s _ _ ⟨.bl (g i j), H, I, rfl, q⟩

def CDiv (i j : Int) : Prop := 0 < j ∧ j < 1073741824
def CDivN (i j : Int) : Prop := j ≠ 0 ∧ j.natAbs < 1073741824
def CPow (i j : Int) : Prop := 0 ≤ j ∧ j ≤ 1000000 ∧ i.natAbs < 2 ^ 64
def CMul (i j : Int) : Prop := (-(2 ^ 64) < i ∧ i < 2 ^ 64) ∨ (-(2 ^ 64) < j ∧ j < 2 ^ 64)
theorem CMul.ok {i j : Int} (h : CMul i j) : IntMulOk i j := by
  rcases h with ⟨h1, h2⟩ | ⟨h1, h2⟩
  · exact .of_left (intBits_le_64 h1 h2)
  · exact .of_right (intBits_le_64 h1 h2)
theorem op_add : OpR X (binaryOp .Add) (rI0 fun i j => .int (i + j)) := opI0 fun _ _ _ _ _ _ _ q => add_int q
theorem op_sub : OpR X (binaryOp .Sub) (rI0 fun i j => .int (i - j)) := opI0 fun _ _ _ _ _ _ _ q => sub_int q
theorem op_mul : OpR X (binaryOp .Mult) (rI CMul fun i j => .int (i * j)) := opI fun _ _ _ _ _ _ _ hc q => mul_int q hc.ok
theorem unI {f : Value → Sem Value} {g : Int → Int}
    (rule : ∀ (i : Int) (t : Tok) (s : Shared) (Q : Value → Shared → Prop) (E : Value → Shared → Prop), Q (.int (g i) s.toks) { s with toks := s.toks + 1 } → wpAny (model X.prog X.w) X.A (f (.int i t)) Q E s) :
    UnR X f (rU fun i => .int (g i)) := by
  intro pins s σ H x v Q I rx h
  obtain ⟨i, rfl, q⟩ := h
  obtain ⟨t, rfl⟩ := rx
  exact rule i t s _ _ ⟨.int (g i), H, I.tok _, ⟨_, rfl⟩, q⟩
theorem un_neg : UnR X (unaryOp .USub) (rU fun i => .int (-i)) := unI fun _ _ _ _ _ q => neg_int q
end

def scal : V → V → Bool
  | .non, .non => true | .non, .int _ => true | .int _, .non => true | .non, .bl _ => true | .bl _, .non => true | .non, .str _ => true | .str _, .non => true
  | .int _, .int _ => true | .bl _, .bl _ => true | .str _, .str _ => true | .byt _, .byt _ => true
  | .int _, .str _ => true | .str _, .int _ => true | .bl _, .str _ => true | .str _, .bl _ => true
  | _, _ => false
def rEq : R2 := fun x y H Q => scal x y = true ∧ Q (.bl (decide (x = y))) H
def rNe : R2 := fun x y H Q => scal x y = true ∧ Q (.bl (!decide (x = y))) H

section
variable {X : Cx} {a b c : Expr} {ta tb tc : TE} {pos : Pos}
theorem fin_bl {pins : List (Addr × Obj)} {σ : St} {H : Hp} {s : Shared} {Q : VK} {k k' : Bool} (I : Inv X pins σ H s) (q : Q (.bl k) H) (e : k = k') : EP X pins σ Q (.bool k') s := by
  subst e
  exact ⟨.bl k, H, I, rfl, q⟩
theorem op_le : OpR X (compareOp .LtE) (rI0 fun i j => .bl (decide (i ≤ j))) := opB0 fun _ _ _ _ _ _ _ q => le_int q
theorem op_gt : OpR X (compareOp .Gt) (rI0 fun i j => .bl (decide (j < i))) := opB0 fun _ _ _ _ _ _ _ q => gt_int q
theorem op_isN : OpR X (compareOp .Is) (fun x y H Q => y = .non ∧ Q (.bl (decide (x = .non))) H) := by
  intro pins s σ H x y v u Q I rx ry h
  obtain ⟨rfl, q⟩ := h
  cases ry
  refine is_none_gen (fin_bl I q ?_)
  cases x <;> first
    | (cases rx; rfl)
    | (obtain ⟨t, rfl⟩ := rx; rfl)
theorem op_notN : OpR X (compareOp .IsNot) (fun x y H Q => y = .non ∧ Q (.bl (!decide (x = .non))) H) := by
  intro pins s σ H x y v u Q I rx ry h
  obtain ⟨rfl, q⟩ := h
  cases ry
  refine isnot_none_gen (fin_bl I q ?_)
  cases x <;> first
    | (cases rx; rfl)
    | (obtain ⟨t, rfl⟩ := rx; rfl)

def isObj : HO → Bool
  | .lst _ => true
  | .ins _ _ _ => true
  | _ => false
theorem nomark (b : Expr) {op : CmpOp} (h : op ≠ .In := by decide) (h2 : op ≠ .NotIn := by decide) : behindInMarks op b = false := by
  have e1 : (op == CmpOp.In) = false := by cases op <;> first | rfl | exact absurd rfl h
  have e2 : (op == CmpOp.NotIn) = false := by cases op <;> first | rfl | exact absurd rfl h2
  cases b <;> simp [behindInMarks, e1, e2]
theorem pe_cmpR {op : CmpOp} {r : R2} (ho : OpR X (compareOp op) r) (ha : PE X a ta) (hb : PE X b tb) (hm : behindInMarks op b = false) : PE X (.Compare a [op] [b] pos) (tOp r ta tb) := by
  intro pins s σ H Q I h
  exact wpAny_Compare1 (binT ha hb I h fun v u s2 x y H2 I2 rx ry q => ho pins s2 σ H2 x y v u Q I2 rx ry q) hm
def tTest (t : TE) : TT := fun σ H Q => t σ H fun x H' => ∃ k, x = .bl k ∧ Q k H'
theorem pt_cmpR {op : CmpOp} {r : R2} (ho : OpR X (compareOp op) r) (ha : PE X a ta) (hb : PE X b tb) (hm : behindInMarks op b = false) : PT X (.Compare a [op] [b] pos) (tTest (tOp r ta tb)) := by
  intro pins s σ H Q I h
  refine wpAny_isTrue_Compare1 (thn (ha pins s σ H _ I h) fun v s1 ⟨x, H1, I1, r1, q1⟩ => thn (hb pins s1 σ H1 _ I1 q1) fun u s2 ⟨y, H2, I2, r2, q2⟩ =>
    thn (ho pins s2 σ H2 x y v u _ I2 r1 r2 q2) fun c s3 ⟨z, H3, I3, r3, k, e, q3⟩ => ?_) hm
  subst e
  cases r3
  exact wpAny_truthy_bool ⟨H3, I3, q3⟩
def tChain (r r' : R2) (ta tb tc : TE) : TE := fun σ H Q => ta σ H fun x H1 => tb σ H1 fun y H2 => r x y H2 fun z H3 => ∃ k, z = .bl k ∧
  (if k = true then tc σ H3 fun w' H4 => r' y w' H4 Q else Q (.bl false) H3)
def TruV (K : PySem.W.Frag) (x : V) (H : Hp) (k : Bool) : Prop :=
  match x with
  | .non => k = false
  | .bl b => k = b
  | .int i => k = (i != 0)
  | .str y => y.length ≤ sizeLine ∧ k = ((y.length : Int) != 0)
  | .byt y => y.size ≤ sizeLine ∧ k = ((y.size : Int) != 0)
  | .ref p => (∃ xs, SqL K H p xs ∧ k = !xs.isEmpty) ∨ (∃ xs, SqT K H p xs ∧ k = !xs.isEmpty) ∨ ∃ kvs, H p = some (.dK kvs) ∧ k = !kvs.isEmpty
  | _ => False
theorem line63 : (sizeLine : Nat) < 2 ^ 63 := by rw [sizeLine_eq]; decide
def PlainIxT (b : Expr) : Prop := ∀ o i, subscripted b false o i = operate [o, i] (getItem o i)
theorem vals1 {x : V} {us : List Value} (r : Vals [x] us) : ∃ u, us = [u] ∧ RelV x u := by
  cases r with
  | cons r1 r2 => cases r2; exact ⟨_, rfl, r1⟩
def LenV (K : PySem.W.Frag) (x : V) (H : Hp) (n : Nat) : Prop :=
  match x with
  | .str y => y.length ≤ sizeLine ∧ n = y.length
  | .byt y => y.size ≤ sizeLine ∧ n = y.size
  | .ref p => (∃ xs, SqL K H p xs ∧ n = xs.length) ∨ ∃ xs, SqT K H p xs ∧ n = xs.length
  | _ => False
end
end L2

namespace L2
open PySem PySem.Spec PyProof.Rows

structure ObjM (h : Heap) (x dx C : Addr) (mA : Str → Option Value) : Prop where
  obj : h.get? x = some (PySem.W.instObj C dx)
  ns : h.Ns1 dx mA
  ne : dx ≠ x

section
variable {prog : Program} {w : World} {A : Around} {E : Value → Shared → Prop} {s : Shared} {K : PySem.W.Frag} {x dx C f : Addr} {mA : Str → Option Value} {name : Str} {v : Value}

end

def putF (f : Str) (v : V) : List (Str × V) → List (Str × V)
  | [] => [(f, v)]
  | (g, x) :: r => if g = f then (g, v) :: r else (g, x) :: putF f v r
section
variable {P : Program} {w : World} {H H' : Hp} {h h' : Heap} {a C dx : Addr} {fs fs' : List (Str × V)}
end

structure Cls (K : PySem.W.Frag) (C : Addr) : Prop where
  pg : PySem.W.plainGet K C Str.empty = true
  hd : PySem.W.hasDictIn K C = true
  po : PySem.W.plainOver K C = true
  sa : PySem.W.findIn K (.ref C) "__setattr__" = some (some (.builtin "object.__setattr__"))
def NoAttr (K : PySem.W.Frag) (C : Addr) (f : Str) : Prop := PySem.W.findIn K (.ref C) f = some none
structure Con (K : PySem.W.Frag) (C : Addr) (f : Str) (v : V) (u : Value) : Prop where
  at_ : PySem.W.findIn K (.ref C) f = some (some u)
  rel : RelV v u
  get : PySem.W.specialIn K u "__get__" = some none
  cp : PySem.W.copiedNames.contains f = false
structure Meth (K : PySem.W.Frag) (C : Addr) (m : Str) (f : Addr) : Prop where
  at_ : PySem.W.findIn K (.ref C) m = some (some (.ref f))
  fn : PySem.W.isFn K (.ref f) = true
  kp : PySem.W.keepIn K (.ref f) = true

section
variable {X : Cx} {pins : List (Addr × Obj)} {σ : St} {H : Hp} {s : Shared} {a C dx : Addr} {fs : List (Str × V)} {f : Str} {v : V} {A : Around} {E : Value → Shared → Prop}

end

def tFld (K : PySem.W.Frag) (ta : TE) (f : Str) : TE := fun σ H Q => ta σ H fun x H1 => ∃ a C dx fs v, x = .ref a ∧ H1 a = some (.ins C dx fs) ∧ Cls K C ∧ NoAttr K C f ∧ fs.lookup f = some v ∧ Q v H1
def tCon (K : PySem.W.Frag) (ta : TE) (f : Str) : TE := fun σ H Q => ta σ H fun x H1 => ∃ a C dx fs v u, x = .ref a ∧ H1 a = some (.ins C dx fs) ∧ Cls K C ∧ Con K C f v u ∧ fs.lookup f = none ∧ Q v H1
def sFld (K : PySem.W.Frag) (ta tv : TE) (f : Str) : TS := fun D σ H => tv σ H fun y H1 => ta σ H1 fun x H2 => ∃ a C dx fs, x = .ref a ∧ H2 a = some (.ins C dx fs) ∧ Cls K C ∧ NoAttr K C f ∧ fs.length < 1000 ∧
  D.nx σ (upd H2 a (.ins C dx (putF f y fs)))
def InOp (X : Cx) (op : Operator) (rd : V → V → Hp → VK → Prop) : Prop :=
  ∀ (pins : List (Addr × Obj)) (s : Shared) (σ : St) (H : Hp) (x y : V) (u v : Value) (Q : VK), Inv X pins σ H s → RelV x u → RelV y v → rd x y H Q → wpAny (model X.prog X.w) X.A (inplaceOp op u v) (EP X pins σ Q) X.xe s
def sFldAug (K : PySem.W.Frag) (ta tv : TE) (rd : V → V → Hp → VK → Prop) (f : Str) : TS := fun D σ H => ta σ H fun x H1 => ∃ a C dx fs v, x = .ref a ∧ H1 a = some (.ins C dx fs) ∧ Cls K C ∧ NoAttr K C f ∧ fs.lookup f = some v ∧
  tv σ H1 fun y H2 => rd v y H2 fun z H3 => ∃ dx' fs', H3 a = some (.ins C dx' fs') ∧ fs'.length < 1000 ∧ D.nx σ (upd H3 a (.ins C dx' (putF f z fs')))

section
variable {X : Cx} {o e value : Expr} {f : Str} {pos pos' tpos : Pos} {ta tv : TE}
def rAdd : V → V → Hp → VK → Prop := fun x y H Q => ∃ i j, x = .int i ∧ y = .int j ∧ Q (.int (i + j)) H
def rSub : V → V → Hp → VK → Prop := fun x y H Q => ∃ i j, x = .int i ∧ y = .int j ∧ Q (.int (i - j)) H
end

section
variable {X : Cx} {pins : List (Addr × Obj)} {σ : St} {H : Hp} {s : Shared} {A : Around} {E : Value → Shared → Prop} {Q : Value → Shared → Prop} {c : Value} {b : Bool}
inductive TyOf (K : PySem.W.Frag) (H : Hp) : V → Value → Prop where
  | non : TyOf K H .non (.type "NoneType")
  | bl (x : Bool) : TyOf K H (.bl x) (.type "bool")
  | int (i : Int) : TyOf K H (.int i) (.type "int")
  | str (x : Str) : TyOf K H (.str x) (.type "str")
  | flt (x : UInt64) : TyOf K H (.flt x) (.type "float")
  | lst {a : Addr} {xs : List V} (e : H a = some (.lst xs)) : TyOf K H (.ref a) (.type "list")
  | frz {a : Addr} {o : Obj} {xs : List V} (e : H a = some (.frz o (.lst xs))) : TyOf K H (.ref a) (.type "list")
  | tup {a : Addr} {xs : List V} (e : H a = some (.tup xs)) : TyOf K H (.ref a) (.type "tuple")
  | dK {a : Addr} {kvs : List (Key × V)} (e : H a = some (.dK kvs)) : TyOf K H (.ref a) (.type "dict")
  | dT {a : Addr} {kvs : List (List Key × V)} (e : H a = some (.dT kvs)) : TyOf K H (.ref a) (.type "dict")
  | ins {a C dx : Addr} {fs : List (Str × V)} (e : H a = some (.ins C dx fs)) (cl : Cls K C) (ha : PySem.W.findIn K (.ref C) "__class__" = some (some (.builtin "object.__class__")))
      (hn : PySem.W.specialIn K (.builtin "object.__class__") "__get__" = some (some (.builtin "getset_descriptor.__get__"))) (htk : PySem.W.takesIn K (.builtin "object.__class__") = some true)
      (hm : PySem.W.mroIn K C (.type "object") = some true) : TyOf K H (.ref a) (.ref C)
end
end L2

namespace L2
open PySem PySem.Spec PyProof.Rows

structure Room (k : Nat) (A : Around) : Prop where
  hd : A.handled = none
  dp : A.depth + 3 * k + 5 < recursionLimit
  un : A.units + 16 * k + 200 < cLine
theorem Room.mono {j k : Nat} {A : Around} (r : Room k A) (h : j ≤ k) : Room j A := ⟨r.hd, by have := r.dp; omega, by have := r.un; omega⟩
theorem Room.deeper {k : Nat} {A : Around} (r : Room (k + 1) A) (env : Env) : Room k (A.deeper env) :=
  ⟨r.hd, by have := r.dp; show A.depth + 1 + 3 * k + 5 < _; omega, by have := r.un; show A.units + 3 + 16 * k + 200 < _; omega⟩
theorem Room.in1 {k : Nat} {A : Around} (r : Room (k + 1) A) : Room k A.in1 :=
  ⟨r.hd, by have := r.dp; show A.depth + 3 * k + 5 < _; omega, by have := r.un; show A.units + 1 + 16 * k + 200 < _; omega⟩
theorem Room.depth {k : Nat} {A : Around} (r : Room k A) : A.depth < recursionLimit := by have := r.dp; omega
def tNil : TA := fun _ H Q => Q [] H
def tCons (ta : TE) (tr : TA) : TA := fun σ H Q => ta σ H fun x H1 => tr σ H1 fun xs H2 => Q (x :: xs) H2
section
variable {X : Cx} {e : Expr} {es : List Expr} {te : TE} {t : TA} {pos : Pos}
theorem pa_nil : PA X [] tNil := fun _ _ _ _ H Q I h => Calls.spliced_nil ⟨[], H, I, .nil, h⟩
theorem pa_cons (ha : PE X e te) (hr : PA X es t) (hs : starEach (e :: es) X.env = (false, eval e X.env) :: starEach es X.env := by rfl) : PA X (e :: es) (tCons te t) := by
  intro pos pins s σ H Q I h
  rw [hs]
  show wpAny _ _ (spliced ((false, eval e X.env) :: backTo pos (starEach es X.env))) _ _ s
  refine Calls.spliced_cons (thn (ha pins s σ H _ I h) fun u s1 ⟨x, H1, I1, r1, q1⟩ => ?_)
  exact thn (hr pos pins s1 σ H1 _ I1 q1) fun us s2 ⟨xs, H2, I2, r2, q2⟩ => ⟨x :: xs, H2, I2, .cons r1 r2, q2⟩

def tTup (t : TA) : TE := fun σ H Q => t σ H fun xs H1 => xs.length ≤ sizeLine ∧ ∀ p, H1 p = none → Q (.ref p) (upd H1 p (.tup xs))
def tLst (t : TA) : TE := fun σ H Q => t σ H fun xs H1 => xs.length ≤ sizeLine ∧ ∀ p, H1 p = none → Q (.ref p) (upd H1 p (.lst xs))
theorem pe_tup {x1} (h : PA X es t) : PE X (.Tuple es x1 pos) (tTup t) := by
  intro pins s σ H Q I hq
  refine wpAny_Tuple_spliced (thn (h pos pins s σ H _ I hq) fun us s1 ⟨xs, H1, I1, r, z, q⟩ => ⟨by rw [← r.length]; exact z, ?_⟩)
  have hf : H1 s1.heap.objs.size = none := I1.hok.fresh (Nat.le_refl _)
  refine ⟨.ref s1.heap.objs.size, upd H1 s1.heap.objs.size (.tup xs), I1.laid (t' := s1.toks) (fun b u e => Heap.get?_push_of_some _ e) (Nat.le_refl _) ?_, rfl, q _ hf⟩
  exact ⟨z, us, r, ⟨_, Heap.get?_push_size _ rfl, rfl, _, rfl⟩⟩
theorem pe_lst (h : PA X es t) : PE X (.List es pos) (tLst t) := by
  intro pins s σ H Q I hq
  refine wpAny_List_spliced (thn (h pos pins s σ H _ I hq) fun us s1 ⟨xs, H1, I1, r, z, q⟩ => ⟨by rw [← r.length]; exact z, ?_⟩)
  have hf : H1 s1.heap.objs.size = none := I1.hok.fresh (Nat.le_refl _)
  refine ⟨.ref s1.heap.objs.size, upd H1 s1.heap.objs.size (.lst xs), I1.laid (t' := s1.toks) (fun b u e => Heap.get?_push_of_some _ e) (Nat.le_refl _) ?_, rfl, q _ hf⟩
  exact ⟨z, us, 0, r, Heap.get?_push_size _ rfl⟩
end

abbrev Sp := List V → Hp → VK → XK → Prop
abbrev CXT := List Env → Hp → Shared → XK → Value → Shared → Prop

structure Env0 (P : Program) (w : World) (K : PySem.W.Frag) (mg : Str → Option Value) (base : Heap) (A : Around) (outer : List Env) (s : Shared) (H : Hp) : Prop where
  frames : A.frames = some outer
  mod : Mod K mg base
  bs : ∀ b o, base.get? b = some o → s.heap.get? b = some o ∧ H b = none
  bsz : base.objs.size ≤ s.heap.objs.size
  funs : s.heap.FunFrames base outer
  frf : ∀ b ∈ frs outer, H b = none
  hok : HOk P w H s.heap
  bare : AllBare s.gens
def CE (outer : List Env) (P : Program) (w : World) (H : Hp) (s : Shared) (Q : VK) (u : Value) (s' : Shared) : Prop :=
  ∃ v H', s'.os = s.os ∧ AllBare s'.gens ∧ Un (frs outer) [] H H' s.heap s'.heap ∧ HOk P w H' s'.heap ∧ RelV v u ∧ Q v H'
def CR (CX : CXT) (outer : List Env) (P : Program) (w : World) (H : Hp) (s : Shared) (Q : VK) (E : XK) (r : Result) (s' : Shared) : Prop :=
  match r with
  | .ok (.ret u) => CE outer P w H s Q u s'
  | .ok _ => False
  | .error e => CX outer H s E e s'
structure FnOk (P : Program) (w : World) (K : PySem.W.Frag) (mg : Str → Option Value) (base : Heap) (CX : CXT) (k : Nat) (f : Addr) (fd : FuncData) (ps : List Str) (sp : Sp) : Prop where
  len : ∀ vs H Q E, sp vs H Q E → vs.length = ps.length
  run : ∀ (A : Around) (outer : List Env) (s : Shared) (H : Hp) (args : Args) (us : List Value) (vs : List V) (Q : VK) (E : XK), Room k A → Env0 P w K mg base A outer s H → BindsTo s fd args (ps.zip us) → Vals vs us → sp vs H Q E →
    codeAny (model P w) A (.call (.ref f) args) (CR CX outer P w H s Q E) s
section
variable {X : Cx} {pins : List (Addr × Obj)} {σ : St} {H : Hp} {s s' : Shared}
theorem Inv.env0 (I : Inv X pins σ H s) : Env0 X.prog X.w X.K X.mg X.base X.A X.stack s H :=
  ⟨I.ok.frames, I.ok.mod, I.bs, Nat.le_trans I.ok.bsz I.sz, I.stack, I.stkFree, I.hok, I.bare⟩
theorem Inv.after {Q : VK} {u : Value} (I : Inv X pins σ H s) (h : CE X.stack X.prog X.w H s Q u s') : EP X pins σ Q u s' := by
  obtain ⟨v, H', os, bare, un, hok, r, q⟩ := h
  obtain ⟨hh, g, d, t, os'⟩ := s'
  obtain rfl : os' = s.os := os
  exact ⟨v, H', I.call (h' := hh) (g' := g) (d' := d) (t' := t) (ch := []) un hok bare (fun b z => absurd z (by simp)), r, q⟩
end

def tCall (sp : Sp) (dvs : List V) (E : XK) (t : TA) : TE := fun σ H Q => t σ H fun vs H1 => sp (vs ++ dvs) H1 Q E
def tMeth (C : Addr) (m : Str) (sp : Sp) (dvs : List V) (E : XK) (ta : TE) (t : TA) : TE := fun σ H Q => ta σ H fun x H1 => ∃ a dx fs, x = .ref a ∧ H1 a = some (.ins C dx fs) ∧ fs.lookup m = none ∧
  t σ H1 fun vs H2 => sp (x :: (vs ++ dvs)) H2 Q E
def tMake (C : Addr) (sp : Sp) (dvs : List V) (E : XK) (t : TA) : TE := fun σ H Q => t σ H fun vs H1 => ∀ x dx, H1 x = none → H1 dx = none → dx ≠ x →
  sp (.ref x :: (vs ++ dvs)) (upd (upd H1 dx (.own x)) x (.ins C dx [])) (fun v H2 => v = .non ∧ Q (.ref x) H2) E

def Binds (K : PySem.W.Frag) (fd : FuncData) (ps : List Str) (ds : List Value) : Prop :=
  ∀ (s : Shared) (us : List Value), K.In s.heap → (us ++ ds).length = ps.length → BindsTo s fd ⟨us, []⟩ (ps.zip (us ++ ds))
theorem Binds.all {K : PySem.W.Frag} {fd : FuncData} {ps : List Str} (h : ∀ us : List Value, us.length = ps.length → bindArgs fd ⟨us, []⟩ = pure (ps.zip us)) : Binds K fd ps [] := fun s us _ hl => by
  rw [List.append_nil] at hl ⊢
  exact .of_eq (h us hl)

def Passes (CX : CXT) (X : Cx) (E : XK) : Prop := ∀ (pins : List (Addr × Obj)) (σ : St) (H : Hp) (s : Shared) (e : Value) (s' : Shared), Inv X pins σ H s → CX X.stack H s E e s' → X.xe e s'

section
variable {X : Cx} {CX : CXT} {k : Nat} {f C : Addr} {fd : FuncData} {ps : List Str} {sp : Sp} {dvs : List V} {ds : List Value} {E : XK} {x m : Str} {p pos apos : Pos} {e o : Expr} {es : List Expr} {ta : TE} {t : TA}

theorem run_fn {pins : List (Addr × Obj)} {σ : St} {H : Hp} {s : Shared} {Q : VK} {us : List Value} {vs : List V} (F : FnOk X.prog X.w X.K X.mg X.base CX k f fd ps sp) (hr : Room k X.A) (hb : Binds X.K fd ps ds) (hd : Vals dvs ds) (hx : Passes CX X E)
    (I : Inv X pins σ H s) (r : Vals vs us) (h : sp (vs ++ dvs) H Q E) : wpAny (model X.prog X.w) X.A (call (.ref f) us) (EP X pins σ Q) X.xe s := by
  have r2 : Vals (vs ++ dvs) (us ++ ds) := r.append hd
  have hl : (us ++ ds).length = ps.length := by rw [← r2.length]; exact F.len _ _ _ _ h
  refine wpAny_call (codeAny_mono (F.run X.A X.stack s H ⟨us, []⟩ (us ++ ds) (vs ++ dvs) Q E hr I.env0 (hb s us I.kIn hl) r2 h) fun r s' hq => ?_)
  cases r with
  | error e => exact hx pins σ H s e s' I hq
  | ok fl =>
    cases fl with
    | ret u => exact I.after hq
    | next => exact False.elim hq
    | brk => exact False.elim hq
    | cont => exact False.elim hq

theorem pe_call (F : FnOk X.prog X.w X.K X.mg X.base CX k f fd ps sp) (hr : Room k X.A) (hg : Gl X x) (hm : X.mg x = some (.ref f)) (hk : PySem.W.keepIn X.K (.ref f) = true) (hb : Binds X.K fd ps ds) (hd : Vals dvs ds) (hx : Passes CX X E)
    (ha : PA X (e :: es) t) (hdb : (x == ("__debug__" : Str)) = false := by decide) (he : starEach (e :: es) X.env = (false, eval e X.env) :: starEach es X.env := by rfl) (hpl : (backTo pos (starEach es X.env)).any (·.1) = false := by rfl) :
    PE X (.Call (.Name x p) (e :: es) [] pos) (tCall sp dvs E t) := by
  intro pins s σ H Q I h
  refine wpAny_Call_Name_kw (ld_glob I hg hm ?_ hdb)
  refine PySem.W.callWith_K (h₀ := X.base) I.ok.mod.kin hk (thn (ha pos pins s σ H _ I h) fun us s1 ⟨vs, H1, I1, r, q⟩ => ⟨I1.kIn, ?_⟩) he hpl
  exact run_fn F hr hb hd hx I1 r q
structure Mk (K : PySem.W.Frag) (C f : Addr) : Prop where
  makes : PySem.W.makesIn K C = true
  init : PySem.W.findIn K (.ref C) "__init__" = some (some (.ref f))
  fn : PySem.W.isFn K (.ref f) = true
  kp : PySem.W.keepIn K (.ref C) = true

end

def PK (X : Cx) (kws : List Keyword) (t : TA) : Prop :=
  ∀ (pos : Pos) (pins : List (Addr × Obj)) (s : Shared) (σ : St) (H : Hp) (Q : List V → Hp → Prop), Inv X pins σ H s → t σ H Q → wpAny (model X.prog X.w) X.A (evalAll ((backToKw pos (keywordEach kws X.env)).map (·.2))) (AP X pins σ Q) X.xe s
section
variable {X : Cx} {CX : CXT} {k : Nat} {f C : Addr} {fd : FuncData} {ps ks : List Str} {sp : Sp} {E : XK} {x m : Str} {p pos apos kpos : Pos} {e o : Expr} {es : List Expr} {kws : List Keyword} {te ta : TE} {t tk : TA} {nm : Option Str}
structure KBinds (K : PySem.W.Frag) (fd : FuncData) (ps ks : List Str) (g : List Value → List Value → List Value) (gV : List V → List V → List V) : Prop where
  to : ∀ (s : Shared) (us ws : List Value), K.In s.heap → (g us ws).length = ps.length → BindsTo s fd ⟨us, ks.zip ws⟩ (ps.zip (g us ws))
  rel : ∀ {vs : List V} {us : List Value} {zs : List V} {ws : List Value}, Vals vs us → Vals zs ws → Vals (gV vs zs) (g us ws)
def tCallK (sp : Sp) (gV : List V → List V → List V) (E : XK) (t tk : TA) : TE := fun σ H Q => t σ H fun vs H1 => tk σ H1 fun zs H2 => sp (gV vs zs) H2 Q E
variable {g : List Value → List Value → List Value} {gV : List V → List V → List V}
end

structure FnScope (N P : List Str) (sc : Scope) : Prop where
  kind : sc.kind = .function
  co : sc.isCoroutine = false
  gen : sc.isGenerator = false
  nd : N.Nodup
  pre : N.take P.length = P
  par : ∀ x ∈ P, sc.names.lookup x = some .local ∨ sc.names.lookup x = some .cell
  nofree : ∀ y ∈ sc.names, y.2 ≠ .free

theorem bindL_out {kindOf : Str → Option NameKind} {x : Str} : ∀ {binds : List (Str × Value)} {m : Str → Option Value}, (∀ v, (x, v) ∉ binds) → bindL kindOf binds m x = m x
  | [], _, _ => rfl
  | (n, v) :: r, m, h => by
    unfold bindL
    rw [bindL_out fun w hw => h w (List.mem_cons_of_mem _ hw)]
    split
    · have : x ≠ n := by rintro rfl; exact h v List.mem_cons_self
      simp [this]
    · rfl
theorem bindC_out {kindOf : Str → Option NameKind} {x : Str} : ∀ {binds : List (Str × Value)} {m : Str → Option Value}, (∀ v, (x, v) ∉ binds) → bindC kindOf binds m x = m x
  | [], _, _ => rfl
  | (n, v) :: r, m, h => by
    unfold bindC
    rw [bindC_out fun w hw => h w (List.mem_cons_of_mem _ hw)]
    split
    · rfl
    · have : x ≠ n := by rintro rfl; exact h v List.mem_cons_self
      simp [this]
theorem bindL_get {kindOf : Str → Option NameKind} {x : Str} {v : Value} : ∀ {P : List Str} {vs : List Value} {i : Nat} {m : Str → Option Value}, P.Nodup → P[i]? = some x → vs[i]? = some v → kindOf x = some .local →
    bindL kindOf (P.zip vs) m x = some v
  | [], _, _, _, _, h, _, _ => by simp at h
  | _ :: _, [], _, _, _, _, h, _ => by simp at h
  | p :: P, w :: vs, 0, m, nd, h1, h2, hk => by
    simp at h1 h2; subst h1; subst h2
    show bindL kindOf ((p, w) :: P.zip vs) m p = _
    unfold bindL
    rw [bindL_out fun v hv => (List.nodup_cons.mp nd).1 (List.of_mem_zip hv).1, if_pos hk]
    simp
  | p :: P, w :: vs, i + 1, m, nd, h1, h2, hk => by
    show bindL kindOf ((p, w) :: P.zip vs) m x = _
    unfold bindL
    exact bindL_get (i := i) (List.nodup_cons.mp nd).2 (by simpa using h1) (by simpa using h2) hk
theorem bindC_get {kindOf : Str → Option NameKind} {x : Str} {v : Value} : ∀ {P : List Str} {vs : List Value} {i : Nat} {m : Str → Option Value}, P.Nodup → P[i]? = some x → vs[i]? = some v → kindOf x ≠ some .local →
    bindC kindOf (P.zip vs) m x = some v
  | [], _, _, _, _, h, _, _ => by simp at h
  | _ :: _, [], _, _, _, _, h, _ => by simp at h
  | p :: P, w :: vs, 0, m, nd, h1, h2, hk => by
    simp at h1 h2; subst h1; subst h2
    show bindC kindOf ((p, w) :: P.zip vs) m p = _
    unfold bindC
    rw [bindC_out fun v hv => (List.nodup_cons.mp nd).1 (List.of_mem_zip hv).1, if_neg hk]
    simp
  | p :: P, w :: vs, i + 1, m, nd, h1, h2, hk => by
    show bindC kindOf ((p, w) :: P.zip vs) m x = _
    unfold bindC
    exact bindC_get (i := i) (List.nodup_cons.mp nd).2 (by simpa using h1) (by simpa using h2) hk

def start (N : List Str) (vs : List V) : St := vs.map some ++ List.replicate (N.length - vs.length) none

def cxOf (CX : CXT) (P : Program) (w : World) (K : PySem.W.Frag) (mg : Str → Option Value) (base : Heap) (N : List Str) (qual : Str) (scope : Scope) (f : Addr) (cd : Value) (A : Around) (outer : List Env) (s : Shared) (H : Hp) (E : XK) : Cx where
  prog := P
  w := w
  K := K
  mg := mg
  base := base
  A := A.deeper (envOfC qual scope s.heap.objs.size f cd)
  N := N
  s_0 := s
  H_0 := H
  env := envOfC qual scope s.heap.objs.size f cd
  outer := outer
  stack := envOfC qual scope s.heap.objs.size f cd :: outer
  ex := []
  calm := true
  fn := fun _ => true
  pn := []
  xe := fun e s' => wpAny (model P w) (A.deeper (envOfC qual scope s.heap.objs.size f cd)) (leaving (envOfC qual scope s.heap.objs.size f cd) e) (fun _ s'' => CX outer H s E e s'') (fun e' s'' => CX outer H s E e' s'') s'

theorem cell_has {sc : Scope} {n : Nat} {x : Str} (h : sc.names.lookup x = some .cell) : ∃ c, (cellsFrom n sc.names []).lookup x = some c := by
  have q := PySem.W.cellsFrom_some sc.names n [] (.inl h)
  exact Option.isSome_iff_exists.mp q

theorem inv_start {CX : CXT} {P : Program} {w : World} {K : PySem.W.Frag} {mg : Str → Option Value} {base : Heap} {N ps : List Str} {qual : Str} {scope : Scope} {f : Addr} {cd : Value} {A : Around} {outer : List Env} {s s1 : Shared} {H : Hp} {E : XK} {us : List Value} {vs : List V}
    (S : FnScope N ps scope) (hd : A.handled = none) (e0 : Env0 P w K mg base A outer s H) (hl : vs.length = ps.length) (r : Vals vs us)
    (x : InCallC s s.heap.objs.size (bindL (envOfC qual scope s.heap.objs.size f cd).kindOf (ps.zip us) fun _ => none) (cellsFrom (s.heap.objs.size + 1) scope.names []) (bindC (envOfC qual scope s.heap.objs.size f cd).kindOf (ps.zip us) fun _ => none) s1) :
    Inv (cxOf CX P w K mg base N qual scope f cd A outer s H E) [] (start N vs) H s1 := by
  have hpl : ps.length ≤ N.length := by have := congrArg List.length S.pre; rw [List.length_take] at this; omega
  obtain ⟨h1, tk, rfl, hk⟩ := x.done
  have noA : ∀ b : Addr, b ∉ (cxOf CX P w K mg base N qual scope f cd A outer s H E).ex := fun b z => absurd (show b ∈ ([] : List Addr) from z) (by simp)
  refine ⟨⟨e0.mod, S.kind, rfl, rfl, Nat.le_refl _, fun y z c h1 h2 => ?_, fun y hy => ?_, fun y c _ h => ?_, fun _ => hd, Around.frames_deeper e0.frames, .inr ⟨rfl, rfl⟩, fun b z => absurd z (noA b), e0.bs, e0.bsz, fun b _ _ => noA b, fun b z => absurd z (noA b), e0.funs, e0.frf⟩,
    rfl, e0.bare, Un.kept hk, ⟨_, x.toInCall.ns, fun i y v h1 h2 h3 => ?_⟩, fun y c h => ⟨_, x.cell y c h⟩, e0.hok.fresh (Nat.le_refl _), fun y c h => ?_, fun p hp => absurd (show p ∈ ([] : List (Addr × Obj)) from hp) (by simp), e0.hok.kept hk, ?_⟩
  · exact name_of_addr x.apart (PySem.mem_of_lookup h1) (PySem.mem_of_lookup h2)
  · have hy : scope.names.lookup y = some .cell ∨ scope.names.lookup y = some .free := hy
    rcases hy with hy | hy
    · exact cell_has hy
    · exact absurd rfl (S.nofree _ (PySem.mem_of_lookup hy))
  · exact Nat.le_of_lt (x.above y c (PySem.mem_of_lookup h))
  · have hi : i < vs.length := by
      unfold start at h2
      by_cases hi : i < vs.length
      · exact hi
      · rw [List.getElem?_append_right (by simpa using hi)] at h2
        rw [List.getElem?_replicate] at h2
        split at h2 <;> cases h2
    have ha : vs[i]? = some v := by
      unfold start at h2
      rw [List.getElem?_append_left (by simpa using hi), List.getElem?_map] at h2
      cases e : vs[i]? with
      | none => rw [e] at h2; cases h2
      | some a => rw [e] at h2; cases h2; rfl
    obtain ⟨u, hu, rv⟩ := r.get ha
    have hp : ps[i]? = some y := by
      rw [← S.pre, List.getElem?_take_of_lt (by omega)]; exact h1
    have ndP : ps.Nodup := by rw [← S.pre]; exact S.nd.sublist (List.take_sublist _ _)
    refine ⟨u, rv, ?_⟩
    rcases S.par y (List.mem_of_getElem? hp) with k | k
    · exact .inl ⟨k, bindL_get ndP hp hu k⟩
    · obtain ⟨c, e⟩ := cell_has (n := s.heap.objs.size + 1) k
      refine .inr ⟨.inl k, c, e, ?_⟩
      have q := x.cell y c e
      rw [bindC_get ndP hp hu (by show scope.names.lookup y ≠ _; rw [k]; decide)] at q
      exact q
  · exact e0.hok.fresh (Nat.le_of_lt (x.above y c (PySem.mem_of_lookup h)))
  · unfold start
    show _ = N.length
    rw [List.length_append, List.length_map, List.length_replicate]
    omega

theorem fn_of {CX : CXT} {P : Program} {w : World} {K : PySem.W.Frag} {mg : Str → Option Value} {base : Heap} {k : Nat} {f : Addr} {name qual : Str} {params : Arguments} {body : List Stmt} {scope : Scope} {dV kV doc pm cdv ct oc : Value} {an od : Option Addr}
    {osl : Array (Option Value)} {N ps : List Str} {sp : Sp} (lk : K.lookup f = some ⟨oc, od, .func (PySem.W.fnOf name qual params body scope dV kV doc pm an cdv ct), osl⟩) (hcd : PySem.W.codeIn K cdv qual = true) (S : FnScope N ps scope)
    (len : ∀ vs H Q E, sp vs H Q E → vs.length = ps.length)
    (hbody : ∀ (A : Around) (outer : List Env) (s : Shared) (H : Hp) (vs : List V) (Q : VK) (E : XK), Room k (A.deeper (envOfC qual scope s.heap.objs.size f cdv)) → sp vs H Q E →
      ∃ t, PSs (cxOf CX P w K mg base N qual scope f cdv A outer s H E) body t ∧ t { nx := fun _ H' => Q .non H', rt := Q } (start N vs) H) :
    FnOk P w K mg base CX (k + 1) f (PySem.W.fnOf name qual params body scope dV kV doc pm an cdv ct) ps sp := by
  refine ⟨len, fun A outer s H args us vs Q E hr e0 hb r hsp => ?_⟩
  have hl := len _ _ _ _ hsp
  have KX : K.In s.heap := e0.mod.kin.keeps fun b o e => (e0.bs b o e).1
  have lim : s.heap.NoLimit := e0.mod.nolimit.keeps fun b o e => (e0.bs b o e).1
  have hkind : ∀ y ∈ ps.zip us, scope.names.lookup y.1 = some .local ∨ (scope.names.lookup y.1 = some .cell ∧ ((cellsFrom (s.heap.objs.size + 1) scope.names []).lookup y.1).isSome = true) := fun ⟨n, v⟩ hy => by
    rcases S.par n (List.of_mem_zip hy).1 with q | q
    · exact .inl q
    · exact .inr ⟨q, PySem.W.cellsFrom_some _ _ _ (.inl q)⟩
  refine codeAny_call_function hr.depth (KX _ _ lk) rfl S.co S.gen rfl (PySem.W.codeRec_of KX hcd) (hb _ _ _ _ ?_)
  refine wpAny_newFunctionEnv_cells S.kind hkind fun env he s1 x => ?_
  subst he
  refine ⟨lim.keeps x.toInCall.keep, codeAny_func ?_⟩
  obtain ⟨t, ht, hq⟩ := hbody A outer s H vs Q E (hr.deeper _) hsp
  have I : Inv (cxOf CX P w K mg base N qual scope f cdv A outer s H E) [] (start N vs) H s1 := inv_start S hr.hd e0 hl r x
  refine wpAny_mono (ht [] s1 (start N vs) H _ I hq) (fun fl s' hs => ?_) fun e s' hs => hs
  have fin : ∀ {σ' : St} {H' : Hp} {v : V} {u : Value}, Inv (cxOf CX P w K mg base N qual scope f cdv A outer s H E) [] σ' H' s' → RelV v u → Q v H' → CE outer P w H s Q u s' :=
    fun {σ' H' v u} J rv q => ⟨v, H', J.os, J.bare, J.base, J.hok, rv, q⟩
  cases fl with
  | ret u =>
    obtain ⟨v, σ', H', J, rv, q⟩ := hs
    exact fin J rv q
  | next =>
    obtain ⟨σ', H', J, q⟩ := hs
    exact fin (v := V.non) (u := Value.none) J rfl q
  | brk =>
    obtain ⟨_, _, _, q⟩ := hs
    exact False.elim q
  | cont =>
    obtain ⟨_, _, _, q⟩ := hs
    exact False.elim q
end L2

namespace L2
open PySem PySem.Spec PyProof.Rows
section
variable {X : Cx} {x : Str} {p pos : Pos} {e : Expr} {es : List Expr} {t : TA} {id T : String} {r : List V → Hp → VK → Prop}

def tCB (r : List V → Hp → VK → Prop) (t : TA) : TE := fun σ H Q => t σ H fun vs H1 => r vs H1 Q
theorem pe_callB (hc : CallR X (.builtin id) r) (hg : Gl X x) (hm : X.mg x = none) (hv : bootBuiltins x = some (.builtin id)) (ha : PA X (e :: es) t) (hn : x ≠ "__name__" := by decide) (hdb : (x == ("__debug__" : Str)) = false := by decide)
    (he : starEach (e :: es) X.env = (false, eval e X.env) :: starEach es X.env := by rfl) (hpl : (backTo pos (starEach es X.env)).any (·.1) = false := by rfl) : PE X (.Call (.Name x p) (e :: es) [] pos) (tCB r t) := by
  intro pins s σ H Q I h
  refine wpAny_Call_Name_kw (ld_blt I hg hm hv ?_ hn hdb)
  exact PyProof.Rows.callWith_builtin1 (thn (ha pos pins s σ H _ I h) fun us s1 ⟨vs, H1, I1, r1, q1⟩ => hc pins s1 σ H1 vs us Q I1 r1 q1) he hpl
theorem pe_callTy (hc : CallR X (.type T) r) (hg : Gl X x) (hm : X.mg x = none) (hv : bootBuiltins x = some (.type T)) (ha : PA X (e :: es) t) (hn : x ≠ "__name__" := by decide) (hdb : (x == ("__debug__" : Str)) = false := by decide)
    (he : starEach (e :: es) X.env = (false, eval e X.env) :: starEach es X.env := by rfl) (hpl : (backTo pos (starEach es X.env)).any (·.1) = false := by rfl) : PE X (.Call (.Name x p) (e :: es) [] pos) (tCB r t) := by
  intro pins s σ H Q I h
  refine wpAny_Call_Name_kw (ld_blt I hg hm hv ?_ hn hdb)
  exact PyProof.Rows.callWith_type1 (thn (ha pos pins s σ H _ I h) fun us s1 ⟨vs, H1, I1, r1, q1⟩ => hc pins s1 σ H1 vs us Q I1 r1 q1) he hpl
end
end L2

namespace HT
open PySem PyProof.Rows

def lexLt : List Int → List Int → Bool
  | [], [] => false
  | [], _ :: _ => true
  | _ :: _, [] => false
  | x :: xs, y :: ys => if x = y then lexLt xs ys else decide (x < y)
section
open PySem.SeqAt
open PySem.AutoSeq1 (wpAny_loadPart')
open PySem.MeetsSeq PySem.MeetsSeq2 PySem.MeetsSeq3

end

section
variable {prog : Program} {w : World} {A : Around} {E : Value → Shared → Prop} {s : Shared}

def sIx (n d : Nat) : Option Int → Nat
  | none => d
  | some v => if v < 0 then (v + (n : Int)).toNat else min v.toNat n
theorem sIx_nat (n d k : Nat) : sIx n d (some (k : Int)) = min k n := by
  show (if (k : Int) < 0 then ((k : Int) + (n : Int)).toNat else min (k : Int).toNat n) = min k n
  rw [if_neg (by omega), Int.toNat_natCast]
end
end HT

namespace L2
open PySem PySem.Spec PyProof.Rows

abbrev TO := St → Hp → (Option Int → Hp → Prop) → Prop
def PO (X : Cx) (e : Option Expr) (t : TO) : Prop :=
  ∀ (pins : List (Addr × Obj)) (s : Shared) (σ : St) (H : Hp) (Q : Option Int → Hp → Prop), Inv X pins σ H s → t σ H Q →
    wpAny (model X.prog X.w) X.A (evalPart e X.env) (fun u s' => ∃ o H', Inv X pins σ H' s' ∧ IsPart u o ∧ Q o H') X.xe s
def tNoPart : TO := fun _ H Q => Q none H
def tPart (t : TE) : TO := fun σ H Q => t σ H fun x H1 => ∃ i, x = .int i ∧ Q (some i) H1

section
variable {X : Cx} {e : Expr} {te : TE} {lo hi : Option Expr} {tl th : TO} {pos p2 : Pos}

theorem po_none : PO X none tNoPart := by
  intro pins s σ H Q I h
  rw [evalPart_none]
  exact wpAny_pure ⟨none, H, I, .none, h⟩
theorem po_some (h : PE X e te) : PO X (some e) (tPart te) := by
  intro pins s σ H Q I hw
  rw [evalPart_some]
  refine thn (h pins s σ H _ I hw) fun u s1 ⟨x, H1, I1, r1, q1⟩ => ?_
  obtain ⟨i, rfl, q⟩ := q1
  obtain ⟨t, rfl⟩ := r1
  exact ⟨some i, H1, I1, .int i t, q⟩

def SlR (X : Cx) (r : V → Option Int → Option Int → Hp → VK → Prop) : Prop :=
  ∀ (pins : List (Addr × Obj)) (s : Shared) (σ : St) (H : Hp) (x : V) (v vl vu : Value) (lo hi : Option Int) (sl : Addr) (Q : VK), Inv X pins σ H s → RelV x v → s.heap.IsSliceOf sl vl vu .none → IsPart vl lo → IsPart vu hi → r x lo hi H Q →
    ∃ T id, typeLookup (.type T) "__getitem__" = pure (some (.builtin id)) ∧ s.TypeIs v T ∧ wpAny (model X.prog X.w) X.A (getItem v (.ref sl)) (EP X pins σ Q) X.xe s
def tSl (r : V → Option Int → Option Int → Hp → VK → Prop) (te : TE) (tl th : TO) : TE := fun σ H Q => te σ H fun x H1 => tl σ H1 fun l H2 => th σ H2 fun u H3 => r x l u H3 Q
theorem pe_slice {r : V → Option Int → Option Int → Hp → VK → Prop} (hr : SlR X r) (he : PE X e te) (hl : PO X lo tl) (hu : PO X hi th) : PE X (.Subscript e (.Slice lo hi none p2) pos) (tSl r te tl th) := by
  intro pins s σ H Q I h
  refine Subscript_ (thn (he pins s σ H _ I h) fun v s1 ⟨x, H1, I1, r1, q1⟩ => ?_)
  refine wpAny_Slice (thn (hl pins s1 σ H1 _ I1 q1) fun vl s2 ⟨l, H2, I2, pl, q2⟩ => thn (hu pins s2 σ H2 _ I2 q2) fun vu s3 ⟨u, H3, I3, pu, q3⟩ => ?_)
  rw [evalPart_none]
  refine wpAny_pure ?_
  have I4 : Inv X pins σ H3 { s3 with heap := s3.heap.push { cls := .type "slice", data := .fields #[vl, vu, .none] } } := I3.kept (t' := s3.toks) fun b ob q => Heap.get?_push_of_some _ q
  obtain ⟨T, id, hT, ht, hg⟩ := hr pins { s3 with heap := s3.heap.push { cls := .type "slice", data := .fields #[vl, vu, .none] } } σ H3 x v vl vu l u s3.heap.objs.size Q I4 r1 (Heap.IsSliceOf.new ..) pl pu q3
  show wpAny (model X.prog X.w) X.A (subscriptTail e (.Slice lo hi none p2) v (.ref s3.heap.objs.size)) (EP X pins σ Q) X.xe { s3 with heap := s3.heap.push { cls := .type "slice", data := .fields #[vl, vu, .none] } }
  exact tail_any (ops := [.ref s3.heap.objs.size, v]) ht hT hg (by with_unfolding_all rfl)

def cutV (xs : List V) (lo hi : Option Int) : List V := (xs.drop (HT.sIx xs.length 0 lo)).take (HT.sIx xs.length xs.length hi - HT.sIx xs.length 0 lo)
theorem cutV_length (xs : List V) (lo hi : Option Int) : (cutV xs lo hi).length ≤ xs.length := by
  unfold cutV
  rw [List.length_take, List.length_drop]
  omega
def rSlT (K : PySem.W.Frag) : V → Option Int → Option Int → Hp → VK → Prop := fun x lo hi H Q => ∃ a xs, x = .ref a ∧ SqT K H a xs ∧
  ¬ (HT.sIx xs.length 0 lo = 0 ∧ HT.sIx xs.length xs.length hi = xs.length) ∧ ∀ p, H p = none → Q (.ref p) (upd H p (.tup (cutV xs lo hi)))
def rLtT (K : PySem.W.Frag) : R2 := fun x y H Q => ∃ a b ns ms, x = .ref a ∧ y = .ref b ∧ SqT K H a (ns.map V.int) ∧ SqT K H b (ms.map V.int) ∧ Q (.bl (HT.lexLt ns ms)) H
def rCatT (K : PySem.W.Frag) : R2 := fun x y H Q => ∃ a b xs ys, x = .ref a ∧ y = .ref b ∧ SqT K H a xs ∧ SqT K H b ys ∧ xs ≠ [] ∧ xs.length + ys.length ≤ sizeLine ∧
  (ys = [] → Q (.ref a) H) ∧ (ys ≠ [] → ∀ p, H p = none → Q (.ref p) (upd H p (.tup (xs ++ ys))))
end
end L2

namespace L2
open PySem PySem.Spec PyProof.Rows

def ixN (n : Nat) (i : Int) : Option Nat := if 0 ≤ i then (if i < n then some i.toNat else none) else if -(n : Int) ≤ i then some (i + n).toNat else none
def atI {α : Type} (xs : List α) (i : Int) : Option α := (ixN xs.length i).bind fun j => xs[j]?
theorem ixN_seq {n : Nat} {i : Int} {j : Nat} (h : ixN n i = some j) : seqIndex? i n = some j ∧ j < n ∧ -(n : Int) ≤ i ∧ i < n := by
  unfold ixN at h
  by_cases h0 : 0 ≤ i
  · rw [if_pos h0] at h
    by_cases h1 : i < n
    · rw [if_pos h1] at h
      have e : i.toNat = j := Option.some.inj h
      exact ⟨by rw [seqIndex_of h0 h1, e], by omega, by omega, h1⟩
    · rw [if_neg h1] at h; cases h
  · rw [if_neg h0] at h
    by_cases h1 : -(n : Int) ≤ i
    · rw [if_pos h1] at h
      have e : (i + n).toNat = j := Option.some.inj h
      exact ⟨by rw [seqIndex_neg (by omega) h1, e], by omega, h1, by omega⟩
    · rw [if_neg h1] at h; cases h
theorem atI_get {α : Type} {xs : List α} {i : Int} {v : α} (h : atI xs i = some v) : ∃ j, seqIndex? i xs.length = some j ∧ xs[j]? = some v ∧ j < xs.length ∧ -(xs.length : Int) ≤ i ∧ i < xs.length := by
  unfold atI at h
  cases e : ixN xs.length i with
  | none => rw [e] at h; cases h
  | some j =>
    rw [e] at h
    obtain ⟨h1, h2, h3, h4⟩ := ixN_seq e
    exact ⟨j, h1, h, h2, h3, h4⟩
theorem atI_nat {α : Type} {xs : List α} {j : Nat} {v : α} (h : xs[j]? = some v) : atI xs (j : Int) = some v := by
  have hj : j < xs.length := (List.getElem?_eq_some_iff.mp h).1
  have e : ixN xs.length (j : Int) = some j := by
    unfold ixN
    rw [if_pos (by omega), if_pos (by omega)]; simp
  unfold atI; rw [e]; exact h
def PlainIx (b : Expr) : Prop := ∀ o i, subscripted b false o i = operate [o, i] (getItem o i)
def IxR (X : Cx) (r : R2) : Prop :=
  ∀ (value slice : Expr) (pins : List (Addr × Obj)) (s : Shared) (σ : St) (H : Hp) (x y : V) (v u : Value) (Q : VK), Inv X pins σ H s → RelV x v → RelV y u → r x y H Q →
    subscripted slice false v u = operate [v, u] (getItem v u) → wpAny (model X.prog X.w) X.A (subscriptTail value slice v u) (EP X pins σ Q) X.xe s
def MtR (X : Cx) (id : String) (r : V → List V → Hp → VK → Prop) : Prop :=
  ∀ (pins : List (Addr × Obj)) (s : Shared) (σ : St) (H : Hp) (x : V) (xs : List V) (v : Value) (us : List Value) (Q : VK), Inv X pins σ H s → RelV x v → Vals xs us → r x xs H Q →
    wpAny (model X.prog X.w) X.A (call (.builtin id) (v :: us)) (EP X pins σ Q) X.xe s
section
variable {X : Cx} {a b : Expr} {ta tb : TE} {pos : Pos}
theorem pe_ix {r : R2} (hr : IxR X r) (ha : PE X a ta) (hb : PE X b tb) (hs : PlainIx b) : PE X (.Subscript a b pos) (tOp r ta tb) := by
  intro pins s σ H Q I h
  exact Subscript_ (binT ha hb I h fun v u s2 x y H2 I2 rx ry q => hr a b pins s2 σ H2 x y v u Q I2 rx ry q (hs _ _))

def rIxL (K : PySem.W.Frag) : R2 := fun x y H Q => ∃ p xs i v, x = .ref p ∧ y = .int i ∧ SqL K H p xs ∧ atI xs i = some v ∧ Q v H
def rIxT (K : PySem.W.Frag) : R2 := fun x y H Q => ∃ p xs i v, x = .ref p ∧ y = .int i ∧ SqT K H p xs ∧ atI xs i = some v ∧ Q v H
def rIxS : R2 := fun x y H Q => ∃ z i c, x = .str z ∧ y = .int i ∧ z.length ≤ sizeLine ∧ atI z.cps.toList i = some c ∧ Q (.str ⟨#[c]⟩) H
theorem ix_list : IxR X (rIxL X.K) := by
  intro value slice pins s σ H x y v u Q I rx ry h hs
  obtain ⟨p, xs, i, z, rfl, rfl, hq, he, q⟩ := h
  cases rx
  obtain ⟨t, rfl⟩ := ry
  obtain ⟨its, r, pl, hz⟩ := I.list hq
  obtain ⟨j, h1, h2, h3, h4, h5⟩ := atI_get he
  obtain ⟨w, ew, rw'⟩ := r.get h2
  have hl := r.length
  have hn := line63
  have fin : EP X pins σ Q w s := ⟨z, H, I, rw', q⟩
  by_cases h0 : 0 ≤ i
  · have hj : i.toNat = j := by
      rw [seqIndex_of h0 h5] at h1
      exact Option.some.inj h1
    exact item_listR pl.isList h0 (by omega) (by rw [hj]; simpa using ew) fin hs
  · have hj : (i + (its.toArray.size : Int)).toNat = j := by
      rw [seqIndex_neg (by omega) h4] at h1
      rw [List.size_toArray, ← hl]
      exact Option.some.inj h1
    exact subscriptTail_builtinR (x := w) pl.isList.typeIs slot_list_getitem.lookup
      (wpAny_getItem_list_neg (Q := fun r s' => r = w ∧ EP X pins σ Q r s') pl.isList (by omega) (by rw [List.size_toArray] <;> omega) (by omega) (by rw [hj]; simpa using ew) ⟨rfl, fin⟩) hs
theorem ix_tup : IxR X (rIxT X.K) := by
  intro value slice pins s σ H x y v u Q I rx ry h hs
  obtain ⟨p, xs, i, z, rfl, rfl, hq, he, q⟩ := h
  cases rx
  obtain ⟨t, rfl⟩ := ry
  obtain ⟨its, r, pl, hz⟩ := I.tuple hq
  obtain ⟨j, h1, h2, h3, h4, h5⟩ := atI_get he
  obtain ⟨w, ew, rw'⟩ := r.get h2
  have hl := r.length
  have hn := line63
  have fin : EP X pins σ Q w s := ⟨z, H, I, rw', q⟩
  exact subscriptTail_builtinR (x := w) pl.typeIs slot_tuple_getitem.lookup
    (getItem_tuple (j := j) (Q := fun r s' => r = w ∧ EP X pins σ Q r s') pl (by omega) (by omega) (by rw [List.size_toArray, ← hl]; exact h1) (by simpa using ew) ⟨rfl, fin⟩) hs
def rIx (K : PySem.W.Frag) : R2 := fun x y H Q => rIxL K x y H Q ∨ rIxT K x y H Q ∨ rIxS x y H Q
theorem mapSeq_set (its : List Value) (n j : Nat) (u : Value) : Obj.mapSeq (·.setIfInBounds j u) { cls := .type "list", data := .seq its.toArray n } = { cls := .type "list", data := .seq (its.set j u).toArray n } := by
  simp [Obj.mapSeq]
theorem Inv.lst {pins : List (Addr × Obj)} {σ : St} {H : Hp} {s : Shared} {p : Addr} {xs : List V} (I : Inv X pins σ H s) (h : H p = some (.lst xs)) :
    ∃ (its : List Value) (n : Nat), Vals xs its ∧ s.heap.get? p = some { cls := .type "list", data := .seq its.toArray n } ∧ xs.length ≤ sizeLine := by
  obtain ⟨z, its, n, r, e⟩ := I.hok p _ h
  exact ⟨its, n, r, e, z⟩
theorem Inv.lstUpd {pins : List (Addr × Obj)} {σ : St} {H : Hp} {s : Shared} {p : Addr} {xs ys : List V} {its its' : List Value} {n n' : Nat} {f : Obj → Obj} (I : Inv X pins σ H s) (h : H p = some (.lst xs))
    (ho : s.heap.get? p = some { cls := .type "list", data := .seq its.toArray n }) (hf : f { cls := .type "list", data := .seq its.toArray n } = { cls := .type "list", data := .seq its'.toArray n' }) (r : Vals ys its') (hz : ys.length ≤ sizeLine) (t : Nat) :
    Inv X pins σ (upd H p (.lst ys)) { s with heap := s.heap.update p f, toks := t } := by
  have e : (s.heap.update p f).get? p = some { cls := .type "list", data := .seq its'.toArray n' } := by
    rw [Heap.get?_update_self f ho (by rw [hf] <;> rfl), hf]
  refine I.write (x := p) (e := p) (by rw [h]; trivial) (.inl rfl) (fun b u hb q => (Heap.get?_update_other _ _ (Ne.symm hb)).trans q) ⟨_, e⟩ ?_
  exact ⟨hz, its', n', r, e⟩
def rSetL : V → V → V → Hp → (Hp → Prop) → Prop := fun o i v H Q => ∃ p xs k j, o = .ref p ∧ i = .int k ∧ H p = some (.lst xs) ∧ ixN xs.length k = some j ∧ Q (upd H p (.lst (xs.set j v)))
theorem set_list : PSet X rSetL := by
  intro pins s σ H o i v ov iv u Q I ro ri rv h
  obtain ⟨p, xs, k, j, rfl, rfl, hp, hj, q⟩ := h
  cases ro
  obtain ⟨t, rfl⟩ := ri
  obtain ⟨its, n, r, ho, hz⟩ := I.lst hp
  obtain ⟨h1, h2, h3, h4⟩ := ixN_seq hj
  have hl := r.length
  have hn := line63
  have I' : Inv X pins σ (upd H p (.lst (xs.set j v))) { s with heap := s.heap.update p (Obj.mapSeq (·.setIfInBounds j u)) } :=
    I.lstUpd hp ho (mapSeq_set its n j u) (r.set rv j) (by rw [List.length_set]; exact hz) s.toks
  by_cases h0 : 0 ≤ k
  · have hk : k.toNat = j := by
      rw [seqIndex_of h0 h4] at h1
      exact Option.some.inj h1
    exact PySem.W.ki_setAt ho h0 (by omega) (by rw [List.size_toArray, ← hl]; exact h4) (by rw [hk]; exact ⟨_, I', q⟩)
  · have hk : (k + (its.toArray.size : Int)).toNat = j := by
      rw [seqIndex_neg (by omega) h3] at h1
      rw [List.size_toArray, ← hl]
      exact Option.some.inj h1
    exact PySem.W.ki_setBack ho (by omega) (by rw [List.size_toArray, ← hl]; exact h3) (by omega) (by rw [hk]; exact ⟨_, I', q⟩)

theorem slice_bounds (lo hi : Option Int) (n : Nat) : (sliceBounds lo hi none n).1 = ((HT.sIx n 0 lo : Nat) : Int) ∧ (sliceBounds lo hi none n).2.1 = ((HT.sIx n n hi : Nat) : Int) ∧ (sliceBounds lo hi none n).2.2 = 1 := by
  refine ⟨?_, ?_, rfl⟩
  · cases lo with
    | none => simp [sliceBounds, HT.sIx]
    | some i =>
      simp only [sliceBounds, HT.sIx, Option.getD_none, show (1 : Int) > 0 by decide, if_true]
      by_cases h : i < 0
      · simp only [h, if_true] <;> omega
      · simp only [h, if_false] <;> omega
  · cases hi with
    | none => simp [sliceBounds, HT.sIx]
    | some i =>
      simp only [sliceBounds, HT.sIx, Option.getD_none, show (1 : Int) > 0 by decide, if_true]
      by_cases h : i < 0
      · simp only [h, if_true] <;> omega
      · simp only [h, if_false] <;> omega
theorem slicePick_cut (its : List Value) (lo hi : Option Int) : slicePick its.toArray lo hi none = ((its.drop (HT.sIx its.length 0 lo)).take (HT.sIx its.length its.length hi - HT.sIx its.length 0 lo)).toArray := by
  obtain ⟨h1, h2, h3⟩ := slice_bounds lo hi its.toArray.size
  unfold slicePick
  rw [h1, h2, h3]
  simp only [sliceRange_one, pick_run, List.size_toArray] <;> rfl
def rSlL (K : PySem.W.Frag) : V → Option Int → Option Int → Hp → VK → Prop := fun x lo hi H Q => ∃ a xs, x = .ref a ∧ SqL K H a xs ∧ ∀ p, H p = none → Q (.ref p) (upd H p (.lst (cutV xs lo hi)))
theorem sl_list : SlR X (rSlL X.K) := by
  intro pins s σ H x v vl vu lo hi sl Q I rx hs pl pu h
  obtain ⟨a, xs, rfl, hx, q⟩ := h
  cases rx
  obtain ⟨its, r, ht, hz⟩ := I.list hx
  have hlen := r.length
  refine ⟨"list", _, slot_list_getitem.lookup, ht.isList.typeIs, ?_⟩
  refine wpAny_getItem_list_slice ht.isList hs pl pu .none (by simp) ?_ (by rw [List.size_toArray] <;> omega)
  rw [slicePick_cut, ← hlen]
  refine ⟨.ref s.heap.objs.size, _, I.laid (t' := s.toks) (o := .lst (cutV xs lo hi)) (fun b ob q => Heap.get?_push_of_some _ q) (Nat.le_refl _) ?_, rfl, q _ (I.hok.fresh (Nat.le_refl _))⟩
  exact ⟨Nat.le_trans (cutV_length xs lo hi) hz, _, 0, (r.drop (HT.sIx xs.length 0 lo)).take (HT.sIx xs.length xs.length hi - HT.sIx xs.length 0 lo), Heap.get?_push_size _ rfl⟩

def flatV : V → Bool
  | .non => true
  | .bl _ => true
  | .int _ => true
  | .str _ => true
  | _ => false
def eqV : V → V → Bool
  | .non, .non => true
  | .bl a, .bl b => a == b
  | .bl a, .int b => (if a then 1 else 0) == b
  | .int a, .bl b => a == (if b then 1 else 0)
  | .int a, .int b => a == b
  | .str a, .str b => a == b
  | _, _ => false
def eqU (x : V) (u : Value) : Bool := match u with
  | .none => eqV .non x
  | .bool b => eqV (.bl b) x
  | .int i _ => eqV (.int i) x
  | .str z _ => eqV (.str z) x
  | _ => false
def inV (x : V) (xs : List V) : Bool := xs.any fun y => eqV y x
def rIn (K : PySem.W.Frag) (neg : Bool) : R2 := fun x y H Q => ∃ p xs, y = .ref p ∧ (SqL K H p xs ∨ SqT K H p xs) ∧ flatV x = true ∧ xs.all flatV = true ∧ Q (.bl (if neg then !inV x xs else inV x xs)) H
theorem call_len_seq : CallR X (.builtin "len") (fun xs H Q => ∃ p ys, xs = [.ref p] ∧ (SqL X.K H p ys ∨ SqT X.K H p ys) ∧ Q (.int ys.length) H) := by
  intro pins s σ H xs us Q I r h
  obtain ⟨p, ys, rfl, hq, q⟩ := h
  obtain ⟨u, rfl, rx⟩ := vals1 r
  cases rx
  have hn := line63
  rcases hq with hq | hq
  · obtain ⟨its, r', pl, hz⟩ := I.list hq
    have hlen := r'.length
    exact Calls.call_len_list pl.isList (by simp only [List.size_toArray] <;> omega) ⟨.int ys.length, H, I.tok _, ⟨s.toks + 1, by rw [List.size_toArray, hlen]⟩, q⟩
  · obtain ⟨its, r', pl, hz⟩ := I.tuple hq
    have hlen := r'.length
    exact len_tuple pl (by simp only [List.size_toArray] <;> omega) ⟨.int ys.length, H, I.tok _, ⟨s.toks + 1, by rw [List.size_toArray, hlen]⟩, q⟩
theorem call_list_of : CallR X (.type "list") (fun xs H Q => ∃ p ys, xs = [.ref p] ∧ (SqL X.K H p ys ∨ SqT X.K H p ys) ∧ ∀ l, H l = none → Q (.ref l) (upd H l (.lst ys))) := by
  intro pins s σ H xs us Q I r h
  obtain ⟨p, ys, rfl, hq, q⟩ := h
  obtain ⟨u, rfl, rx⟩ := vals1 r
  cases rx
  have fin : ∀ (its : List Value), Vals ys its → ys.length ≤ sizeLine → ∀ (h' : Heap) (c' : Nat), (∀ b o', s.heap.get? b = some o' → h'.get? b = some o') →
      h'.get? s.heap.objs.size = some { cls := .type "list", dict := none, data := .seq its.toArray c', slots := #[] } → EP X pins σ Q (.ref s.heap.objs.size) { s with heap := h' } := fun its r' hz h' c' kp e =>
    ⟨.ref s.heap.objs.size, _, I.laid (t' := s.toks) kp (Nat.le_refl _) (show ObjOk X.prog X.w _ h' _ (.lst ys) from ⟨hz, its, c', r', e⟩), rfl, q _ (I.hok.fresh (Nat.le_refl _))⟩
  rcases hq with hq | hq
  · obtain ⟨its, r', pl, hz⟩ := I.list hq
    have hlen := r'.length
    obtain ⟨o, ho, hc, n, hd⟩ := pl.isList
    exact call_list_seq p (.inl rfl) ho hc hd (fun h' c' kp e => fin its r' hz h' c' kp e) (by simp only [List.size_toArray] <;> omega)
  · obtain ⟨its, r', pl, hz⟩ := I.tuple hq
    have hlen := r'.length
    obtain ⟨o, ho, hc, n, hd⟩ := pl
    exact call_list_seq p (.inr rfl) ho hc hd (fun h' c' kp e => fin its r' hz h' c' kp e) (by simp only [List.size_toArray] <;> omega)
def tyV (K : PySem.W.Frag) (T : String) (x : V) (H : Hp) : Prop := match x with
  | .str _ => T = "str"
  | .int _ => T = "int"
  | .ref p => (T = "list" ∧ ∃ xs, SqL K H p xs) ∨ (T = "tuple" ∧ ∃ o, K.lookup p = some o ∧ o.cls = .type "tuple" ∧ o.dict = none) ∨
      (T = "dict" ∧ ((∃ kvs, H p = some (.dK kvs)) ∨ ∃ kvs, H p = some (.dT kvs))) ∨ (T = "set" ∧ ∃ S n, H p = some (.set S n))
  | _ => False
def tBM0 (K : PySem.W.Frag) (T : String) (r : V → List V → Hp → VK → Prop) (to : TE) : TE := fun σ H Q => to σ H fun x H1 => tyV K T x H1 ∧ r x [] H1 Q
def tBM (K : PySem.W.Frag) (T : String) (r : V → List V → Hp → VK → Prop) (to : TE) (t : TA) : TE := fun σ H Q => to σ H fun x H1 => tyV K T x H1 ∧ t σ H1 fun xs H2 => r x xs H2 Q
variable {o e : Expr} {es : List Expr} {to : TE} {t : TA} {name : Str} {apos cpos : Pos} {T id : String} {r : V → List V → Hp → VK → Prop}
end
end L2

namespace L2
open PySem PySem.Spec PyProof.Rows

def MtM (X : Cx) (id : String) (r : V → List V → Hp → VK → Prop) : Prop :=
  ∀ (pins : List (Addr × Obj)) (s : Shared) (σ : St) (H : Hp) (x : V) (xs : List V) (v : Value) (us : List Value) (Q : VK), Inv X pins σ H s → RelV x v → Vals xs us → r x xs H Q →
    wpAny (model X.prog X.w) X.A (call (.builtin id) (v :: us)) (EP X pins σ Q) X.xe s

section
variable {X : Cx} {pins : List (Addr × Obj)} {σ : St} {H : Hp} {s : Shared} {l b : Addr} {xs ys zs : List V}

theorem Inv.lnew {its : List Value} {t' : Nat} (I : Inv X pins σ H s) (hv : Vals ys its) (hz : ys.length ≤ sizeLine) :
    Inv X pins σ (upd H s.heap.objs.size (.lst ys)) { s with heap := s.heap.push { cls := .type "list", data := .seq its.toArray }, toks := t' } :=
  I.laid (fun _ _ q => Heap.get?_push_of_some _ q) (Nat.le_refl _) ⟨hz, its, 0, hv, Heap.get?_push_size _ rfl⟩
theorem Inv.fresh (I : Inv X pins σ H s) : H s.heap.objs.size = none := I.hok.fresh (Nat.le_refl _)
theorem Inv.lstM (I : Inv X pins σ H s) (hH : H l = some (.lst xs)) : xs.length ≤ sizeLine ∧ ∃ (its : List Value) (n : Nat), Vals xs its ∧ xs.length = its.length ∧ s.heap.get? l = some { cls := .type "list", data := .seq its.toArray n } := by
  obtain ⟨z, its, n, r, e⟩ := I.hok l _ hH
  exact ⟨z, its, n, r, r.length, e⟩

end

section
variable {X : Cx}

def rAppend : V → List V → Hp → VK → Prop := fun x vs H Q => ∃ l xs y, x = .ref l ∧ vs = [y] ∧ H l = some (.lst xs) ∧ xs.length < sizeLine ∧ Q .non (upd H l (.lst (xs ++ [y])))
def rExtend : V → List V → Hp → VK → Prop := fun x vs H Q => ∃ l b xs zs, x = .ref l ∧ vs = [.ref b] ∧ H l = some (.lst xs) ∧ H b = some (.lst zs) ∧ xs.length + zs.length ≤ sizeLine ∧ Q .non (upd H l (.lst (xs ++ zs)))
def rPop : V → List V → Hp → VK → Prop := fun x vs H Q => ∃ l xs y, x = .ref l ∧ vs = [] ∧ H l = some (.lst xs) ∧ xs[xs.length - 1]? = some y ∧ Q y (upd H l (.lst xs.dropLast))
def rPopAt : V → List V → Hp → VK → Prop := fun x vs H Q => ∃ l xs i k y, x = .ref l ∧ vs = [.int i] ∧ H l = some (.lst xs) ∧ -(2 ^ 63) ≤ i ∧ i < 2 ^ 63 ∧ seqIndex? i xs.length = some k ∧ xs[k]? = some y ∧ Q y (upd H l (.lst (xs.eraseIdx k)))
def rReverse : V → List V → Hp → VK → Prop := fun x vs H Q => ∃ l xs, x = .ref l ∧ vs = [] ∧ H l = some (.lst xs) ∧ Q .non (upd H l (.lst xs.reverse))
def rClear : V → List V → Hp → VK → Prop := fun x vs H Q => ∃ l xs, x = .ref l ∧ vs = [] ∧ H l = some (.lst xs) ∧ Q .non (upd H l (.lst []))
def rCat : R2 := fun x y H Q => ∃ l b xs zs, x = .ref l ∧ y = .ref b ∧ H l = some (.lst xs) ∧ H b = some (.lst zs) ∧ xs.length + zs.length ≤ sizeLine ∧ ∀ p, H p = none → Q (.ref p) (upd H p (.lst (xs ++ zs)))
theorem op_cat : OpR X (binaryOp .Add) rCat := by
  intro pins s σ H x y v u Q I rx ry h
  obtain ⟨l, b, xs, zs, rfl, rfl, hH, hB, hz, q⟩ := h
  cases rx
  cases ry
  obtain ⟨z, its, n, r, hl, e⟩ := I.lstM hH
  obtain ⟨z2, its2, n2, r2, hl2, e2⟩ := I.lstM hB
  refine PySem.P.add_list e e2 ?_ (by rw [List.size_toArray, List.size_toArray]; omega)
  have ea : its.toArray ++ its2.toArray = (its ++ its2).toArray := by simp
  rw [ea]
  exact ⟨.ref _, _, I.lnew (t' := s.toks) (r.append r2) (by rw [List.length_append]; omega), rfl, q _ I.fresh⟩
def rRep : R2 := fun x y H Q => ∃ l k xs, x = .ref l ∧ y = .int k ∧ H l = some (.lst xs) ∧ -(2 ^ 63) ≤ k ∧ k < 2 ^ 63 ∧ xs.length * k.toNat ≤ sizeLine ∧
  ∀ p, H p = none → Q (.ref p) (upd H p (.lst (List.replicate k.toNat xs).flatten))
end

section
variable {prog : Program} {w : World} {A : Around} {E : Value → Shared → Prop} {s : Shared}
set_option maxRecDepth 100000 in
end

section
variable {X : Cx}
end
end L2

namespace L2
open PySem PySem.Spec PyProof.Rows

section
variable {prog : Program} {w : World} {A : Around} {E : Value → Shared → Prop} {s : Shared} {l : Addr} {its : List Value} {ns : List Int} {Q : Value → Shared → Prop}
end

section
variable {X : Cx}
def rSum (K : PySem.W.Frag) : List V → Hp → VK → Prop := fun vs H Q => ∃ (a : Addr) (ns : List Int), vs = [V.ref a] ∧ SqL K H a (ns.map V.int) ∧ Q (.int ns.sum) H
def rMax (K : PySem.W.Frag) : List V → Hp → VK → Prop := fun vs H Q => ∃ (a : Addr) (ns : List Int), vs = [V.ref a] ∧ SqL K H a (ns.map V.int) ∧ 0 < ns.length ∧ ∀ m, m ∈ ns → (∀ y, y ∈ ns → y ≤ m) → Q (.int m) H
def rMin (K : PySem.W.Frag) : List V → Hp → VK → Prop := fun vs H Q => ∃ (a : Addr) (ns : List Int), vs = [V.ref a] ∧ SqL K H a (ns.map V.int) ∧ 0 < ns.length ∧ ∀ m, m ∈ ns → (∀ y, y ∈ ns → m ≤ y) → Q (.int m) H
def rSorted (K : PySem.W.Frag) : List V → Hp → VK → Prop := fun vs H Q => ∃ (a : Addr) (ns : List Int), vs = [V.ref a] ∧ SqL K H a (ns.map V.int) ∧ ns.length < 64 ∧
  ∀ (ns' : List Int) (p : Addr), ns'.Perm ns → ns'.Pairwise (· ≤ ·) → H p = none → Q (.ref p) (upd H p (.lst (ns'.map V.int)))
def rSortedS (K : PySem.W.Frag) : List V → Hp → VK → Prop := fun vs H Q => ∃ (a : Addr) (xs : List Str), vs = [V.ref a] ∧ SqL K H a (xs.map V.str) ∧ xs.length < 64 ∧
  ∀ (ys : List Str) (p : Addr), ys.Perm xs → sortedS ys = true → H p = none → Q (.ref p) (upd H p (.lst (ys.map V.str)))
def rSort : V → List V → Hp → VK → Prop := fun x xs H Q => ∃ (a : Addr) (ns : List Int), x = V.ref a ∧ xs = [] ∧ H a = some (.lst (ns.map V.int)) ∧ ns.length < 64 ∧
  ∀ ns' : List Int, ns'.Perm ns → ns'.Pairwise (· ≤ ·) → Q .non (upd H a (.lst (ns'.map V.int)))
end

section
variable {X : Cx}
def rIndex (K : PySem.W.Frag) : V → List V → Hp → VK → Prop := fun x xs H Q => ∃ (a : Addr) (ys : List V) (y : V) (j : Nat) (z : V), x = V.ref a ∧ xs = [y] ∧ SqL K H a ys ∧ flatV y = true ∧ ys.all flatV = true ∧ ys[j]? = some z ∧ eqV z y = true ∧
  (∀ (m : Nat) (z' : V), m < j → ys[m]? = some z' → eqV z' y = false) ∧ Q (.int (j : Nat)) H
end

section
variable {X : Cx}
end

section
variable {X : Cx}
def rAny (K : PySem.W.Frag) : List V → Hp → VK → Prop := fun vs H Q => ∃ (a : Addr) (bs : List Bool), vs = [V.ref a] ∧ SqL K H a (bs.map V.bl) ∧ Q (.bl (bs.any id)) H
def rAll (K : PySem.W.Frag) : List V → Hp → VK → Prop := fun vs H Q => ∃ (a : Addr) (bs : List Bool), vs = [V.ref a] ∧ SqL K H a (bs.map V.bl) ∧ Q (.bl (bs.all id)) H
end

mutual
inductive Dp (K : PySem.W.Frag) (H : Hp) : V → PyData → Prop
  | non : Dp K H .non .none
  | bl (b : Bool) : Dp K H (.bl b) (.bool b)
  | int (i : Int) : Dp K H (.int i) (.int i)
  | str (x : Str) : Dp K H (.str x) (.str x)
  | lst {a : Addr} {xs : List V} {ds : List PyData} : SqL K H a xs → DpAll K H xs ds → Dp K H (.ref a) (.list ds)
  | tup {a : Addr} {xs : List V} {ds : List PyData} : SqT K H a xs → DpAll K H xs ds → Dp K H (.ref a) (.tuple ds)
inductive DpAll (K : PySem.W.Frag) (H : Hp) : List V → List PyData → Prop
  | nil : DpAll K H [] []
  | cons {v : V} {vs : List V} {d : PyData} {ds : List PyData} : Dp K H v d → DpAll K H vs ds → DpAll K H (v :: vs) (d :: ds)
end
section
variable {X : Cx} {pins : List (Addr × Obj)} {σ : St} {H : Hp} {s : Shared}
mutual
theorem Dp.reads (I : Inv X pins σ H s) : ∀ (d : PyData) (v : V) (u : Value), Dp X.K H v d → RelV v u → ∃ as, Reads s.heap u d as
  | .none, _, _, h, r => by
    cases h
    cases r
    exact ⟨_, Reads.none⟩
  | .bool b, _, _, h, r => by
    cases h
    cases r
    exact ⟨_, Reads.bool b⟩
  | .int i, _, _, h, r => by
    cases h
    obtain ⟨t, rfl⟩ := r
    exact ⟨_, Reads.int i t⟩
  | .str x, _, _, h, r => by
    cases h
    obtain ⟨t, rfl⟩ := r
    exact ⟨_, Reads.str x t⟩
  | .list ds, _, _, h, r => by
    cases h with
    | lst hs ha =>
      cases r
      obtain ⟨its, rv, ⟨o, n, ho, hc, _, hd⟩, _⟩ := I.list hs
      obtain ⟨as, hr⟩ := Dp.readsAll I ds _ its ha rv
      exact ⟨_, Reads.list ho hc hd hr⟩
  | .tuple ds, _, _, h, r => by
    cases h with
    | tup hs ha =>
      cases r
      obtain ⟨its, rv, ⟨o, ho, hc, n, hd⟩, _⟩ := I.tuple hs
      obtain ⟨as, hr⟩ := Dp.readsAll I ds _ its ha rv
      exact ⟨_, Reads.tuple ho hc hd hr⟩
  | .dict _, _, _, h, _ => by cases h
theorem Dp.readsAll (I : Inv X pins σ H s) : ∀ (ds : List PyData) (vs : List V) (us : List Value), DpAll X.K H vs ds → Vals vs us → ∃ as, ReadsAll s.heap us ds as
  | [], _, _, h, r => by
    cases h
    cases r
    exact ⟨_, ReadsAll.nil⟩
  | d :: ds, _, _, h, r => by
    cases h with
    | cons h1 h2 =>
      cases r with
      | cons r1 r2 =>
        obtain ⟨as, q1⟩ := Dp.reads I d _ _ h1 r1
        obtain ⟨bs, q2⟩ := Dp.readsAll I ds _ _ h2 r2
        exact ⟨_, ReadsAll.cons q1 q2⟩
end
end
section
variable {X : Cx}
def rEqD (K : PySem.W.Frag) : R2 := fun x y H Q => ∃ d e, Dp K H x d ∧ Dp K H y e ∧ SeqAt.shaped d = true ∧ SeqAt.shaped e = true ∧ Q (.bl (PyData.eqv d e)) H
def rNeD (K : PySem.W.Frag) : R2 := fun x y H Q => ∃ d e, Dp K H x d ∧ Dp K H y e ∧ SeqAt.shaped d = true ∧ SeqAt.shaped e = true ∧ Q (.bl (!PyData.eqv d e)) H
end
end L2

namespace L2
open PySem PySem.Spec PyProof.Rows
abbrev CellAt (h : Heap) (c : Addr) (v : Option Value) : Prop := h.IsCell c v
def relS (scope sc : Scope) : Scope :=
  { scope with names := scope.names.map fun (n, k) => if (k == .free && sc.kind == .function && sc.names.lookup n == some .cell) then (n, .cell) else (n, k) }

def cloFrom (cells : List (Str × Addr)) : List (Str × NameKind) → List (Str × Addr) → List (Str × Addr)
  | [], acc => acc
  | (n, k) :: r, acc => if k == .free then cloFrom cells r ((n, (cells.lookup n).getD 0) :: acc) else cloFrom cells r acc

theorem closure_loop (env : Env) (f : Str × NameKind → List (Str × Addr) → Sem (ForInStep (List (Str × Addr))))
    (hf : ∀ n k c, f (n, k) c = if k == .free then (do let a ← cellOf env n; pure (.yield ((n, a) :: c))) else pure (.yield c)) :
    ∀ (names : List (Str × NameKind)) (acc : List (Str × Addr)), (∀ y ∈ names, y.2 = .free → ∃ c, env.cells.lookup y.1 = some c) → forIn names acc f = pure (cloFrom env.cells names acc)
  | [], acc, _ => by rw [List.forIn_nil]; rfl
  | (n, k) :: r, acc, h => by
    rw [List.forIn_cons, hf]
    have ih := fun acc => closure_loop env f hf r acc fun y hy => h y (List.mem_cons_of_mem _ hy)
    unfold cloFrom
    by_cases hk : (k == NameKind.free) = true
    · rw [if_pos hk, if_pos hk]
      obtain ⟨c, hc⟩ := h (n, k) List.mem_cons_self (by simpa using hk)
      have e : cellOf env n = pure c := by unfold cellOf; rw [hc]
      rw [e]
      have e2 : (env.cells.lookup n).getD 0 = c := by rw [hc]; rfl
      rw [e2]
      exact ih _
    · rw [if_neg hk, if_neg hk]
      exact ih _
theorem closure_ok {scope : Scope} {env : Env} (h : ∀ y ∈ scope.names, y.2 = .free → ∃ c, env.cells.lookup y.1 = some c) : closureFor scope env = pure (cloFrom env.cells scope.names []) := by
  simp only [closureFor]
  rw [closure_loop env _ (fun n k c => rfl) scope.names [] h]
  rfl

theorem mem_lookup {α : Type} : ∀ {l : List (Str × α)} {n : Str} {c : α}, (n, c) ∈ l → ∃ c', l.lookup n = some c'
  | (k, v) :: r, n, c, h => by
    rw [List.lookup_cons]
    cases hb : n == k with
    | true => exact ⟨_, rfl⟩
    | false =>
      rcases List.mem_cons.mp h with e | h
      · cases e; simp at hb
      · exact mem_lookup h

theorem cloFrom_mem {cells : List (Str × Addr)} : ∀ {names : List (Str × NameKind)} {acc : List (Str × Addr)} {n : Str} {c : Addr}, (n, c) ∈ cloFrom cells names acc → (n, c) ∈ acc ∨ ((n, .free) ∈ names ∧ c = (cells.lookup n).getD 0)
  | [], _, _, _, h => .inl h
  | (m, k) :: r, acc, n, c, h => by
    unfold cloFrom at h
    split at h
    · rename_i hk
      have hk : k = .free := by simpa using hk
      rcases cloFrom_mem h with h | ⟨h1, h2⟩
      · rcases List.mem_cons.mp h with e | h
        · cases e; exact .inr ⟨hk ▸ List.mem_cons_self, rfl⟩
        · exact .inl h
      · exact .inr ⟨List.mem_cons_of_mem _ h1, h2⟩
    · rcases cloFrom_mem h with h | ⟨h1, h2⟩
      · exact .inl h
      · exact .inr ⟨List.mem_cons_of_mem _ h1, h2⟩
theorem cloFrom_acc {cells : List (Str × Addr)} : ∀ {names : List (Str × NameKind)} {acc : List (Str × Addr)} {p : Str × Addr}, p ∈ acc → p ∈ cloFrom cells names acc
  | [], _, _, h => h
  | (m, k) :: r, acc, p, h => by
    unfold cloFrom
    split
    · exact cloFrom_acc (List.mem_cons_of_mem _ h)
    · exact cloFrom_acc h
theorem cloFrom_has {cells : List (Str × Addr)} : ∀ {names : List (Str × NameKind)} {acc : List (Str × Addr)} {n : Str}, (n, .free) ∈ names → (n, (cells.lookup n).getD 0) ∈ cloFrom cells names acc
  | (m, k) :: r, acc, n, h => by
    unfold cloFrom
    rcases List.mem_cons.mp h with e | h
    · cases e
      exact cloFrom_acc List.mem_cons_self
    · split
      · exact cloFrom_has h
      · exact cloFrom_has h

theorem cells_mem : ∀ {names : List (Str × NameKind)} {h : Heap} {acc : List (Str × Addr)} {x : Str} {c : Addr}, (x, c) ∈ cellsFrom h.objs.size names acc →
    (x, c) ∈ acc ∨ ((x, .cell) ∈ names ∧ h.objs.size ≤ c ∧ CellAt (pushCells h names) c none)
  | [], _, _, _, _, h => .inl h
  | (n, k) :: r, h, acc, x, c, hm => by
    unfold cellsFrom at hm
    unfold pushCells
    split at hm
    · rename_i hk
      rw [if_pos hk]
      have hk : k = .cell := by simpa using hk
      rw [← Heap.size_push h { cls := .type "cell", data := .cell none }] at hm
      rcases cells_mem hm with hm | ⟨h1, h2, h3⟩
      · rcases List.mem_cons.mp hm with e | hm
        · cases e
          exact .inr ⟨hk ▸ List.mem_cons_self, Nat.le_refl _, _, pushCells_keeps r _ _ _ (Heap.get?_push_size _ rfl), rfl⟩
        · exact .inl hm
      · rw [Heap.size_push] at h2
        exact .inr ⟨List.mem_cons_of_mem _ h1, Nat.le_of_succ_le h2, h3⟩
    · rename_i hk
      rw [if_neg hk]
      rcases cells_mem hm with hm | ⟨h1, h2, h3⟩
      · exact .inl hm
      · exact .inr ⟨List.mem_cons_of_mem _ h1, h2, h3⟩
theorem cells_acc : ∀ {names : List (Str × NameKind)} {n : Nat} {acc : List (Str × Addr)} {p : Str × Addr}, p ∈ acc → p ∈ cellsFrom n names acc
  | [], _, _, _, h => h
  | (m, k) :: r, n, acc, p, h => by
    unfold cellsFrom
    split
    · exact cells_acc (List.mem_cons_of_mem _ h)
    · exact cells_acc h
theorem cells_has : ∀ {names : List (Str × NameKind)} {n : Nat} {acc : List (Str × Addr)} {x : Str}, (x, .cell) ∈ names → ∃ c, (x, c) ∈ cellsFrom n names acc
  | (m, k) :: r, n, acc, x, h => by
    unfold cellsFrom
    rcases List.mem_cons.mp h with e | h
    · cases e
      exact ⟨n, cells_acc List.mem_cons_self⟩
    · split
      · exact cells_has h
      · exact cells_has h
theorem cells_inj : ∀ {names : List (Str × NameKind)} {h : Heap} {acc : List (Str × Addr)} {x y : Str} {c : Addr}, (∀ p ∈ acc, p.2 < h.objs.size) → (∀ x y c, (x, c) ∈ acc → (y, c) ∈ acc → x = y) →
    (x, c) ∈ cellsFrom h.objs.size names acc → (y, c) ∈ cellsFrom h.objs.size names acc → x = y
  | [], _, _, _, _, _, _, hi, h1, h2 => hi _ _ _ h1 h2
  | (n, k) :: r, h, acc, x, y, c, hl, hi, h1, h2 => by
    unfold cellsFrom at h1 h2
    split at h1
    · rename_i hk
      rw [if_pos hk] at h2
      rw [← Heap.size_push h { cls := .type "cell", data := .cell none }] at h1 h2
      refine cells_inj (h := h.push _) (fun p hp => ?_) (fun x y c a b => ?_) h1 h2
      · rw [Heap.size_push]
        rcases List.mem_cons.mp hp with rfl | hp
        · exact Nat.lt_succ_self _
        · exact Nat.lt_succ_of_lt (hl p hp)
      · rcases List.mem_cons.mp a with e | a <;> rcases List.mem_cons.mp b with e' | b
        · cases e; cases e'; rfl
        · cases e; exact absurd (hl _ b) (Nat.lt_irrefl _)
        · cases e'; exact absurd (hl _ a) (Nat.lt_irrefl _)
        · exact hi _ _ _ a b
    · rename_i hk
      rw [if_neg hk] at h2
      exact cells_inj hl hi h1 h2

theorem newEnv_comp {M : Model} {A : Around} {E : Value → Shared → Prop} {s : Shared} {scope : Scope} {globals : Addr} {closure : List (Str × Addr)} {qual : Str} {func : Option Addr} {code : Value} {around : Env} {builtins : Addr} {Q : Env → Shared → Prop}
    (h : Q (newEnv scope s.heap.objs.size globals (cellsFrom (s.heap.objs.size + 1) scope.names closure) qual func code (some around) builtins)
      { s with heap := pushCells (s.heap.push { cls := .type "dict", data := .dict #[] }) scope.names }) :
    wpAny M A (newFunctionEnv scope globals closure [] qual func code (some around) builtins) Q E s := by
  simp only [newFunctionEnv, Option.isSome_some, if_true]
  refine wpAny_bind (wpAny_alloc ?_)
  refine wpAny_bind (wpAny_layCells _ (fun n k c => rfl) scope.names closure _ _ ?_)
  rw [show ({ s with heap := s.heap.push { cls := .type "dict", data := .dict #[] } } : Shared).heap.objs.size = s.heap.objs.size + 1 from Heap.size_push ..]
  rw [List.forIn_nil]
  exact wpAny_bind (wpAny_pure (wpAny_pure h))

theorem lookup_relS {sc : Scope} : ∀ {names : List (Str × NameKind)} {x : Str} {k : NameKind},
    (names.map fun (n, k) => if (k == NameKind.free && sc.kind == .function && sc.names.lookup n == some .cell) then (n, NameKind.cell) else (n, k)).lookup x = some k →
    ∃ k', names.lookup x = some k' ∧ (k = k' ∨ (k' = .free ∧ k = .cell))
  | [], _, _, h => by simp at h
  | (n, k₀) :: r, x, k, h => by
    have ih := @lookup_relS sc r x k
    have h' : List.lookup x ((if (k₀ == NameKind.free && sc.kind == .function && sc.names.lookup n == some .cell) = true then (n, NameKind.cell) else (n, k₀)) :: (r.map _)) = some k := h
    cases hx : x == n with
    | true =>
      simp only [List.lookup_cons, hx]
      by_cases hc : (k₀ == NameKind.free && sc.kind == .function && sc.names.lookup n == some .cell) = true
      · rw [if_pos hc] at h'
        simp only [List.lookup_cons, hx] at h'
        cases h'
        simp only [Bool.and_eq_true, beq_iff_eq] at hc
        exact ⟨k₀, rfl, .inr ⟨hc.1.1, rfl⟩⟩
      · rw [if_neg hc] at h'
        simp only [List.lookup_cons, hx] at h'
        cases h'
        exact ⟨_, rfl, .inl rfl⟩
    | false =>
      simp only [List.lookup_cons, hx]
      by_cases hc : (k₀ == NameKind.free && sc.kind == .function && sc.names.lookup n == some .cell) = true
      · rw [if_pos hc] at h'
        simp only [List.lookup_cons, hx] at h'
        exact ih h'
      · rw [if_neg hc] at h'
        simp only [List.lookup_cons, hx] at h'
        exact ih h'
structure BlkOk (N : List Str) (sc scope : Scope) (own : List (Str × Nat)) : Prop where
  kind : scope.kind = .function
  uniq : ∀ y ∈ scope.names, scope.names.lookup y.1 = some y.2
  ix : ∀ p ∈ own, N[p.2]? = some p.1
  free : ∀ y ∈ scope.names, y.2 = .free → sc.names.lookup y.1 = some .cell ∨ sc.names.lookup y.1 = some .free
  own : ∀ y ∈ scope.names, y.2 = .local ∨ y.2 = .cell → y.1 ∈ own.map (·.1) ∨ y.1 ∉ N
def wipe (σ : St) : List Nat → St
  | [] => σ
  | v :: vs => (wipe σ vs).set v none
theorem wipe_length (σ : St) : ∀ vs : List Nat, (wipe σ vs).length = σ.length
  | [] => rfl
  | v :: vs => by unfold wipe; rw [List.length_set, wipe_length σ vs]
theorem wipe_some {σ : St} {i : Nat} {x : V} : ∀ {vs : List Nat}, (wipe σ vs)[i]? = some (some x) → σ[i]? = some (some x) ∧ i ∉ vs
  | [], h => ⟨h, by simp⟩
  | v :: vs, h => by
    unfold wipe at h
    by_cases hi : v = i
    · subst hi
      by_cases hv : v < (wipe σ vs).length
      · rw [List.getElem?_set_self hv] at h; cases h
      · rw [List.getElem?_eq_none (by simpa using hv)] at h; cases h
    · rw [List.getElem?_set_ne hi] at h
      obtain ⟨h1, h2⟩ := wipe_some h
      exact ⟨h1, by simp only [List.mem_cons, not_or]; exact ⟨fun e => hi e.symm, h2⟩⟩

abbrev Cx.blk (X : Cx) (s : Shared) (H : Hp) (scope : Scope) (cenv : Env) (fp : List Addr) : Cx := { X with s_0 := s, H_0 := H, env := cenv, outer := X.stack, ex := fp, fn := fun x => scope.names.lookup x == some .cell, pn := [], xe := fun _ _ => False }
section
variable {X : Cx} {pins : List (Addr × Obj)} {σ : St} {H : Hp} {s : Shared}
theorem block_start {scope : Scope} {own : List (Str × Nat)} {fp : List Addr} (I : Inv X pins σ H s) (ok : BlkOk X.N X.env.scope scope own) (hN : X.N.Nodup) (hfp : ∀ b ∈ fp, FpOk X pins H b ∧ b < s.heap.objs.size) :
    Inv (X.blk s H scope (compEnvC scope (cellsFrom (s.heap.objs.size + 1) scope.names (cloFrom X.env.cells scope.names [])) s.heap.objs.size X.env) fp) [] (wipe σ (own.map (·.2))) H { s with heap := pushCells (s.heap.push { cls := .type "dict", data := .dict #[] }) scope.names } := by
  have hfree : ∀ y ∈ scope.names, y.2 = .free → ∃ c, X.env.cells.lookup y.1 = some c := fun y hy e => by
    rcases ok.free y hy e with k | k
    · exact I.ok.has _ (.inl k)
    · exact I.ok.has _ (.inr k)
  generalize hcenv : compEnvC scope (cellsFrom (s.heap.objs.size + 1) scope.names (cloFrom X.env.cells scope.names [])) s.heap.objs.size X.env = cenv
  have kp : ∀ b o, s.heap.get? b = some o → (pushCells (s.heap.push { cls := .type "dict", data := .dict #[] }) scope.names).get? b = some o := fun b o e => pushCells_keeps _ _ _ _ (Heap.get?_push_of_some _ e)
  have hL : cenv.locals = s.heap.objs.size := by rw [← hcenv]; rfl
  have hcl : cenv.cells = cellsFrom (s.heap.objs.size + 1) scope.names (cloFrom X.env.cells scope.names []) := by rw [← hcenv]; rfl
  have hsc : cenv.scope = relS scope X.env.scope := by rw [← hcenv]; rfl
  rw [← Heap.size_push s.heap { cls := .type "dict", data := .dict #[] }] at hcl
  have cm : ∀ {y c}, (y, c) ∈ cloFrom X.env.cells scope.names [] → X.env.cells.lookup y = some c ∧ c < s.heap.objs.size := fun {y c} hm => by
    rcases cloFrom_mem hm with hm | ⟨h1, rfl⟩
    · cases hm
    · obtain ⟨c, hc⟩ := hfree _ h1 rfl
      rw [hc]
      obtain ⟨w, z⟩ := I.cell _ _ hc
      exact ⟨rfl, z.lt⟩
  have mem : ∀ {y c}, cenv.cells.lookup y = some c → (X.env.cells.lookup y = some c ∧ c < s.heap.objs.size) ∨ (s.heap.objs.size + 1 ≤ c ∧ CellAt (pushCells (s.heap.push { cls := .type "dict", data := .dict #[] }) scope.names) c none) := fun {y c} e => by
    rw [hcl] at e
    rcases cells_mem (PySem.mem_of_lookup e) with hm | ⟨_, h2, h3⟩
    · exact .inl (cm hm)
    · rw [Heap.size_push] at h2; exact .inr ⟨h2, h3⟩
  have look : ∀ {y}, scope.names.lookup y = some .free → ∃ c, cenv.cells.lookup y = some c ∧ X.env.cells.lookup y = some c := fun {y} hl => by
    have hy : (y, NameKind.free) ∈ scope.names := PySem.mem_of_lookup hl
    obtain ⟨c', e'⟩ := mem_lookup (cells_acc (names := scope.names) (n := (s.heap.push { cls := .type "dict", data := .dict #[] }).objs.size) (cloFrom_has (cells := X.env.cells) (acc := []) hy))
    rw [← hcl] at e'
    refine ⟨c', e', ?_⟩
    rw [hcl] at e'
    rcases cells_mem (PySem.mem_of_lookup e') with hm | ⟨h1, _, _⟩
    · exact (cm hm).1
    · have := ok.uniq _ h1
      rw [hl] at this; cases this
  have okB : (X.blk s H scope cenv fp).Ok := by
    refine ⟨I.ok.mod, by show cenv.scope.kind = _; rw [hsc]; exact ok.kind, by show cenv.globals = _; rw [← hcenv]; exact I.ok.glob, by show cenv.builtins = _; rw [← hcenv]; exact I.ok.blt, by show s.heap.objs.size ≤ cenv.locals; rw [hL]; exact Nat.le_refl _,
      fun y z c e1 e2 => ?_, fun y hy => ?_, fun y c z e => ?_, I.ok.hd, I.ok.frames, .inl rfl, fun b hb => ⟨?_, fun y c e z => ?_⟩, I.bs, Nat.le_trans I.ok.bsz I.sz, fun b o e hb => ?_, fun b hb z => ?_, I.stack, I.stkFree⟩
    · have e1 : cenv.cells.lookup y = some c := e1
      have e2 : cenv.cells.lookup z = some c := e2
      rw [hcl] at e1 e2
      refine cells_inj (fun p hp => ?_) (fun y z c a b => I.ok.inj y z c (cm a).1 (cm b).1) (PySem.mem_of_lookup e1) (PySem.mem_of_lookup e2)
      rw [Heap.size_push]
      exact Nat.lt_succ_of_lt (cm (y := p.1) (c := p.2) hp).2
    · show ∃ c, cenv.cells.lookup y = some c
      have key : ∀ k, cenv.kindOf y = some k → (k = .cell ∨ k = .free) → ∃ c, cenv.cells.lookup y = some c := fun k hk hk' => by
        unfold Env.kindOf at hk
        rw [hsc] at hk
        obtain ⟨k', e, r⟩ := lookup_relS hk
        have : k' = .cell ∨ k' = .free := by
          rcases r with rfl | ⟨rfl, _⟩
          · exact hk'
          · exact .inr rfl
        rcases this with rfl | rfl
        · obtain ⟨c, hm⟩ := cells_has (n := (s.heap.push { cls := .type "dict", data := .dict #[] }).objs.size) (acc := cloFrom X.env.cells scope.names []) (PySem.mem_of_lookup e)
          obtain ⟨c', e'⟩ := mem_lookup hm
          exact ⟨c', by rw [hcl]; exact e'⟩
        · obtain ⟨c, h1, _⟩ := look e
          exact ⟨c, h1⟩
      rcases hy with hy | hy
      · exact key _ hy (.inl rfl)
      · exact key _ hy (.inr rfl)
    · have z : (scope.names.lookup y == some NameKind.cell) = true := z
      have z : scope.names.lookup y = some .cell := by simpa using z
      have e : cenv.cells.lookup y = some c := e
      rw [hcl] at e
      rcases cells_mem (PySem.mem_of_lookup e) with hm | ⟨_, h2, _⟩
      · rcases cloFrom_mem hm with hm | ⟨h1, _⟩
        · cases hm
        · have q := ok.uniq _ h1
          rw [z] at q; cases q
      · rw [Heap.size_push] at h2
        exact Nat.le_of_succ_le h2
    · show b ≠ cenv.locals
      rw [hL]; exact Nat.ne_of_lt (hfp b hb).2
    · have e : cenv.cells.lookup y = some c := e
      rcases mem e with ⟨h1, _⟩ | ⟨h1, _⟩
      · exact (hfp b hb).1.2.2.2.2.1 y c h1 z
      · have h2 : s.heap.objs.size + 1 ≤ b := by rw [← z]; exact h1
        exact absurd (Nat.lt_of_lt_of_le (hfp b hb).2 (Nat.le_of_succ_le h2)) (Nat.lt_irrefl _)
    · rcases (hfp b hb).1.2.2.2.1 with z | z
      · exact I.ok.noex b o e z
      · exact absurd (Nat.lt_of_lt_of_le (Heap.lt_size e) (Nat.le_trans I.ok.bsz z)) (Nat.lt_irrefl _)
    · rcases List.mem_cons.mp (I.stkSub b z) with z | z
      · exact (hfp b hb).1.2.1 z
      · exact (hfp b hb).1.2.2.1 z
  refine ⟨okB, rfl, I.bare, Un.kept kp, ⟨fun _ => none, ?_, fun i y av e1 e2 e3 => ?_⟩, fun y c e => ?_, ?_, fun y c e => ?_, fun p hp => ?_, I.hok.kept kp, by rw [wipe_length]; exact I.len⟩
  · show Heap.Ns _ cenv.locals _
    rw [hL]
    exact Heap.Ns.keeps (Heap.Ns.new ..) fun b o e => pushCells_keeps _ _ _ _ e
  · obtain ⟨e2, hne⟩ := wipe_some e2
    have hfr : scope.names.lookup y = some .free ∧ (cenv.kindOf y = some .cell ∨ cenv.kindOf y = some .free) := by
      have key : ∀ k, cenv.scope.names.lookup y = some k → k = .local ∨ k = .cell ∨ k = .free → scope.names.lookup y = some .free ∧ (cenv.kindOf y = some .cell ∨ cenv.kindOf y = some .free) := fun k hk hk' => by
        have hk0 := hk
        rw [hsc] at hk
        obtain ⟨k', e, r⟩ := lookup_relS hk
        have no : ¬ (k' = .local ∨ k' = .cell) := fun hh => by
          rcases ok.own _ (PySem.mem_of_lookup e) hh with e' | e'
          · obtain ⟨p, hp, hpy⟩ := List.mem_map.mp e'
            have e3 := ok.ix p hp
            have : p.1 = y := hpy
            rw [this] at e3
            exact hne (List.mem_map.mpr ⟨p, hp, nodup_ix hN e3 e1⟩)
          · exact e' (List.mem_of_getElem? e1)
        rcases r with rfl | ⟨rfl, rfl⟩
        · rcases hk' with rfl | rfl | rfl
          · exact absurd (.inl rfl) no
          · exact absurd (.inr rfl) no
          · exact ⟨e, .inr hk0⟩
        · exact ⟨e, .inl hk0⟩
      have e3 : Vis cenv.scope y := e3
      rcases e3 with e3 | e3 | e3
      · exact key _ e3 (.inl rfl)
      · exact key _ e3 (.inr (.inl rfl))
      · exact key _ e3 (.inr (.inr rfl))
    obtain ⟨m, hn, hl⟩ := I.loc
    have hvis : Vis X.env.scope y := (ok.free _ (PySem.mem_of_lookup hfr.1) rfl).elim (fun k => .inr (.inl k)) (fun k => .inr (.inr k))
    obtain ⟨w, r, q⟩ := hl i y av e1 e2 hvis
    refine ⟨w, r, .inr ⟨hfr.2, ?_⟩⟩
    obtain ⟨c, h1, h2⟩ := look hfr.1
    rcases q with ⟨k, _⟩ | ⟨_, c', e', z⟩
    · have k : X.env.scope.names.lookup y = some .local := k
      rcases ok.free _ (PySem.mem_of_lookup hfr.1) rfl with k' | k' <;> rw [show X.env.scope.names.lookup y = _ from k'] at k <;> cases k
    · rw [h2] at e'; cases e'
      exact ⟨c, h1, z.keeps kp⟩
  · have e : cenv.cells.lookup y = some c := e
    rcases mem e with ⟨h1, _⟩ | ⟨_, z⟩
    · obtain ⟨w, z⟩ := I.cell y c h1
      exact ⟨w, z.keeps kp⟩
    · exact ⟨_, z⟩
  · show H cenv.locals = none
    rw [hL]; exact I.hok.fresh (Nat.le_refl _)
  · have e : cenv.cells.lookup y = some c := e
    rcases mem e with ⟨h1, _⟩ | ⟨h1, _⟩
    · exact I.freeC y c h1
    · exact I.hok.fresh (Nat.le_of_succ_le h1)
  · exact absurd (show p ∈ ([] : List (Addr × Obj)) ++ [] from hp) (by simp)

theorem app_ok {E : Value → Shared → Prop} {D : Addr} {xs : List V} {y : V} {v : Value} {Q : Value → Shared → Prop} (I : Inv X pins σ H s) (hD : H D = some (.lst xs)) (hz : xs.length < sizeLine) (r : RelV y v)
    (h : ∀ s', Inv X pins σ (upd H D (.lst (xs ++ [y]))) s' → Q .none s') : wpAny (model X.prog X.w) X.A (call (.builtin "list.append") [.ref D, v]) Q E s := by
  obtain ⟨hz', its, n, ri, e⟩ := I.hok D _ hD
  have hl := ri.length
  refine append_at (hsz := by rw [List.size_toArray]; omega) e fun h' sb ho' => ?_
  refine h { s with heap := h' } (I.write (t' := s.toks) (by rw [hD]; trivial) (.inl rfl) (fun b u hb q => (sb.2 b hb).trans q) ⟨_, ho'⟩ ⟨by rw [List.length_append]; exact hz, its ++ [v], n + 1, ri.append (.cons r .nil), ?_⟩)
  rw [ho']
  simp

def PTs (X : Cx) (ifs : List Expr) (t : TT) : Prop :=
  ∀ (pins : List (Addr × Obj)) (s : Shared) (σ : St) (H : Hp) (Q : Bool → Hp → Prop), Inv X pins σ H s → t σ H Q →
    wpAny (model X.prog X.w) X.A (forIn ifs true fun c r => if r = true then do let ok ← isTrue c X.env (eval c X.env); pure (ForInStep.yield ok) else pure (ForInStep.yield r)) (TP X pins σ Q) X.xe s
def tYes : TT := fun _ H Q => Q true H
theorem pts_nil : PTs X [] tYes := fun _ _ _ H _ I h => wpAny_tests_nil ⟨H, I, h⟩
theorem pts_one {c : Expr} {t : TT} (h : PT X c t) : PTs X [c] t := fun pins s σ H Q I hw => wpAny_tests_one (h pins s σ H Q I hw)
end

theorem thnF {α : Type} {t : Sem α} {Q Q' : α → Shared → Prop} {M : Model} {A : Around} {E : Value → Shared → Prop} {s : Shared} (h : wpAny M A t Q (fun _ _ => False) s) (hQ : ∀ a s, Q a s → Q' a s) : wpAny M A t Q' E s := wpAny_mono h hQ fun _ _ z => False.elim z

theorem compLoop_any {prog : Program} {w : World} {A : Around} {R : Result → Shared → Prop} {s : Shared} {elt target iter : Expr} {ifs : List Expr} {scope : Scope} {pos : Pos} {it acc : Value} {env : Env} (I : Nat → Shared → Prop)
    (turn : ∀ n s, I n s → wpAny (model prog w) A (pyNext it) (fun r s₁ => match r with
      | none => R (.ok .next) s₁
      | some v => wpAny (model prog w) A (letOwnedTupleGo target it v) (fun _ s₁' => wpAny (model prog w) A (assign target env v) (fun _ s₂ =>
          wpAny (model prog w) A (forIn ifs true fun c r => if r = true then do let ok ← isTrue c env (eval c env); pure (ForInStep.yield ok) else pure (ForInStep.yield r)) (fun ok s₃ =>
            if ok = true then wpAny (model prog w) A (eval elt env) (fun x s₄ =>
              wpAny (model prog w) A (call (.builtin "list.append") [acc, x]) (fun _ s₅ => ∃ m, m < n ∧ I m s₅) (notedBy (model prog w) A env fun e s' => R (.error e) s') s₄) (notedBy (model prog w) A env fun e s' => R (.error e) s') s₃
            else ∃ m, m < n ∧ I m s₃) (notedBy (model prog w) A env fun e s' => R (.error e) s') s₂) (notedBy (model prog w) A env fun e s' => R (.error e) s') s₁') (notedBy (model prog w) A env fun e s' => R (.error e) s') s₁) (notedBy (model prog w) A env fun e s' => R (.error e) s') s)
    (n : Nat) (h : I n s) :
    codeAny (model prog w) A (.compLoop (.ListComp elt [⟨target, iter, ifs, 0⟩] scope pos) 0 it acc env) R s := by
  refine codeAny_loop rfl I (fun n s hI => ?_) n h
  show wpAny _ A ((compTurn (.ListComp elt [⟨target, iter, ifs, 0⟩] scope pos) 0 it acc env).onRaise (fun x => do noteFrame x env; theTreesLotGoes x)) _ _ s
  refine wpAny_noted ?_
  rw [compTurn_list]
  refine wpAny_bind (wpAny_standAt (wpAny_bind (wpAny_mono (turn n s hI) (fun r s₁ h₁ => ?_) fun _ _ h' => h')))
  cases r with
  | none => exact wpAny_pure h₁
  | some v =>
    refine wpAny_bind (wpAny_mono h₁ (fun _ s₁' h₁' => ?_) fun _ _ h' => h')
    refine wpAny_bind (wpAny_mono h₁' (fun _ s₂ h₂ => wpAny_bind (wpAny_mono h₂ (fun ok s₃ h₃ => ?_) fun _ _ h' => h')) fun _ _ h' => h')
    cases ok with
    | false => exact wpAny_pure ⟨rfl, h₃⟩
    | true =>
      exact wpAny_bind (wpAny_bind (wpAny_mono h₃ (fun x s₄ h₄ => wpAny_bind (wpAny_mono h₄ (fun _ s₅ h₅ => wpAny_pure (wpAny_pure ⟨rfl, h₅⟩)) fun _ _ h' => h')) fun _ _ h' => h'))

section
variable {X : Cx}
def tLc (wi : TI) (g : TG) (tt : TT) (te : TE) (vs : List Nat) : TE := fun σ H Q => wi σ H fun J H1 => ∀ D, H1 D = none → ∃ W : Nat → Nat → Hp → Prop, (∃ m, W 0 m (upd H1 D (.lst []))) ∧ ∀ i m H, W i m H →
  (J.stop i H ∧ Q (.ref D) H) ∨ (J.go i H ∧ ∃ Nx : Hp → Prop, (∀ H', Nx H' → ∃ m', m' < m ∧ W (i + 1) m' H') ∧ ∀ x H', J.yld i H x H' → g x (wipe σ vs) H' fun σ2 H2 => wipe σ2 vs = wipe σ vs ∧ tt σ2 H2 fun b H3 =>
    if b = true then te σ2 H3 fun y H4 => ∃ acc, H4 D = some (.lst acc) ∧ acc.length < sizeLine ∧ Nx (upd H4 D (.lst (acc ++ [y]))) else Nx H3)
theorem lc_core {pins : List (Addr × Obj)} {s : Shared} {σ : St} {H : Hp} {Q : VK} {elt tg iter : Expr} {ifs : List Expr} {scope : Scope} {own : List (Str × Nat)} {pos pos' : Pos} {wi : TI} {g : TG} {tt : TT} {te : TE} {use : Option (Value → Sem Unit)} {Qf : Value → Shared → Prop}
    (hc : X.calm = true) (hN : X.N.Nodup) (I : Inv X pins σ H s) (hi : PI X tg iter wi) (ok : BlkOk X.N X.env.scope scope own)
    (hg : ∀ (s : Shared) (H : Hp) (C : Addr) (cl : List (Str × Addr)) (fp : List Addr), PG (X.blk s H scope (compEnvC scope cl C X.env) fp) tg g) (ht : ∀ (s : Shared) (H : Hp) (C : Addr) (cl : List (Str × Addr)) (fp : List Addr), PTs (X.blk s H scope (compEnvC scope cl C X.env) fp) ifs tt)
    (he : ∀ (s : Shared) (H : Hp) (C : Addr) (cl : List (Str × Addr)) (fp : List Addr), PE (X.blk s H scope (compEnvC scope cl C X.env) fp) elt te) (hs : ∀ x, foldedSetIterable iter X.env x = pure x)
    (h : tLc wi g tt te (own.map (·.2)) σ H Q)
    (hRR : ∀ D C s' m H', Inv X pins σ H' s' → Q (.ref D) H' → s'.heap.Ns C m → FpOk X pins H' C → compPost (model X.prog X.w) X.A X.xe use Qf (.ref D) C (.ok .next) s') :
    wpAny (model X.prog X.w) X.A (comprehension (.ListComp elt [⟨tg, iter, ifs, 0⟩] scope pos) scope X.env pos' (newList []) false (eval iter X.env) use) Qf X.xe s := by
  have hfree : ∀ y ∈ scope.names, y.2 = .free → ∃ c, X.env.cells.lookup y.1 = some c := fun y hy e => by
    rcases ok.free y hy e with k | k
    · exact I.ok.has _ (.inl k)
    · exact I.ok.has _ (.inr k)
  refine wpAny_comprehension_free (use := use) rfl hs (closure_ok hfree) ok.kind (fun y hy e => by rw [ok.uniq y hy, e])
    (thn (hi pins s σ H _ I h) fun xv s1 hx => thn hx fun itv s2 h2 => ?_)
  obtain ⟨it, fp, tn, J, H2, e, I2, T, st2, f2, q⟩ := h2
  subst e
  refine wpAny_newObj_type (newEnv_comp ?_) (by show 0 ≤ sizeLine; decide)
  generalize hD : s2.heap.objs.size = D
  have hDn : H2 D = none := I2.hok.fresh (Nat.le_of_eq hD)
  obtain ⟨W, ⟨m0, w0⟩, turn⟩ := q D hDn
  -- the new list
  generalize hs3 : ({ s2 with heap := s2.heap.push { cls := .type "list", data := .seq ([] : List Value).toArray } } : Shared) = s3
  have I3 : Inv X pins σ (upd H2 D (.lst [])) s3 := by
    rw [← hs3]
    refine I2.laid (t' := s2.toks) (fun b o e => Heap.get?_push_of_some _ e) (Nat.le_of_eq hD) ⟨Nat.zero_le _, [], 0, .nil, ?_⟩
    rw [← hD]
    exact Heap.get?_push_size _ rfl
  have h3 : s3.heap = s2.heap.push { cls := .type "list", data := .seq ([] : List Value).toArray } := by rw [← hs3]
  have sz : ∀ b ∈ fp, b < s2.heap.objs.size := fun b hb => by
    obtain ⟨o, e, _⟩ := T.obj _ _ st2 b hb
    exact Heap.lt_size e
  have f3 : ∀ b ∈ fp, FpOk X pins (upd H2 D (.lst [])) b ∧ b < s3.heap.objs.size := fun b hb => by
    have hlt := sz b hb
    refine ⟨⟨?_, (f2 b hb).2⟩, by rw [h3, Heap.size_push]; exact Nat.lt_succ_of_lt hlt⟩
    rw [upd_ne (by rw [← hD]; exact Nat.ne_of_lt hlt)]
    exact (f2 b hb).1
  have st3 : tn 0 s3.heap := T.keep _ _ _ st2 fun b _ o e => by rw [h3]; exact Heap.get?_push_of_some _ e
  have I4 := block_start I3 ok hN f3
  have pg := hg s3 (upd H2 D (.lst [])) s3.heap.objs.size (cellsFrom (s3.heap.objs.size + 1) scope.names (cloFrom X.env.cells scope.names [])) fp
  have pt := ht s3 (upd H2 D (.lst [])) s3.heap.objs.size (cellsFrom (s3.heap.objs.size + 1) scope.names (cloFrom X.env.cells scope.names [])) fp
  have pe := he s3 (upd H2 D (.lst [])) s3.heap.objs.size (cellsFrom (s3.heap.objs.size + 1) scope.names (cloFrom X.env.cells scope.names [])) fp
  show codeAny _ _ (.compStart (.ListComp elt [⟨tg, iter, ifs, 0⟩] scope pos) 0 (.ref it) (.ref D) (compEnvC scope (cellsFrom (s3.heap.objs.size + 1) scope.names (cloFrom X.env.cells scope.names [])) s3.heap.objs.size X.env)) (compPost (model X.prog X.w) X.A X.xe use Qf (.ref D) s3.heap.objs.size) { s3 with heap := pushCells (s3.heap.push { cls := .type "dict", data := .dict #[] }) scope.names }
  have nfp : ∀ b ∈ fp, (upd H2 D (.lst [])) b = none := fun b hb => (f3 b hb).1.1
  generalize hce : compEnvC scope (cellsFrom (s3.heap.objs.size + 1) scope.names (cloFrom X.env.cells scope.names [])) s3.heap.objs.size X.env = ce at I4 pg pt pe ⊢
  have cL : ce.locals = s3.heap.objs.size := by subst hce; rfl
  generalize hH3 : upd H2 D (.lst []) = H3 at I3 I4 pg pt pe w0 nfp f3
  generalize hs4 : ({ s3 with heap := pushCells (s3.heap.push { cls := .type "dict", data := .dict #[] }) scope.names } : Shared) = s4 at I4 ⊢
  have st4 : tn 0 s4.heap := T.keep _ _ _ st3 fun b _ o e => by rw [← hs4]; exact pushCells_keeps _ _ _ _ (Heap.get?_push_of_some _ e)
  have stat : ∀ {σ' : St} {H' : Hp} {s' : Shared}, Inv (X.blk s3 H3 scope ce fp) [] σ' H' s' → (∀ b ∈ fp, H' b = none) → ∀ b ∈ fp, FpOk (X.blk s3 H3 scope ce fp) [] H' b := fun {σ' H' s'} I' hn b hb =>
    ⟨hn b hb, (I'.ok.exf b hb).1, I'.ok.exfs b hb, .inl hb, fun x c e => (I'.ok.exf b hb).2 x c e, fun p hp => absurd (show p ∈ ([] : List (Addr × Obj)) ++ [] from hp) (by simp)⟩
  have loop : codeAny (model X.prog X.w) X.A (.compLoop (.ListComp elt [⟨tg, iter, ifs, 0⟩] scope pos) 0 (.ref it) (.ref D) ce) (compPost (model X.prog X.w) X.A X.xe use Qf (.ref D) s3.heap.objs.size) s4 := by
    refine compLoop_any (fun n s' => ∃ i H', Inv (X.blk s3 H3 scope ce fp) [] (wipe σ (own.map (·.2))) H' s' ∧ tn i s'.heap ∧ (∀ b ∈ fp, H' b = none) ∧ W i n H') ?_ m0 ⟨0, H3, I4, st4, nfp, w0⟩
    rintro n s5 ⟨i, H5, I5, st5, n5, w5⟩
    rcases turn i n H5 w5 with ⟨stop, qq⟩ | ⟨go, Nx, hNx, step⟩
    · have td := T.done (X.blk s3 H3 scope ce fp) rfl rfl rfl hc i [] s5 _ H5 (fun _ _ => False) I5 (stat I5 n5) st5 stop
      refine thnF td fun r s6 ⟨hr, I6⟩ => ?_
      subst hr
      -- back in the def's context
      have I7 : Inv X pins σ H5 s6 := I3.call' (ch := fp) I6.os I6.base I6.hok I6.bare fun b hb => ⟨(f3 b hb).1.2.2.2.1, (f3 b hb).1.2.1, (f3 b hb).1.2.2.2.2.1, (f3 b hb).1.2.2.2.2.2⟩
      have nC : H5 s3.heap.objs.size = none := by
        have z : H5 ce.locals = none := I6.free
        rw [cL] at z
        exact z
      obtain ⟨m, hn, _⟩ := I6.loc
      have hn : s6.heap.Ns ce.locals m := hn
      rw [cL] at hn
      exact hRR D s3.heap.objs.size s6 m H5 I7 qq hn (I3.fpOk (Nat.le_refl _) nC)
    · have ti := T.item (X.blk s3 H3 scope ce fp) rfl rfl rfl hc i [] s5 _ H5 (fun _ _ => False) I5 (stat I5 n5) st5 go
      refine thnF ti fun r s6 ⟨u, hr, h6⟩ => ?_
      subst hr
      refine thnF h6 fun _ s7 ⟨x, H7, I7, r7, y7, st7, n7⟩ => ?_
      have I7' := I7.pinned (stat I7 n7) (T.obj _ _ st7)
      refine thnF (pg _ s7 _ H7 x u _ I7' r7 (step x H7 y7)) fun _ s8 ⟨σ8, H8, I8, hw8, q8⟩ => ?_
      refine thnF (pt _ s8 σ8 H8 _ I8 q8) fun b s9 ⟨H9, I9, q9⟩ => ?_
      -- the turn's end
      have fin : ∀ {s' : Shared} {H' : Hp}, Inv (X.blk s3 H3 scope ce fp) ([] ++ pinsAt fp s7.heap) σ8 H' s' → Nx H' → ∃ m, m < n ∧ ∃ i H', Inv (X.blk s3 H3 scope ce fp) [] (wipe σ (own.map (·.2))) H' s' ∧ tn i s'.heap ∧ (∀ b ∈ fp, H' b = none) ∧ W i m H' := fun {s' H'} I' nx => by
        obtain ⟨m', hm, w'⟩ := hNx H' nx
        have pin' : ∀ b ∈ fp, ∀ o, s7.heap.get? b = some o → s'.heap.get? b = some o ∧ H' b = none := fun b hb o e =>
          let z := I'.pin (b, o) (List.mem_append_right _ (List.mem_append_right _ (mem_pinsAt hb e)))
          ⟨z.1, z.2.1⟩
        have hl : (wipe σ (own.map (·.2))).length = σ8.length := by rw [← hw8, wipe_length]
        refine ⟨m', hm, i + 1, H', (I'.unpinned (pins := [])).weak hl (fun j v e => ?_), T.keep _ _ _ st7 fun b hb o e => (pin' b hb o e).1, fun b hb => ?_, w'⟩
        · rw [← hw8] at e
          exact (wipe_some e).1
        · obtain ⟨o, e, _⟩ := T.obj _ _ st7 b hb
          exact (pin' b hb o e).2
      cases b with
      | false =>
        simp only [Bool.false_eq_true, if_false] at q9 ⊢
        exact fin I9 q9
      | true =>
        simp only [if_true] at q9 ⊢
        refine thnF (pe _ s9 σ8 H9 _ I9 q9) fun z s10 ⟨yv, H10, I10, r10, acc, hD10, hz10, nx⟩ => ?_
        exact app_ok (X := X.blk s3 H3 scope ce fp) I10 hD10 hz10 r10 fun s11 I11 => fin I11 nx
  exact codeAny_compStart_list loop (T.self X.A 0 _ _ _ st4 loop)
theorem pe_lc {elt tg iter : Expr} {ifs : List Expr} {scope : Scope} {own : List (Str × Nat)} {pos : Pos} {wi : TI} {g : TG} {tt : TT} {te : TE} (hc : X.calm = true) (hN : X.N.Nodup) (hi : PI X tg iter wi) (ok : BlkOk X.N X.env.scope scope own)
    (hg : ∀ (s : Shared) (H : Hp) (C : Addr) (cl : List (Str × Addr)) (fp : List Addr), PG (X.blk s H scope (compEnvC scope cl C X.env) fp) tg g) (ht : ∀ (s : Shared) (H : Hp) (C : Addr) (cl : List (Str × Addr)) (fp : List Addr), PTs (X.blk s H scope (compEnvC scope cl C X.env) fp) ifs tt)
    (he : ∀ (s : Shared) (H : Hp) (C : Addr) (cl : List (Str × Addr)) (fp : List Addr), PE (X.blk s H scope (compEnvC scope cl C X.env) fp) elt te) (hs : ∀ x, foldedSetIterable iter X.env x = pure x := by intro _; rfl) :
    PE X (.ListComp elt [⟨tg, iter, ifs, 0⟩] scope pos) (tLc wi g tt te (own.map (·.2))) := by
  intro pins s σ H Q I h
  rw [eval_ListComp]
  refine lc_core hc hN I hi ok hg ht he hs h fun D C s' m H' I' q hn f => ⟨m, hn, fun h'' sb => ?_⟩
  obtain ⟨f0, f1, f2, f3, f4, f5⟩ := f
  exact ⟨.ref D, H', I'.turned (t' := s'.toks) (fun b o hb e => (sb.2 b hb).trans e) f0 f1 f3 f4 f5, rfl, q⟩
theorem ps_setLc {i : Nat} {y : Str} {py : Pos} {elt tg iter : Expr} {ifs : List Expr} {scope : Scope} {own : List (Str × Nat)} {pos spos : Pos} {wi : TI} {g : TG} {tt : TT} {te : TE} (hc : X.calm = true) (hN : X.N.Nodup) (hy : X.N[i]? = some y) (hyl : X.env.scope.names.lookup y = some .local)
    (hsw : swapsWith (.ListComp elt [⟨tg, iter, ifs, 0⟩] scope pos) (some (.Name y py)) spos.line X.env = pure true) (hi : PI X tg iter wi) (ok : BlkOk X.N X.env.scope scope own)
    (hg : ∀ (s : Shared) (H : Hp) (C : Addr) (cl : List (Str × Addr)) (fp : List Addr), PG (X.blk s H scope (compEnvC scope cl C X.env) fp) tg g) (ht : ∀ (s : Shared) (H : Hp) (C : Addr) (cl : List (Str × Addr)) (fp : List Addr), PTs (X.blk s H scope (compEnvC scope cl C X.env) fp) ifs tt)
    (he : ∀ (s : Shared) (H : Hp) (C : Addr) (cl : List (Str × Addr)) (fp : List Addr), PE (X.blk s H scope (compEnvC scope cl C X.env) fp) elt te) (hs : ∀ x, foldedSetIterable iter X.env x = pure x := by intro _; rfl) :
    PS X (.Assign [.Name y py] (.ListComp elt [⟨tg, iter, ifs, 0⟩] scope pos) spos) (tAsg (tLc wi g tt te (own.map (·.2))) (gName i)) := by
  intro pins s σ H D I h
  rw [exec_Assign_Name_used _ _ _ _ hsw]
  refine wpAny_bind (wpAny_standAt (wpAny_bind ?_))
  show wpAny _ X.A (do let _ ← comprehension (.ListComp elt [⟨tg, iter, ifs, 0⟩] scope pos) scope X.env (firstIterPos [⟨tg, iter, ifs, 0⟩] pos) (newList []) false (eval iter X.env) (some (assign (.Name y py) X.env))) _ _ s
  have h : tLc wi g tt te (own.map (·.2)) σ H (fun x H1 => gName i x σ H1 D.nx) := h
  refine wpAny_bind (thn (lc_core (Qf := fun _ s' => SP X pins D .next s') hc hN I hi ok hg ht he hs h fun L C s' m H' I' q hn f => ?_) fun _ s' hq => wpAny_pure (wpAny_pure hq))
  show wpAny _ _ (assign (.Name y py) X.env (.ref L)) _ _ _
  refine wpAny_assign_Name (store_ok2 (v := V.ref L) I' hN hy (.inl hyl) rfl (fun s2 I2 ⟨a, sb, ha⟩ => ?_) (.inr hyl))
  obtain ⟨f0, f1, f2, f3, f4, f5⟩ := f
  have haC : C ≠ a := by
    rcases ha with z | z
    · rw [z]; exact f1
    · exact fun e => f4 y a z e.symm
  refine ⟨m, hn.sameBut sb haC, fun h3 sb3 => ?_⟩
  exact ⟨_, H', I2.turned (t' := s2.toks) (fun b o hb e => (sb3.2 b hb).trans e) f0 f1 f3 f4 f5, q⟩
theorem sw_true {elt : Expr} {gs : List Comprehension} {scope : Scope} {pos py : Pos} {y : Str} {l : Nat} {env : Env} (hk : env.scope.kind = .function) (hy : env.scope.names.lookup y = some .local) (hl : (py.line == pos.line) = true)
    (ha : (scope.names.any fun (n, k) => n == y && (k == .local || k == .cell)) = false) : swapsWith (.ListComp elt gs scope pos) (some (.Name y py)) l env = pure true := by
  have ky : env.kindOf y = some .local := hy
  have hb : env.blockKind = .function := by unfold Env.blockKind; rw [hk]; rfl
  unfold swapsWith
  simp only [hb, ky, ha, Expr.pos, hl]
  rfl
end

theorem lc_range {lo : Int} {n : Nat} {g : TG} {tt : TT} {te : TE} {vs : List Nat} {σ : St} {H1 : Hp} {D : Addr} {Qd : Hp → Prop} (Pv : Nat → Hp → Prop) (h0 : Pv 0 (upd H1 D (.lst [])))
    (hs : ∀ i H, i < n → Pv i H → g (.int (lo + i)) (wipe σ vs) H fun σ2 H2 => wipe σ2 vs = wipe σ vs ∧ tt σ2 H2 fun b H3 =>
      if b = true then te σ2 H3 fun y H4 => ∃ acc, H4 D = some (.lst acc) ∧ acc.length < sizeLine ∧ Pv (i + 1) (upd H4 D (.lst (acc ++ [y]))) else Pv (i + 1) H3) (hd : ∀ H, Pv n H → Qd H) :
    ∃ W : Nat → Nat → Hp → Prop, (∃ m, W 0 m (upd H1 D (.lst []))) ∧ ∀ i m H, W i m H →
      ((Itr lo n).stop i H ∧ Qd H) ∨ ((Itr lo n).go i H ∧ ∃ Nx : Hp → Prop, (∀ H', Nx H' → ∃ m', m' < m ∧ W (i + 1) m' H') ∧ ∀ x H', (Itr lo n).yld i H x H' → g x (wipe σ vs) H' fun σ2 H2 => wipe σ2 vs = wipe σ vs ∧ tt σ2 H2 fun b H3 =>
        if b = true then te σ2 H3 fun y H4 => ∃ acc, H4 D = some (.lst acc) ∧ acc.length < sizeLine ∧ Nx (upd H4 D (.lst (acc ++ [y]))) else Nx H3) := by
  refine ⟨fun i m H => m = n - i ∧ i ≤ n ∧ Pv i H, ⟨n, by simp, Nat.zero_le _, h0⟩, ?_⟩
  rintro i m H ⟨rfl, hi, p⟩
  by_cases hlt : i < n
  · refine .inr ⟨hlt, Pv (i + 1), fun H' p' => ⟨n - (i + 1), by omega, rfl, hlt, p'⟩, fun x H' y => ?_⟩
    obtain ⟨e, y⟩ := y
    subst e y
    exact hs i _ hlt p
  · have e : i = n := by omega
    subst e
    exact .inl ⟨Nat.le_refl _, hd H p⟩
theorem lc_list {K : PySem.W.Frag} {a : Addr} {xs : List V} {g : TG} {tt : TT} {te : TE} {vs : List Nat} {σ : St} {H1 : Hp} {D : Addr} {Qd : Hp → Prop} (Pv : Nat → Hp → Prop) (h0 : Pv 0 (upd H1 D (.lst []))) (hl : ∀ i H, i ≤ xs.length → Pv i H → SqL K H a xs)
    (hs : ∀ i x H, xs[i]? = some x → Pv i H → g x (wipe σ vs) H fun σ2 H2 => wipe σ2 vs = wipe σ vs ∧ tt σ2 H2 fun b H3 =>
      if b = true then te σ2 H3 fun y H4 => ∃ acc, H4 D = some (.lst acc) ∧ acc.length < sizeLine ∧ Pv (i + 1) (upd H4 D (.lst (acc ++ [y]))) else Pv (i + 1) H3) (hd : ∀ H, Pv xs.length H → Qd H) :
    ∃ W : Nat → Nat → Hp → Prop, (∃ m, W 0 m (upd H1 D (.lst []))) ∧ ∀ i m H, W i m H →
      ((Itl K a).stop i H ∧ Qd H) ∨ ((Itl K a).go i H ∧ ∃ Nx : Hp → Prop, (∀ H', Nx H' → ∃ m', m' < m ∧ W (i + 1) m' H') ∧ ∀ x H', (Itl K a).yld i H x H' → g x (wipe σ vs) H' fun σ2 H2 => wipe σ2 vs = wipe σ vs ∧ tt σ2 H2 fun b H3 =>
        if b = true then te σ2 H3 fun y H4 => ∃ acc, H4 D = some (.lst acc) ∧ acc.length < sizeLine ∧ Nx (upd H4 D (.lst (acc ++ [y]))) else Nx H3) := by
  refine ⟨fun i m H => m = xs.length - i ∧ i ≤ xs.length ∧ Pv i H, ⟨xs.length, by simp, Nat.zero_le _, h0⟩, ?_⟩
  rintro i m H ⟨rfl, hi, p⟩
  have q := hl i H hi p
  by_cases hlt : i < xs.length
  · refine .inr ⟨⟨xs, xs[i], q, by simp [hlt]⟩, Pv (i + 1), fun H' p' => ⟨xs.length - (i + 1), by omega, rfl, hlt, p'⟩, fun x H' y => ?_⟩
    obtain ⟨e, y⟩ := y
    subst e
    exact hs i x _ (y xs q) p
  · have e : i = xs.length := by omega
    subst e
    exact .inl ⟨⟨xs, q, Nat.le_refl _⟩, hd H p⟩
def blkC (N : List Str) (sc scope : Scope) (own : List (Str × Nat)) : Bool :=
  (match scope.kind with | .function => true | _ => false) && (scope.names.all fun y => decide (scope.names.lookup y.1 = some y.2)) && (own.all fun p => decide (N[p.2]? = some p.1)) &&
    (scope.names.all fun y => match y.2 with
      | .free => (match sc.names.lookup y.1 with | some .cell => true | some .free => true | _ => false)
      | .local => decide (y.1 ∈ own.map (·.1)) || decide (y.1 ∉ N)
      | .cell => decide (y.1 ∈ own.map (·.1)) || decide (y.1 ∉ N)
      | _ => true)
theorem blkOk_by {N : List Str} {sc scope : Scope} {own : List (Str × Nat)} (h : blkC N sc scope own = true) : BlkOk N sc scope own := by
  unfold blkC at h
  simp only [Bool.and_eq_true, List.all_eq_true, decide_eq_true_eq] at h
  obtain ⟨⟨⟨h1, h2⟩, h3⟩, h4⟩ := h
  refine ⟨?_, h2, h3, fun y hy e => ?_, fun y hy e => ?_⟩
  · split at h1
    · assumption
    · cases h1
  · have q := h4 y hy
    simp only [e] at q
    split at q <;> first | exact .inl (by assumption) | exact .inr (by assumption) | cases q
  · have q := h4 y hy
    rcases e with e | e <;> (simp only [e, Bool.or_eq_true, decide_eq_true_eq] at q; exact q)
end L2

namespace L2
open PySem PySem.Spec PyProof.Rows

section
variable {prog : Program} {w : World} {A : Around} {R : Result → Shared → Prop} {s : Shared} {elt t0 i0 t1 i1 : Expr} {ifs0 ifs1 : List Expr} {scope : Scope} {pos : Pos} {it acc : Value} {env : Env}
end

section
variable {X : Cx}
def tLc2 (wi : TI) (g : TG) (tt : TT) (wi1 : TI) (g1 : TG) (tt1 : TT) (te : TE) (vs vs1 : List Nat) : TE := fun σ H Q => wi σ H fun J H1 => ∀ D, H1 D = none → ∃ W : Nat → Nat → Hp → Prop, (∃ m, W 0 m (upd H1 D (.lst []))) ∧ ∀ i m H, W i m H →
  (J.stop i H ∧ Q (.ref D) H) ∨ (J.go i H ∧ ∃ Nx : Hp → Prop, (∀ H', Nx H' → ∃ m', m' < m ∧ W (i + 1) m' H') ∧ ∀ x H', J.yld i H x H' → g x (wipe σ vs) H' fun σ2 H2 => wipe σ2 vs = wipe σ vs ∧ tt σ2 H2 fun b H3 =>
    if b = true then wi1 σ2 H3 fun J1 H4 => ∃ W1 : Nat → Nat → Hp → Prop, (∃ m, W1 0 m H4) ∧ ∀ j k H, W1 j k H →
      (J1.stop j H ∧ Nx H) ∨ (J1.go j H ∧ ∃ Nx1 : Hp → Prop, (∀ H', Nx1 H' → ∃ k', k' < k ∧ W1 (j + 1) k' H') ∧ ∀ x H', J1.yld j H x H' → g1 x (wipe σ2 vs1) H' fun σ3 H5 => wipe σ3 vs1 = wipe σ2 vs1 ∧ tt1 σ3 H5 fun b H6 =>
        if b = true then te σ3 H6 fun y H7 => ∃ acc, H7 D = some (.lst acc) ∧ acc.length < sizeLine ∧ Nx1 (upd H7 D (.lst (acc ++ [y]))) else Nx1 H6)
    else Nx H3)
end
end L2

namespace L2
open PySem PySem.Spec PyProof.Rows

section
variable {κ : Type} [DecidableEq κ]
def valV (kvs : List (κ × V)) (k : κ) : Option V := (kvs.find? fun kv => decide (kv.1 = k)).map (·.2)
def putK (kvs : List (κ × V)) (k : κ) (v : V) : List (κ × V) :=
  if (kvs.any fun kv => decide (kv.1 = k)) = true then kvs.map (fun kv => if kv.1 = k then (kv.1, v) else kv) else kvs ++ [(k, v)]
def dropK (kvs : List (κ × V)) (k : κ) : List (κ × V) := kvs.filter fun kv => decide (kv.1 ≠ k)

end


abbrev KT (H : Hp) : List (List Key × V) → List (List Key × Addr × Value) → Prop := Paired fun p q => p.1 = q.1 ∧ H q.2.1 = some (.tup (p.1.map kV)) ∧ RelV p.2 q.2.2
section
variable {P : Program} {w : World} {H : Hp} {h : Heap} {a : Addr}
end

def DGet (H : Hp) (a : Addr) (y : V) (r : Option V) : Prop :=
  (∃ kvs k, Rd H a (.dK kvs) ∧ y = kV k ∧ r = valV kvs k) ∨ ∃ kvs k b, Rd H a (.dT kvs) ∧ y = .ref b ∧ H b = some (.tup (k.map kV)) ∧ r = valV kvs k
def DPut (H : Hp) (a : Addr) (y v : V) (H' : Hp) : Prop :=
  (∃ kvs k, H a = some (.dK kvs) ∧ y = kV k ∧ kvs.length < sizeLine ∧ H' = upd H a (.dK (putK kvs k v))) ∨
  ∃ kvs k b, H a = some (.dT kvs) ∧ y = .ref b ∧ H b = some (.tup (k.map kV)) ∧ kvs.length < sizeLine ∧ H' = upd H a (.dT (putK kvs k v))
section
variable {X : Cx} {pins : List (Addr × Obj)} {σ : St} {H : Hp} {s : Shared} {a : Addr} {y v : V} {u r : Value} {o : Option V} {A : Around} {E : Value → Shared → Prop}

end

section
variable {X : Cx} {pins : List (Addr × Obj)} {σ : St} {H : Hp} {s : Shared} {a : Addr} {kvs : List (Key × V)} {k : Key} {u : Value} {A : Around} {E : Value → Shared → Prop}
end


def NoSl (i : Expr) : Prop := ∀ ov iv, subscripted i false ov iv = operate [ov, iv] (getItem ov iv)
def tDGet (td ty : TE) : TE := fun σ H Q => td σ H fun x H1 => ty σ H1 fun y H2 => ∃ a v, x = .ref a ∧ DGet H2 a y (some v) ∧ Q v H2
def tDIn (ty td : TE) : TE := fun σ H Q => ty σ H fun y H1 => td σ H1 fun x H2 => ∃ a o, x = .ref a ∧ DGet H2 a y o ∧ Q (.bl o.isSome) H2
def tDNotIn (ty td : TE) : TE := fun σ H Q => ty σ H fun y H1 => td σ H1 fun x H2 => ∃ a o, x = .ref a ∧ DGet H2 a y o ∧ Q (.bl (!o.isSome)) H2
def sDPut (td ty tv : TE) : TS := fun D σ H => tv σ H fun v H1 => td σ H1 fun x H2 => ty σ H2 fun y H3 => ∃ a H4, x = .ref a ∧ DPut H3 a y v H4 ∧ D.nx σ H4
def sDAug (td ty tv : TE) (rd : V → V → Hp → VK → Prop) : TS := fun D σ H => td σ H fun x H1 => ty σ H1 fun y H2 => ∃ a v, x = .ref a ∧ DGet H2 a y (some v) ∧
  tv σ H2 fun y2 H3 => rd v y2 H3 fun z H4 => ∃ H5, DPut H4 a y z H5 ∧ D.nx σ H5
def sDDel (td ty : TE) : TS := fun D σ H => td σ H fun x H1 => ty σ H1 fun y H2 => ∃ a kvs k, x = .ref a ∧ H2 a = some (.dK kvs) ∧ y = kV k ∧ (valV kvs k).isSome = true ∧ D.nx σ (upd H2 a (.dK (dropK kvs k)))

section
variable {X : Cx} {o i e value : Expr} {pos pos' tpos : Pos} {td ty tv : TE}
end


def tDNewK : TE := fun _ H Q => ∀ p, H p = none → Q (.ref p) (upd H p (.dK []))
def tDNewT : TE := fun _ H Q => ∀ p, H p = none → Q (.ref p) (upd H p (.dT []))
section
variable {X : Cx} {pos : Pos}
end

def tPairs : List (TE × TE) → St → Hp → (List (V × V) → Hp → Prop) → Prop
  | [], _, H, Q => Q [] H
  | (tk, tv) :: r, σ, H, Q => tk σ H fun x H1 => tv σ H1 fun y H2 => tPairs r σ H2 fun ps H3 => Q ((x, y) :: ps) H3
abbrev VV : List (V × V) → List (Value × Value) → Prop := Paired fun p q => RelV p.1 q.1 ∧ RelV p.2 q.2
def PPs (X : Cx) (pos : Pos) (keys : List (Option Expr)) (values : List Expr) (trs : List (TE × TE)) : Prop :=
  ∀ (pins : List (Addr × Obj)) (s : Shared) (σ : St) (H : Hp) (Q : List (V × V) → Hp → Prop), Inv X pins σ H s → tPairs trs σ H Q →
    wpAny (model X.prog X.w) X.A (evalPairs (pairTrees keys values X.env pos)) (fun vs s' => ∃ ps H', Inv X pins σ H' s' ∧ VV ps vs ∧ Q ps H') X.xe s
def mergeK (kvs more : List (Key × V)) : List (Key × V) := more.foldl (fun acc kv => putK acc kv.1 kv.2) kvs
def tDisp (trs : List (TE × TE)) : TE := fun σ H Q => ∀ p, H p = none → tPairs trs σ (upd H p (.dK [])) fun ps H2 => H2 p = some (.dK []) ∧ ∃ kvs : List (Key × V), ps = kvs.map (fun kv => (kV kv.1, kv.2)) ∧ kvs.length ≤ 15 ∧ Q (.ref p) (upd H2 p (.dK (mergeK [] kvs)))
structure M1 (X : Cx) (o : Expr) (m : Str) (apos : Pos) (e : Expr) (cpos : Pos) : Prop where
  base : attributeBase o m X.env (eval o X.env) = eval o X.env
  few : ((backTo cpos (starEach [e] X.env)).all (fun x => !x.1) && (backToKw cpos (keywordEach [] X.env)).all (fun x => x.1.isSome)
    && decide (([e] : List Expr).length + ([] : List Keyword).length + (if ([] : List Keyword).isEmpty then 0 else 1) < 30)) = true
  line : (apos.endLine == cpos.line) = true
  trees : backTo cpos (starEach [e] X.env) = [(false, eval e X.env)]
structure M2 (X : Cx) (o : Expr) (m : Str) (apos : Pos) (e f : Expr) (cpos : Pos) : Prop where
  base : attributeBase o m X.env (eval o X.env) = eval o X.env
  few : ((backTo cpos (starEach [e, f] X.env)).all (fun x => !x.1) && (backToKw cpos (keywordEach [] X.env)).all (fun x => x.1.isSome)
    && decide (([e, f] : List Expr).length + ([] : List Keyword).length + (if ([] : List Keyword).isEmpty then 0 else 1) < 30)) = true
  line : (apos.endLine == cpos.line) = true
  trees : backTo cpos (starEach [e, f] X.env) = [(false, eval e X.env), (false, eval f X.env)]

def IsD (H : Hp) (a : Addr) : Prop := (∃ kvs, Rd H a (.dK kvs)) ∨ ∃ kvs, Rd H a (.dT kvs)
section
variable {X : Cx} {pins : List (Addr × Obj)} {σ : St} {H : Hp} {s : Shared} {a : Addr} {y d : V} {u r : Value} {o : Option V} {A : Around} {E : Value → Shared → Prop}
end

def tDGet1 (td ty : TE) : TE := fun σ H Q => td σ H fun x H1 => ∃ a, x = .ref a ∧ IsD H1 a ∧ ty σ H1 fun y H2 => ∃ o, DGet H2 a y o ∧ Q (o.getD .non) H2
def tDGet2 (td ty tx : TE) : TE := fun σ H Q => td σ H fun x H1 => ∃ a, x = .ref a ∧ IsD H1 a ∧ ty σ H1 fun y H2 => tx σ H2 fun z H3 => ∃ o, DGet H3 a y o ∧ Q (o.getD z) H3
def tDPop1 (td ty : TE) : TE := fun σ H Q => td σ H fun x H1 => ∃ a, x = .ref a ∧ IsD H1 a ∧ ty σ H1 fun y H2 => ∃ kvs k v, H2 a = some (.dK kvs) ∧ y = kV k ∧ valV kvs k = some v ∧ Q v (upd H2 a (.dK (dropK kvs k)))
def tDPop2 (td ty tx : TE) : TE := fun σ H Q => td σ H fun x H1 => ∃ a, x = .ref a ∧ IsD H1 a ∧ ty σ H1 fun y H2 => tx σ H2 fun z H3 => ∃ kvs k, H3 a = some (.dK kvs) ∧ y = kV k ∧
  (∀ v, valV kvs k = some v → Q v (upd H3 a (.dK (dropK kvs k)))) ∧ (valV kvs k = none → Q z H3)
section
variable {X : Cx} {o e f : Expr} {apos cpos : Pos} {td ty tx : TE}
end

section
variable {X : Cx} {pins : List (Addr × Obj)} {σ : St} {H : Hp} {s : Shared} {a : Addr} {kvs : List (Key × V)} {A : Around} {E : Value → Shared → Prop}
end


section
variable {X : Cx} {pins : List (Addr × Obj)} {σ : St} {H : Hp} {s : Shared} {a : Addr} {y : V} {u : Value} {A : Around} {E : Value → Shared → Prop}
end
end L2

namespace L2
open PySem PySem.Spec PyProof.Rows

section
variable {prog : Program} {w : World} {A : Around} {E : Value → Shared → Prop}
end

section
variable {X : Cx}
end
end L2

namespace L2
open PySem PySem.Spec PyProof.Rows

section
variable {X : Cx} {pins : List (Addr × Obj)} {σ : St} {H : Hp} {s : Shared} {h' : Heap}
end
def tLock (t : TS) : TS := fun D σ H => ∃ d u, H d = some u ∧ Mut (some u) ∧ ∀ od, t ⟨fun σ' H' => H' d = some (.frz od u) ∧ D.nx σ' (upd H' d u), fun v H' => H' d = some (.frz od u) ∧ D.rt v (upd H' d u), fun σ' H' => H' d = some (.frz od u) ∧ D.bk σ' (upd H' d u), fun σ' H' => H' d = some (.frz od u) ∧ D.ct σ' (upd H' d u)⟩ σ (upd H d (.frz od u))
def tLockE (t : TE) : TE := fun σ H Q => ∃ d u, H d = some u ∧ Mut (some u) ∧ ∀ od, t σ (upd H d (.frz od u)) fun v H' => H' d = some (.frz od u) ∧ Q v (upd H' d u)
section
variable {X : Cx}
end

def Itc (lo c : Int) (n : Nat) : It := ⟨fun i _ => i < n, fun i H x H' => H' = H ∧ x = .int (lo + (i : Nat) * c), fun i _ => n ≤ i⟩
def RgC (i j c : Int) (n : Nat) : Prop := c ≠ 0 ∧ c.natAbs < 1073741824 ∧ Builtin.Range.small i j c = true ∧ Builtin.Range.rangeSize i j c = n
def iRng3 (ta : TA) : TI := fun σ H R => ta σ H fun vs H1 => ∃ (i j c : Int) (n : Nat), vs = [.int i, .int j, .int c] ∧ RgC i j c n ∧ R (Itc i c n) H1
section
variable {X : Cx} {tg : Expr}
end
def Itv (K : PySem.W.Frag) (a : Addr) (n : Nat) : It :=
  ⟨fun i H => i < n ∧ ∃ (xs : List V) (x : V), SqL K H a xs ∧ xs[n - 1 - i]? = some x, fun i H x H' => H' = H ∧ ∀ xs, SqL K H a xs → xs[n - 1 - i]? = some x, fun i _ => n ≤ i⟩
def iRev (K : PySem.W.Frag) (ta : TA) : TI := fun σ H R => ta σ H fun vs H1 => ∃ (a : Addr) (xs : List V), vs = [.ref a] ∧ SqL K H1 a xs ∧ R (Itv K a xs.length) H1
section
variable {X : Cx} {tg : Expr}
end

def Its (x : Str) : It := ⟨fun i _ => i < x.cps.size, fun i H v H' => H' = H ∧ ∃ c, x.cps[i]? = some c ∧ v = .str ⟨#[c]⟩, fun i _ => x.cps.size ≤ i⟩
def iStr (te : TE) : TI := fun σ H R => te σ H fun v H1 => ∃ x, v = .str x ∧ R (Its x) H1
section
variable {prog : Program} {w : World} {A : Around} {E : Value → Shared → Prop} {s : Shared}
end

section
variable {X : Cx} {pins : List (Addr × Obj)} {σ : St} {H : Hp} {s : Shared} {d : Addr} {o : Obj}
end

def Itk (d : Addr) (o : Obj) (kvs : List (Key × V)) : It :=
  ⟨fun i H => H d = some (.frz o (.dK kvs)) ∧ i < kvs.length, fun i H x H' => H' = H ∧ ∃ k v, kvs[i]? = some (k, v) ∧ x = kV k, fun i H => H d = some (.frz o (.dK kvs)) ∧ kvs.length ≤ i⟩
def Itkt (d : Addr) (o : Obj) (kvs : List (List Key × V)) : It :=
  ⟨fun i H => H d = some (.frz o (.dT kvs)) ∧ i < kvs.length, fun i H x H' => H' = H ∧ ∃ (k : List Key) (v : V) (q : Addr), kvs[i]? = some (k, v) ∧ x = .ref q ∧ H q = some (.tup (k.map kV)), fun i H => H d = some (.frz o (.dT kvs)) ∧ kvs.length ≤ i⟩
def Itd (d : Addr) (o : Obj) (kvs : List (Key × V)) : It :=
  ⟨fun i H => H d = some (.frz o (.dK kvs)) ∧ i < kvs.length, fun i H x H' => H' = H ∧ ∃ k, kvs[i]? = some (k, x), fun i H => H d = some (.frz o (.dK kvs)) ∧ kvs.length ≤ i⟩
def Iti (d : Addr) (o : Obj) (kvs : List (Key × V)) : It :=
  ⟨fun i H => H d = some (.frz o (.dK kvs)) ∧ i < kvs.length, fun i H x H' => ∃ T k v, kvs[i]? = some (k, v) ∧ x = .ref T ∧ H T = none ∧ H' = upd H T (.tup [kV k, v]), fun i H => H d = some (.frz o (.dK kvs)) ∧ kvs.length ≤ i⟩
section
variable {P : Program} {w : World} {K : PySem.W.Frag} {tg : Expr} {d : Addr} {o : Obj} {es : Array DictEntry} {ep : Nat}
end

def iKeys (td : TE) : TI := fun σ H R => td σ H fun x H1 => ∃ d o, x = .ref d ∧ ((∃ kvs, H1 d = some (.frz o (.dK kvs)) ∧ R (Itk d o kvs) H1) ∨ ∃ kvs, H1 d = some (.frz o (.dT kvs)) ∧ R (Itkt d o kvs) H1)
def iVals (td : TE) : TI := fun σ H R => td σ H fun x H1 => ∃ d o kvs, x = .ref d ∧ H1 d = some (.frz o (.dK kvs)) ∧ R (Itd d o kvs) H1
def iItems (td : TE) : TI := fun σ H R => td σ H fun x H1 => ∃ d o kvs, x = .ref d ∧ H1 d = some (.frz o (.dK kvs)) ∧ R (Iti d o kvs) H1
def iKeysM (td : TE) : TI := fun σ H R => td σ H fun x H1 => ∃ d o kvs, x = .ref d ∧ H1 d = some (.frz o (.dK kvs)) ∧ R (Itk d o kvs) H1
section
variable {X : Cx} {tg e : Expr} {td : TE} {apos cpos : Pos}
end

def Ite (K : PySem.W.Frag) (a : Addr) : It :=
  ⟨fun i H => ∃ (xs : List V) (x : V), SqL K H a xs ∧ xs[i]? = some x, fun i H v H' => ∃ T x, v = .ref T ∧ H T = none ∧ H' = upd H T (.tup [.int (i : Nat), x]) ∧ ∀ xs, SqL K H a xs → xs[i]? = some x, fun i H => ∃ xs : List V, SqL K H a xs ∧ xs.length ≤ i⟩
def iEnum (K : PySem.W.Frag) (ta : TA) : TI := fun σ H R => ta σ H fun vs H1 => ∃ a xs, vs = [.ref a] ∧ SqL K H1 a xs ∧ R (Ite K a) H1
def Itz (K : PySem.W.Frag) (a b : Addr) : It :=
  ⟨fun i H => ∃ (xs ys : List V) (x y : V), SqL K H a xs ∧ SqL K H b ys ∧ xs[i]? = some x ∧ ys[i]? = some y,
    fun i H v H' => ∃ T x y, v = .ref T ∧ H T = none ∧ H' = upd H T (.tup [x, y]) ∧ (∀ xs, SqL K H a xs → xs[i]? = some x) ∧ ∀ ys, SqL K H b ys → ys[i]? = some y,
    fun i H => ∃ xs ys : List V, SqL K H a xs ∧ SqL K H b ys ∧ (xs.length ≤ i ∨ ys.length ≤ i)⟩
def iZip (K : PySem.W.Frag) (ta : TA) : TI := fun σ H R => ta σ H fun vs H1 => ∃ a b xs ys, vs = [.ref a, .ref b] ∧ SqL K H1 a xs ∧ SqL K H1 b ys ∧ R (Itz K a b) H1
end L2

section 
namespace Bits
open PySem PyProof.Rows

end Bits
end 

section 
namespace TL
open PySem PySem.Builtin PySem.Builtin.Str PySem.StrLaws

abbrev tl (x : Str) : List Nat := x.cps.toList
def pre (S l : List Nat) : Bool := l.take S.length == S
def spl (S : List Nat) : Nat → List Nat → List Nat → List (List Nat)
  | _, acc, [] => [acc]
  | 0, acc, c :: r => if pre S (c :: r) = true then acc :: spl S (S.length - 1) [] r else spl S 0 (acc ++ [c]) r
  | k + 1, acc, _ :: r => spl S k acc r
def par (S : List Nat) : List Nat → List Nat → Option (List Nat × List Nat)
  | _, [] => none
  | acc, c :: r => if pre S (c :: r) = true then some (acc, (c :: r).drop S.length) else par S (acc ++ [c]) r

def joinL (S : List Nat) : List (List Nat) → List Nat
  | [] => []
  | [p] => p
  | p :: q :: r => p ++ (S ++ joinL S (q :: r))
def numL (n : Nat) : List Nat := (Nat.toDigits 10 n).map Char.toNat
def wstep (st : List (List Nat) × List Nat) (c : Nat) : List (List Nat) × List Nat :=
  if Unicode.isSpace c = true then (if st.2 = [] then st else (st.1 ++ [st.2], [])) else (st.1, st.2 ++ [c])
def wfin (st : List (List Nat) × List Nat) : List (List Nat) := if st.2 = [] then st.1 else st.1 ++ [st.2]
end TL
end 

namespace L2
open PySem PySem.Spec PyProof.Rows

def rNewStrs (ys : List Str) : Hp → VK → Prop := fun H Q => ∀ p, H p = none → Q (.ref p) (upd H p (.lst (ys.map V.str)))

section
variable {X : Cx} {pins : List (Addr × Obj)} {σ : St} {H : Hp} {s : Shared} {Q : VK}
end

section
variable {X : Cx}

end

section
variable {X : Cx} {o e : Expr} {to te : TE}
def tM0 (r : V → List V → Hp → VK → Prop) (to : TE) : TE := fun σ H Q => to σ H fun x H1 => (∃ a, x = .str a) ∧ r x [] H1 Q
def tM1 (r : V → List V → Hp → VK → Prop) (to te : TE) : TE := fun σ H Q => to σ H fun x H1 => (∃ a, x = .str a) ∧ te σ H1 fun y H2 => r x [y] H2 Q
end
end L2

namespace L2
open PySem PySem.Spec PyProof.Rows

section
variable {X : Cx}
end

def clipS (n d : Nat) : Option Int → Int
  | none => (d : Int)
  | some i => max 0 (min (if i < 0 then i + (n : Int) else i) (n : Int))
def cutS (z : Str) (lo hi : Option Int) : Str :=
  ⟨((z.cps.toList.drop (HT.sIx z.length 0 lo)).take (HT.sIx z.length z.length hi - HT.sIx z.length 0 lo)).toArray⟩
def rSlS : V → Option Int → Option Int → Hp → VK → Prop := fun x lo hi H Q => ∃ z, x = .str z ∧ z.length ≤ sizeLine ∧ Q (.str (cutS z lo hi)) H
end L2

namespace Att
open PySem PySem.W PySem.Calls PyProof.Rows

section
variable {prog : Program} {w : World} {A : Around} {E : Value → Shared → Prop} {s : Shared} {K : Frag}

def noObjs (h : Heap) : Heap := { h with objs := #[] }
theorem noObjs_get (h : Heap) (b : Addr) : (noObjs h).get? b = none := by
  cases e : (noObjs h).get? b with
  | none => rfl
  | some o => exact absurd (Heap.lt_size e) (Nat.not_lt_zero _)
def ledger (h : Heap) (L d : Addr) : List (Addr × Obj) := (List.range h.objs.size).filterMap fun a => if a = L ∨ a = d then none else (h.get? a).map fun o => (a, o)
theorem mem_ledger {h : Heap} {L d a : Addr} {o : Obj} : (a, o) ∈ ledger h L d ↔ a ≠ L ∧ a ≠ d ∧ h.get? a = some o := by
  unfold ledger
  rw [List.mem_filterMap]
  constructor
  · rintro ⟨b, _, e⟩
    split at e
    · cases e
    · rename_i hb
      obtain ⟨o', ho, e'⟩ := Option.map_eq_some_iff.mp e
      cases e'
      exact ⟨fun q => hb (.inl q), fun q => hb (.inr q), ho⟩
  · rintro ⟨n1, n2, ho⟩
    refine ⟨a, List.mem_range.mpr (Heap.lt_size ho), ?_⟩
    rw [if_neg (show ¬ (a = L ∨ a = d) from fun q => q.elim n1 n2), ho] <;> rfl
theorem fr_all {h : Heap} {L : Addr} {m : Str → Option Value} (n : h.Ns L m) : Fr (noObjs h) L h m :=
  ⟨n, fun b o e => (by rw [noObjs_get] at e; cases e), Nat.zero_le _⟩
end
end Att

namespace L2
open PySem PySem.Spec PyProof.Rows

def Only (H : Hp) : Prop := ∀ b, H b = none ∨ ∃ o xs, H b = some (.frz o (.lst xs))

end L2

namespace L2
open PySem PySem.Spec PyProof.Rows

abbrev KOf {K : PySem.W.Frag} {h : Heap} (_ : K.In h) : PySem.W.Frag := K

end L2


namespace L2
open PySem PySem.Spec PyProof.Rows

def inClass (s : Stmt) (j : Nat) : Stmt := match s with
  | .ClassDef _ _ _ body _ _ _ _ _ _ _ => body.getD j (.Pass ⟨0, 0, 0, 0⟩)
  | _ => .Pass ⟨0, 0, 0, 0⟩
def defArgs (s : Stmt) : Arguments := match s with
  | .FunctionDef _ a _ _ _ _ _ _ _ _ => a
  | _ => { posonlyargs := [], args := [], vararg := none, kwonlyargs := [], kw_defaults := [], kwarg := none, defaults := [] }
def defBody (s : Stmt) : List Stmt := match s with
  | .FunctionDef _ _ b _ _ _ _ _ _ _ => b
  | _ => []
def defScope (s : Stmt) : Scope := match s with
  | .FunctionDef _ _ _ _ _ _ sc _ _ _ => sc
  | _ => { kind := .function, names := [], isGenerator := false, isCoroutine := false }

abbrev CX0 : CXT := fun _ _ _ _ _ _ => False
abbrev E0 : XK := fun _ _ _ => False
theorem pass0 {X : Cx} : Passes CX0 X E0 := fun _ _ _ _ _ _ _ h => h.elim

structure Fun (K : PySem.W.Frag) (x qual : Str) (st : Stmt) (f : Addr) (fd : FuncData) : Prop where
  ex : ∃ (oc : Value) (od : Option Addr) (kV doc pm : Value) (an : Option Addr) (cdv ct : Value) (osl : Array (Option Value)),
    fd = PySem.W.fnOf x qual (defArgs st) (defBody st) (defScope st) .none kV doc pm an cdv ct ∧ K.lookup f = some ⟨oc, od, .func fd, osl⟩ ∧ PySem.W.codeIn K cdv qual = true
  kp : PySem.W.keepIn K (.ref f) = true
section
variable {P : Program} {w : World} {K : PySem.W.Frag} {mg : Str → Option Value} {base : Heap}
theorem Fun.ok {x qual : Str} {st : Stmt} {f : Addr} {fd : FuncData} {N ps : List Str} {k : Nat} {sp : Sp} (F : Fun K x qual st f fd) (S : FnScope N ps (defScope st)) (len : ∀ vs H Q E, sp vs H Q E → vs.length = ps.length)
    (hbody : ∀ (cdv : Value) (A : Around) (outer : List Env) (s : Shared) (H : Hp) (vs : List V) (Q : VK) (E : XK), Room k (A.deeper (envOfC qual (defScope st) s.heap.objs.size f cdv)) → sp vs H Q E →
      ∃ t, PSs (cxOf CX0 P w K mg base N qual (defScope st) f cdv A outer s H E).nox (defBody st) t ∧ t { nx := fun _ H' => Q .non H', rt := Q } (start N vs) H) : FnOk P w K mg base CX0 (k + 1) f fd ps sp := by
  obtain ⟨oc, od, kV, doc, pm, an, cdv, ct, osl, rfl, lk, hcd⟩ := F.ex
  refine fn_of lk hcd S len fun A outer s H vs Q E hr hsp => ?_
  obtain ⟨t, h, q⟩ := hbody cdv A outer s H vs Q E hr hsp
  exact ⟨t, h.nox, q⟩
theorem Fun.binds {x qual : Str} {st : Stmt} {f : Addr} {fd : FuncData} {ps : List Str} (F : Fun K x qual st f fd)
    (h : ∀ (kV doc pm : Value) (an : Option Addr) (cdv ct : Value) (us : List Value), us.length = ps.length → bindArgs (PySem.W.fnOf x qual (defArgs st) (defBody st) (defScope st) .none kV doc pm an cdv ct) ⟨us, []⟩ = pure (ps.zip us)) : Binds K fd ps [] := by
  obtain ⟨oc, od, kV, doc, pm, an, cdv, ct, osl, rfl, lk, hcd⟩ := F.ex
  exact .all (h kV doc pm an cdv ct)
theorem fun_mk {x qual : Str} {st : Stmt} {f : Addr} {oc : Value} {od an : Option Addr} {osl : Array (Option Value)} {kV doc pm cdv ct : Value} (l : K.lookup f = some ⟨oc, od, .func (PySem.W.fnOf x qual (defArgs st) (defBody st) (defScope st) .none kV doc pm an cdv ct), osl⟩)
    (c : PySem.W.codeIn K cdv qual = true) (k : PySem.W.keepIn K (.ref f) = true) : Fun K x qual st f (PySem.W.fnOf x qual (defArgs st) (defBody st) (defScope st) .none kV doc pm an cdv ct) := ⟨⟨oc, od, kV, doc, pm, an, cdv, ct, osl, rfl, l, c⟩, k⟩
end
section
variable {X : Cx}
theorem pv (i : Nat) {x : Str} {pos : Pos} (hN : X.N[i]? = some x := by rfl) (hv : Vis X.env.scope x := by first | exact Or.inl rfl | exact Or.inr (Or.inl rfl) | exact Or.inr (Or.inr rfl)) (hd : (x == ("__debug__" : Str)) = false := by decide)
    (hcd : (x == ("__classdict__" : Str)) = false := by decide) : PE X (.Name x pos) (tVar i) := pe_var hN hv hd hcd
end

theorem ite2 {c A B : Prop} [Decidable c] (h1 : c → A) (h2 : ¬ c → B) : if c then A else B := by
  by_cases h : c
  · rw [if_pos h]
    exact h1 h
  · rw [if_neg h]
    exact h2 h
def Same (H H' : Hp) : Prop := ∀ b o, H b = some o → H' b = some o
theorem Same.trans {H H1 H2 : Hp} (a : Same H H1) (b : Same H1 H2) : Same H H2 := fun c o h => b c o (a c o h)
theorem Same.seq {K : PySem.W.Frag} {H H' : Hp} {a : Addr} {xs : List V} (e : Same H H') (h : SqL K H a xs) : SqL K H' a xs := by
  rcases h with (h | ⟨o, h⟩) | h
  · exact .inl (.inl (e _ _ h))
  · exact .inl (.inr ⟨o, e _ _ h⟩)
  · exact .inr h

section
variable {κ : Type} [DecidableEq κ]
end
theorem at_of {xs : List V} {z : Int} {j : Nat} {v : V} (e : z = (j : Int)) (h : xs[j]? = some v) : atI xs z = some v := by
  rw [e]
  exact atI_nat h
end L2

section
set_option Elab.async false
set_option linter.all false
set_option maxRecDepth 100000
set_option maxHeartbeats 2000000
namespace L2
open PySem PySem.Spec PyProof.Rows
open PySem.W (WData Codec OpenSpec Well WellAll ReadsW ReadsAllW)
mutual
inductive Dw (K : PySem.W.Frag) (H : Hp) : V → WData → Prop
  | non : Dw K H .non .none
  | bl (b : Bool) : Dw K H (.bl b) (.bool b)
  | int (i : Int) : Dw K H (.int i) (.int i)
  | str (x : Str) : Dw K H (.str x) (.str x)
  | byt (b : Array UInt8) : Dw K H (.byt b) (.bytes b.toList)
  | lst {a : Addr} {xs : List V} {ds : List WData} : SqL K H a xs → DwAll K H xs ds → Dw K H (.ref a) (.list ds)
  | tup {a : Addr} {xs : List V} {ds : List WData} : SqT K H a xs → DwAll K H xs ds → Dw K H (.ref a) (.tuple ds)
inductive DwAll (K : PySem.W.Frag) (H : Hp) : List V → List WData → Prop
  | nil : DwAll K H [] []
  | cons {v : V} {vs : List V} {d : WData} {ds : List WData} : Dw K H v d → DwAll K H vs ds → DwAll K H (v :: vs) (d :: ds)
end
theorem dw_ints {K : PySem.W.Frag} {H : Hp} : ∀ ns : List Int, DwAll K H (ns.map V.int) (ns.map WData.int)
  | [] => .nil
  | n :: r => .cons (.int n) (dw_ints r)
theorem ints_dw {K : PySem.W.Frag} {H : Hp} : ∀ (ns : List Int) (xs : List V), DwAll K H xs (ns.map WData.int) → xs = ns.map V.int
  | [], xs, h => by
    cases h
    rfl
  | n :: r, xs, h => by
    cases h with
    | cons h1 h2 =>
      cases h1
      rw [ints_dw r _ h2] <;> rfl
section
variable {P : Program} {w : World} {K : PySem.W.Frag} {H : Hp} {h : Heap} {R : PySem.W.WRecords} {cl : Str → Option Addr}
theorem sqL_at {a : Addr} {xs : List V} (hok : HOk P w H h) (KX : K.In h) (q : SqL K H a xs) : ∃ (its : List Value) (o : Obj) (n : Nat), Vals xs its ∧ h.get? a = some o ∧ o.cls = .type "list" ∧ o.data = .seq its.toArray n := by
  rcases q with q | ⟨o, its, n, e, hc, _, hd, _, hv⟩
  · obtain ⟨_, its, n, hv, e⟩ := (show ObjOk P w H h a (.lst xs) from q.ok hok)
    exact ⟨its, _, n, hv, e, rfl, rfl⟩
  · exact ⟨its.toList, o, n, hv, KX _ _ e, hc, by simp [hd]⟩
theorem sqT_at {a : Addr} {xs : List V} (hok : HOk P w H h) (KX : K.In h) (q : SqT K H a xs) : ∃ (its : List Value) (o : Obj) (n : Nat), Vals xs its ∧ h.get? a = some o ∧ o.cls = .type "tuple" ∧ o.data = .seq its.toArray n := by
  rcases q with q | ⟨o, its, n, e, hc, hd, _, hv⟩
  · obtain ⟨_, its, hv, o, e, hc, n, hd⟩ := (show ObjOk P w H h a (.tup xs) from q.ok hok)
    exact ⟨its, o, n, hv, e, hc, hd⟩
  · exact ⟨its.toList, o, n, hv, KX _ _ e, hc, by simp [hd]⟩
mutual
theorem Dw.reads (hok : HOk P w H h) (KX : K.In h) : ∀ (d : WData) (v : V) (u : Value), Dw K H v d → RelV v u → ∃ as, ReadsW R cl h u d as
  | .none, _, _, x, r => by
    cases x
    cases r
    exact ⟨_, ReadsW.none⟩
  | .bool b, _, _, x, r => by
    cases x
    cases r
    exact ⟨_, ReadsW.bool b⟩
  | .int i, _, _, x, r => by
    cases x
    obtain ⟨t, rfl⟩ := r
    exact ⟨_, ReadsW.int i t⟩
  | .str s, _, _, x, r => by
    cases x
    obtain ⟨t, rfl⟩ := r
    exact ⟨_, ReadsW.str s t⟩
  | .bytes b, _, _, x, r => by
    cases x
    obtain ⟨t, rfl⟩ := r
    exact ⟨_, ReadsW.bytes _ t⟩
  | .list ds, _, _, x, r => by
    cases x with
    | lst hs ha =>
      cases r
      obtain ⟨its, o, n, rv, ho, hc, hd⟩ := sqL_at hok KX hs
      obtain ⟨as, hr⟩ := Dw.readsAll hok KX ds _ its ha rv
      exact ⟨_, ReadsW.list ho hc hd hr⟩
  | .tuple ds, _, _, x, r => by
    cases x with
    | tup hs ha =>
      cases r
      obtain ⟨its, o, n, rv, ho, hc, hd⟩ := sqT_at hok KX hs
      obtain ⟨as, hr⟩ := Dw.readsAll hok KX ds _ its ha rv
      exact ⟨_, ReadsW.tuple ho hc hd hr⟩
  | .float _, _, _, x, _ => by cases x
  | .dict _, _, _, x, _ => by cases x
  | .bytearray _, _, _, x, _ => by cases x
  | .set _, _, _, x, _ => by cases x
  | .frozenset _, _, _, x, _ => by cases x
  | .obj _ _, _, _, x, _ => by cases x
theorem Dw.readsAll (hok : HOk P w H h) (KX : K.In h) : ∀ (ds : List WData) (vs : List V) (us : List Value), DwAll K H vs ds → Vals vs us → ∃ as, ReadsAllW R cl h us ds as
  | [], _, _, x, r => by
    cases x
    cases r
    exact ⟨_, ReadsAllW.nil⟩
  | d :: ds, _, _, x, r => by
    cases x with
    | cons h1 h2 =>
      cases r with
      | cons r1 r2 =>
        obtain ⟨as, q1⟩ := Dw.reads hok KX d _ _ h1 r1
        obtain ⟨bs, q2⟩ := Dw.readsAll hok KX ds _ _ h2 r2
        exact ⟨_, ReadsAllW.cons q1 q2⟩
end
end
mutual
def plW : WData → Bool
  | .none => true
  | .bool _ => true
  | .int _ => true
  | .str _ => true
  | .bytes _ => true
  | .list xs => plWs xs
  | .tuple xs => plWs xs
  | _ => false
def plWs : List WData → Bool
  | [] => true
  | x :: r => plW x && plWs r
end
theorem plWs_map {α : Type} {f : α → WData} (h : ∀ a, plW (f a) = true) : ∀ l : List α, plWs (l.map f) = true
  | [] => rfl
  | x :: r => by
    show (plW (f x) && plWs (r.map f)) = true
    rw [h x, plWs_map h r] <;> rfl
theorem pl_enc : ∀ (c : Codec) (a : c.denote), plW (c.enc a) = true
  | .unit, _ => rfl
  | .bool, _ => rfl
  | .int _ _, _ => rfl
  | .nat _ _, _ => rfl
  | .u8, _ => rfl
  | .bytes _ _, _ => rfl
  | .text _ _ _ _, _ => rfl
  | .list _ _ c, a => plWs_map (fun x => pl_enc c x) a
  | .pair c d, a => by
    show (plW (c.enc a.1) && (plW (d.enc a.2) && true)) = true
    rw [pl_enc c a.1, pl_enc d a.2] <;> rfl
  | .triple c d e, a => by
    show (plW (c.enc a.1) && (plW (d.enc a.2.1) && (plW (e.enc a.2.2) && true))) = true
    rw [pl_enc c a.1, pl_enc d a.2.1, pl_enc e a.2.2] <;> rfl
  | .option c, none => rfl
  | .option c, some x => pl_enc c x
theorem pl_encAll : ∀ (cs : List Codec) (a : Codec.denoteAll cs), plWs (Codec.encAll cs a) = true
  | [], _ => rfl
  | c :: cs, a => by
    show (plW (c.enc a.1) && plWs (Codec.encAll cs a.2)) = true
    rw [pl_enc c a.1, pl_encAll cs a.2] <;> rfl
theorem weight_mem : ∀ {xs : List WData} {d : WData}, d ∈ xs → d.weight ≤ WData.weightAll xs
  | [], d, h => absurd h (by simp)
  | x :: r, d, h => by
    show d.weight ≤ x.weight + 1 + WData.weightAll r
    rcases List.mem_cons.mp h with e | m
    · rw [e]
      omega
    · have z := weight_mem m
      omega
def toV : Value → V
  | .none => .non
  | .bool b => .bl b
  | .int i _ => .int i
  | .str x _ => .str x
  | .bytes b _ => .byt b
  | .ref a => .ref a
  | _ => .non
def OkU (A : List Addr) : Value → Prop
  | .none => True
  | .bool _ => True
  | .int _ _ => True
  | .str _ _ => True
  | .bytes _ _ => True
  | .ref a => a ∈ A
  | _ => False
theorem OkU.mono {A B : List Addr} (h : ∀ a ∈ A, a ∈ B) : ∀ {u : Value}, OkU A u → OkU B u := fun {u} x => by
  cases u with
  | ref a => exact h a x
  | none => trivial
  | bool b => trivial
  | int i t => trivial
  | str s t => trivial
  | bytes b t => trivial
  | _ => exact False.elim x
theorem relV_toV {A : List Addr} {u : Value} (x : OkU A u) : RelV (toV u) u := by
  cases u with
  | ref a => rfl
  | none => rfl
  | bool b => rfl
  | int i t => exact ⟨t, rfl⟩
  | str s t => exact ⟨t, rfl⟩
  | bytes b t => exact ⟨t, rfl⟩
  | _ => exact False.elim x
theorem vals_toV {A : List Addr} : ∀ {vs : List Value}, (∀ u ∈ vs, OkU A u) → Vals (vs.map toV) vs
  | [], _ => .nil
  | u :: r, h => .cons (relV_toV (h u (List.mem_cons_self ..))) (vals_toV fun x hx => h x (List.mem_cons_of_mem _ hx))
def ArgOb (h : Heap) (A : List Addr) (a : Addr) : Prop := ∃ vs : List Value, vs.length ≤ sizeLine ∧ (∀ u ∈ vs, OkU A u) ∧
  (h.get? a = some { cls := .type "list", data := .seq vs.toArray } ∨ h.get? a = some { cls := .type "tuple", data := .seq vs.toArray })
theorem ArgOb.mono {h : Heap} {A B : List Addr} {a : Addr} (k : ∀ a ∈ A, a ∈ B) (x : ArgOb h A a) : ArgOb h B a := by
  obtain ⟨vs, h1, h2, h3⟩ := x
  exact ⟨vs, h1, fun u hu => (h2 u hu).mono k, h3⟩
theorem wellAll_len {P : Params} {h : Heap} : ∀ {vs : List Value} {ds : List WData}, WellAll P h vs ds → vs.length = ds.length
  | _, _, .nil => rfl
  | _, _, .cons _ b => by
    show _ + 1 = _ + 1
    rw [wellAll_len b]
theorem well_list {P : Params} {h : Heap} {v : Value} {ds : List WData} (x : Well P h v (.list ds)) : ∃ (a : Addr) (vs : List Value), v = .ref a ∧ h.get? a = some { cls := .type "list", data := .seq vs.toArray } ∧ WellAll P h vs ds := by
  cases x with
  | list ho hall => exact ⟨_, _, rfl, ho, hall⟩
theorem well_tuple {P : Params} {h : Heap} {v : Value} {ds : List WData} (x : Well P h v (.tuple ds)) : ∃ (a : Addr) (vs : List Value), v = .ref a ∧ h.get? a = some { cls := .type "tuple", data := .seq vs.toArray } ∧ WellAll P h vs ds := by
  cases x with
  | tuple ho hall => exact ⟨_, _, rfl, ho, hall⟩
theorem well_cons {P : Params} {h : Heap} {us : List Value} {d : WData} {ds : List WData} (x : WellAll P h us (d :: ds)) : ∃ (v : Value) (vs : List Value), us = v :: vs ∧ Well P h v d ∧ WellAll P h vs ds := by
  cases x with
  | cons a b => exact ⟨_, _, rfl, a, b⟩
theorem line_of {n : Nat} (h : n ≤ 1048576) : n ≤ sizeLine := Nat.le_trans h (by decide)
section
variable {P : Params} {h : Heap}
mutual
theorem area_one : ∀ (d : WData) (v : Value), Well P h v d → plW d = true → d.weight ≤ 1048576 → ∃ A : List Addr, OkU A v ∧ ∀ a ∈ A, ArgOb h A a
  | .none, _, x, _, _ => by
    cases x
    exact ⟨[], trivial, fun a m => absurd m (by simp)⟩
  | .bool b, _, x, _, _ => by
    cases x
    exact ⟨[], trivial, fun a m => absurd m (by simp)⟩
  | .int i, _, x, _, _ => by
    cases x
    exact ⟨[], trivial, fun a m => absurd m (by simp)⟩
  | .str s, _, x, _, _ => by
    cases x
    exact ⟨[], trivial, fun a m => absurd m (by simp)⟩
  | .bytes b, _, x, _, _ => by
    cases x
    exact ⟨[], trivial, fun a m => absurd m (by simp)⟩
  | .list ds, _, x, p, z => by
    obtain ⟨a, vs, rfl, ho, hall⟩ := well_list x
    have z2 : WData.weightAll ds ≤ 1048576 := z
    obtain ⟨A, h1, h2⟩ := area_all ds _ hall p fun d hd => Nat.le_trans (weight_mem hd) z2
    have k : ∀ b ∈ A, b ∈ a :: A := fun b hb => List.mem_cons_of_mem _ hb
    refine ⟨a :: A, List.mem_cons_self .., fun b hb => ?_⟩
    rcases List.mem_cons.mp hb with e | m
    · rw [e]
      exact ⟨vs, line_of (by rw [wellAll_len hall]; exact Nat.le_trans (PySem.W.length_le_weightAllW ds) z2), fun u hu => (h1 u hu).mono k, .inl ho⟩
    · exact (h2 b m).mono k
  | .tuple ds, _, x, p, z => by
    obtain ⟨a, vs, rfl, ho, hall⟩ := well_tuple x
    have z2 : WData.weightAll ds ≤ 1048576 := z
    obtain ⟨A, h1, h2⟩ := area_all ds _ hall p fun d hd => Nat.le_trans (weight_mem hd) z2
    have k : ∀ b ∈ A, b ∈ a :: A := fun b hb => List.mem_cons_of_mem _ hb
    refine ⟨a :: A, List.mem_cons_self .., fun b hb => ?_⟩
    rcases List.mem_cons.mp hb with e | m
    · rw [e]
      exact ⟨vs, line_of (by rw [wellAll_len hall]; exact Nat.le_trans (PySem.W.length_le_weightAllW ds) z2), fun u hu => (h1 u hu).mono k, .inr ho⟩
    · exact (h2 b m).mono k
  | .float _, _, _, p, _ => Bool.noConfusion (show false = true from p)
  | .dict _, _, _, p, _ => Bool.noConfusion (show false = true from p)
  | .bytearray _, _, _, p, _ => Bool.noConfusion (show false = true from p)
  | .set _, _, _, p, _ => Bool.noConfusion (show false = true from p)
  | .frozenset _, _, _, p, _ => Bool.noConfusion (show false = true from p)
  | .obj _ _, _, _, p, _ => Bool.noConfusion (show false = true from p)
theorem area_all : ∀ (ds : List WData) (vs : List Value), WellAll P h vs ds → plWs ds = true → (∀ d ∈ ds, d.weight ≤ 1048576) → ∃ A : List Addr, (∀ u ∈ vs, OkU A u) ∧ ∀ a ∈ A, ArgOb h A a
  | [], _, x, _, _ => by
    cases x
    exact ⟨[], fun u m => absurd m (by simp), fun a m => absurd m (by simp)⟩
  | d :: ds, _, x, p, z => by
    obtain ⟨v, vs, rfl, x1, x2⟩ := well_cons x
    have q : plW d = true ∧ plWs ds = true := Bool.and_eq_true_iff.mp p
    obtain ⟨A, a1, a2⟩ := area_one d v x1 q.1 (z d (List.mem_cons_self ..))
    obtain ⟨B, b1, b2⟩ := area_all ds vs x2 q.2 fun e he => z e (List.mem_cons_of_mem _ he)
    have kA : ∀ b ∈ A, b ∈ A ++ B := fun b hb => List.mem_append.mpr (.inl hb)
    have kB : ∀ b ∈ B, b ∈ A ++ B := fun b hb => List.mem_append.mpr (.inr hb)
    refine ⟨A ++ B, fun u hu => ?_, fun b hb => ?_⟩
    · rcases List.mem_cons.mp hu with e | m
      · rw [e]
        exact a1.mono kA
      · exact (b1 u m).mono kB
    · rcases List.mem_append.mp hb with m | m
      · exact (a2 b m).mono kA
      · exact (b2 b m).mono kB
end
end
def hoOf (o : Obj) : Option HO := match o.data with
  | .seq vs _ => if (o.cls == Value.type "list") = true then some (.frz o (.lst (vs.toList.map toV))) else some (.frz o (.tup (vs.toList.map toV)))
  | _ => none
def argH (K : PySem.W.Frag) (h : Heap) (A : List Addr) : Hp := fun b => if b ∈ A then (if (K.lookup b).isNone = true then (h.get? b).bind hoOf else none) else none
def OnlyF (H : Hp) : Prop := ∀ b, H b = none ∨ ∃ o u, H b = some (.frz o u)
theorem hoOf_lst (vs : List Value) : hoOf { cls := .type "list", data := .seq vs.toArray } = some (.frz { cls := .type "list", data := .seq vs.toArray } (.lst (vs.map toV))) := by
  show (if (Value.type "list" == Value.type "list") = true then some (HO.frz { cls := .type "list", data := .seq vs.toArray } (.lst (vs.toArray.toList.map toV))) else some (HO.frz { cls := .type "list", data := .seq vs.toArray } (.tup (vs.toArray.toList.map toV)))) = _
  rw [if_pos (beq_self_eq_true _)]
theorem hoOf_tup (vs : List Value) : hoOf { cls := .type "tuple", data := .seq vs.toArray } = some (.frz { cls := .type "tuple", data := .seq vs.toArray } (.tup (vs.map toV))) := by
  show (if (Value.type "tuple" == Value.type "list") = true then some (HO.frz { cls := .type "tuple", data := .seq vs.toArray } (.lst (vs.toArray.toList.map toV))) else some (HO.frz { cls := .type "tuple", data := .seq vs.toArray } (.tup (vs.toArray.toList.map toV)))) = _
  rw [if_neg (by decide)]
section
variable {P : Program} {w : World} {K : PySem.W.Frag} {h : Heap} {A : List Addr}
theorem argH_at {b : Addr} {o : Obj} (hb : b ∈ A) (hk : K.lookup b = none) (e : h.get? b = some o) : argH K h A b = hoOf o := by
  unfold argH
  rw [if_pos hb, hk, if_pos (show (none : Option Obj).isNone = true from rfl), e] <;> rfl
theorem of_argH {b : Addr} {u : HO} (q : argH K h A b = some u) : b ∈ A ∧ K.lookup b = none := by
  unfold argH at q
  by_cases hb : b ∈ A
  · rw [if_pos hb] at q
    cases hk : K.lookup b with
    | none => exact ⟨hb, rfl⟩
    | some o =>
      rw [hk, if_neg (by simp)] at q
      cases q
  · rw [if_neg hb] at q
    cases q
theorem argH_is (ar : ∀ a ∈ A, ArgOb h A a) {b : Addr} {u : HO} (q : argH K h A b = some u) : K.lookup b = none ∧ ∃ vs : List Value, vs.length ≤ sizeLine ∧ (∀ u ∈ vs, OkU A u) ∧
    ((h.get? b = some { cls := .type "list", data := .seq vs.toArray } ∧ u = .frz { cls := .type "list", data := .seq vs.toArray } (.lst (vs.map toV))) ∨
     (h.get? b = some { cls := .type "tuple", data := .seq vs.toArray } ∧ u = .frz { cls := .type "tuple", data := .seq vs.toArray } (.tup (vs.map toV)))) := by
  obtain ⟨hb, hk⟩ := of_argH q
  obtain ⟨vs, h1, h2, h3⟩ := ar b hb
  refine ⟨hk, vs, h1, h2, ?_⟩
  rcases h3 with e | e
  · rw [argH_at hb hk e, hoOf_lst] at q
    exact .inl ⟨e, (Option.some.inj q).symm⟩
  · rw [argH_at hb hk e, hoOf_tup] at q
    exact .inr ⟨e, (Option.some.inj q).symm⟩
theorem argH_only (ar : ∀ a ∈ A, ArgOb h A a) : OnlyF (argH K h A) := fun b => by
  cases q : argH K h A b with
  | none => exact .inl rfl
  | some u =>
    obtain ⟨_, vs, _, _, ⟨_, e⟩ | ⟨_, e⟩⟩ := argH_is ar q
    · exact .inr ⟨_, _, by rw [e]⟩
    · exact .inr ⟨_, _, by rw [e]⟩
theorem argH_ok (ar : ∀ a ∈ A, ArgOb h A a) : HOk P w (argH K h A) h := fun b u q => by
  obtain ⟨_, vs, h1, h2, ⟨e, rfl⟩ | ⟨e, rfl⟩⟩ := argH_is ar q
  · exact ⟨e, by rw [List.length_map]; exact h1, vs, _, vals_toV h2, e⟩
  · exact ⟨e, by rw [List.length_map]; exact h1, vs, vals_toV h2, _, e, rfl, _, rfl⟩
theorem seq_inj {c c' : Value} {vs us : List Value} (e : (some { cls := c, data := .seq vs.toArray } : Option Obj) = some { cls := c', data := .seq us.toArray }) : c = c' ∧ vs = us := by
  have e1 := Option.some.inj e
  have e2 : c = c' := congrArg Obj.cls e1
  have e3 : Data.seq vs.toArray = Data.seq us.toArray := congrArg Obj.data e1
  injection e3 with e4
  refine ⟨e2, ?_⟩
  have e5 := congrArg Array.toList e4
  simpa using e5
theorem argL (KX : K.In h) (ar : ∀ a ∈ A, ArgOb h A a) {a : Addr} {vs : List Value} (ha : a ∈ A) (e : h.get? a = some { cls := .type "list", data := .seq vs.toArray }) : (∀ u ∈ vs, OkU A u) ∧ SqL K (argH K h A) a (vs.map toV) := by
  obtain ⟨us, h1, h2, h3⟩ := ar a ha
  have hu : us = vs := by
    rcases h3 with q | q
    · rw [e] at q
      exact (seq_inj q).2.symm
    · rw [e] at q
      exact absurd (Value.type.inj (seq_inj q).1) (by decide)
  subst hu
  refine ⟨h2, ?_⟩
  cases hk : K.lookup a with
  | none => exact .inl (.inr ⟨_, by rw [argH_at ha hk e, hoOf_lst]⟩)
  | some o =>
    have e2 := KX a o hk
    rw [e] at e2
    obtain rfl := Option.some.inj e2
    exact .inr ⟨_, us.toArray, _, hk, rfl, rfl, rfl, by rw [List.size_toArray]; exact h1, by simpa using vals_toV h2⟩
theorem argT (KX : K.In h) (ar : ∀ a ∈ A, ArgOb h A a) {a : Addr} {vs : List Value} (ha : a ∈ A) (e : h.get? a = some { cls := .type "tuple", data := .seq vs.toArray }) : (∀ u ∈ vs, OkU A u) ∧ SqT K (argH K h A) a (vs.map toV) := by
  obtain ⟨us, h1, h2, h3⟩ := ar a ha
  have hu : us = vs := by
    rcases h3 with q | q
    · rw [e] at q
      exact absurd (Value.type.inj (seq_inj q).1) (by decide)
    · rw [e] at q
      exact (seq_inj q).2.symm
  subst hu
  refine ⟨h2, ?_⟩
  cases hk : K.lookup a with
  | none => exact .inl (.inr ⟨_, by rw [argH_at ha hk e, hoOf_tup]⟩)
  | some o =>
    have e2 := KX a o hk
    rw [e] at e2
    obtain rfl := Option.some.inj e2
    exact .inr ⟨_, us.toArray, _, hk, rfl, rfl, by rw [List.size_toArray]; exact h1, by simpa using vals_toV h2⟩
mutual
theorem dw_one {Pm : Params} (KX : K.In h) (ar : ∀ a ∈ A, ArgOb h A a) : ∀ (d : WData) (v : Value), Well Pm h v d → plW d = true → OkU A v → Dw K (argH K h A) (toV v) d
  | .none, _, x, _, _ => by
    cases x
    exact .non
  | .bool b, _, x, _, _ => by
    cases x
    exact .bl b
  | .int i, _, x, _, _ => by
    cases x
    exact .int i
  | .str s, _, x, _, _ => by
    cases x
    exact .str s
  | .bytes b, _, x, _, _ => by
    cases x
    have z := Dw.byt (K := K) (H := argH K h A) b.toArray
    exact z
  | .list ds, _, x, p, hu => by
    obtain ⟨a, vs, rfl, ho, hall⟩ := well_list x
    obtain ⟨h2, hs⟩ := argL KX ar hu ho
    exact .lst hs (dw_all KX ar ds _ hall p h2)
  | .tuple ds, _, x, p, hu => by
    obtain ⟨a, vs, rfl, ho, hall⟩ := well_tuple x
    obtain ⟨h2, hs⟩ := argT KX ar hu ho
    exact .tup hs (dw_all KX ar ds _ hall p h2)
  | .float _, _, _, p, _ => Bool.noConfusion (show false = true from p)
  | .dict _, _, _, p, _ => Bool.noConfusion (show false = true from p)
  | .bytearray _, _, _, p, _ => Bool.noConfusion (show false = true from p)
  | .set _, _, _, p, _ => Bool.noConfusion (show false = true from p)
  | .frozenset _, _, _, p, _ => Bool.noConfusion (show false = true from p)
  | .obj _ _, _, _, p, _ => Bool.noConfusion (show false = true from p)
theorem dw_all {Pm : Params} (KX : K.In h) (ar : ∀ a ∈ A, ArgOb h A a) : ∀ (ds : List WData) (vs : List Value), WellAll Pm h vs ds → plWs ds = true → (∀ u ∈ vs, OkU A u) → DwAll K (argH K h A) (vs.map toV) ds
  | [], _, x, _, _ => by
    cases x
    exact .nil
  | d :: ds, _, x, p, hu => by
    obtain ⟨v, vs, rfl, x1, x2⟩ := well_cons x
    have q : plW d = true ∧ plWs ds = true := Bool.and_eq_true_iff.mp p
    exact .cons (dw_one KX ar d v x1 q.1 (hu _ (List.mem_cons_self ..))) (dw_all KX ar ds vs x2 q.2 fun u m => hu u (List.mem_cons_of_mem _ m))
end
end
theorem layable_weight {ds : List WData} (h : WData.layableAll ds = true) : ∀ d ∈ ds, d.weight ≤ 1048576 := fun d hd =>
  (PySem.W.layableW_iff.mp (List.all_eq_true.mp h d hd)).2.2
theorem encAll_len : ∀ (cs : List Codec) (a : Codec.denoteAll cs), (Codec.encAll cs a).length = cs.length
  | [], _ => rfl
  | c :: cs, a => by
    show (Codec.encAll cs a.2).length + 1 = cs.length + 1
    rw [encAll_len cs a.2]
end L2
end


end
section
set_option autoImplicit false
namespace Bs
open Sn78 Sn78Neutral

/-! bits -/
theorem add_or {x y : Nat} (h : x &&& y = 0) : x + y = x ||| y := by
  have hx : x < 2 ^ (x + y) := Nat.lt_of_lt_of_le Nat.lt_two_pow_self (Nat.pow_le_pow_right (by decide) (by omega))
  have hy : y < 2 ^ (x + y) := Nat.lt_of_lt_of_le Nat.lt_two_pow_self (Nat.pow_le_pow_right (by decide) (by omega))
  have h' : BitVec.ofNat (x + y) x &&& BitVec.ofNat (x + y) y = 0#(x + y) := by
    apply BitVec.eq_of_toNat_eq
    simp only [BitVec.toNat_and, BitVec.toNat_ofNat, Nat.mod_eq_of_lt hx, Nat.mod_eq_of_lt hy, h, Nat.zero_mod]
  have e1 := BitVec.toNat_add_of_and_eq_zero h'
  have e2 := BitVec.add_eq_or_of_and_eq_zero _ _ h'
  rw [e2] at e1
  simp only [BitVec.toNat_or, BitVec.toNat_ofNat, Nat.mod_eq_of_lt hx, Nat.mod_eq_of_lt hy] at e1
  exact e1.symm
theorem bit_zero {x y : Nat} (h : x &&& y = 0) (i : Nat) : (x.testBit i && y.testBit i) = false := by
  rw [← Nat.testBit_and, h, Nat.zero_testBit]
theorem zero_bit {x y : Nat} (h : ∀ i, (x.testBit i && y.testBit i) = false) : x &&& y = 0 := by
  apply Nat.eq_of_testBit_eq
  intro i
  rw [Nat.testBit_and, h, Nat.zero_testBit]
theorem bit_sub {o x : Nat} (h : o &&& x = x) (i : Nat) : (o.testBit i && x.testBit i) = x.testBit i := by
  rw [← Nat.testBit_and, h]
theorem sub_bit {o x : Nat} (h : ∀ i, (o.testBit i && x.testBit i) = x.testBit i) : o &&& x = x := by
  apply Nat.eq_of_testBit_eq
  intro i
  rw [Nat.testBit_and, h]
theorem land_add {x u a : Nat} (h : a &&& u = 0) : x &&& (u + a) = 0 ↔ x &&& u = 0 ∧ x &&& a = 0 := by
  rw [add_or (by rw [Nat.and_comm]; exact h)]
  constructor
  · intro q
    refine ⟨zero_bit fun i => ?_, zero_bit fun i => ?_⟩ <;>
    · have := bit_zero q i
      rw [Nat.testBit_or] at this
      revert this
      cases x.testBit i <;> cases u.testBit i <;> cases a.testBit i <;> simp
  · intro ⟨q1, q2⟩
    refine zero_bit fun i => ?_
    have h1 := bit_zero q1 i
    have h2 := bit_zero q2 i
    rw [Nat.testBit_or]
    revert h1 h2
    cases x.testBit i <;> cases u.testBit i <;> cases a.testBit i <;> simp
theorem sub_xor {o p : Nat} (h : o &&& p = p) : o - p = o ^^^ p := by
  have d : (o ^^^ p) &&& p = 0 := zero_bit fun i => by
    have := bit_sub h i
    rw [Nat.testBit_xor]
    revert this
    cases o.testBit i <;> cases p.testBit i <;> simp
  have e : (o ^^^ p) + p = o := by
    rw [add_or d]
    apply Nat.eq_of_testBit_eq
    intro i
    have := bit_sub h i
    rw [Nat.testBit_or, Nat.testBit_xor]
    revert this
    cases o.testBit i <;> cases p.testBit i <;> simp
  omega
/-- what lies in o without p: in o, and apart from p -/
theorem in_sub {o p x : Nat} (h : o &&& p = p) : (o - p) &&& x = x ↔ o &&& x = x ∧ x &&& p = 0 := by
  rw [sub_xor h]
  constructor
  · intro q
    refine ⟨sub_bit fun i => ?_, zero_bit fun i => ?_⟩ <;>
    · have h1 := bit_sub q i
      have h2 := bit_sub h i
      rw [Nat.testBit_xor] at h1
      revert h1 h2
      cases x.testBit i <;> cases o.testBit i <;> cases p.testBit i <;> simp
  · intro ⟨q1, q2⟩
    refine sub_bit fun i => ?_
    have h1 := bit_sub q1 i
    have h2 := bit_zero q2 i
    have h3 := bit_sub h i
    rw [Nat.testBit_xor]
    revert h1 h2 h3
    cases x.testBit i <;> cases o.testBit i <;> cases p.testBit i <;> simp
theorem sub_le {o p : Nat} (h : o &&& p = p) : p ≤ o := by
  rw [← h]
  exact Nat.and_le_left

/-! the greatest of some numbers, as a loop finds it -/
theorem fold_ge {α : Type} (c : α → Bool) (f : α → Nat) : ∀ (l : List α) (z : Nat), z ≤ l.foldl (fun mo p => if c p then max mo (f p) else mo) z ∧ ∀ p ∈ l, c p = true → f p ≤ l.foldl (fun mo p => if c p then max mo (f p) else mo) z
  | [], z => ⟨Nat.le_refl _, fun _ h => nomatch h⟩
  | a :: l, z => by
    rw [List.foldl_cons]
    obtain ⟨h1, h2⟩ := fold_ge c f l (if c a then max z (f a) else z)
    constructor
    · refine Nat.le_trans ?_ h1
      split
      · exact Nat.le_max_left ..
      · exact Nat.le_refl _
    · intro p hp hc
      rcases List.mem_cons.mp hp with rfl | hp
      · refine Nat.le_trans ?_ h1
        rw [if_pos hc]
        exact Nat.le_max_right ..
      · exact h2 p hp hc
theorem fold_in {α : Type} (c : α → Bool) (f : α → Nat) : ∀ (l : List α) (z : Nat), l.foldl (fun mo p => if c p then max mo (f p) else mo) z = z ∨ ∃ p ∈ l, c p = true ∧ l.foldl (fun mo p => if c p then max mo (f p) else mo) z = f p
  | [], z => .inl rfl
  | a :: l, z => by
    rw [List.foldl_cons]
    rcases fold_in c f l (if c a then max z (f a) else z) with h | ⟨p, hp, hc, h⟩
    · rw [h]
      by_cases hc : c a = true
      · rw [if_pos hc]
        rcases Nat.le_total (f a) z with hz | hz
        · exact .inl (Nat.max_eq_left hz)
        · exact .inr ⟨a, List.mem_cons_self .., hc, Nat.max_eq_right hz⟩
      · rw [if_neg hc]
        exact .inl rfl
    · exact .inr ⟨p, List.mem_cons_of_mem _ hp, hc, h⟩

/-! the mirror -/
def split (W B : List Nat) (o : Nat) : Nat := (List.range (o + 1)).foldl (fun mo p => if o &&& p == p then max mo (W.getD (o - p) 0 + B.getD p 0) else mo) 0
def withB (W B : List Nat) : List Nat := (List.range W.length).map (split W B)
def bids (m : Nat) (v : List Nat) (k : Nat) : List Nat := (v.drop (k * 2 ^ m)).take (2 ^ m)
def table (m : Nat) (v : List Nat) : Nat → List Nat
  | 0 => List.replicate (2 ^ m) 0
  | k + 1 => withB (table m v k) (bids m v k)
def dp (n m : Nat) (v : List Nat) : Nat := (table m v n).getD (2 ^ m - 1) 0
theorem table_len (m : Nat) (v : List Nat) : ∀ k, (table m v k).length = 2 ^ m
  | 0 => List.length_replicate
  | k + 1 => by
    show ((List.range (table m v k).length).map _).length = _
    rw [List.length_map, List.length_range, table_len m v k]
theorem table_get (m : Nat) (v : List Nat) (k : Nat) {o : Nat} (h : o < 2 ^ m) : (table m v (k + 1)).getD o 0 = split (table m v k) (bids m v k) o := by
  show ((List.range (table m v k).length).map _).getD o 0 = _
  rw [table_len, List.getD_eq_getElem?_getD, List.getElem?_map, List.getElem?_range h]
  rfl
theorem bids_get (m : Nat) (v : List Nat) (k : Nat) {p : Nat} (h : p < 2 ^ m) : (bids m v k).getD p 0 = value m v k p := by
  unfold bids value
  rw [List.getD_eq_getElem?_getD, List.getElem?_take_of_lt h, List.getElem?_drop, ← List.getD_eq_getElem?_getD]
theorem split_ge {W B : List Nat} {o p : Nat} (h : o &&& p = p) : W.getD (o - p) 0 + B.getD p 0 ≤ split W B o :=
  (fold_ge (fun p => o &&& p == p) (fun p => W.getD (o - p) 0 + B.getD p 0) (List.range (o + 1)) 0).2 p (List.mem_range.mpr (Nat.lt_succ_of_le (sub_le h))) (beq_iff_eq.mpr h)
theorem split_in (W B : List Nat) (o : Nat) : ∃ p, o &&& p = p ∧ split W B o = W.getD (o - p) 0 + B.getD p 0 := by
  rcases fold_in (fun p => o &&& p == p) (fun p => W.getD (o - p) 0 + B.getD p 0) (List.range (o + 1)) 0 with h | ⟨p, _, hc, h⟩
  · refine ⟨0, Nat.and_zero _, ?_⟩
    have q := split_ge (W := W) (B := B) (o := o) (p := 0) (Nat.and_zero _)
    have h' : split W B o = 0 := h
    omega
  · exact ⟨p, beq_iff_eq.mp hc, h⟩

/-- the loop of split, i turns of it -/
def acc (W B : List Nat) (o i : Nat) : Nat := (List.range i).foldl (fun mo p => if o &&& p == p then max mo (W.getD (o - p) 0 + B.getD p 0) else mo) 0
theorem acc_succ (W B : List Nat) (o i : Nat) : acc W B o (i + 1) = if o &&& i = i then max (acc W B o i) (W.getD (o - i) 0 + B.getD i 0) else acc W B o i := by
  unfold acc
  rw [List.range_succ, List.foldl_append]
  show (if o &&& i == i then _ else _) = _
  by_cases h : o &&& i = i
  · rw [if_pos (beq_iff_eq.mpr h), if_pos h]
  · rw [if_neg (fun z => h (beq_iff_eq.mp z)), if_neg h]

/-! ways within a set -/
structure Fits (o k : Nat) (a : List Nat) : Prop where
  len : a.length = k
  sub : ∀ x ∈ a, o &&& x = x
  dis : a.Pairwise fun x y => Nat.land x y = 0
theorem worth_snoc (m : Nat) (v a : List Nat) (p : Nat) : worth m v (a ++ [p]) = worth m v a + value m v a.length p := by
  unfold worth
  rw [List.zipIdx_append, List.map_append, List.sum_append]
  simp
theorem fits_snoc {o k p : Nat} {a : List Nat} : Fits o (k + 1) (a ++ [p]) ↔ o &&& p = p ∧ Fits (o - p) k a := by
  constructor
  · intro ⟨h1, h2, h3⟩
    have hp : o &&& p = p := h2 p (List.mem_append_right _ (List.mem_singleton.mpr rfl))
    obtain ⟨d1, d2, d3⟩ := List.pairwise_append.mp h3
    refine ⟨hp, ⟨by simpa using h1, fun x hx => (in_sub hp).mpr ⟨h2 x (List.mem_append_left _ hx), d3 x hx p (List.mem_singleton.mpr rfl)⟩, d1⟩⟩
  · intro ⟨hp, h1, h2, h3⟩
    refine ⟨by simp [h1], fun x hx => ?_, List.pairwise_append.mpr ⟨h3, by simp, fun x hx y hy => ?_⟩⟩
    · rcases List.mem_append.mp hx with hx | hx
      · exact ((in_sub hp).mp (h2 x hx)).1
      · rw [List.mem_singleton.mp hx]
        exact hp
    · rw [List.mem_singleton.mp hy]
      exact ((in_sub hp).mp (h2 x hx)).2
theorem upper (m : Nat) (v : List Nat) : ∀ (k o : Nat) (a : List Nat), o < 2 ^ m → Fits o k a → worth m v a ≤ (table m v k).getD o 0
  | 0, o, a, ho, h => by
    have e : a = [] := List.length_eq_zero_iff.mp h.len
    subst e
    exact Nat.zero_le _
  | k + 1, o, a, ho, h => by
    rcases List.eq_nil_or_concat a with rfl | ⟨b, p, rfl⟩
    · exact absurd h.len (by simp)
    · rw [List.concat_eq_append] at h ⊢
      obtain ⟨hp, hb⟩ := fits_snoc.mp h
      have lp := sub_le hp
      have ih := upper m v k (o - p) b (by omega) hb
      have q := split_ge (W := table m v k) (B := bids m v k) hp
      rw [bids_get m v k (by omega)] at q
      rw [worth_snoc, hb.len, table_get m v k ho]
      omega
theorem attained (m : Nat) (v : List Nat) : ∀ (k o : Nat), o < 2 ^ m → ∃ a, Fits o k a ∧ worth m v a = (table m v k).getD o 0
  | 0, o, ho => by
    refine ⟨[], ⟨rfl, fun _ h => (nomatch h), List.Pairwise.nil⟩, ?_⟩
    show 0 = (List.replicate (2 ^ m) 0).getD o 0
    rw [List.getD_eq_getElem?_getD, List.getElem?_replicate, if_pos ho]
    rfl
  | k + 1, o, ho => by
    obtain ⟨p, hp, e⟩ := split_in (table m v k) (bids m v k) o
    have lp := sub_le hp
    obtain ⟨a, ha, hw⟩ := attained m v k (o - p) (by omega)
    refine ⟨a ++ [p], fits_snoc.mpr ⟨hp, ha⟩, ?_⟩
    rw [worth_snoc, ha.len, hw, table_get m v k ho, e, bids_get m v k (by omega)]

/-! the specification's ways -/
theorem mem_ways (m : Nat) : ∀ (n u : Nat) (a : List Nat), a ∈ ways m n u ↔ a.length = n ∧ (∀ x ∈ a, x < 2 ^ m ∧ x &&& u = 0) ∧ a.Pairwise fun x y => Nat.land x y = 0
  | 0, u, a => by
    show a ∈ [[]] ↔ _
    rw [List.mem_singleton]
    constructor
    · rintro rfl
      exact ⟨rfl, fun _ h => (nomatch h), List.Pairwise.nil⟩
    · intro h
      exact List.length_eq_zero_iff.mp h.1
  | n + 1, u, a => by
    show a ∈ List.flatMap _ _ ↔ _
    rw [List.mem_flatMap]
    constructor
    · rintro ⟨x, hx, h⟩
      obtain ⟨b, hb, rfl⟩ := List.mem_map.mp h
      obtain ⟨h1, h2⟩ := List.mem_filter.mp hx
      have h2 : x &&& u = 0 := beq_iff_eq.mp h2
      obtain ⟨g1, g2, g3⟩ := (mem_ways m n (u + x) b).mp hb
      refine ⟨by simp [g1], fun y hy => ?_, List.pairwise_cons.mpr ⟨fun y hy => ?_, g3⟩⟩
      · rcases List.mem_cons.mp hy with rfl | hy
        · exact ⟨List.mem_range.mp h1, h2⟩
        · exact ⟨(g2 y hy).1, ((land_add h2).mp (g2 y hy).2).1⟩
      · show x &&& y = 0
        rw [Nat.and_comm]
        exact ((land_add h2).mp (g2 y hy).2).2
    · rintro ⟨h1, h2, h3⟩
      match a, h1, h2, h3 with
      | [], h1, _, _ => exact absurd h1 (by simp)
      | x :: b, h1, h2, h3 =>
        obtain ⟨d1, d2⟩ := List.pairwise_cons.mp h3
        have hx := h2 x (List.mem_cons_self ..)
        refine ⟨x, List.mem_filter.mpr ⟨List.mem_range.mpr hx.1, beq_iff_eq.mpr hx.2⟩, List.mem_map.mpr ⟨b, (mem_ways m n (u + x) b).mpr ⟨by simpa using h1, fun y hy => ⟨(h2 y (List.mem_cons_of_mem _ hy)).1, (land_add hx.2).mpr ⟨(h2 y (List.mem_cons_of_mem _ hy)).2, ?_⟩⟩, d2⟩, rfl⟩⟩
        have := d1 y hy
        rw [Nat.and_comm]
        exact this
theorem fits_ways {m n : Nat} {a : List Nat} : Fits (2 ^ m - 1) n a ↔ a ∈ ways m n 0 := by
  rw [mem_ways]
  have full : ∀ x, (2 ^ m - 1) &&& x = x ↔ x < 2 ^ m := fun x => by
    rw [Nat.and_comm, Nat.and_two_pow_sub_one_eq_mod]
    constructor
    · intro e
      rw [← e]
      exact Nat.mod_lt _ (Nat.two_pow_pos m)
    · exact Nat.mod_eq_of_lt
  constructor
  · intro ⟨h1, h2, h3⟩
    exact ⟨h1, fun x hx => ⟨(full x).mp (h2 x hx), Nat.and_zero _⟩, h3⟩
  · intro ⟨h1, h2, h3⟩
    exact ⟨h1, fun x hx => (full x).mpr (h2 x hx).1, h3⟩
theorem pick {f : List Nat → Nat} : ∀ (l : List (List Nat)) (d : List Nat), ∃ a, l.foldl (fun (b : Option (List Nat)) a => match b with
    | none => some a
    | some d => if f d < f a then some a else b) (some d) = some a ∧ (a = d ∨ a ∈ l) ∧ f d ≤ f a ∧ ∀ b ∈ l, f b ≤ f a
  | [], d => ⟨d, rfl, .inl rfl, Nat.le_refl _, fun _ h => nomatch h⟩
  | x :: l, d => by
    rw [List.foldl_cons]
    show ∃ a, l.foldl _ (if f d < f x then some x else some d) = some a ∧ _
    by_cases h : f d < f x
    · rw [if_pos h]
      obtain ⟨a, h1, h2, h3, h4⟩ := pick (f := f) l x
      refine ⟨a, h1, ?_, by omega, fun b hb => ?_⟩
      · rcases h2 with rfl | h2
        · exact .inr (List.mem_cons_self ..)
        · exact .inr (List.mem_cons_of_mem _ h2)
      · rcases List.mem_cons.mp hb with rfl | hb
        · exact h3
        · exact h4 b hb
    · rw [if_neg h]
      obtain ⟨a, h1, h2, h3, h4⟩ := pick (f := f) l d
      refine ⟨a, h1, ?_, h3, fun b hb => ?_⟩
      · rcases h2 with rfl | h2
        · exact .inl rfl
        · exact .inr (List.mem_cons_of_mem _ h2)
      · rcases List.mem_cons.mp hb with rfl | hb
        · omega
        · exact h4 b hb
theorem bestOf_is (n m : Nat) (v : List Nat) : bestOf n m v ∈ ways m n 0 ∧ ∀ b ∈ ways m n 0, worth m v b ≤ worth m v (bestOf n m v) := by
  obtain ⟨a0, h0, _⟩ := attained m v n (2 ^ m - 1) (by have := Nat.two_pow_pos m; omega)
  have h0 := fits_ways.mp h0
  cases e : ways m n 0 with
  | nil =>
    rw [e] at h0
    exact absurd h0 (by simp)
  | cons x l =>
    obtain ⟨a, h1, h2, h3, h4⟩ := pick (f := worth m v) l x
    have hb : bestOf n m v = a := by
      unfold bestOf
      rw [e]
      exact congrArg (fun z => Option.getD z []) h1
    rw [hb]
    refine ⟨?_, fun b hb => ?_⟩
    · rcases h2 with rfl | h2
      · exact List.mem_cons_self ..
      · exact List.mem_cons_of_mem _ h2
    · rcases List.mem_cons.mp hb with rfl | hb
      · exact h3
      · exact h4 b hb
theorem best_dp (n m : Nat) (v : List Nat) : worth m v (bestOf n m v) = dp n m v := by
  obtain ⟨h1, h2⟩ := bestOf_is n m v
  have hl : 2 ^ m - 1 < 2 ^ m := by have := Nat.two_pow_pos m; omega
  obtain ⟨a, ha, hw⟩ := attained m v n (2 ^ m - 1) hl
  have q1 := upper m v n (2 ^ m - 1) _ hl (fits_ways.mpr h1)
  have q2 := h2 a (fits_ways.mp ha)
  unfold dp
  omega
/-! what is answered -/
/-- whether the sizes are in their ranges -/
def fits (x y : Int) : Bool := decide (1 ≤ x) && (decide (x ≤ 8) && (decide (1 ≤ y) && decide (y ≤ 6)))
def code (x y : Int) (v : List Nat) : Int := if fits x y = false then -2 else if Sn78.bare x.toNat y.toNat v = false then -3 else 0
def ans (x y : Int) (v : List Nat) : List Int := if code x y v = 0 then [0, ((dp x.toNat y.toNat v : Nat) : Int)] else [code x y v]
theorem fits_between (x y : Int) : (between x 1 MANY && between y 1 THINGS) = fits x y := by
  show ((decide (1 ≤ x) && decide (x ≤ 8)) && (decide (1 ≤ y) && decide (y ≤ 6))) = _
  rw [Bool.and_assoc]
  rfl
theorem best_ans (x y : Int) (v : List Int) : PySn78.best x y v = ans x y (nats v) := by
  show (if (between x 1 MANY && between y 1 THINGS) = false then [-2] else if bare x.toNat y.toNat (nats v) = false then [-3] else [0, (worth y.toNat (nats v) (bestOf x.toNat y.toNat (nats v)) : Int)]) = _
  rw [fits_between, best_dp]
  unfold ans code
  by_cases h1 : fits x y = false
  · rw [if_pos h1, if_pos h1]
    rfl
  · rw [if_neg h1, if_neg h1]
    by_cases h2 : bare x.toNat y.toNat (nats v) = false
    · rw [if_pos h2, if_pos h2]
      rfl
    · rw [if_neg h2, if_neg h2]
      rfl
theorem fits_iff {x y : Int} : fits x y = true ↔ 1 ≤ x ∧ x ≤ 8 ∧ 1 ≤ y ∧ y ≤ 6 := by
  unfold fits
  simp only [Bool.and_eq_true, decide_eq_true_eq]
theorem asked1_best {x y : Int} {v : List Int} (h : asked1 [[0, x, y], v] = true) : (∀ z ∈ v, 0 ≤ z) ∧ (fits x y = true → v.length = x.toNat * 2 ^ y.toNat) := by
  have h : (whole32 x && (whole32 y && ((v.all fun (z : Int) => natural z 32) && (sets v x y && pairs x y 8 6)))) = true := h
  simp only [Bool.and_eq_true] at h
  obtain ⟨_, _, h1, h2, _⟩ := h
  refine ⟨fun z hz => ?_, fun hf => ?_⟩
  · have q := List.all_eq_true.mp h1 z hz
    unfold natural at q
    simp only [Bool.and_eq_true, decide_eq_true_eq] at q
    exact q.1
  · unfold sets at h2
    have q := of_decide_eq_true h2
    rw [if_pos (fits_iff.mp hf)] at q
    exact q
theorem asked_best {x y : Int} {v : List Int} (h : PySn78.best_asked x y v = true) : (∀ z ∈ v, 0 ≤ z) ∧ (fits x y = true → v.length = x.toNat * 2 ^ y.toNat) := by
  unfold PySn78.best_asked asked at h
  simp only [Bool.and_eq_true, List.all_cons] at h
  exact asked1_best h.2.2.1.1
theorem nats_back {v : List Int} (h : ∀ z ∈ v, 0 ≤ z) : (nats v).map (fun (x : Nat) => (x : Int)) = v := by
  unfold nats
  rw [List.map_map]
  conv => rhs; rw [← List.map_id v]
  refine List.map_congr_left fun z hz => ?_
  exact Int.toNat_of_nonneg (h z hz)
end Bs

end
section
set_option autoImplicit false
namespace Bs
open Sn78 Sn78Neutral
/-! ### what the others give without one -/
theorem get_without (m : Nat) (v : List Nat) (i t : Nat) : (without m v i).getD t 0 = if t / 2 ^ m = i then 0 else v.getD t 0 := by
  unfold without with_
  rw [List.getD_eq_getElem?_getD, List.getElem?_map, List.getElem?_zipIdx, List.getD_eq_getElem?_getD]
  cases v[t]? with
  | none => simp
  | some x =>
    simp only [Option.map_some, Option.getD_some, Nat.zero_add]
    rfl
theorem val_without (m : Nat) (v : List Nat) (i j x : Nat) (hx : x < 2 ^ m) : value m (without m v i) j x = if j = i then 0 else value m v j x := by
  unfold value
  rw [get_without]
  have e : (j * 2 ^ m + x) / 2 ^ m = j := by
    rw [Nat.mul_comm, Nat.mul_add_div (Nat.two_pow_pos m), Nat.div_eq_of_lt hx, Nat.add_zero]
  rw [e]
theorem snoc_ind {α : Type} {P : List α → Prop} (h0 : P []) (h1 : ∀ l x, P l → P (l ++ [x])) (l : List α) : P l := by
  have h : ∀ (n : Nat) (l : List α), l.length = n → P l := by
    intro n
    induction n with
    | zero =>
      intro l hl
      rw [List.length_eq_zero_iff.mp hl]
      exact h0
    | succ n ih =>
      intro l hl
      rcases List.eq_nil_or_concat l with rfl | ⟨b, p, rfl⟩
      · exact h0
      · rw [List.concat_eq_append] at hl ⊢
        exact h1 b p (ih b (by simpa using hl))
  exact h _ l rfl
theorem worth_without (m : Nat) (v : List Nat) (i : Nat) (a : List Nat) : (∀ x ∈ a, x < 2 ^ m) → worth m (without m v i) a + (if i < a.length then value m v i (a.getD i 0) else 0) = worth m v a := by
  refine snoc_ind (P := fun a => (∀ x ∈ a, x < 2 ^ m) → worth m (without m v i) a + (if i < a.length then value m v i (a.getD i 0) else 0) = worth m v a) ?_ ?_ a
  · intro _
    rfl
  · intro l p ih h
    have ih := ih fun x hx => h x (List.mem_append_left _ hx)
    have hp := h p (List.mem_append_right _ (List.mem_singleton.mpr rfl))
    rw [worth_snoc, worth_snoc, val_without m v i _ p hp, List.length_append]
    show _ + _ + (if i < l.length + 1 then _ else 0) = _
    rcases Nat.lt_trichotomy i l.length with c | c | c
    · rw [if_pos c] at ih
      rw [if_neg (by omega), if_pos (by omega)]
      have e : (l ++ [p]).getD i 0 = l.getD i 0 := by
        rw [List.getD_eq_getElem?_getD, List.getElem?_append_left c, ← List.getD_eq_getElem?_getD]
      rw [e]
      omega
    · rw [if_neg (by omega)] at ih
      rw [if_pos c.symm, if_pos (by omega)]
      have e : (l ++ [p]).getD i 0 = p := by
        rw [c, List.getD_eq_getElem?_getD, List.getElem?_append_right (Nat.le_refl _), Nat.sub_self]
        rfl
      rw [e, c]
      rw [← c]
      omega
    · rw [if_neg (by omega)] at ih
      rw [if_neg (by omega), if_neg (by omega)]
      omega
theorem sum_range_succ (f : Nat → Nat) (n : Nat) : ((List.range (n + 1)).map f).sum = ((List.range n).map f).sum + f n := by
  rw [List.range_succ, List.map_append, List.sum_append]
  simp
theorem sum_congr {f g : Nat → Nat} : ∀ {n : Nat}, (∀ i, i < n → f i = g i) → ((List.range n).map f).sum = ((List.range n).map g).sum
  | 0, _ => rfl
  | n + 1, h => by
    rw [sum_range_succ, sum_range_succ, sum_congr fun i hi => h i (by omega), h n (by omega)]
theorem sum_add (f g : Nat → Nat) : ∀ n : Nat, ((List.range n).map fun i => f i + g i).sum = ((List.range n).map f).sum + ((List.range n).map g).sum
  | 0 => rfl
  | n + 1 => by
    rw [sum_range_succ, sum_range_succ, sum_range_succ, sum_add f g n]
    omega
theorem sum_const (c : Nat) : ∀ n : Nat, ((List.range n).map fun _ => c).sum = n * c
  | 0 => by simp
  | n + 1 => by
    rw [sum_range_succ, sum_const c n, Nat.succ_mul]
theorem worth_sum (m : Nat) (v a : List Nat) : ((List.range a.length).map fun i => value m v i (a.getD i 0)).sum = worth m v a := by
  refine snoc_ind (P := fun a => ((List.range a.length).map fun i => value m v i (a.getD i 0)).sum = worth m v a) rfl ?_ a
  intro l p ih
  rw [worth_snoc, List.length_append]
  show ((List.range (l.length + 1)).map _).sum = _
  rw [sum_range_succ, ← ih]
  have e : (l ++ [p]).getD l.length 0 = p := by
    rw [List.getD_eq_getElem?_getD, List.getElem?_append_right (Nat.le_refl _), Nat.sub_self]
    rfl
  rw [e]
  congr 1
  refine sum_congr fun i hi => ?_
  rw [List.getD_eq_getElem?_getD, List.getElem?_append_left hi, ← List.getD_eq_getElem?_getD]
/-- what all pay together, by best ways' worth alone -/
theorem pays_eq (n m : Nat) (v : List Nat) : pays n m v (bestOf n m v) + n * dp n m v = ((List.range n).map fun i => dp n m (without m v i)).sum + dp n m v := by
  obtain ⟨h1, h2⟩ := bestOf_is n m v
  obtain ⟨l1, l2, l3⟩ := (mem_ways m n 0 _).mp h1
  rw [← best_dp n m v]
  generalize bestOf n m v = a at *
  unfold pays
  have e1 : ((List.range n).map fun i => worth m (without m v i) a + value m v i (a.getD i 0)).sum = n * worth m v a := by
    rw [← sum_const]
    refine sum_congr fun i hi => ?_
    have q := worth_without m v i a fun x hx => (l2 x hx).1
    rw [if_pos (by omega)] at q
    exact q
  rw [sum_add] at e1
  have e2 := worth_sum m v a
  rw [l1] at e2
  have e3 : ((List.range n).map fun i => (worth m (without m v i) (bestOf n m (without m v i)) - worth m (without m v i) a) + worth m (without m v i) a).sum = ((List.range n).map fun i => dp n m (without m v i)).sum := by
    refine sum_congr fun i hi => ?_
    rw [← best_dp]
    have := (bestOf_is n m (without m v i)).2 a h1
    omega
  rw [sum_add] at e3
  omega
end Bs

end
section
set_option autoImplicit false
namespace Bs
open Sn78 Sn78Neutral
theorem mem_rowsOf (most : Nat) : ∀ (k : Nat) (l : List Nat), l ∈ rowsOf most k ↔ l.length = k ∧ ∀ x ∈ l, x ≤ most
  | 0, l => by
    show l ∈ [[]] ↔ _
    rw [List.mem_singleton]
    constructor
    · rintro rfl
      exact ⟨rfl, fun _ h => nomatch h⟩
    · intro h
      exact List.length_eq_zero_iff.mp h.1
  | k + 1, l => by
    show l ∈ List.flatMap _ _ ↔ _
    rw [List.mem_flatMap]
    constructor
    · rintro ⟨x, hx, h⟩
      obtain ⟨b, hb, rfl⟩ := List.mem_map.mp h
      obtain ⟨g1, g2⟩ := (mem_rowsOf most k b).mp hb
      refine ⟨by simp [g1], fun y hy => ?_⟩
      rcases List.mem_cons.mp hy with rfl | hy
      · exact Nat.le_of_lt_succ (List.mem_range.mp hx)
      · exact g2 y hy
    · rintro ⟨h1, h2⟩
      match l, h1, h2 with
      | [], h1, _ => exact absurd h1 (by simp)
      | x :: b, h1, h2 =>
        exact ⟨x, List.mem_range.mpr (Nat.lt_succ_of_le (h2 x (List.mem_cons_self ..))), List.mem_map.mpr ⟨b, (mem_rowsOf most k b).mpr ⟨by simpa using h1, fun y hy => h2 y (List.mem_cons_of_mem _ hy)⟩, rfl⟩⟩
/-- all is well, by places -/
structure Ok (n m : Nat) (v p w : List Nat) : Prop where
  apart : ∀ i k, i < n → k < n → i ≠ k → w.getD i 0 < m → w.getD i 0 ≠ w.getD k 0
  most : ∀ i j, i < n → j ≤ m → gains m v p i j ≤ gains m v p i (w.getD i 0)
  free : ∀ j, j < m → j ∉ w → p.getD j 0 = 0
theorem wellB_iff (n m : Nat) (v p w : List Nat) : wellB n m v p w = true ↔ Ok n m v p w := by
  unfold wellB
  simp only [Bool.and_eq_true, List.all_eq_true, List.mem_range, Bool.or_eq_true, beq_iff_eq, decide_eq_true_eq, bne_iff_ne, ne_eq, List.contains_iff_mem]
  constructor
  · rintro ⟨h1, h2, h3⟩
    refine ⟨fun i k hi hk hne hl => ?_, fun i j hi hj => h2 i hi j (Nat.lt_succ_of_le hj), fun j hj hn => (h3 j hj).resolve_left hn⟩
    rcases h1 i hi k hk with (h | h) | h
    · exact absurd h hne
    · omega
    · exact h
  · rintro ⟨h1, h2, h3⟩
    refine ⟨fun i hi k hk => ?_, fun i hi j hj => h2 i j hi (Nat.le_of_lt_succ hj), fun j hj => ?_⟩
    · by_cases e : i = k
      · exact .inl (.inl e)
      · by_cases l : m ≤ w.getD i 0
        · exact .inl (.inr l)
        · exact .inr (h1 i k hi hk e (by omega))
    · by_cases e : j ∈ w
      · exact .inl e
      · exact .inr (h3 j hj e)
theorem fold_min {f : List Nat → Nat} : ∀ (l : List (List Nat)) (z : Nat), l.foldl (fun (x : Nat) (p : List Nat) => min x (f p)) z ≤ z ∧ (∀ p ∈ l, l.foldl (fun (x : Nat) (p : List Nat) => min x (f p)) z ≤ f p) ∧
    ∀ c, c ≤ z → (∀ p ∈ l, c ≤ f p) → c ≤ l.foldl (fun (x : Nat) (p : List Nat) => min x (f p)) z
  | [], z => ⟨Nat.le_refl _, fun _ h => (nomatch h), fun c h _ => h⟩
  | a :: l, z => by
    rw [List.foldl_cons]
    obtain ⟨h1, h2, h3⟩ := fold_min (f := f) l (min z (f a))
    refine ⟨by omega, fun p hp => ?_, fun c hc hp => h3 c (by have := hp a (List.mem_cons_self ..); omega) fun p hp' => hp p (List.mem_cons_of_mem _ hp')⟩
    rcases List.mem_cons.mp hp with rfl | hp
    · omega
    · exact h2 p hp
/-- the least prices, where somebody knows them -/
theorem prices_of {x y : Int} {v : List Int} {p w : List Nat} (hx : 1 ≤ x ∧ x ≤ 16) (hy : 1 ≤ y ∧ y ≤ 16) (pl : p.length = y.toNat) (p6 : ∀ z ∈ p, z ≤ 6) (wl : w.length = x.toNat) (wm : ∀ z ∈ w, z ≤ y.toNat) (ok : Ok x.toNat y.toNat (nats v) p w)
    (least : ∀ q u : List Nat, q.length = y.toNat → u.length = x.toNat → (∀ z ∈ u, z ≤ y.toNat) → Ok x.toNat y.toNat (nats v) q u → ∀ j, j < y.toNat → p.getD j 0 ≤ q.getD j 0) :
    PySn78.prices x y v = 0 :: p.map fun (z : Nat) => (z : Int) := by
  show (if (between x 1 WIDE && between y 1 WIDE) = false then [-2] else _) = _
  have hb : (between x 1 WIDE && between y 1 WIDE) = true := by
    show ((decide (1 ≤ x) && decide (x ≤ 16)) && (decide (1 ≤ y) && decide (y ≤ 16))) = true
    simp only [Bool.and_eq_true, decide_eq_true_eq]
    exact ⟨hx, hy⟩
  rw [if_neg (by rw [hb]; decide)]
  show 0 :: (List.range y.toNat).map _ = _
  refine congrArg (List.cons 0) ?_
  refine List.ext_getElem? fun j => ?_
  rw [List.getElem?_map, List.getElem?_map]
  by_cases hj : j < y.toNat
  · rw [List.getElem?_range hj, List.getElem?_eq_getElem (by omega)]
    show some _ = some _
    refine congrArg some ?_
    refine congrArg (fun (z : Nat) => (z : Int)) ?_
    have ej : p.getD j 0 = p[j]'(by omega) := by rw [List.getD_eq_getElem?_getD, List.getElem?_eq_getElem (by omega)]; rfl
    rw [← ej]
    obtain ⟨h1, h2, h3⟩ := fold_min (f := fun p => p.getD j 0) ((rowsOf 6 y.toNat).filter fun (p : List Nat) => (rowsOf y.toNat x.toNat).any fun (w : List Nat) => wellB x.toNat y.toNat (nats v) p w) 99
    refine Nat.le_antisymm (h2 p ?_) (h3 _ ?_ fun q hq => ?_)
    · refine List.mem_filter.mpr ⟨(mem_rowsOf 6 _ p).mpr ⟨pl, p6⟩, List.any_eq_true.mpr ⟨w, (mem_rowsOf _ _ w).mpr ⟨wl, wm⟩, (wellB_iff ..).mpr ok⟩⟩
    · have := p6 (p[j]'(by omega)) (List.getElem_mem ..)
      omega
    · obtain ⟨q1, q2⟩ := List.mem_filter.mp hq
      obtain ⟨u, u1, u2⟩ := List.any_eq_true.mp q2
      obtain ⟨g1, g2⟩ := (mem_rowsOf _ _ u).mp u1
      exact least q u ((mem_rowsOf _ _ q).mp q1).1 g1 g2 ((wellB_iff ..).mp u2) j hj
  · rw [List.getElem?_eq_none (by rw [List.length_range]; omega), List.getElem?_eq_none (by omega)]
    rfl
theorem prices_no {x y : Int} {v : List Int} (h : ¬ ((1 ≤ x ∧ x ≤ 16) ∧ 1 ≤ y ∧ y ≤ 16)) : PySn78.prices x y v = [-2] := by
  show (if (between x 1 WIDE && between y 1 WIDE) = false then [-2] else _) = _
  refine if_pos ?_
  rw [← Bool.not_eq_true]
  intro q
  have q : ((decide (1 ≤ x) && decide (x ≤ 16)) && (decide (1 ≤ y) && decide (y ≤ 16))) = true := q
  simp only [Bool.and_eq_true, decide_eq_true_eq] at q
  exact h q
end Bs

end
section
set_option autoImplicit false
namespace Bs
open Sn78 Sn78Neutral
/-! ### prices and matchings: what all have together is no more than prices and gains -/
abbrev sumTo (n : Nat) (f : Nat → Nat) : Nat := ((List.range n).map f).sum
theorem sum_le {f g : Nat → Nat} : ∀ {n : Nat}, (∀ i, i < n → f i ≤ g i) → sumTo n f ≤ sumTo n g
  | 0, _ => Nat.le_refl _
  | n + 1, h => by
    rw [sumTo, sum_range_succ, sumTo, sum_range_succ]
    exact Nat.add_le_add (sum_le fun i hi => h i (by omega)) (h n (by omega))
theorem sum_eq_of {f g : Nat → Nat} : ∀ {n : Nat}, (∀ i, i < n → f i ≤ g i) → sumTo n g ≤ sumTo n f → ∀ i, i < n → f i = g i
  | 0, _, _, i, hi => absurd hi (Nat.not_lt_zero _)
  | n + 1, h, e, i, hi => by
    rw [sumTo, sum_range_succ, sumTo, sum_range_succ] at e
    have h1 := sum_le (f := f) (g := g) fun i (hi : i < n) => h i (by omega)
    have h2 := h n (by omega)
    by_cases c : i = n
    · subst c
      unfold sumTo at h1
      omega
    · refine sum_eq_of (n := n) (fun i hi => h i (by omega)) ?_ i (by omega)
      show sumTo n g ≤ sumTo n f
      unfold sumTo at h1 ⊢
      omega
def put (P : Nat → Nat) (k z : Nat) : Nat → Nat := fun j => if j = k then z else P j
theorem sum_put (P : Nat → Nat) (k z : Nat) : ∀ m : Nat, k < m → sumTo m (put P k z) + P k = sumTo m P + z
  | 0, h => absurd h (Nat.not_lt_zero _)
  | m + 1, h => by
    rw [sumTo, sum_range_succ, sumTo, sum_range_succ]
    by_cases c : k = m
    · subst c
      have e : ((List.range k).map (put P k z)).sum = ((List.range k).map P).sum := sum_congr fun i hi => by
        unfold put
        rw [if_neg (by omega)]
      rw [e]
      unfold put
      rw [if_pos rfl]
      omega
    · have ih := sum_put P k z m (by omega)
      unfold sumTo at ih
      have e : put P k z m = P m := by
        unfold put
        rw [if_neg (fun q => c q.symm)]
      rw [e]
      omega
/-- a number for what is had: nothing is m -/
def had (m : Nat) (P : Nat → Nat) (j : Nat) : Nat := if j < m then P j else 0
theorem had_le {m : Nat} : ∀ {n : Nat} {u P : Nat → Nat}, (∀ i k, i < n → k < n → i ≠ k → u i < m → u i ≠ u k) → sumTo n (fun i => had m P (u i)) ≤ sumTo m P
  | 0, u, P, _ => Nat.zero_le _
  | n + 1, u, P, h => by
    rw [sumTo, sum_range_succ]
    by_cases c : u n < m
    · have ih := had_le (m := m) (n := n) (u := u) (P := put P (u n) 0) fun i k hi hk => h i k (by omega) (by omega)
      have e : ((List.range n).map fun i => had m P (u i)).sum = ((List.range n).map fun i => had m (put P (u n) 0) (u i)).sum := sum_congr fun i hi => by
        unfold had
        by_cases d : u i < m
        · rw [if_pos d, if_pos d]
          unfold put
          rw [if_neg (h i n (by omega) (by omega) (by omega) d)]
        · rw [if_neg d, if_neg d]
      have s := sum_put P (u n) 0 m c
      unfold sumTo at ih s ⊢
      rw [e]
      have e2 : had m P (u n) = P (u n) := if_pos c
      omega
    · have ih := had_le (m := m) (n := n) (u := u) (P := P) fun i k hi hk => h i k (by omega) (by omega)
      have e2 : had m P (u n) = 0 := if_neg c
      unfold sumTo at ih ⊢
      omega
theorem had_ge {m : Nat} : ∀ {n : Nat} {u P : Nat → Nat}, (∀ j, j < m → (∀ i, i < n → u i ≠ j) → P j = 0) → sumTo m P ≤ sumTo n (fun i => had m P (u i))
  | 0, u, P, h => by
    have e : sumTo m P = sumTo m (fun _ => 0) := sum_congr fun j hj => h j hj fun i hi => absurd hi (Nat.not_lt_zero _)
    rw [e]
    unfold sumTo
    rw [sum_const]
    simp
  | n + 1, u, P, h => by
    rw [sumTo, sumTo, sum_range_succ]
    by_cases c : u n < m
    · have ih := had_ge (m := m) (n := n) (u := u) (P := put P (u n) 0) fun j hj hn => by
        unfold put
        by_cases d : j = u n
        · rw [if_pos d]
        · rw [if_neg d]
          refine h j hj fun i hi => ?_
          by_cases q : i = n
          · rw [q]
            exact fun z => d z.symm
          · exact hn i (by omega)
      have l : sumTo n (fun i => had m (put P (u n) 0) (u i)) ≤ sumTo n (fun i => had m P (u i)) := sum_le fun i hi => by
        unfold had put
        split
        · split <;> omega
        · omega
      have s := sum_put P (u n) 0 m c
      have e2 : had m P (u n) = P (u n) := if_pos c
      unfold sumTo at ih s l
      omega
    · have ih := had_ge (m := m) (n := n) (u := u) (P := P) fun j hj hn => by
        refine h j hj fun i hi => ?_
        by_cases q : i = n
        · rw [q]
          omega
        · exact hn i (by omega)
      unfold sumTo at ih
      omega
/-- what i has at the prices P, at the most -/
def U (m : Nat) (g : Nat → Nat → Nat) (P : Nat → Nat) (i : Nat) : Nat := (List.range m).foldl (fun z j => if true then max z (g i j - P j) else z) 0
theorem U_ge {m : Nat} {g : Nat → Nat → Nat} {P : Nat → Nat} {i j : Nat} (h : j < m) : g i j - P j ≤ U m g P i :=
  (fold_ge (fun _ => true) (fun j => g i j - P j) (List.range m) 0).2 j (List.mem_range.mpr h) rfl
theorem U_in (m : Nat) (g : Nat → Nat → Nat) (P : Nat → Nat) (i : Nat) : U m g P i = 0 ∨ ∃ j, j < m ∧ U m g P i = g i j - P j := by
  rcases fold_in (fun _ => true) (fun j => g i j - P j) (List.range m) 0 with h | ⟨j, hj, _, h⟩
  · exact .inl h
  · exact .inr ⟨j, List.mem_range.mp hj, h⟩
theorem U_le {m : Nat} {g : Nat → Nat → Nat} {P : Nat → Nat} {i c : Nat} (h : ∀ j, j < m → g i j - P j ≤ c) : U m g P i ≤ c := by
  rcases U_in m g P i with e | ⟨j, hj, e⟩
  · omega
  · rw [e]
    exact h j hj
def F (n m : Nat) (g : Nat → Nat → Nat) (P : Nat → Nat) : Nat := sumTo m P + sumTo n (U m g P)
/-- all is well, of functions -/
structure Eq (n m : Nat) (g : Nat → Nat → Nat) (P u : Nat → Nat) : Prop where
  apart : ∀ i k, i < n → k < n → i ≠ k → u i < m → u i ≠ u k
  paid : ∀ i, i < n → u i < m → P (u i) ≤ g i (u i)
  most : ∀ i, i < n → U m g P i + had m P (u i) = had m (g i) (u i)
  free : ∀ j, j < m → (∀ i, i < n → u i ≠ j) → P j = 0
theorem weak {n m : Nat} {g : Nat → Nat → Nat} {P u : Nat → Nat} (h : ∀ i k, i < n → k < n → i ≠ k → u i < m → u i ≠ u k) : sumTo n (fun i => had m (g i) (u i)) ≤ F n m g P := by
  have h1 := had_le (P := P) h
  have h2 : sumTo n (fun i => had m (g i) (u i)) ≤ sumTo n (fun i => U m g P i + had m P (u i)) := sum_le fun i hi => by
    unfold had
    by_cases c : u i < m
    · rw [if_pos c, if_pos c]
      have := U_ge (g := g) (P := P) (i := i) c
      omega
    · rw [if_neg c]
      omega
  have h3 := sum_add (U m g P) (fun i => had m P (u i)) n
  unfold F sumTo at *
  omega
theorem Eq.tight {n m : Nat} {g : Nat → Nat → Nat} {P u : Nat → Nat} (h : Eq n m g P u) : F n m g P = sumTo n (fun i => had m (g i) (u i)) := by
  refine Nat.le_antisymm ?_ (weak h.apart)
  have h1 := had_ge (n := n) h.free
  have h2 : sumTo n (fun i => U m g P i + had m P (u i)) = sumTo n (fun i => had m (g i) (u i)) := sum_congr fun i hi => h.most i hi
  have h3 := sum_add (U m g P) (fun i => had m P (u i)) n
  unfold F sumTo at *
  omega
/-- prices at which all is well have the least F -/
theorem Eq.least {n m : Nat} {g : Nat → Nat → Nat} {P u : Nat → Nat} (h : Eq n m g P u) (Q : Nat → Nat) : F n m g P ≤ F n m g Q := by
  rw [h.tight]
  exact weak h.apart
/-- and where a matching is worth as much as F, all is well -/
theorem eq_of_tight {n m : Nat} {g : Nat → Nat → Nat} {P u : Nat → Nat} (h : ∀ i k, i < n → k < n → i ≠ k → u i < m → u i ≠ u k) (e : F n m g P ≤ sumTo n (fun i => had m (g i) (u i))) : Eq n m g P u := by
  have h1 := had_le (P := P) h
  have h3 := sum_add (U m g P) (fun i => had m P (u i)) n
  have le : ∀ i, i < n → had m (g i) (u i) ≤ U m g P i + had m P (u i) := fun i hi => by
    unfold had
    by_cases c : u i < m
    · rw [if_pos c, if_pos c]
      have := U_ge (g := g) (P := P) (i := i) c
      omega
    · rw [if_neg c]
      omega
  have h2 := sum_le le
  have most : ∀ i, i < n → had m (g i) (u i) = U m g P i + had m P (u i) := sum_eq_of le (by unfold F sumTo at *; omega)
  have tot : sumTo m P ≤ sumTo n (fun i => had m P (u i)) := by unfold F sumTo at *; omega
  refine ⟨h, fun i hi c => ?_, fun i hi => (most i hi).symm, fun j hj hn => ?_⟩
  · have := most i hi
    unfold had at this
    rw [if_pos c, if_pos c] at this
    omega
  · have q := had_le (P := put P j 0) h
    have s := sum_put P j 0 m hj
    have e2 : sumTo n (fun i => had m (put P j 0) (u i)) = sumTo n (fun i => had m P (u i)) := sum_congr fun i hi => by
      unfold had put
      split
      · rw [if_neg (hn i hi)]
      · rfl
    unfold sumTo at *
    omega
/-! ### the least of the prices with the least F -/
def Mini (n m : Nat) (g : Nat → Nat → Nat) (P : Nat → Nat) : Prop := ∀ Q, F n m g P ≤ F n m g Q
theorem least_nat {α : Type} (f : α → Nat) {S : α → Prop} (a : α) (ha : S a) : ∃ b, S b ∧ ∀ c, S c → f b ≤ f c := by
  have h : ∀ (k : Nat) (a : α), S a → f a = k → ∃ b, S b ∧ ∀ c, S c → f b ≤ f c := by
    intro k
    induction k using Nat.strongRecOn with
    | _ k ih =>
      intro a ha e
      by_cases q : ∃ c, S c ∧ f c < f a
      · obtain ⟨c, hc, hl⟩ := q
        exact ih (f c) (by omega) c hc rfl
      · refine ⟨a, ha, fun c hc => ?_⟩
        by_cases z : f a ≤ f c
        · exact z
        · exact absurd ⟨c, hc, by omega⟩ q
  exact h _ a ha rfl
theorem mini_ex (n m : Nat) (g : Nat → Nat → Nat) : ∃ P, Mini n m g P := by
  obtain ⟨P, _, h⟩ := least_nat (F n m g) (S := fun _ => True) (fun _ => 0) trivial
  exact ⟨P, fun Q => h Q trivial⟩
theorem U_mono {m : Nat} {g : Nat → Nat → Nat} {P Q : Nat → Nat} {i : Nat} (h : ∀ j, j < m → P j ≤ Q j) : U m g Q i ≤ U m g P i := U_le fun j hj => by
  have := U_ge (g := g) (P := P) (i := i) hj
  have := h j hj
  omega
theorem F_sub (n m : Nat) (g : Nat → Nat → Nat) (P Q : Nat → Nat) : F n m g (fun j => min (P j) (Q j)) + F n m g (fun j => max (P j) (Q j)) ≤ F n m g P + F n m g Q := by
  have h1 : sumTo m (fun j => min (P j) (Q j)) + sumTo m (fun j => max (P j) (Q j)) = sumTo m P + sumTo m Q := by
    unfold sumTo
    rw [← sum_add, ← sum_add]
    exact sum_congr fun j _ => by omega
  have h2 : sumTo n (U m g (fun j => min (P j) (Q j))) + sumTo n (U m g (fun j => max (P j) (Q j))) ≤ sumTo n (U m g P) + sumTo n (U m g Q) := by
    unfold sumTo
    rw [← sum_add, ← sum_add]
    refine sum_le fun i _ => ?_
    have a1 := U_mono (m := m) (g := g) (i := i) (P := P) (Q := fun j => max (P j) (Q j)) fun j _ => Nat.le_max_left ..
    have a2 := U_mono (m := m) (g := g) (i := i) (P := Q) (Q := fun j => max (P j) (Q j)) fun j _ => Nat.le_max_right ..
    rcases U_in m g (fun j => min (P j) (Q j)) i with e | ⟨j, hj, e⟩
    · omega
    · have b1 := U_ge (g := g) (P := P) (i := i) hj
      have b2 := U_ge (g := g) (P := Q) (i := i) hj
      have e : U m g (fun j => min (P j) (Q j)) i = g i j - min (P j) (Q j) := e
      rcases Nat.le_total (P j) (Q j) with c | c
      · rw [Nat.min_eq_left c] at e
        omega
      · rw [Nat.min_eq_right c] at e
        omega
  unfold F
  omega
theorem mini_least (n m : Nat) (g : Nat → Nat → Nat) : ∃ P, Mini n m g P ∧ ∀ Q, Mini n m g Q → ∀ j, j < m → P j ≤ Q j := by
  obtain ⟨P0, h0⟩ := mini_ex n m g
  obtain ⟨P, hP, hl⟩ := least_nat (fun P => sumTo m P) (S := Mini n m g) P0 h0
  refine ⟨P, hP, fun Q hQ => ?_⟩
  have hM : Mini n m g (fun j => min (P j) (Q j)) := fun R => by
    have s := F_sub n m g P Q
    have a := hP (fun j => max (P j) (Q j))
    have b := hQ R
    omega
  have q := sum_eq_of (f := fun j => min (P j) (Q j)) (g := P) (n := m) (fun j _ => Nat.min_le_left ..) (hl _ hM)
  intro j hj
  have := q j hj
  omega
/-- no price is above what anyone gives, at the least -/
theorem mini_cap {n m : Nat} {g : Nat → Nat → Nat} {P : Nat → Nat} (h : Mini n m g P) (l : ∀ Q, Mini n m g Q → ∀ j, j < m → P j ≤ Q j) {c : Nat} (hc : ∀ i j, i < n → j < m → g i j ≤ c) : ∀ j, j < m → P j ≤ c := by
  have hM : Mini n m g (fun j => min (P j) c) := fun R => by
    refine Nat.le_trans ?_ (h R)
    unfold F
    refine Nat.add_le_add (sum_le fun j _ => Nat.min_le_left ..) (sum_le fun i hi => U_le fun j hj => ?_)
    have a := U_ge (g := g) (P := P) (i := i) hj
    have b := hc i j hi hj
    show g i j - min (P j) c ≤ _
    omega
  intro j hj
  have := l _ hM j hj
  omega
end Bs

end
section
set_option autoImplicit false
namespace Bs
open Sn78 Sn78Neutral
/-! ### the specification's prices are the least ones with the least F -/
theorem ok_eq {n m : Nat} {v q u : List Nat} (ul : u.length = n) (um : ∀ z ∈ u, z ≤ m) (h : Ok n m v q u) : Eq n m (gives m v) (fun j => q.getD j 0) (fun i => u.getD i 0) := by
  have um' : ∀ i, i < n → u.getD i 0 ≤ m := fun i hi => by
    rw [List.getD_eq_getElem?_getD, List.getElem?_eq_getElem (by omega)]
    exact um _ (List.getElem_mem ..)
  have zero : ∀ i, i < n → 0 ≤ gains m v q i (u.getD i 0) := fun i hi => by
    have := h.most i m hi (Nat.le_refl _)
    have e : gains m v q i m = 0 := if_neg (by omega)
    rw [e] at this
    exact this
  have paid : ∀ i, i < n → u.getD i 0 < m → q.getD (u.getD i 0) 0 ≤ gives m v i (u.getD i 0) := fun i hi l => by
    have := zero i hi
    unfold gains at this
    rw [if_pos l] at this
    omega
  refine ⟨h.apart, paid, fun i hi => ?_, fun j hj hn => h.free j hj fun hm => ?_⟩
  · by_cases l : u.getD i 0 < m
    · have p := paid i hi l
      have le : U m (gives m v) (fun j => q.getD j 0) i ≤ gives m v i (u.getD i 0) - q.getD (u.getD i 0) 0 := U_le fun j hj => by
        have := h.most i j hi (by omega)
        unfold gains at this
        rw [if_pos hj, if_pos l] at this
        show gives m v i j - q.getD j 0 ≤ _
        omega
      have ge := U_ge (g := gives m v) (P := fun j => q.getD j 0) (i := i) l
      have ge : gives m v i (u.getD i 0) - q.getD (u.getD i 0) 0 ≤ _ := ge
      unfold had
      rw [if_pos l, if_pos l]
      show _ + q.getD (u.getD i 0) 0 = gives m v i (u.getD i 0)
      omega
    · have le : U m (gives m v) (fun j => q.getD j 0) i ≤ 0 := U_le fun j hj => by
        have := h.most i j hi (by omega)
        unfold gains at this
        rw [if_pos hj, if_neg l] at this
        show gives m v i j - q.getD j 0 ≤ _
        omega
      unfold had
      rw [if_neg l, if_neg l]
      omega
  · obtain ⟨i, hi, e⟩ := List.getElem_of_mem hm
    refine hn i (by omega) ?_
    rw [List.getD_eq_getElem?_getD, List.getElem?_eq_getElem hi, e]
    rfl
theorem get_map {f : Nat → Nat} {n i : Nat} (h : i < n) : ((List.range n).map f).getD i 0 = f i := by
  rw [List.getD_eq_getElem?_getD, List.getElem?_map, List.getElem?_range h]
  rfl
theorem eq_ok {n m : Nat} {v : List Nat} {P u : Nat → Nat} (h : Eq n m (gives m v) P u) : Ok n m v ((List.range m).map P) ((List.range n).map u) := by
  have gn : ∀ i j, j < m → gains m v ((List.range m).map P) i j = (gives m v i j : Int) - (P j : Int) := fun i j hj => by
    unfold gains
    rw [if_pos hj, get_map hj]
  refine ⟨fun i k hi hk hne l => ?_, fun i j hi hj => ?_, fun j hj hn => ?_⟩
  · rw [get_map hi] at l ⊢
    rw [get_map hk]
    exact h.apart i k hi hk hne l
  · rw [get_map hi]
    have q := h.most i hi
    have ge : ∀ j, j < m → gives m v i j - P j ≤ U m (gives m v) P i := fun j hj => U_ge hj
    by_cases l : u i < m
    · rw [gn i _ l]
      have p := h.paid i hi l
      unfold had at q
      rw [if_pos l, if_pos l] at q
      by_cases c : j < m
      · rw [gn i j c]
        have := ge j c
        omega
      · have e : gains m v ((List.range m).map P) i j = 0 := if_neg c
        rw [e]
        omega
    · have e : gains m v ((List.range m).map P) i (u i) = 0 := if_neg l
      rw [e]
      unfold had at q
      rw [if_neg l, if_neg l] at q
      by_cases c : j < m
      · rw [gn i j c]
        have := ge j c
        omega
      · have e : gains m v ((List.range m).map P) i j = 0 := if_neg c
        rw [e]
        omega
  · rw [get_map hj]
    refine h.free j hj fun i hi e => hn ?_
    exact List.mem_map.mpr ⟨i, List.mem_range.mpr hi, e⟩
/-- the least prices, where somebody having something is known -/
theorem prices_eq {x y : Int} {v : List Int} (hx : 1 ≤ x ∧ x ≤ 16) (hy : 1 ≤ y ∧ y ≤ 16) (h6 : ∀ z ∈ v, z ≤ 6) {P u : Nat → Nat} (um : ∀ i, i < x.toNat → u i ≤ y.toNat) (e : Eq x.toNat y.toNat (gives y.toNat (nats v)) P u) (hl : ∀ Q, Mini x.toNat y.toNat (gives y.toNat (nats v)) Q → ∀ j, j < y.toNat → P j ≤ Q j) :
    PySn78.prices x y v = 0 :: (List.range y.toNat).map fun j => (P j : Int) := by
  have h : Mini x.toNat y.toNat (gives y.toNat (nats v)) P := e.least
  have cap := mini_cap h hl (c := 6) fun i j _ _ => by
    unfold gives nats
    rw [List.getD_eq_getElem?_getD, List.getElem?_map]
    cases q : v[i * y.toNat + j]? with
    | none => exact Nat.zero_le _
    | some z =>
      have := h6 z (List.mem_of_getElem? q)
      show z.toNat ≤ 6
      omega
  have r := prices_of (x := x) (y := y) (v := v) (p := (List.range y.toNat).map P) (w := (List.range x.toNat).map u) hx hy (by rw [List.length_map, List.length_range]) (fun z hz => ?_) (by rw [List.length_map, List.length_range]) (fun z hz => ?_) (eq_ok e) ?_
  · rw [r, List.map_map]
    rfl
  · obtain ⟨j, hj, rfl⟩ := List.mem_map.mp hz
    exact cap j (List.mem_range.mp hj)
  · obtain ⟨i, hi, rfl⟩ := List.mem_map.mp hz
    exact um i (List.mem_range.mp hi)
  · intro q u2 ql u2l u2m ok j hj
    rw [get_map hj]
    exact hl _ (ok_eq u2l u2m ok).least j hj
theorem asked1_prices {x y : Int} {v : List Int} (h : asked1 [[2, x, y], v] = true) : (∀ z ∈ v, 0 ≤ z ∧ z ≤ 6) ∧ ((1 ≤ x ∧ x ≤ 16) ∧ 1 ≤ y ∧ y ≤ 16 → x ≤ 3 ∧ y ≤ 3 ∧ v.length = x.toNat * y.toNat) := by
  have h : (whole32 x && (whole32 y && ((v.all fun (z : Int) => decide (0 ≤ z) && decide (z ≤ 6)) && (things v x y && pairs x y 16 16)))) = true := h
  simp only [Bool.and_eq_true] at h
  obtain ⟨_, _, h1, h2, h3⟩ := h
  refine ⟨fun z hz => ?_, fun hf => ?_⟩
  · have q := List.all_eq_true.mp h1 z hz
    simp only [Bool.and_eq_true, decide_eq_true_eq] at q
    exact q
  · unfold things at h2
    have q := of_decide_eq_true h2
    rw [if_pos ⟨hf.1.1, hf.1.2, hf.2.1, hf.2.2⟩] at q
    unfold pairs small at h3
    simp only [Bool.or_eq_true, Bool.and_eq_true, decide_eq_true_eq] at h3
    omega
theorem asked_prices {x y : Int} {v : List Int} (h : PySn78.prices_asked x y v = true) : (∀ z ∈ v, 0 ≤ z ∧ z ≤ 6) ∧ ((1 ≤ x ∧ x ≤ 16) ∧ 1 ≤ y ∧ y ≤ 16 → x ≤ 3 ∧ y ≤ 3 ∧ v.length = x.toNat * y.toNat) := by
  unfold PySn78.prices_asked asked at h
  simp only [Bool.and_eq_true, List.all_cons] at h
  exact asked1_prices h.2.2.1.1
end Bs

end
section
set_option autoImplicit false
namespace Bq
/-! ### chains of moves: the program's gains and lefts as functions -/
abbrev Gn := Nat → Int
abbrev Lf := Nat → Option Nat
def put {α : Type} (f : Nat → α) (k : Nat) (z : α) : Nat → α := fun j => if j = k then z else f j
theorem put_same {α : Type} (f : Nat → α) (k : Nat) (z : α) : put f k z k = z := if_pos rfl
theorem put_ne {α : Type} (f : Nat → α) {k j : Nat} (z : α) (h : j ≠ k) : put f k z j = f j := if_neg h
/-- one other thing -/
def mv (w : Gn) (t : Nat) (s : Gn × Lf) (o : Nat) : Gn × Lf := if s.1 o < s.1 t - w t + w o then (put s.1 o (s.1 t - w t + w o), put s.2 o (some t)) else s
def moveOn (w : Gn) (t k : Nat) (s : Gn × Lf) : Gn × Lf := (List.range k).foldl (mv w t) s
def turn (B : Nat → Gn) (Hd : Lf) (M : Nat) (s : Gn × Lf) (t : Nat) : Gn × Lf := match Hd t with
  | none => s
  | some i => moveOn (B i) t M s
def roundTo (B : Nat → Gn) (Hd : Lf) (M k : Nat) (s : Gn × Lf) : Gn × Lf := (List.range k).foldl (turn B Hd M) s
def chains (B : Nat → Gn) (Hd : Lf) (M : Nat) (S : Gn) (r : Nat) : Gn × Lf := (List.range r).foldl (fun s _ => roundTo B Hd M M s) (S, fun _ => none)
theorem fold_succ {α : Type} (f : α → Nat → α) (s : α) (k : Nat) : (List.range (k + 1)).foldl f s = f ((List.range k).foldl f s) k := by
  rw [List.range_succ, List.foldl_append]
  rfl
theorem moveOn_succ (w : Gn) (t k : Nat) (s : Gn × Lf) : moveOn w t (k + 1) s = mv w t (moveOn w t k s) k := fold_succ _ _ _
theorem round_succ (B : Nat → Gn) (Hd : Lf) (M k : Nat) (s : Gn × Lf) : roundTo B Hd M (k + 1) s = turn B Hd M (roundTo B Hd M k s) k := fold_succ _ _ _
theorem chains_succ (B : Nat → Gn) (Hd : Lf) (M : Nat) (S : Gn) (r : Nat) : chains B Hd M S (r + 1) = roundTo B Hd M M (chains B Hd M S r) := fold_succ _ _ _

/-- the walk from a thing to where its chain begins -/
inductive Ch (L : Lf) : Nat → List Nat → Prop where
  | one {x : Nat} : L x = none → Ch L x [x]
  | cons {x t : Nat} {l : List Nat} : L x = some t → Ch L t l → Ch L x (x :: l)
theorem Ch.head {L : Lf} {x : Nat} {l : List Nat} (h : Ch L x l) : x ∈ l := by
  cases h <;> exact List.mem_cons_self ..
theorem Ch.put {L : Lf} {o t : Nat} {x : Nat} {l : List Nat} (h : Ch L x l) (n : o ∉ l) : Ch (Bq.put L o (some t)) x l := by
  induction h with
  | one e => exact .one (by rw [put_ne _ _ (fun q => n (by rw [q]; exact List.mem_cons_self ..))]; exact e)
  | cons e _ ih => exact .cons (by rw [put_ne _ _ (fun q => n (by rw [q]; exact List.mem_cons_self ..))]; exact e) (ih fun q => n (List.mem_cons_of_mem _ q))
theorem Ch.fresh {L : Lf} {o t : Nat} {lt : List Nat} (ht : Ch L t lt) (n : o ∉ lt) {x : Nat} {l : List Nat} (h : Ch L x l) : ∃ l', Ch (Bq.put L o (some t)) x l' := by
  induction h with
  | @one x e =>
    by_cases q : x = o
    · subst q
      exact ⟨_, .cons (put_same ..) (ht.put n)⟩
    · exact ⟨_, .one (by rw [put_ne _ _ q]; exact e)⟩
  | @cons x y l e _ ih =>
    by_cases q : x = o
    · subst q
      exact ⟨_, .cons (put_same ..) (ht.put n)⟩
    · obtain ⟨l', h'⟩ := ih
      exact ⟨_, .cons (by rw [put_ne _ _ q]; exact e) h'⟩
theorem Ch.uniq {L : Lf} {x : Nat} {l l' : List Nat} (h : Ch L x l) (h' : Ch L x l') : l = l' := by
  induction h generalizing l' with
  | one e =>
    cases h' with
    | one _ => rfl
    | cons e2 _ => rw [e] at e2; cases e2
  | cons e _ ih =>
    cases h' with
    | one e2 => rw [e] at e2; cases e2
    | cons e2 h2 =>
      rw [e] at e2
      cases e2
      rw [ih h2]
theorem Ch.sub {L : Lf} {x : Nat} {l : List Nat} (h : Ch L x l) {y : Nat} (hy : y ∈ l) : ∃ l', Ch L y l' ∧ l'.length ≤ l.length := by
  induction h with
  | one e =>
    rw [List.mem_singleton.mp hy]
    exact ⟨_, .one e, Nat.le_refl _⟩
  | cons e h ih =>
    rcases List.mem_cons.mp hy with rfl | hy
    · exact ⟨_, .cons e h, Nat.le_refl _⟩
    · obtain ⟨l', h1, h2⟩ := ih hy
      exact ⟨l', h1, Nat.le_succ_of_le h2⟩
theorem Ch.nodup {L : Lf} {x : Nat} {l : List Nat} (h : Ch L x l) : l.Nodup := by
  induction h with
  | one _ => exact List.nodup_cons.mpr ⟨List.not_mem_nil, List.nodup_nil⟩
  | @cons x t l e h ih =>
    refine List.nodup_cons.mpr ⟨fun q => ?_, ih⟩
    obtain ⟨l', h1, h2⟩ := h.sub q
    have := h1.uniq (.cons e h)
    rw [this] at h2
    exact absurd h2 (by simp)
theorem Ch.next {L : Lf} {x : Nat} {l : List Nat} (h : Ch L x l) {y t : Nat} (hy : y ∈ l) (e : L y = some t) : t ∈ l.tail := by
  induction h with
  | one e2 =>
    rw [List.mem_singleton.mp hy, e2] at e
    cases e
  | cons e2 h ih =>
    rcases List.mem_cons.mp hy with rfl | hy
    · rw [e2] at e
      cases e
      exact h.head
    · exact List.mem_of_mem_tail (ih hy)
theorem Ch.prev {L : Lf} {x : Nat} {l : List Nat} (h : Ch L x l) {t : Nat} (ht : t ∈ l) : t = x ∨ ∃ y, y ∈ l ∧ L y = some t := by
  induction h with
  | one _ => exact .inl (List.mem_singleton.mp ht)
  | @cons x u l e h ih =>
    rcases List.mem_cons.mp ht with rfl | ht
    · exact .inl rfl
    · rcases ih ht with rfl | ⟨y, h1, h2⟩
      · exact .inr ⟨x, List.mem_cons_self .., e⟩
      · exact .inr ⟨y, List.mem_cons_of_mem _ h1, h2⟩
theorem Ch.last {L : Lf} {x : Nat} {l : List Nat} (h : Ch L x l) : ∃ y, y ∈ l ∧ L y = none := by
  induction h with
  | one e => exact ⟨_, List.mem_cons_self .., e⟩
  | cons _ _ ih =>
    obtain ⟨y, h1, h2⟩ := ih
    exact ⟨y, List.mem_cons_of_mem _ h1, h2⟩
theorem Ch.inj {L : Lf} {x : Nat} {l : List Nat} (h : Ch L x l) {y z : Nat} (hy : y ∈ l) (hz : z ∈ l) (e : L y = L z) : y = z := by
  have nd := h.nodup
  induction h with
  | one _ => rw [List.mem_singleton.mp hy, List.mem_singleton.mp hz]
  | @cons x t l e1 h ih =>
    have key : ∀ w, w ∈ l → L w ≠ some t := fun w hw q => by
      have h1 := h.next hw q
      have n2 := (List.nodup_cons.mp nd).2
      cases h with
      | one _ => exact absurd h1 (by simp)
      | cons _ _ => exact (List.nodup_cons.mp n2).1 h1
    rcases List.mem_cons.mp hy with e2 | hy <;> rcases List.mem_cons.mp hz with e3 | hz
    · rw [e2, e3]
    · rw [e2] at e
      exact absurd (e.symm.trans e1) (key z hz)
    · rw [e3] at e
      exact absurd (e.trans e1) (key y hy)
    · exact ih hy hz (List.nodup_cons.mp nd).2

/-! ### what holds while chains are sought -/
section
variable {B : Nat → Gn} {Hd : Lf} {M : Nat} {S p : Gn}
/-- prices at which those who hold would have nothing else rather -/
def Happy (B : Nat → Gn) (Hd : Lf) (M : Nat) (p : Gn) : Prop := ∀ t i, t < M → Hd t = some i → ∀ u, u < M → B i u - B i t ≤ p u - p t
structure InvS (B : Nat → Gn) (Hd : Lf) (M : Nat) (S : Gn) (s : Gn × Lf) : Prop where
  ge : ∀ u, u < M → S u ≤ s.1 u
  non : ∀ u, u < M → s.2 u = none → s.1 u = S u
  par : ∀ u t, u < M → s.2 u = some t → t < M ∧ ∃ i, Hd t = some i ∧ s.1 u ≤ s.1 t + (B i u - B i t)
  cha : ∀ u, u < M → ∃ l, Ch s.2 u l
  le : ∀ V : Gn, (∀ u, u < M → S u ≤ V u) → Happy B Hd M V → ∀ u, u < M → s.1 u ≤ V u
theorem InvS.start : InvS B Hd M S (S, fun _ => none) where
  ge := fun _ _ => Int.le_refl _
  non := fun _ _ _ => rfl
  par := fun _ _ _ h => nomatch h
  cha := fun u _ => ⟨[u], .one rfl⟩
  le := fun _ h _ u hu => h u hu
/-- along a chain what stands above the prices doesn't fall -/
theorem InvS.rise {s : Gn × Lf} (I : InvS B Hd M S s) (hp : Happy B Hd M p) {x : Nat} {l : List Nat} (h : Ch s.2 x l) (hx : x < M) : ∀ z ∈ l, z < M ∧ s.1 x - p x ≤ s.1 z - p z := by
  induction h with
  | one _ =>
    intro z hz
    rw [List.mem_singleton.mp hz]
    exact ⟨hx, Int.le_refl _⟩
  | cons e _ ih =>
    intro z hz
    rcases List.mem_cons.mp hz with rfl | hz
    · exact ⟨hx, Int.le_refl _⟩
    · obtain ⟨ht, i, hi, q⟩ := I.par _ _ hx e
      obtain ⟨h1, h2⟩ := ih ht z hz
      have := hp _ i ht hi _ hx
      exact ⟨h1, by omega⟩
theorem mv_inv {s : Gn × Lf} {t i o : Nat} (hp : Happy B Hd M p) (ht : t < M) (hi : Hd t = some i) (ho : o < M) (I : InvS B Hd M S s) : InvS B Hd M S (mv (B i) t s o) := by
  unfold mv
  split
  · rename_i c
    have hto : t ≠ o := fun q => by subst q; omega
    have up : ∀ u, s.1 u ≤ put s.1 o (s.1 t - B i t + B i o) u := fun u => by
      by_cases q : u = o
      · subst q
        rw [put_same]
        omega
      · rw [put_ne _ _ q]
        exact Int.le_refl _
    refine ⟨fun u hu => Int.le_trans (I.ge u hu) (up u), fun u hu e => ?_, fun u t' hu e => ?_, fun u hu => ?_, fun V h1 h2 u hu => ?_⟩
    · by_cases q : u = o
      · subst q
        have e : put s.2 u (some t) u = none := e
        rw [put_same] at e
        cases e
      · have e : put s.2 o (some t) u = none := e
        rw [put_ne _ _ q] at e
        show put s.1 o _ u = _
        rw [put_ne _ _ q]
        exact I.non u hu e
    · have e : put s.2 o (some t) u = some t' := e
      show t' < M ∧ ∃ i', Hd t' = some i' ∧ put s.1 o (s.1 t - B i t + B i o) u ≤ put s.1 o (s.1 t - B i t + B i o) t' + (B i' u - B i' t')
      by_cases q : u = o
      · subst q
        rw [put_same] at e
        cases e
        refine ⟨ht, i, hi, ?_⟩
        rw [put_same, put_ne _ _ hto]
        omega
      · rw [put_ne _ _ q] at e
        obtain ⟨h1, i', h2, h3⟩ := I.par u t' hu e
        refine ⟨h1, i', h2, ?_⟩
        rw [put_ne _ _ q]
        have := up t'
        omega
    · obtain ⟨lt, hlt⟩ := I.cha t ht
      obtain ⟨l, hl⟩ := I.cha u hu
      refine hlt.fresh (fun q => ?_) hl
      have h1 := (I.rise hp hlt ht o q).2
      have h2 := hp t i ht hi o ho
      omega
    · have h3 := I.le V h1 h2
      show put s.1 o (s.1 t - B i t + B i o) u ≤ V u
      by_cases q : u = o
      · subst q
        rw [put_same]
        have := h2 t i ht hi u hu
        have := h3 t ht
        omega
      · rw [put_ne _ _ q]
        exact h3 u hu
  · exact I
theorem moveOn_inv {s : Gn × Lf} {t i : Nat} (hp : Happy B Hd M p) (ht : t < M) (hi : Hd t = some i) (I : InvS B Hd M S s) : ∀ k, k ≤ M → InvS B Hd M S (moveOn (B i) t k s)
  | 0, _ => I
  | k + 1, hk => by
    rw [moveOn_succ]
    exact mv_inv hp ht hi (by omega) (moveOn_inv hp ht hi I k (by omega))
theorem turn_inv {s : Gn × Lf} {t : Nat} (hp : Happy B Hd M p) (ht : t < M) (I : InvS B Hd M S s) : InvS B Hd M S (turn B Hd M s t) := by
  unfold turn
  split
  · exact I
  · rename_i i hi
    exact moveOn_inv hp ht hi I M (Nat.le_refl _)
theorem round_inv {s : Gn × Lf} (hp : Happy B Hd M p) (I : InvS B Hd M S s) : ∀ k, k ≤ M → InvS B Hd M S (roundTo B Hd M k s)
  | 0, _ => I
  | k + 1, hk => by
    rw [round_succ]
    exact turn_inv hp (by omega) (round_inv hp I k (by omega))
theorem chains_inv (hp : Happy B Hd M p) : ∀ r, InvS B Hd M S (chains B Hd M S r)
  | 0 => .start
  | r + 1 => by
    rw [chains_succ]
    exact round_inv hp (chains_inv hp r) M (Nat.le_refl _)

/-! ### what a round gains at least -/
theorem mv_up (w : Gn) (t : Nat) (s : Gn × Lf) (o : Nat) : (∀ u, s.1 u ≤ (mv w t s o).1 u) ∧ (mv w t s o).1 t = s.1 t ∧ s.1 t - w t + w o ≤ (mv w t s o).1 o := by
  unfold mv
  split
  · rename_i c
    have hto : t ≠ o := fun q => by subst q; omega
    refine ⟨fun u => ?_, put_ne _ _ hto, ?_⟩
    · show s.1 u ≤ put s.1 o _ u
      by_cases q : u = o
      · subst q
        rw [put_same]
        omega
      · rw [put_ne _ _ q]
        exact Int.le_refl _
    · show _ ≤ put s.1 o _ o
      rw [put_same]
      exact Int.le_refl _
  · exact ⟨fun _ => Int.le_refl _, rfl, by omega⟩
theorem moveOn_up (w : Gn) (t : Nat) (s : Gn × Lf) : ∀ k, (∀ u, s.1 u ≤ (moveOn w t k s).1 u) ∧ (moveOn w t k s).1 t = s.1 t ∧ ∀ o, o < k → s.1 t - w t + w o ≤ (moveOn w t k s).1 o
  | 0 => ⟨fun _ => Int.le_refl _, rfl, fun _ h => absurd h (Nat.not_lt_zero _)⟩
  | k + 1 => by
    obtain ⟨h1, h2, h3⟩ := moveOn_up w t s k
    rw [moveOn_succ]
    obtain ⟨g1, g2, g3⟩ := mv_up w t (moveOn w t k s) k
    refine ⟨fun u => Int.le_trans (h1 u) (g1 u), g2.trans h2, fun o ho => ?_⟩
    by_cases q : o = k
    · subst q
      rw [h2] at g3
      exact g3
    · exact Int.le_trans (h3 o (by omega)) (g1 o)
theorem turn_up (s : Gn × Lf) (t : Nat) : (∀ u, s.1 u ≤ (turn B Hd M s t).1 u) ∧ ∀ i, Hd t = some i → ∀ o, o < M → s.1 t - B i t + B i o ≤ (turn B Hd M s t).1 o := by
  unfold turn
  split
  · rename_i q
    exact ⟨fun _ => Int.le_refl _, fun i h => by rw [q] at h; cases h⟩
  · rename_i i q
    obtain ⟨h1, _, h3⟩ := moveOn_up (B i) t s M
    refine ⟨h1, fun j h => ?_⟩
    rw [q] at h
    cases h
    exact h3
theorem round_up (s : Gn × Lf) : ∀ k, (∀ u, s.1 u ≤ (roundTo B Hd M k s).1 u) ∧ ∀ t i, t < k → Hd t = some i → ∀ o, o < M → s.1 t - B i t + B i o ≤ (roundTo B Hd M k s).1 o
  | 0 => ⟨fun _ => Int.le_refl _, fun _ _ h => absurd h (Nat.not_lt_zero _)⟩
  | k + 1 => by
    obtain ⟨h1, h2⟩ := round_up s k
    rw [round_succ]
    obtain ⟨g1, g2⟩ := turn_up (B := B) (Hd := Hd) (M := M) (roundTo B Hd M k s) k
    refine ⟨fun u => Int.le_trans (h1 u) (g1 u), fun t i ht hi o ho => ?_⟩
    by_cases q : t = k
    · subst q
      have := g2 i hi o ho
      have := h1 t
      omega
    · exact Int.le_trans (h2 t i (by omega) hi o ho) (g1 o)

/-! ### the best by steps, all at once -/
def best1 (B : Nat → Gn) (Hd : Lf) (E : Gn) (u : Nat) (z : Int) (t : Nat) : Int := match Hd t with
  | none => z
  | some i => max z (E t - B i t + B i u)
def E (B : Nat → Gn) (Hd : Lf) (M : Nat) (S : Gn) : Nat → Gn
  | 0 => S
  | r + 1 => fun u => (List.range M).foldl (best1 B Hd (E B Hd M S r) u) (E B Hd M S r u)
theorem best1_up {G : Gn} {u : Nat} {z : Int} {t : Nat} : z ≤ best1 B Hd G u z t ∧ (∀ i, Hd t = some i → G t - B i t + B i u ≤ best1 B Hd G u z t) ∧ (best1 B Hd G u z t = z ∨ ∃ i, Hd t = some i ∧ best1 B Hd G u z t = G t - B i t + B i u) := by
  unfold best1
  split
  · rename_i q
    exact ⟨Int.le_refl _, fun i h => (by rw [q] at h; cases h), .inl rfl⟩
  · rename_i i q
    refine ⟨Int.le_max_left .., fun j h => ?_, ?_⟩
    · rw [q] at h
      cases h
      exact Int.le_max_right ..
    · by_cases c : G t - B i t + B i u ≤ z
      · exact .inl (Int.max_eq_left c)
      · exact .inr ⟨i, q, Int.max_eq_right (by omega)⟩
theorem best_up {G : Gn} {u : Nat} {z : Int} : ∀ k, z ≤ (List.range k).foldl (best1 B Hd G u) z ∧ (∀ t i, t < k → Hd t = some i → G t - B i t + B i u ≤ (List.range k).foldl (best1 B Hd G u) z) ∧
    ((List.range k).foldl (best1 B Hd G u) z = z ∨ ∃ t i, t < k ∧ Hd t = some i ∧ (List.range k).foldl (best1 B Hd G u) z = G t - B i t + B i u)
  | 0 => ⟨Int.le_refl _, fun _ _ h => absurd h (Nat.not_lt_zero _), .inl rfl⟩
  | k + 1 => by
    obtain ⟨h1, h2, h3⟩ := best_up (G := G) (u := u) (z := z) k
    rw [fold_succ]
    obtain ⟨g1, g2, g3⟩ := best1_up (B := B) (Hd := Hd) (G := G) (u := u) (z := (List.range k).foldl (best1 B Hd G u) z) (t := k)
    refine ⟨Int.le_trans h1 g1, fun t i ht hi => ?_, ?_⟩
    · by_cases q : t = k
      · subst q
        exact g2 i hi
      · exact Int.le_trans (h2 t i (by omega) hi) g1
    · rcases g3 with e | ⟨i, hi, e⟩
      · rcases h3 with e2 | ⟨t, i, ht, hi, e2⟩
        · exact .inl (e.trans e2)
        · exact .inr ⟨t, i, by omega, hi, e.trans e2⟩
      · exact .inr ⟨k, i, by omega, hi, e⟩
theorem E_up (r u : Nat) : E B Hd M S r u ≤ E B Hd M S (r + 1) u := (best_up M).1
theorem E_step (r : Nat) {t i u : Nat} (ht : t < M) (hi : Hd t = some i) : E B Hd M S r t - B i t + B i u ≤ E B Hd M S (r + 1) u := (best_up M).2.1 t i ht hi
theorem E_in (r u : Nat) : E B Hd M S (r + 1) u = E B Hd M S r u ∨ ∃ t i, t < M ∧ Hd t = some i ∧ E B Hd M S (r + 1) u = E B Hd M S r t - B i t + B i u := (best_up M).2.2
/-- what's still gained at the step r + 1 came by r + 1 holders, none twice -/
theorem E_chain (hp : Happy B Hd M p) : ∀ (r u : Nat), u < M → E B Hd M S r u < E B Hd M S (r + 1) u → ∃ l : List Nat, l.Nodup ∧ l.length = r + 1 ∧ ∀ x ∈ l, x < M ∧ (∃ i, Hd x = some i) ∧ E B Hd M S (r + 1) u - p u ≤ E B Hd M S r x - p x := by
  intro r
  induction r with
  | zero =>
    intro u hu h
    rcases E_in (B := B) (Hd := Hd) (M := M) (S := S) 0 u with e | ⟨t, i, ht, hi, e⟩
    · omega
    · refine ⟨[t], List.nodup_cons.mpr ⟨List.not_mem_nil, List.nodup_nil⟩, rfl, fun x hx => ?_⟩
      rw [List.mem_singleton.mp hx]
      have := hp t i ht hi u hu
      exact ⟨ht, ⟨i, hi⟩, by omega⟩
  | succ r ih =>
    intro u hu h
    rcases E_in (B := B) (Hd := Hd) (M := M) (S := S) (r + 1) u with e | ⟨t, i, ht, hi, e⟩
    · omega
    · have q := E_step (B := B) (S := S) r (u := u) ht hi
      obtain ⟨l, h1, h2, h3⟩ := ih t ht (by omega)
      have hpt := hp t i ht hi u hu
      refine ⟨t :: l, List.nodup_cons.mpr ⟨fun m => ?_, h1⟩, by rw [List.length_cons, h2], fun x hx => ?_⟩
      · have := (h3 t m).2.2
        have := E_up (B := B) (Hd := Hd) (M := M) (S := S) r t
        omega
      · rcases List.mem_cons.mp hx with rfl | hx
        · exact ⟨ht, ⟨i, hi⟩, by omega⟩
        · obtain ⟨g1, g2, g3⟩ := h3 x hx
          have := E_up (B := B) (Hd := Hd) (M := M) (S := S) r x
          exact ⟨g1, g2, by omega⟩
theorem few : ∀ (k : Nat) (l : List Nat), l.Nodup → (∀ x ∈ l, x < k) → l.length ≤ k
  | 0, l, _, h => by
    cases l with
    | nil => exact Nat.le_refl _
    | cons a _ => exact absurd (h a (List.mem_cons_self ..)) (Nat.not_lt_zero _)
  | k + 1, l, nd, h => by
    have q := few k (l.erase k) (nd.erase k) fun x hx => by
      have h1 := (List.Nodup.mem_erase_iff nd).mp hx
      have := h x h1.2
      omega
    have := List.length_erase_le (a := k) (l := l)
    have : l.length ≤ (l.erase k).length + 1 := by
      rw [List.length_erase]
      split <;> omega
    omega
theorem nodup_map {α β : Type} {f : α → β} : ∀ {l : List α}, l.Nodup → (∀ x ∈ l, ∀ y ∈ l, f x = f y → x = y) → (l.map f).Nodup
  | [], _, _ => List.nodup_nil
  | a :: l, nd, h => by
    obtain ⟨h1, h2⟩ := List.nodup_cons.mp nd
    refine List.nodup_cons.mpr ⟨fun m => ?_, nodup_map h2 fun x hx y hy => h x (List.mem_cons_of_mem _ hx) y (List.mem_cons_of_mem _ hy)⟩
    obtain ⟨y, hy, e⟩ := List.mem_map.mp m
    exact h1 (h a (List.mem_cons_self ..) y (List.mem_cons_of_mem _ hy) e.symm ▸ hy)
/-- who holds what: the bidders below j have a thing each -/
structure Asg (Hd : Lf) (M j : Nat) : Prop where
  lt : ∀ t i, t < M → Hd t = some i → i < j
  inj : ∀ t t' i, t < M → t' < M → Hd t = some i → Hd t' = some i → t = t'
  sur : ∀ i, i < j → ∃ t, t < M ∧ Hd t = some i
theorem Asg.few {j : Nat} (a : Asg Hd M j) {l : List Nat} (nd : l.Nodup) (h : ∀ x ∈ l, x < M ∧ ∃ i, Hd x = some i) : l.length ≤ j := by
  have q := Bq.few j (l.map fun x => (Hd x).getD 0) (nodup_map nd fun x hx y hy e => ?_) fun z hz => ?_
  · rw [List.length_map] at q
    exact q
  · obtain ⟨h1, i, h2⟩ := h x hx
    obtain ⟨h3, k, h4⟩ := h y hy
    rw [h2, h4] at e
    have e : i = k := e
    subst e
    exact a.inj x y i h1 h3 h2 h4
  · obtain ⟨x, hx, rfl⟩ := List.mem_map.mp hz
    obtain ⟨h1, i, h2⟩ := h x hx
    rw [h2]
    exact a.lt x i h1 h2
theorem Asg.left {j : Nat} (a : Asg Hd M j) (h : j < M) : ∃ t, t < M ∧ Hd t = none := by
  by_cases q : ∃ t, t < M ∧ Hd t = none
  · exact q
  · have := a.few List.nodup_range (l := List.range M) fun x hx => ⟨List.mem_range.mp hx, by
      cases e : Hd x with
      | some i => exact ⟨i, rfl⟩
      | none => exact absurd ⟨x, List.mem_range.mp hx, e⟩ q⟩
    rw [List.length_range] at this
    omega
theorem E_rest {j r : Nat} (a : Asg Hd M j) (hp : Happy B Hd M p) (hr : j ≤ r) : Happy B Hd M (E B Hd M S r) := fun t i ht hi u hu => by
  have h1 := E_step (B := B) (S := S) r (u := u) ht hi
  have h2 : E B Hd M S (r + 1) u ≤ E B Hd M S r u := by
    by_cases c : E B Hd M S (r + 1) u ≤ E B Hd M S r u
    · exact c
    · obtain ⟨l, g1, g2, g3⟩ := E_chain (S := S) hp r u hu (by omega)
      have := a.few g1 fun x hx => ⟨(g3 x hx).1, (g3 x hx).2.1⟩
      omega
  omega
theorem E_le_chains : ∀ r u, u < M → E B Hd M S r u ≤ (chains B Hd M S r).1 u
  | 0, _, _ => Int.le_refl _
  | r + 1, u, hu => by
    have ih : ∀ u, u < M → _ := fun u hu => E_le_chains r u hu
    rw [chains_succ]
    obtain ⟨h1, h2⟩ := round_up (B := B) (Hd := Hd) (M := M) (chains B Hd M S r) M
    rcases E_in (B := B) (Hd := Hd) (M := M) (S := S) r u with e | ⟨t, i, ht, hi, e⟩
    · rw [e]
      exact Int.le_trans (ih u hu) (h1 u)
    · have := h2 t i ht hi u hu
      have := ih t ht
      omega
theorem E_ge (r u : Nat) : S u ≤ E B Hd M S r u := by
  induction r with
  | zero => exact Int.le_refl _
  | succ r ih => exact Int.le_trans ih (E_up r u)
/-- THE CHAINS: behind enough rounds nothing more is gained -/
theorem chains_rest {j r : Nat} (a : Asg Hd M j) (hp : Happy B Hd M p) (hr : j ≤ r) : Happy B Hd M (chains B Hd M S r).1 := by
  have e : ∀ u, u < M → (chains B Hd M S r).1 u = E B Hd M S r u := fun u hu =>
    Int.le_antisymm ((chains_inv hp r).le _ (fun u _ => E_ge r u) (E_rest a hp hr) u hu) (E_le_chains r u hu)
  intro t i ht hi u hu
  rw [e u hu, e t ht]
  exact E_rest a hp hr t i ht hi u hu
end

/-! ### one more bidder -/
structure Good (B : Nat → Gn) (M j : Nat) (Hd : Lf) : Prop where
  asg : Asg Hd M j
  pot : ∃ p : Gn, (∀ u, u < M → 0 ≤ p u ∧ (Hd u = none → p u = 0)) ∧ Happy B Hd M p
/-- each thing of the chain goes to who held the one before -/
def shift (Hd : Lf) (new : Nat) : List Nat → Lf → Lf
  | [], f => f
  | [c], f => put f c (some new)
  | c :: d :: r, f => shift Hd new (d :: r) (put f c (Hd d))
theorem shift_eq {Hd : Lf} {new : Nat} {L : Lf} {x : Nat} {l : List Nat} (h : Ch L x l) : ∀ (f : Lf) (y : Nat), shift Hd new l f y = if y ∈ l then (match L y with | some t => Hd t | none => some new) else f y := by
  have nd := h.nodup
  induction h with
  | @one x e =>
    intro f y
    show put f x (some new) y = _
    by_cases q : y = x
    · subst q
      rw [put_same, if_pos (List.mem_cons_self ..), e]
    · rw [put_ne _ _ q, if_neg fun m => q (List.mem_singleton.mp m)]
  | @cons x t l e h ih =>
    intro f y
    obtain ⟨n1, n2⟩ := List.nodup_cons.mp nd
    have hl : ∃ r, l = t :: r := by
      cases h with
      | one _ => exact ⟨_, rfl⟩
      | cons _ _ => exact ⟨_, rfl⟩
    obtain ⟨r, rfl⟩ := hl
    show shift Hd new (t :: r) (put f x (Hd t)) y = _
    rw [ih n2]
    by_cases m : y ∈ t :: r
    · rw [if_pos m, if_pos (List.mem_cons_of_mem _ m)]
    · rw [if_neg m]
      by_cases q : y = x
      · subst q
        rw [put_same, if_pos (List.mem_cons_self ..), e]
      · rw [put_ne _ _ q, if_neg]
        intro z
        rcases List.mem_cons.mp z with z | z
        · exact q z
        · exact m z
theorem good_start (B : Nat → Gn) (M : Nat) : Good B M 0 fun _ => none :=
  ⟨⟨fun _ _ _ h => (nomatch h), fun _ _ _ _ _ h => (nomatch h), fun _ h => absurd h (Nat.not_lt_zero _)⟩, ⟨fun _ => 0, ⟨fun _ _ => ⟨Int.le_refl _, fun _ => rfl⟩, fun _ _ _ h => (nomatch h)⟩⟩⟩
theorem good_next {B : Nat → Gn} {M j r : Nat} {Hd : Lf} (g : Good B M j Hd) (hr : j ≤ r) {e : Nat} (he : e < M) (h0 : Hd e = none) {l : List Nat} (hl : Ch (chains B Hd M (B j) r).2 e l)
    (hm : ∀ u, u < M → Hd u = none → (chains B Hd M (B j) r).1 u ≤ (chains B Hd M (B j) r).1 e) : Good B M (j + 1) (shift Hd j l Hd) := by
  obtain ⟨a, p, p0, hp⟩ := g
  have I := chains_inv (S := B j) hp r
  have rest := chains_rest (S := B j) a hp hr
  generalize chains B Hd M (B j) r = s at hl hm I rest
  have N := shift_eq (Hd := Hd) (new := j) hl Hd
  generalize hN : shift Hd j l Hd = N' at N
  have up := I.rise hp hl he
  have tail : ∀ x t, x ∈ l → s.2 x = some t → t ∈ l ∧ ∃ i, Hd t = some i ∧ s.1 x = s.1 t + (B i x - B i t) := fun x t hx q => by
    obtain ⟨h1, i, h2, h3⟩ := I.par x t (up x hx).1 q
    have := rest t i h1 h2 x (up x hx).1
    exact ⟨List.mem_of_mem_tail (hl.next hx q), i, h2, by omega⟩
  refine ⟨⟨fun t i ht hi => ?_, fun t t' i ht ht' h1 h2 => ?_, fun i hi => ?_⟩, fun u => max (p u) (s.1 u - s.1 e), fun u hu => ⟨?_, fun h => ?_⟩, fun t i ht hi u hu => ?_⟩
  · rw [N] at hi
    by_cases m : t ∈ l
    · rw [if_pos m] at hi
      cases q : s.2 t with
      | some x =>
        rw [q] at hi
        have := a.lt x i (up x (tail t x m q).1).1 hi
        omega
      | none =>
        rw [q] at hi
        cases hi
        omega
    · rw [if_neg m] at hi
      have := a.lt t i ht hi
      omega
  · rw [N] at h1 h2
    by_cases m : t ∈ l <;> by_cases m' : t' ∈ l
    · rw [if_pos m] at h1
      rw [if_pos m'] at h2
      refine hl.inj m m' ?_
      cases q : s.2 t with
      | none =>
        rw [q] at h1
        cases q' : s.2 t' with
        | none => rfl
        | some x =>
          rw [q'] at h2
          cases h1
          have := a.lt x j (up x (tail t' x m' q').1).1 h2
          omega
      | some x =>
        rw [q] at h1
        have hx := (up x (tail t x m q).1).1
        cases q' : s.2 t' with
        | none =>
          rw [q'] at h2
          cases h2
          have := a.lt x j hx h1
          omega
        | some y =>
          rw [q'] at h2
          rw [a.inj x y i hx (up y (tail t' y m' q').1).1 h1 h2]
    · rw [if_pos m] at h1
      rw [if_neg m'] at h2
      cases q : s.2 t with
      | none =>
        rw [q] at h1
        cases h1
        have := a.lt t' j ht' h2
        omega
      | some x =>
        rw [q] at h1
        have := a.inj x t' i (up x (tail t x m q).1).1 ht' h1 h2
        exact absurd (this ▸ (tail t x m q).1) m'
    · rw [if_neg m] at h1
      rw [if_pos m'] at h2
      cases q : s.2 t' with
      | none =>
        rw [q] at h2
        cases h2
        have := a.lt t j ht h1
        omega
      | some x =>
        rw [q] at h2
        have := a.inj x t i (up x (tail t' x m' q).1).1 ht h2 h1
        exact absurd (this ▸ (tail t' x m' q).1) m
    · rw [if_neg m] at h1
      rw [if_neg m'] at h2
      exact a.inj t t' i ht ht' h1 h2
  · by_cases q : i = j
    · subst q
      obtain ⟨y, h1, h2⟩ := hl.last
      exact ⟨y, (up y h1).1, by rw [N, if_pos h1, h2]⟩
    · obtain ⟨t, ht, h1⟩ := a.sur i (by omega)
      by_cases m : t ∈ l
      · rcases hl.prev m with z | ⟨y, h2, h3⟩
        · rw [z, h0] at h1
          cases h1
        · exact ⟨y, (up y h2).1, by rw [N, if_pos h2, h3]; exact h1⟩
      · exact ⟨t, ht, by rw [N, if_neg m]; exact h1⟩
  · have := (p0 u hu).1
    show (0 : Int) ≤ max (p u) (s.1 u - s.1 e)
    omega
  · rw [N] at h
    have m : u ∉ l := fun m => by
      rw [if_pos m] at h
      split at h
      · rename_i x q
        obtain ⟨_, i, h2, _⟩ := tail u x m q
        rw [h2] at h
        cases h
      · cases h
    rw [if_neg m] at h
    have h1 := (p0 u hu).2 h
    have h2 := hm u hu h
    show max (p u) (s.1 u - s.1 e) = 0
    omega
  · show B i u - B i t ≤ max (p u) (s.1 u - s.1 e) - max (p t) (s.1 t - s.1 e)
    have old : ∀ x k, x < M → Hd x = some k → B k u - B k x ≤ max (p u) (s.1 u - s.1 e) - max (p x) (s.1 x - s.1 e) := fun x k hx hk => by
      have h1 := hp x k hx hk u hu
      have h2 := rest x k hx hk u hu
      omega
    have pe := (p0 e he).2 h0
    rw [N] at hi
    by_cases m : t ∈ l
    · rw [if_pos m] at hi
      have ht2 := (up t m).2
      cases q : s.2 t with
      | some x =>
        rw [q] at hi
        have hi : Hd x = some i := hi
        obtain ⟨mx, k, h2, h3⟩ := tail t x m q
        rw [hi] at h2
        cases h2
        have h4 := old x i (up x mx).1 hi
        have hx2 := (up x mx).2
        omega
      | none =>
        rw [q] at hi
        cases hi
        have h1 := I.non t ht q
        have h2 := I.ge u hu
        omega
    · rw [if_neg m] at hi
      exact old t i ht hi
end Bq

end
section
set_option autoImplicit false
namespace Bq
open Sn78 Sn78Neutral
section
variable {B : Nat → Gn} {N : Lf} {n m : Nat}
/-- the program's prices: what the chains from 0 on gain -/
def D (B : Nat → Gn) (N : Lf) (n m : Nat) : Gn := (chains B N (m + n) (fun _ => 0) n).1
structure Due (B : Nat → Gn) (N : Lf) (n m : Nat) : Prop where
  good : Good B (m + n) n N
  hn : 1 ≤ n
  hm : 1 ≤ m
  real : ∀ i j, i < n → j < m → 0 ≤ B i j
  spare : ∀ i s, m ≤ s → B i s = 0
theorem Due.ge (d : Due B N n m) : ∀ u, u < m + n → 0 ≤ D B N n m u := by
  obtain ⟨p, _, hp⟩ := d.good.pot
  exact (chains_inv hp n).ge
theorem Due.happy (d : Due B N n m) : Happy B N (m + n) (D B N n m) := by
  obtain ⟨p, _, hp⟩ := d.good.pot
  exact chains_rest d.good.asg hp (Nat.le_refl _)
theorem Due.le (d : Due B N n m) {V : Gn} (h0 : ∀ u, u < m + n → 0 ≤ V u) (h : Happy B N (m + n) V) : ∀ u, u < m + n → D B N n m u ≤ V u := by
  obtain ⟨p, _, hp⟩ := d.good.pot
  exact (chains_inv hp n).le V h0 h
theorem Due.free (d : Due B N n m) {u : Nat} (hu : u < m + n) (h : N u = none) : D B N n m u = 0 := by
  obtain ⟨p, p0, hp⟩ := d.good.pot
  have h1 := d.le (fun u hu => (p0 u hu).1) hp u hu
  have h2 := (p0 u hu).2 h
  have h3 := d.ge u hu
  omega
theorem Due.spare0 (d : Due B N n m) {s : Nat} (h1 : m ≤ s) (h2 : s < m + n) : D B N n m s = 0 := by
  have h3 := d.ge s h2
  have hn := d.hn
  have hm := d.hm
  cases e : N s with
  | none => exact d.free h2 e
  | some i =>
    have hi := d.good.asg.lt s i h2 e
    by_cases q : ∃ s0, m ≤ s0 ∧ s0 < m + n ∧ N s0 = none
    · obtain ⟨s0, g1, g2, g3⟩ := q
      have h4 := d.happy s i h2 e s0 g2
      rw [d.spare i s h1, d.spare i s0 g1, d.free g2 g3] at h4
      omega
    · have h0 : N 0 = none := by
        cases e0 : N 0 with
        | none => rfl
        | some k =>
          have := d.good.asg.few (l := 0 :: (List.range n).map fun t => m + t) (List.nodup_cons.mpr ⟨fun z => ?_, nodup_map List.nodup_range fun x _ y _ z => ?_⟩) fun x hx => ?_
          · rw [List.length_cons, List.length_map, List.length_range] at this
            omega
          · obtain ⟨t, _, z⟩ := List.mem_map.mp z
            omega
          · omega
          · rcases List.mem_cons.mp hx with rfl | hx
            · exact ⟨by omega, k, e0⟩
            · obtain ⟨t, ht, rfl⟩ := List.mem_map.mp hx
              have ht := List.mem_range.mp ht
              refine ⟨by omega, ?_⟩
              cases et : N (m + t) with
              | some k => exact ⟨k, rfl⟩
              | none => exact absurd ⟨m + t, by omega, by omega, et⟩ q
      have h4 := d.happy s i h2 e 0 (by omega)
      have h5 := d.real i 0 hi (by omega)
      rw [d.spare i s h1, d.free (by omega) h0] at h4
      omega
/-- who has what: m is nothing -/
theorem Due.eq (d : Due B N n m) {g : Nat → Nat → Nat} (hg : ∀ i j, i < n → j < m → B i j = (g i j : Int)) :
    ∃ u : Nat → Nat, (∀ i, i < n → u i ≤ m) ∧ Bs.Eq n m g (fun j => (D B N n m j).toNat) u ∧ ∀ Q, Bs.Mini n m g Q → ∀ j, j < m → (D B N n m j).toNat ≤ Q j := by
  have hn := d.hn
  have hm := d.hm
  obtain ⟨τ, hτ⟩ : ∃ τ : Nat → Nat, ∀ i, i < n → τ i < m + n ∧ N (τ i) = some i := by
    refine ⟨fun i => if h : i < n then Classical.choose (d.good.asg.sur i h) else 0, fun i hi => ?_⟩
    try dsimp only
    rw [dif_pos hi]
    exact Classical.choose_spec (d.good.asg.sur i hi)
  have hap := d.happy
  have ap : ∀ i k, i < n → k < n → i ≠ k → (fun i => if τ i < m then τ i else m) i < m → (fun i => if τ i < m then τ i else m) i ≠ (fun i => if τ i < m then τ i else m) k := fun i k hi hk hne hl z => by
    try dsimp only at hl z
    by_cases c : τ i < m
    · rw [if_pos c] at z
      by_cases c2 : τ k < m
      · rw [if_pos c2] at z
        have h1 := (hτ i hi).2
        rw [z, (hτ k hk).2] at h1
        exact hne (Option.some.inj h1).symm
      · rw [if_neg c2] at z
        omega
    · rw [if_neg c] at hl
      omega
  have E : Bs.Eq n m g (fun j => (D B N n m j).toNat) (fun i => if τ i < m then τ i else m) := by
    have paid : ∀ i, i < n → τ i < m → D B N n m (τ i) ≤ (g i (τ i) : Int) := fun i hi c => by
      have h1 := hap (τ i) i (hτ i hi).1 (hτ i hi).2 m (by omega)
      rw [d.spare i m (Nat.le_refl _), d.spare0 (Nat.le_refl _) (by omega), hg i _ hi c] at h1
      omega
    refine ⟨ap, fun i hi hl => ?_, fun i hi => ?_, fun j hj h => ?_⟩
    · try dsimp only at hl ⊢
      by_cases c : τ i < m
      · rw [if_pos c]
        have := paid i hi c
        omega
      · rw [if_neg c] at hl
        omega
    · try dsimp only
      by_cases c : τ i < m
      · rw [if_pos c]
        unfold Bs.had
        rw [if_pos c, if_pos c]
        show _ + (D B N n m (τ i)).toNat = g i (τ i)
        have h1 := paid i hi c
        have h2 := d.ge (τ i) (hτ i hi).1
        have le : Bs.U m g (fun j => (D B N n m j).toNat) i ≤ g i (τ i) - (D B N n m (τ i)).toNat := Bs.U_le fun j hj => by
          have h3 := hap (τ i) i (hτ i hi).1 (hτ i hi).2 j (by omega)
          rw [hg i j hi hj, hg i _ hi c] at h3
          have h4 := d.ge j (by omega)
          omega
        have ge := Bs.U_ge (g := g) (P := fun j => (D B N n m j).toNat) (i := i) c
        try dsimp only at ge
        omega
      · rw [if_neg c]
        unfold Bs.had
        rw [if_neg (Nat.lt_irrefl _), if_neg (Nat.lt_irrefl _)]
        have le : Bs.U m g (fun j => (D B N n m j).toNat) i ≤ 0 := Bs.U_le fun j hj => by
          have h3 := hap (τ i) i (hτ i hi).1 (hτ i hi).2 j (by omega)
          rw [hg i j hi hj, d.spare i _ (by omega), d.spare0 (by omega) (hτ i hi).1] at h3
          omega
        omega
    · have e : N j = none := by
        cases e : N j with
        | none => rfl
        | some i =>
          have hi := d.good.asg.lt j i (by omega) e
          have hj2 := d.good.asg.inj j (τ i) i (by omega) (hτ i hi).1 e (hτ i hi).2
          refine absurd ?_ (h i hi)
          try dsimp only
          rw [← hj2, if_pos hj]
      try dsimp only
      rw [d.free (by omega) e]
      rfl
  refine ⟨fun i => if τ i < m then τ i else m, fun i hi => ?_, E, fun Q hQ j hj => ?_⟩
  · try dsimp only
    split <;> omega
  · have EQ : Bs.Eq n m g Q (fun i => if τ i < m then τ i else m) := Bs.eq_of_tight ap (by rw [← E.tight]; exact hQ _)
    have h := d.le (V := fun x => if x < m then (Q x : Int) else 0) (fun x hx => by split <;> omega) (fun t i ht hi x hx => ?_) j (by omega)
    · try dsimp only at h
      rw [if_pos hj] at h
      omega
    · have hin := d.good.asg.lt t i ht hi
      have et := d.good.asg.inj t (τ i) i ht (hτ i hin).1 hi (hτ i hin).2
      have mo := EQ.most i hin
      have pa := EQ.paid i hin
      try dsimp only at mo pa ⊢
      rw [← et] at mo pa
      have ux : ∀ x, x < m → g i x - Q x ≤ Bs.U m g Q i := fun x hx => Bs.U_ge hx
      unfold Bs.had at mo
      by_cases c : t < m
      · rw [if_pos c] at mo pa ⊢
        rw [if_pos c, if_pos c] at mo
        have pa := pa c
        by_cases c2 : x < m
        · rw [if_pos c2, hg i x hin c2, hg i t hin c]
          have := ux x c2
          omega
        · rw [if_neg c2, d.spare i x (by omega), hg i t hin c]
          omega
      · rw [if_neg c] at mo pa ⊢
        rw [if_neg (Nat.lt_irrefl _), if_neg (Nat.lt_irrefl _)] at mo
        by_cases c2 : x < m
        · rw [if_pos c2, hg i x hin c2, d.spare i t (by omega)]
          have := ux x c2
          omega
        · rw [if_neg c2, d.spare i x (by omega), d.spare i t (by omega)]
          omega
end
end Bq

end
section
set_option Elab.async false
set_option linter.all false
set_option maxRecDepth 100000
set_option maxHeartbeats 2000000
namespace Bl
open PySem PySem.Spec PyProof.Rows L2
open PySem.W (kla_obj kla_fn kla_callFunE kla_codeExpr kla_eval kla_makeFunction kla_makeFunctionHit CodeHd tabObj)
theorem ns_uniq {h : Heap} {a : Addr} {m m' : Str → Option Value} (x : h.Ns a m) (y : h.Ns a m') : m = m' := by
  obtain ⟨o, es, ep, e1, e2, _, e3⟩ := x
  obtain ⟨o', es', ep', f1, f2, _, f3⟩ := y
  rw [e1] at f1
  cases f1
  rw [e2] at f2
  cases f2
  funext n
  rw [← e3, ← f3]
section
variable {prog : Program} {w : World} {A : Around} {E : Value → Shared → Prop} {s : Shared}
/-- the greatest by a key, over any heap: L is the frame -/
theorem max_key {l q L : Addr} {ol : Obj} {m : Str → Option Value} {its : List Value} {ns : List Int} (g : Int → Int) {Q : Value → Shared → Prop} (hh : A.handled = none) (hL : s.heap.Ns L m) (hlL : l ≠ L)
    (hl : s.heap.get? l = some ol) (hls : ∀ h : Heap, h.get? l = some ol → h.IsList l its.toArray) (hi : IntsAre its ns) (hne : 0 < ns.length)
    (turn : ∀ (n : Int) (t : Tok) (h : Heap) (tk : Nat), n ∈ ns → (∀ b o, b ≠ L → s.heap.get? b = some o → h.get? b = some o) → h.Ns L m →
      wpAny (model prog w) A.in1 (call (.ref q) [.int n t]) (fun v s' => ∃ h' tk' t', s' = { s with heap := h', toks := tk' } ∧ v = .int (g n) t' ∧ ∀ b o, h.get? b = some o → h'.get? b = some o) (fun _ _ => False) { s with heap := h, toks := tk })
    (done : ∀ (M : Int) (t : Tok) (h' : Heap) (tk' : Nat), (∀ b o, b ≠ L → s.heap.get? b = some o → h'.get? b = some o) → h'.Ns L m → M ∈ ns → (∀ a ∈ ns, g a ≤ g M) → Q (.int M t) { s with heap := h', toks := tk' }) :
    wpAny (model prog w) A (call (.builtin "max") [.ref l] [(Str.ofString "key", .ref q)]) Q E s := by
  have N0 : News (Att.noObjs s.heap) L s.heap (Att.ledger s.heap L L) := fun ⟨a, o⟩ hp =>
    let ⟨n1, _, e⟩ := Att.mem_ledger.mp hp
    ⟨e, n1, Att.noObjs_get _ _⟩
  have kp : ∀ {h : Heap}, News (Att.noObjs s.heap) L h (Att.ledger s.heap L L) → ∀ b o, b ≠ L → s.heap.get? b = some o → h.get? b = some o := fun N b o n e => (N (b, o) (Att.mem_ledger.mpr ⟨n, n, e⟩)).1
  refine kmk_max_letter g hh (Att.fr_all hL) N0 (fun h F N => hls h (kp N l ol hlL hl)) hi hne (fun n t h tk own hn F N => ?_) fun M t h' tk' F N hM hb => done M t h' tk' (kp N) F.ns hM hb
  refine wpAny_mono (turn n t h tk hn (kp fun p hp => N p (List.mem_append_left _ hp)) F.ns) (fun v s' x => ?_) fun _ _ x => x
  obtain ⟨h', tk', t', rfl, rfl, k⟩ := x
  exact ⟨h', tk', t', rfl, rfl, ⟨F.ns.keeps k, fun b o e => k b o (F.keep b o e), F.above⟩, fun p hp => ⟨k _ _ (N p hp).1, (N p hp).2⟩⟩
/-- one name, no default -/
abbrev args1 (one : Str) (ap : Pos) : Arguments := { posonlyargs := [], args := [{ arg := one, annotation := none, pos := ap }], vararg := none, kwonlyargs := [], kw_defaults := [], kwarg := none, defaults := [] }
/-- the names of such a lambda: its own, and one that's captured -/
structure LamScope (scope : Scope) (one gn : Str) : Prop where
  kind : scope.kind = .function
  co : scope.isCoroutine = false
  gen : scope.isGenerator = false
  nocell : ∀ x ∈ scope.names, x.2 ≠ .cell
  own : scope.names.lookup one = some .local
  cap : scope.names.lookup gn = some .free
  d1 : (one == ("__debug__" : Str)) = false
  d2 : (gn == ("__debug__" : Str)) = false
  d3 : (gn == ("__classdict__" : Str)) = false
theorem lam_call {f c' cg a : Addr} {nm qual one gn : Str} {ap p1 p2 p3 : Pos} {scope : Scope} {clos : List (Str × Addr)} {pm ctv : Value} {its : List Value} {n : Int} {k : Nat} {z : Int} {t t0 : Tok} (hroom : A.depth < recursionLimit) (lim : s.heap.NoLimit)
    (ho : s.heap.get? f = some (kla_obj nm qual (args1 one ap) (.Subscript (.Name gn p1) (.Name one p2) p3) scope clos pm c' ctv)) (hcd : s.heap.CodeRec (.ref c') qual) (S : LamScope scope one gn)
    (hcl : clos.lookup gn = some cg) (hcell : s.heap.IsCell cg (some (.ref a))) (hl : s.heap.IsList a its.toArray) (hb : bindArgs (kla_fn nm qual (args1 one ap) (.Subscript (.Name gn p1) (.Name one p2) p3) scope clos pm (.ref c') ctv) ⟨[.int n t], []⟩ = pure [(one, .int n t)]) (hk : n = (k : Int)) (hn : its[k]? = some (.int z t0)) (hz : its.length ≤ sizeLine) :
    wpAny (model prog w) A (call (.ref f) [.int n t]) (fun v s' => ∃ h' tk' t', s' = { s with heap := h', toks := tk' } ∧ v = .int z t' ∧ ∀ b o, s.heap.get? b = some o → h'.get? b = some o) E s := by
  refine wpAny_call (kla_callFunE hroom ho rfl S.co S.gen rfl hcd ?_)
  rw [hb]
  refine wpAny_pure (wpAny_newFunctionEnv S.nocell (fun x hx => ?_) (fun h₁ hns hsb => ?_) S.kind)
  · rw [List.mem_singleton.mp hx]
    exact S.own
  · have kp : ∀ b o, s.heap.get? b = some o → h₁.get? b = some o := fun b o e => hsb.extBut b o (Nat.ne_of_lt (Heap.lt_size e)) (Heap.get?_push_of_some _ e)
    refine ⟨lim.keeps kp, kla_codeExpr (Subscript_ ?_)⟩
    refine wpAny_Name (wpAny_loadName_free (c := cg) (v := .ref a) S.kind S.cap hcl ?_ ?_ S.d3) S.d2
    · exact hcell.keeps kp
    · refine wpAny_Name (wpAny_loadName_local (v := .int n t) S.kind S.own hns ?_ ?_) S.d1
      · show List.lookup one [(one, Value.int n t)] = _
        rw [List.lookup_cons, beq_self_eq_true]
      · have hkl : k < its.length := (List.getElem?_eq_some_iff.mp hn).1
        have l63 := line63
        exact item_listR (show h₁.IsList a its.toArray from let ⟨o, e, r⟩ := hl; ⟨o, kp _ _ e, r⟩) (by omega) (by omega) (by rw [hk]; simpa using hn) ⟨h₁, _, t0, rfl, rfl, kp⟩
end
/-! ### the table of a code object -/
/-- all that was tracked is as it was, but for the table -/
def SameT (P : Addr) (H H' : Hp) : Prop := ∀ b o, b ≠ P → H b = some o → H' b = some o
theorem SameT.refl (P : Addr) (H : Hp) : SameT P H H := fun _ _ _ h => h
theorem SameT.trans {P : Addr} {H H1 H2 : Hp} (a : SameT P H H1) (b : SameT P H1 H2) : SameT P H H2 := fun c o n h => b c o n (a c o n h)
theorem SameT.of {P : Addr} {H H' : Hp} (s : Same H H') : SameT P H H' := fun b o _ h => s b o h
/-- a lambda's code object -/
def codeX (c' : Addr) (qual : Str) : HO := .ext fun h => h.CodeRec (.ref c') qual
/-- the table P is empty, or holds the lambda at lp alone -/
def TabOk (P : Addr) (lp : Pos) (qual : Str) (H : Hp) : Prop := H P = some (.tbl #[]) ∨ ∃ c', c' ≠ P ∧ H P = some (.tbl (#[] ++ #[rawInt lp.line, rawInt lp.col, .ref c'])) ∧ H c' = some (codeX c' qual)
theorem TabOk.same {P : Addr} {lp : Pos} {qual : Str} {H H' : Hp} (h : TabOk P lp qual H) (s : Same H H') : TabOk P lp qual H' := by
  rcases h with h | ⟨c', n, h1, h2⟩
  · exact .inl (s _ _ h)
  · exact .inr ⟨c', n, s _ _ h1, s _ _ h2⟩
theorem TabOk.ne {P : Addr} {lp : Pos} {qual : Str} {H : Hp} (h : TabOk P lp qual H) : ∃ ps, H P = some (.tbl ps) := by
  rcases h with h | ⟨c', _, h1, h2⟩
  · exact ⟨_, h⟩
  · exact ⟨_, h1⟩
theorem SameT.seq {K : PySem.W.Frag} {P : Addr} {H H' : Hp} {a : Addr} {xs : List V} (e : SameT P H H') (hP : ∃ ps, H P = some (.tbl ps)) (h : SqL K H a xs) : SqL K H' a xs := by
  obtain ⟨ps, hP⟩ := hP
  rcases h with (h | ⟨o, h⟩) | h
  · exact .inl (.inl (e _ _ (ne_of h hP (by intro z; cases z)) h))
  · exact .inl (.inr ⟨o, e _ _ (ne_of h hP (by intro z; cases z)) h⟩)
  · exact .inr h
structure Tb (X : Cx) (P : Addr) : Prop where
  code : ∃ c, X.env.code = .ref c ∧ CodeHd X.base c P
  noP : X.base.get? P = none
  bm : ∃ bm ob, X.mg "__builtins__" = some (.ref bm) ∧ bm ≠ builtinsNs ∧ bm ≠ mainGlobals ∧ X.base.get? bm = some ob ∧ ob.cls = .type "module" ∧ ob.dict = some builtinsNs ∧ ob.data = .plain
section
variable {X : Cx} {pins : List (Addr × Obj)} {σ : L2.St} {H : Hp} {s : Shared} {P : Addr}
theorem Tb.bat (T : Tb X P) (I : Inv X pins σ H s) : s.heap.BuiltinsAt X.mg P := by
  obtain ⟨bm, ob, h1, h2, h3, h4, h5⟩ := T.bm
  refine ⟨bm, ob, h1, h2, h3, fun z => ?_, I.bk _ _ h4, h5⟩
  rw [z, T.noP] at h4
  cases h4
theorem Tb.glob (T : Tb X P) (I : Inv X pins σ H s) : mainGlobals ≠ P := fun z => by
  obtain ⟨o, es, ep, e, _⟩ := I.mod.glob
  rw [z, T.noP] at e
  cases e
/-- the table has grown by one code object -/
theorem inv_tbl {ps more : Array Value} {c' : Addr} {qual : Str} {h' : Heap} {tk : Nat} (I : Inv X pins σ H s) (hP : H P = some (.tbl ps)) (k : ∀ b o, b ≠ P → s.heap.get? b = some o → h'.get? b = some o) (hc : s.heap.objs.size ≤ c')
    (e : h'.get? P = some (tabObj (ps ++ more))) (hr : h'.CodeRec (.ref c') qual) : Inv X pins σ (upd (upd H P (.tbl (ps ++ more))) c' (codeX c' qual)) { s with heap := h', toks := tk } := by
  have nc : H c' = none := I.hok.fresh hc
  have hPc : P ≠ c' := ne_of_none hP nc
  have old : ∀ b u, b ≠ P → H b = some u → upd (upd H P (.tbl (ps ++ more))) c' (codeX c' qual) b = some u := fun b u n q => by
    rw [upd_ne (ne_of_none q nc), upd_ne n]
    exact q
  refine I.step (g' := s.gens) (d' := s.drawn) (t' := tk) (ch := []) (fun _ z => nomatch z) (fun b o _ _ _ q n => k b o (fun z => by rw [z, hP] at n; cases n) q) (fun b o _ _ _ q n => ⟨o.slots, k b o (fun z => by rw [z, hP] at n; cases n) q⟩)
    (fun b o _ q n => ?_) (fun b o _ q => ?_) (fun b xs q => old b _ (ne_of q hP (by intro z; cases z)) q) (fun b o u q => old b _ (ne_of q hP (by intro z; cases z)) q) (fun b qs q => ?_) (fun m hm => ?_) (fun b u q => ?_) I.bare
  · rw [upd_ne (Nat.ne_of_lt (Nat.lt_of_lt_of_le (Heap.lt_size q) hc)), upd_ne (fun z => by rw [z, hP] at n; cases n)]
    exact n
  · by_cases z : b = P
    · rw [z]
      exact ⟨_, e⟩
    · exact ⟨o, k b o z q⟩
  · by_cases z : b = P
    · subst z
      rw [hP] at q
      cases q
      exact ⟨more, by rw [upd_ne hPc, upd_same]⟩
    · exact ⟨#[], by rw [old b _ z q]; simp⟩
  · obtain ⟨o, es, ep, ho, r⟩ := hm
    exact ⟨o, es, ep, k _ o (fun z => by have := I.free; rw [z, hP] at this; cases this) ho, r⟩
  · by_cases z : b = c'
    · subst z
      rw [upd_same] at q
      cases q
      obtain ⟨c, o, vs, t, e1, e2, e3, e4⟩ := hr
      cases e1
      refine ⟨⟨b, o, vs, t, rfl, e2, e3, e4⟩, ⟨o, e2⟩, fun h1 h2 p1 p2 => ?_⟩
      obtain ⟨c, o, vs, t, e1, e2, e3, e4⟩ := p1
      cases e1
      exact ⟨b, o, vs, t, rfl, p2 o e2, e3, e4⟩
    · rw [upd_ne z] at q
      by_cases z2 : b = P
      · subst z2
        rw [upd_same] at q
        cases q
        exact e
      · rw [upd_ne z2] at q
        refine (I.hok b u q).stay (fun d v hd r => k d v ?_ r) (fun d r => old d _ (ne_of r hP (by intro z; cases z)) r) fun d xs r => old d _ (ne_of r hP (by intro z; cases z)) r
        rcases hd with rfl | hd
        · exact z2
        · exact ne_of hd hP (by intro z; cases z)
/-- the lambda is made -/
theorem lam_make {one gn : Str} {ap lp : Pos} {body : Expr} {scope : Scope} {Q : Value → Shared → Prop} {E : Value → Shared → Prop} (I : Inv X pins σ H s) (T : Tb X P) (ht : TabOk P lp (X.env.qual ++ "<lambda>") H) (S : LamScope scope one gn)
    (hf : ∀ y ∈ scope.names, y.2 = .free → ∃ c, X.env.cells.lookup y.1 = some c)
    (h : ∀ (f c' : Addr) (ctv pm : Value) (h2 : Heap) (tk : Nat) (H2 : Hp), Inv X pins σ H2 { s with heap := h2, toks := tk } → SameT P H H2 → TabOk P lp (X.env.qual ++ "<lambda>") H2 →
      h2.get? f = some (kla_obj "<lambda>" (X.env.qual ++ "<lambda>") (args1 one ap) body scope (cloFrom X.env.cells scope.names []) pm c' ctv) → f ≠ X.env.locals → h2.CodeRec (.ref c') (X.env.qual ++ "<lambda>") → c' ≠ X.env.locals → Q (.ref f) { s with heap := h2, toks := tk }) :
    wpAny (model X.prog X.w) X.A (eval (.Lambda (args1 one ap) body scope lp) X.env) Q E s := by
  obtain ⟨c, hc, C⟩ := T.code
  have hL : X.env.locals < s.heap.objs.size := I.lt
  refine kla_eval rfl ?_
  rcases ht with hP | ⟨c', nP, hP, hX⟩
  · have e : s.heap.get? P = some (tabObj #[]) := I.hok P _ hP
    refine kla_makeFunction (closure_ok hf) I.ok.glob (I.mod.glob.keeps I.bk) hc (C.keeps I.bk) e trivial rfl (T.glob I) (T.bat I) fun c' ctv h' tk hx hge hlt hrec htb => ?_
    have nc : H c' = none := I.hok.fresh hge
    have hPc : P ≠ c' := ne_of_none hP nc
    have J := inv_tbl (tk := tk) I hP (fun b o n q => Heap.get?_push_of_some (kla_obj "<lambda>" (X.env.qual ++ "<lambda>") (args1 one ap) body scope (cloFrom X.env.cells scope.names []) ((X.mg "__name__").getD .none) c' ctv) (hx b o n q)) hge (Heap.get?_push_of_some _ htb) (hrec.push _)
    refine h _ c' ctv _ _ tk _ J (fun b o n q => ?_) (.inr ⟨c', hPc.symm, ?_, ?_⟩) (Heap.get?_push_size _ rfl) (Nat.ne_of_gt (Nat.lt_trans (Nat.lt_of_lt_of_le hL hge) hlt)) (hrec.push _) (Nat.ne_of_gt (Nat.lt_of_lt_of_le hL hge))
    · rw [upd_ne (ne_of_none q nc), upd_ne n]
      exact q
    · rw [upd_ne hPc, upd_same]
    · rw [upd_same]
  · have e : s.heap.get? P = some (tabObj (#[] ++ #[rawInt lp.line, rawInt lp.col, .ref c'])) := I.hok P _ hP
    have hr : s.heap.CodeRec (.ref c') (X.env.qual ++ "<lambda>") := (I.hok c' _ hX).1
    refine kla_makeFunctionHit (cv := .ref c') (closure_ok hf) I.ok.glob (I.mod.glob.keeps I.bk) hc (C.keeps I.bk) e trivial ?_ (T.bat I) fun ctv h' tk hk hsz => ?_
    · simp [codeAmong, rawInt]
    · have kp : ∀ b o, s.heap.get? b = some o → (h'.push (kla_obj "<lambda>" (X.env.qual ++ "<lambda>") (args1 one ap) body scope (cloFrom X.env.cells scope.names []) ((X.mg "__name__").getD .none) c' ctv)).get? b = some o := fun b o q => Heap.get?_push_of_some _ (hk b o q)
      refine h _ c' ctv _ _ tk H (I.kept kp) (SameT.refl P H) (.inr ⟨c', nP, hP, hX⟩) (Heap.get?_push_size _ rfl) (Nat.ne_of_gt (Nat.lt_of_lt_of_le hL hsz)) (hr.keeps kp) (fun z => ?_)
      have := I.free
      rw [← z, hX] at this
      cases this
/-- behind a call that kept all but the frame's own object -/
theorem inv_frame {h' : Heap} {tk : Nat} {m : Str → Option Value} (I : Inv X pins σ H s) (hm : s.heap.Ns X.env.locals m) (hm' : h'.Ns X.env.locals m) (k : ∀ b o, b ≠ X.env.locals → s.heap.get? b = some o → h'.get? b = some o) : Inv X pins σ H { s with heap := h', toks := tk } := by
  have nl : ∀ b u, H b = some u → b ≠ X.env.locals := fun b u q z => by
    have := I.free
    rw [← z, q] at this
    cases this
  refine I.step (g' := s.gens) (d' := s.drawn) (t' := tk) (ch := []) (fun _ z => nomatch z) (fun b o n _ _ q _ => k b o n q) (fun b o n _ _ q _ => ⟨o.slots, k b o n q⟩) (fun _ _ _ _ n => n) (fun b o _ q => ?_) (fun _ _ q => q) (fun _ _ _ q => q)
    (fun b qs q => ⟨#[], by rw [q]; simp⟩) (fun m2 h2 => ?_) (fun b u q => ?_) I.bare
  · by_cases z : b = X.env.locals
    · rw [z]
      obtain ⟨o', _, _, e, _⟩ := hm'
      exact ⟨o', e⟩
    · exact ⟨o, k b o z q⟩
  · rw [ns_uniq h2 hm]
    exact hm'
  · refine (I.hok b u q).stay (fun d v hd r => k d v ?_ r) (fun _ r => r) fun _ _ r => r
    rcases hd with rfl | hd
    · exact nl _ _ q
    · exact nl _ _ hd
/-- max(xs, key=lambda one: gn[one]): xs numbers, gn a list of ints in slot j -/
def tMaxK (K : PySem.W.Frag) (P : Addr) (lp : Pos) (qual : Str) (j : Nat) (t : TA) : TE := fun σ H Q => t σ H fun vs H1 => ∃ (l a : Addr) (ns : List Nat) (M : Nat) (G : Nat → Int), vs = [.ref l] ∧ H1 l = some (.lst (ns.map fun (n : Nat) => V.int (n : Int))) ∧ 0 < ns.length ∧ (∀ n ∈ ns, n < M) ∧
  σ[j]? = some (some (.ref a)) ∧ SqL K H1 a ((List.range M).map fun i => V.int (G i)) ∧ TabOk P lp qual H1 ∧ ∀ (H2 : Hp) (e : Nat), SameT P H1 H2 → TabOk P lp qual H2 → e ∈ ns → (∀ b ∈ ns, G b ≤ G e) → Q (.int (e : Int)) H2
theorem ints_nats : ∀ {ns : List Nat} {us : List Value}, Vals (ns.map fun (n : Nat) => V.int (n : Int)) us → IntsAre us (ns.map fun (n : Nat) => (n : Int))
  | [], _, .nil => .nil
  | n :: ns, _, .cons h r => by
    obtain ⟨t, rfl⟩ := h
    exact .cons _ t (ints_nats r)
theorem pe_maxk {t : TA} {j : Nat} {un one gn : Str} {ap lp p p0 p1 p2 p3 kp pos : Pos} {scope : Scope} (ha : PA X [.Name un p0] t) (hc : X.calm = true) (hr : Room 1 X.A) (T : Tb X P) (S : LamScope scope one gn) (hg : Gl X "max") (hm : X.mg "max" = none)
    (hN : X.N[j]? = some gn) (hk : X.env.kindOf gn = some .cell) (hcl : ∀ cells : List (Str × Addr), cloFrom cells scope.names [] = [(gn, (cells.lookup gn).getD 0)]) (hf : ∀ y ∈ scope.names, y.2 = .free → y.1 = gn)
    (hb : ∀ (nm qual : Str) (clos : List (Str × Addr)) (pm ctv v : Value) (c' : Addr), bindArgs (kla_fn nm qual (args1 one ap) (.Subscript (.Name gn p1) (.Name one p2) p3) scope clos pm (.ref c') ctv) ⟨[v], []⟩ = pure [(one, v)]) :
    PE X (.Call (.Name "max" p) [.Name un p0] [⟨some "key", .Lambda (args1 one ap) (.Subscript (.Name gn p1) (.Name one p2) p3) scope lp, kp⟩] pos) (tMaxK X.K P lp (X.env.qual ++ "<lambda>") j t) := by
  intro pins s σ H Q I h
  refine wpAny_Call_Name_kw (ld_blt I hg hm boot_max ?_)
  refine callWith_kw ?_
  refine thn (ha pos pins s σ H _ I h) fun us s1 ⟨vs, H1, I1, r1, q1⟩ => ?_
  obtain ⟨l, a, ns, M, G, rfl, hl, hne, hlt, hσ, hG, ht, q⟩ := q1
  obtain ⟨u, rfl, ru⟩ := vals1 r1
  cases ru
  have hcell : ∀ y ∈ scope.names, y.2 = .free → ∃ c, X.env.cells.lookup y.1 = some c := fun y hy e => by
    rw [hf y hy e]
    exact I1.ok.has gn (.inl hk)
  refine kws_cons (lam_make I1 T ht S hcell fun f c' ctv pm h2 tk H2 I2 sm ht2 ho hfL hcd hcL => kws_nil ?_)
  have hl2 : H2 l = some (.lst (ns.map fun (n : Nat) => V.int (n : Int))) := sm l _ (by
    obtain ⟨ps, e⟩ := ht.ne
    exact ne_of hl e (by intro z; cases z)) hl
  have hG2 := sm.seq ht.ne hG
  obtain ⟨_, itl, nl, rl, el⟩ := I2.hok l _ hl2
  obtain ⟨itg, rg, pg, hz⟩ := I2.list hG2
  obtain ⟨m, hm2, hlk⟩ := I2.loc
  obtain ⟨ug, rug, look⟩ := hlk j gn (.ref a) hN hσ (.inr (.inl hk))
  cases rug
  obtain ⟨cg, hcg, icg⟩ : ∃ c, X.env.cells.lookup gn = some c ∧ h2.IsCell c (some (.ref a)) := by
    rcases look with ⟨z, _⟩ | ⟨_, z⟩
    · rw [hk] at z
      cases z
    · exact z
  have lL : ∀ b u, H2 b = some u → b ≠ X.env.locals := fun b u e z => by
    have := I2.free
    rw [← z, e] at this
    cases this
  have aL : a ≠ X.env.locals := fun z => by
    obtain ⟨o, e1, e2, n, e3⟩ := pg.isList
    obtain ⟨o', es, ep, f1, f2, _⟩ := hm2
    rw [z] at e1
    have e1 : h2.get? X.env.locals = some o := e1
    rw [f1] at e1
    cases e1
    rw [f2] at e3
    cases e3
  refine max_key (fun i => G i.toNat) (m := m) (L := X.env.locals) (I2.ok.hd hc) hm2 (lL l _ hl2) el (fun h e => ⟨_, e, rfl, nl, rfl⟩) (ints_nats rl) (by rw [List.length_map]; exact hne) (fun n t h tk' hn kp hns => ?_) fun e t h' tk' kp hns he hbest => ?_
  · obtain ⟨k, hk1, rfl⟩ := List.mem_map.mp hn
    have hkM := hlt k hk1
    obtain ⟨u, hu, ru⟩ := rg.get (i := k) (x := V.int (G k)) (by rw [List.getElem?_map, List.getElem?_range hkM]; rfl)
    obtain ⟨t0, rfl⟩ := ru
    have bk : ∀ b o, X.base.get? b = some o → h.get? b = some o := fun b o e => kp b o (Nat.ne_of_lt (Nat.lt_of_lt_of_le (Heap.lt_size e) (Nat.le_trans I2.ok.bsz I2.ok.above))) (I2.bk b o e)
    have hlen := rg.length
    exact lam_call (s := { s1 with heap := h, toks := tk' }) (k := k) (z := G k) hr.in1.depth (I2.ok.mod.nolimit.keeps bk) (kp f _ hfL ho)
      (show h.CodeRec (.ref c') _ from let ⟨c, o, vs, tt, e1, e2, e3, e4⟩ := hcd; ⟨c, o, vs, tt, e1, kp c o (by cases e1; exact hcL) e2, e3, e4⟩) S
      (by rw [hcl, hcg, List.lookup_cons, beq_self_eq_true]; rfl) (show h.IsCell cg _ from let ⟨o, e1, e2⟩ := icg; ⟨o, kp cg o (I2.cne gn cg hcg) e1, e2⟩) (show h.IsList a _ from let ⟨o, e1, e2⟩ := pg.isList; ⟨o, kp a o aL e1, e2⟩)
      (hb _ _ _ _ _ _ _) rfl hu (by rw [← hlen]; exact hz)
  · obtain ⟨k, hk1, rfl⟩ := List.mem_map.mp he
    refine ⟨.int (k : Int), H2, inv_frame (tk := tk') I2 hm2 hns kp, ⟨t, rfl⟩, q H2 k sm ht2 hk1 fun b hb => ?_⟩
    exact hbest (b : Int) (List.mem_map.mpr ⟨b, hb, rfl⟩)
end
end Bl

end
section
set_option Elab.async false
set_option linter.all false
set_option maxRecDepth 100000
set_option maxHeartbeats 2000000
namespace Bl
open PySem PySem.Spec PyProof.Rows L2
open PySem.W (CodeHd tabObj Codec WData OpenSpec WRecords)
set_option autoImplicit false
/-- what a def of the text whose code has the table P finds in the base -/
structure TabBase (base : Heap) (mg : Str → Option Value) (x : Str) (P : Addr) : Prop where
  fn : ∃ f o fd c, mg x = some (.ref f) ∧ base.get? f = some o ∧ o.data = .func fd ∧ fd.code = .ref c ∧ CodeHd base c P
  noP : base.get? P = none
  bm : ∃ bm ob, mg "__builtins__" = some (.ref bm) ∧ bm ≠ builtinsNs ∧ bm ≠ mainGlobals ∧ base.get? bm = some ob ∧ ob.cls = .type "module" ∧ ob.dict = some builtinsNs ∧ ob.data = .plain
theorem noTabs_at {K : PySem.W.Frag} (h : PySem.W.noTabs K = true) {b : Addr} {ps : Array Value} (e : K.lookup b = some (tabObj ps)) : False := by
  have h2 := List.all_eq_true.mp h _ (PySem.W.mem_of_lookupK e)
  exact absurd (show false = true from h2) Bool.false_ne_true
theorem call_tab {Pr : Program} {w : World} {K : PySem.W.Frag} {mg mb : Str → Option Value} {k : Nat} {fa P : Addr} {fd : FuncData} {x : Str} {ps : List Str} {sp : Sp} {s₁ : Shared} {vals : List Value} {ds : List WData} {R : PySem.W.WRecords} {cl : Str → Option Addr} {d0 : WData}
    (KX : K.In s₁.heap) (hnt : PySem.W.noTabs K = true) (hns : s₁.heap.Ns mainGlobals mg) (hb : s₁.heap.Ns builtinsNs mb) (hbb : ∀ x : Str, x ≠ "__name__" → mb x = bootBuiltins x) (hlim : s₁.heap.NoLimit) (hg : s₁.gens = #[])
    (hfn : ∃ f o fd c, mg x = some (.ref f) ∧ s₁.heap.get? f = some o ∧ o.data = .func fd ∧ fd.code = .ref c ∧ CodeHd s₁.heap c P) (hP : s₁.heap.get? P = some (tabObj #[]))
    (hbm : ∃ bm ob, mg "__builtins__" = some (.ref bm) ∧ bm ≠ builtinsNs ∧ s₁.heap.get? bm = some ob ∧ ob.cls = .type "module" ∧ ob.dict = some builtinsNs ∧ ob.data = .plain)
    (hwl : PySem.W.WellAll w.params s₁.heap vals ds) (hpl : plWs ds = true) (hwt : ∀ d ∈ ds, d.weight ≤ 1048576) (hr : Room k callerA)
    (F : ∀ base : Heap, K.In base → base.Ns mainGlobals mg → TabBase base mg x P → FnOk Pr w K mg base CX0 k fa fd ps sp) (hbind : ∀ (s : Shared) (us : List Value), us.length = ps.length → BindsTo s fd ⟨us, []⟩ (ps.zip us)) (hlen : ds.length = ps.length)
    (hsp : ∀ (H : Hp) (xs : List V), OnlyF H → H P = none → DwAll K H xs ds → sp xs (upd H P (.tbl #[])) (fun v H' => Dw K H' v d0) fun _ _ _ => False) :
    codeAny (model Pr w) callerA (.call (.ref fa) ⟨vals, []⟩) (fun r s' => ∃ u as, r = .ok (.ret u) ∧ PySem.W.ReadsW R cl s'.heap u d0 as ∧ OldK s₁.heap s'.heap ∧ s'.os = s₁.os ∧ AllBare s'.gens) s₁ := by
  obtain ⟨A, ho, ar⟩ := area_all ds vals hwl hpl hwt
  have hO : OnlyF (argH K s₁.heap A) := argH_only ar
  have hok : HOk Pr w (argH K s₁.heap A) s₁.heap := argH_ok ar
  have hS := dw_all KX ar ds vals hwl hpl ho
  have hV := vals_toV ho
  have hK : ∀ b u, argH K s₁.heap A b = some u → K.lookup b = none := fun b u q => (argH_is ar q).1
  -- what the arguments hold are lists and tuples: nothing else of the heap is tracked
  have noA : ∀ {b : Addr} {o : Obj}, s₁.heap.get? b = some o → (∀ vs n, o.data ≠ .seq vs n) → argH K s₁.heap A b = none := fun {b o} e d => by
    cases q : argH K s₁.heap A b with
    | none => rfl
    | some u =>
      obtain ⟨_, vs, _, _, ⟨e2, _⟩ | ⟨e2, _⟩⟩ := argH_is ar q
      · rw [e2] at e
        cases e
        exact absurd rfl (d _ _)
      · rw [e2] at e
        cases e
        exact absurd rfl (d _ _)
  have h0P : argH K s₁.heap A P = none := noA hP fun _ _ z => nomatch z
  generalize argH K s₁.heap A = H at hO hok hS hK noA h0P
  have hok2 : HOk Pr w (upd H P (.tbl #[])) s₁.heap := fun b u q => by
    by_cases z : b = P
    · subst z
      rw [upd_same] at q
      cases q
      exact hP
    · rw [upd_ne z] at q
      exact (hok b u q).stay (fun _ _ _ r => r) (fun c r => by rw [upd_ne (ne_of_none r h0P)]; exact r) fun c xs r => by rw [upd_ne (ne_of_none r h0P)]; exact r
  have base_of : ∀ {b : Addr} {o : Obj}, s₁.heap.get? b = some o → b ≠ P → H b = none → (hidT s₁.heap (upd H P (.tbl #[]))).get? b = some o := fun e n z => hidT_get e (by rw [upd_ne n]; exact z)
  have neP : ∀ {b : Addr} {o : Obj}, s₁.heap.get? b = some o → o ≠ tabObj #[] → b ≠ P := fun e n z => by
    rw [z, hP] at e
    exact n (Option.some.inj e).symm
  have nsK : ∀ {b : Addr} {m : Str → Option Value}, s₁.heap.Ns b m → (hidT s₁.heap (upd H P (.tbl #[]))).Ns b m := fun {b m} ⟨o, es, ep, e, d, r⟩ =>
    ⟨o, es, ep, base_of e (neP e fun z => by rw [z] at d; cases d) (noA e fun _ _ z => by rw [d] at z; cases z), d, r⟩
  have nK : ∀ b o, K.lookup b = some o → H b = none := fun b o e => by
    cases q : H b with
    | none => rfl
    | some u =>
      rw [hK b u q] at e
      cases e
  have kP : ∀ b o, K.lookup b = some o → b ≠ P := fun b o e z => by
    have h1 := KX b o e
    rw [z, hP] at h1
    cases h1
    exact noTabs_at hnt e
  have hKb : K.In (hidT s₁.heap (upd H P (.tbl #[]))) := fun b o e => base_of (KX b o e) (kP b o e) (nK b o e)
  have hM : Mod K mg (hidT s₁.heap (upd H P (.tbl #[]))) := ⟨hKb, nsK hns, ⟨mb, nsK hb, hbb⟩, let ⟨mc, h1, h2⟩ := hlim; ⟨mc, nsK h1, h2⟩⟩
  have e0 : Env0 Pr w K mg (hidT s₁.heap (upd H P (.tbl #[]))) callerA [] s₁ (upd H P (.tbl #[])) :=
    ⟨rfl, hM, fun b o e => of_hidT e, Nat.le_of_eq (hidT_size _ _), trivial, fun b hb => absurd (show b ∈ ([] : List Addr) from hb) (by simp), hok2, .of_eq hg⟩
  have hT : TabBase (hidT s₁.heap (upd H P (.tbl #[]))) mg x P := by
    refine ⟨?_, ?_, ?_⟩
    · obtain ⟨f, o, fd, c, h1, h2, h3, h4, oc, vs, file, tf, flags, tg, inF, text, tt, e1, r1, r2, r3, r4, r5, r6, r7, r8, hne⟩ := hfn
      exact ⟨f, o, fd, c, h1, base_of h2 (neP h2 fun z => by rw [z] at h3; cases h3) (noA h2 fun _ _ z => by rw [h3] at z; cases z), h3, h4, oc, vs, file, tf, flags, tg, inF, text, tt, base_of e1 hne (noA e1 fun _ _ z => by rw [r2] at z; cases z), r1, r2, r3, r4, r5, r6, r7, r8, hne⟩
    · cases q : (hidT s₁.heap (upd H P (.tbl #[]))).get? P with
      | none => rfl
      | some o =>
        have := (of_hidT q).2
        rw [upd_same] at this
        cases this
    · obtain ⟨bm, ob, b1, b2, b3, b4, b5, b6⟩ := hbm
      refine ⟨bm, ob, b1, b2, fun z => ?_, base_of b3 (neP b3 fun z => by rw [z] at b6; cases b6) (noA b3 fun _ _ z => by rw [b6] at z; cases z), b4, b5, b6⟩
      obtain ⟨o, es, ep, e, d, _⟩ := hns
      rw [z, e] at b3
      cases b3
      rw [d] at b6
      cases b6
  have hl : vals.length = ps.length := by rw [wellAll_len hwl]; exact hlen
  refine codeAny_mono ((F _ hKb (nsK hns) hT).run callerA [] s₁ _ ⟨vals, []⟩ vals (vals.map toV) _ _ hr e0 (hbind s₁ vals hl) hV (hsp H _ hO h0P hS)) fun r s' x => ?_
  cases r with
  | error e => exact False.elim x
  | ok fl =>
    cases fl with
    | next => exact False.elim x
    | brk => exact False.elim x
    | cont => exact False.elim x
    | ret u =>
      obtain ⟨v, H', os, bare, un, hok', r', q⟩ := x
      have kept : ∀ b o, b ≠ P → s₁.heap.get? b = some o → s'.heap.get? b = some o := fun b o n e => by
        cases q2 : H b with
        | none => exact un.keep b o e (by rw [upd_ne n]; exact q2) (by intro z; exact absurd (show b ∈ ([] : List Addr) from z) (by simp)) (by simp)
        | some u2 =>
          rcases hO b with z | ⟨ob, u3, z⟩
          · rw [q2] at z
            cases z
          · have z2 := un.frzs b ob _ (by rw [upd_ne n]; exact z)
            obtain ⟨e1, _⟩ := hok b _ z
            obtain ⟨e2, _⟩ := hok' b _ z2
            rw [e] at e1
            cases e1
            exact e2
      obtain ⟨more, e3⟩ := un.tbls P #[] upd_same
      have e4 : s'.heap.get? P = some (tabObj (#[] ++ more)) := hok' P _ e3
      have KX' : K.In s'.heap := fun b o e => kept b o (kP b o e) (KX b o e)
      obtain ⟨as, hrd⟩ := Dw.reads (R := R) (cl := cl) hok' KX' d0 v u q r'
      refine ⟨u, as, rfl, hrd, ⟨fun b o e => ?_, fun b o e => ?_⟩, os, bare⟩
      · by_cases z : b = P
        · subst z
          rw [hP] at e
          cases e
          obtain ⟨f, o, fd, c, _, _, _, _, C⟩ := hfn
          exact .inr (.inl ⟨(C.tab hP).isCodeTable, rfl, #[], more, rfl, e4⟩)
        · exact .inl (kept b o z e)
      · by_cases z : b = P
        · rw [z]
          exact ⟨_, e4⟩
        · exact ⟨o, kept b o z e⟩
theorem walk_tab {r : OpenSpec} {k : Nat} {q : Program} {loose : List Str} {XP : (Str → Option Value) → Heap → Prop} {YP : World → Heap → Prop} {d : DefRec} {K : Params → PySem.W.Frag} {ps : List Str} {sp : PySem.W.Frag → Addr → Sp} (x : Str)
    (hwell : r.wellSaid = true) (hdf : d.params.defaults = []) (hlen : r.args.length = ps.length) (hr : Room k callerA)
    (hY : ∀ (w : World) (h : Heap), YP w h → (K w.params).In h) (hrec : ((recsOf q).any fun e => e.name == x) = true) (hnt : ∀ w : World, PySem.W.noTabs (K w.params) = true)
    (F : ∀ (w : World) (mg : Str → Option Value) (fa : Addr) (h : Heap), YP w h → (K w.params).In h → h.Ns mainGlobals mg → mg d.name = some (.ref fa) →
      ∃ fd : FuncData, (∀ (s : Shared) (us : List Value), us.length = ps.length → BindsTo s fd ⟨us, []⟩ (ps.zip us)) ∧
        ∀ (P : Addr) (base : Heap), (K w.params).In base → base.Ns mainGlobals mg → TabBase base mg x P → FnOk r.prog w (K w.params) mg base CX0 k fa fd ps (sp (K w.params) P))
    (hsp : ∀ (K : PySem.W.Frag) (P : Addr) (H : Hp) (xs : List V) (a : Codec.denoteAll r.args), OnlyF H → H P = none → Codec.withinAll r.args a = true → Codec.app r.args r.asked a = true → DwAll K H xs (Codec.encAll r.args a) →
      sp K P xs (upd H P (.tbl #[])) (fun v H' => Dw K H' v (r.ret.enc (Codec.app r.args r.f a))) fun _ _ _ => False) :
    PySem.W.WalkOS q loose XP YP r d [] (fun f vs => PySem.call f vs) := by
  intro w s_0 s₁ mg mb G Y fa o pm cd doc dV kV ho hd hcd hD hmg hg args vals as hpre hlay hrd hwl hlo
  obtain ⟨a, e1, e2⟩ := PySem.W.os_pre_some hpre
  obtain ⟨e3, hwi⟩ := Codec.encAll_of_decAll r.args args a e1
  subst e3
  have KX := hY w _ Y
  obtain ⟨fd, hb, hF⟩ := F w mg fa _ Y KX G.T.g hmg
  obtain ⟨dx, hdx, hnx⟩ := List.any_eq_true.mp hrec
  have hnx : dx.name = x := eq_of_beq hnx
  obtain ⟨f, of, ff, c, P, t1, t2, t3, t4, t5, t6⟩ := G.T.tab dx hdx
  rw [hnx] at t1
  refine PySem.W.enter_call (codeAny_mono (call_tab (x := x) (P := P) (R := []) (cl := classAt s_0.heap) (d0 := r.ret.enc (Codec.app r.args r.f a)) KX (hnt w) G.T.g G.T.b G.T.builtins G.T.nolimit hg ⟨f, of, ff, c, t1, t2, t3, t4, CodeHd.of t5 t6⟩ t6.2 G.T.bmain hwl (pl_encAll _ _) (layable_weight hlay) hr (hF P) hb (by rw [encAll_len]; exact hlen)
    (fun H xs hO hN hS => hsp _ P H xs a hO hN hwi e2 hS)) fun r' s' hq => ?_)
  obtain ⟨u, as', rfl, h1, h2, h3, h4⟩ := hq
  exact ⟨.inl ⟨u, _, as', rfl, fun _ => rfl, h1, (OpenSpec.post_iff hwell hwi _ _).mpr rfl, fun z => Bool.noConfusion (show false = true from z)⟩, h2, h3, h4⟩
end Bl

end
section
set_option Elab.async false
set_option linter.all false
set_option maxRecDepth 100000
set_option maxHeartbeats 2000000
set_option autoImplicit false
namespace Be
open PySem PySem.Spec PyProof.Rows L2
open PySem.W (Codec)
open Bq (moveOn mv roundTo turn chains Gn Lf)
open Bl (SameT TabOk)
/-! ### the text by places -/
def top (i : Nat) : Stmt := PySem.Challenge.pw_bidsets_s03_prices.main.body.getD i (.Pass ⟨0, 0, 0, 0⟩)
abbrev sPrices : Stmt := top 2
abbrev sFit : Stmt := top 3
abbrev sLeast : Stmt := top 4
abbrev sHold : Stmt := top 5
abbrev sNew : Stmt := top 6
abbrev sUn : Stmt := top 7
abbrev sCh : Stmt := top 8
abbrev sMove : Stmt := top 9
/-- ints by places; holders by places -/
def tabI (M : Nat) (G : Gn) : List V := (List.range M).map fun i => V.int (G i)
def ov : Option Nat → V
  | none => .non
  | some k => .int (k : Int)
def tabO (M : Nat) (L : Lf) : List V := (List.range M).map fun i => ov (L i)
theorem tab_get {f : Nat → V} {M i : Nat} (h : i < M) : ((List.range M).map f)[i]? = some (f i) := by
  rw [List.getElem?_map, List.getElem?_range h]
  rfl
theorem tab_set {f : Nat → V} {M i : Nat} {v : V} : ((List.range M).map f).set i v = (List.range M).map (Bq.put f i v) := by
  refine List.ext_getElem? fun j => ?_
  rw [List.getElem?_set]
  by_cases hj : j < M
  · rw [tab_get hj, tab_get hj, List.length_map, List.length_range]
    by_cases q : i = j
    · subst q
      rw [if_pos rfl, if_pos hj, Bq.put_same]
    · rw [if_neg q, Bq.put_ne _ _ (Ne.symm q)]
  · have e : ∀ g : Nat → V, ((List.range M).map g)[j]? = none := fun g => List.getElem?_eq_none (by rw [List.length_map, List.length_range]; omega)
    rw [e, e, List.length_map, List.length_range]
    by_cases q : i = j
    · subst q
      rw [if_pos rfl, if_neg hj]
    · rw [if_neg q]
theorem tabI_len (M : Nat) (G : Gn) : (tabI M G).length = M := by
  unfold tabI
  rw [List.length_map, List.length_range]
theorem tabO_len (M : Nat) (L : Lf) : (tabO M L).length = M := by
  unfold tabO
  rw [List.length_map, List.length_range]
theorem tabI_get {M i : Nat} {G : Gn} (h : i < M) : (tabI M G)[i]? = some (V.int (G i)) := tab_get h
theorem tabO_get {M i : Nat} {L : Lf} (h : i < M) : (tabO M L)[i]? = some (ov (L i)) := tab_get h
theorem tabI_set {M i : Nat} {G : Gn} {z : Int} : (tabI M G).set i (V.int z) = tabI M (Bq.put G i z) := by
  unfold tabI
  rw [tab_set]
  refine congrArg (fun h => (List.range M).map h) (funext fun j => ?_)
  unfold Bq.put
  split <;> rfl
theorem tabO_set {M i : Nat} {L : Lf} {z : Option Nat} : (tabO M L).set i (ov z) = tabO M (Bq.put L i z) := by
  unfold tabO
  rw [tab_set]
  refine congrArg (fun h => (List.range M).map h) (funext fun j => ?_)
  unfold Bq.put
  split <;> rfl
theorem ixN_of {M i : Nat} {z : Int} (h : i < M) (e : z = (i : Int)) : ixN M z = some i := by
  unfold ixN
  rw [e, if_pos (by omega), if_pos (by omega)]
  rfl
theorem small64 {n : Nat} (h : n ≤ 64) : n < sizeLine := Nat.lt_of_le_of_lt h (by decide)
structure Txt (mg : Str → Option Value) : Prop where
  range : mg "range" = none
  max : mg "max" = none
  len : mg "len" = none
  list : mg "list" = none
theorem same_upd {H : Hp} {D : Addr} {o : HO} (h : H D = none) : Same H (upd H D o) := fun b u e => by
  rw [upd_ne (ne_of_none e h)]
  exact e
theorem same_updT {H H' : Hp} {D : Addr} {o : HO} (s : Same H H') (h : H D = none) : Same H (upd H' D o) := fun b u e => by
  rw [upd_ne (ne_of_none e h)]
  exact s b u e
/-- all as it was, but for what stands at g and l -/
def But2 (g l : Addr) (H H' : Hp) : Prop := ∀ b o, b ≠ g → b ≠ l → H b = some o → H' b = some o
/-! ### the promises -/
def spMove : Sp := fun vs H Q _ => ∃ (a g l : Addr) (z : Int) (M t : Nat) (w : Gn) (s : Gn × Lf), vs = [.ref a, .int z, .ref g, .ref l] ∧ z = t ∧ t < M ∧ M ≤ 64 ∧ a ≠ g ∧ a ≠ l ∧ g ≠ l ∧ H a = some (.lst (tabI M w)) ∧ H g = some (.lst (tabI M s.1)) ∧ H l = some (.lst (tabO M s.2)) ∧
  ∀ H' : Hp, But2 g l H H' → H' g = some (.lst (tabI M (moveOn w t M s).1)) → H' l = some (.lst (tabO M (moveOn w t M s).2)) → Q .non H'
def BidsAt (H : Hp) (b : Addr) (n M : Nat) (B : Nat → Gn) : Prop := ∃ r : Nat → Addr, H b = some (.lst ((List.range n).map fun i => V.ref (r i))) ∧ ∀ i, i < n → H (r i) = some (.lst (tabI M (B i)))
theorem BidsAt.same {H H' : Hp} {b : Addr} {n M : Nat} {B : Nat → Gn} (h : BidsAt H b n M B) (s : Same H H') : BidsAt H' b n M B := by
  obtain ⟨r, h1, h2⟩ := h
  exact ⟨r, s _ _ h1, fun i hi => s _ _ (h2 i hi)⟩
theorem tabO_snoc (k : Nat) (L : Lf) : tabO (k + 1) L = tabO k L ++ [ov (L k)] := by
  unfold tabO
  rw [List.range_succ, List.map_append]
  rfl
theorem tabI_snoc (k : Nat) (G : Gn) : tabI (k + 1) G = tabI k G ++ [V.int (G k)] := by
  unfold tabI
  rw [List.range_succ, List.map_append]
  rfl
theorem But2.same {g l : Addr} {H H1 H2 : Hp} (s : Same H H1) (b : But2 g l H1 H2) (hg : H g = none) (hl : H l = none) : Same H H2 := fun c o q => b c o (ne_of_none q hg) (ne_of_none q hl) (s c o q)
def spCh : Sp := fun vs H Q _ => ∃ (b h c : Addr) (n M : Nat) (B : Nat → Gn) (Hd : Lf) (S : Gn), vs = [.ref b, .ref h, .ref c] ∧ n ≤ 64 ∧ M ≤ 64 ∧ BidsAt H b n M B ∧ H h = some (.lst (tabO M Hd)) ∧ H c = some (.lst (tabI M S)) ∧ (∀ t i, t < M → Hd t = some i → i < n) ∧
  ∀ (H' : Hp) (t g l : Addr), Same H H' → H g = none → H l = none → g ≠ l → H' t = some (.tup [.ref g, .ref l]) → H' g = some (.lst (tabI M (chains B Hd M S n).1)) → H' l = some (.lst (tabO M (chains B Hd M S n).2)) → Q (.ref t) H'
/-! ### the lambda of best_unheld -/
abbrev lamP : Pos := ⟨33, 27, 33, 49⟩
abbrev lamQ : Str := ("best_unheld" : Str) ++ ".<locals>." ++ "<lambda>"
abbrev lamSc : Scope := { kind := .function, names := [("one", .local), ("gains", .free)], isGenerator := false, isCoroutine := false, more := [] }
theorem lamS : Bl.LamScope lamSc "one" "gains" := ⟨rfl, rfl, rfl, by decide +kernel, by decide +kernel, by decide +kernel, by decide +kernel, by decide +kernel, by decide +kernel⟩
def spUn (Pt : Addr) : Sp := fun vs H Q _ => ∃ (h g : Addr) (M : Nat) (Hd : Lf) (G : Gn), vs = [.ref h, .ref g] ∧ M ≤ 64 ∧ H h = some (.lst (tabO M Hd)) ∧ H g = some (.lst (tabI M G)) ∧ (∃ t, t < M ∧ Hd t = none) ∧ TabOk Pt lamP lamQ H ∧
  ∀ (H' : Hp) (e : Nat), SameT Pt H H' → TabOk Pt lamP lamQ H' → e < M → Hd e = none → (∀ u, u < M → Hd u = none → G u ≤ G e) → Q (.int (e : Int)) H'
def spNew (Pt : Addr) : Sp := fun vs H Q _ => ∃ (b h : Addr) (z : Int) (n M j : Nat) (B : Nat → Gn) (Hd : Lf), vs = [.ref b, .ref h, .int z] ∧ z = j ∧ j < n ∧ n ≤ 64 ∧ M ≤ 64 ∧ j < M ∧ BidsAt H b n M B ∧ H h = some (.lst (tabO M Hd)) ∧ Bq.Good B M j Hd ∧ TabOk Pt lamP lamQ H ∧
  ∀ (H' : Hp) (p : Addr) (N : Lf), SameT Pt H H' → TabOk Pt lamP lamQ H' → H' p = some (.lst (tabO M N)) → Bq.Good B M (j + 1) N → Q (.ref p) H'
open Classical in
noncomputable def chLen (L : Lf) (c : Nat) : Nat := if h : ∃ l, Bq.Ch L c l then (Classical.choose h).length else 0
theorem chLen_eq {L : Lf} {c : Nat} {l : List Nat} (h : Bq.Ch L c l) : chLen L c = l.length := by
  unfold chLen
  rw [dif_pos ⟨l, h⟩, (Classical.choose_spec (⟨l, h⟩ : ∃ l, Bq.Ch L c l)).uniq h]
noncomputable def mu7 (L : Lf) (σ : L2.St) : Nat := match σ with
  | [_, _, _, _, _, _, _, some (.int z)] => chLen L z.toNat
  | _ => 0
theorem tab_but {Pt p : Addr} {lp : Pos} {q : Str} {xs : List V} {H H' : Hp} (h : TabOk Pt lp q H) (hp : H p = some (.lst xs)) (k : ∀ b o, b ≠ p → H b = some o → H' b = some o) : TabOk Pt lp q H' := by
  rcases h with h | ⟨c', n, h1, h2⟩
  · exact .inl (k _ _ (ne_of h hp (by intro z; cases z)) h)
  · exact .inr ⟨c', n, k _ _ (ne_of h1 hp (by intro z; cases z)) h1, k _ _ (ne_of h2 hp (by unfold Bl.codeX; intro z; cases z)) h2⟩
theorem BidsAt.sameT {Pt : Addr} {H H' : Hp} {b : Addr} {n M : Nat} {B : Nat → Gn} (h : BidsAt H b n M B) (s : SameT Pt H H') (ht : ∃ ps, H Pt = some (.tbl ps)) : BidsAt H' b n M B := by
  obtain ⟨r, h1, h2⟩ := h
  obtain ⟨ps, ht⟩ := ht
  exact ⟨r, s _ _ (ne_of h1 ht (by intro z; cases z)) h1, fun i hi => s _ _ (ne_of (h2 i hi) ht (by intro z; cases z)) (h2 i hi)⟩
def spHold (Pt : Addr) : Sp := fun vs H Q _ => ∃ (b : Addr) (z : Int) (n M : Nat) (B : Nat → Gn), vs = [.ref b, .int z] ∧ z = M ∧ n ≤ 64 ∧ M ≤ 64 ∧ n ≤ M ∧ BidsAt H b n M B ∧ TabOk Pt lamP lamQ H ∧
  ∀ (H' : Hp) (p : Addr) (N : Lf), SameT Pt H H' → TabOk Pt lamP lamQ H' → H' p = some (.lst (tabO M N)) → Bq.Good B M n N → Q (.ref p) H'
/-- what bidder i gives for thing t, the spare ones among them -/
def bidF (m : Nat) (v : List Int) (i t : Nat) : Int := if t < m then v.getD (i * m + t) 0 else 0
theorem cut_row {v : List Int} {m i : Nat} (h : i * m + m ≤ v.length) : cutV (v.map V.int) (some ((i * m : Nat) : Int)) (some ((i * m + m : Nat) : Int)) = tabI m fun t => v.getD (i * m + t) 0 := by
  unfold cutV
  rw [HT.sIx_nat, HT.sIx_nat, List.length_map, Nat.min_eq_left h, Nat.min_eq_left (Nat.le_trans (Nat.le_add_right _ _) h), Nat.add_sub_cancel_left]
  refine List.ext_getElem? fun j => ?_
  unfold tabI
  rw [List.getElem?_take, List.getElem?_drop]
  by_cases hj : j < m
  · rw [if_pos hj, tab_get hj, List.getElem?_map]
    show Option.map V.int v[i * m + j]? = some (V.int (v.getD (i * m + j) 0))
    rw [List.getD_eq_getElem?_getD, List.getElem?_eq_getElem (by omega)]
    rfl
  · rw [if_neg hj, List.getElem?_eq_none (by rw [List.length_map, List.length_range]; omega)]
theorem cut_front {M m : Nat} {G : Gn} (h : m ≤ M) : cutV (tabI M G) none (some (m : Int)) = tabI m G := by
  unfold cutV
  rw [HT.sIx_nat, tabI_len, Nat.min_eq_left h]
  show ((tabI M G).drop 0).take (m - 0) = _
  rw [List.drop_zero, Nat.sub_zero]
  refine List.ext_getElem? fun j => ?_
  unfold tabI
  rw [List.getElem?_take]
  by_cases hj : j < m
  · rw [if_pos hj, tab_get hj, tab_get (by omega)]
  · rw [if_neg hj, List.getElem?_eq_none (by rw [List.length_map, List.length_range]; omega)]
theorem tabI_app (m n : Nat) (v : List Int) (i : Nat) : (tabI m fun t => v.getD (i * m + t) 0) ++ tabI n (fun _ => 0) = tabI (m + n) (bidF m v i) := by
  induction n with
  | zero =>
    unfold tabI
    rw [List.range_zero, List.map_nil, List.append_nil]
    refine List.map_congr_left fun t ht => ?_
    unfold bidF
    rw [if_pos (List.mem_range.mp ht)]
  | succ n ih =>
    rw [tabI_snoc, ← List.append_assoc, ih, ← Nat.add_assoc, tabI_snoc]
    unfold bidF
    rw [if_neg (by omega)]
def spLeast (K : PySem.W.Frag) (Pt : Addr) : Sp := fun vs H Q _ => ∃ (x y : Int) (c : Addr) (n m : Nat) (v : List Int), vs = [.int x, .int y, .ref c] ∧ x = n ∧ y = m ∧ n ≤ 16 ∧ m ≤ 16 ∧ SqL K H c (v.map V.int) ∧ v.length = n * m ∧ TabOk Pt lamP lamQ H ∧
  ∀ (H' : Hp) (p : Addr) (N : Lf), SameT Pt H H' → TabOk Pt lamP lamQ H' → Bq.Good (bidF m v) (m + n) n N → H' p = some (.lst (tabI m (chains (bidF m v) N (m + n) (fun _ => 0) n).1)) → Q (.ref p) H'
def fits (x y : Int) : Bool := decide (1 ≤ x) && (decide (x ≤ 16) && (decide (1 ≤ y) && decide (y ≤ 16)))
theorem fits_iff {x y : Int} : fits x y = true ↔ (1 ≤ x ∧ x ≤ 16) ∧ 1 ≤ y ∧ y ≤ 16 := by
  unfold fits
  simp only [Bool.and_eq_true, decide_eq_true_eq]
  constructor
  · rintro ⟨a, b, c, d⟩
    exact ⟨⟨a, b⟩, c, d⟩
  · rintro ⟨⟨a, b⟩, c, d⟩
    exact ⟨a, b, c, d⟩
def spFit : Sp := fun vs H Q _ => ∃ x y : Int, vs = [.int x, .int y, .int 16, .int 16] ∧ Q (.bl (fits x y)) H
def spPrices (K : PySem.W.Frag) (Pt : Addr) : Sp := fun vs H Q _ => ∃ (x y : Int) (c : Addr) (v : List Int), vs = [.int x, .int y, .ref c] ∧ SqL K H c (v.map V.int) ∧ (fits x y = true → v.length = x.toNat * y.toNat) ∧ TabOk Pt lamP lamQ H ∧
  (fits x y = false → ∀ (H' : Hp) (p : Addr), H' p = some (.lst [.int (-2)]) → Q (.ref p) H') ∧
  (fits x y = true → ∀ (H' : Hp) (p : Addr) (N : Lf), Bq.Good (bidF y.toNat v) (y.toNat + x.toNat) x.toNat N → H' p = some (.lst (V.int 0 :: tabI y.toNat (chains (bidF y.toNat v) N (y.toNat + x.toNat) (fun _ => 0) x.toNat).1)) → Q (.ref p) H')
section
variable {P : Program} {w : World} {K : PySem.W.Frag} {mg : Str → Option Value} {base : Heap}
theorem scM : FnScope ["wishes", "thing", "gains", "left", "other", "gain"] ["wishes", "thing", "gains", "left"] (defScope sMove) := ⟨rfl, rfl, rfl, by decide +kernel, rfl, by decide +kernel, by decide +kernel⟩
theorem ok_move {f : Addr} {fd : FuncData} (F : Fun K "move_on" "move_on" sMove f fd) (T : Txt mg) : FnOk P w K mg base CX0 1 f fd ["wishes", "thing", "gains", "left"] spMove := by
  refine F.ok scM (fun vs H Q E h => ?_) (fun cdv A outer s H vs Q E hr h => ?_)
  · obtain ⟨a, g, l, z, M, t, w, s, rfl, _⟩ := h
    rfl
  · obtain ⟨a, g, l, z, M, t, w, s, rfl, rfl, ht, hM, ag, al, gl, ha, hg, hl, k⟩ := h
    refine ⟨_, pss_one (ps_for PassesOwn.never rfl (pi_range1 rfl T.range (pa_cons (pe_callB call_len_seq (by rfl) T.len PySem.boot_len (pa_cons (pv 0) pa_nil)) pa_nil)) (pg_name (i := 4) scM.nd rfl (Or.inl rfl))
      (pss_cons (ps_set (i := 5) scM.nd rfl (Or.inl rfl) (pe_op op_add (pe_op op_sub (pe_ix ix_list (pv 2) (pv 1) (fun _ _ => rfl)) (pe_ix ix_list (pv 0) (pv 1) (fun _ _ => rfl))) (pe_ix ix_list (pv 0) (pv 4) (fun _ _ => rfl))))
        (pss_one (ps_if (pt_cmpR op_gt (pv 5) (pe_ix ix_list (pv 2) (pv 4) (fun _ _ => rfl)) (nomark _))
          (pss_cons (ps_asg (pv 5) (pg_sub (pv 2) (pv 4) set_list)) (pss_one (ps_asg (pv 1) (pg_sub (pv 3) (pv 4) set_list)))) pss_nil)))), ?_⟩
    have hlen := tabI_len M w
    refine ⟨_, rfl, a, _, rfl, .inl (.of ha), ((tabI M w).length : Int), rfl, by omega, by omega, for_range (lo := 0) (n := (tabI M w).length) (fun i σ H' => But2 g l H H' ∧ H' g = some (.lst (tabI M (moveOn w t i s).1)) ∧ H' l = some (.lst (tabO M (moveOn w t i s).2)) ∧
      ∃ v4 v5 : Option V, σ = [some (.ref a), some (.int t), some (.ref g), some (.ref l), v4, v5]) ⟨fun _ _ _ _ q => q, hg, hl, none, none, rfl⟩ ?_ ?_⟩
    · rintro i σ H' hi ⟨hb, hg', hl', v4, v5, rfl⟩
      rw [hlen] at hi
      have hs := Bq.moveOn_succ w t i s
      generalize moveOn w t i s = s' at hs hg' hl'
      refine ⟨_, rfl, _, rfl, g, _, _, _, rfl, rfl, SqL.of hg', at_of (j := t) rfl (tabI_get ht), _, rfl, _, rfl, a, _, _, _, rfl, rfl, SqL.of (hb a _ ag al ha), at_of (j := t) rfl (tabI_get ht), _, _, rfl, rfl,
        _, rfl, _, rfl, a, _, _, _, rfl, rfl, SqL.of (hb a _ ag al ha), at_of (j := i) (by omega) (tabI_get hi), _, _, rfl, rfl, _, rfl, _, rfl, _, rfl, g, _, _, _, rfl, rfl, SqL.of hg', at_of (j := i) (by omega) (tabI_get hi), _, _, rfl, rfl, _, rfl, ?_⟩
      refine ite2 (fun c => ?_) (fun c => ?_)
      · have c1 : s'.1 i < s'.1 t - w t + w i := of_decide_eq_true c
        unfold mv at hs
        rw [if_pos c1] at hs
        refine ⟨_, rfl, _, rfl, _, rfl, g, _, _, i, rfl, rfl, hg', ixN_of (by rw [tabI_len]; exact hi) (by omega), _, rfl, _, rfl, _, rfl, l, tabO M s'.2, _, i, rfl, rfl, ?_, ixN_of (by rw [tabO_len]; exact hi) (by omega), ?_, ?_, ?_, _, _, rfl⟩
        · rw [upd_ne gl.symm]
          exact hl'
        · intro b o n1 n2 q
          rw [upd_ne n2, upd_ne n1]
          exact hb b o n1 n2 q
        · rw [upd_ne gl, upd_same, hs, tabI_set]
        · rw [upd_same, hs]
          exact congrArg (fun z => some (HO.lst z)) (tabO_set (z := some t))
      · have c1 : ¬ s'.1 i < s'.1 t - w t + w i := fun z => c (decide_eq_true z)
        unfold mv at hs
        rw [if_neg c1] at hs
        rw [hs]
        exact ⟨hb, hg', hl', _, _, rfl⟩
    · rintro σ H' ⟨hb, hg', hl', _⟩
      rw [hlen] at hg' hl'
      exact k H' hb hg' hl'
theorem scC : FnScope ["bids", "holders", "starts", "gains", "left", "step", "thing"] ["bids", "holders", "starts"] (defScope sCh) := ⟨rfl, rfl, rfl, by decide +kernel, rfl, by decide +kernel, by decide +kernel⟩
theorem ok_ch {f g0 : Addr} {fd gd : FuncData} (F : Fun K "best_chains" "best_chains" sCh f fd) (T : Txt mg) (GM : FnOk P w K mg base CX0 1 g0 gd ["wishes", "thing", "gains", "left"] spMove) (bM : Binds K gd ["wishes", "thing", "gains", "left"] []) (kM : PySem.W.keepIn K (.ref g0) = true)
    (mM : mg "move_on" = some (.ref g0)) : FnOk P w K mg base CX0 2 f fd ["bids", "holders", "starts"] spCh := by
  refine F.ok scC (fun vs H Q E h => ?_) (fun cdv A outer s H vs Q E hr h => ?_)
  · obtain ⟨b, h, c, n, M, B, Hd, S, rfl, _⟩ := h
    rfl
  · obtain ⟨b, h, c, n, M, B, Hd, S, rfl, hn, hM, hB, hh, hc, hlt, k⟩ := h
    refine ⟨_, pss_cons (ps_set (i := 3) scC.nd rfl (Or.inl rfl) (pe_callTy call_list_of (by rfl) T.list boot_list (pa_cons (pv 2) pa_nil)))
      (pss_cons (ps_setLc (i := 4) (own := [("thing", 6)]) rfl scC.nd rfl rfl (sw_true rfl rfl rfl rfl) (pi_list (pv 2)) (blkOk_by (by show blkC ["bids", "holders", "starts", "gains", "left", "step", "thing"] (defScope sCh) _ _ = true; decide +kernel))
        (fun _ _ _ _ _ => pg_name (i := 6) scC.nd rfl (Or.inl rfl)) (fun _ _ _ _ _ => pts_nil) (fun _ _ _ _ _ => pe_non))
      (pss_cons (ps_for PassesOwn.never rfl (pi_range1 rfl T.range (pa_cons (pe_callB call_len_seq (by rfl) T.len PySem.boot_len (pa_cons (pv 0) pa_nil)) pa_nil)) (pg_name (i := 5) scC.nd rfl (Or.inl rfl))
        (pss_one (ps_for PassesOwn.never rfl (pi_range1 rfl T.range (pa_cons (pe_callB call_len_seq (by rfl) T.len PySem.boot_len (pa_cons (pv 1) pa_nil)) pa_nil)) (pg_name (i := 6) scC.nd rfl (Or.inl rfl))
          (pss_one (ps_if (pt_cmpR op_notN (pe_ix ix_list (pv 1) (pv 6) (fun _ _ => rfl)) pe_non (nomark _))
            (pss_one (ps_expr (pe_call GM hr rfl mM kM bM .nil pass0 (pa_cons (pe_ix ix_list (pv 0) (pe_ix ix_list (pv 1) (pv 6) (fun _ _ => rfl)) (fun _ _ => rfl)) (pa_cons (pv 6) (pa_cons (pv 3) (pa_cons (pv 4) pa_nil))))))) pss_nil)))))
      (pss_one (ps_ret (pe_tup (pa_cons (pv 3) (pa_cons (pv 4) pa_nil))))))), ?_⟩
    refine ⟨_, rfl, c, _, rfl, .inl (.of hc), fun g hg => ?_⟩
    have s1 : Same H (upd H g (.lst (tabI M S))) := same_upd hg
    refine ⟨_, rfl, c, rfl, ⟨_, SqL.of (s1 _ _ hc)⟩, fun D hD => lc_list (xs := tabI M S) (fun i H' => Same (upd H g (.lst (tabI M S))) H' ∧ H' D = some (.lst (tabO i fun _ => none))) ⟨same_upd hD, upd_same⟩ (fun i H' _ p => SqL.of (p.1 _ _ (s1 _ _ hc))) ?_ ?_⟩
    · rintro i x H' hx ⟨hs, hD'⟩
      refine ⟨rfl, ?_⟩
      unfold tYes
      dsimp only
      rw [if_pos rfl]
      have hi : i < M := by
        have := (List.getElem?_eq_some_iff.mp hx).1
        rw [tabI_len] at this
        exact this
      refine ⟨_, hD', ?_, same_updT hs hD, ?_⟩
      · rw [tabO_len]
        exact small64 (by omega)
      · rw [upd_same, tabO_snoc]
        rfl
    · rintro H1 ⟨s2, hD1⟩
      rw [tabI_len] at hD1
      have hDg : D ≠ g := fun z => by
        rw [z, upd_same] at hD
        cases hD
      have hD0 : H D = none := by
        rw [upd_ne hDg] at hD
        exact hD
      have s3 : Same H H1 := s1.trans s2
      have hg1 : H1 g = some (.lst (tabI M S)) := s2 _ _ upd_same
      obtain ⟨r, hb, hr2⟩ := hB
      have hbl : ((List.range n).map fun i => V.ref (r i)).length = n := by rw [List.length_map, List.length_range]
      refine ⟨_, rfl, b, _, rfl, .inl (.of (s3 _ _ hb)), (((List.range n).map fun i => V.ref (r i)).length : Int), rfl, by omega, by omega, for_range (lo := 0) (n := ((List.range n).map fun i => V.ref (r i)).length)
        (fun i σ H' => Same H H' ∧ H' g = some (.lst (tabI M (chains B Hd M S i).1)) ∧ H' D = some (.lst (tabO M (chains B Hd M S i).2)) ∧ ∃ v5 v6 : Option V, σ = [some (.ref b), some (.ref h), some (.ref c), some (.ref g), some (.ref D), v5, v6]) ⟨s3, hg1, hD1, none, none, rfl⟩ ?_ ?_⟩
      · rintro i σ H2 hi ⟨s4, hg2, hD2, v5, v6, rfl⟩
        have hs := Bq.chains_succ B Hd M S i
        generalize chains B Hd M S i = st at hs hg2 hD2
        have hol := tabO_len M Hd
        refine ⟨_, rfl, h, _, rfl, .inl (.of (s4 _ _ hh)), ((tabO M Hd).length : Int), rfl, by omega, by omega, for_range (lo := 0) (n := (tabO M Hd).length)
          (fun j σ H' => Same H H' ∧ H' g = some (.lst (tabI M (roundTo B Hd M j st).1)) ∧ H' D = some (.lst (tabO M (roundTo B Hd M j st).2)) ∧ ∃ v5 v6 : Option V, σ = [some (.ref b), some (.ref h), some (.ref c), some (.ref g), some (.ref D), v5, v6]) ⟨s4, hg2, hD2, _, _, rfl⟩ ?_ ?_⟩
        · rintro j σ H3 hj ⟨s5, hg3, hD3, v5', v6', rfl⟩
          rw [hol] at hj
          have hs2 := Bq.round_succ B Hd M j st
          generalize roundTo B Hd M j st = st' at hs2 hg3 hD3
          refine ⟨_, rfl, _, rfl, h, _, _, _, rfl, rfl, SqL.of (s5 _ _ hh), at_of (j := j) (by omega) (tabO_get hj), rfl, _, rfl, ?_⟩
          unfold turn at hs2
          cases e : Hd j with
          | none =>
            rw [e] at hs2
            refine ite2 (fun z => ?_) (fun _ => ?_)
            · exact absurd z (by decide)
            · rw [hs2]
              exact ⟨s5, hg3, hD3, _, _, rfl⟩
          | some t =>
            rw [e] at hs2
            have htn := hlt j t hj e
            refine ite2 (fun _ => ?_) (fun z => ?_)
            · refine ⟨_, rfl, _, rfl, _, rfl, h, _, _, _, rfl, rfl, SqL.of (s5 _ _ hh), at_of (j := j) (by omega) (tabO_get hj), b, _, _, _, rfl, congrArg ov e, SqL.of (s5 _ _ hb), at_of (j := t) rfl (tab_get htn), _, rfl, _, rfl, _, rfl, r t, g, D, _, M, j, B t, st', rfl, by omega, hj, hM, ?_, ?_, hDg.symm, s5 _ _ (hr2 t htn), hg3, hD3, fun H4 b4 hg4 hD4 => ?_⟩
              · exact ne_of_none (hr2 t htn) hg
              · exact ne_of_none (hr2 t htn) hD0
              · rw [hs2]
                exact ⟨b4.same s5 hg hD0, hg4, hD4, _, _, rfl⟩
            · exact absurd rfl z
        · rintro σ H3 ⟨s5, hg3, hD3, v5', v6', rfl⟩
          rw [hol] at hg3 hD3
          rw [hs]
          exact ⟨s5, hg3, hD3, _, _, rfl⟩
      · rintro σ H2 ⟨s4, hg2, hD2, v5, v6, rfl⟩
        rw [hbl] at hg2 hD2
        refine ⟨_, rfl, _, rfl, (by show 2 ≤ sizeLine; decide), fun t ht => ?_⟩
        exact k _ t g D (s4.trans (same_upd ht)) hg hD0 hDg.symm upd_same (same_upd ht _ _ hg2) (same_upd ht _ _ hD2)
theorem ok_code {x qual : Str} {st : Stmt} {f : Addr} {fd : FuncData} {N ps : List Str} {k : Nat} {sp : Sp} (F : Fun K x qual st f fd) (S : FnScope N ps (defScope st)) (len : ∀ vs H Q E, sp vs H Q E → vs.length = ps.length)
    (hbody : ∀ (cdv : Value) (_ : fd.code = cdv) (A : Around) (outer : List Env) (s : Shared) (H : Hp) (vs : List V) (Q : VK) (E : XK), Room k (A.deeper (envOfC qual (defScope st) s.heap.objs.size f cdv)) → sp vs H Q E →
      ∃ t, PSs (cxOf CX0 P w K mg base N qual (defScope st) f cdv A outer s H E).nox (defBody st) t ∧ t { nx := fun _ H' => Q .non H', rt := Q } (start N vs) H) : FnOk P w K mg base CX0 (k + 1) f fd ps sp := by
  obtain ⟨oc, od, kV, doc, pm, an, cdv, ct, osl, rfl, lk, hcd⟩ := F.ex
  refine fn_of lk hcd S len fun A outer s H vs Q E hr hsp => ?_
  obtain ⟨t, h, q⟩ := hbody cdv rfl A outer s H vs Q E hr hsp
  exact ⟨t, h.nox, q⟩
theorem scU : FnScope ["holders", "gains", "unheld", "thing"] ["holders", "gains"] (defScope sUn) := ⟨rfl, rfl, rfl, by decide +kernel, rfl, by decide +kernel, by decide +kernel⟩
def unh (Hd : Lf) (i : Nat) : List Nat := (List.range i).filter fun t => (Hd t).isNone
theorem unh_none {Hd : Lf} {i : Nat} (h : Hd i = none) : unh Hd (i + 1) = unh Hd i ++ [i] := by
  unfold unh
  rw [List.range_succ, List.filter_append]
  simp [h]
theorem unh_some {Hd : Lf} {i t : Nat} (h : Hd i = some t) : unh Hd (i + 1) = unh Hd i := by
  unfold unh
  rw [List.range_succ, List.filter_append]
  simp [h]
theorem unh_len (Hd : Lf) (i : Nat) : (unh Hd i).length ≤ i := by
  have := List.length_filter_le (fun t => (Hd t).isNone) (List.range i)
  rw [List.length_range] at this
  exact this
theorem mem_unh {Hd : Lf} {i t : Nat} : t ∈ unh Hd i ↔ t < i ∧ Hd t = none := by
  unfold unh
  rw [List.mem_filter, List.mem_range, Option.isNone_iff_eq_none]
def natV (l : List Nat) : List V := l.map fun (n : Nat) => V.int (n : Int)
theorem ok_un {f Pt : Addr} {fd : FuncData} (F : Fun K "best_unheld" "best_unheld" sUn f fd) (T : Txt mg) (mF : mg "best_unheld" = some (.ref f)) (KB : K.In base) (TB : Bl.TabBase base mg "best_unheld" Pt) : FnOk P w K mg base CX0 2 f fd ["holders", "gains"] (spUn Pt) := by
  have hcode : ∃ c, fd.code = .ref c ∧ PySem.W.CodeHd base c Pt := by
    obtain ⟨f', o, fd', c, h1, h2, h3, h4, h5⟩ := TB.fn
    rw [mF] at h1
    cases h1
    obtain ⟨oc, od, kV, doc, pm, an, cdv, ct, osl, e, lk, _⟩ := F.ex
    rw [KB _ _ lk] at h2
    cases h2
    cases h3
    exact ⟨c, h4, h5⟩
  obtain ⟨c, hc, C⟩ := hcode
  refine ok_code F scU (fun vs H Q E h => ?_) (fun cdv hcd A outer s H vs Q E hr h => ?_)
  · obtain ⟨h, g, M, Hd, G, rfl, _⟩ := h
    rfl
  · obtain ⟨h, g, M, Hd, G, rfl, hM, hh, hg, hex, ht, k⟩ := h
    have tb : Bl.Tb (cxOf CX0 P w K mg base ["holders", "gains", "unheld", "thing"] "best_unheld" (defScope sUn) f cdv A outer s H E).nox Pt := ⟨⟨c, hcd.symm.trans hc, C⟩, TB.noP, TB.bm⟩
    refine ⟨_, pss_cons (ps_setLc (i := 2) (own := [("thing", 3)]) rfl scU.nd rfl rfl (sw_true rfl rfl rfl rfl) (pi_range1 rfl T.range (pa_cons (pe_callB call_len_seq (by rfl) T.len PySem.boot_len (pa_cons (pv 0) pa_nil)) pa_nil)) (blkOk_by (by show blkC ["holders", "gains", "unheld", "thing"] (defScope sUn) _ _ = true; decide +kernel))
        (fun _ _ _ _ _ => pg_name (i := 3) scU.nd rfl (Or.inl rfl)) (fun _ _ _ _ _ => pts_one (pt_cmpR op_isN (pe_ix (r := rIxL K) ix_list (pv 0) (pv 3) (fun _ _ => rfl)) pe_non (nomark _))) (fun _ _ _ _ _ => pv 3))
      (pss_one (ps_ret (Bl.pe_maxk (j := 1) (scope := lamSc) (one := "one") (gn := "gains") (pa_cons (pv 2) pa_nil) rfl hr tb lamS rfl T.max rfl rfl (fun _ => rfl) (by
        intro y hy e
        rcases List.mem_cons.mp hy with rfl | hy
        · cases e
        · rw [List.mem_singleton.mp hy]) (fun _ _ _ _ _ _ _ => rfl)))), ?_⟩
    have hol := tabO_len M Hd
    refine ⟨_, rfl, h, _, rfl, .inl (.of hh), ((tabO M Hd).length : Int), rfl, by omega, by omega, fun D hD => lc_range (lo := 0) (n := (tabO M Hd).length) (fun i H' => Same H H' ∧ H' D = some (.lst (natV (unh Hd i)))) ⟨same_upd hD, upd_same⟩ ?_ ?_⟩
    · rintro i H' hi ⟨hs, hD'⟩
      rw [hol] at hi
      refine ⟨rfl, _, rfl, _, rfl, h, _, _, _, rfl, rfl, SqL.of (hs _ _ hh), at_of (j := i) (by omega) (tabO_get hi), rfl, _, rfl, ?_⟩
      cases e : Hd i with
      | none =>
        have hu := unh_none e
        refine ite2 (fun _ => ?_) (fun z => ?_)
        · refine ⟨_, rfl, _, hD', ?_, same_updT hs hD, ?_⟩
          · unfold natV
            rw [List.length_map]
            exact small64 (Nat.le_trans (unh_len Hd i) (by omega))
          · rw [upd_same, hu]
            unfold natV
            rw [List.map_append]
            show some (HO.lst (_ ++ [V.int (0 + (i : Int))])) = some (HO.lst (_ ++ [V.int (i : Int)]))
            rw [Int.zero_add]
        · exact absurd rfl z
      | some t =>
        have hu := unh_some e
        refine ite2 (fun z => ?_) (fun _ => ?_)
        · exact absurd (of_decide_eq_true z) (fun q => nomatch (show V.int (t : Int) = V.non from q))
        · rw [hu]
          exact ⟨hs, hD'⟩
    · rintro H1 ⟨s1, hD1⟩
      rw [hol] at hD1
      obtain ⟨t, ht1, ht2⟩ := hex
      refine ⟨_, rfl, D, g, unh Hd M, M, G, rfl, hD1, ?_, fun n hn => (mem_unh.mp hn).1, rfl, SqL.of (s1 _ _ hg), ht.same s1, fun H2 e sm ht2 he hb => ?_⟩
      · exact List.length_pos_of_mem (mem_unh.mpr ⟨ht1, ht2⟩)
      · obtain ⟨h1, h2⟩ := mem_unh.mp he
        exact k H2 e ((SameT.of s1).trans sm) ht2 h1 h2 fun u hu hn => hb u (mem_unh.mpr ⟨hu, hn⟩)
theorem scN : FnScope ["bids", "holders", "newcomer", "chains", "gains", "left", "moved", "thing"] ["bids", "holders", "newcomer"] (defScope sNew) := ⟨rfl, rfl, rfl, by decide +kernel, rfl, by decide +kernel, by decide +kernel⟩
theorem ok_new {f fc fu Pt : Addr} {fd cd ud : FuncData} (F : Fun K "with_newcomer" "with_newcomer" sNew f fd) (T : Txt mg) (GC : FnOk P w K mg base CX0 2 fc cd ["bids", "holders", "starts"] spCh) (bC : Binds K cd ["bids", "holders", "starts"] []) (kC : PySem.W.keepIn K (.ref fc) = true) (mC : mg "best_chains" = some (.ref fc))
    (GU : FnOk P w K mg base CX0 2 fu ud ["holders", "gains"] (spUn Pt)) (bU : Binds K ud ["holders", "gains"] []) (kU : PySem.W.keepIn K (.ref fu) = true) (mU : mg "best_unheld" = some (.ref fu)) : FnOk P w K mg base CX0 3 f fd ["bids", "holders", "newcomer"] (spNew Pt) := by
  refine F.ok scN (fun vs H Q E h => ?_) (fun cdv A outer s H vs Q E hr h => ?_)
  · obtain ⟨b, h, z, n, M, j, B, Hd, rfl, _⟩ := h
    rfl
  · obtain ⟨b, h, z, n, M, j, B, Hd, rfl, rfl, hjn, hn, hM, hjM, hB, hh, good, htab, k⟩ := h
    refine ⟨_, pss_cons (ps_set (i := 3) scN.nd rfl (Or.inl rfl) (pe_call GC hr rfl mC kC bC .nil pass0 (pa_cons (pv 0) (pa_cons (pv 1) (pa_cons (pe_ix ix_list (pv 0) (pv 2) (fun _ _ => rfl)) pa_nil)))))
      (pss_cons (ps_set (i := 4) scN.nd rfl (Or.inl rfl) (pe_ix ix_tup (pv 3) pe_int (fun _ _ => rfl)))
      (pss_cons (ps_set (i := 5) scN.nd rfl (Or.inl rfl) (pe_ix ix_tup (pv 3) pe_int (fun _ _ => rfl)))
      (pss_cons (ps_set (i := 6) scN.nd rfl (Or.inl rfl) (pe_callTy call_list_of (by rfl) T.list boot_list (pa_cons (pv 1) pa_nil)))
      (pss_cons (ps_set (i := 7) scN.nd rfl (Or.inl rfl) (pe_call GU hr rfl mU kU bU .nil pass0 (pa_cons (pv 1) (pa_cons (pv 4) pa_nil))))
      (pss_cons (ps_while PassesOwn.never (pt_cmpR op_notN (pe_ix ix_list (pv 5) (pv 7) (fun _ _ => rfl)) pe_non (nomark _))
        (pss_cons (ps_asg (pe_ix ix_list (pv 1) (pe_ix ix_list (pv 5) (pv 7) (fun _ _ => rfl)) (fun _ _ => rfl)) (pg_sub (pv 6) (pv 7) set_list))
          (pss_one (ps_set (i := 7) scN.nd rfl (Or.inl rfl) (pe_ix ix_list (pv 5) (pv 7) (fun _ _ => rfl))))))
      (pss_cons (ps_asg (pv 2) (pg_sub (pv 6) (pv 7) set_list))
      (pss_one (ps_ret (pv 6))))))))), ?_⟩
    obtain ⟨r, hb, hr2⟩ := id hB
    refine ⟨_, rfl, _, rfl, _, rfl, _, rfl, b, _, _, _, rfl, rfl, SqL.of hb, at_of (j := j) rfl (tab_get hjn), b, h, r j, n, M, B, Hd, B j, rfl, hn, hM, hB, hh, hr2 j hjn, fun t i ht hi => Nat.lt_trans (good.asg.lt t i ht hi) hjn, fun H1 t g l s1 hg0 hl0 hgl ht1 hg1 hl1 => ?_⟩
    refine ⟨_, rfl, t, _, _, _, rfl, rfl, SqT.of ht1, at_of (j := 0) rfl rfl, _, rfl, t, _, _, _, rfl, rfl, SqT.of ht1, at_of (j := 1) rfl rfl, _, rfl, h, _, rfl, .inl (.of (s1 _ _ hh)), fun p hp => ?_⟩
    have s2 : Same H1 (upd H1 p (.lst (tabO M Hd))) := same_upd hp
    have htab2 := (htab.same s1).same s2
    have hpP : p ≠ Pt := fun z => by
      obtain ⟨ps, e⟩ := (htab.same s1).ne
      rw [← z, hp] at e
      cases e
    refine ⟨_, rfl, _, rfl, h, g, M, Hd, _, rfl, hM, s2 _ _ (s1 _ _ hh), s2 _ _ hg1, good.asg.left hjM, htab2, fun H2 e sm ht2 heM he0 hbest => ?_⟩
    have hne : ∀ {c : Addr} {xs : List V}, H1 c = some (.lst xs) → c ≠ Pt := fun {c xs} q => by
      obtain ⟨ps, e⟩ := (htab.same s1).ne
      exact ne_of q e (by intro z; cases z)
    have hl2 : H2 l = some (.lst (tabO M (chains B Hd M (B j) n).2)) := sm _ _ (hne hl1) (s2 _ _ hl1)
    have hh2 : H2 h = some (.lst (tabO M Hd)) := sm _ _ (hne (s1 _ _ hh)) (s2 _ _ (s1 _ _ hh))
    have hp2 : H2 p = some (.lst (tabO M Hd)) := sm _ _ hpP upd_same
    have hhp : h ≠ p := ne_of_none (s1 _ _ hh) hp
    have hlp : l ≠ p := ne_of_none hl1 hp
    have sT : SameT Pt H H2 := ((SameT.of s1).trans (SameT.of s2)).trans sm
    obtain ⟨pot, _, hpot⟩ := good.pot
    obtain ⟨l0, hl0c⟩ := (Bq.chains_inv (S := B j) hpot n).cha e heM
    have hin := fun z hz => ((Bq.chains_inv (S := B j) hpot n).rise hpot hl0c heM z hz).1
    have hgood := Bq.good_next good (Nat.le_of_lt hjn) heM he0 hl0c hbest
    generalize (chains B Hd M (B j) n).2 = L at hl2 hl0c
    refine while_by (fun σ H' => ∃ (c : Nat) (l' : List Nat) (fM : Lf), σ = [some (.ref b), some (.ref h), some (.int j), some (.ref t), some (.ref g), some (.ref l), some (.ref p), some (.int c)] ∧ Bq.Ch L c l' ∧ (∀ z ∈ l', z < M) ∧ Bq.shift Hd j l' fM = Bq.shift Hd j l0 Hd ∧
      H' p = some (.lst (tabO M fM)) ∧ ∀ b o, b ≠ p → H2 b = some o → H' b = some o) (fun σ _ => mu7 L σ) ⟨e, l0, Hd, rfl, hl0c, hin, rfl, hp2, fun _ _ _ q => q⟩ ?_ ?_
    · rintro σ H3 ⟨c, l', fM, rfl, hch, hlt, hsh, hp3, hk3⟩
      have hcM := hlt c hch.head
      refine ⟨_, rfl, _, rfl, l, _, _, _, rfl, rfl, SqL.of (hk3 _ _ hlp hl2), at_of (j := c) rfl (tabO_get hcM), rfl, _, rfl, ?_⟩
      cases hch with
      | one e0 =>
        refine ite2 (fun z => ?_) (fun _ => ?_)
        · rw [e0] at z
          exact absurd z (by decide)
        · refine ⟨_, rfl, _, rfl, _, rfl, p, tabO M fM, _, c, rfl, rfl, hp3, ixN_of (by rw [tabO_len]; exact hcM) rfl, _, rfl, ?_⟩
          refine k _ p (Bq.shift Hd j l0 Hd) (fun b o n1 q => ?_) (tab_but ht2 hp2 fun b o n1 q => ?_) ?_ hgood
          · have hbp : b ≠ p := ne_of_none (s1 _ _ q) hp
            rw [upd_ne hbp]
            exact hk3 _ _ hbp (sT b o n1 q)
          · rw [upd_ne n1]
            exact hk3 _ _ n1 q
          · rw [upd_same, ← hsh]
            exact congrArg (fun z => some (HO.lst z)) (tabO_set (z := some j))
      | @cons _ d l'' e0 hch2 =>
        refine ite2 (fun _ => ?_) (fun z => ?_)
        · have hdM := hlt d (List.mem_cons_of_mem _ hch2.head)
          refine ⟨_, rfl, _, rfl, _, rfl, l, _, _, _, rfl, rfl, SqL.of (hk3 _ _ hlp hl2), at_of (j := c) rfl (tabO_get hcM), h, _, _, _, rfl, congrArg ov e0, SqL.of (hk3 _ _ hhp hh2), at_of (j := d) rfl (tabO_get hdM),
            _, rfl, _, rfl, p, tabO M fM, _, c, rfl, rfl, hp3, ixN_of (by rw [tabO_len]; exact hcM) rfl, _, rfl, _, rfl, l, _, _, _, rfl, rfl, SqL.of (by rw [upd_ne hlp]; exact hk3 _ _ hlp hl2), at_of (j := c) rfl (tabO_get hcM), ?_⟩
          have hl'' : ∃ r, l'' = d :: r := by
            cases hch2 with
            | one _ => exact ⟨_, rfl⟩
            | cons _ _ => exact ⟨_, rfl⟩
          refine ⟨⟨d, l'', Bq.put fM c (Hd d), ?_, hch2, fun z hz => hlt z (List.mem_cons_of_mem _ hz), ?_, ?_, fun b o n1 q => ?_⟩, ?_⟩
          · show [some (V.ref b), some (.ref h), some (.int j), some (.ref t), some (.ref g), some (.ref l), some (.ref p), some (ov (L c))] = _
            rw [e0]
            rfl
          · obtain ⟨r', rfl⟩ := hl''
            exact hsh
          · rw [upd_same]
            exact congrArg (fun z => some (HO.lst z)) (tabO_set (z := Hd d))
          · rw [upd_ne n1]
            exact hk3 _ _ n1 q
          · show mu7 L [some (V.ref b), some (.ref h), some (.int j), some (.ref t), some (.ref g), some (.ref l), some (.ref p), some (ov (L c))] < mu7 L [some (V.ref b), some (.ref h), some (.int j), some (.ref t), some (.ref g), some (.ref l), some (.ref p), some (.int c)]
            rw [e0]
            show chLen L ((d : Int).toNat) < chLen L ((c : Int).toNat)
            rw [Int.toNat_natCast, Int.toNat_natCast, chLen_eq hch2, chLen_eq (.cons e0 hch2)]
            exact Nat.lt_succ_self _
        · rw [e0] at z
          exact absurd rfl z
    · rintro σ H3 Q1 Q2 hq ⟨v, h1, v', h2, p, xs, i, u, e1, e2, sq, at_, e3, k, e4, q⟩
      exact ⟨v, h1, v', h2, p, xs, i, u, e1, e2, sq, at_, e3, k, e4, hq _ _ q⟩
theorem scH : FnScope ["bids", "things", "holders", "newcomer", "thing"] ["bids", "things"] (defScope sHold) := ⟨rfl, rfl, rfl, by decide +kernel, rfl, by decide +kernel, by decide +kernel⟩
theorem ok_hold {f fn Pt : Addr} {fd nd : FuncData} (F : Fun K "best_holders" "best_holders" sHold f fd) (T : Txt mg) (GN : FnOk P w K mg base CX0 3 fn nd ["bids", "holders", "newcomer"] (spNew Pt)) (bN : Binds K nd ["bids", "holders", "newcomer"] []) (kN : PySem.W.keepIn K (.ref fn) = true) (mN : mg "with_newcomer" = some (.ref fn)) :
    FnOk P w K mg base CX0 4 f fd ["bids", "things"] (spHold Pt) := by
  refine F.ok scH (fun vs H Q E h => ?_) (fun cdv A outer s H vs Q E hr h => ?_)
  · obtain ⟨b, z, n, M, B, rfl, _⟩ := h
    rfl
  · obtain ⟨b, z, n, M, B, rfl, rfl, hn, hM, hnM, hB, htab, k⟩ := h
    refine ⟨_, pss_cons (ps_setLc (i := 2) (own := [("thing", 4)]) rfl scH.nd rfl rfl (sw_true rfl rfl rfl rfl) (pi_range1 rfl T.range (pa_cons (pv 1) pa_nil)) (blkOk_by (by show blkC ["bids", "things", "holders", "newcomer", "thing"] (defScope sHold) _ _ = true; decide +kernel))
        (fun _ _ _ _ _ => pg_name (i := 4) scH.nd rfl (Or.inl rfl)) (fun _ _ _ _ _ => pts_nil) (fun _ _ _ _ _ => pe_non))
      (pss_cons (ps_for PassesOwn.never rfl (pi_range1 rfl T.range (pa_cons (pe_callB call_len_seq (by rfl) T.len PySem.boot_len (pa_cons (pv 0) pa_nil)) pa_nil)) (pg_name (i := 3) scH.nd rfl (Or.inl rfl))
        (pss_one (ps_set (i := 2) scH.nd rfl (Or.inl rfl) (pe_call GN hr rfl mN kN bN .nil pass0 (pa_cons (pv 0) (pa_cons (pv 2) (pa_cons (pv 3) pa_nil)))))))
      (pss_one (ps_ret (pv 2)))), ?_⟩
    refine ⟨_, rfl, (M : Int), rfl, by omega, by omega, fun D hD => lc_range (lo := 0) (n := M) (fun i H' => Same H H' ∧ H' D = some (.lst (tabO i fun _ => none))) ⟨same_upd hD, upd_same⟩ ?_ ?_⟩
    · rintro i H' hi ⟨hs, hD'⟩
      refine ⟨rfl, ?_⟩
      unfold tYes
      dsimp only
      rw [if_pos rfl]
      refine ⟨_, hD', ?_, same_updT hs hD, ?_⟩
      · rw [tabO_len]
        exact small64 (by omega)
      · rw [upd_same, tabO_snoc]
        rfl
    · rintro H1 ⟨s1, hD1⟩
      obtain ⟨r, hb, hr2⟩ := id hB
      have hbl : ((List.range n).map fun i => V.ref (r i)).length = n := by rw [List.length_map, List.length_range]
      refine ⟨_, rfl, b, _, rfl, .inl (.of (s1 _ _ hb)), (((List.range n).map fun i => V.ref (r i)).length : Int), rfl, by omega, by omega, for_range (lo := 0) (n := ((List.range n).map fun i => V.ref (r i)).length)
        (fun i σ H' => SameT Pt H H' ∧ TabOk Pt lamP lamQ H' ∧ ∃ (p : Addr) (N : Lf) (v3 v4 : Option V), H' p = some (.lst (tabO M N)) ∧ Bq.Good B M i N ∧ σ = [some (.ref b), some (.int M), some (.ref p), v3, v4])
        ⟨SameT.of s1, htab.same s1, D, _, none, none, hD1, Bq.good_start B M, rfl⟩ ?_ ?_⟩
      · rintro i σ H2 hi ⟨s2, ht2, p, N, v3, v4, hp, hg, rfl⟩
        rw [hbl] at hi
        refine ⟨_, rfl, _, rfl, _, rfl, b, p, _, n, M, i, B, N, rfl, by omega, hi, hn, hM, by omega, hB.sameT s2 htab.ne, hp, hg, ht2, fun H3 p' N' s3 ht3 hp' hg' => ?_⟩
        exact ⟨s2.trans s3, ht3, p', N', _, _, hp', hg', rfl⟩
      · rintro σ H2 ⟨s2, ht2, p, N, v3, v4, hp, hg, rfl⟩
        rw [hbl] at hg
        exact ⟨_, rfl, k H2 p N s2 ht2 hp hg⟩
theorem scL : FnScope ["n", "m", "v", "spares", "bids", "holders", "chains", "spare", "bidder", "thing"] ["n", "m", "v"] (defScope sLeast) := ⟨rfl, rfl, rfl, by decide +kernel, rfl, by decide +kernel, by decide +kernel⟩
theorem ok_least {f fh fc Pt : Addr} {fd hd cd : FuncData} (F : Fun K "least_prices" "least_prices" sLeast f fd) (T : Txt mg) (GH : FnOk P w K mg base CX0 4 fh hd ["bids", "things"] (spHold Pt)) (bH : Binds K hd ["bids", "things"] []) (kH : PySem.W.keepIn K (.ref fh) = true) (mH : mg "best_holders" = some (.ref fh))
    (GC : FnOk P w K mg base CX0 2 fc cd ["bids", "holders", "starts"] spCh) (bC : Binds K cd ["bids", "holders", "starts"] []) (kC : PySem.W.keepIn K (.ref fc) = true) (mC : mg "best_chains" = some (.ref fc)) :
    FnOk P w K mg base CX0 5 f fd ["n", "m", "v"] (spLeast K Pt) := by
  refine F.ok scL (fun vs H Q E h => ?_) (fun cdv A outer s H vs Q E hr h => ?_)
  · obtain ⟨x, y, c, n, m, v, rfl, _⟩ := h
    rfl
  · obtain ⟨x, y, c, n, m, v, rfl, rfl, rfl, hn, hm, sq, len, htab, k⟩ := h
    have hr2 : Room 2 _ := hr.mono (by decide)
    refine ⟨_, pss_cons (ps_set (i := 3) scL.nd rfl (Or.inr rfl) (pe_lc (own := [("spare", 7)]) rfl scL.nd (pi_range1 rfl T.range (pa_cons (pv 0) pa_nil)) (blkOk_by (by show blkC ["n", "m", "v", "spares", "bids", "holders", "chains", "spare", "bidder", "thing"] (defScope sLeast) _ _ = true; decide +kernel))
        (fun _ _ _ _ _ => pg_name (i := 7) scL.nd rfl (Or.inl rfl)) (fun _ _ _ _ _ => pts_nil) (fun _ _ _ _ _ => pe_int)))
      (pss_cons (ps_setLc (i := 4) (own := [("bidder", 8)]) rfl scL.nd rfl rfl (sw_true rfl rfl rfl rfl) (pi_range1 rfl T.range (pa_cons (pv 0) pa_nil)) (blkOk_by (by show blkC ["n", "m", "v", "spares", "bids", "holders", "chains", "spare", "bidder", "thing"] (defScope sLeast) _ _ = true; decide +kernel))
        (fun _ _ _ _ _ => pg_name (i := 8) scL.nd rfl (Or.inl rfl)) (fun _ _ _ _ _ => pts_nil)
        (fun _ _ _ _ _ => pe_op op_cat (pe_slice (r := rSlL K) sl_list (pv 2) (po_some (pe_op op_mul (pv 8) (pv 1))) (po_some (pe_op op_add (pe_op op_mul (pv 8) (pv 1)) (pv 1)))) (pv 3)))
      (pss_cons (ps_set (i := 5) scL.nd rfl (Or.inl rfl) (pe_call GH hr rfl mH kH bH .nil pass0 (pa_cons (pv 4) (pa_cons (pe_op op_add (pv 1) (pv 0)) pa_nil))))
      (pss_cons (ps_set (i := 6) scL.nd rfl (Or.inl rfl) (pe_call GC hr2 rfl mC kC bC .nil pass0 (pa_cons (pv 4) (pa_cons (pv 5) (pa_cons
        (pe_lc (own := [("thing", 9)]) rfl scL.nd (pi_list (pv 5)) (blkOk_by (by show blkC ["n", "m", "v", "spares", "bids", "holders", "chains", "spare", "bidder", "thing"] (defScope sLeast) _ _ = true; decide +kernel))
          (fun _ _ _ _ _ => pg_name (i := 9) scL.nd rfl (Or.inl rfl)) (fun _ _ _ _ _ => pts_nil) (fun _ _ _ _ _ => pe_int)) pa_nil)))))
      (pss_one (ps_ret (pe_slice sl_list (pe_ix ix_tup (pv 6) pe_int (fun _ _ => rfl)) po_none (po_some (pv 1)))))))), ?_⟩
    refine ⟨_, rfl, (n : Int), rfl, by omega, by omega, fun D hD => lc_range (lo := 0) (n := n) (fun i H' => Same H H' ∧ H' D = some (.lst (tabI i fun _ => 0))) ⟨same_upd hD, upd_same⟩ ?_ ?_⟩
    · rintro i H' hi ⟨hs, hD'⟩
      refine ⟨rfl, ?_⟩
      unfold tYes
      dsimp only
      rw [if_pos rfl]
      refine ⟨_, hD', ?_, same_updT hs hD, ?_⟩
      · rw [tabI_len]
        exact small64 (by omega)
      · rw [upd_same, tabI_snoc]
    · rintro H1 ⟨s1, hD1⟩
      refine ⟨_, rfl, (n : Int), rfl, by omega, by omega, fun E hE => lc_range (lo := 0) (n := n) (fun i H' => Same H1 H' ∧ ∃ r : Nat → Addr, H' E = some (.lst ((List.range i).map fun k => V.ref (r k))) ∧ ∀ k, k < i → r k ≠ E ∧ H' (r k) = some (.lst (tabI (m + n) (bidF m v k)))) ⟨same_upd hE, fun _ => 0, upd_same, fun k hk => absurd hk (Nat.not_lt_zero _)⟩ ?_ ?_⟩
      · rintro i H' hi ⟨hs, r, hE', hr'⟩
        refine ⟨rfl, ?_⟩
        unfold tYes
        dsimp only
        rw [if_pos rfl]
        have e1 : (0 + (i : Int)) * (m : Int) = ((i * m : Nat) : Int) := by rw [Int.zero_add, Int.natCast_mul]
        have e2 : ((i * m : Nat) : Int) + (m : Int) = ((i * m + m : Nat) : Int) := by omega
        have h1 : i * m + m ≤ v.length := by
          rw [len, ← Nat.succ_mul]
          exact Nat.mul_le_mul_right _ hi
        refine ⟨_, rfl, _, rfl, _, rfl, _, _, rfl, rfl, .inl ⟨by omega, by omega⟩, _, rfl, _, rfl, _, rfl, _, _, rfl, rfl, .inl ⟨by omega, by omega⟩, _, rfl, _, _, rfl, rfl, _, rfl, c, _, rfl, (s1.trans hs).seq sq, fun p1 hp1 => ?_⟩
        rw [e1, e2, cut_row h1]
        refine ⟨_, rfl, p1, D, _, _, rfl, rfl, upd_same, same_upd hp1 _ _ (hs _ _ hD1), ?_, fun p2 hp2 => ?_⟩
        · rw [tabI_len, tabI_len]
          exact Nat.le_of_lt (small64 (by omega))
        · rw [tabI_app]
          have hp2' : H' p2 = none := by
            have : p2 ≠ p1 := fun z => by
              rw [z, upd_same] at hp2
              cases hp2
            rw [upd_ne this] at hp2
            exact hp2
          have n1 : ∀ {b : Addr} {o : HO}, H' b = some o → b ≠ p1 := fun q => ne_of_none q hp1
          have n2 : ∀ {b : Addr} {o : HO}, H' b = some o → b ≠ p2 := fun q => ne_of_none q hp2'
          refine ⟨_, by rw [upd_ne (n2 hE'), upd_ne (n1 hE')]; exact hE', ?_, ?_, Bq.put r i p2, ?_, ?_⟩
          · rw [List.length_map, List.length_range]
            exact small64 (by omega)
          · intro b o q
            have q' := hs b o q
            rw [upd_ne (ne_of_none q hE), upd_ne (n2 q'), upd_ne (n1 q')]
            exact q'
          · rw [upd_same, List.range_succ, List.map_append]
            refine congrArg (fun z => some (HO.lst z)) ?_
            refine congr (congrArg _ (List.map_congr_left fun k hk => ?_)) ?_
            · rw [Bq.put_ne _ _ (Nat.ne_of_lt (List.mem_range.mp hk))]
            · show [V.ref p2] = [V.ref (Bq.put r i p2 i)]
              rw [Bq.put_same]
          · intro k hk
            by_cases z : k = i
            · subst z
              rw [Bq.put_same]
              refine ⟨(n2 hE').symm, ?_⟩
              rw [upd_ne (n2 hE').symm, upd_same]
            · rw [Bq.put_ne _ _ z]
              obtain ⟨g1, g2⟩ := hr' k (by omega)
              refine ⟨g1, ?_⟩
              rw [upd_ne g1, upd_ne (n2 g2), upd_ne (n1 g2)]
              exact g2
      · rintro H2 ⟨s2, r, hE2, hr'⟩
        have hB : BidsAt H2 E n (m + n) (bidF m v) := ⟨r, hE2, fun i hi => (hr' i hi).2⟩
        have htab2 := htab.same (s1.trans s2)
        refine ⟨_, rfl, _, rfl, _, rfl, _, _, rfl, rfl, E, _, n, m + n, bidF m v, rfl, by omega, by omega, by omega, by omega, hB, htab2, fun H3 p N s3 ht3 hp hg => ?_⟩
        have hB3 := hB.sameT s3 htab2.ne
        have hol := tabO_len (m + n) N
        refine ⟨_, rfl, _, rfl, _, rfl, p, rfl, ⟨_, SqL.of hp⟩, fun G hG => lc_list (xs := tabO (m + n) N) (fun i H' => Same H3 H' ∧ H' G = some (.lst (tabI i fun _ => 0))) ⟨same_upd hG, upd_same⟩ (fun i H' _ q => SqL.of (q.1 _ _ hp)) ?_ ?_⟩
        · rintro i x H' hx ⟨hs, hG'⟩
          refine ⟨rfl, ?_⟩
          unfold tYes
          dsimp only
          rw [if_pos rfl]
          have hi : i < m + n := by
            have := (List.getElem?_eq_some_iff.mp hx).1
            rw [tabO_len] at this
            exact this
          refine ⟨_, hG', ?_, same_updT hs hG, ?_⟩
          · rw [tabI_len]
            exact small64 (by omega)
          · rw [upd_same, tabI_snoc]
        · rintro H4 ⟨s4, hG4⟩
          rw [hol] at hG4
          refine ⟨E, p, G, n, m + n, bidF m v, N, fun _ => 0, rfl, by omega, by omega, hB3.same s4, s4 _ _ hp, hG4, hg.asg.lt, fun H5 t g l s5 hg0 hl0 hgl ht5 hg5 hl5 => ?_⟩
          refine ⟨_, rfl, t, _, _, _, rfl, rfl, SqT.of ht5, at_of (j := 0) rfl rfl, _, rfl, _, rfl, g, _, rfl, SqL.of hg5, fun q hq => ?_⟩
          rw [cut_front (by omega)]
          have s6 : Same H3 (upd H5 q (.lst (tabI m (chains (bidF m v) N (m + n) (fun _ => 0) n).1))) := (s4.trans s5).trans (same_upd hq)
          exact k _ q N (((SameT.of (s1.trans s2)).trans s3).trans (SameT.of s6)) (ht3.same s6) hg upd_same
theorem scF : FnScope ["n", "m", "most_bidders", "most_things"] ["n", "m", "most_bidders", "most_things"] (defScope sFit) := ⟨rfl, rfl, rfl, by decide +kernel, rfl, by decide +kernel, by decide +kernel⟩
theorem ok_fit {f : Addr} {fd : FuncData} (F : Fun K "sizes_fit" "sizes_fit" sFit f fd) : FnOk P w K mg base CX0 1 f fd ["n", "m", "most_bidders", "most_things"] spFit := by
  refine F.ok scF (fun vs H Q E h => ?_) (fun cdv A outer s H vs Q E hr h => ?_)
  · obtain ⟨x, y, rfl, _⟩ := h
    rfl
  · obtain ⟨x, y, rfl, k⟩ := h
    refine ⟨_, pss_one (ps_ret (pe_and (pe_cmpR op_le pe_int (pv 0) (nomark _)) (pe_and (pe_cmpR op_le (pv 0) (pv 2) (nomark _)) (pe_and (pe_cmpR op_le pe_int (pv 1) (nomark _)) (pe_one (pe_cmpR op_le (pv 1) (pv 3) (nomark _))))))), ?_⟩
    unfold fits at k
    refine ⟨_, rfl, _, _, rfl, rfl, _, rfl, ?_⟩
    refine ite2 (fun h1 => ?_) (fun h1 => ?_)
    · refine ⟨_, rfl, _, rfl, _, _, rfl, rfl, _, rfl, ?_⟩
      refine ite2 (fun h2 => ?_) (fun h2 => ?_)
      · refine ⟨_, rfl, _, _, rfl, rfl, _, rfl, ?_⟩
        refine ite2 (fun h3 => ?_) (fun h3 => ?_)
        · refine ⟨_, rfl, _, rfl, _, _, rfl, rfl, ?_⟩
          rw [h1, h2, h3] at k
          exact k
        · rw [h1, h2, Bool.eq_false_iff.mpr h3] at k
          exact k
      · rw [h1, Bool.eq_false_iff.mpr h2] at k
        exact k
    · rw [Bool.eq_false_iff.mpr h1] at k
      exact k
theorem scP : FnScope ["n", "m", "v"] ["n", "m", "v"] (defScope sPrices) := ⟨rfl, rfl, rfl, by decide +kernel, rfl, by decide +kernel, by decide +kernel⟩
theorem ok_prices {f a b Pt : Addr} {fd ad bd : FuncData} {t16 : Tok} (F : Fun K "prices" "prices" sPrices f fd) (m16 : mg "MOST_ALONE" = some (.int 16 t16)) (GF : FnOk P w K mg base CX0 1 a ad ["n", "m", "most_bidders", "most_things"] spFit) (bF : Binds K ad ["n", "m", "most_bidders", "most_things"] [])
    (kF : PySem.W.keepIn K (.ref a) = true) (mF : mg "sizes_fit" = some (.ref a)) (GL : FnOk P w K mg base CX0 5 b bd ["n", "m", "v"] (spLeast K Pt)) (bL : Binds K bd ["n", "m", "v"] []) (kL : PySem.W.keepIn K (.ref b) = true) (mL : mg "least_prices" = some (.ref b)) :
    FnOk P w K mg base CX0 6 f fd ["n", "m", "v"] (spPrices K Pt) := by
  refine F.ok scP (fun vs H Q E h => ?_) (fun cdv A outer s H vs Q E hr h => ?_)
  · obtain ⟨x, y, c, v, rfl, _⟩ := h
    rfl
  · obtain ⟨x, y, c, v, rfl, sq, hlen, htab, kN, kY⟩ := h
    have hr1 : Room 1 _ := hr.mono (by decide)
    refine ⟨_, pss_cons (ps_if (pt_not (pt_val (pe_call GF hr1 rfl mF kF bF .nil pass0 (pa_cons (pv 0) (pa_cons (pv 1) (pa_cons (pe_glob (v := .int 16) rfl m16 ⟨_, rfl⟩) (pa_cons (pe_glob (v := .int 16) rfl m16 ⟨_, rfl⟩) pa_nil))))))) (pss_one (ps_ret (pe_lst (pa_cons (pe_un un_neg pe_int) pa_nil)))) pss_nil)
      (pss_one (ps_ret (pe_op op_cat (pe_lst (pa_cons pe_int pa_nil)) (pe_call GL hr rfl mL kL bL .nil pass0 (pa_cons (pv 0) (pa_cons (pv 1) (pa_cons (pv 2) pa_nil))))))), ?_⟩
    refine ⟨_, rfl, _, rfl, x, y, rfl, _, rfl, ?_⟩
    refine ite2 (fun h1 => ?_) (fun h1 => ?_)
    · have h2 : fits x y = false := by
        cases z : fits x y with
        | false => rfl
        | true => rw [z] at h1; exact absurd h1 (by decide)
      exact ⟨_, rfl, (by show 1 ≤ sizeLine; decide), fun p hp => kN h2 _ p upd_same⟩
    · have h2 : fits x y = true := by
        cases z : fits x y with
        | true => rfl
        | false => rw [z] at h1; exact absurd rfl h1
      have hf := fits_iff.mp h2
      refine ⟨(by show 1 ≤ sizeLine; decide), fun p hp => ?_⟩
      have s1 : Same H (upd H p (.lst [.int 0])) := same_upd hp
      refine ⟨_, rfl, _, rfl, _, rfl, x, y, c, x.toNat, y.toNat, v, rfl, by omega, by omega, by omega, by omega, s1.seq sq, hlen h2, htab.same s1, fun H2 q N s2 ht2 hg hq => ?_⟩
      have hpP : p ≠ Pt := fun z => by
        obtain ⟨ps, e⟩ := htab.ne
        rw [← z, hp] at e
        cases e
      refine ⟨p, q, _, _, rfl, rfl, s2 _ _ hpP upd_same, hq, ?_, fun p3 hp3 => kY h2 _ p3 N hg upd_same⟩
      rw [tabI_len]
      show 1 + y.toNat ≤ sizeLine
      exact Nat.le_of_lt (small64 (by omega))
end
end Be

end
section
set_option Elab.async false
set_option linter.all false
set_option maxRecDepth 100000
set_option maxHeartbeats 2000000
set_option autoImplicit false
namespace Be
open PySem PySem.Spec PyProof.Rows L2
open PySem.W (Codec)
/-- a def of the module, as it stands behind the top -/
structure At (K : PySem.W.Frag) (x : Str) (st : Stmt) (f : Addr) : Prop where
  nm : PySem.W.nsIn K mainGlobals x = some (some (.ref f))
  fn : ∃ fd, Fun K x x st f fd
theorem at_mk {K : PySem.W.Frag} {x : Str} {st : Stmt} {f : Addr} {oc : Value} {od an : Option Addr} {osl : Array (Option Value)} {kV doc pm cdv ct : Value} (a : PySem.W.nsIn K mainGlobals x = some (some (.ref f)))
    (l : K.lookup f = some ⟨oc, od, .func (PySem.W.fnOf x x (defArgs st) (defBody st) (defScope st) .none kV doc pm an cdv ct), osl⟩) (c : PySem.W.codeIn K cdv x = true) (k : PySem.W.keepIn K (.ref f) = true) : At K x st f :=
  ⟨a, _, fun_mk l c k⟩
theorem all_mk {P : Program} {w : World} {K : PySem.W.Frag} {h : Heap} {mg : Str → Option Value} {fa fP fF fL fH fN fU fC fM : Addr} {t16 : Tok} (X : K.In h) (G : h.Ns mainGlobals mg) (hfa : mg "prices" = some (.ref fa))
    (aP : At K "prices" sPrices fP) (aF : At K "sizes_fit" sFit fF) (aL : At K "least_prices" sLeast fL) (aH : At K "best_holders" sHold fH) (aN : At K "with_newcomer" sNew fN) (aU : At K "best_unheld" sUn fU) (aC : At K "best_chains" sCh fC) (aM : At K "move_on" sMove fM)
    (z1 : PySem.W.nsIn K mainGlobals "range" = some none) (z2 : PySem.W.nsIn K mainGlobals "max" = some none) (z3 : PySem.W.nsIn K mainGlobals "len" = some none) (z4 : PySem.W.nsIn K mainGlobals "list" = some none)
    (g16 : PySem.W.nsIn K mainGlobals "MOST_ALONE" = some (some (.int 16 t16))) :
    ∃ fd : FuncData, (∀ (s : Shared) (us : List Value), us.length = (["n", "m", "v"] : List Str).length → BindsTo s fd ⟨us, []⟩ ((["n", "m", "v"] : List Str).zip us)) ∧
      ∀ (Pt : Addr) (base : Heap), K.In base → base.Ns mainGlobals mg → Bl.TabBase base mg "best_unheld" Pt → FnOk P w K mg base CX0 6 fa fd ["n", "m", "v"] (spPrices K Pt) := by
  have e := hfa.symm.trans (PySem.W.mg_of X G aP.nm)
  cases e
  have T : Txt mg := ⟨PySem.W.mg_none_of X G z1, PySem.W.mg_none_of X G z2, PySem.W.mg_none_of X G z3, PySem.W.mg_none_of X G z4⟩
  obtain ⟨fdP, FP⟩ := aP.fn
  obtain ⟨fdF, FF⟩ := aF.fn
  obtain ⟨fdL, FL⟩ := aL.fn
  obtain ⟨fdH, FH⟩ := aH.fn
  obtain ⟨fdN, FN⟩ := aN.fn
  obtain ⟨fdU, FU⟩ := aU.fn
  obtain ⟨fdC, FC⟩ := aC.fn
  obtain ⟨fdM, FM⟩ := aM.fn
  have bF := FF.binds (ps := ["n", "m", "most_bidders", "most_things"]) fun _ _ _ _ _ _ us hl => match us, hl with | [_, _, _, _], _ => rfl
  have bL := FL.binds (ps := ["n", "m", "v"]) fun _ _ _ _ _ _ us hl => match us, hl with | [_, _, _], _ => rfl
  have bH := FH.binds (ps := ["bids", "things"]) fun _ _ _ _ _ _ us hl => match us, hl with | [_, _], _ => rfl
  have bN := FN.binds (ps := ["bids", "holders", "newcomer"]) fun _ _ _ _ _ _ us hl => match us, hl with | [_, _, _], _ => rfl
  have bU := FU.binds (ps := ["holders", "gains"]) fun _ _ _ _ _ _ us hl => match us, hl with | [_, _], _ => rfl
  have bC := FC.binds (ps := ["bids", "holders", "starts"]) fun _ _ _ _ _ _ us hl => match us, hl with | [_, _, _], _ => rfl
  have bM := FM.binds (ps := ["wishes", "thing", "gains", "left"]) fun _ _ _ _ _ _ us hl => match us, hl with | [_, _, _, _], _ => rfl
  refine ⟨fdP, ?_, fun Pt base KB GB TB => ?_⟩
  · obtain ⟨oc, od, kV, doc, pm, an, cdv, ct, osl, rfl, _, _⟩ := FP.ex
    exact fun s us hu => match us, hu with | [_, _, _], _ => .of_eq rfl
  · have GM : FnOk P w K mg base CX0 1 fM fdM ["wishes", "thing", "gains", "left"] spMove := ok_move FM T
    have GC : FnOk P w K mg base CX0 2 fC fdC ["bids", "holders", "starts"] spCh := ok_ch FC T GM bM FM.kp (PySem.W.mg_of X G aM.nm)
    have GU : FnOk P w K mg base CX0 2 fU fdU ["holders", "gains"] (spUn Pt) := ok_un FU T (PySem.W.mg_of X G aU.nm) KB TB
    have GN : FnOk P w K mg base CX0 3 fN fdN ["bids", "holders", "newcomer"] (spNew Pt) := ok_new FN T GC bC FC.kp (PySem.W.mg_of X G aC.nm) GU bU FU.kp (PySem.W.mg_of X G aU.nm)
    have GH : FnOk P w K mg base CX0 4 fH fdH ["bids", "things"] (spHold Pt) := ok_hold FH T GN bN FN.kp (PySem.W.mg_of X G aN.nm)
    have GL : FnOk P w K mg base CX0 5 fL fdL ["n", "m", "v"] (spLeast K Pt) := ok_least FL T GH bH FH.kp (PySem.W.mg_of X G aH.nm) GC bC FC.kp (PySem.W.mg_of X G aC.nm)
    have GF : FnOk P w K mg base CX0 1 fF fdF ["n", "m", "most_bidders", "most_things"] spFit := ok_fit FF
    exact ok_prices FP (PySem.W.mg_of X G g16) GF bF FF.kp (PySem.W.mg_of X G aF.nm) GL bL FL.kp (PySem.W.mg_of X G aL.nm)
theorem getD_pos {v : List Int} (h : ∀ z ∈ v, 0 ≤ z) (k : Nat) : 0 ≤ v.getD k 0 := by
  rw [List.getD_eq_getElem?_getD]
  cases e : v[k]? with
  | none => exact Int.le_refl _
  | some z => exact h z (List.mem_of_getElem? e)
theorem nats_getD (v : List Int) (k : Nat) : (Sn78Neutral.nats v).getD k 0 = (v.getD k 0).toNat := by
  unfold Sn78Neutral.nats
  rw [List.getD_eq_getElem?_getD, List.getD_eq_getElem?_getD, List.getElem?_map]
  cases v[k]? <;> rfl
/-- what is due, where nothing is refused -/
theorem due {x y : Int} {v : List Int} {N : Bq.Lf} (hf : fits x y = true) (hv : ∀ z ∈ v, 0 ≤ z ∧ z ≤ 6) (g : Bq.Good (bidF y.toNat v) (y.toNat + x.toNat) x.toNat N) :
    V.int 0 :: tabI y.toNat (Bq.chains (bidF y.toNat v) N (y.toNat + x.toNat) (fun _ => 0) x.toNat).1 = (PySn78.prices x y v).map V.int := by
  have hf := fits_iff.mp hf
  have d : Bq.Due (bidF y.toNat v) N x.toNat y.toNat := by
    refine ⟨g, by omega, by omega, fun i j _ hj => ?_, fun i s hs => ?_⟩
    · unfold bidF
      rw [if_pos hj]
      exact getD_pos (fun z hz => (hv z hz).1) _
    · unfold bidF
      rw [if_neg (by omega)]
  obtain ⟨u, um, e, hl⟩ := d.eq (g := Sn78.gives y.toNat (Sn78Neutral.nats v)) fun i j _ hj => by
    unfold bidF Sn78.gives
    rw [if_pos hj, nats_getD, Int.toNat_of_nonneg (getD_pos (fun z hz => (hv z hz).1) _)]
  rw [Bs.prices_eq hf.1 hf.2 (fun z hz => (hv z hz).2) um e hl, List.map_cons, List.map_map]
  refine congrArg (List.cons (V.int 0)) ?_
  unfold tabI
  refine List.map_congr_left fun j hj => ?_
  have h1 := d.ge j (by have := List.mem_range.mp hj; omega)
  show V.int _ = V.int (((Bq.D (bidF y.toNat v) N x.toNat y.toNat j).toNat : Nat) : Int)
  rw [Int.toNat_of_nonneg h1]
  rfl
end Be
open PySem PySem.W PyProof.Rows
set_option maxRecDepth 100000 in
set_option maxHeartbeats 0 in
theorem PySem.Challenge.cw_bidsets_s03_prices_holds : PySem.Challenge.rw_bidsets_s03_prices.Holds := by
  w_on; k_headS; (case hw => exact ⟨[.int 0, .int 0, .list []], by decide +kernel, by decide +kernel⟩)
  k_fillS
  refine Bl.walk_tab (r := PySem.Challenge.rw_bidsets_s03_prices) (k := 6) (ps := ["n", "m", "v"]) (sp := Be.spPrices) "best_unheld" (by decide +kernel) rfl rfl ⟨rfl, by decide, by decide⟩ (fun w h Y => PySem.W.kIn_of Y) (by decide +kernel) (fun w => by kernel_rfl) ?F ?S
  case F =>
    intro w mg fa h Y KX G hmg
    refine' Be.all_mk KX G hmg (Be.at_mk ?a1 ?l1 ?c1 ?k1) (Be.at_mk ?a2 ?l2 ?c2 ?k2) (Be.at_mk ?a3 ?l3 ?c3 ?k3) (Be.at_mk ?a4 ?l4 ?c4 ?k4) (Be.at_mk ?a5 ?l5 ?c5 ?k5) (Be.at_mk ?a6 ?l6 ?c6 ?k6) (Be.at_mk ?a7 ?l7 ?c7 ?k7) (Be.at_mk ?a8 ?l8 ?c8 ?k8) ?z1 ?z2 ?z3 ?z4 ?g16
    (case a1 => k_is); (case l1 => k_is); (case c1 => k_is); (case k1 => k_is)
    (case a2 => k_is); (case l2 => k_is); (case c2 => k_is); (case k2 => k_is)
    (case a3 => k_is); (case l3 => k_is); (case c3 => k_is); (case k3 => k_is)
    (case a4 => k_is); (case l4 => k_is); (case c4 => k_is); (case k4 => k_is)
    (case a5 => k_is); (case l5 => k_is); (case c5 => k_is); (case k5 => k_is)
    (case a6 => k_is); (case l6 => k_is); (case c6 => k_is); (case k6 => k_is)
    (case a7 => k_is); (case l7 => k_is); (case c7 => k_is); (case k7 => k_is)
    (case a8 => k_is); (case l8 => k_is); (case c8 => k_is); (case k8 => k_is)
    (case z1 => k_is); (case z2 => k_is); (case z3 => k_is); (case z4 => k_is); (case g16 => k_is)
  case S =>
    intro K Pt H xs a hO hP hwi hask hx
    obtain ⟨x, y, v, u⟩ := a
    have hask : PySn78.prices_asked x y v = true := hask
    obtain ⟨hv, hlen⟩ := Bs.asked_prices hask
    cases hx with
    | cons h1 h2 =>
      cases h1
      cases h2 with
      | cons h1 h2 =>
        cases h1
        cases h2 with
        | cons h1 h2 =>
          cases h2
          cases h1 with
          | lst hs ha =>
            have e := L2.ints_dw v _ ha
            subst e
            refine ⟨x, y, _, v, rfl, (Be.same_upd hP).seq hs, fun hf => (hlen (Be.fits_iff.mp hf)).2.2, .inl L2.upd_same, fun hf H' p hp => ?_, fun hf H' p N g hp => ?_⟩
            · have e2 : PySn78.prices x y v = [-2] := Bs.prices_no fun z => by
                rw [Be.fits_iff.mpr z] at hf
                cases hf
              have hp : H' p = some (.lst ((PySn78.prices x y v).map L2.V.int)) := by
                rw [e2]
                exact hp
              exact .lst (L2.SqL.of hp) (L2.dw_ints _)
            · rw [Be.due hf hv g] at hp
              exact .lst (L2.SqL.of hp) (L2.dw_ints _)
#print axioms PySem.Challenge.cw_bidsets_s03_prices_holds

end
